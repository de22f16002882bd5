import Derived.Test.YteobgfbgglfkbaaGreatA5

namespace Go.Proofs.YteobgfbgglfkbaaGreat
open Go.RowKit

/-- As long as nothing was said, Q. -/
def Zq (Q : Prop) (s : St) : Prop := s.e = 0 → Q

theorem Zq.say {Q : Prop} {wr : Bool} {e a : Int} {s : St} (he : e ≠ 0) (h : Zq Q s) : Zq Q (sayS wr e a s) := by
  unfold sayS
  split
  · exact fun q => absurd q he
  · exact h
theorem Zq.at {Q : Prop} {s : St} (h : Zq Q s) (i : Nat) : Zq Q { s with i := i } := h
theorem Zq.skip {Q : Prop} {s : St} (h : Zq Q s) (S : ByteArray) : Zq Q (s.skip S) := h
theorem Zq.zero {Q : Prop} {s : St} (h : Zq Q s) : Zq Q (zeroK s) := h
theorem Zq.self (s : St) : Zq (s.e = 0) s := fun h => h
/-- Nothing was said: not here either. -/
theorem say_none {wr : Bool} {e a : Int} {s : St} (he : e ≠ 0) (h : (sayS wr e a s).e = 0) (h0 : s.e = 0) : wr = false := by
  cases wr with
  | false => rfl
  | true => exfalso; unfold sayS at h; simp [h0] at h; exact he h
theorem Zq.sayW {wr : Bool} {e a : Int} {s : St} (he : e ≠ 0) : Zq (wr = false ∧ s.e = 0) (sayS wr e a s) := fun h => by
  have h0 : s.e = 0 := Zq.say (Q := s.e = 0) he (Zq.self s) h
  exact ⟨say_none he h h0, h0⟩

theorem letterR_Q {Q : Prop} {S : ByteArray} {lo : Int} {but : ByteArray} {s s' : St} {c : Int} (z : Zq Q s) (h : letterR S lo but s = .ok (c, s')) : Zq Q s' := by
  unfold letterR at h
  repeat' split at h
  all_goals first | cases h; exact z | cases h

theorem nameR_Q {Q : Prop} {S : ByteArray} {s s' : St} {q : ByteArray × Nat} (z : Zq Q s) (h : nameR S s = .ok (q, s')) : Zq Q s' := by
  unfold nameR at h
  simp only at h
  split at h <;> cases h
  exact z
theorem wordR_Q {Q : Prop} {S : ByteArray} {L : List ByteArray} {s s' : St} {q : ByteArray × Nat} (z : Zq Q s) (h : wordR S L s = .ok (q, s')) : Zq Q s' := by
  unfold wordR at h
  simp only at h
  split at h <;> cases h
  exact z
theorem singleR_Q {Q : Prop} {S : ByteArray} {c : Int} {s s' : St} (z : Zq Q s) (h : singleR S c s = .ok s') : Zq Q s' := by
  unfold singleR at h
  split at h <;> cases h
  exact z
theorem mustR_Q {Q : Prop} {S : ByteArray} {c : Int} {s s' : St} (z : Zq Q s) (h : mustR S c s = .ok s') : Zq Q s' := by
  unfold mustR at h
  split at h <;> cases h
  exact z

theorem textF_Q {Q : Prop} {S : ByteArray} : ∀ n (s : St) x y s', Zq Q s → textF S n s x = .ok (y, s') → Zq Q s' := by
  intro n
  induction n with
  | zero => intro s x y s' _ h; cases h
  | succ n ih =>
    intro s x y s' z h
    unfold textF at h
    split at h
    · cases h; exact z
    · split at h
      · rename_i hl; exact ih _ _ _ _ (letterR_Q z hl) h
      · cases h
theorem textR_Q {Q : Prop} {S : ByteArray} {s s' : St} {q : ByteArray × Nat} (z : Zq Q s) (h : textR S s = .ok (q, s')) : Zq Q s' := by
  unfold textR at h
  simp only at h
  split at h
  · split at h
    · rename_i hf; cases h; exact textF_Q _ _ _ _ _ (z.at _) hf
    · cases h
  · cases h

theorem itemR_Q {Q : Prop} {S : ByteArray} {s s' : St} {q : Int × Int} (z : Zq Q s) (h : itemR S s = .ok (q, s')) : Zq Q s' := by
  unfold itemR at h
  split at h
  · cases h
  · rename_i h1
    split at h
    · split at h
      · cases h
      · rename_i h2; cases h; exact Zq.say (by decide) (letterR_Q ((letterR_Q z h1).at _) h2)
    · cases h; exact letterR_Q z h1
theorem classF_Q {Q : Prop} {S : ByteArray} : ∀ n (s : St) x y s', Zq Q s → classF S n s x = .ok (y, s') → Zq Q s' := by
  intro n
  induction n with
  | zero => intro s x y s' _ h; cases h
  | succ n ih =>
    intro s x y s' z h
    unfold classF at h
    split at h
    · cases h
    · rename_i h1
      split at h
      · have z1 := itemR_Q z h1; cases h; exact z1
      · exact ih _ _ _ _ (itemR_Q z h1) h
theorem classR_Q {Q : Prop} {S : ByteArray} {s s' : St} {q : List (Int × Int)} (z : Zq Q s) (h : classR S s = .ok (q, s')) : Zq Q s' := by
  unfold classR at h
  split at h
  · exact classF_Q _ _ _ _ _ (z.at _) h
  · cases h
theorem timesR_Q {Q : Prop} {S : ByteArray} {L : Lang} {s : St} (z : Zq Q s) : Zq Q (timesR S L s).2 := by
  unfold timesR
  repeat' split
  all_goals exact z

theorem more_Q {Q : Prop} {s : St} (z : Zq Q s) : Zq Q (sayS (decide (12 < s.k + 1)) 3 s.i { s with k := s.k + 1 }) := Zq.say (by decide) z

theorem baseR_Q {Q : Prop} {S : ByteArray} {d : Nat} {f : St → Except Nat (Lang × St)} (hf : ∀ s L s', Zq Q s → f s = .ok (L, s') → Zq Q s') {s s' : St} {L : Lang} (z : Zq Q s) (h : baseR f S d s = .ok (L, s')) : Zq Q s' := by
  unfold baseR at h
  have z1 := more_Q z
  revert z1 h
  generalize sayS (decide (12 < s.k + 1)) 3 s.i { s with k := s.k + 1 } = s1
  intro h z1
  simp only at h
  split at h
  · cases h; exact z1
  · split at h
    · split at h
      · rename_i h1; cases h; exact classR_Q z1 h1
      · cases h
    · split at h
      · split at h
        · cases h
        · rename_i h1
          have z3 := hf _ _ _ (Zq.at (Zq.say (wr := decide ((4 : Int) ≤ (d : Int))) (a := s.i) (e := 3) (by decide) z1) _) h1
          split at h <;> cases h
          exact z3
      · split at h
        · rename_i h1; cases h; exact letterR_Q z1 h1
        · cases h
theorem rowF_Q {Q : Prop} {S : ByteArray} {f : St → Except Nat (Lang × St)} (hf : ∀ s L s', Zq Q s → f s = .ok (L, s') → Zq Q s') : ∀ n (s : St) x y s', Zq Q s → rowF f S n s x = .ok (y, s') → Zq Q s' := by
  intro n
  induction n with
  | zero => intro s x y s' _ h; cases h
  | succ n ih =>
    intro s x y s' z h
    unfold rowF at h
    split at h
    · cases h; exact z
    · split at h
      · cases h
      · rename_i h1; exact ih _ _ _ _ (timesR_Q (hf _ _ _ z h1)) h
theorem altF_Q {Q : Prop} {S : ByteArray} {f : St → Except Nat (Lang × St)} (hf : ∀ s L s', Zq Q s → f s = .ok (L, s') → Zq Q s') : ∀ n (s : St) x y s', Zq Q s → altF f S n s x = .ok (y, s') → Zq Q s' := by
  intro n
  induction n with
  | zero => intro s x y s' _ h; cases h
  | succ n ih =>
    intro s x y s' z h
    unfold altF at h
    split at h
    · cases h
    · rename_i h1
      split at h
      · exact ih _ _ _ _ ((hf _ _ _ z h1).at _) h
      · cases h; exact hf _ _ _ z h1
theorem eitherR_Q {Q : Prop} {S : ByteArray} : ∀ n d (s : St) L s', Zq Q s → eitherR S n d s = .ok (L, s') → Zq Q s' := by
  intro n
  induction n with
  | zero => intro d s L s' _ h; cases h
  | succ n ih =>
    intro d s L s' z h
    unfold eitherR at h
    exact altF_Q (fun s L s' z h => rowF_Q (fun s L s' z h => baseR_Q (ih (d + 1)) z h) _ _ _ _ _ z h) _ _ _ _ _ z h
theorem exprR_Q {Q : Prop} {S : ByteArray} {s s' : St} {L : Lang} (z : Zq Q s) (h : exprR S s = .ok (L, s')) : Zq Q s' := eitherR_Q _ _ _ _ _ z.zero h

theorem partR_Q {Q : Prop} {S : ByteArray} {s s' : St} {q : Int × ByteArray} (z : Zq Q s) (h : partR S s = .ok (q, s')) : Zq Q s' := by
  unfold partR at h
  split at h
  · split at h
    · rename_i h1; cases h; exact Zq.say (by decide) (textR_Q (z.skip S) h1)
    · cases h
  · split at h
    · rename_i h1; cases h; exact wordR_Q (z.skip S) h1
    · cases h
theorem partsF_Q {Q : Prop} {S : ByteArray} : ∀ n (s : St) x y s', Zq Q s → partsF S n s x = .ok (y, s') → Zq Q s' := by
  intro n
  induction n with
  | zero => intro s x y s' _ h; cases h
  | succ n ih =>
    intro s x y s' z h
    unfold partsF at h
    split at h
    · cases h
    · rename_i h1
      have z1 := partR_Q (Zq.say (by decide) (z.skip S)) h1
      split at h
      · cases h; exact z1
      · exact ih _ _ _ _ (z1.skip S) h
theorem outR_Q {Q : Prop} {S : ByteArray} {s s' : St} {q : List (Int × ByteArray)} (z : Zq Q s) (h : outR S s = .ok (q, s')) : Zq Q s' := by
  unfold outR at h
  split at h
  · split at h
    · cases h
    · rename_i h1; cases h; exact wordR_Q (z.skip S) h1
  · exact partsF_Q _ _ _ _ _ (z.skip S) h
theorem ruleR_Q {Q : Prop} {S : ByteArray} {s s' : St} {q : List (Int × Int) × List (Int × ByteArray)} (z : Zq Q s) (h : ruleR S s = .ok (q, s')) : Zq Q s' := by
  unfold ruleR at h
  split at h
  · cases h
  · rename_i h1
    split at h
    · cases h
    · rename_i h2
      split at h
      · cases h
      · rename_i h3
        split at h
        · cases h
        · rename_i h4
          cases h
          exact singleR_Q (outR_Q (wordR_Q (classR_Q (z.skip S) h1) h2) h3) h4
theorem rulesF_Q {Q : Prop} {S : ByteArray} : ∀ n (s : St) x y s', Zq Q s → rulesF S n s x = .ok (y, s') → Zq Q s' := by
  intro n
  induction n with
  | zero => intro s x y s' _ h; cases h
  | succ n ih =>
    intro s x y s' z h
    unfold rulesF at h
    split at h
    · split at h
      · cases h
      · rename_i h1
        exact ih _ _ _ _ (ruleR_Q (Zq.say (by decide) (z.skip S)) h1) h
    · cases h; exact z
theorem swapR_Q {Q : Prop} {S : ByteArray} {s s' : St} {q : ByteArray × ByteArray} (z : Zq Q s) (h : swapR S s = .ok (q, s')) : Zq Q s' := by
  unfold swapR at h
  split at h
  · cases h
  · rename_i h1
    split at h
    · cases h
    · rename_i h2
      split at h
      · cases h
      · rename_i h3
        have z3 := textR_Q (Zq.say (by decide) (textR_Q (wordR_Q z h1) h2)) h3
        split at h
        · cases h
        · rename_i h4
          cases h
          exact singleR_Q (Zq.say (by decide) z3) h4
theorem bodyR_Q {Q : Prop} {S x : ByteArray} {s s' : St} {q : ScrubD} (z : Zq Q s) (h : bodyR S x s = .ok (q, s')) : Zq Q s' := by
  unfold bodyR at h
  split at h
  · split at h
    · cases h
    · rename_i h1
      split at h
      · cases h
      · rename_i h2
        split at h
        · cases h
        · rename_i h3
          cases h
          exact singleR_Q (rulesF_Q _ _ _ _ _ (singleR_Q (z.skip S) h1) h2) h3
  · split at h
    · cases h
    · rename_i h1; cases h; exact swapR_Q (z.skip S) h1
theorem scrubR_Q {Q : Prop} {S : ByteArray} {ns nc : List ByteArray} {a : Int} {s s' : St} {q : ScrubD} (z : Zq Q s) (h : scrubR S ns nc a s = .ok (q, s')) : Zq Q s' := by
  unfold scrubR at h
  split at h
  · cases h
  · rename_i h1
    exact bodyR_Q (Zq.say (by decide) (nameR_Q (Zq.say (by decide) z) h1)) h
theorem linksF_Q {Q : Prop} {S : ByteArray} {ns : List ByteArray} : ∀ n (s : St) x y s', Zq Q s → linksF S ns n s x = .ok (y, s') → Zq Q s' := by
  intro n
  induction n with
  | zero => intro s x y s' _ h; cases h
  | succ n ih =>
    intro s x y s' z h
    unfold linksF at h
    split at h
    · cases h
    · rename_i y p s1 h1
      have z1 : Zq Q ((sayS (decide (nameIdx ns y < 0)) 5 p (sayS (decide (3 ≤ (x.length : Int))) 3 p s1)).skip S) := (Zq.say (by decide) (Zq.say (by decide) (nameR_Q z h1))).skip S
      split at h
      · cases h; exact z1
      · exact ih _ _ _ _ z1 h
theorem chainR_Q {Q : Prop} {S : ByteArray} {ns nc : List ByteArray} {a : Int} {s s' : St} {q : ChainD} (z : Zq Q s) (h : chainR S ns nc a s = .ok (q, s')) : Zq Q s' := by
  unfold chainR at h
  split at h
  · cases h
  · rename_i h1
    split at h
    · cases h
    · rename_i h2
      split at h
      · cases h
      · rename_i h3
        split at h
        · cases h
        · rename_i h4
          cases h
          exact singleR_Q (linksF_Q _ _ _ _ _ (singleR_Q (Zq.say (by decide) (nameR_Q (Zq.say (by decide) z) h1)) h2) h3) h4
theorem knownR_Q {Q : Prop} {S : ByteArray} {nc : List ByteArray} {s s' : St} {q : Int} (z : Zq Q s) (h : knownR S nc s = .ok (q, s')) : Zq Q s' := by
  unfold knownR at h
  split at h
  · cases h
  · rename_i h1; cases h; exact Zq.say (by decide) (nameR_Q z h1)
theorem askedR_Q {Q : Prop} {S : ByteArray} {nc : List ByteArray} {cnt : Nat} {nv : Bool} {a : Int} {s s' : St} {q : AskedD} (z : Zq Q s) (h : askedR S nc cnt nv a s = .ok (q, s')) : Zq Q s' := by
  unfold askedR at h
  split at h
  · cases h
  · rename_i h1
    have z1 := knownR_Q (Zq.say (by decide) z) h1
    split at h
    · split at h
      · cases h
      · rename_i h2
        split at h
        · cases h
        · rename_i h3
          split at h
          · cases h
          · rename_i h4
            split at h
            · cases h
            · rename_i h5
              cases h
              exact singleR_Q (mustR_Q (exprR_Q (singleR_Q z1 h2) h3) h4) h5
    · split at h
      · cases h
      · rename_i h2
        split at h
        · cases h
        · rename_i h3
          cases h
          exact singleR_Q (knownR_Q z1 h2) h3
theorem thingR_Q {Q : Prop} {S x : ByteArray} {a : Int} {D : PolD} {s s' : St} {q : PolD} (z : Zq Q s) (h : thingR S x a D s = .ok (q, s')) : Zq Q s' := by
  unfold thingR at h
  split at h
  · split at h
    · cases h
    · rename_i h1; cases h; exact scrubR_Q z h1
  · split at h
    · split at h
      · cases h
      · rename_i h1; cases h; exact chainR_Q z h1
    · split at h
      · cases h
      · rename_i h1; cases h; exact askedR_Q z h1
theorem mainF_Q {Q : Prop} {S : ByteArray} : ∀ n (s : St) x y s', Zq Q s → mainF S n s x = .ok (y, s') → Zq Q s' := by
  intro n
  induction n with
  | zero => intro s x y s' _ h; cases h
  | succ n ih =>
    intro s x y s' z h
    unfold mainF at h
    split at h
    · split at h
      · cases h
      · rename_i h1
        split at h
        · cases h
        · rename_i h2
          exact ih _ _ _ _ ((thingR_Q (wordR_Q z h1) h2).skip S) h
    · cases h; exact z

end Go.Proofs.YteobgfbgglfkbaaGreat

namespace Go.Proofs.YteobgfbgglfkbaaGreat
open Go.RowKit

def OutOk (P : List (Int × ByteArray)) : Prop := P.length ≤ 3 ∧ ∀ p, p ∈ P → p.2.size ≤ 4
def ScrubOk (D : ScrubD) : Prop := (D.swap = true → 1 ≤ D.one.size ∧ D.one.size ≤ 4 ∧ D.two.size ≤ 4) ∧ (∀ r, r ∈ D.rules → OutOk r.out) ∧ D.rules.length ≤ 6
def ChainOk (n : Nat) (L : List Int) : Prop := L.length ≤ 3 ∧ ∀ i, i ∈ L → 0 ≤ i ∧ i < n
/-- What a policy keeps in which nothing was said. -/
def PolOk (D : PolD) : Prop := ((∀ q, q ∈ D.scrubs → ScrubOk q) ∧ ∀ c, c ∈ D.chains → ChainOk D.scrubs.length c.scrubs) ∧ D.chains.length ≤ 4

theorem nameIdx_lt {ns : List ByteArray} {x : ByteArray} (h : ¬ nameIdx ns x < 0) : 0 ≤ nameIdx ns x ∧ nameIdx ns x < ns.length := by
  refine ⟨by omega, ?_⟩
  unfold nameIdx at *
  split
  · rename_i i hi
    have := (List.findIdx?_eq_some_iff_getElem.1 hi).1
    omega
  · rename_i hi
    rw [hi] at h
    exact absurd (by decide) h

theorem partR_wf {S : ByteArray} {s s' : St} {k : Int} {x : ByteArray} (h : partR S s = .ok ((k, x), s')) (e : s'.e = 0) : x.size ≤ 4 := by
  unfold partR at h
  split at h
  · split at h
    · injection h with h; injection h with h1 h2; injection h1 with h3 h4
      subst h4 h2
      have := (Zq.sayW (by decide) e).1
      simp at this
      omega
    · cases h
  · split at h
    · injection h with h; injection h with h1 h2; injection h1 with h3 h4
      subst h4
      decide
    · cases h

theorem partsF_wf {S : ByteArray} : ∀ n (s : St) P P' s', partsF S n s P = .ok (P', s') → s'.e = 0 → (∀ p, p ∈ P → p.2.size ≤ 4) → OutOk P' := by
  intro n
  induction n with
  | zero => intro s P P' s' h; cases h
  | succ n ih =>
    intro s P P' s' h e hP
    unfold partsF at h
    split at h
    · cases h
    · rename_i p s1 h1
      obtain ⟨k, x⟩ := p
      have e1 : s1.e = 0 := by
        split at h
        · injection h with h; injection h with h2 h3; rw [← h3] at e; exact e
        · exact partsF_Q (Q := s1.e = 0) n (s1.skip S) _ _ _ (Zq.self s1) h e
      have q := partR_Q (Zq.sayW (wr := decide (3 ≤ (P.length : Int))) (a := (s.skip S).i) (s := s.skip S) (e := 3) (by decide)) h1 e1
      have hx := partR_wf h1 e1
      have hall : ∀ p, p ∈ P ++ [(k, x)] → p.2.size ≤ 4 := by
        intro p hp
        rcases List.mem_append.1 hp with hp | hp
        · exact hP p hp
        · simp at hp; subst hp; exact hx
      split at h
      · injection h with h; injection h with h2 h3
        subst h2
        have := q.1
        simp at this
        exact ⟨by simp; omega, hall⟩
      · exact ih _ _ _ _ h e hall

theorem outR_wf {S : ByteArray} {s s' : St} {P : List (Int × ByteArray)} (h : outR S s = .ok (P, s')) (e : s'.e = 0) : OutOk P := by
  unfold outR at h
  split at h
  · split at h
    · cases h
    · injection h with h; injection h with h1 h2; subst h1; exact ⟨by simp, by simp⟩
  · exact partsF_wf _ _ _ _ _ h e (by simp)

theorem ruleR_wf {S : ByteArray} {s s' : St} {L : List (Int × Int)} {P : List (Int × ByteArray)} (h : ruleR S s = .ok ((L, P), s')) (e : s'.e = 0) : OutOk P := by
  unfold ruleR at h
  split at h
  · cases h
  · rename_i h1
    split at h
    · cases h
    · rename_i h2
      split at h
      · cases h
      · rename_i P3 s3 h3
        split at h
        · cases h
        · rename_i h4
          injection h with h; injection h with h5 h6; injection h5 with h7 h8
          subst h8 h6
          exact outR_wf h3 (singleR_Q (Q := s3.e = 0) (Zq.self s3) h4 e)

theorem rulesF_wf {S : ByteArray} : ∀ n (s : St) R R' s', rulesF S n s R = .ok (R', s') → s'.e = 0 → (∀ r, r ∈ R → OutOk r.out) ∧ R.length ≤ 6 → (∀ r, r ∈ R' → OutOk r.out) ∧ R'.length ≤ 6 := by
  intro n
  induction n with
  | zero => intro s R R' s' h; cases h
  | succ n ih =>
    intro s R R' s' h e hR
    unfold rulesF at h
    split at h
    · split at h
      · cases h
      · rename_i L P s1 h1
        have e1 : s1.e = 0 := rulesF_Q (Q := s1.e = 0) n s1 _ _ _ (Zq.self s1) h e
        have q := (ruleR_Q (Zq.sayW (wr := decide (6 ≤ (R.length : Int))) (a := (s.skip S).i) (s := s.skip S) (e := 3) (by decide)) h1 e1).1
        simp only [decide_eq_false_iff_not] at q
        refine ih _ _ _ _ h e ⟨?_, by simp; omega⟩
        intro r hr
        rcases List.mem_append.1 hr with hr | hr
        · exact hR.1 r hr
        · simp at hr; subst hr; exact ruleR_wf h1 e1
    · injection h with h; injection h with h1 h2; subst h1; exact hR

theorem swapR_wf {S : ByteArray} {s s' : St} {x y : ByteArray} (h : swapR S s = .ok ((x, y), s')) (e : s'.e = 0) : 1 ≤ x.size ∧ x.size ≤ 4 ∧ y.size ≤ 4 := by
  unfold swapR at h
  split at h
  · cases h
  · split at h
    · cases h
    · rename_i x1 a s2 h2
      split at h
      · cases h
      · rename_i y1 c s3 h3
        split at h
        · cases h
        · rename_i s4 h4
          injection h with h; injection h with h5 h6; injection h5 with h7 h8
          subst h7 h8 h6
          have q1 := singleR_Q (Zq.sayW (wr := decide (4 < (y1.size : Int))) (a := c) (s := s3) (e := 3) (by decide)) h4 e
          have q2 := textR_Q (Zq.sayW (wr := decide (x1.size = 0 ∨ 4 < x1.size)) (a := a) (s := s2) (e := 3) (by decide)) h3 q1.2
          have a1 := q1.1
          have a2 := q2.1
          simp only [decide_eq_false_iff_not] at a1 a2
          omega

theorem bodyR_wf {S x : ByteArray} {s s' : St} {D : ScrubD} (h : bodyR S x s = .ok (D, s')) (e : s'.e = 0) : ScrubOk D := by
  unfold bodyR at h
  split at h
  · split at h
    · cases h
    · split at h
      · cases h
      · rename_i R s4 h2
        split at h
        · cases h
        · rename_i s5 h3
          injection h with h; injection h with h1 h2'
          subst h1 h2'
          exact ⟨fun q => absurd q (by simp), rulesF_wf _ _ _ _ _ h2 (singleR_Q (Q := s4.e = 0) (Zq.self s4) h3 e) ⟨by simp, by simp⟩⟩
  · split at h
    · cases h
    · rename_i a c s3 h1
      injection h with h; injection h with h2 h3
      subst h2 h3
      exact ⟨fun _ => swapR_wf h1 e, by simp, by simp⟩

theorem scrubR_wf {S : ByteArray} {ns nc : List ByteArray} {a : Int} {s s' : St} {D : ScrubD} (h : scrubR S ns nc a s = .ok (D, s')) (e : s'.e = 0) : ScrubOk D := by
  unfold scrubR at h
  split at h
  · cases h
  · exact bodyR_wf h e

theorem linksF_wf {S : ByteArray} {ns : List ByteArray} : ∀ n (s : St) L L' s', linksF S ns n s L = .ok (L', s') → s'.e = 0 → (∀ i, i ∈ L → 0 ≤ i ∧ i < ns.length) → ChainOk ns.length L' := by
  intro n
  induction n with
  | zero => intro s L L' s' h; cases h
  | succ n ih =>
    intro s L L' s' h e hL
    unfold linksF at h
    split at h
    · cases h
    · rename_i y p s1 h1
      have e1 : (sayS (decide (nameIdx ns y < 0)) 5 p (sayS (decide (3 ≤ (L.length : Int))) 3 p s1)).e = 0 := by
        split at h
        · injection h with h; injection h with h2 h3; rw [← h3] at e; exact e
        · exact linksF_Q (Q := (sayS (decide (nameIdx ns y < 0)) 5 p (sayS (decide (3 ≤ (L.length : Int))) 3 p s1)).e = 0) n _ _ _ _ ((Zq.self _).skip S) h e
      have q1 := Zq.sayW (by decide) e1
      have q2 := Zq.sayW (by decide) q1.2
      have a1 := q1.1
      have a2 := q2.1
      simp only [decide_eq_false_iff_not] at a1 a2
      have hall : ∀ i, i ∈ L ++ [nameIdx ns y] → 0 ≤ i ∧ i < ns.length := by
        intro i hi
        rcases List.mem_append.1 hi with hi | hi
        · exact hL i hi
        · simp at hi; subst hi; exact nameIdx_lt a1
      split at h
      · injection h with h; injection h with h2 h3
        subst h2
        exact ⟨by simp; omega, hall⟩
      · exact ih _ _ _ _ h e hall

theorem chainR_wf {S : ByteArray} {ns nc : List ByteArray} {a : Int} {s s' : St} {D : ChainD} (h : chainR S ns nc a s = .ok (D, s')) (e : s'.e = 0) : ChainOk ns.length D.scrubs := by
  unfold chainR at h
  split at h
  · cases h
  · split at h
    · cases h
    · split at h
      · cases h
      · rename_i L s3 h3
        split at h
        · cases h
        · rename_i s4 h4
          injection h with h; injection h with h1 h2
          subst h1 h2
          exact linksF_wf _ _ _ _ _ h3 (singleR_Q (Q := s3.e = 0) (Zq.self s3) h4 e) (by simp)

theorem chainR_few {S : ByteArray} {ns nc : List ByteArray} {a : Int} {s s' : St} {D : ChainD} (h : chainR S ns nc a s = .ok (D, s')) (e : s'.e = 0) : nc.length < 4 := by
  unfold chainR at h
  split at h
  · cases h
  · rename_i x1 a1 s1 h1
    split at h
    · cases h
    · rename_i s2 h2
      split at h
      · cases h
      · rename_i L s3 h3
        split at h
        · cases h
        · rename_i s4 h4
          injection h with h; injection h with h5 h6
          subst h6
          have e3 := singleR_Q (Q := s3.e = 0) (Zq.self s3) h4 e
          have e2 := linksF_Q (Q := s2.e = 0) _ _ _ _ _ (Zq.self s2) h3 e3
          have e1 := singleR_Q (Q := s1.e = 0) (Zq.say (by decide) (Zq.self s1)) h2 e2
          have q := (nameR_Q (Zq.sayW (wr := decide (4 ≤ (nc.length : Int))) (a := a) (s := s) (e := 3) (by decide)) h1 e1).1
          simp only [decide_eq_false_iff_not] at q
          omega

theorem ChainOk.mono {n m : Nat} {L : List Int} (h : ChainOk n L) (hm : n ≤ m) : ChainOk m L := ⟨h.1, fun i hi => by have := h.2 i hi; omega⟩

theorem thingR_wf {S x : ByteArray} {a : Int} {D D' : PolD} {s s' : St} (h : thingR S x a D s = .ok (D', s')) (e : s'.e = 0) (hD : PolOk D) : PolOk D' := by
  unfold thingR at h
  split at h
  · split at h
    · cases h
    · rename_i q s2 h1
      injection h with h; injection h with h2 h3
      subst h2 h3
      refine ⟨⟨fun r hr => ?_, fun c hc => (hD.1.2 c hc).mono (by simp)⟩, hD.2⟩
      rcases List.mem_append.1 hr with hr | hr
      · exact hD.1.1 r hr
      · simp at hr; subst hr; exact scrubR_wf h1 e
  · split at h
    · split at h
      · cases h
      · rename_i q s2 h1
        injection h with h; injection h with h2 h3
        subst h2 h3
        refine ⟨⟨hD.1.1, fun c hc => ?_⟩, by have := chainR_few h1 e; simp at this; simp; omega⟩
        rcases List.mem_append.1 hc with hc | hc
        · exact hD.1.2 c hc
        · simp at hc; subst hc; have := chainR_wf h1 e; simpa using this
    · split at h
      · cases h
      · injection h with h; injection h with h2 h3
        subst h2 h3
        exact hD

theorem mainF_wf {S : ByteArray} : ∀ n (s : St) D D' s', mainF S n s D = .ok (D', s') → s'.e = 0 → PolOk D → PolOk D' := by
  intro n
  induction n with
  | zero => intro s D D' s' h; cases h
  | succ n ih =>
    intro s D D' s' h e hD
    unfold mainF at h
    split at h
    · split at h
      · cases h
      · split at h
        · cases h
        · rename_i D1 s2 h2
          exact ih _ _ _ _ h e (thingR_wf h2 (mainF_Q (Q := s2.e = 0) n _ _ _ _ ((Zq.self s2).skip S) h e) hD)
    · injection h with h; injection h with h1 h2; subst h1; exact hD

theorem polR_wf {S : ByteArray} {D : PolD} {s : St} (hc : checkS S = (0, 0)) (h : polR S = .ok (D, s)) : PolOk D := by
  have e : s.e = 0 := by
    unfold checkS at hc
    split at hc
    · cases hc
    · rw [h] at hc
      unfold endE at hc
      simp only at hc
      split at hc
      · assumption
      · injection hc
  exact mainF_wf _ _ _ _ _ h e ⟨⟨by simp, by simp⟩, by simp⟩

end Go.Proofs.YteobgfbgglfkbaaGreat

namespace Go.Proofs.YteobgfbgglfkbaaGreat
open Go.RowKit

/-! What scrubs and chains make of texts: the document's way, and by machines. No program. -/

/-- A swap, passing by what was taken. -/
def swapGo (one two : List UInt8) : Nat → List UInt8 → List UInt8
  | _, [] => []
  | k + 1, _ :: xs => swapGo one two k xs
  | 0, x :: xs => if one.isPrefixOf (x :: xs) then two ++ swapGo one two (one.length - 1) xs else x :: swapGo one two 0 xs
def swapC (one two xs : List UInt8) : List UInt8 := swapGo one two 0 xs

theorem swapGo_drop (one two : List UInt8) : ∀ k xs, swapGo one two k xs = swapC one two (xs.drop k)
  | 0, xs => by simp [swapC]
  | k + 1, [] => by simp [swapC, swapGo]
  | k + 1, x :: xs => by simp only [swapGo, List.drop_succ_cons]; exact swapGo_drop one two k xs
theorem swapC_nil (one two : List UInt8) : swapC one two [] = [] := rfl
theorem swapC_hit {one two : List UInt8} (h : one ≠ []) (r : List UInt8) : swapC one two (one ++ r) = two ++ swapC one two r := by
  cases one with
  | nil => exact absurd rfl h
  | cons x xs =>
    have hp : (x :: xs).isPrefixOf (x :: (xs ++ r)) = true := by
      rw [List.isPrefixOf_iff_prefix]; exact ⟨r, by simp⟩
    show swapGo (x :: xs) two 0 (x :: (xs ++ r)) = _
    rw [swapGo, if_pos hp, swapGo_drop]
    simp
theorem swapC_miss {one two : List UInt8} {x : UInt8} {xs : List UInt8} (h : ¬ one <+: x :: xs) : swapC one two (x :: xs) = x :: swapC one two xs := by
  unfold swapC
  rw [swapGo, if_neg (by rw [List.isPrefixOf_iff_prefix]; exact h)]

/-- The longest end, not empty, with which one begins. -/
def begun (one : List UInt8) : List UInt8 → Nat
  | [] => 0
  | x :: xs => if (x :: xs).isPrefixOf one then xs.length + 1 else begun one xs

theorem begun_le (one : List UInt8) : ∀ s, begun one s ≤ s.length
  | [] => Nat.le_refl _
  | x :: xs => by
    unfold begun
    split
    · simp
    · have := begun_le one xs; simp; omega
theorem begun_suffix (one : List UInt8) : ∀ s, s.drop (s.length - begun one s) = one.take (begun one s)
  | [] => by simp [begun]
  | x :: xs => by
    unfold begun
    split
    · rename_i h
      rw [List.isPrefixOf_iff_prefix] at h
      obtain ⟨t, rfl⟩ := h
      simp
    · have l := begun_le one xs
      have ih := begun_suffix one xs
      rw [List.length_cons, show xs.length + 1 - begun one xs = (xs.length - begun one xs) + 1 from by omega, List.drop_succ_cons]
      exact ih
theorem begun_clean {one two : List UInt8} (r : List UInt8) : ∀ s : List UInt8, s.length ≤ one.length → swapC one two (s ++ r) = s.take (s.length - begun one s) ++ swapC one two (one.take (begun one s) ++ r)
  | [], _ => by simp [begun]
  | x :: xs, hl => by
    unfold begun
    split
    · rename_i h
      rw [List.isPrefixOf_iff_prefix] at h
      obtain ⟨t, rfl⟩ := h
      simp
    · rename_i h
      rw [List.isPrefixOf_iff_prefix] at h
      have l := begun_le one xs
      have ih := begun_clean (one := one) (two := two) r xs (by simp at hl; omega)
      have hm : ¬ one <+: x :: (xs ++ r) := by
        intro hp
        exact h (List.prefix_of_prefix_length_le (l₃ := x :: (xs ++ r)) ⟨r, by simp⟩ hp hl)
      rw [List.length_cons, show xs.length + 1 - begun one xs = (xs.length - begun one xs) + 1 from by omega, List.take_succ_cons, List.cons_append, swapC_miss hm, ih]
      simp
theorem begun_lt {one s : List UInt8} (hl : s.length ≤ one.length) (hn : s ≠ one) : begun one s < one.length := by
  have l := begun_le one s
  rcases Nat.lt_or_ge (begun one s) one.length with h | h
  · exact h
  · exfalso
    have e : begun one s = s.length := by omega
    have := begun_suffix one s
    rw [e] at this
    simp at this
    apply hn
    rw [this]
    rw [List.take_of_length_le (by omega)]

def swapPut (one two : List UInt8) (h : Nat) (b : UInt8) : Nat × List UInt8 :=
  if one.take h ++ [b] = one then (0, two)
  else (begun one (one.take h ++ [b]), (one.take h ++ [b]).take ((one.take h ++ [b]).length - begun one (one.take h ++ [b])))

theorem swapPut_step {one two : List UInt8} (h0 : one ≠ []) {h : Nat} (hh : h < one.length) (b : UInt8) : (swapPut one two h b).1 < one.length ∧ ∀ r, swapC one two (one.take h ++ b :: r) = (swapPut one two h b).2 ++ swapC one two (one.take (swapPut one two h b).1 ++ r) := by
  have len : (one.take h ++ [b]).length ≤ one.length := by simp; omega
  have app : ∀ r, one.take h ++ b :: r = (one.take h ++ [b]) ++ r := by intro r; simp
  unfold swapPut
  split
  · rename_i e
    refine ⟨List.length_pos_iff.2 h0, fun r => ?_⟩
    rw [app, e, swapC_hit h0]
    simp
  · rename_i e
    exact ⟨begun_lt len e, fun r => by rw [app]; exact begun_clean r _ len⟩
theorem swapC_end {one two : List UInt8} : ∀ xs : List UInt8, xs.length < one.length → swapC one two xs = xs
  | [], _ => rfl
  | x :: xs, h => by
    rw [swapC_miss (fun hp => by have := hp.length_le; omega), swapC_end xs (by simp at h; omega)]
theorem swapPut_le {one two : List UInt8} {h : Nat} (b : UInt8) (h1 : one.length ≤ 4) (h2 : two.length ≤ 4) : (swapPut one two h b).2.length ≤ 12 := by
  unfold swapPut
  split
  · simp; omega
  · simp; omega

/-! Rules. -/
def capB (c : UInt8) : UInt8 := if 97 ≤ c.toNat ∧ c.toNat ≤ 122 then c - 32 else c
def litB (c : UInt8) : UInt8 := if 65 ≤ c.toNat ∧ c.toNat ≤ 90 then c + 32 else c
def partB (p : Int × ByteArray) (c : UInt8) : List UInt8 := if p.1 = 116 then p.2.data.toList else if p.1 = 98 then [c] else if p.1 = 117 then [capB c] else [litB c]
def outB (P : List (Int × ByteArray)) (c : UInt8) : List UInt8 := P.flatMap fun p => partB p c
def ruleB : List RuleD → UInt8 → List UInt8
  | [], c => [c]
  | r :: R, c => if inCls r.cls c.toNat then outB r.out c else ruleB R c

/-! A scrub. -/
def cleanD (D : ScrubD) (xs : List UInt8) : List UInt8 := if D.swap then swapC D.one.data.toList D.two.data.toList xs else xs.flatMap (ruleB D.rules)
def putD (D : ScrubD) (h : Nat) (b : UInt8) : Nat × List UInt8 := if D.swap then swapPut D.one.data.toList D.two.data.toList h b else (0, ruleB D.rules b)
def endD (D : ScrubD) (h : Nat) : List UInt8 := if D.swap then D.one.data.toList.take h else []
def restD (D : ScrubD) (h : Nat) (r : List UInt8) : List UInt8 := if D.swap then swapC D.one.data.toList D.two.data.toList (D.one.data.toList.take h ++ r) else r.flatMap (ruleB D.rules)
def HeldOk (D : ScrubD) (h : Nat) : Prop := D.swap = true → h < D.one.size

def feed (D : ScrubD) : Nat → List UInt8 → Nat × List UInt8
  | h, [] => (h, [])
  | h, b :: xs => ((feed D (putD D h b).1 xs).1, (putD D h b).2 ++ (feed D (putD D h b).1 xs).2)

theorem restD_zero (D : ScrubD) (r : List UInt8) : restD D 0 r = cleanD D r := by
  unfold restD cleanD; split <;> simp

theorem ruleB_le {R : List RuleD} (h : ∀ r, r ∈ R → OutOk r.out) (c : UInt8) : (ruleB R c).length ≤ 12 := by
  induction R with
  | nil => simp [ruleB]
  | cons r R ih =>
    unfold ruleB
    split
    · have hr := h r (by simp)
      have : ∀ (P : List (Int × ByteArray)), (∀ p, p ∈ P → p.2.size ≤ 4) → (outB P c).length ≤ 4 * P.length := by
        intro P
        induction P with
        | nil => simp [outB]
        | cons p P ihP =>
          intro hP
          have h1 : (partB p c).length ≤ 4 := by
            have := hP p (by simp)
            unfold partB
            split
            · exact this
            · repeat' split
              all_goals simp
          have h2 := ihP (fun q hq => hP q (by simp [hq]))
          simp only [outB, List.flatMap_cons, List.length_append, List.length_cons] at *
          omega
      have h3 := this r.out hr.2
      have := hr.1
      omega
    · exact ih (fun q hq => h q (by simp [hq]))

theorem size_toList (x : ByteArray) : x.data.toList.length = x.size := rfl

theorem putD_ok {D : ScrubD} (hD : ScrubOk D) {h : Nat} (hh : HeldOk D h) (b : UInt8) : HeldOk D (putD D h b).1 ∧ (∀ r, restD D h (b :: r) = (putD D h b).2 ++ restD D (putD D h b).1 r) ∧ (putD D h b).2.length ≤ 12 := by
  unfold putD HeldOk restD
  by_cases hs : D.swap = true
  · have h1 := hD.1 hs
    have h0 : D.one.data.toList ≠ [] := by
      intro e
      have := size_toList D.one
      rw [e] at this
      simp at this
      omega
    have st := swapPut_step (two := D.two.data.toList) h0 (h := h) (by rw [size_toList]; exact hh hs) b
    simp only [hs, if_true]
    exact ⟨fun _ => st.1, st.2, swapPut_le b (by rw [size_toList]; omega) (by rw [size_toList]; omega)⟩
  · simp only [hs]
    exact ⟨fun q => by simp at q, fun r => by simp, ruleB_le hD.2.1 b⟩
theorem endD_ok {D : ScrubD} {h : Nat} (hh : HeldOk D h) : restD D h [] = endD D h := by
  unfold restD endD
  by_cases hs : D.swap = true
  · have := hh hs
    simp only [hs, if_true, List.append_nil]
    exact swapC_end _ (by rw [← size_toList] at this; rw [List.length_take]; omega)
  · simp only [hs, List.flatMap_nil]
    rfl
theorem endD_le {D : ScrubD} (hD : ScrubOk D) {h : Nat} : (endD D h).length ≤ 4 := by
  unfold endD
  split
  · rename_i hs
    have := hD.1 hs
    have := size_toList D.one
    simp; omega
  · simp

theorem feed_ok {D : ScrubD} (hD : ScrubOk D) : ∀ (xs : List UInt8) (h : Nat), HeldOk D h → HeldOk D (feed D h xs).1 ∧ (∀ r, restD D h (xs ++ r) = (feed D h xs).2 ++ restD D (feed D h xs).1 r) ∧ (feed D h xs).2.length ≤ 12 * xs.length
  | [], h, hh => ⟨hh, fun r => by simp [feed], by simp [feed]⟩
  | b :: xs, h, hh => by
    obtain ⟨p1, p2, p3⟩ := putD_ok hD hh b
    obtain ⟨q1, q2, q3⟩ := feed_ok hD xs _ p1
    refine ⟨q1, fun r => ?_, ?_⟩
    · rw [List.cons_append, p2, q2]; simp [feed]
    · simp only [feed, List.length_append, List.length_cons]; omega
theorem feed_append (D : ScrubD) : ∀ (xs ys : List UInt8) (h : Nat), feed D h (xs ++ ys) = ((feed D (feed D h xs).1 ys).1, (feed D h xs).2 ++ (feed D (feed D h xs).1 ys).2)
  | [], ys, h => by simp [feed]
  | b :: xs, ys, h => by
    simp only [List.cons_append, feed]
    rw [feed_append D xs ys]
    simp

/-! Chains of machines: the first one's state stands first; what is behind the last one's is left. -/
def feedC : List ScrubD → List Nat → List UInt8 → List Nat × List UInt8
  | [], hs, xs => (hs, xs)
  | _ :: _, [], _ => ([], [])
  | D :: Ds, h :: hs, xs => ((feed D h xs).1 :: (feedC Ds hs (feed D h xs).2).1, (feedC Ds hs (feed D h xs).2).2)
def endC : List ScrubD → List Nat → List UInt8
  | [], _ => []
  | _ :: _, [] => []
  | D :: Ds, h :: hs => (feedC Ds hs (endD D h)).2 ++ endC Ds (feedC Ds hs (endD D h)).1
def restC : List ScrubD → List Nat → List UInt8 → List UInt8
  | [], _, r => r
  | _ :: _, [], _ => []
  | D :: Ds, h :: hs, r => restC Ds hs (restD D h r)
def HeldsOk : List ScrubD → List Nat → Prop
  | [], _ => True
  | _ :: _, [] => False
  | D :: Ds, h :: hs => HeldOk D h ∧ HeldsOk Ds hs

theorem feedC_nil : ∀ (Ds : List ScrubD) (hs : List Nat), Ds.length ≤ hs.length → feedC Ds hs [] = (hs, [])
  | [], hs, _ => rfl
  | D :: Ds, [], h => by simp at h
  | D :: Ds, h :: hs, hl => by
    simp only [feedC, feed]
    rw [feedC_nil Ds hs (by simp at hl; omega)]
theorem feedC_append : ∀ (Ds : List ScrubD) (hs : List Nat) (xs ys : List UInt8), feedC Ds hs (xs ++ ys) = ((feedC Ds (feedC Ds hs xs).1 ys).1, (feedC Ds hs xs).2 ++ (feedC Ds (feedC Ds hs xs).1 ys).2)
  | [], hs, xs, ys => by simp [feedC]
  | D :: Ds, [], xs, ys => by simp [feedC]
  | D :: Ds, h :: hs, xs, ys => by
    simp only [feedC]
    rw [feed_append]
    simp only
    rw [feedC_append Ds hs]
theorem feedC_len : ∀ (Ds : List ScrubD) (hs : List Nat) (xs : List UInt8), (feedC Ds hs xs).1.length = hs.length
  | [], hs, xs => rfl
  | D :: Ds, [], xs => rfl
  | D :: Ds, h :: hs, xs => by simp [feedC, feedC_len Ds hs]
theorem feedC_ok : ∀ (Ds : List ScrubD) (hs : List Nat) (xs : List UInt8), (∀ D, D ∈ Ds → ScrubOk D) → HeldsOk Ds hs → HeldsOk Ds (feedC Ds hs xs).1 ∧ (∀ r, restC Ds hs (xs ++ r) = (feedC Ds hs xs).2 ++ restC Ds (feedC Ds hs xs).1 r) ∧ (feedC Ds hs xs).2.length ≤ 12 ^ Ds.length * xs.length
  | [], hs, xs, _, _ => ⟨trivial, fun r => rfl, by simp [feedC]⟩
  | D :: Ds, [], xs, _, hh => hh.elim
  | D :: Ds, h :: hs, xs, hD, hh => by
    obtain ⟨p1, p2, p3⟩ := feed_ok (hD D (by simp)) xs h hh.1
    obtain ⟨q1, q2, q3⟩ := feedC_ok Ds hs (feed D h xs).2 (fun D' h' => hD D' (by simp [h'])) hh.2
    refine ⟨⟨p1, q1⟩, fun r => ?_, ?_⟩
    · simp only [restC, feedC]; rw [p2, q2]
    · simp only [feedC, List.length_cons, Nat.pow_succ]
      rw [Nat.mul_assoc]
      exact Nat.le_trans q3 (Nat.mul_le_mul_left _ p3)
theorem endC_ok : ∀ (Ds : List ScrubD) (hs : List Nat), (∀ D, D ∈ Ds → ScrubOk D) → HeldsOk Ds hs → restC Ds hs [] = endC Ds hs
  | [], hs, _, _ => rfl
  | D :: Ds, [], _, hh => hh.elim
  | D :: Ds, h :: hs, hD, hh => by
    obtain ⟨q1, q2, q3⟩ := feedC_ok Ds hs (endD D h) (fun D' h' => hD D' (by simp [h'])) hh.2
    simp only [restC, endC]
    rw [endD_ok hh.1]
    have := q2 []
    rw [List.append_nil] at this
    rw [this, endC_ok Ds _ (fun D' h' => hD D' (by simp [h'])) q1]
def cleanC (Ds : List ScrubD) (xs : List UInt8) : List UInt8 := Ds.foldl (fun x D => cleanD D x) xs
theorem restC_zero : ∀ (Ds : List ScrubD) (n : Nat) (r : List UInt8), Ds.length ≤ n → restC Ds (List.replicate n 0) r = cleanC Ds r
  | [], n, r, _ => by cases n <;> rfl
  | D :: Ds, 0, r, h => by simp at h
  | D :: Ds, n + 1, r, h => by
    rw [List.replicate_succ]
    simp only [restC, restD_zero, cleanC, List.foldl_cons]
    exact restC_zero Ds n _ (by simp at h; omega)
theorem HeldsOk_zero : ∀ (Ds : List ScrubD) (n : Nat), (∀ D, D ∈ Ds → ScrubOk D) → Ds.length ≤ n → HeldsOk Ds (List.replicate n 0)
  | [], _, _, _ => trivial
  | D :: Ds, 0, _, h => by simp at h
  | D :: Ds, n + 1, hD, h => by
    rw [List.replicate_succ]
    exact ⟨fun hs => by have := (hD D (by simp)).1 hs; omega, HeldsOk_zero Ds n (fun D' h' => hD D' (by simp [h'])) (by simp at h; omega)⟩

/-- A chain of machines makes of a text what the scrubs make of it, one behind the other. -/
theorem machines (Ds : List ScrubD) (hD : ∀ D, D ∈ Ds → ScrubOk D) (hn : Ds.length ≤ 3) (xs : List UInt8) :
    (feedC Ds [0, 0, 0] xs).2 ++ endC Ds (feedC Ds [0, 0, 0] xs).1 = cleanC Ds xs := by
  have hz := HeldsOk_zero Ds 3 hD hn
  obtain ⟨q1, q2, _⟩ := feedC_ok Ds (List.replicate 3 0) xs hD hz
  have := q2 []
  rw [List.append_nil, restC_zero Ds 3 xs hn, endC_ok Ds _ hD q1] at this
  exact this.symm

theorem cleanD_le {D : ScrubD} (hD : ScrubOk D) (xs : List UInt8) : (cleanD D xs).length ≤ 12 * xs.length + 4 := by
  have h0 : HeldOk D 0 := fun hs => by have := hD.1 hs; omega
  obtain ⟨q1, q2, q3⟩ := feed_ok hD xs 0 h0
  have := q2 []
  rw [List.append_nil, restD_zero, endD_ok q1] at this
  have l := endD_le hD (h := (feed D 0 xs).1)
  rw [this, List.length_append]
  omega
theorem cleanC_le : ∀ (Ds : List ScrubD) (xs : List UInt8) (n : Nat), (∀ D, D ∈ Ds → ScrubOk D) → xs.length ≤ n → (cleanC Ds xs).length ≤ 16 ^ Ds.length * (n + 1)
  | [], xs, n, _, h => by simp [cleanC]; omega
  | D :: Ds, xs, n, hD, h => by
    have h1 := cleanD_le (hD D (by simp)) xs
    have h2 := cleanC_le Ds (cleanD D xs) (16 * (n + 1) - 1) (fun D' h' => hD D' (by simp [h'])) (by omega)
    simp only [cleanC, List.foldl_cons, List.length_cons, Nat.pow_succ] at *
    rw [show 16 * (n + 1) - 1 + 1 = 16 * (n + 1) from by omega] at h2
    rw [Nat.mul_assoc]
    exact h2

end Go.Proofs.YteobgfbgglfkbaaGreat
