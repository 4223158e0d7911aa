import PyProof.Rows.All
import Wide.All
import OpenK.AllK
import Wide.FinOn
import Open.SpecLaws
import KE.OsGo
import HandS.ForSpec
import HandS.ForMost
import HandS.ExcInit
import HandS.ExcField
import HandS.CallSlots
import HandS.Deep
import HandS.WrittenGet
import HandS.More
import HandS.Wide
import HandS.Lambda
import HandS.Walk
import KE.DataMinKey
import KE.DataCmp
import HandS.Zip
import PySem.Challenge.RW_bestwishes_s01_answers
set_option Elab.async false
set_option linter.all false
set_option maxRecDepth 100000
set_option maxHeartbeats 4000000
set_option linter.unusedSimpArgs false
namespace BW
open VaskyBase
/-! ### Bytes as whole numbers -/
def IsB (b : Int) : Prop := 0 ≤ b ∧ b ≤ 255
def oct (b : Int) : UInt8 := UInt8.ofNat b.toNat
def octs (ns : List Int) : Bytes := ns.map oct
theorem octs_is (ns : List Int) : VaskyzNeutral.bytesOf ns = octs ns := rfl
theorem oct_nat {b : Int} (h : IsB b) : (oct b).toNat = b.toNat := by
  unfold oct
  rw [UInt8.toNat_ofNat']
  have := h.2
  omega
theorem oct_eq {b : Int} (h : IsB b) (n : Nat) (hn : n < 256) : (oct b == UInt8.ofNat n) = decide (b = n) := by
  have e := oct_nat h
  have h1 := h.1
  by_cases c : b = n
  · subst c
    simp [oct]
  · have : oct b ≠ UInt8.ofNat n := by
      intro z
      rw [z, UInt8.toNat_ofNat'] at e
      omega
    simp [this, c]
theorem oct_inj {a b : Int} (ha : IsB a) (hb : IsB b) (h : oct a = oct b) : a = b := by
  have e1 := oct_nat ha
  have e2 := oct_nat hb
  rw [h] at e1
  have := ha.1
  have := hb.1
  omega
theorem octs_inj : ∀ {xs ys : List Int}, (∀ b ∈ xs, IsB b) → (∀ b ∈ ys, IsB b) → octs xs = octs ys → xs = ys
  | [], [], _, _, _ => rfl
  | [], y :: ys, _, _, h => by cases h
  | x :: xs, [], _, _, h => by cases h
  | x :: xs, y :: ys, hx, hy, h => by
    have h1 : oct x = oct y := (List.cons.inj h).1
    have h2 : octs xs = octs ys := (List.cons.inj h).2
    rw [oct_inj (hx x (by simp)) (hy y (by simp)) h1, octs_inj (fun b hb => hx b (List.mem_cons_of_mem _ hb)) (fun b hb => hy b (List.mem_cons_of_mem _ hb)) h2]
def isDig (b : Int) : Bool := decide (48 ≤ b) && decide (b ≤ 57)
def isLet (b : Int) : Bool := (decide (65 ≤ b) && decide (b ≤ 90)) || (decide (97 ≤ b) && decide (b ≤ 122))
def isBla (b : Int) : Bool := decide (b = 32) || (decide (b = 9) || decide (b = 10))
theorem oct_dig {b : Int} (h : IsB b) : isDigit (oct b) = isDig b := by
  unfold isDigit isDig
  rw [oct_nat h, ← Bool.decide_and]
  have := h.1
  apply decide_eq_decide.mpr
  omega
theorem oct_let {b : Int} (h : IsB b) : isLetter (oct b) = isLet b := by
  unfold isLetter isLet
  rw [oct_nat h, ← Bool.decide_and, ← Bool.decide_and]
  have := h.1
  congr 1 <;> apply decide_eq_decide.mpr <;> omega
theorem oct_bla {b : Int} (h : IsB b) : isBlank (oct b) = isBla b := by
  unfold isBlank isBla
  have e1 := oct_eq h 32 (by decide)
  have e2 := oct_eq h 9 (by decide)
  have e3 := oct_eq h 10 (by decide)
  show ((oct b == UInt8.ofNat 32) || ((oct b == UInt8.ofNat 9) || (oct b == UInt8.ofNat 10))) = _
  rw [e1, e2, e3]; rfl
theorem oct_rem {b : Int} (h : IsB b) : (oct b == 35) = decide (b = 35) := oct_eq h 35 (by decide)
theorem oct_nl {b : Int} (h : IsB b) : (oct b != 10) = decide (b ≠ 10) := by
  have e := oct_eq h 10 (by decide)
  show (!(oct b == UInt8.ofNat 10)) = _
  rw [e]; simp
theorem tw_octs {p : UInt8 → Bool} {q : Int → Bool} : ∀ {ns : List Int}, (∀ b ∈ ns, p (oct b) = q b) → (octs ns).takeWhile p = octs (ns.takeWhile q) ∧ (octs ns).dropWhile p = octs (ns.dropWhile q)
  | [], _ => ⟨rfl, rfl⟩
  | b :: ns, h => by
    have e := h b (by simp)
    obtain ⟨i1, i2⟩ := tw_octs (ns := ns) fun c hc => h c (List.mem_cons_of_mem _ hc)
    show (oct b :: octs ns).takeWhile p = octs ((b :: ns).takeWhile q) ∧ (oct b :: octs ns).dropWhile p = octs ((b :: ns).dropWhile q)
    rw [List.takeWhile_cons, List.takeWhile_cons, List.dropWhile_cons, List.dropWhile_cons, e]
    cases q b
    · exact ⟨rfl, rfl⟩
    · refine ⟨?_, i2⟩
      show oct b :: (octs ns).takeWhile p = oct b :: octs (ns.takeWhile q)
      rw [i1]
/-! ### Tokens, whatever the fuel -/
theorem token_len {l : Bytes} {x : Tok × Nat} (h : token l = some x) : 0 < x.2 ∧ x.2 ≤ l.length := by
  unfold token at h
  split at h
  · cases h
  · rename_i b r
    split at h
    · rename_i hb
      simp only at h
      split at h
      · cases h
      · cases h
        simp only
        have : (b :: r).takeWhile (fun c => isLetter c || isDigit c) = b :: r.takeWhile (fun c => isLetter c || isDigit c) := by
          rw [List.takeWhile_cons, hb]; rfl
        constructor
        · rw [this]; simp
        · exact (List.takeWhile_sublist _).length_le
    · split at h
      · rename_i hb
        cases hn : numberOf ((b :: r).takeWhile isDigit) with
        | none => rw [hn] at h; cases h
        | some n =>
          rw [hn] at h
          cases h
          simp only
          have : (b :: r).takeWhile isDigit = b :: r.takeWhile isDigit := by
            rw [List.takeWhile_cons, hb]; rfl
          constructor
          · rw [this]; simp
          · exact (List.takeWhile_sublist _).length_le
      · split at h
        · cases h; simp
        · cases h
theorem lex_fuel : ∀ (n m : Nat) (l : Bytes) (at_ : Nat), l.length < n → l.length < m → lex n at_ l = lex m at_ l
  | 0, _, _, _, h, _ => absurd h (Nat.not_lt_zero _)
  | _, 0, _, _, _, h => absurd h (Nat.not_lt_zero _)
  | n + 1, m + 1, [], _, _, _ => rfl
  | n + 1, m + 1, b :: r, at_, hn, hm => by
    have hn' : r.length < n := by simpa using hn
    have hm' : r.length < m := by simpa using hm
    unfold lex
    split
    · exact lex_fuel n m r (at_ + 1) hn' hm'
    · split
      · have : (r.dropWhile (· != 10)).length ≤ r.length := (List.dropWhile_sublist _).length_le
        exact lex_fuel n m _ _ (by omega) (by omega)
      · cases ht : token (b :: r) with
        | none => rfl
        | some x =>
          obtain ⟨h1, h2⟩ := token_len ht
          have : ((b :: r).drop x.2).length ≤ r.length := by
            rw [List.length_drop, List.length_cons]; omega
          show (lex n (at_ + x.2) ((b :: r).drop x.2)).map _ = (lex m (at_ + x.2) ((b :: r).drop x.2)).map _
          rw [lex_fuel n m _ _ (by omega) (by omega)]
/-- all tokens from a place on -/
def LX (at_ : Nat) (l : Bytes) : Except Fault Toks := lex (l.length + 1) at_ l
theorem lex_LX {n at_ : Nat} {l : Bytes} (h : l.length < n) : lex n at_ l = LX at_ l := lex_fuel n _ l at_ h (Nat.lt_succ_self _)
theorem LX_nil (at_ : Nat) : LX at_ [] = .ok [⟨at_, .last⟩] := rfl
theorem LX_bla {at_ : Nat} {b : UInt8} {r : Bytes} (h : isBlank b = true) : LX at_ (b :: r) = LX (at_ + 1) r := by
  show (if isBlank b = true then lex (r.length + 1) (at_ + 1) r else _) = _
  rw [if_pos h]; rfl
theorem LX_rem {at_ : Nat} {b : UInt8} {r : Bytes} (h0 : isBlank b = false) (h : (b == 35) = true) : LX at_ (b :: r) = LX (at_ + 1 + (r.takeWhile (· != 10)).length) (r.dropWhile (· != 10)) := by
  show (if isBlank b = true then _ else if b == 35 then lex (r.length + 1) _ _ else _) = _
  rw [if_neg (by rw [h0]; exact Bool.false_ne_true), if_pos h]
  have : (r.dropWhile (· != 10)).length ≤ r.length := (List.dropWhile_sublist _).length_le
  exact lex_LX (by omega)
theorem LX_tok {at_ : Nat} {b : UInt8} {r : Bytes} (h0 : isBlank b = false) (h : (b == 35) = false) : LX at_ (b :: r) = match token (b :: r) with
    | none => .error ⟨2, at_⟩
    | some x => (LX (at_ + x.2) ((b :: r).drop x.2)).map fun l => ⟨at_, x.1⟩ :: l := by
  show (if isBlank b = true then lex (r.length + 1) (at_ + 1) r else if b == 35 then lex (r.length + 1) (at_ + 1 + (r.takeWhile (· != 10)).length) (r.dropWhile (· != 10)) else match token (b :: r) with
    | none => (Except.error (Fault.mk 2 at_) : Except Fault Toks)
    | some x => (lex (r.length + 1) (at_ + x.2) ((b :: r).drop x.2)).map fun l => PTok.mk at_ x.1 :: l) = _
  rw [if_neg (by rw [h0]; exact Bool.false_ne_true), if_neg (by rw [h]; exact Bool.false_ne_true)]
  cases ht : token (b :: r) with
  | none => rfl
  | some x =>
    obtain ⟨h1, h2⟩ := token_len ht
    have : ((b :: r).drop x.2).length ≤ r.length := by
      rw [List.length_drop, List.length_cons]; omega
    show (lex (r.length + 1) (at_ + x.2) ((b :: r).drop x.2)).map _ = _
    rw [lex_LX (by omega)]
/-! ### Blanks and remarks -/
/-- how far the line's end is -/
def toEnd (l : List Int) : Nat := (l.takeWhile fun b => decide (b ≠ 10)).length
/-- how many blanks and bytes of remarks stand ahead; true: within a remark -/
def sk : Bool → List Int → Nat
  | _, [] => 0
  | true, b :: r => if b = 10 then sk false (b :: r) else sk true r + 1
  | false, b :: r => if b = 35 then sk true r + 1 else if isBla b = true then sk false r + 1 else 0
termination_by x l => (l.length, if x then 1 else 0)
theorem sk_true_end : ∀ (l : List Int), sk true l = toEnd l + sk false (l.drop (toEnd l))
  | [] => by simp [sk, toEnd]
  | b :: r => by
    rw [sk]
    by_cases h : b = 10
    · rw [if_pos h]
      have : toEnd (b :: r) = 0 := by unfold toEnd; simp [h]
      rw [this]; simp
    · rw [if_neg h]
      have : toEnd (b :: r) = toEnd r + 1 := by unfold toEnd; simp [h]
      rw [this, sk_true_end r, List.drop_succ_cons]; omega
theorem sk_rem {b : Int} {r : List Int} (h : b = 35) : sk false (b :: r) = toEnd (b :: r) + sk false ((b :: r).drop (toEnd (b :: r))) := by
  rw [sk, if_pos h, sk_true_end r]
  have : toEnd (b :: r) = toEnd r + 1 := by unfold toEnd; simp [h]
  rw [this, List.drop_succ_cons]; omega
theorem sk_bla {b : Int} {r : List Int} (h : ¬ b = 35) (hb : isBla b = true) : sk false (b :: r) = sk false r + 1 := by rw [sk, if_neg h, if_pos hb]
theorem sk_no {b : Int} {r : List Int} (h : ¬ b = 35) (hb : ¬ isBla b = true) : sk false (b :: r) = 0 := by rw [sk, if_neg h, if_neg hb]
theorem sk_le : ∀ (x : Bool) (l : List Int), sk x l ≤ l.length
  | _, [] => by simp [sk]
  | true, b :: r => by
    rw [sk]
    split
    · exact sk_le false (b :: r)
    · have := sk_le true r; simp; omega
  | false, b :: r => by
    rw [sk]
    split
    · have := sk_le true r; simp; omega
    · split
      · have := sk_le false r; simp; omega
      · omega
termination_by x l => (l.length, if x then 1 else 0)
theorem drop_tw (p : Int → Bool) : ∀ (l : List Int), l.drop (l.takeWhile p).length = l.dropWhile p
  | [] => rfl
  | b :: r => by
    rw [List.takeWhile_cons, List.dropWhile_cons]
    cases p b
    · rfl
    · exact drop_tw p r
/-- the tokens begin behind blanks and remarks -/
theorem LX_skip : ∀ (n : Nat) (l : List Int) (at_ : Nat), l.length ≤ n → (∀ b ∈ l, IsB b) → LX at_ (octs l) = LX (at_ + sk false l) (octs (l.drop (sk false l)))
  | _, [], at_, _, _ => by simp [sk]
  | 0, b :: r, _, h, _ => by simp at h
  | n + 1, b :: r, at_, hn, h => by
    have hb := h b (by simp)
    have hr : ∀ c ∈ r, IsB c := fun c hc => h c (List.mem_cons_of_mem _ hc)
    have hn' : r.length ≤ n := by simpa using hn
    by_cases h35 : b = 35
    · have e : (oct b == 35) = true := by rw [oct_rem hb]; simpa using h35
      have e0 : isBlank (oct b) = false := by rw [oct_bla hb, h35]; rfl
      have t := tw_octs (p := (· != 10)) (q := fun b => decide (b ≠ 10)) (ns := r) fun c hc => oct_nl (hr c hc)
      show LX at_ (oct b :: octs r) = _
      rw [LX_rem e0 e, t.1, t.2, sk_rem h35]
      have te : toEnd (b :: r) = toEnd r + 1 := by unfold toEnd; simp [h35]
      have hl : (r.dropWhile fun b => decide (b ≠ 10)).length ≤ n := Nat.le_trans (List.dropWhile_sublist _).length_le hn'
      rw [LX_skip n _ _ hl fun c hc => hr c ((List.dropWhile_sublist _).mem hc)]
      have l1 : (octs (r.takeWhile fun b => decide (b ≠ 10))).length = toEnd r := by simp [octs, toEnd]
      rw [l1, te, List.drop_succ_cons, ← drop_tw]
      show LX (at_ + 1 + toEnd r + sk false (r.drop (toEnd r))) (octs ((r.drop (toEnd r)).drop _)) = LX (at_ + (toEnd r + 1 + sk false (r.drop (toEnd r)))) (octs ((b :: r).drop _))
      have a1 : at_ + (toEnd r + 1 + sk false (r.drop (toEnd r))) = at_ + 1 + toEnd r + sk false (r.drop (toEnd r)) := by omega
      have a2 : toEnd r + 1 + sk false (r.drop (toEnd r)) = (toEnd r + sk false (r.drop (toEnd r))) + 1 := by omega
      rw [a1, a2, List.drop_succ_cons, List.drop_drop]
      rfl
    · have e : (oct b == 35) = false := by rw [oct_rem hb]; simpa using h35
      by_cases hbl : isBla b = true
      · have e0 : isBlank (oct b) = true := by rw [oct_bla hb]; exact hbl
        show LX at_ (oct b :: octs r) = _
        rw [LX_bla e0, sk_bla h35 hbl, LX_skip n r _ hn' hr, List.drop_succ_cons]
        congr 1; omega
      · rw [sk_no h35 hbl]; simp
theorem sk_head : ∀ (n : Nat) (l : List Int), l.length ≤ n → ∀ {b : Int} {r : List Int}, l.drop (sk false l) = b :: r → ¬ b = 35 ∧ isBla b = false
  | _, [], _, b, r, h => by simp [sk] at h
  | 0, c :: l, hn, b, r, h => by simp at hn
  | n + 1, c :: l, hn, b, r, h => by
    have hn' : l.length ≤ n := by simpa using hn
    by_cases h35 : c = 35
    · rw [sk_rem h35] at h
      have te : toEnd (c :: l) = toEnd l + 1 := by unfold toEnd; simp [h35]
      have : (c :: l).drop (toEnd (c :: l) + sk false ((c :: l).drop (toEnd (c :: l)))) = ((c :: l).drop (toEnd (c :: l))).drop (sk false ((c :: l).drop (toEnd (c :: l)))) := by rw [List.drop_drop]
      rw [this] at h
      refine sk_head n _ ?_ h
      rw [te, List.drop_succ_cons, List.length_drop]; omega
    · by_cases hbl : isBla c = true
      · rw [sk_bla h35 hbl, List.drop_succ_cons] at h
        exact sk_head n l hn' h
      · rw [sk_no h35 hbl] at h
        have e : c = b := by simpa using (List.cons.inj h).1
        subst e
        exact ⟨h35, by simpa using hbl⟩
end BW
set_option linter.unusedSimpArgs false
namespace BW
open VaskyBase
/-! ### One token, told of whole numbers -/
def isNam (b : Int) : Bool := isLet b || isDig b
/-- what digits say -/
def decI (l : List Int) : Int := l.foldl (fun n b => n * 10 + b - 48) 0
theorem decimal_octs : ∀ (l : List Int) (n : Nat), (∀ b ∈ l, IsB b ∧ isDig b = true) → (((octs l).foldl (fun n b => 10 * n + (b.toNat - 48)) n : Nat) : Int) = l.foldl (fun n b => n * 10 + b - 48) (n : Int)
  | [], n, _ => rfl
  | b :: r, n, h => by
    obtain ⟨hb, hd⟩ := h b (by simp)
    have e := oct_nat hb
    have d1 : 48 ≤ b ∧ b ≤ 57 := by simpa [isDig] using hd
    show (((octs r).foldl (fun n b => 10 * n + (b.toNat - 48)) (10 * n + ((oct b).toNat - 48)) : Nat) : Int) = r.foldl (fun n b => n * 10 + b - 48) ((n : Int) * 10 + b - 48)
    rw [decimal_octs r _ fun c hc => h c (List.mem_cons_of_mem _ hc), e]
    congr 1
    omega
theorem decI_octs {l : List Int} (h : ∀ b ∈ l, IsB b ∧ isDig b = true) : ((decimal (octs l) : Nat) : Int) = decI l := decimal_octs l 0 h
theorem fold_ge : ∀ (l : Bytes) (n : Nat), n * 10 ^ l.length ≤ l.foldl (fun n b => 10 * n + (b.toNat - 48)) n
  | [], n => by simp
  | b :: r, n => by
    have := fold_ge r (10 * n + (b.toNat - 48))
    show n * 10 ^ (r.length + 1) ≤ r.foldl _ (10 * n + (b.toNat - 48))
    have h2 : n * 10 ^ (r.length + 1) = (10 * n) * 10 ^ r.length := by rw [Nat.pow_succ]; grind
    have h3 : (10 * n) * 10 ^ r.length ≤ (10 * n + (b.toNat - 48)) * 10 ^ r.length := Nat.mul_le_mul_right _ (by omega)
    omega
theorem numberOf_octs {b : Int} {r : List Int} (h : ∀ c ∈ b :: r, IsB c ∧ isDig c = true) :
    numberOf (octs (b :: r)) = if (b = 48 ∧ 1 < (b :: r).length) ∨ 1000000000 < decI (b :: r) then none else some (decI (b :: r)).toNat := by
  have e := decI_octs h
  have hl : (octs (b :: r)).length = (b :: r).length := by simp [octs]
  obtain ⟨hb, hd⟩ := h b (by simp)
  have d1 : 48 ≤ b ∧ b ≤ 57 := by simpa [isDig] using hd
  have hh : ((octs (b :: r)).head? = some 48) ↔ b = 48 := by
    show some (oct b) = some (UInt8.ofNat 48) ↔ _
    have := oct_eq hb 48 (by decide)
    rw [Option.some.injEq]
    constructor
    · intro q; rw [q] at this; simpa using this.symm
    · intro q; subst q; rfl
  unfold numberOf
  rw [hl]
  have big : 10 < (b :: r).length → b ≠ 48 → 1000000000 < decI (b :: r) := by
    intro h1 h2
    have g := fold_ge (octs r) ((oct b).toNat - 48)
    have q : decimal (octs (b :: r)) = (octs r).foldl (fun n b => 10 * n + (b.toNat - 48)) ((oct b).toNat - 48) := by
      unfold decimal
      show (octs r).foldl _ (10 * 0 + ((oct b).toNat - 48)) = _
      rw [Nat.mul_zero, Nat.zero_add]
    have lr : (octs r).length = r.length := by simp [octs]
    rw [lr, ← q] at g
    have h3 : 1 ≤ (oct b).toNat - 48 := by rw [oct_nat hb]; omega
    have h4 : 10 ^ 10 ≤ 10 ^ r.length := Nat.pow_le_pow_right (by decide) (by have : (b :: r).length = r.length + 1 := rfl; omega)
    have h5 : 1 * 10 ^ r.length ≤ ((oct b).toNat - 48) * 10 ^ r.length := Nat.mul_le_mul_right _ h3
    omega
  have n0 : octs (b :: r) ≠ [] := by simp [octs]
  by_cases c : (b = 48 ∧ 1 < (b :: r).length) ∨ 1000000000 < decI (b :: r)
  · rw [if_pos c, if_pos]
    rcases c with ⟨c1, c2⟩ | c
    · exact .inr (.inr (.inl ⟨c2, hh.mpr c1⟩))
    · refine .inr (.inr (.inr ?_))
      unfold NUMBER; omega
  · rw [if_neg c, if_neg]
    · congr 1; omega
    · rintro (q | q | ⟨q1, q2⟩ | q)
      · exact n0 q
      · by_cases z : b = 48
        · exact c (.inl ⟨z, by omega⟩)
        · exact c (.inr (big q z))
      · exact c (.inl ⟨hh.mp q2, q1⟩)
      · unfold NUMBER at q
        exact c (.inr (by omega))
theorem tw_all {p : Int → Bool} : ∀ {l : List Int} {b : Int}, b ∈ l.takeWhile p → b ∈ l ∧ p b = true
  | [], _, h => by simp at h
  | a :: l, b, h => by
    rw [List.takeWhile_cons] at h
    cases e : p a
    · rw [e] at h; simp at h
    · rw [e] at h
      rcases List.mem_cons.mp h with z | z
      · rw [z]; exact ⟨by simp, e⟩
      · obtain ⟨h1, h2⟩ := tw_all z
        exact ⟨List.mem_cons_of_mem _ h1, h2⟩
theorem let_dig {b : Int} (h : isLet b = true) : isDig b = false := by
  unfold isLet at h; unfold isDig
  simp only [Bool.or_eq_true, Bool.and_eq_true, decide_eq_true_eq] at h
  have : ¬ (48 ≤ b ∧ b ≤ 57) := by omega
  rw [← Bool.decide_and]; exact decide_eq_false this
def isSig (b : Int) : Bool := decide (b = 44) || (decide (b = 58) || (decide (b = 59) || decide (b = 45)))
theorem oct_sig {b : Int} (h : IsB b) : SIGNS.contains (oct b) = isSig b := by
  have e1 := oct_eq h 44 (by decide)
  have e2 := oct_eq h 58 (by decide)
  have e3 := oct_eq h 59 (by decide)
  have e4 := oct_eq h 45 (by decide)
  show ((oct b == UInt8.ofNat 44) || ((oct b == UInt8.ofNat 58) || ((oct b == UInt8.ofNat 59) || ((oct b == UInt8.ofNat 45) || false)))) = _
  rw [e1, e2, e3, e4]
  unfold isSig
  simp
/-- the token at the beginning, told of whole numbers -/
theorem token_octs {b : Int} {r : List Int} (h : ∀ c ∈ b :: r, IsB c) :
    token (octs (b :: r)) =
      if isLet b = true then (if 16 < ((b :: r).takeWhile isNam).length then none else some (.name (octs ((b :: r).takeWhile isNam)), ((b :: r).takeWhile isNam).length))
      else if isDig b = true then (if (b = 48 ∧ 1 < ((b :: r).takeWhile isDig).length) ∨ 1000000000 < decI ((b :: r).takeWhile isDig) then none else some (.num (decI ((b :: r).takeWhile isDig)).toNat, ((b :: r).takeWhile isDig).length))
      else if isSig b = true then some (.sign b.toNat, 1) else none := by
  have hb := h b (by simp)
  show (if isLetter (oct b) = true then _ else if isDigit (oct b) = true then _ else if SIGNS.contains (oct b) = true then some (Tok.sign (oct b).toNat, 1) else none) = _
  rw [oct_let hb, oct_dig hb, oct_sig hb, oct_nat hb]
  by_cases hl : isLet b = true
  · rw [if_pos hl, if_pos hl]
    have t := (tw_octs (p := fun c => isLetter c || isDigit c) (q := isNam) (ns := b :: r) fun c hc => by
      show (isLetter (oct c) || isDigit (oct c)) = (isLet c || isDig c)
      rw [oct_let (h c hc), oct_dig (h c hc)]).1
    show (if NAME < ((octs (b :: r)).takeWhile fun c => isLetter c || isDigit c).length then none else some (Tok.name ((octs (b :: r)).takeWhile fun c => isLetter c || isDigit c), ((octs (b :: r)).takeWhile fun c => isLetter c || isDigit c).length)) = _
    rw [t]
    have : (octs ((b :: r).takeWhile isNam)).length = ((b :: r).takeWhile isNam).length := by simp [octs]
    rw [this]; rfl
  · rw [if_neg hl, if_neg hl]
    by_cases hd : isDig b = true
    · rw [if_pos hd, if_pos hd]
      have t := (tw_octs (p := isDigit) (q := isDig) (ns := b :: r) fun c hc => oct_dig (h c hc)).1
      show ((numberOf ((octs (b :: r)).takeWhile isDigit)).map fun n => (Tok.num n, ((octs (b :: r)).takeWhile isDigit).length)) = _
      rw [t]
      have : (octs ((b :: r).takeWhile isDig)).length = ((b :: r).takeWhile isDig).length := by simp [octs]
      rw [this]
      have e : (b :: r).takeWhile isDig = b :: r.takeWhile isDig := by rw [List.takeWhile_cons, hd]; rfl
      rw [e, numberOf_octs (fun c hc => by
        rw [← e] at hc
        obtain ⟨h1, h2⟩ := tw_all hc
        exact ⟨h c h1, h2⟩)]
      split <;> rfl
    · rw [if_neg hd, if_neg hd]
/-! ### Kinds -/
def kind : Tok → String
  | .name b => if b = word "measures" then "measures" else if b = word "up" then "up" else if b = word "down" then "down" else if b = word "item" then "item" else "name"
  | .num _ => "number"
  | .sign c => if c = 44 then "," else if c = 58 then ":" else if c = 59 then ";" else "-"
  | .last => "end"
def SgOk : Tok → Prop
  | .sign c => c = 44 ∨ c = 58 ∨ c = 59 ∨ c = 45
  | _ => True
def numT : Tok → Int
  | .num n => n
  | _ => 0
def nameT : Tok → Bytes
  | .name b => b
  | _ => []
/-- one of the kinds is taken, or fault 3 -/
def takeK (ks : List String) : Toks → Except Fault (PTok × Toks)
  | t :: r => if kind t.tok ∈ ks then .ok (t, r) else .error ⟨3, t.place⟩
  | [] => .error ⟨3, 0⟩
theorem kind_word {t : Tok} (hs : SgOk t) (s : String) (h : s ∈ ["measures", "up", "down", "item"]) : tokEq t (.name (word s)) = decide (kind t = s) := by
  cases t with
  | name b =>
    show (b == word s) = _
    unfold kind
    by_cases c : b = word s
    · subst c
      rw [beq_self_eq_true]
      symm
      apply decide_eq_true
      simp only [List.mem_cons, List.not_mem_nil, or_false] at h
      rcases h with rfl | rfl | rfl | rfl <;> decide
    · have : (b == word s) = false := by simpa using c
      rw [this]
      symm
      apply decide_eq_false
      intro q
      simp only at q
      have nn : s ≠ "name" := by rintro rfl; revert h; decide
      split at q
      · rename_i z; subst q; exact c z
      · split at q
        · rename_i z; subst q; exact c z
        · split at q
          · rename_i z; subst q; exact c z
          · split at q
            · rename_i z; subst q; exact c z
            · exact nn q.symm
  | num n =>
    show false = _
    symm; apply decide_eq_false
    intro q
    have q : "number" = s := q
    subst q; revert h; decide
  | sign k =>
    show false = _
    symm; apply decide_eq_false
    intro q
    unfold kind at q
    simp only at q
    split at q
    · subst q; revert h; decide
    · split at q
      · subst q; revert h; decide
      · split at q
        · subst q; revert h; decide
        · subst q; revert h; decide
  | last =>
    show false = _
    symm; apply decide_eq_false
    intro q
    have q : "end" = s := q
    subst q; revert h; decide
theorem kind_sign {t : Tok} (hs : SgOk t) (c : Nat) (k : String) (h : (c, k) ∈ [(44, ","), (58, ":"), (59, ";"), (45, "-")]) : tokEq t (.sign c) = decide (kind t = k) := by
  have nk : k ∉ ["measures", "up", "down", "item", "name", "number", "end"] := by
    simp only [List.mem_cons, List.not_mem_nil, or_false, Prod.mk.injEq] at h
    rcases h with ⟨_, rfl⟩ | ⟨_, rfl⟩ | ⟨_, rfl⟩ | ⟨_, rfl⟩ <;> decide
  cases t with
  | name b =>
    show false = _
    symm; apply decide_eq_false
    intro q
    unfold kind at q
    simp only at q
    apply nk
    split at q
    · rw [← q]; decide
    · split at q
      · rw [← q]; decide
      · split at q
        · rw [← q]; decide
        · split at q
          · rw [← q]; decide
          · rw [← q]; decide
  | num n =>
    show false = _
    symm; apply decide_eq_false
    intro q
    have q : "number" = k := q
    apply nk; rw [← q]; decide
  | sign d =>
    show (d == c) = _
    have hs : d = 44 ∨ d = 58 ∨ d = 59 ∨ d = 45 := hs
    simp only [List.mem_cons, List.not_mem_nil, or_false, Prod.mk.injEq] at h
    rcases h with ⟨rfl, rfl⟩ | ⟨rfl, rfl⟩ | ⟨rfl, rfl⟩ | ⟨rfl, rfl⟩ <;> rcases hs with rfl | rfl | rfl | rfl <;> decide
  | last =>
    show false = _
    symm; apply decide_eq_false
    intro q
    have q : "end" = k := q
    apply nk; rw [← q]; decide
theorem kind_last {t : Tok} (hs : SgOk t) : tokEq t .last = decide (kind t = "end") := by
  cases t with
  | name b =>
    show false = _
    symm; apply decide_eq_false
    intro q
    unfold kind at q
    simp only at q
    revert q
    split
    · decide
    · split
      · decide
      · split
        · decide
        · split
          · decide
          · decide
  | num n => rfl
  | sign d =>
    have hs : d = 44 ∨ d = 58 ∨ d = 59 ∨ d = 45 := hs
    rcases hs with rfl | rfl | rfl | rfl <;> rfl
  | last => rfl
theorem kind_name {t : Tok} : kind t = "name" ↔ ∃ b, t = .name b ∧ RESERVED.contains b = false := by
  cases t with
  | name b =>
    have e : RESERVED.contains b = (b == word "measures" || (b == word "up" || (b == word "down" || (b == word "item" || false)))) := rfl
    constructor
    · intro q
      refine ⟨b, rfl, ?_⟩
      rw [e]
      unfold kind at q
      simp only at q
      split at q
      · exact absurd q (by decide)
      · split at q
        · exact absurd q (by decide)
        · split at q
          · exact absurd q (by decide)
          · split at q
            · exact absurd q (by decide)
            · simp [*]
    · rintro ⟨b', z, q⟩
      cases z
      rw [e] at q
      simp only [Bool.or_eq_false_iff, beq_eq_false_iff_ne] at q
      unfold kind
      simp [q]
  | num n =>
    constructor
    · intro q; have q : "number" = "name" := q; exact absurd q (by decide)
    · rintro ⟨b, z, _⟩; cases z
  | sign d =>
    constructor
    · intro q
      unfold kind at q
      simp only at q
      split at q
      · exact absurd q (by decide)
      · split at q
        · exact absurd q (by decide)
        · split at q
          · exact absurd q (by decide)
          · exact absurd q (by decide)
    · rintro ⟨b, z, _⟩; cases z
  | last =>
    constructor
    · intro q; have q : "end" = "name" := q; exact absurd q (by decide)
    · rintro ⟨b, z, _⟩; cases z
theorem kind_num {t : Tok} : kind t = "number" ↔ ∃ n, t = .num n := by
  cases t with
  | name b =>
    constructor
    · intro q
      unfold kind at q
      simp only at q
      split at q
      · exact absurd q (by decide)
      · split at q
        · exact absurd q (by decide)
        · split at q
          · exact absurd q (by decide)
          · split at q
            · exact absurd q (by decide)
            · exact absurd q (by decide)
    · rintro ⟨b, z⟩; cases z
  | num n => exact ⟨fun _ => ⟨n, rfl⟩, fun _ => rfl⟩
  | sign d =>
    constructor
    · intro q
      unfold kind at q
      simp only at q
      split at q
      · exact absurd q (by decide)
      · split at q
        · exact absurd q (by decide)
        · split at q
          · exact absurd q (by decide)
          · exact absurd q (by decide)
    · rintro ⟨b, z⟩; cases z
  | last =>
    constructor
    · intro q; have q : "end" = "number" := q; exact absurd q (by decide)
    · rintro ⟨b, z⟩; cases z
/-! ### The document's takings, by kinds -/
def SgAll (l : Toks) : Prop := ∀ t ∈ l, SgOk t.tok
theorem takeWord_k {l : Toks} (hl : SgAll l) (s : String) (h : s ∈ ["measures", "up", "down", "item"]) : takeWord s l = (takeK [s] l).map (·.2) := by
  cases l with
  | nil => rfl
  | cons t r =>
    show (if tokEq t.tok (.name (word s)) = true then _ else _) = (if kind t.tok ∈ [s] then _ else _ : Except Fault (PTok × Toks)).map _
    rw [kind_word (hl t (by simp)) s h]
    by_cases c : kind t.tok = s
    · rw [if_pos (decide_eq_true c), if_pos (by simpa using c)]; rfl
    · rw [if_neg (by simpa using c), if_neg (by simpa using c)]; rfl
theorem takeSign_k {l : Toks} (hl : SgAll l) (c : Nat) (k : String) (h : (c, k) ∈ [(44, ","), (58, ":"), (59, ";"), (45, "-")]) : takeSign c l = (takeK [k] l).map (·.2) := by
  cases l with
  | nil => rfl
  | cons t r =>
    show (if tokEq t.tok (.sign c) = true then _ else _) = (if kind t.tok ∈ [k] then _ else _ : Except Fault (PTok × Toks)).map _
    rw [kind_sign (hl t (by simp)) c k h]
    by_cases c : kind t.tok = k
    · rw [if_pos (decide_eq_true c), if_pos (by simpa using c)]; rfl
    · rw [if_neg (by simpa using c), if_neg (by simpa using c)]; rfl
theorem takeName_k {l : Toks} : takeName l = (takeK ["name"] l).map fun x => (⟨x.1.place, nameT x.1.tok⟩, x.2) := by
  cases l with
  | nil => rfl
  | cons t r =>
    obtain ⟨p, t⟩ := t
    by_cases c : kind t = "name"
    · obtain ⟨b, rfl, hb⟩ := kind_name.mp c
      show (if RESERVED.contains b = true then _ else _) = (if kind (Tok.name b) ∈ ["name"] then _ else _ : Except Fault (PTok × Toks)).map _
      rw [if_neg (by rw [hb]; exact Bool.false_ne_true), if_pos (by simpa using c)]; rfl
    · have e : takeK ["name"] (⟨p, t⟩ :: r) = .error ⟨3, p⟩ := by
        show (if kind t ∈ ["name"] then _ else _) = _
        rw [if_neg (by simpa using c)]
      rw [e]
      cases t with
      | name b =>
        show (if RESERVED.contains b = true then _ else _) = _
        have : RESERVED.contains b = true := by
          cases z : RESERVED.contains b
          · exact absurd (kind_name.mpr ⟨b, rfl, z⟩) c
          · rfl
        rw [if_pos this]; rfl
      | num n => rfl
      | sign d => rfl
      | last => rfl
end BW
set_option linter.unusedSimpArgs false
namespace BW
open VaskyBase
/-! ### Tokens to the text's end -/
/-- tokens, the text's end as the last one and nowhere else -/
def Good : Toks → Prop
  | [] => False
  | t :: r => (r = [] ∧ t.tok = .last) ∨ (SgOk t.tok ∧ t.tok ≠ .last ∧ Good r)
theorem Good.ne {l : Toks} (h : Good l) : l ≠ [] := by rintro rfl; exact h
theorem Good.sg : ∀ {l : Toks}, Good l → SgAll l
  | [], h => h.elim
  | t :: r, h => by
    intro u hu
    rcases h with ⟨rfl, h⟩ | ⟨h1, _, h3⟩
    · have e : u = t := by simpa using hu
      rw [e, h]; trivial
    · rcases List.mem_cons.mp hu with e | e
      · rw [e]; exact h1
      · exact Good.sg h3 u e
theorem kind_ne_end {t : Tok} (hs : SgOk t) (h : t ≠ .last) : kind t ≠ "end" := by
  intro q
  have := kind_last hs
  rw [decide_eq_true q] at this
  cases t <;> first | exact h rfl | cases this
theorem Good.tail {t : PTok} {r : Toks} (h : Good (t :: r)) (hk : kind t.tok ≠ "end") : Good r := by
  rcases h with ⟨rfl, h⟩ | ⟨_, _, h3⟩
  · rw [h] at hk; exact absurd rfl hk
  · exact h3
theorem token_sg {l : Bytes} {x : Tok × Nat} (h : token l = some x) : SgOk x.1 ∧ x.1 ≠ .last := by
  unfold token at h
  split at h
  · cases h
  · rename_i b r
    split at h
    · simp only at h
      split at h
      · cases h
      · cases h; exact ⟨trivial, by simp⟩
    · split at h
      · cases hn : numberOf ((b :: r).takeWhile isDigit) with
        | none => rw [hn] at h; cases h
        | some n => rw [hn] at h; cases h; exact ⟨trivial, by simp⟩
      · split at h
        · rename_i hc
          cases h
          refine ⟨?_, by simp⟩
          show b.toNat = 44 ∨ b.toNat = 58 ∨ b.toNat = 59 ∨ b.toNat = 45
          have e : SIGNS.contains b = ((b == 44) || ((b == 58) || ((b == 59) || ((b == 45) || false)))) := rfl
          rw [e] at hc
          simp only [Bool.or_eq_true, beq_iff_eq, Bool.or_false] at hc
          rcases hc with rfl | rfl | rfl | rfl <;> simp
        · cases h
theorem lex_good : ∀ (n : Nat) (l : Bytes) (at_ : Nat) (ts : Toks), lex n at_ l = .ok ts → Good ts
  | 0, _, at_, ts, h => by cases h; exact .inl ⟨rfl, rfl⟩
  | n + 1, [], at_, ts, h => by cases h; exact .inl ⟨rfl, rfl⟩
  | n + 1, b :: r, at_, ts, h => by
    unfold lex at h
    split at h
    · exact lex_good n r _ ts h
    · split at h
      · exact lex_good n _ _ ts h
      · cases ht : token (b :: r) with
        | none => rw [ht] at h; cases h
        | some x =>
          rw [ht] at h
          simp only at h
          cases hl : lex n (at_ + x.2) ((b :: r).drop x.2) with
          | error f => rw [hl] at h; cases h
          | ok us =>
            rw [hl] at h
            cases h
            exact .inr ⟨(token_sg ht).1, (token_sg ht).2, lex_good n _ _ us hl⟩
theorem LX_good {l : Bytes} {at_ : Nat} {ts : Toks} (h : LX at_ l = .ok ts) : Good ts := lex_good _ l at_ ts h
theorem takeK_good {ks : List String} {l : Toks} {x : PTok × Toks} (h : Good l) (hk : "end" ∉ ks) (e : takeK ks l = .ok x) : Good x.2 ∧ l = x.1 :: x.2 ∧ kind x.1.tok ∈ ks := by
  cases l with
  | nil => exact h.elim
  | cons t r =>
    have e : (if kind t.tok ∈ ks then Except.ok (t, r) else Except.error (Fault.mk 3 t.place)) = Except.ok x := e
    by_cases hm : kind t.tok ∈ ks
    · rw [if_pos hm] at e
      cases e
      exact ⟨h.tail fun q => hk (q ▸ hm), rfl, hm⟩
    · rw [if_neg hm] at e; cases e
/-! ### A value -/
def finV (s : Int) (y : PTok × Toks) : Except Fault (Int × Toks) := if 1000 < numT y.1.tok then .error ⟨7, y.1.place⟩ else .ok (s * numT y.1.tok, y.2)
theorem takeInt_k {l : Toks} (h : Good l) : Vaskya.takeInt l = (takeK ["-", "number"] l).bind fun x => if kind x.1.tok = "-" then (takeK ["number"] x.2).bind (finV (-1)) else finV 1 x := by
  have fin : ∀ (s : Int) (neg : Bool) (m : Toks), s = (if neg = true then -1 else 1) →
      (match m with
        | ⟨q, .num n⟩ :: r => if Vaskya.SIZE < n then (Except.error (Fault.mk 7 q) : Except Fault (Int × Toks)) else .ok (if neg = true then -(n : Int) else (n : Int), r)
        | m => wrong m) = (takeK ["number"] m).bind (finV s) := by
    intro s neg m hs
    cases m with
    | nil => rfl
    | cons t r =>
      obtain ⟨p, t⟩ := t
      by_cases c : kind t = "number"
      · obtain ⟨n, rfl⟩ := kind_num.mp c
        have e : takeK ["number"] (⟨p, .num n⟩ :: r) = .ok (⟨p, .num n⟩, r) := rfl
        rw [e]
        show (if 1000 < n then _ else _) = finV s (⟨p, .num n⟩, r)
        unfold finV
        show _ = if (1000 : Int) < (n : Int) then Except.error (Fault.mk 7 p) else Except.ok (s * (n : Int), r)
        by_cases q : 1000 < n
        · rw [if_pos q, if_pos (show (1000 : Int) < (n : Int) by omega)]
        · rw [if_neg q, if_neg (show ¬ (1000 : Int) < (n : Int) by omega)]
          subst hs
          cases neg
          · rw [if_neg Bool.false_ne_true, if_neg Bool.false_ne_true]; simp
          · rw [if_pos rfl, if_pos rfl]; simp
      · have e : takeK ["number"] (⟨p, t⟩ :: r) = .error ⟨3, p⟩ := by
          show (if kind t ∈ ["number"] then _ else _) = _
          rw [if_neg (by simpa using c)]
        rw [e]
        cases t with
        | num n => exact absurd rfl c
        | name b => rfl
        | sign d => rfl
        | last => rfl
  cases l with
  | nil => exact h.elim
  | cons t r =>
    have hs := h.sg t (by simp)
    have ek : next (.sign 45) (t :: r) = decide (kind t.tok = "-") := kind_sign hs 45 "-" (by simp)
    show (match (if next (.sign 45) (t :: r) = true then r else t :: r) with
        | ⟨q, .num n⟩ :: r' => if Vaskya.SIZE < n then (Except.error (Fault.mk 7 q) : Except Fault (Int × Toks)) else .ok (if next (.sign 45) (t :: r) = true then -(n : Int) else (n : Int), r')
        | m => wrong m) = _
    rw [ek]
    by_cases c : kind t.tok = "-"
    · have e : takeK ["-", "number"] (t :: r) = .ok (t, r) := by
        show (if kind t.tok ∈ ["-", "number"] then _ else _) = _
        rw [if_pos (by simp [c])]
      rw [e]
      show _ = (if kind t.tok = "-" then (takeK ["number"] r).bind (finV (-1)) else finV 1 (t, r))
      rw [if_pos c, if_pos (decide_eq_true c)]
      have := fin (-1) (decide (kind t.tok = "-")) r (by rw [if_pos (decide_eq_true c)])
      exact this
    · have hf : decide (kind t.tok = "-") = false := decide_eq_false c
      rw [if_neg (by rw [hf]; exact Bool.false_ne_true)]
      have := fin 1 (decide (kind t.tok = "-")) (t :: r) (by rw [if_neg (by rw [hf]; exact Bool.false_ne_true)])
      refine this.trans ?_
      by_cases d : kind t.tok = "number"
      · have e1 : takeK ["number"] (t :: r) = .ok (t, r) := by
          show (if kind t.tok ∈ ["number"] then _ else _) = _
          rw [if_pos (by simp [d])]
        have e2 : takeK ["-", "number"] (t :: r) = .ok (t, r) := by
          show (if kind t.tok ∈ ["-", "number"] then _ else _) = _
          rw [if_pos (by simp [d])]
        rw [e1, e2]
        show finV 1 (t, r) = (if kind t.tok = "-" then _ else finV 1 (t, r))
        rw [if_neg c]
      · have e1 : takeK ["number"] (t :: r) = .error ⟨3, t.place⟩ := by
          show (if kind t.tok ∈ ["number"] then _ else _) = _
          rw [if_neg (by simp [d])]
        have e2 : takeK ["-", "number"] (t :: r) = .error ⟨3, t.place⟩ := by
          show (if kind t.tok ∈ ["-", "number"] then _ else _) = _
          rw [if_neg (by simp [c, d])]
        rw [e1, e2]; rfl
theorem finV_good {s : Int} {y : PTok × Toks} {x : Int × Toks} (_ : Good y.2) (e : finV s y = .ok x) : x.2 = y.2 ∧ x.1 = s * numT y.1.tok ∧ numT y.1.tok ≤ 1000 := by
  unfold finV at e
  split at e
  · cases e
  · cases e; exact ⟨rfl, rfl, by omega⟩
theorem numT_nonneg (t : Tok) : 0 ≤ numT t := by cases t <;> simp [numT]
theorem takeInt_good {l : Toks} {x : Int × Toks} (h : Good l) (e : Vaskya.takeInt l = .ok x) : Good x.2 ∧ x.2.length < l.length ∧ -1000 ≤ x.1 ∧ x.1 ≤ 1000 := by
  rw [takeInt_k h] at e
  cases hk : takeK ["-", "number"] l with
  | error f => rw [hk] at e; cases e
  | ok y =>
    rw [hk] at e
    obtain ⟨g1, e1, _⟩ := takeK_good h (by decide) hk
    have e : (if kind y.1.tok = "-" then (takeK ["number"] y.2).bind (finV (-1)) else finV 1 y) = .ok x := e
    have nn := numT_nonneg
    split at e
    · cases hk2 : takeK ["number"] y.2 with
      | error f => rw [hk2] at e; cases e
      | ok z =>
        rw [hk2] at e
        obtain ⟨g2, e2, _⟩ := takeK_good g1 (by decide) hk2
        obtain ⟨a, b, c⟩ := finV_good g2 e
        have := nn z.1.tok
        rw [a, b]
        refine ⟨g2, ?_, by omega, by omega⟩
        rw [e1, e2]; simp; omega
    · obtain ⟨a, b, c⟩ := finV_good g1 e
      have := nn y.1.tok
      rw [a, b]
      refine ⟨g1, ?_, by omega, by omega⟩
      rw [e1]; simp
end BW
set_option linter.unusedSimpArgs false
namespace BW
open VaskyBase
/-- a row of values, and what stands behind it -/
def rowM (k : Nat) (l : Toks) : Except Fault (List Int × Toks) := (Vaskya.takeValues k [] l).bind fun v => (takeK [";"] v.2).map fun x => (v.1, x.2)
theorem takeValues_step {n : Nat} {vs : List Int} {l : Toks} (h : Good l) (hv : vs ≠ []) : Vaskya.takeValues (n + 1) vs l = (takeK [","] l).bind fun y => (Vaskya.takeInt y.2).bind fun x => Vaskya.takeValues n (vs ++ [x.1]) x.2 := by
  have e : vs.isEmpty = false := by cases vs <;> simp_all
  show (if vs.isEmpty = true then Except.ok l else takeSign 44 l).bind _ = _
  rw [e, if_neg Bool.false_ne_true, takeSign_k h.sg 44 "," (by simp)]
  cases takeK [","] l <;> rfl
theorem takeValues_first {n : Nat} {l : Toks} : Vaskya.takeValues (n + 1) [] l = (Vaskya.takeInt l).bind fun x => Vaskya.takeValues n [x.1] x.2 := rfl
theorem head_k {l : Toks} (h : Good l) : ∃ t r, l = t :: r := by
  cases l with
  | nil => exact h.elim
  | cons t r => exact ⟨t, r, rfl⟩
theorem takeK_pos {ks : List String} {t : PTok} {r : Toks} (h : kind t.tok ∈ ks) : takeK ks (t :: r) = .ok (t, r) := if_pos h
theorem takeK_neg {ks : List String} {t : PTok} {r : Toks} (h : ¬ kind t.tok ∈ ks) : takeK ks (t :: r) = .error ⟨3, t.place⟩ := if_neg h
theorem way_k {l : Toks} (h : Good l) : (if nextWord "up" l = true then Except.ok (true, l.drop 1) else (takeWord "down" l).map fun r => (false, r)) = (takeK ["up", "down"] l).map fun y => (decide (kind y.1.tok = "up"), y.2) := by
  obtain ⟨t, r, rfl⟩ := head_k h
  have hs := h.sg t (by simp)
  have e1 : nextWord "up" (t :: r) = decide (kind t.tok = "up") := kind_word hs "up" (by simp)
  rw [e1, takeWord_k h.sg "down" (by simp)]
  by_cases c : kind t.tok = "up"
  · rw [if_pos (decide_eq_true c), takeK_pos (by simp [c])]
    show _ = Except.ok (decide (kind t.tok = "up"), r)
    rw [decide_eq_true c]; rfl
  · rw [if_neg (by simpa using c)]
    by_cases d : kind t.tok = "down"
    · rw [takeK_pos (by simp [d]), takeK_pos (by simp [d])]
      show _ = Except.ok (decide (kind t.tok = "up"), r)
      rw [decide_eq_false c]; rfl
    · rw [takeK_neg (by simp [d]), takeK_neg (by simp [c, d])]; rfl
theorem sep_k {A : Type} {l : Toks} (h : Good l) (f : Toks → Except Fault A) (g : Toks → A) : (if next (.sign 44) l = true then f (l.drop 1) else (takeSign 59 l).map g) = (takeK [",", ";"] l).bind fun z => if kind z.1.tok = "," then f z.2 else .ok (g z.2) := by
  obtain ⟨t, r, rfl⟩ := head_k h
  have hs := h.sg t (by simp)
  have e1 : next (.sign 44) (t :: r) = decide (kind t.tok = ",") := kind_sign hs 44 "," (by simp)
  rw [e1, takeSign_k h.sg 59 ";" (by simp)]
  by_cases c : kind t.tok = ","
  · rw [if_pos (decide_eq_true c), takeK_pos (by simp [c])]
    show _ = (if kind t.tok = "," then f r else .ok (g r))
    rw [if_pos c]; rfl
  · rw [if_neg (by simpa using c)]
    by_cases d : kind t.tok = ";"
    · rw [takeK_pos (by simp [d]), takeK_pos (by simp [d])]
      show _ = (if kind t.tok = "," then f r else .ok (g r))
      rw [if_neg c]; rfl
    · rw [takeK_neg (by simp [d]), takeK_neg (by simp [c, d])]; rfl
theorem meas_step {n : Nat} {ms : List Vaskya.Measure} {l : Toks} (h : Good l) :
    Vaskya.takeMeasures (n + 1) ms l = (takeK ["name"] l).bind fun x => if 4 ≤ ms.length then .error ⟨4, x.1.place⟩ else if ms.any (fun m => m.name == nameT x.1.tok) = true then .error ⟨5, x.1.place⟩ else
      (takeK ["up", "down"] x.2).bind fun u => (takeK [",", ";"] u.2).bind fun z =>
        if kind z.1.tok = "," then Vaskya.takeMeasures n (ms ++ [⟨nameT x.1.tok, decide (kind u.1.tok = "up")⟩]) z.2 else .ok (ms ++ [⟨nameT x.1.tok, decide (kind u.1.tok = "up")⟩], z.2) := by
  show (takeName l).bind _ = _
  rw [takeName_k]
  cases hk : takeK ["name"] l with
  | error f => rfl
  | ok x =>
    obtain ⟨g1, _, _⟩ := takeK_good h (by decide) hk
    show (if Vaskya.MEASURES ≤ ms.length then _ else if ms.any (fun m => m.name == nameT x.1.tok) = true then _ else _) = (if 4 ≤ ms.length then _ else if ms.any (fun m => m.name == nameT x.1.tok) = true then _ else _)
    by_cases c1 : 4 ≤ ms.length
    · rw [if_pos (show Vaskya.MEASURES ≤ ms.length from c1), if_pos c1]
    · rw [if_neg (show ¬ Vaskya.MEASURES ≤ ms.length from c1), if_neg c1]
      by_cases c2 : ms.any (fun m => m.name == nameT x.1.tok) = true
      · rw [if_pos c2, if_pos c2]
      · rw [if_neg c2, if_neg c2, way_k g1]
        cases hu : takeK ["up", "down"] x.2 with
        | error f => rfl
        | ok u =>
          obtain ⟨g2, _, _⟩ := takeK_good g1 (by decide) hu
          exact sep_k g2 (fun r => Vaskya.takeMeasures n (ms ++ [⟨nameT x.1.tok, decide (kind u.1.tok = "up")⟩]) r) (fun m => (ms ++ [⟨nameT x.1.tok, decide (kind u.1.tok = "up")⟩], m))
theorem item_step {k n : Nat} {is : List Vaskya.Item} {t : PTok} {r : Toks} (h : Good (t :: r)) :
    Vaskya.takeItems k (n + 1) is (t :: r) = if kind t.tok = "item" then (if 16 ≤ is.length then .error ⟨4, t.place⟩ else (takeK ["name"] r).bind fun x => if is.any (fun i => i.name == nameT x.1.tok) = true then .error ⟨5, x.1.place⟩ else
      (takeK [":"] x.2).bind fun y => (rowM k y.2).bind fun v => Vaskya.takeItems k n (is ++ [⟨nameT x.1.tok, v.1⟩]) v.2) else (takeK ["end"] (t :: r)).map fun _ => is := by
  have hs := h.sg t (by simp)
  show (if next .last (t :: r) = true then Except.ok is else (takeWord "item" (t :: r)).bind _) = _
  have e1 : next .last (t :: r) = decide (kind t.tok = "end") := kind_last hs
  rw [e1, takeWord_k h.sg "item" (by simp)]
  by_cases c : kind t.tok = "item"
  · have ne : ¬ kind t.tok = "end" := by rw [c]; decide
    rw [if_neg (by simpa using ne), if_pos c, takeK_pos (by simp [c])]
    have gr : Good r := h.tail ne
    show (if Vaskya.ITEMS ≤ is.length then Except.error (Fault.mk 4 t.place) else (takeName r).bind _) = (if 16 ≤ is.length then _ else _)
    by_cases c1 : 16 ≤ is.length
    · rw [if_pos (show Vaskya.ITEMS ≤ is.length from c1), if_pos c1]
    · rw [if_neg (show ¬ Vaskya.ITEMS ≤ is.length from c1), if_neg c1, takeName_k]
      cases hk : takeK ["name"] r with
      | error f => rfl
      | ok x =>
        obtain ⟨g1, _, _⟩ := takeK_good gr (by decide) hk
        show (if is.any (fun i => i.name == nameT x.1.tok) = true then _ else _) = (if is.any (fun i => i.name == nameT x.1.tok) = true then _ else _)
        by_cases c2 : is.any (fun i => i.name == nameT x.1.tok) = true
        · rw [if_pos c2, if_pos c2]
        · rw [if_neg c2, if_neg c2, takeSign_k g1.sg 58 ":" (by simp)]
          cases hy : takeK [":"] x.2 with
          | error f => rfl
          | ok y =>
            obtain ⟨g2, _, _⟩ := takeK_good g1 (by decide) hy
            show (Vaskya.takeValues k [] y.2).bind _ = ((Vaskya.takeValues k [] y.2).bind _).bind _
            cases hv : Vaskya.takeValues k [] y.2 with
            | error f => rfl
            | ok v =>
              show (takeSign 59 v.2).bind _ = ((takeK [";"] v.2).map _).bind _
              have gv : Good v.2 := by
                have : ∀ (n : Nat) (vs : List Int) (l : Toks) (v : List Int × Toks), Good l → Vaskya.takeValues n vs l = .ok v → Good v.2 := by
                  intro n
                  induction n with
                  | zero => intro vs l v g e; cases e; exact g
                  | succ n ih =>
                    intro vs l v g e
                    have e : (if vs.isEmpty = true then Except.ok l else takeSign 44 l).bind (fun r => (Vaskya.takeInt r).bind fun x => Vaskya.takeValues n (vs ++ [x.1]) x.2) = .ok v := e
                    have : ∀ r, (if vs.isEmpty = true then Except.ok l else takeSign 44 l) = .ok r → Good r := by
                      intro r hr
                      split at hr
                      · cases hr; exact g
                      · rw [takeSign_k g.sg 44 "," (by simp)] at hr
                        cases hq : takeK [","] l with
                        | error f => rw [hq] at hr; cases hr
                        | ok z => rw [hq] at hr; cases hr; exact (takeK_good g (by decide) hq).1
                    cases hr : (if vs.isEmpty = true then Except.ok l else takeSign 44 l) with
                    | error f => rw [hr] at e; cases e
                    | ok r =>
                      rw [hr] at e
                      have g2 := this r hr
                      cases hi : Vaskya.takeInt r with
                      | error f =>
                        have e : (Vaskya.takeInt r).bind (fun x => Vaskya.takeValues n (vs ++ [x.1]) x.2) = .ok v := e
                        rw [hi] at e; cases e
                      | ok x =>
                        have e : (Vaskya.takeInt r).bind (fun x => Vaskya.takeValues n (vs ++ [x.1]) x.2) = .ok v := e
                        rw [hi] at e
                        exact ih _ _ _ (takeInt_good g2 hi).1 e
                exact this k [] y.2 v g2 hv
              rw [takeSign_k gv.sg 59 ";" (by simp)]
              cases takeK [";"] v.2 <;> rfl
  · rw [if_neg c]
    by_cases d : kind t.tok = "end"
    · rw [if_pos (decide_eq_true d), takeK_pos (by simp [d])]; rfl
    · rw [if_neg (by simpa using d), takeK_neg (by simp [c]), takeK_neg (by simp [d])]; rfl
/-- the whole reading, by kinds -/
theorem read_k {b : Bytes} : Vaskya.read b = if 4096 < b.length then .error ⟨1, 4096⟩ else (LX 0 b).bind fun l => (takeK ["measures"] l).bind fun r => (Vaskya.takeMeasures (r.2.length + 1) [] r.2).bind fun x => (Vaskya.takeItems x.1.length (x.2.length + 1) [] x.2).map fun is => ⟨x.1, is⟩ := by
  unfold Vaskya.read tokens
  by_cases c : 4096 < b.length
  · rw [if_pos c, if_pos (show TEXT < b.length from c)]; rfl
  · rw [if_neg c, if_neg (show ¬ TEXT < b.length from c)]
    show (LX 0 b).bind _ = _
    cases hl : LX 0 b with
    | error f => rfl
    | ok l =>
      show (takeWord "measures" l).bind _ = (takeK ["measures"] l).bind _
      rw [takeWord_k (LX_good hl).sg "measures" (by simp)]
      cases takeK ["measures"] l <;> rfl
end BW
namespace BW
open VaskyBase
/-! ### Fractions in lowest terms are the rational numbers -/
def ofRat (q : Rat) : Frac := ⟨q.num, q.den⟩
theorem ofRat_inj {p q : Rat} (h : ofRat p = ofRat q) : p = q := by
  have h1 : p.num = q.num := congrArg Frac.num h
  have h2 : p.den = q.den := congrArg Frac.den h
  exact Rat.ext h1 h2
theorem ofRat_eq {p q : Rat} : ofRat p = ofRat q ↔ p = q := ⟨ofRat_inj, fun h => h ▸ rfl⟩
theorem frac_rat (a : Int) {b : Nat} (hb : 0 < b) : frac a b = ofRat (mkRat a b) := by
  have hg : Nat.gcd a.natAbs b ≠ 0 := Nat.ne_of_gt (Nat.gcd_pos_of_pos_right _ hb)
  have hb' : b ≠ 0 := Nat.ne_of_gt hb
  unfold frac ofRat
  simp only [hg, if_false]
  rw [Rat.num_mkRat, Rat.den_mkRat, if_neg hb', if_neg hb', Nat.gcd_comm b a.natAbs]
theorem whole_rat (n : Int) : whole n = ofRat (n : Rat) := rfl
theorem less_rat (p q : Rat) : less (ofRat p) (ofRat q) = decide (p < q) := by
  unfold less ofRat
  exact decide_eq_decide.mpr (Rat.lt_iff p q).symm
theorem less_iff {p q : Rat} : less (ofRat p) (ofRat q) = true ↔ p < q := by
  rw [less_rat]; exact decide_eq_true_iff
theorem plus_rat (p q : Rat) : plus (ofRat p) (ofRat q) = ofRat (p + q) := by
  rw [Rat.add_def']
  exact frac_rat _ (Nat.mul_pos p.den_pos q.den_pos)
theorem times_rat (p q : Rat) : times (ofRat p) (ofRat q) = ofRat (p * q) := by
  rw [Rat.mul_def']
  exact frac_rat _ (Nat.mul_pos p.den_pos q.den_pos)
theorem middle_rat (p q : Rat) : Vaskyc.middle (ofRat p) (ofRat q) = ofRat ((p + q) / 2) := by
  unfold Vaskyc.middle
  rw [plus_rat, frac_rat 1 (by decide : 0 < 2), times_rat]
  congr 1
  rw [Rat.mkRat_eq_div]
  have : ((1 : Int) : Rat) / ((2 : Nat) : Rat) = 1 / 2 := rfl
  rw [this]
  grind
theorem greatest_rat (p q : Rat) : greatest (ofRat p) (ofRat q) = ofRat (if p < q then q else p) := by
  unfold greatest
  rw [less_rat]
  by_cases h : p < q <;> simp [h]
theorem least_rat (p q : Rat) : least (ofRat p) (ofRat q) = ofRat (if q < p then q else p) := by
  unfold least
  rw [less_rat]
  by_cases h : q < p <;> simp [h]
/-! ### Lines -/
abbrev Ln := Int × Int
/-- what a line has for a share -/
def at_ (x : Ln) (t : Rat) : Rat := t * (x.1 : Rat) + (1 - t) * (x.2 : Rat)
theorem den_pos' (t : Rat) : (0 : Rat) < (t.den : Rat) := Rat.natCast_pos.mpr t.den_pos
theorem num_eq (t : Rat) : (t.num : Rat) = t * (t.den : Rat) := by
  have h : t = (t.num : Rat) / (t.den : Rat) := by rw [← Rat.mkRat_eq_div, Rat.mkRat_self]
  have h2 : (t.den : Rat) ≠ 0 := by have := den_pos' t; grind
  have h3 := Rat.div_mul_cancel (a := (t.num : Rat)) h2
  rw [← h] at h3
  exact h3.symm
theorem mixed_rat (t : Rat) (x : Ln) : ((Vaskyc.mixed (ofRat t) x : Int) : Rat) = (t.den : Rat) * at_ x t := by
  unfold Vaskyc.mixed ofRat at_
  simp only [Rat.intCast_add, Rat.intCast_mul, Rat.intCast_sub, Rat.intCast_natCast, num_eq]
  grind
theorem mixed_lt (t : Rat) (x y : Ln) : Vaskyc.mixed (ofRat t) x < Vaskyc.mixed (ofRat t) y ↔ at_ x t < at_ y t := by
  rw [← Rat.intCast_lt_intCast, mixed_rat, mixed_rat]
  exact Rat.mul_lt_mul_left (den_pos' t)
theorem mixed_le (t : Rat) (x y : Ln) : Vaskyc.mixed (ofRat t) x ≤ Vaskyc.mixed (ofRat t) y ↔ at_ x t ≤ at_ y t := by
  have h := mixed_lt t y x
  rw [← Int.not_lt, ← Rat.not_lt]
  exact not_congr h
end BW
namespace BW
open VaskyBase
/-- how far one line is ahead of another -/
def D (x y : Ln) (t : Rat) : Rat := at_ x t - at_ y t
/-- how fast it gets ahead -/
def sl (x y : Ln) : Rat := ((x.1 : Rat) - x.2) - ((y.1 : Rat) - y.2)
theorem D_from (x y : Ln) (a t : Rat) : D x y t = D x y a + (t - a) * sl x y := by
  unfold D sl at_; grind
theorem D_zero {x y : Ln} {t : Rat} (h : sl x y = 0) : D x y t = (x.2 : Rat) - y.2 := by
  unfold D at_; unfold sl at h
  have : (x.1 : Rat) = y.1 + x.2 - y.2 := by grind
  rw [this]; grind
theorem at_le {x y : Ln} {t : Rat} : at_ y t ≤ at_ x t ↔ 0 ≤ D x y t := by unfold D; grind
theorem at_lt {x y : Ln} {t : Rat} : at_ y t < at_ x t ↔ 0 < D x y t := by unfold D; grind
theorem D_neg (x y : Ln) (t : Rat) : D y x t = - D x y t := by unfold D; grind
theorem sl_neg (x y : Ln) : sl y x = - sl x y := by unfold sl; grind
theorem D_between {x y : Ln} {a b t : Rat} (h1 : a ≤ t) (h2 : t ≤ b) (ha : 0 ≤ D x y a) (hb : 0 ≤ D x y b) : 0 ≤ D x y t := by
  by_cases hs : 0 ≤ sl x y
  · rw [D_from x y a t]
    have := Rat.mul_nonneg (a := t - a) (b := sl x y) (by grind) hs
    grind
  · rw [D_from x y b t]
    have := Rat.mul_nonneg (a := b - t) (b := - sl x y) (by grind) (by grind)
    grind
theorem same_line {x y : Ln} {a b : Rat} (h : a < b) (ha : D x y a = 0) (hb : D x y b = 0) : x = y := by
  have e := D_from x y a b
  rw [ha, hb] at e
  have hs : sl x y = 0 := by
    have z : (b - a) * sl x y = 0 := by grind
    rcases Rat.mul_eq_zero.mp z with q | q
    · grind
    · exact q
  have e2 := D_zero (t := a) hs
  rw [ha] at e2
  unfold sl at hs
  have h2 : (x.2 : Rat) = y.2 := by grind
  have h1 : (x.1 : Rat) = y.1 := by grind
  exact Prod.ext (Rat.intCast_inj.mp h1) (Rat.intCast_inj.mp h2)
theorem line_of {x y : Ln} {a : Rat} (hs : sl x y = 0) (ha : D x y a = 0) : x = y :=
  same_line (a := a) (b := a + 1) (by grind) ha (by rw [D_from x y a, hs, ha]; grind)
/-- where two lines of unlike slopes meet -/
theorem meets {x y : Ln} (a : Rat) (hs : sl x y ≠ 0) : D x y (a - D x y a / sl x y) = 0 := by
  rw [D_from x y a]
  have := Rat.div_mul_cancel (a := D x y a) hs
  grind
/-- no two lines of the two meet between a and b -/
def Free2 (x y : Ln) (a b : Rat) : Prop := ∀ t, a < t → t < b → sl x y ≠ 0 → D x y t ≠ 0
theorem free_left {x y : Ln} {a b m : Rat} (h : Free2 x y a b) (h1 : a < m) (h2 : m < b) (hm : 0 ≤ D x y m) : 0 ≤ D x y a := by
  by_cases hc : 0 ≤ D x y a
  · exact hc
  exfalso
  have e := D_from x y a m
  have hs : 0 < sl x y := by
    by_cases q : 0 < sl x y
    · exact q
    have := Rat.mul_nonneg (a := m - a) (b := - sl x y) (by grind) (by grind)
    grind
  have hne : sl x y ≠ 0 := by grind
  have hz := meets (x := x) (y := y) a hne
  have hd := Rat.div_mul_cancel (a := D x y a) hne
  -- the meeting place lies above a
  have ha : a < a - D x y a / sl x y := by
    by_cases q : 0 ≤ D x y a / sl x y
    · have := Rat.mul_nonneg q (Rat.le_of_lt hs)
      grind
    · grind
  -- and no higher than m
  have hb : a - D x y a / sl x y ≤ m := by
    by_cases q : a - D x y a / sl x y ≤ m
    · exact q
    exfalso
    have := Rat.mul_pos (a := a - D x y a / sl x y - m) (b := sl x y) (by grind) hs
    grind
  exact h _ ha (by grind) hne hz
theorem free_right {x y : Ln} {a b m : Rat} (h : Free2 x y a b) (h1 : a < m) (h2 : m < b) (hm : 0 ≤ D x y m) : 0 ≤ D x y b := by
  by_cases hc : 0 ≤ D x y b
  · exact hc
  exfalso
  have e := D_from x y b m
  have hs : sl x y < 0 := by
    by_cases q : sl x y < 0
    · exact q
    have := Rat.mul_nonneg (a := b - m) (b := sl x y) (by grind) (by grind)
    grind
  have hne : sl x y ≠ 0 := by grind
  have hz := meets (x := x) (y := y) b hne
  have hd := Rat.div_mul_cancel (a := D x y b) hne
  have hb : b - D x y b / sl x y < b := by
    by_cases q : 0 < D x y b / sl x y
    · grind
    · have := Rat.mul_nonneg (a := - (D x y b / sl x y)) (b := - sl x y) (by grind) (by grind)
      grind
  have ha : m ≤ b - D x y b / sl x y := by
    by_cases q : m ≤ b - D x y b / sl x y
    · exact q
    exfalso
    have := Rat.mul_pos (a := m - (b - D x y b / sl x y)) (b := - sl x y) (by grind) (by grind)
    grind
  exact h _ (by grind) hb hne hz
/-! ### Best -/
def Best (l : List Ln) (i : Nat) (t : Rat) : Prop := ∃ x, l[i]? = some x ∧ ∀ y ∈ l, 0 ≤ D x y t
theorem Best.between {l : List Ln} {i : Nat} {a b t : Rat} (ha : Best l i a) (hb : Best l i b) (h1 : a ≤ t) (h2 : t ≤ b) : Best l i t := by
  obtain ⟨x, hx, ka⟩ := ha
  obtain ⟨x', hx', kb⟩ := hb
  rw [hx] at hx'
  cases hx'
  exact ⟨x, hx, fun y hy => D_between h1 h2 (ka y hy) (kb y hy)⟩
theorem mem_bestAt {l : List Ln} {i : Nat} {t : Rat} : i ∈ Vaskyc.bestAt l (ofRat t) ↔ Best l i t := by
  unfold Vaskyc.bestAt Best
  simp only [List.mem_filter, List.mem_range, Bool.not_eq_true', List.any_eq_false, decide_eq_true_eq, mixed_lt]
  constructor
  · rintro ⟨hi, h⟩
    refine ⟨l[i], List.getElem?_eq_getElem hi, fun y hy => ?_⟩
    have := h y hy
    have e : l.getD i (0, 0) = l[i] := by simp [List.getD, List.getElem?_eq_getElem hi]
    rw [e] at this
    exact at_le.mp (by grind)
  · rintro ⟨x, hx, h⟩
    obtain ⟨hi, e⟩ := List.getElem?_eq_some_iff.mp hx
    refine ⟨hi, fun y hy => ?_⟩
    have e2 : l.getD i (0, 0) = x := by simp [List.getD, hx]
    rw [e2]
    have := at_le.mpr (h y hy)
    grind
theorem head_range {p : Nat → Bool} {n i : Nat} : ((List.range n).filter p).head? = some i ↔ i ∈ (List.range n).filter p ∧ ∀ j < i, j ∉ (List.range n).filter p := by
  rw [List.head?_filter, List.find?_range_eq_some]
  simp only [List.mem_filter, List.mem_range]
  constructor
  · rintro ⟨h1, h2, h3⟩
    refine ⟨⟨h2, h1⟩, fun j hj hb => ?_⟩
    have := h3 j hj
    rw [hb.2] at this
    cases this
  · rintro ⟨⟨h2, h1⟩, h3⟩
    refine ⟨h1, h2, fun j hj => ?_⟩
    have z := fun c => h3 j hj ⟨Nat.lt_trans hj h2, c⟩
    cases e : p j
    · rfl
    · exact absurd e z
theorem bestAt_some {l : List Ln} {i : Nat} {t : Rat} : (Vaskyc.bestAt l (ofRat t)).head? = some i ↔ Best l i t ∧ ∀ j < i, ¬ Best l j t := by
  have key : ∀ j, j ∈ Vaskyc.bestAt l (ofRat t) ↔ Best l j t := fun j => mem_bestAt
  have h := head_range (p := fun i => !l.any fun y => decide (Vaskyc.mixed (ofRat t) (l.getD i (0, 0)) < Vaskyc.mixed (ofRat t) y)) (n := l.length) (i := i)
  refine h.trans (and_congr (key i) ?_)
  exact forall_congr' fun j => forall_congr' fun _ => not_congr (key j)
theorem best_max (t : Rat) : ∀ (l : List Ln), l ≠ [] → ∃ x ∈ l, ∀ y ∈ l, 0 ≤ D x y t
  | [], h => absurd rfl h
  | [x], _ => ⟨x, by simp, fun y hy => by simp at hy; subst hy; unfold D; grind⟩
  | x :: x' :: r, _ => by
    obtain ⟨z, hz, k⟩ := best_max t (x' :: r) (by simp)
    by_cases c : 0 ≤ D x z t
    · refine ⟨x, by simp, fun y hy => ?_⟩
      rcases List.mem_cons.mp hy with e | e
      · subst e; unfold D; grind
      · have := k y e; unfold D at *; grind
    · refine ⟨z, List.mem_cons_of_mem _ hz, fun y hy => ?_⟩
      rcases List.mem_cons.mp hy with e | e
      · subst e; unfold D at *; grind
      · exact k y e
theorem bestAt_ex {l : List Ln} (h : l ≠ []) (t : Rat) : ∃ i, (Vaskyc.bestAt l (ofRat t)).head? = some i := by
  obtain ⟨x, hx, k⟩ := best_max t l h
  obtain ⟨i, hi, e⟩ := List.mem_iff_getElem.mp hx
  have b : i ∈ Vaskyc.bestAt l (ofRat t) := mem_bestAt.mpr ⟨x, by rw [← e]; exact List.getElem?_eq_getElem hi, k⟩
  cases hh : Vaskyc.bestAt l (ofRat t) with
  | nil => rw [hh] at b; simp at b
  | cons a r => exact ⟨a, rfl⟩
theorem bestAt_nil (t : Rat) : Vaskyc.bestAt [] (ofRat t) = [] := rfl
/-- the first one with its line -/
def Canon (l : List Ln) (i : Nat) : Prop := ∀ j < i, l[j]? ≠ l[i]?
theorem canon_of_first {l : List Ln} {i : Nat} {t : Rat} (hb : Best l i t) (h : ∀ j < i, ¬ Best l j t) : Canon l i := by
  intro j hj e
  obtain ⟨x, hx, k⟩ := hb
  exact h j hj ⟨x, e.trans hx, k⟩
structure Seg (l : List Ln) (i : Nat) (a b : Rat) : Prop where
  canon : Canon l i
  left : Best l i a
  right : Best l i b
theorem D_zero_of {l : List Ln} {i j : Nat} {x y : Ln} {t : Rat} (hi : Best l i t) (hj : Best l j t) (hx : l[i]? = some x) (hy : l[j]? = some y) : D x y t = 0 := by
  obtain ⟨x', hx', kx⟩ := hi
  obtain ⟨y', hy', ky⟩ := hj
  rw [hx] at hx'; cases hx'
  rw [hy] at hy'; cases hy'
  have h1 := kx y (List.mem_of_getElem? hy)
  have h2 := ky x (List.mem_of_getElem? hx)
  rw [D_neg x y] at h2
  grind
theorem Best.line {l : List Ln} {i : Nat} {t : Rat} (h : Best l i t) : ∃ x, l[i]? = some x := ⟨h.choose, h.choose_spec.1⟩
theorem canon_eq {l : List Ln} {i j : Nat} (hi : Canon l i) (hj : Canon l j) (e : l[i]? = l[j]?) : i = j := by
  rcases Nat.lt_trichotomy i j with h | h | h
  · exact absurd e (hj i h)
  · exact h
  · exact absurd e.symm (hi j h)
theorem Seg.unique {l : List Ln} {i j : Nat} {a b : Rat} (h : a < b) (hi : Seg l i a b) (hj : Seg l j a b) : i = j := by
  obtain ⟨x, hx⟩ := hi.left.line
  obtain ⟨y, hy⟩ := hj.left.line
  have e := same_line h (D_zero_of hi.left hj.left hx hy) (D_zero_of hi.right hj.right hx hy)
  exact canon_eq hi.canon hj.canon (by rw [hx, hy, e])
theorem Seg.sub {l : List Ln} {i : Nat} {a b c d : Rat} (h : Seg l i a b) (h1 : a ≤ c) (h2 : c ≤ d) (h3 : d ≤ b) : Seg l i c d :=
  ⟨h.canon, h.left.between h.right h1 (by grind), h.left.between h.right (by grind) h3⟩
theorem Seg.join {l : List Ln} {i : Nat} {a b c d : Rat} (h : Seg l i a b) (h' : Seg l i c d) : Seg l i a d := ⟨h.canon, h.left, h'.right⟩
end BW
namespace BW
open VaskyBase
/-! ### Where two lines meet, as the document's function tells it -/
theorem D_meet (x y : Ln) (t : Rat) : D x y t = t * sl x y - (((y.2 - x.2 : Int)) : Rat) := by
  unfold D at_ sl
  simp only [Rat.intCast_sub]
  grind
theorem sl_int (x y : Ln) : sl x y = (((x.1 - y.1) + (y.2 - x.2) : Int) : Rat) := by
  unfold sl
  simp only [Rat.intCast_sub, Rat.intCast_add]
  grind
/-- the place where they meet, for unlike slopes -/
def meet (x y : Ln) : Rat := (((y.2 - x.2 : Int)) : Rat) / sl x y
theorem meet_iff {x y : Ln} (h : sl x y ≠ 0) {t : Rat} : D x y t = 0 ↔ t = meet x y := by
  rw [D_meet]
  have e := Rat.div_mul_cancel (a := (((y.2 - x.2 : Int)) : Rat)) h
  unfold meet
  constructor
  · intro q
    have : (t - (((y.2 - x.2 : Int)) : Rat) / sl x y) * sl x y = 0 := by grind
    rcases Rat.mul_eq_zero.mp this with z | z
    · grind
    · exact absurd z h
  · intro q
    rw [q]; grind
theorem meet_frac {x y : Ln} (h : sl x y ≠ 0) : (if (x.1 - y.1) + (y.2 - x.2) < 0 then frac (-(y.2 - x.2)) ((x.1 - y.1) + (y.2 - x.2)).natAbs else frac (y.2 - x.2) ((x.1 - y.1) + (y.2 - x.2)).natAbs) = ofRat (meet x y) := by
  have e := sl_int x y
  have hne : (x.1 - y.1) + (y.2 - x.2) ≠ 0 := by
    intro q; rw [q] at e; exact h e
  generalize (x.1 - y.1) + (y.2 - x.2) = d at e hne
  have hp : 0 < d.natAbs := by omega
  unfold meet
  rw [e]
  have hd : ((d : Int) : Rat) ≠ 0 := by
    intro q; exact hne (Rat.intCast_eq_zero_iff.mp q)
  have c1 := Rat.div_mul_cancel (a := (((y.2 - x.2 : Int)) : Rat)) hd
  split
  · rename_i hn
    rw [frac_rat _ hp, Rat.mkRat_eq_div]
    congr 1
    have z : ((d.natAbs : Nat) : Rat) = - ((d : Int) : Rat) := by
      rw [← Rat.intCast_natCast, show ((d.natAbs : Nat) : Int) = -d by omega, Rat.intCast_neg]
    rw [z, Rat.intCast_neg]
    have hd' : - ((d : Int) : Rat) ≠ 0 := by grind
    have c2 := Rat.div_mul_cancel (a := - (((y.2 - x.2 : Int)) : Rat)) hd'
    have : (-(((y.2 - x.2 : Int)) : Rat) / - ((d : Int) : Rat) - (((y.2 - x.2 : Int)) : Rat) / ((d : Int) : Rat)) * ((d : Int) : Rat) = 0 := by grind
    rcases Rat.mul_eq_zero.mp this with q | q
    · grind
    · exact absurd q hd
  · rename_i hn
    rw [frac_rat _ hp, Rat.mkRat_eq_div]
    congr 1
    rw [← Rat.intCast_natCast, show ((d.natAbs : Nat) : Int) = d by omega]
theorem crossing_rat (x y : Ln) : Vaskyc.crossing x y = if sl x y ≠ 0 ∧ 0 < meet x y ∧ meet x y < 1 then [ofRat (meet x y)] else [] := by
  unfold Vaskyc.crossing
  by_cases h : sl x y = 0
  · have e := sl_int x y
    rw [h] at e
    have z : (x.1 - y.1) + (y.2 - x.2) = 0 := (Rat.intCast_eq_zero_iff.mp e.symm)
    simp only [z, h, if_true]
    simp
  · have e := sl_int x y
    have hne : ¬ (x.1 - y.1) + (y.2 - x.2) = 0 := by
      intro q; rw [q] at e; exact h e
    have mf := meet_frac h
    simp only [hne, if_false]
    rw [mf, show whole 0 = ofRat 0 from rfl, show whole 1 = ofRat 1 from rfl, less_rat, less_rat]
    simp [h]
/-! ### Marks -/
def ins (x : Rat) : List Rat → List Rat
  | [] => [x]
  | y :: r => if x = y then y :: r else if x < y then x :: y :: r else y :: ins x r
theorem ins_rat (x : Rat) : ∀ r : List Rat, Vaskyc.intoFracs (ofRat x) (r.map ofRat) = (ins x r).map ofRat
  | [] => rfl
  | y :: r => by
    show (if ofRat x = ofRat y then ofRat y :: r.map ofRat else if less (ofRat x) (ofRat y) = true then ofRat x :: ofRat y :: r.map ofRat else ofRat y :: Vaskyc.intoFracs (ofRat x) (r.map ofRat)) = _
    rw [ins_rat x r, show ins x (y :: r) = if x = y then y :: r else if x < y then x :: y :: r else y :: ins x r from rfl]
    simp only [ofRat_eq, less_iff]
    split
    · rfl
    · split <;> rfl
theorem mem_ins {x z : Rat} : ∀ {r : List Rat}, z ∈ ins x r ↔ z = x ∨ z ∈ r
  | [] => by simp [ins]
  | y :: r => by
    unfold ins
    split
    · rename_i h; subst h; simp
    · split
      · simp
      · simp only [List.mem_cons, mem_ins (r := r)]
        grind
theorem ins_sorted {x : Rat} : ∀ {r : List Rat}, r.Pairwise (· < ·) → (ins x r).Pairwise (· < ·)
  | [], _ => by simp [ins]
  | y :: r, h => by
    unfold ins
    have h1 := List.pairwise_cons.mp h
    split
    · exact h
    · split
      · rename_i hn hl
        refine List.pairwise_cons.mpr ⟨fun z hz => ?_, h⟩
        rcases List.mem_cons.mp hz with e | e
        · subst e; exact hl
        · have := h1.1 z e; grind
      · rename_i hn hl
        refine List.pairwise_cons.mpr ⟨fun z hz => ?_, ins_sorted h1.2⟩
        rcases mem_ins.mp hz with e | e
        · subst e; grind
        · exact h1.1 z e
theorem fold_ins (ts : List Rat) : ∀ (r : List Rat), r.Pairwise (· < ·) → ∃ q : List Rat, (ts.map ofRat).foldl (fun r t => Vaskyc.intoFracs t r) (r.map ofRat) = q.map ofRat ∧ q.Pairwise (· < ·) ∧ ∀ z, z ∈ q ↔ z ∈ ts ∨ z ∈ r := by
  induction ts with
  | nil => exact fun r h => ⟨r, rfl, h, fun z => by simp⟩
  | cons t ts ih =>
    intro r h
    obtain ⟨q, e, s, m⟩ := ih (ins t r) (ins_sorted h)
    refine ⟨q, ?_, s, fun z => ?_⟩
    · show (ts.map ofRat).foldl _ (Vaskyc.intoFracs (ofRat t) (r.map ofRat)) = _
      rw [ins_rat]; exact e
    · rw [m z, mem_ins]; simp only [List.mem_cons]; grind
/-- where two of the lines meet between 0 and 1 -/
def meets2 (l : List Ln) : List Rat := l.flatMap fun x => l.flatMap fun y => if sl x y ≠ 0 ∧ 0 < meet x y ∧ meet x y < 1 then [meet x y] else []
theorem crossings (l : List Ln) : (l.flatMap fun x => l.flatMap fun y => Vaskyc.crossing x y) = (meets2 l).map ofRat := by
  unfold meets2
  rw [List.map_flatMap]
  congr 1; funext x
  rw [List.map_flatMap]
  congr 1; funext y
  rw [crossing_rat]
  split <;> rfl
theorem mem_meets2 {l : List Ln} {t : Rat} : t ∈ meets2 l ↔ ∃ x ∈ l, ∃ y ∈ l, sl x y ≠ 0 ∧ D x y t = 0 ∧ 0 < t ∧ t < 1 := by
  unfold meets2
  simp only [List.mem_flatMap]
  constructor
  · rintro ⟨x, hx, y, hy, h⟩
    split at h
    · rename_i c
      simp at h
      subst h
      exact ⟨x, hx, y, hy, c.1, (meet_iff c.1).mpr rfl, c.2⟩
    · simp at h
  · rintro ⟨x, hx, y, hy, h1, h2, h3⟩
    have e := (meet_iff h1).mp h2
    refine ⟨x, hx, y, hy, ?_⟩
    rw [← e, if_pos ⟨h1, h3⟩]; simp
/-- **the marks**: in order, from 0 to 1, with each place where two lines meet -/
theorem marks_rat (l : List Ln) : ∃ q : List Rat, Vaskyc.marks l = q.map ofRat ∧ q.Pairwise (· < ·) ∧ ∀ z, z ∈ q ↔ z ∈ meets2 l ∨ z = 0 ∨ z = 1 := by
  obtain ⟨q, e, s, m⟩ := fold_ins (meets2 l) [0, 1] (by simp; decide)
  refine ⟨q, ?_, s, fun z => by rw [m z]; simp⟩
  unfold Vaskyc.marks
  rw [crossings]
  exact e
/-- no two of the lines meet between -/
def Free (l : List Ln) (a b : Rat) : Prop := ∀ x ∈ l, ∀ y ∈ l, Free2 x y a b
theorem Free.best {l : List Ln} {i : Nat} {a b m : Rat} (h : Free l a b) (h1 : a < m) (h2 : m < b) (hb : Best l i m) : Best l i a ∧ Best l i b := by
  obtain ⟨x, hx, k⟩ := hb
  have hm := List.mem_of_getElem? hx
  exact ⟨⟨x, hx, fun y hy => free_left (h x hm y hy) h1 h2 (k y hy)⟩, ⟨x, hx, fun y hy => free_right (h x hm y hy) h1 h2 (k y hy)⟩⟩
theorem Free.seg {l : List Ln} {i : Nat} {a b : Rat} (h : Free l a b) (hab : a < b) (e : (Vaskyc.bestAt l (ofRat ((a + b) / 2))).head? = some i) : Seg l i a b := by
  obtain ⟨b1, b2⟩ := bestAt_some.mp e
  obtain ⟨c1, c2⟩ := h.best (by grind) (by grind) b1
  exact ⟨canon_of_first b1 b2, c1, c2⟩
/-! ### Pieces -/
open Vaskyc (Piece)
/-- pieces that follow one another from a to b, each as long as can be -/
def Chain (l : List Ln) : Rat → Rat → List Piece → Prop
  | a, b, [] => a = b
  | a, b, p :: r => ∃ c, p = ⟨p.i, ofRat a, ofRat c⟩ ∧ a < c ∧ Seg l p.i a c ∧ (∀ q ∈ r.head?, q.i ≠ p.i) ∧ Chain l c b r
theorem Chain.le {l : List Ln} : ∀ {r : List Piece} {a b : Rat}, Chain l a b r → a ≤ b
  | [], a, b, h => by have : a = b := h; grind
  | p :: r, a, b, ⟨c, _, h1, _, _, h2⟩ => by have := Chain.le h2; grind
theorem Chain.nil_of {l : List Ln} : ∀ {r : List Piece} {a : Rat}, Chain l a a r → r = []
  | [], _, _ => rfl
  | p :: r, a, ⟨c, _, h1, _, _, h2⟩ => by have := Chain.le h2; grind
theorem Chain.unique {l : List Ln} : ∀ {r s : List Piece} {a b : Rat}, Chain l a b r → Chain l a b s → r = s
  | [], s, a, b, h, h' => by
    have e : a = b := h
    subst e
    exact (Chain.nil_of h').symm
  | r, [], a, b, h, h' => by
    have e : a = b := h'
    subst e
    exact Chain.nil_of h
  | p :: r, q :: s, a, b, ⟨c, e1, c1, s1, n1, k1⟩, ⟨d, e2, c2, s2, n2, k2⟩ => by
    have main : ∀ {p q : Piece} {r : List Piece} {c d : Rat}, a < c → c < d → d ≤ b → Seg l p.i a c → Seg l q.i a d → (∀ q ∈ r.head?, q.i ≠ p.i) → Chain l c b r → False := by
      intro p q r c d ac cd db sp sq n k
      have e : p.i = q.i := Seg.unique ac sp (sq.sub (Rat.le_refl) (by grind) (by grind))
      cases r with
      | nil =>
        have : c = b := k
        grind
      | cons u r =>
        obtain ⟨f, _, cf, su, _, ku⟩ := k
        have hne := n u rfl
        by_cases hfd : f ≤ d
        · exact hne (e ▸ Seg.unique cf su (sq.sub (by grind) (by grind) hfd))
        · exact hne (e ▸ Seg.unique cd (su.sub (Rat.le_refl) (by grind) (by grind)) (sq.sub (by grind) (by grind) (Rat.le_refl)))
    have hcd : c = d := by
      by_cases h1 : c < d
      · exact (main c1 h1 (Chain.le k2) s1 s2 n1 k1).elim
      · by_cases h2 : d < c
        · exact (main c2 h2 (Chain.le k1) s2 s1 n2 k2).elim
        · grind
    subst hcd
    have hi : p.i = q.i := Seg.unique c1 s1 s2
    have hr := Chain.unique k1 k2
    rw [e1, e2, hi, hr]
end BW
namespace BW
open VaskyBase
open Vaskyc (Piece)
/-! ### The document's pieces are such a chain -/
theorem put_nil (p : Piece) : Vaskyc.putPiece [] p = [p] := rfl
theorem put_one (q p : Piece) : Vaskyc.putPiece [q] p = if q.i = p.i then [⟨q.i, q.from_, p.to⟩] else [q, p] := rfl
theorem put_cons (q q' : Piece) (r : List Piece) (p : Piece) : Vaskyc.putPiece (q :: q' :: r) p = q :: Vaskyc.putPiece (q' :: r) p := by
  unfold Vaskyc.putPiece
  have e : (q :: q' :: r).getLast? = (q' :: r).getLast? := by simp
  rw [e]
  cases hz : (q' :: r).getLast? with
  | none => simp at hz
  | some z =>
    simp only
    split
    · simp
    · rfl
theorem put_head : ∀ (r : List Piece) (q p : Piece), ((Vaskyc.putPiece (q :: r) p).head?.map fun u => u.i) = some q.i
  | [], q, p => by rw [put_one]; split <;> rfl
  | q' :: r, q, p => by rw [put_cons]; rfl
theorem Chain.put {l : List Ln} {i : Nat} {c : Rat} : ∀ {r : List Piece} {a b : Rat}, Chain l a b r → b < c → Seg l i b c → Chain l a c (Vaskyc.putPiece r ⟨i, ofRat b, ofRat c⟩)
  | [], a, b, h, hc, hs => by
    have e : a = b := h
    subst e
    exact ⟨c, rfl, hc, hs, by simp, rfl⟩
  | [q], a, b, ⟨d, e, h1, s1, n1, k1⟩, hc, hs => by
    have e2 : d = b := k1
    subst e2
    rw [put_one]
    split
    · rename_i hi
      have hi : q.i = i := hi
      refine ⟨c, ?_, by grind, ?_, by simp, rfl⟩
      · rw [e]
      · show Seg l q.i a c
        rw [← hi] at hs
        exact s1.join hs
    · rename_i hi
      refine ⟨d, e, h1, s1, ?_, c, rfl, hc, hs, by simp, rfl⟩
      intro u hu
      simp at hu
      subst hu
      exact fun z => hi z.symm
  | q :: q' :: r, a, b, ⟨d, e, h1, s1, n1, k1⟩, hc, hs => by
    rw [put_cons]
    refine ⟨d, e, h1, s1, fun u hu => ?_, Chain.put k1 hc hs⟩
    have := put_head r q' ⟨i, ofRat b, ofRat c⟩
    rw [Option.mem_def.mp hu] at this
    have z : u.i = q'.i := by simpa using this
    rw [z]
    exact n1 q' rfl
/-- the step of the document's fold -/
def pstep (l : List Ln) (r : List Piece) (x : Frac × Frac) : List Piece := match (Vaskyc.bestAt l (Vaskyc.middle x.1 x.2)).head? with
  | some i => Vaskyc.putPiece r ⟨i, x.1, x.2⟩
  | none => r
theorem pieces_def (l : List Ln) : Vaskyc.pieces l = ((Vaskyc.marks l).zip ((Vaskyc.marks l).drop 1)).foldl (pstep l) [] := rfl
theorem fold_chain {l : List Ln} (hl : l ≠ []) (a0 : Rat) : ∀ (qs : List Rat) (a : Rat) (r : List Piece), (a :: qs).Pairwise (· < ·) → Chain l a0 a r →
    (∀ u v, u ∈ a :: qs → v ∈ a :: qs → u < v → (∀ z ∈ a :: qs, ¬ (u < z ∧ z < v)) → Free l u v) →
    Chain l a0 ((a :: qs).getLast (by simp)) ((((a :: qs).map ofRat).zip (qs.map ofRat)).foldl (pstep l) r)
  | [], a, r, _, h, _ => h
  | b :: qs, a, r, hp, h, hf => by
    have h1 := List.pairwise_cons.mp hp
    have h2 := List.pairwise_cons.mp h1.2
    have hab : a < b := h1.1 b (by simp)
    have fr : Free l a b := hf a b (by simp) (by simp) hab (by
      intro z hz ⟨c1, c2⟩
      rcases List.mem_cons.mp hz with e | e
      · grind
      · rcases List.mem_cons.mp e with e | e
        · grind
        · have := h2.1 z e; grind)
    obtain ⟨i, hi⟩ := bestAt_ex hl ((a + b) / 2)
    have st : pstep l r (ofRat a, ofRat b) = Vaskyc.putPiece r ⟨i, ofRat a, ofRat b⟩ := by
      unfold pstep
      rw [middle_rat, hi]
    show Chain l a0 ((b :: qs).getLast (by simp)) ((((b :: qs).map ofRat).zip (qs.map ofRat)).foldl (pstep l) (pstep l r (ofRat a, ofRat b)))
    rw [st]
    refine fold_chain hl a0 qs b _ h1.2 (h.put hab (fr.seg hab hi)) fun u v hu hv huv hz => hf u v (List.mem_cons_of_mem _ hu) (List.mem_cons_of_mem _ hv) huv ?_
    intro z hz' ⟨c1, c2⟩
    rcases List.mem_cons.mp hz' with e | e
    · subst e
      rcases List.mem_cons.mp hu with e' | e'
      · subst e'; grind
      · have := h2.1 u e'; grind
    · exact hz z e ⟨c1, c2⟩
theorem sorted_head {q : List Rat} {z : Rat} (s : q.Pairwise (· < ·)) (hz : z ∈ q) (hm : ∀ y ∈ q, z ≤ y) : ∃ r, q = z :: r := by
  cases q with
  | nil => simp at hz
  | cons a r =>
    have h1 := List.pairwise_cons.mp s
    rcases List.mem_cons.mp hz with e | e
    · exact ⟨r, by rw [e]⟩
    · have := h1.1 z e
      have := hm a (by simp)
      grind
theorem sorted_last : ∀ {q : List Rat} {z : Rat} (_ : q.Pairwise (· < ·)) (_ : z ∈ q) (_ : ∀ y ∈ q, y ≤ z) (hn : q ≠ []), q.getLast hn = z
  | [], _, _, hz, _, _ => by simp at hz
  | [a], z, _, hz, _, _ => by simp at hz; simp [hz]
  | a :: b :: r, z, s, hz, hm, _ => by
    have h1 := List.pairwise_cons.mp s
    have e : z ∈ b :: r := by
      rcases List.mem_cons.mp hz with e | e
      · subst e
        have := h1.1 b (by simp)
        have := hm b (by simp)
        grind
      · exact e
    rw [List.getLast_cons (by simp)]
    exact sorted_last h1.2 e (fun y hy => hm y (List.mem_cons_of_mem _ hy)) (by simp)
theorem meets2_in {l : List Ln} {z : Rat} (h : z ∈ meets2 l) : 0 < z ∧ z < 1 := by
  obtain ⟨x, _, y, _, _, _, k⟩ := mem_meets2.mp h
  exact k
/-- the marks as a list of numbers, with all that is known of them -/
structure Marks (l : List Ln) (q : List Rat) : Prop where
  eq : Vaskyc.marks l = q.map ofRat
  sorted : q.Pairwise (· < ·)
  mem : ∀ z, z ∈ q ↔ z ∈ meets2 l ∨ z = 0 ∨ z = 1
theorem Marks.lo {l : List Ln} {q : List Rat} (m : Marks l q) {z : Rat} (h : z ∈ q) : 0 ≤ z ∧ z ≤ 1 := by
  rcases (m.mem z).mp h with e | e | e
  · have := meets2_in e; grind
  · grind
  · grind
theorem Marks.free {l : List Ln} {q : List Rat} (m : Marks l q) {u v : Rat} (hu : u ∈ q) (hv : v ∈ q) (hz : ∀ z ∈ q, ¬ (u < z ∧ z < v)) : Free l u v := by
  intro x hx y hy t h1 h2 hs h0
  have a := m.lo hu
  have b := m.lo hv
  exact hz t ((m.mem t).mpr (.inl (mem_meets2.mpr ⟨x, hx, y, hy, hs, h0, by grind, by grind⟩))) ⟨h1, h2⟩
theorem pieces_chain {l : List Ln} (hl : l ≠ []) : Chain l 0 1 (Vaskyc.pieces l) := by
  obtain ⟨q, e, s, m⟩ := marks_rat l
  have M : Marks l q := ⟨e, s, m⟩
  obtain ⟨r, rfl⟩ := sorted_head s ((m 0).mpr (.inr (.inl rfl))) (fun y hy => (M.lo hy).1)
  have hlast := sorted_last s ((m 1).mpr (.inr (.inr rfl))) (fun y hy => (M.lo hy).2) (by simp)
  have k := fold_chain hl 0 r 0 [] s rfl (fun u v hu hv _ hz => M.free hu hv hz)
  rw [hlast] at k
  rw [pieces_def, e]
  exact k
/-- within shares left -/
theorem clip_rat (lo hi a c : Rat) (i : Nat) : Vaskyz.clip (ofRat lo) (ofRat hi) ⟨i, ofRat a, ofRat c⟩ = if (if lo < a then a else lo) < (if c < hi then c else hi) then some ⟨i, ofRat (if lo < a then a else lo), ofRat (if c < hi then c else hi)⟩ else none := by
  unfold Vaskyz.clip
  simp only [greatest_rat, least_rat, less_iff]
theorem Chain.clip {l : List Ln} {lo hi : Rat} : ∀ {r : List Piece} {a b : Rat}, Chain l a b r → hi ≤ b →
    (((if lo < a then a else lo) < hi → Chain l (if lo < a then a else lo) hi (r.filterMap (Vaskyz.clip (ofRat lo) (ofRat hi)))) ∧
    (hi ≤ (if lo < a then a else lo) → r.filterMap (Vaskyz.clip (ofRat lo) (ofRat hi)) = []))
  | [], a, b, h, hb => by
    have e : a = b := h
    subst e
    refine ⟨fun q => ?_, fun _ => rfl⟩
    split at q <;> grind
  | p :: r, a, b, ⟨c, e, h1, s1, n1, k1⟩, hb => by
    obtain ⟨i1, i2⟩ := Chain.clip (lo := lo) (hi := hi) k1 hb
    have hc : Vaskyz.clip (ofRat lo) (ofRat hi) p = if (if lo < a then a else lo) < (if c < hi then c else hi) then some ⟨p.i, ofRat (if lo < a then a else lo), ofRat (if c < hi then c else hi)⟩ else none := by
      conv => lhs; rw [e]
      exact clip_rat lo hi a c p.i
    generalize hs : (if lo < a then a else lo) = s at hc ⊢
    have hsa : a ≤ s ∧ lo ≤ s ∧ (s = a ∨ s = lo) := by subst hs; split <;> grind
    constructor
    · intro hsh
      by_cases hcs : s < c
      · have t : s < (if c < hi then c else hi) := by split <;> grind
        rw [if_pos t] at hc
        rw [List.filterMap_cons_some hc]
        have hlc : (if lo < c then c else lo) = c := by split <;> grind
        rw [hlc] at i1 i2
        by_cases hch : c < hi
        · rw [if_pos hch] at *
          refine ⟨c, rfl, hcs, s1.sub hsa.1 (by grind) (by grind), ?_, i1 hch⟩
          intro q hq
          cases r with
          | nil => simp at hq
          | cons u r =>
            have hu := n1 u rfl
            obtain ⟨f, eu, cf, _, _, _⟩ := k1
            have cu : Vaskyz.clip (ofRat lo) (ofRat hi) u = some ⟨u.i, ofRat c, ofRat (if f < hi then f else hi)⟩ := by
              conv => lhs; rw [eu]
              rw [clip_rat, hlc, if_pos]
              split <;> grind
            rw [List.filterMap_cons_some cu] at hq
            simp at hq
            rw [← hq]
            exact hu
        · rw [if_neg hch] at *
          have hh : hi ≤ c := by grind
          rw [i2 hh]
          exact ⟨hi, rfl, hsh, s1.sub hsa.1 (by grind) (by grind), by simp, rfl⟩
      · have t : ¬ s < (if c < hi then c else hi) := by split <;> grind
        rw [if_neg t] at hc
        rw [List.filterMap_cons_none hc]
        have : (if lo < c then c else lo) = s := by split <;> grind
        rw [this] at i1
        exact i1 hsh
    · intro hsh
      have t : ¬ s < (if c < hi then c else hi) := by split <;> grind
      rw [if_neg t] at hc
      rw [List.filterMap_cons_none hc]
      refine i2 ?_
      split <;> grind
/-- **the document's pieces of the shares left** -/
theorem clip_chain {l : List Ln} (hl : l ≠ []) {lo hi : Rat} (h0 : 0 ≤ lo) (h1 : hi ≤ 1) (h : lo < hi) : Chain l lo hi ((Vaskyc.pieces l).filterMap (Vaskyz.clip (ofRat lo) (ofRat hi))) := by
  have k := (Chain.clip (lo := lo) (hi := hi) (pieces_chain hl) h1).1
  have e : (if lo < 0 then 0 else lo) = lo := by split <;> grind
  rw [e] at k
  exact k h
theorem pieces_nil : Vaskyc.pieces [] = [] := by decide
end BW
set_option linter.unusedSimpArgs false
namespace BW
open VaskyBase
open Vaskyc (Piece)
/-! ### What the program's loop finds: the head of the chain, and its end -/
def slopeI (x : Ln) : Int := x.1 - x.2
theorem sl_slope (x y : Ln) : sl x y = ((slopeI x - slopeI y : Int) : Rat) := by
  unfold sl slopeI
  simp only [Rat.intCast_sub]
theorem sl_pos {x y : Ln} : 0 < sl x y ↔ slopeI y < slopeI x := by
  rw [sl_slope, Rat.intCast_pos]; omega
theorem sl_nonneg {x y : Ln} : 0 ≤ sl x y ↔ slopeI y ≤ slopeI x := by
  rw [sl_slope, Rat.intCast_nonneg]; omega
theorem sl_eq {x y : Ln} : sl x y = 0 ↔ slopeI y = slopeI x := by
  rw [sl_slope, Rat.intCast_eq_zero_iff]; omega
/-- w is the first of those that have most at s, and of these the steepest -/
structure Above (l : List Ln) (s : Rat) (w : Nat) (x : Ln) : Prop where
  here : l[w]? = some x
  most : ∀ y ∈ l, D y x s < 0 ∨ (D y x s = 0 ∧ slopeI y ≤ slopeI x)
  first : ∀ j < w, ∀ y, l[j]? = some y → D y x s < 0 ∨ (D y x s = 0 ∧ slopeI y < slopeI x)
theorem Above.head {l : List Ln} {s hi : Rat} {w : Nat} {x : Ln} {p : Piece} {r : List Piece} (k : Chain l s hi (p :: r)) (h : Above l s w x) : w = p.i := by
  obtain ⟨c, e, sc, sg, _, _⟩ := k
  obtain ⟨z, hz, kz⟩ := sg.left
  obtain ⟨z', hz', kz'⟩ := sg.right
  rw [hz] at hz'; cases hz'
  have hxm := List.mem_of_getElem? h.here
  have hzm := List.mem_of_getElem? hz
  -- x and z have the same at s, and the same slope
  have a1 := kz x hxm
  have d0 : D z x s = 0 := by
    rcases h.most z hzm with q | q
    · grind
    · exact q.1
  have a2 := kz' x hxm
  rw [D_from z x s c, d0] at a2
  have hs : 0 ≤ sl z x := by
    by_cases q : 0 ≤ sl z x
    · exact q
    have := Rat.mul_pos (a := c - s) (b := - sl z x) (by grind) (by grind)
    grind
  have s1 := sl_nonneg.mp hs
  have s2 : slopeI z ≤ slopeI x := by
    rcases h.most z hzm with q | q
    · grind
    · exact q.2
  have e1 : z = x := line_of (sl_eq.mpr (by omega)) d0
  subst e1
  refine canon_eq ?_ sg.canon (by rw [h.here, hz])
  intro j hj q
  rw [h.here] at q
  rcases h.first j hj z q with u | u
  · grind
  · omega
/-- the program's search for the piece's end -/
def endStep (x : Ln) (e : Rat) (y : Ln) : Rat := if slopeI x < slopeI y then (if meet y x < e then meet y x else e) else e
def endOf (l : List Ln) (x : Ln) (last : Rat) : Rat := l.foldl (endStep x) last
theorem endOf_le (x : Ln) : ∀ (l : List Ln) (last : Rat), endOf l x last ≤ last ∧ ∀ y ∈ l, slopeI x < slopeI y → endOf l x last ≤ meet y x
  | [], last => ⟨Rat.le_refl, by simp⟩
  | y :: l, last => by
    obtain ⟨h1, h2⟩ := endOf_le x l (endStep x last y)
    have q : endStep x last y ≤ last := by unfold endStep; split <;> grind
    refine ⟨?_, fun z hz hs => ?_⟩
    · show endOf l x (endStep x last y) ≤ last
      grind
    · show endOf l x (endStep x last y) ≤ meet z x
      rcases List.mem_cons.mp hz with e | e
      · subst e
        have : endStep x last z ≤ meet z x := by unfold endStep; rw [if_pos hs]; split <;> grind
        grind
      · exact h2 z e hs
theorem endOf_ge (x : Ln) {c : Rat} : ∀ (l : List Ln) (last : Rat), c ≤ last → (∀ y ∈ l, slopeI x < slopeI y → c ≤ meet y x) → c ≤ endOf l x last
  | [], _, h, _ => h
  | y :: l, last, h, k => by
    refine endOf_ge x l (endStep x last y) ?_ fun z hz => k z (List.mem_cons_of_mem _ hz)
    unfold endStep
    split
    · rename_i hs
      have := k y (by simp) hs
      split <;> grind
    · exact h
theorem Chain.end {l : List Ln} {s hi : Rat} {x : Ln} {p : Piece} {r : List Piece} (k : Chain l s hi (p :: r)) (hx : l[p.i]? = some x) : p.to = ofRat (endOf l x hi) ∧ s < endOf l x hi ∧ Chain l (endOf l x hi) hi r := by
  obtain ⟨c, e, sc, sg, nr, kr⟩ := k
  suffices hc : endOf l x hi = c by
    rw [hc]
    exact ⟨by rw [e], sc, kr⟩
  obtain ⟨z', hz', kz'⟩ := sg.right
  rw [hx] at hz'; cases hz'
  have chi := Chain.le kr
  -- no end before c
  have ge : c ≤ endOf l x hi := by
    refine endOf_ge x l hi chi fun y hy hs => ?_
    have a := kz' y hy
    have sp := sl_pos.mpr hs
    have hz := (meet_iff (x := y) (y := x) (t := meet y x) (by grind)).mpr rfl
    have f := D_from y x (meet y x) c
    rw [hz] at f
    rw [D_neg y x] at a
    by_cases q : c ≤ meet y x
    · exact q
    have := Rat.mul_pos (a := c - meet y x) (b := sl y x) (by grind) sp
    grind
  cases r with
  | nil =>
    have : c = hi := kr
    have := (endOf_le x l hi).1
    grind
  | cons q r =>
    obtain ⟨d, eq, cd, sq, _, _⟩ := kr
    have hne := nr q rfl
    obtain ⟨y, hy⟩ := sq.left.line
    have d0 : D y x c = 0 := D_zero_of sq.left sg.right hy hx
    obtain ⟨y', hy', ky⟩ := sq.right
    rw [hy] at hy'; cases hy'
    have a2 := ky x (List.mem_of_getElem? hx)
    have f := D_from y x c d
    rw [d0] at f
    have nn : sl y x ≠ 0 := fun z => hne (canon_eq sq.canon sg.canon (by rw [hy, hx, line_of z d0]))
    have sp : 0 < sl y x := by
      by_cases u : 0 < sl y x
      · exact u
      have := Rat.mul_pos (a := d - c) (b := - sl y x) (by grind) (by grind)
      grind
    have m : c = meet y x := (meet_iff nn).mp d0
    have := (endOf_le x l hi).2 y (List.mem_of_getElem? hy) (sl_pos.mp sp)
    grind
/-! ### What may be best -/
theorem maybe_iff {l : List Ln} {i : Nat} {lo hi : Rat} (h0 : 0 ≤ lo) (h : lo ≤ hi) (h1 : hi ≤ 1) :
    (match Vaskyc.sharesOf l i with
      | none => false
      | some x => !less x.2 (ofRat lo) && !less (ofRat hi) x.1) = true ↔ ∃ t, lo ≤ t ∧ t ≤ hi ∧ Best l i t := by
  obtain ⟨q, e, s, m⟩ := marks_rat l
  have M : Marks l q := ⟨e, s, m⟩
  unfold Vaskyc.sharesOf
  have ef : (Vaskyc.marks l).filter (fun t => (Vaskyc.bestAt l t).contains i) = (q.filter fun t => (Vaskyc.bestAt l (ofRat t)).contains i).map ofRat := by
    rw [e, List.filter_map]; rfl
  simp only [ef]
  have memf : ∀ t, t ∈ q.filter (fun t => (Vaskyc.bestAt l (ofRat t)).contains i) ↔ t ∈ q ∧ Best l i t := by
    intro t
    rw [List.mem_filter, List.contains_iff_mem, mem_bestAt]
  have sf : (q.filter fun t => (Vaskyc.bestAt l (ofRat t)).contains i).Pairwise (· < ·) := s.filter _
  generalize hf : (q.filter fun t => (Vaskyc.bestAt l (ofRat t)).contains i) = f at memf sf
  -- a share for which i is best lies between two marks for which it is
  have near : ∀ t, 0 ≤ t → t ≤ 1 → Best l i t → (∃ u ∈ f, u ≤ t) ∧ (∃ v ∈ f, t ≤ v) := by
    intro t t0 t1 hb
    by_cases ht : t ∈ q
    · exact ⟨⟨t, (memf t).mpr ⟨ht, hb⟩, Rat.le_refl⟩, ⟨t, (memf t).mpr ⟨ht, hb⟩, Rat.le_refl⟩⟩
    · -- the greatest mark below, the least above
      have below : ∀ (q : List Rat), (∃ z ∈ q, z < t) → ∃ u ∈ q, u < t ∧ ∀ z ∈ q, z < t → z ≤ u := by
        intro q
        induction q with
        | nil => rintro ⟨z, hz, _⟩; simp at hz
        | cons a q ih =>
          rintro ⟨z, hz, hlt⟩
          by_cases hq : ∃ z ∈ q, z < t
          · obtain ⟨u, hu, h1, h2⟩ := ih hq
            by_cases c : a < t ∧ u < a
            · refine ⟨a, by simp, c.1, fun z hz hzt => ?_⟩
              rcases List.mem_cons.mp hz with e | e
              · grind
              · have := h2 z e hzt; grind
            · refine ⟨u, List.mem_cons_of_mem _ hu, h1, fun z hz hzt => ?_⟩
              rcases List.mem_cons.mp hz with e | e
              · subst e; grind
              · exact h2 z e hzt
          · have ea : z = a := by
              rcases List.mem_cons.mp hz with e | e
              · exact e
              · exact absurd ⟨z, e, hlt⟩ hq
            subst ea
            refine ⟨z, by simp, hlt, fun y hy hyt => ?_⟩
            rcases List.mem_cons.mp hy with e | e
            · grind
            · exact absurd ⟨y, e, hyt⟩ hq
      have above : ∀ (q : List Rat), (∃ z ∈ q, t < z) → ∃ u ∈ q, t < u ∧ ∀ z ∈ q, t < z → u ≤ z := by
        intro q
        induction q with
        | nil => rintro ⟨z, hz, _⟩; simp at hz
        | cons a q ih =>
          rintro ⟨z, hz, hlt⟩
          by_cases hq : ∃ z ∈ q, t < z
          · obtain ⟨u, hu, h1, h2⟩ := ih hq
            by_cases c : t < a ∧ a < u
            · refine ⟨a, by simp, c.1, fun z hz hzt => ?_⟩
              rcases List.mem_cons.mp hz with e | e
              · grind
              · have := h2 z e hzt; grind
            · refine ⟨u, List.mem_cons_of_mem _ hu, h1, fun z hz hzt => ?_⟩
              rcases List.mem_cons.mp hz with e | e
              · subst e; grind
              · exact h2 z e hzt
          · have ea : z = a := by
              rcases List.mem_cons.mp hz with e | e
              · exact e
              · exact absurd ⟨z, e, hlt⟩ hq
            subst ea
            refine ⟨z, by simp, hlt, fun y hy hyt => ?_⟩
            rcases List.mem_cons.mp hy with e | e
            · grind
            · exact absurd ⟨y, e, hyt⟩ hq
      have q0 : (0 : Rat) ∈ q := (m 0).mpr (.inr (.inl rfl))
      have q1 : (1 : Rat) ∈ q := (m 1).mpr (.inr (.inr rfl))
      obtain ⟨u, hu, ut, ku⟩ := below q ⟨0, q0, by
        rcases Rat.le_iff_lt_or_eq.mp t0 with z | z
        · exact z
        · rw [← z] at ht; exact absurd q0 ht⟩
      obtain ⟨v, hv, tv, kv⟩ := above q ⟨1, q1, by
        rcases Rat.le_iff_lt_or_eq.mp t1 with z | z
        · exact z
        · rw [z] at ht; exact absurd q1 ht⟩
      have fr : Free l u v := M.free hu hv fun z hz ⟨c1, c2⟩ => by
        by_cases zt : z < t
        · have := ku z hz zt; grind
        · by_cases zt' : t < z
          · have := kv z hz zt'; grind
          · have : z = t := by grind
            exact ht (this ▸ hz)
      obtain ⟨b1, b2⟩ := fr.best ut tv hb
      exact ⟨⟨u, (memf u).mpr ⟨hu, b1⟩, Rat.le_of_lt ut⟩, ⟨v, (memf v).mpr ⟨hv, b2⟩, Rat.le_of_lt tv⟩⟩
  cases f with
  | nil =>
    simp only [List.map_nil, List.head?_nil]
    constructor
    · intro z; cases z
    · rintro ⟨t, a, b, hb⟩
      obtain ⟨u, hu, _⟩ := (near t (by grind) (by grind) hb).1
      simp at hu
  | cons a f =>
    have hlast : ((a :: f).map ofRat).getLast? = some (ofRat ((a :: f).getLast (by simp))) := by
      rw [List.getLast?_eq_some_getLast (by simp)]
      rw [List.getLast_map]
    have hl : (a :: f).getLast (by simp) ∈ a :: f := List.getLast_mem _
    have hmax : ∀ z ∈ a :: f, z ≤ (a :: f).getLast (by simp) := by
      have : ∀ (f : List Rat) (a : Rat), (a :: f).Pairwise (· < ·) → ∀ z ∈ a :: f, z ≤ (a :: f).getLast (by simp) := by
        intro f
        induction f with
        | nil => intro a _ z hz; simp at hz; subst hz; exact Rat.le_refl
        | cons b f ih =>
          intro a hp z hz
          have h1 := List.pairwise_cons.mp hp
          rw [List.getLast_cons (by simp)]
          rcases List.mem_cons.mp hz with e | e
          · subst e
            have := h1.1 b (by simp)
            have := ih b h1.2 b (by simp)
            grind
          · exact ih b h1.2 z e
      exact this f a sf
    generalize (a :: f).getLast (by simp) = z at hlast hl hmax
    have hmin : ∀ y ∈ a :: f, a ≤ y := by
      intro y hy
      rcases List.mem_cons.mp hy with e | e
      · grind
      · have := (List.pairwise_cons.mp sf).1 y e; grind
    simp only [hlast]
    show (!less (ofRat z) (ofRat lo) && !less (ofRat hi) (ofRat a)) = true ↔ _
    rw [less_rat, less_rat]
    have ba := ((memf a).mp (by simp)).2
    have bz := ((memf z).mp hl).2
    have az := hmin z hl
    constructor
    · intro hh
      have c1 : ¬ z < lo := by intro c; simp [c] at hh
      have c2 : ¬ hi < a := by intro c; simp [c] at hh
      refine ⟨if lo < a then a else lo, by split <;> grind, by split <;> grind, ?_⟩
      exact ba.between bz (by split <;> grind) (by split <;> grind)
    · rintro ⟨t, t0, t1, hb⟩
      obtain ⟨⟨u, hu, ut⟩, ⟨v, hv, tv⟩⟩ := near t (by grind) (by grind) hb
      have c1 : ¬ z < lo := by have := hmax v hv; grind
      have c2 : ¬ hi < a := by have := hmin u hu; grind
      simp [c1, c2]
/-! ### Liking -/
theorem ahead_sign (t : Rat) (x y : Ln) : (0 ≤ Vaskyz.ahead (ofRat t) x y ↔ 0 ≤ D x y t) ∧ (Vaskyz.ahead (ofRat t) x y < 0 ↔ D x y t < 0) := by
  unfold Vaskyz.ahead
  have a := mixed_le t y x
  have b := mixed_lt t x y
  have c := at_le (x := x) (y := y) (t := t)
  have d := at_lt (x := y) (y := x) (t := t)
  rw [D_neg x y] at d
  constructor
  · rw [Int.sub_nonneg, a, c]
  · have : Vaskyc.mixed (ofRat t) x - Vaskyc.mixed (ofRat t) y < 0 ↔ Vaskyc.mixed (ofRat t) x < Vaskyc.mixed (ofRat t) y := by omega
    rw [this, b, d]; grind
/-- what the program does, over numbers -/
def likedR (lo hi : Rat) (x y : Ln) : Option (Rat × Rat) :=
  if slopeI x = slopeI y then (if y.2 ≤ x.2 then some (lo, hi) else none)
  else
    let a := if slopeI y < slopeI x then (if lo < meet x y then meet x y else lo) else lo
    let b := if slopeI y < slopeI x then hi else (if meet x y < hi then meet x y else hi)
    if b < a then none else some (a, b)
theorem liked_rat {lo hi : Rat} (h0 : 0 ≤ lo) (h : lo ≤ hi) (h1 : hi ≤ 1) (x y : Ln) :
    Vaskyz.liked (ofRat lo) (ofRat hi) x y = (likedR lo hi x y).map fun z => (ofRat z.1, ofRat z.2) := by
  have sa := ahead_sign lo x y
  have sb := ahead_sign hi x y
  unfold Vaskyz.liked
  simp only [sa.1, sa.2, sb.1, sb.2, crossing_rat]
  unfold likedR
  by_cases hs : slopeI x = slopeI y
  · have z : sl x y = 0 := sl_eq.mpr hs.symm
    have e1 := D_zero (t := lo) z
    have e2 := D_zero (t := hi) z
    rw [if_pos hs, e1, e2]
    by_cases c : y.2 ≤ x.2
    · have : (0 : Rat) ≤ (x.2 : Rat) - y.2 := by
        have := Rat.intCast_le_intCast.mpr c; grind
      simp [this, c]
    · have q : ((x.2 : Int) : Rat) < y.2 := Rat.intCast_lt_intCast.mpr (by omega)
      have : ¬ (0 : Rat) ≤ (x.2 : Rat) - y.2 := by grind
      have : (x.2 : Rat) - y.2 < 0 := by grind
      simp [*]
  · rw [if_neg hs]
    have hn : sl x y ≠ 0 := fun z => hs (sl_eq.mp z).symm
    have hm := (meet_iff (t := meet x y) hn).mpr rfl
    have fl := D_from x y (meet x y) lo
    have fh := D_from x y (meet x y) hi
    rw [hm] at fl fh
    generalize meet x y = mt at *
    by_cases hp : slopeI y < slopeI x
    · have sp := sl_pos.mpr hp
      simp only [hp, if_true]
      have i1 : 0 ≤ D x y lo ↔ mt ≤ lo := by
        rw [fl]
        constructor
        · intro c
          by_cases q : mt ≤ lo
          · exact q
          have := Rat.mul_pos (a := mt - lo) (b := sl x y) (by grind) sp
          grind
        · intro c
          have := Rat.mul_nonneg (a := lo - mt) (b := sl x y) (by grind) (by grind)
          grind
      have i2 : 0 ≤ D x y hi ↔ mt ≤ hi := by
        rw [fh]
        constructor
        · intro c
          by_cases q : mt ≤ hi
          · exact q
          have := Rat.mul_pos (a := mt - hi) (b := sl x y) (by grind) sp
          grind
        · intro c
          have := Rat.mul_nonneg (a := hi - mt) (b := sl x y) (by grind) (by grind)
          grind
      have j1 : D x y lo < 0 ↔ ¬ mt ≤ lo := by rw [← i1]; grind
      have j2 : D x y hi < 0 ↔ ¬ mt ≤ hi := by rw [← i2]; grind
      simp only [i1, i2, j1, j2]
      by_cases c1 : mt ≤ lo
      · have c2 : mt ≤ hi := by grind
        have c3 : ¬ lo < mt := by grind
        have c4 : ¬ hi < lo := by grind
        simp [c1, c2, c3, c4]
      · have c3 : lo < mt := by grind
        by_cases c2 : mt ≤ hi
        · have c4 : ¬ hi < mt := by grind
          have p0 : 0 < mt := by grind
          simp only [c1, c2, c3, c4, hn, p0, false_and, and_true, not_true, and_false, if_false, if_true, true_and, ne_eq, not_false_eq_true]
          by_cases c5 : mt < 1
          · simp [c5, c1]
          · have : mt = hi := by grind
            subst this
            simp [c5, c1]
        · have c4 : hi < mt := by grind
          simp [c1, c2, c3, c4]
    · have sn : sl x y < 0 := by
        have : ¬ 0 < sl x y := fun z => hp (sl_pos.mp z)
        grind
      simp only [hp, if_false]
      have i1 : 0 ≤ D x y lo ↔ lo ≤ mt := by
        rw [fl]
        constructor
        · intro c
          by_cases q : lo ≤ mt
          · exact q
          have := Rat.mul_pos (a := lo - mt) (b := - sl x y) (by grind) (by grind)
          grind
        · intro c
          have := Rat.mul_nonneg (a := mt - lo) (b := - sl x y) (by grind) (by grind)
          grind
      have i2 : 0 ≤ D x y hi ↔ hi ≤ mt := by
        rw [fh]
        constructor
        · intro c
          by_cases q : hi ≤ mt
          · exact q
          have := Rat.mul_pos (a := hi - mt) (b := - sl x y) (by grind) (by grind)
          grind
        · intro c
          have := Rat.mul_nonneg (a := mt - hi) (b := - sl x y) (by grind) (by grind)
          grind
      have j1 : D x y lo < 0 ↔ ¬ lo ≤ mt := by rw [← i1]; grind
      have j2 : D x y hi < 0 ↔ ¬ hi ≤ mt := by rw [← i2]; grind
      simp only [i1, i2, j1, j2]
      by_cases c1 : hi ≤ mt
      · have c2 : lo ≤ mt := by grind
        have c3 : ¬ mt < hi := by grind
        have c4 : ¬ hi < lo := by grind
        simp [c1, c2, c3, c4]
      · have c3 : mt < hi := by grind
        by_cases c2 : lo ≤ mt
        · have c4 : ¬ mt < lo := by grind
          have p1 : mt < 1 := by grind
          simp only [c1, c2, c3, c4, hn, p1, false_and, and_true, not_true, and_false, if_false, if_true, true_and, ne_eq, not_false_eq_true]
          by_cases c5 : 0 < mt
          · simp [c5]
          · have : mt = lo := by grind
            subst this
            simp [c5]
        · have c4 : mt < lo := by grind
          simp [c1, c2, c3, c4]
theorem likedR_in {lo hi : Rat} (h : lo ≤ hi) {x y : Ln} {z : Rat × Rat} (e : likedR lo hi x y = some z) : lo ≤ z.1 ∧ z.1 ≤ z.2 ∧ z.2 ≤ hi := by
  unfold likedR at e
  by_cases hs : slopeI x = slopeI y
  · rw [if_pos hs] at e
    split at e
    · cases e; exact ⟨Rat.le_refl, h, Rat.le_refl⟩
    · cases e
  · rw [if_neg hs] at e
    have key : ∀ a b : Rat, lo ≤ a → b ≤ hi → (if b < a then none else some (a, b)) = some z → lo ≤ z.1 ∧ z.1 ≤ z.2 ∧ z.2 ≤ hi := by
      intro a b ha hb q
      by_cases c : b < a
      · rw [if_pos c] at q; cases q
      · rw [if_neg c] at q; cases q; exact ⟨ha, by grind, hb⟩
    refine key _ _ ?_ ?_ e
    · split
      · split <;> grind
      · exact Rat.le_refl
    · split
      · exact Rat.le_refl
      · split <;> grind
end BW
namespace BWP
open PySem PySem.Spec PyProof.Rows L2
def topS (i : Nat) : Stmt := PySem.Challenge.pw_bestwishes_s01_answers.main.body.getD i (.Pass ⟨0, 0, 0, 0⟩)
/-! ### Small words -/
theorem ifT {c : Bool} {A B : Prop} (hc : c = true) (h : A) : if c = true then A else B := by rw [if_pos hc]; exact h
theorem ifF {c : Bool} {A B : Prop} (hc : c = false) (h : B) : if c = true then A else B := by rw [hc, if_neg Bool.false_ne_true]; exact h
theorem while_m {c : TT} {tb : TS} {D : Ends} {σ : L2.St} {H : Hp} (W : Nat → L2.St → Hp → Prop) (m0 : Nat) (w0 : W m0 σ H)
    (hs : ∀ m σ H, W m σ H → c σ H fun b H1 => if b = true then tb { D with nx := fun σ' H' => ∃ m', m' < m ∧ W m' σ' H', ct := fun σ' H' => ∃ m', m' < m ∧ W m' σ' H', bk := D.nx } σ H1 else D.nx σ H1)
    (mono : ∀ σ H Q Q', (∀ b H1, Q b H1 → Q' b H1) → c σ H Q → c σ H Q') : tWhile c tb D σ H := by
  refine ⟨W, ⟨m0, w0⟩, fun m σ H w => mono σ H _ _ (fun b H1 q => ?_) (hs m σ H w)⟩
  cases b with
  | true => exact ifT rfl ⟨_, fun σ' H' z => z, (show _ from by simpa using q)⟩
  | false => exact ifF rfl (by simpa using q)
theorem same_new {H : Hp} {p : Addr} {o : HO} (h : H p = none) : Same H (upd H p o) := fun b u e => by rw [upd_ne (ne_of_none e h)]; exact e
theorem same_upd {H H' : Hp} {p : Addr} {o : HO} (s : Same H H') (h : H p = none) : Same H (upd H' p o) := fun b u e => by rw [upd_ne (ne_of_none e h)]; exact s b u e
theorem lk0 {k : Str} {v : V} {r : List (Str × V)} : List.lookup k ((k, v) :: r) = some v := by
  have e : (k == k) = true := beq_self_eq_true k
  simp only [List.lookup, e]
theorem lk1 {k g : Str} {v : V} {r : List (Str × V)} (h : (k == g) = false) : List.lookup k ((g, v) :: r) = List.lookup k r := by simp only [List.lookup, h]
theorem at_int {ns : List Int} {i : Nat} {b : Int} (h : ns[i]? = some b) : atI (ns.map V.int) (i : Int) = some (.int b) := atI_nat (by rw [List.getElem?_map, h]; rfl)
/-! ### a def of the program's top, and what the top says of it -/
structure Dn where
  a : Addr
  fd : FuncData
structure Glb (K : PySem.W.Frag) (mg : Str → Option Value) (x : Str) (st : Stmt) (ps : List Str) (d : Dn) : Prop where
  g : mg x = some (.ref d.a)
  F : Fun K x x st d.a d.fd
  b : Binds K d.fd ps []
theorem Glb.k {K : PySem.W.Frag} {mg : Str → Option Value} {x : Str} {st : Stmt} {ps : List Str} {d : Dn} (h : Glb K mg x st ps d) : PySem.W.keepIn K (.ref d.a) = true := h.F.kp
/-- a class of records: its maker -/
structure Rec (K : PySem.W.Frag) (mg : Str → Option Value) (x q : Str) (st : Stmt) (ps : List Str) (fs : List Str) (C : Addr) (d : Dn) : Prop where
  g : mg x = some (.ref C)
  cl : Cls K C
  mkr : Mk K C d.a
  F : Fun K "__init__" q st d.a d.fd
  b : Binds K d.fd ps []
  no : ∀ f ∈ fs, NoAttr K C f
/-! ### Fault -/
abbrev s_FaultI : Stmt := inClass (topS 10) 0
structure FaultT (K : PySem.W.Frag) (mg : Str → Option Value) (C : Addr) (d : Dn) : Prop where
  g : mg "Fault" = some (.ref C)
  ox : OexC K C
  xf : XfC K C
  i : PySem.W.findIn K (.ref C) "__init__" = some (some (.ref d.a))
  t : PySem.W.typeIn K (.ref d.a) = some (.type "function")
  F : Fun K "__init__" "Fault.__init__" s_FaultI d.a d.fd
  b : Binds K d.fd ["self", "code", "place"] []
  nC : PySem.W.findIn K (.ref C) "code" = some none
  nP : PySem.W.findIn K (.ref C) "place" = some none
  ve : mg "ValueError" = none
  vi : PySem.W.findCls K (.type "ValueError") (.type "type") "__init__" = some (.val (.builtin "ValueError.__init__"))
  te : PySem.W.exmOne K (.ref C) (.ref C) = some true
def fltF (c p : Int) : List (Str × V) := [("place", .int p), ("code", .int c)]
/-- Fault.__init__: the error at a, as it is being made, gets its own dict, with both fields -/
def spFaultI (C : Addr) : Sp := fun vs H Q _ => ∃ (a : Addr) (c p : Int), vs = [.ref a, .int c, .int p] ∧ H a = some (exo a C none) ∧
  ∀ d : Addr, H d = none → d ≠ a → Q .non (upd (upd (upd H d (exd d [("code", .int c)])) a (exo a C (some d))) d (exd d (fltF c p)))
section
variable {P : Program} {w : World} {K : PySem.W.Frag} {mg : Str → Option Value} {base : Heap} {C : Addr} {d : Dn}
theorem sc_FaultI : FnScope ["self", "code", "place"] ["self", "code", "place"] (defScope s_FaultI) := ⟨rfl, rfl, rfl, by decide +kernel, rfl, by decide +kernel, by decide +kernel⟩
theorem ok_FaultI (T : FaultT K mg C d) : FnOk P w K mg base CX0 1 d.a d.fd ["self", "code", "place"] (spFaultI C) := by
  refine T.F.ok sc_FaultI (fun vs H Q E h => ?_) (fun cdv A outer s H vs Q E hr h => ?_)
  · obtain ⟨a, c, p, rfl, _⟩ := h; rfl
  · obtain ⟨a, c, p, rfl, ha, k⟩ := h
    refine ⟨_, pss_cons (ps_expr (pe_veinit rfl T.ve T.vi (pa_cons (pv 0) (pa_cons (pv 1) (pa_cons (pv 2) pa_nil))))) (pss_cons (ps_ost (pv 0) (pv 1)) (pss_one (ps_ost (pv 0) (pv 2)))), ?_⟩
    refine ⟨_, rfl, _, rfl, _, rfl, a, C, _, rfl, (by show 2 ≤ 1000; decide), T.ox, ha, ?_⟩
    refine ⟨_, rfl, _, rfl, a, C, rfl, T.ox, T.nC, .inl ⟨ha, fun dx hd ne => ?_⟩⟩
    refine ⟨_, rfl, _, rfl, a, C, rfl, T.ox, T.nP, .inr ⟨dx, _, upd_same, ?_, (by show 1 ≤ 900; decide), k dx hd ne⟩⟩
    rw [upd_ne ne]; exact upd_same
end
/-- what the making of Fault(c, p) asks: for every way out, the error's own dict d is new, all else stands -/
theorem mk_fault {C : Addr} {c p : Int} {H : Hp} {Q : XK} (k : ∀ (d : Addr) (H' : Hp), H d = none → Same H H' → H' d = some (.xd (fltF c p)) → Q (.ref C) (some d) H') :
    [V.int c, V.int p].length ≤ 1000 ∧ ∀ a, H a = none → spFaultI C (.ref a :: ([V.int c, V.int p] ++ [])) (upd H a (exo a C none))
      (fun v H2 => v = .non ∧ ∃ (d : Addr) (fs : List (Str × V)), H2 a = some (exo a C (some d)) ∧ H2 d = some (exd d fs) ∧ H d = none ∧ Q (.ref C) (some d) (upd (del H2 a) d (.xd fs))) (fun _ _ _ => False) := by
  refine ⟨(by show 2 ≤ 1000; decide), fun a na => ⟨a, c, p, rfl, upd_same, fun d hd ne => ⟨rfl, d, fltF c p, ?_, upd_same, ?_, k d _ ?_ ?_ upd_same⟩⟩⟩
  · rw [upd_ne (Ne.symm ne), upd_same]
  · rw [upd_ne ne] at hd; exact hd
  · rw [upd_ne ne] at hd; exact hd
  · intro b o e
    rw [upd_ne ne] at hd
    have hb : b ≠ a := ne_of_none e na
    have hb2 : b ≠ d := ne_of_none e hd
    rw [upd_ne hb2, del_ne hb, upd_ne hb2, upd_ne hb, upd_ne hb2, upd_ne hb]; exact e
theorem ps_fault {X : Cx} {e : Expr} {es : List Expr} {ta : TA} {W : WX} {p pos pos2 : Pos} {C : Addr} {d : Dn} {k : Nat} (hc : X.calm = true) (T : FaultT X.K X.mg C d) (hr : Room (k + 2) X.A) (tk : Takes X W) (pa : PA X (e :: es) ta) (hg : Gl X "Fault" := by rfl)
    (hs : starEach (e :: es) X.env = (false, eval e X.env) :: starEach es X.env := by rfl) (hpl : (backTo pos (starEach es X.env)).any (·.1) = false := by rfl) :
    PS X (.Raise (some (.Call (.Name "Fault" p) (e :: es) [] pos)) none pos2) (fun _ σ H => tMkO C (spFaultI C) [] ta σ H fun cls d H' => W cls d σ H') := by
  have G : FnOk X.prog X.w X.K X.mg X.base CX0 1 d.a d.fd ["self", "code", "place"] (spFaultI C) := ok_FaultI T
  exact ps_raise (pos := pos2) hc tk (pmk_oex (pos := pos) (p := p) T.ox T.i T.t G (hr.mono (by omega)) T.b .nil pass0 hg T.g pa (by decide) hs hpl)
end BWP
namespace BWP
open PySem PySem.Spec PyProof.Rows L2
open BW (isDig isLet isBla isNam isSig IsB octs toEnd sk decI)
/-! ### constants of the module -/
def Cst (mg : Str → Option Value) (x : Str) (v : V) : Prop := ∃ u, mg x = some u ∧ RelV v u
theorem pe_cst {X : Cx} {x : Str} {v : V} {pos : Pos} (hg : Gl X x) (h : Cst X.mg x v) (hd : (x == ("__debug__" : Str)) = false := by decide) : PE X (.Name x pos) (tC v) := by
  obtain ⟨u, hm, r⟩ := h
  exact pe_glob hg hm r hd
/-- a written dict with int keys -/
def IDict (K : PySem.W.Frag) (d : Addr) (f : Int → Option V) : Prop := ∃ (es : Array DictEntry) (n : Nat), K.lookup d = some ⟨.type "dict", none, .dict es n, #[]⟩ ∧ (∀ e ∈ es, ∃ k t, e.key = .int k t ∧ e.hash = hashInt k) ∧ (d == sysModules) = false ∧ ∀ k, RelO (f k) (findBy keyIs es (.inl k))
theorem IDict.map {K : PySem.W.Frag} {d : Addr} {f : Int → Option V} {P : Program} {w : World} {h : Heap} (D : IDict K d f) (X : K.In h) : ∃ g : Key → Option Value, h.MapOf (mixKind P w) d g ∧ ∀ k, RelO (f k) (g (.inl k)) := by
  obtain ⟨es, n, l, hk, _, r⟩ := D
  refine ⟨findBy keyIs es, ⟨_, es, n, X _ _ l, ⟨rfl, rfl, rfl⟩, rfl, fun e he => ?_, fun k => rfl⟩, r⟩
  obtain ⟨k, t, e1, e2⟩ := hk e he
  exact ⟨.inl k, by rw [e1]; exact keyIs_int k t, e2⟩
def rInI (d : Addr) (f : Int → Option V) : R2 := fun x y H Q => ∃ k, x = .int k ∧ y = .ref d ∧ Q (.bl (f k).isSome) H
theorem op_inI {X : Cx} {d : Addr} {f : Int → Option V} (D : IDict X.K d f) : OpR X (compareOp .In) (rInI d f) := by
  intro pins s σ H x y v u Q I rx ry h
  obtain ⟨k, rfl, rfl, q⟩ := h
  obtain ⟨t, rfl⟩ := rx
  obtain rfl : u = Value.ref d := ry
  obtain ⟨g, hm, r⟩ := D.map (P := X.prog) (w := X.w) I.kIn
  obtain ⟨_, _, _, _, low, _⟩ := D
  refine wpAny_in_of (knd := mixKind X.prog X.w) (k := Sum.inl k) (keyIs_int k t) low hm ?_
  rw [← (r k).isSome_eq]
  exact ⟨.bl _, H, I.tok _, rfl, q⟩
def rIxI (d : Addr) (f : Int → Option V) : R2 := fun x y H Q => ∃ k v, x = .ref d ∧ y = .int k ∧ f k = some v ∧ Q v H
theorem ix_I {X : Cx} {d : Addr} {f : Int → Option V} (D : IDict X.K d f) : IxR X (rIxI d f) := by
  intro value slice pins s σ H x y v u Q I rx ry h hs
  obtain ⟨k, r, rfl, rfl, e, q⟩ := h
  obtain rfl : v = Value.ref d := rx
  obtain ⟨t, rfl⟩ := ry
  obtain ⟨g, hm, rel⟩ := D.map (P := X.prog) (w := X.w) I.kIn
  obtain ⟨u0, hu0, ru⟩ := RelO.some_of (v := r) (o := g (.inl k)) (by rw [← e]; exact rel k)
  exact tail_any hm.typeIs slot_dict_getitem.lookup (wpAny_getItem_of (knd := mixKind X.prog X.w) (k := Sum.inl k) (keyIs_int k t) hm hu0 ⟨r, H, I.tok _, ru, q⟩) hs
/-! ### is_letter, is_digit -/
abbrev s_isLetter : Stmt := topS 30
abbrev s_isDigit : Stmt := topS 31
def spIsDigit : Sp := fun vs H Q _ => ∃ b : Int, vs = [.int b] ∧ Q (.bl (isDig b)) H
def spIsLetter : Sp := fun vs H Q _ => ∃ b : Int, vs = [.int b] ∧ Q (.bl (isLet b)) H
section
variable {P : Program} {w : World} {K : PySem.W.Frag} {mg : Str → Option Value} {base : Heap} {d : Dn}
theorem sc_isDigit : FnScope ["byte"] ["byte"] (defScope s_isDigit) := ⟨rfl, rfl, rfl, by decide +kernel, rfl, by decide +kernel, by decide +kernel⟩
theorem chain_le {a b c : Int} {σ : L2.St} {H : Hp} {tb : TE} {Q : VK} (hb : ∀ Q' : VK, Q' (.int b) H → tb σ H Q') (k : Q (.bl (decide (a ≤ b) && decide (b ≤ c))) H) :
    tChain (rI0 fun i j => V.bl (decide (i ≤ j))) (rI0 fun i j => V.bl (decide (i ≤ j))) (tC (.int a)) tb (tC (.int c)) σ H Q := by
  refine hb _ ⟨a, b, rfl, rfl, _, rfl, ?_⟩
  by_cases h : a ≤ b
  · refine ifT (decide_eq_true h) ⟨b, c, rfl, rfl, ?_⟩
    rw [decide_eq_true h, Bool.true_and] at k; exact k
  · refine ifF (decide_eq_false h) ?_
    rw [decide_eq_false h, Bool.false_and] at k; exact k
theorem ok_isDigit (G : Glb K mg "is_digit" s_isDigit ["byte"] d) : FnOk P w K mg base CX0 1 d.a d.fd ["byte"] spIsDigit := by
  refine G.F.ok sc_isDigit (fun vs H Q E h => ?_) (fun cdv A outer s H vs Q E hr h => ?_)
  · obtain ⟨b, rfl, _⟩ := h; rfl
  · obtain ⟨b, rfl, k⟩ := h
    refine ⟨_, pss_one (ps_ret (pe_chain op_le op_le pe_int (pv 0) pe_int)), chain_le (b := b) (fun Q' q => ⟨_, rfl, q⟩) k⟩
theorem sc_isLetter : FnScope ["byte"] ["byte"] (defScope s_isLetter) := ⟨rfl, rfl, rfl, by decide +kernel, rfl, by decide +kernel, by decide +kernel⟩
theorem ok_isLetter (G : Glb K mg "is_letter" s_isLetter ["byte"] d) : FnOk P w K mg base CX0 1 d.a d.fd ["byte"] spIsLetter := by
  refine G.F.ok sc_isLetter (fun vs H Q E h => ?_) (fun cdv A outer s H vs Q E hr h => ?_)
  · obtain ⟨b, rfl, _⟩ := h; rfl
  · obtain ⟨b, rfl, k⟩ := h
    refine ⟨_, pss_one (ps_ret (pe_or (pe_chain op_le op_le pe_int (pv 0) pe_int) (pe_one (pe_chain op_le op_le pe_int (pv 0) pe_int)))), ?_⟩
    refine chain_le (b := b) (fun Q' q => ⟨_, rfl, q⟩) ⟨_, rfl, ?_⟩
    unfold isLet at k
    cases h : (decide (65 ≤ b) && decide (b ≤ 90)) with
    | true => rw [h, Bool.true_or] at k; exact ifT rfl k
    | false => rw [h, Bool.false_or] at k; exact ifF rfl (chain_le (b := b) (fun Q' q => ⟨_, rfl, q⟩) k)
end
/-! ### line_end, skip_blanks -/
abbrev s_lineEnd : Stmt := topS 25
abbrev s_skip : Stmt := topS 24
def spLineEnd (K : PySem.W.Frag) : Sp := fun vs H Q _ => ∃ (a : Addr) (ns : List Int) (p : Nat), vs = [.ref a, .int p] ∧ SqL K H a (ns.map V.int) ∧ p ≤ ns.length ∧ Q (.int ((p + toEnd (ns.drop p) : Nat) : Int)) H
def spSkip (K : PySem.W.Frag) : Sp := fun vs H Q _ => ∃ (a : Addr) (ns : List Int) (p : Nat), vs = [.ref a, .int p] ∧ SqL K H a (ns.map V.int) ∧ p ≤ ns.length ∧ Q (.int ((p + sk false (ns.drop p) : Nat) : Int)) H
theorem drop_at {ns : List Int} {p : Nat} (h : p < ns.length) : ∃ b, ns[p]? = some b ∧ ns.drop p = b :: ns.drop (p + 1) := ⟨ns[p], List.getElem?_eq_getElem h, List.drop_eq_getElem_cons h⟩
section
variable {P : Program} {w : World} {K : PySem.W.Frag} {mg : Str → Option Value} {base : Heap} {d dE : Dn}
theorem sc_lineEnd : FnScope ["text", "place"] ["text", "place"] (defScope s_lineEnd) := ⟨rfl, rfl, rfl, by decide +kernel, rfl, by decide +kernel, by decide +kernel⟩
theorem ok_lineEnd (G : Glb K mg "line_end" s_lineEnd ["text", "place"] d) (ml : mg "len" = none) (mE : Cst mg "LINE_END" (.int 10)) : FnOk P w K mg base CX0 1 d.a d.fd ["text", "place"] (spLineEnd K) := by
  refine G.F.ok sc_lineEnd (fun vs H Q E h => ?_) (fun cdv A outer s H vs Q E hr h => ?_)
  · obtain ⟨a, ns, p, rfl, _⟩ := h; rfl
  · obtain ⟨a, ns, p, rfl, hS, hp, k⟩ := h
    refine ⟨_, pss_cons (ps_while PassesOwn.never (PW.pt (pw_and (pt_cmpR op_lt (pv 1) (pe_callB call_len_seq (by rfl) ml PySem.boot_len (pa_cons (pv 0) pa_nil)) (nomark _)) (pw_and1 (pt_cmpR op_ne (pe_ix ix_list (pv 0) (pv 1) (fun _ _ => rfl)) (pe_cst rfl mE) (nomark _)))))
        (pss_one (ps_aug (i := 1) sc_lineEnd.nd rfl (.inl rfl) pe_int ip_add))) (pss_one (ps_ret (pv 1))), ?_⟩
    refine ⟨fun m σ H' => ∃ q : Nat, σ = [some (.ref a), some (.int q)] ∧ H' = H ∧ q ≤ ns.length ∧ q + toEnd (ns.drop q) = p + toEnd (ns.drop p) ∧ m = ns.length - q, ⟨_, p, rfl, rfl, hp, rfl, rfl⟩, ?_⟩
    rintro m σ H' ⟨q, rfl, rfl, h2, h3, rfl⟩
    refine ⟨_, rfl, _, rfl, a, _, rfl, .inl hS, _, _, rfl, rfl, _, rfl, ?_⟩
    by_cases c : q < ns.length
    · refine ifT (by simpa using c) ?_
      obtain ⟨b, hb, hd⟩ := drop_at c
      refine ⟨_, rfl, _, rfl, a, _, _, _, rfl, rfl, hS, at_int hb, rfl, _, rfl, ?_⟩
      by_cases c2 : b = 10
      · refine ifF (by simp [c2]) ⟨_, rfl, ?_⟩
        have : toEnd (ns.drop q) = 0 := by rw [hd]; unfold toEnd; simp [c2]
        rw [this] at h3
        rw [← h3] at k; exact k
      · refine ifT (by simpa using c2) ⟨_, fun _ _ z => z, _, rfl, _, _, rfl, rfl, ?_⟩
        have : toEnd (ns.drop q) = toEnd (ns.drop (q + 1)) + 1 := by rw [hd]; unfold toEnd; simp [c2]
        exact ⟨_, (by omega : ns.length - (q + 1) < ns.length - q), q + 1, rfl, rfl, c, by omega, rfl⟩
    · refine ifF (by simpa using c) (ifF rfl ⟨_, rfl, ?_⟩)
      have e : q = ns.length := by omega
      have : toEnd (ns.drop q) = 0 := by rw [e, List.drop_length]; rfl
      rw [this] at h3
      rw [← h3] at k; exact k
theorem sc_skip : FnScope ["text", "place"] ["text", "place"] (defScope s_skip) := ⟨rfl, rfl, rfl, by decide +kernel, rfl, by decide +kernel, by decide +kernel⟩
theorem ok_skip (G : Glb K mg "skip_blanks" s_skip ["text", "place"] d) (GE : Glb K mg "line_end" s_lineEnd ["text", "place"] dE) (ml : mg "len" = none) (mE : Cst mg "LINE_END" (.int 10)) (mR : Cst mg "REMARK" (.int 35)) {aB : Addr} (mB : Cst mg "BLANKS" (.ref aB))
    (hB : ∀ H, SqT K H aB [.int 32, .int 9, .int 10]) : FnOk P w K mg base CX0 2 d.a d.fd ["text", "place"] (spSkip K) := by
  have FE : FnOk P w K mg base CX0 1 dE.a dE.fd ["text", "place"] (spLineEnd K) := ok_lineEnd GE ml mE
  refine G.F.ok sc_skip (fun vs H Q E h => ?_) (fun cdv A outer s H vs Q E hr h => ?_)
  · obtain ⟨a, ns, p, rfl, _⟩ := h; rfl
  · obtain ⟨a, ns, p, rfl, hS, hp, k⟩ := h
    refine ⟨_, pss_cons (ps_while PassesOwn.never (pt_cmpR op_lt (pv 1) (pe_callB call_len_seq (by rfl) ml PySem.boot_len (pa_cons (pv 0) pa_nil)) (nomark _))
        (pss_one (ps_if (pt_cmpR op_eq (pe_ix ix_list (pv 0) (pv 1) (fun _ _ => rfl)) (pe_cst rfl mR) (nomark _))
          (pss_one (ps_set (i := 1) sc_skip.nd rfl (.inl rfl) (pe_call FE hr rfl GE.g GE.k GE.b .nil pass0 (pa_cons (pv 0) (pa_cons (pv 1) pa_nil)))))
          (pss_one (ps_if (pt_cmpR op_in_seq (pe_ix ix_list (pv 0) (pv 1) (fun _ _ => rfl)) (pe_cst rfl mB) rfl)
            (pss_one (ps_aug (i := 1) sc_skip.nd rfl (.inl rfl) pe_int ip_add))
            (pss_one ps_break)))))) (pss_one (ps_ret (pv 1))), ?_⟩
    refine ⟨fun m σ H' => ∃ q : Nat, σ = [some (.ref a), some (.int q)] ∧ H' = H ∧ q ≤ ns.length ∧ q + sk false (ns.drop q) = p + sk false (ns.drop p) ∧ m = ns.length - q, ⟨_, p, rfl, rfl, hp, rfl, rfl⟩, ?_⟩
    rintro m σ H' ⟨q, rfl, rfl, h2, h3, rfl⟩
    refine ⟨_, rfl, _, rfl, a, _, rfl, .inl hS, _, _, rfl, rfl, _, rfl, ?_⟩
    by_cases c : q < ns.length
    · refine ifT (by simpa using c) ⟨_, fun _ _ z => z, ?_⟩
      obtain ⟨b, hb, hd⟩ := drop_at c
      refine ⟨_, rfl, _, rfl, a, _, _, _, rfl, rfl, hS, at_int hb, rfl, _, rfl, ?_⟩
      by_cases c2 : b = 35
      · refine ifT (by simpa using c2) ⟨_, rfl, _, rfl, a, ns, q, rfl, hS, h2, ?_⟩
        have e1 := BW.sk_rem (r := ns.drop (q + 1)) c2
        rw [← hd, List.drop_drop] at e1
        have e2 : toEnd (ns.drop q) = toEnd (ns.drop (q + 1)) + 1 := by rw [hd]; unfold toEnd; simp [c2]
        have e3 : q + toEnd (ns.drop q) ≤ ns.length := by
          have : toEnd (ns.drop q) ≤ (ns.drop q).length := (List.takeWhile_sublist _).length_le
          rw [List.length_drop] at this; omega
        exact ⟨_, (by omega : ns.length - (q + toEnd (ns.drop q)) < ns.length - q), q + toEnd (ns.drop q), rfl, rfl, e3, by omega, rfl⟩
      · refine ifF (by simpa using c2) ⟨_, rfl, _, rfl, a, _, _, _, rfl, rfl, hS, at_int hb, aB, _, rfl, .inr (hB _), rfl, rfl, _, rfl, ?_⟩
        have ein : inV (.int b) [.int 32, .int 9, .int 10] = isBla b := by
          have e : inV (.int b) [.int 32, .int 9, .int 10] = ((32 == b) || ((9 == b) || ((10 == b) || false))) := rfl
          rw [e]; unfold isBla
          simp only [Bool.or_false]
          congr 1
          · exact decide_eq_decide.mpr eq_comm
          · congr 1 <;> exact decide_eq_decide.mpr eq_comm
        cases hbl : isBla b with
        | true =>
          refine ifT (ein.trans hbl) ⟨_, rfl, _, _, rfl, rfl, ?_⟩
          have e1 := BW.sk_bla (r := ns.drop (q + 1)) c2 hbl
          rw [← hd] at e1
          exact ⟨_, (by omega : ns.length - (q + 1) < ns.length - q), q + 1, rfl, rfl, c, by omega, rfl⟩
        | false =>
          refine ifF (ein.trans hbl) ⟨_, rfl, ?_⟩
          have e1 := BW.sk_no (r := ns.drop (q + 1)) c2 (by rw [hbl]; exact Bool.false_ne_true)
          rw [← hd] at e1
          rw [e1] at h3
          rw [← h3] at k; exact k
    · refine ifF (by simpa using c) ⟨_, rfl, ?_⟩
      have e : q = ns.length := by omega
      have : sk false (ns.drop q) = 0 := by rw [e, List.drop_length, BW.sk]
      rw [this] at h3
      rw [← h3] at k; exact k
end
end BWP
namespace BWP
open PySem PySem.Spec PyProof.Rows L2
open BW (isDig isLet isBla isNam isSig IsB octs toEnd sk decI)
theorem upd_upd {H : Hp} {p : Addr} {o u : HO} : upd (upd H p o) p u = upd H p u := by
  funext b
  by_cases h : b = p
  · rw [h, upd_same, upd_same]
  · rw [upd_ne h, upd_ne h, upd_ne h]
/-! ### Token -/
abbrev s_TokenI : Stmt := inClass (topS 22) 0
def tokF (k : Str) (p b : Int) (v : V) : List (Str × V) := [("kind", .str k), ("place", .int p), ("behind", .int b), ("value", v)]
def spTokenI (C : Addr) : Sp := fun vs H Q _ => ∃ (x dx : Addr) (k : Str) (p b : Int) (v : V), vs = [.ref x, .str k, .int p, .int b, v] ∧ H x = some (.ins C dx []) ∧ Q .non (upd H x (.ins C dx (tokF k p b v)))
section
variable {P : Program} {w : World} {K : PySem.W.Frag} {mg : Str → Option Value} {base : Heap} {d : Dn} {C : Addr}
abbrev TokT (K : PySem.W.Frag) (mg : Str → Option Value) (C : Addr) (d : Dn) : Prop := Rec K mg "Token" "Token.__init__" s_TokenI ["self", "kind", "place", "behind", "value"] ["kind", "place", "behind", "value"] C d
theorem sc_TokenI : FnScope ["self", "kind", "place", "behind", "value"] ["self", "kind", "place", "behind", "value"] (defScope s_TokenI) := ⟨rfl, rfl, rfl, by decide +kernel, rfl, by decide +kernel, by decide +kernel⟩
theorem ok_TokenI (T : TokT K mg C d) : FnOk P w K mg base CX0 1 d.a d.fd ["self", "kind", "place", "behind", "value"] (spTokenI C) := by
  refine T.F.ok sc_TokenI (fun vs H Q E h => ?_) (fun cdv A outer s H vs Q E hr h => ?_)
  · obtain ⟨x, dx, k, p, b, v, rfl, _⟩ := h; rfl
  · obtain ⟨x, dx, k, p, b, v, rfl, hx, q⟩ := h
    refine ⟨_, pss_cons (ps_fld (pv 0) (pv 1) rfl) (pss_cons (ps_fld (pv 0) (pv 2) rfl) (pss_cons (ps_fld (pv 0) (pv 3) rfl) (pss_one (ps_fld (pv 0) (pv 4) rfl)))), ?_⟩
    refine ⟨_, rfl, _, rfl, x, C, dx, _, rfl, hx, T.cl, T.no _ (by simp), (by show 0 < 1000; decide), ?_⟩
    refine ⟨_, rfl, _, rfl, x, C, dx, _, rfl, upd_same, T.cl, T.no _ (by simp), (by show 1 < 1000; decide), ?_⟩
    refine ⟨_, rfl, _, rfl, x, C, dx, _, rfl, upd_same, T.cl, T.no _ (by simp), (by show 2 < 1000; decide), ?_⟩
    refine ⟨_, rfl, _, rfl, x, C, dx, _, rfl, upd_same, T.cl, T.no _ (by simp), (by show 3 < 1000; decide), ?_⟩
    rw [upd_upd, upd_upd, upd_upd]
    exact q
end
/-- what a call of a class of records leaves: the instance at x, its dict at dx, both new -/
theorem same_made {H : Hp} {x dx C : Addr} {o : HO} (nx : H x = none) (nd : H dx = none) : Same H (upd (upd (upd H dx (.own x)) x (.ins C dx [])) x o) := by
  rw [upd_upd]
  exact fun b u e => by rw [upd_ne (ne_of_none e nx), upd_ne (ne_of_none e nd)]; exact e
/-! ### lists of whole numbers compared -/
theorem dp_ints {K : PySem.W.Frag} {H : Hp} : ∀ ns : List Int, DpAll K H (ns.map V.int) (ns.map PyData.int)
  | [] => .nil
  | n :: r => .cons (.int n) (dp_ints r)
theorem dp_list {K : PySem.W.Frag} {H : Hp} {a : Addr} {ns : List Int} (h : SqL K H a (ns.map V.int)) : Dp K H (.ref a) (.list (ns.map PyData.int)) := .lst h (dp_ints ns)
theorem eqv_ints : ∀ ns ms : List Int, PyData.eqvAll (ns.map PyData.int) (ms.map PyData.int) = decide (ns = ms)
  | [], [] => by simp [PyData.eqvAll]
  | [], m :: ms => by simp [PyData.eqvAll]
  | n :: ns, [] => by simp [PyData.eqvAll]
  | n :: ns, m :: ms => by
    have ih := eqv_ints ns ms
    simp only [List.map_cons, PyData.eqvAll, PyData.eqv, ih]
    by_cases h : n = m <;> by_cases h2 : ns = ms <;> simp [h, h2]
theorem eqv_list (ns ms : List Int) : PyData.eqv (.list (ns.map PyData.int)) (.list (ms.map PyData.int)) = decide (ns = ms) := by
  rw [← eqv_ints ns ms]; simp only [PyData.eqv]
/-- [ord(letter) for letter in word] -/
theorem lc_ords {σ : L2.St} {H : Hp} {Q : VK} {z : Str} {x y : Option V} (hz : z.cps.size ≤ 1000) (hs : σ = [x, some (.str z), y]) (k : ∀ D, H D = none → Q (.ref D) (upd H D (.lst ((z.cps.toList.map fun (c : Nat) => (c : Int)).map V.int)))) :
    tLc (iStr (tVar 1)) (gName 2) tYes (tCB (fun xs H Q => ∃ x, xs = [V.str x] ∧ x.length = 1 ∧ Q (V.int (x.cps.getD 0 0 : Nat)) H) (tCons (tVar 2) tNil)) [2] σ H Q := by
  subst hs
  refine ⟨_, rfl, z, rfl, fun D hD => lc_it walk_str (fun i H' => H' = upd H D (.lst (((z.cps.toList.take i).map fun (c : Nat) => (c : Int)).map V.int))) rfl (fun _ _ _ _ => trivial) ?_ ?_⟩
  · rintro i v H' H2 hi rfl ⟨rfl, c, hc, rfl⟩
    have hc' : z.cps.toList[i]? = some c := by rw [Array.getElem?_toList]; exact hc
    refine ⟨rfl, ?_⟩
    dsimp only [tYes]
    rw [if_pos rfl]
    refine ⟨_, rfl, _, rfl, rfl, _, upd_same, ?_, ?_⟩
    · rw [List.length_map, List.length_map, List.length_take]
      exact Nat.lt_of_le_of_lt (Nat.le_trans (Nat.min_le_right _ _) (by simpa using hz)) (by decide)
    · rw [upd_upd, List.take_succ, hc']
      simp
  · rintro H' rfl
    have e : z.cps.size = z.cps.toList.length := by simp
    rw [e, List.take_length]
    exact k D hD
/-! ### kind_of_name -/
abbrev s_kindOf : Stmt := topS 28
def codesOf (s : String) : List Int := s.toList.map fun c => (c.toNat : Int)
/-- the kind of a name, told of whole numbers -/
def kindI (ns : List Int) : String := if ns = codesOf "measures" then "measures" else if ns = codesOf "up" then "up" else if ns = codesOf "down" then "down" else if ns = codesOf "item" then "item" else "name"
def spKindOf (K : PySem.W.Frag) : Sp := fun vs H Q _ => ∃ (a : Addr) (ns : List Int), vs = [.ref a] ∧ SqL K H a (ns.map V.int) ∧ ns.length ≤ 16 ∧ ∀ H', Same H H' → Q (.str (kindI ns)) H'
section
variable {P : Program} {w : World} {K : PySem.W.Frag} {mg : Str → Option Value} {base : Heap} {d : Dn}
theorem sc_kindOf : FnScope ["name", "word", "letter"] ["name"] (defScope s_kindOf) := ⟨rfl, rfl, rfl, by decide +kernel, rfl, by decide +kernel, by decide +kernel⟩
theorem ok_kindOf (G : Glb K mg "kind_of_name" s_kindOf ["name"] d) (mo : mg "ord" = none) {aW : Addr} (mW : Cst mg "WORDS" (.ref aW)) (mN : Cst mg "NAME" (.str "name"))
    (hW : ∀ H, SqT K H aW [.str "measures", .str "up", .str "down", .str "item"]) : FnOk P w K mg base CX0 1 d.a d.fd ["name"] (spKindOf K) := by
  refine G.F.ok sc_kindOf (fun vs H Q E h => ?_) (fun cdv A outer s H vs Q E hr h => ?_)
  · obtain ⟨a, ns, rfl, _⟩ := h; rfl
  · obtain ⟨a, ns, rfl, hS, hl, k⟩ := h
    refine ⟨_, pss_cons (ps_for PassesOwn.never rfl (pi_tup (pe_cst rfl mW)) (pg_name (i := 1) sc_kindOf.nd rfl (Or.inl rfl))
      (pss_one (ps_if (pt_cmpR (op_eqD hr.units) (pv 0) (pe_lc (own := [("letter", 2)]) (g := gName 2) (tt := tYes) rfl sc_kindOf.nd (pi_str (pv 1)) (blkOk_by (N := ["name", "word", "letter"]) (sc := defScope s_kindOf) (by decide +kernel)) (fun _ _ _ _ _ => pg_name (i := 2) sc_kindOf.nd rfl (Or.inl rfl)) (fun _ _ _ _ _ => pts_nil) (fun _ _ _ _ _ => pe_callB call_ord (by rfl) mo (by decide +kernel) (pa_cons (pv 2) pa_nil))) (nomark _))
        (pss_one (ps_ret (pv 1))) pss_nil))) (pss_one (ps_ret (pe_cst rfl mN))), ?_⟩
    have turn : ∀ (s : String) (D : Ends) (v : Option V) (H1 : Hp), (Str.ofString s).cps.toList.map (fun (c : Nat) => (c : Int)) = codesOf s → (Str.ofString s).cps.size ≤ 1000 → Same H H1 → (ns = codesOf s → ∀ H2, Same H H2 → D.rt (.str s) H2) → (¬ ns = codesOf s → ∀ H2 v, Same H H2 → D.nx [some (.ref a), some (.str s), v] H2) →
        tIfS (tTest (tOp (rEqD K) (tVar 0) (tLc (iStr (tVar 1)) (gName 2) tYes (tCB (fun xs H Q => ∃ x, xs = [V.str x] ∧ x.length = 1 ∧ Q (V.int (x.cps.getD 0 0 : Nat)) H) (tCons (tVar 2) tNil)) [2]))) (tRet (tVar 1)) tNext D [some (.ref a), some (.str s), v] H1 := by
      intro s D v H1 hc hz s1 kT kF
      refine ⟨_, rfl, lc_ords hz rfl fun DD hD => ?_⟩
      rw [hc]
      have s2 : Same H (upd H1 DD (.lst ((codesOf s).map V.int))) := s1.trans (same_new hD)
      refine ⟨_, _, dp_list (s2.seq hS), dp_list (SqL.of upd_same), PySem.W.shaped_ints ns, PySem.W.shaped_ints _, _, rfl, ?_⟩
      by_cases c : ns = codesOf s
      · exact ifT (by rw [eqv_list]; exact decide_eq_true c) ⟨_, rfl, kT c _ s2⟩
      · exact ifF (by rw [eqv_list]; exact decide_eq_false c) (kF c _ v s2)
    refine ⟨aW, rfl, ⟨_, hW _⟩, for_tup (K := K) (a := aW) (xs := [.str "measures", .str "up", .str "down", .str "item"]) (fun i σ H' => Same H H' ∧ ∃ u v, σ = [some (.ref a), u, v] ∧ ∀ j < i, ∀ s : String, ["measures", "up", "down", "item"][j]? = some s → ¬ ns = codesOf s)
      ⟨Same.refl _, _, _, rfl, fun j hj => absurd hj (Nat.not_lt_zero _)⟩ (fun _ _ _ _ _ => hW _) ?_ ?_⟩
    · rintro i x σ H' hi ⟨s1, u, v, rfl, hn⟩
      have nxt : ∀ s : String, ["measures", "up", "down", "item"][i]? = some s → ¬ ns = codesOf s → ∀ j < i + 1, ∀ t : String, ["measures", "up", "down", "item"][j]? = some t → ¬ ns = codesOf t := fun s es c j hj t et => by
        rcases Nat.lt_succ_iff_lt_or_eq.mp hj with z | z
        · exact hn j z t et
        · rw [z, es] at et; cases et; exact c
      have kd : ∀ s : String, kindI ns = s → ∀ H2, Same H H2 → Q (.str s) H2 := fun s e H2 s2 => by have := k H2 s2; rw [e] at this; exact this
      match i, hi with
      | 0, hi =>
        cases hi
        refine turn "measures" _ v H' (by decide +kernel) (by decide +kernel) s1 (fun c H2 s2 => kd _ ?_ H2 s2) (fun c H2 v2 s2 => ⟨s2, _, _, rfl, nxt _ rfl c⟩)
        unfold kindI; rw [if_pos c]
      | 1, hi =>
        cases hi
        refine turn "up" _ v H' (by decide +kernel) (by decide +kernel) s1 (fun c H2 s2 => kd _ ?_ H2 s2) (fun c H2 v2 s2 => ⟨s2, _, _, rfl, nxt _ rfl c⟩)
        unfold kindI; rw [if_neg (hn 0 (by omega) _ rfl), if_pos c]
      | 2, hi =>
        cases hi
        refine turn "down" _ v H' (by decide +kernel) (by decide +kernel) s1 (fun c H2 s2 => kd _ ?_ H2 s2) (fun c H2 v2 s2 => ⟨s2, _, _, rfl, nxt _ rfl c⟩)
        unfold kindI; rw [if_neg (hn 0 (by omega) _ rfl), if_neg (hn 1 (by omega) _ rfl), if_pos c]
      | 3, hi =>
        cases hi
        refine turn "item" _ v H' (by decide +kernel) (by decide +kernel) s1 (fun c H2 s2 => kd _ ?_ H2 s2) (fun c H2 v2 s2 => ⟨s2, _, _, rfl, nxt _ rfl c⟩)
        unfold kindI; rw [if_neg (hn 0 (by omega) _ rfl), if_neg (hn 1 (by omega) _ rfl), if_neg (hn 2 (by omega) _ rfl), if_pos c]
      | n + 4, hi => simp at hi
    · rintro σ H' ⟨s1, u, v, rfl, hn⟩
      have := k H' s1
      unfold kindI at this
      rw [if_neg (hn 0 (by simp) _ rfl), if_neg (hn 1 (by simp) _ rfl), if_neg (hn 2 (by simp) _ rfl), if_neg (hn 3 (by simp) _ rfl)] at this
      exact this
end
end BWP
namespace BWP
open PySem PySem.Spec PyProof.Rows L2
open BW (isDig isLet isBla isNam isSig IsB octs toEnd sk decI)
/-! ### a token in the heap -/
def ValAt (H : Hp) : VaskyBase.Tok → V → Prop
  | .name b, v => ∃ (q : Addr) (ns : List Int), v = .ref q ∧ H q = some (.lst (ns.map V.int)) ∧ octs ns = b ∧ (∀ x ∈ ns, IsB x) ∧ ns.length ≤ 16 ∧ ns ≠ []
  | .num n, v => v = .int n
  | _, v => v = .int 0
def TokB (C : Addr) (H : Hp) (a : Addr) (t : VaskyBase.PTok) (e : Int) : Prop := ∃ dx v, H a = some (.ins C dx (tokF (BW.kind t.tok) t.place e v)) ∧ ValAt H t.tok v
theorem ValAt.same {H H' : Hp} (s : Same H H') : ∀ {t : VaskyBase.Tok} {v : V}, ValAt H t v → ValAt H' t v
  | .name b, v, ⟨q, ns, e, h, r⟩ => ⟨q, ns, e, s _ _ h, r⟩
  | .num n, v, h => h
  | .sign c, v, h => h
  | .last, v, h => h
theorem TokB.same {C : Addr} {H H' : Hp} {a : Addr} {t : VaskyBase.PTok} {e : Int} (s : Same H H') (h : TokB C H a t e) : TokB C H' a t e := by
  obtain ⟨dx, v, h1, h2⟩ := h
  exact ⟨dx, v, s _ _ h1, h2.same s⟩
theorem word_codes (s : String) (h : s ∈ ["measures", "up", "down", "item"]) : VaskyBase.word s = octs (codesOf s) ∧ ∀ x ∈ codesOf s, IsB x := by
  simp only [List.mem_cons, List.not_mem_nil, or_false] at h
  rcases h with rfl | rfl | rfl | rfl <;> exact ⟨by decide +kernel, by unfold IsB; decide +kernel⟩
theorem kindI_is {ns : List Int} (h : ∀ x ∈ ns, IsB x) : kindI ns = BW.kind (.name (octs ns)) := by
  have key : ∀ s : String, s ∈ ["measures", "up", "down", "item"] → (ns = codesOf s ↔ octs ns = VaskyBase.word s) := fun s hs => by
    obtain ⟨e, hb⟩ := word_codes s hs
    rw [e]
    exact ⟨fun q => by rw [q], fun q => BW.octs_inj h hb q⟩
  unfold kindI BW.kind
  simp only [key "measures" (by simp), key "up" (by simp), key "down" (by simp), key "item" (by simp)]
theorem new_tok {C : Addr} {H : Hp} {x dx : Addr} {k : Str} {p b : Int} {v : V} {t : VaskyBase.PTok} (nx : H x = none) (nd : H dx = none) (hk : k = BW.kind t.tok) (hp : p = t.place) (hv : ValAt H t.tok v) :
    TokB C (upd (upd (upd H dx (.own x)) x (.ins C dx [])) x (.ins C dx (tokF k p b v))) x t b := by
  subst hk hp
  exact ⟨dx, v, upd_same, hv.same (same_made nx nd)⟩
/-! ### name_at -/
abbrev s_nameAt : Stmt := topS 27
def spNameAt (K : PySem.W.Frag) (CF CT : Addr) : Sp := fun vs H Q E => ∃ (a : Addr) (ns : List Int) (p : Nat), vs = [.ref a, .int p] ∧ SqL K H a (ns.map V.int) ∧ (∀ x ∈ ns, IsB x) ∧ p ≤ ns.length ∧ 0 < ((ns.drop p).takeWhile isNam).length ∧
  (16 < ((ns.drop p).takeWhile isNam).length → ∀ (d : Addr) (H' : Hp), H d = none → Same H H' → H' d = some (.xd (fltF 2 p)) → E (.ref CF) (some d) H') ∧
  (¬ 16 < ((ns.drop p).takeWhile isNam).length → ∀ (q : Addr) (H' : Hp), Same H H' → TokB CT H' q ⟨p, .name (octs ((ns.drop p).takeWhile isNam))⟩ ((p + ((ns.drop p).takeWhile isNam).length : Nat) : Int) → Q (.ref q) H')
theorem tw_take {p : Int → Bool} (l : List Int) : l.take (l.takeWhile p).length = l.takeWhile p := by
  induction l with
  | nil => rfl
  | cons b r ih =>
    rw [List.takeWhile_cons]
    cases p b
    · rfl
    · show b :: r.take (r.takeWhile p).length = b :: r.takeWhile p
      rw [ih]
theorem cutV_ints {ns : List Int} {p q : Nat} (h : p ≤ q) (hq : q ≤ ns.length) : cutV (ns.map V.int) (some (p : Int)) (some (q : Int)) = ((ns.drop p).take (q - p)).map V.int := by
  have e : ∀ n dflt : Nat, ∀ k : Nat, k ≤ n → HT.sIx n dflt (some (k : Int)) = k := fun n dflt k hk => by
    unfold HT.sIx
    simp only
    split <;> omega
  unfold cutV
  rw [e _ _ p (by rw [List.length_map]; omega), e _ _ q (by rw [List.length_map]; omega), List.map_take, List.map_drop]
/-- a run of bytes: behind q the run from p ends where the run from q does -/
theorem run_step {f : Int → Bool} {ns : List Int} {q : Nat} {b : Int} (hd : ns.drop q = b :: ns.drop (q + 1)) : ((ns.drop q).takeWhile f).length = if f b = true then ((ns.drop (q + 1)).takeWhile f).length + 1 else 0 := by
  rw [hd, List.takeWhile_cons]
  cases f b <;> rfl
theorem run_le {f : Int → Bool} {ns : List Int} {p : Nat} (hp : p ≤ ns.length) : p + ((ns.drop p).takeWhile f).length ≤ ns.length := by
  have : ((ns.drop p).takeWhile f).length ≤ (ns.drop p).length := (List.takeWhile_sublist _).length_le
  rw [List.length_drop] at this; omega
section
variable {P : Program} {w : World} {K : PySem.W.Frag} {mg : Str → Option Value} {base : Heap} {d dL dD dK dT dF : Dn} {CF CT : Addr}
theorem sc_nameAt : FnScope ["text", "place", "behind", "name"] ["text", "place"] (defScope s_nameAt) := ⟨rfl, rfl, rfl, by decide +kernel, rfl, by decide +kernel, by decide +kernel⟩
theorem ok_nameAt (G : Glb K mg "name_at" s_nameAt ["text", "place"] d) (GL : Glb K mg "is_letter" s_isLetter ["byte"] dL) (GD : Glb K mg "is_digit" s_isDigit ["byte"] dD) (GK : Glb K mg "kind_of_name" s_kindOf ["name"] dK) (TT : TokT K mg CT dT) (TF : FaultT K mg CF dF)
    (ml : mg "len" = none) (mo : mg "ord" = none) {aW : Addr} (mW : Cst mg "WORDS" (.ref aW)) (mN : Cst mg "NAME" (.str "name")) (hW : ∀ H, SqT K H aW [.str "measures", .str "up", .str "down", .str "item"]) (mL : Cst mg "LONGEST_NAME" (.int 16)) (mX : Cst mg "NO_TOKEN" (.int 2)) :
    FnOk P w K mg base (L2.CX P w) 3 d.a d.fd ["text", "place"] (spNameAt K CF CT) := by
  have FL : FnOk P w K mg base CX0 1 dL.a dL.fd ["byte"] spIsLetter := ok_isLetter GL
  have FD : FnOk P w K mg base CX0 1 dD.a dD.fd ["byte"] spIsDigit := ok_isDigit GD
  have FK : FnOk P w K mg base CX0 1 dK.a dK.fd ["name"] (spKindOf K) := ok_kindOf GK mo mW mN hW
  have FT : FnOk P w K mg base CX0 1 dT.a dT.fd ["self", "kind", "place", "behind", "value"] (spTokenI CT) := ok_TokenI TT
  refine G.F.okX sc_nameAt (fun vs H Q E h => ?_) (fun cdv A outer s H vs Q E hr h => ?_)
  · obtain ⟨a, ns, p, rfl, _⟩ := h; rfl
  · obtain ⟨a, ns, p, rfl, hS, hB, hp, h0w, kE, kQ⟩ := h
    have hr1 : Room 1 _ := hr.mono (by decide)
    refine ⟨_, pss_cons (ps_set (i := 2) sc_nameAt.nd rfl (.inl rfl) (pv 1))
      (pss_cons (ps_while (passes_of rfl) (PW.pt (pw_and (pt_cmpR op_lt (pv 2) (pe_callB call_len_seq (by rfl) ml PySem.boot_len (pa_cons (pv 0) pa_nil)) (nomark _))
          (pw_and1 (PW.pt (pw_or (pt_val (pe_call FL hr1 rfl GL.g GL.k GL.b .nil pass0 (pa_cons (pe_ix ix_list (pv 0) (pv 2) (fun _ _ => rfl)) pa_nil))) (pw_or1 (pt_val (pe_call FD hr1 rfl GD.g GD.k GD.b .nil pass0 (pa_cons (pe_ix ix_list (pv 0) (pv 2) (fun _ _ => rfl)) pa_nil)))))))))
        (pss_one (ps_aug (i := 2) sc_nameAt.nd rfl (.inl rfl) pe_int ip_add)))
      (pss_cons (ps_if (pt_cmpR op_gt (pe_op op_sub (pv 2) (pv 1)) (pe_cst rfl mL) (nomark _)) (pss_one (ps_fault (k := 0) rfl TF hr (takes_of rfl rfl rfl rfl) (pa_cons (pe_cst rfl mX) (pa_cons (pv 1) pa_nil)))) pss_nil)
      (pss_cons (ps_set (i := 3) sc_nameAt.nd rfl (.inl rfl) (pe_slice sl_list (pv 0) (po_some (pv 1)) (po_some (pv 2))))
      (pss_one (ps_ret (pe_make TT.mkr FT hr rfl TT.g TT.b .nil pass0 (pa_cons (pe_call FK hr1 rfl GK.g GK.k GK.b .nil pass0 (pa_cons (pv 3) pa_nil)) (pa_cons (pv 1) (pa_cons (pv 2) (pa_cons (pv 3) pa_nil)))))))))), ?_⟩
    refine ⟨_, rfl, ?_⟩
    -- the run of letters and digits
    refine ⟨fun m σ H' => ∃ q : Nat, σ = [some (.ref a), some (.int p), some (.int q), none] ∧ H' = H ∧ q ≤ ns.length ∧ q + ((ns.drop q).takeWhile isNam).length = p + ((ns.drop p).takeWhile isNam).length ∧ m = ns.length - q, ⟨_, p, rfl, rfl, hp, rfl, rfl⟩, ?_⟩
    rintro m σ H' ⟨q, rfl, rfl, h2, h3, rfl⟩
    have after : ((ns.drop q).takeWhile isNam).length = 0 → tSeq (tIfS (tTest (tOp (rI0 fun i j => V.bl (decide (j < i))) (tOp (rI0 fun i j => V.int (i - j)) (tVar 2) (tVar 1)) (tC (V.int 16)))) (fun x σ H => tMkO CF (spFaultI CF) [] (tCons (tC (V.int 2)) (tCons (tVar 1) tNil)) σ H fun cls d H' => E cls d H') tNext)
        (tSeq (tAsg (tSl (rSlL K) (tVar 0) (tPart (tVar 1)) (tPart (tVar 2))) (gName 3)) (tRet (tMake CT (spTokenI CT) [] E0 (tCons (tCall (spKindOf K) [] E0 (tCons (tVar 3) tNil)) (tCons (tVar 1) (tCons (tVar 2) (tCons (tVar 3) tNil)))))))
        { nx := fun x H' => Q V.non H', rt := Q } [some (.ref a), some (.int p), some (.int q), none] H' := by
      intro h0
      have hq : q = p + ((ns.drop p).takeWhile isNam).length := by omega
      have hw : q - p = ((ns.drop p).takeWhile isNam).length := by omega
      refine ⟨_, rfl, _, rfl, _, _, rfl, rfl, _, _, rfl, rfl, _, rfl, ?_⟩
      by_cases c : 16 < ((ns.drop p).takeWhile isNam).length
      · exact ifT (decide_eq_true (by omega)) ⟨_, rfl, mk_fault fun d H2 hd hs hx => kE c d H2 hd hs hx⟩
      · refine ifF (decide_eq_false (by omega)) ⟨_, rfl, _, rfl, _, rfl, _, rfl, _, rfl, a, _, rfl, hS, fun r hr0 => ?_⟩
        rw [cutV_ints (by omega) h2, hw, tw_take]
        refine ⟨_, rfl, r, _, rfl, SqL.of upd_same, by omega, fun H2 s2 => ⟨_, rfl, _, rfl, _, rfl, fun x dx nx ndx nex => ?_⟩⟩
        have hr2 := s2 r _ upd_same
        have hb : ∀ x ∈ (ns.drop p).takeWhile isNam, IsB x := fun x hx => hB x (List.mem_of_mem_drop (BW.tw_all hx).1)
        refine ⟨x, dx, _, _, _, _, rfl, upd_same, rfl, ?_⟩
        refine kQ c x _ (((same_new hr0).trans s2).trans (same_made nx ndx)) ?_
        rw [← hq]
        exact new_tok nx ndx (by rw [kindI_is hb]) rfl ⟨r, _, rfl, hr2, rfl, hb, by omega, fun z => by rw [z] at h0w; exact absurd h0w (by decide)⟩
    refine ⟨_, rfl, _, rfl, a, _, rfl, .inl hS, _, _, rfl, rfl, _, rfl, ?_⟩
    by_cases c : q < ns.length
    · refine ifT (by simpa using c) ?_
      obtain ⟨b, hb, hd⟩ := drop_at c
      have rs := run_step (f := isNam) hd
      refine ⟨_, rfl, _, rfl, a, _, _, _, rfl, rfl, hS, at_int hb, b, rfl, _, rfl, ?_⟩
      have more : isNam b = true → ∃ m', m' < ns.length - q ∧ ∃ q' : Nat, [some (V.ref a), some (.int p), some (.int ((q : Int) + 1)), none] = [some (.ref a), some (.int p), some (.int q'), none] ∧ H' = H' ∧ q' ≤ ns.length ∧ q' + ((ns.drop q').takeWhile isNam).length = p + ((ns.drop p).takeWhile isNam).length ∧ m' = ns.length - q' := fun hn => by
        rw [if_pos hn] at rs
        exact ⟨_, (by omega : ns.length - (q + 1) < ns.length - q), q + 1, rfl, rfl, c, by omega, rfl⟩
      cases hl : isLet b with
      | true => exact ifT rfl (ifT rfl ⟨_, fun _ _ z => z, _, rfl, _, _, rfl, rfl, more (by unfold isNam; rw [hl]; rfl)⟩)
      | false =>
        refine ifF rfl ⟨_, rfl, _, rfl, a, _, _, _, rfl, rfl, hS, at_int hb, b, rfl, _, rfl, ?_⟩
        cases hg : isDig b with
        | true => exact ifT rfl ⟨_, fun _ _ z => z, _, rfl, _, _, rfl, rfl, more (by unfold isNam; rw [hl, hg]; rfl)⟩
        | false =>
          have hn : ¬ isNam b = true := by unfold isNam; rw [hl, hg]; exact Bool.false_ne_true
          rw [if_neg hn] at rs
          exact ifF rfl (after rs)
    · refine ifF (by simpa using c) (ifF rfl (after ?_))
      have e : q = ns.length := by omega
      rw [e, List.drop_length]; rfl
end
theorem ValAt.chg {H : Hp} {l : Addr} {o : HO} (hl : ∀ ns : List Int, ns ≠ [] → H l ≠ some (.lst (ns.map V.int))) : ∀ {t : VaskyBase.Tok} {v : V}, ValAt H t v → ValAt (upd H l o) t v
  | .name b, v, ⟨q, ns, e, h, r1, r2, r3, r4⟩ => ⟨q, ns, e, (upd_ne (fun z : q = l => hl ns r4 (z ▸ h))).trans h, r1, r2, r3, r4⟩
  | .num n, v, h => h
  | .sign c, v, h => h
  | .last, v, h => h
/-- a token stands while an object of another make is changed -/
theorem TokB.chg {C : Addr} {H : Hp} {l : Addr} {o : HO} {a : Addr} {t : VaskyBase.PTok} {e : Int} (hl : ∀ ns : List Int, ns ≠ [] → H l ≠ some (.lst (ns.map V.int))) (hc : ∀ dx k p b v, H l ≠ some (.ins C dx (tokF k p b v))) (h : TokB C H a t e) : TokB C (upd H l o) a t e := by
  obtain ⟨dx, v, h1, h2⟩ := h
  exact ⟨dx, v, (upd_ne fun z => hc _ _ _ _ _ (z ▸ h1)).trans h1, h2.chg hl⟩
theorem refs_ints {as : List Addr} {ns : List Int} (h : ns ≠ []) : as.map V.ref ≠ ns.map V.int := by
  cases ns with
  | nil => exact absurd rfl h
  | cons n r =>
    cases as with
    | nil => intro z; cases z
    | cons a r' =>
      intro z
      have z1 : V.ref a = V.int n := (List.cons.inj z).1
      cases z1
theorem TokB.chgL {C : Addr} {H : Hp} {l : Addr} {o : HO} {a : Addr} {as : List Addr} {t : VaskyBase.PTok} {e : Int} (hl : H l = some (.lst (as.map V.ref))) (h : TokB C H a t e) : TokB C (upd H l o) a t e :=
  h.chg (fun ns hn z => refs_ints (as := as) hn (by rw [hl] at z; injection z with z; injection z)) (fun _ _ _ _ _ z => by rw [hl] at z; cases z)
/-! ### number_at -/
abbrev s_numberAt : Stmt := topS 29
def spNumberAt (K : PySem.W.Frag) (CF CT : Addr) : Sp := fun vs H Q E => ∃ (a : Addr) (ns : List Int) (p : Nat) (b : Int), vs = [.ref a, .int p] ∧ SqL K H a (ns.map V.int) ∧ ns[p]? = some b ∧
  (((b = 48 ∧ 1 < ((ns.drop p).takeWhile isDig).length) ∨ 1000000000 < decI ((ns.drop p).takeWhile isDig)) → ∀ (d : Addr) (H' : Hp), H d = none → Same H H' → H' d = some (.xd (fltF 2 p)) → E (.ref CF) (some d) H') ∧
  (¬ ((b = 48 ∧ 1 < ((ns.drop p).takeWhile isDig).length) ∨ 1000000000 < decI ((ns.drop p).takeWhile isDig)) → ∀ (q : Addr) (H' : Hp), Same H H' → TokB CT H' q ⟨p, .num (decI ((ns.drop p).takeWhile isDig)).toNat⟩ ((p + ((ns.drop p).takeWhile isDig).length : Nat) : Int) → Q (.ref q) H')
theorem decI_nonneg : ∀ (l : List Int) (n : Int), 0 ≤ n → (∀ b ∈ l, isDig b = true) → 0 ≤ l.foldl (fun n b => n * 10 + b - 48) n
  | [], n, h, _ => h
  | b :: r, n, h, hb => by
    have d1 : 48 ≤ b ∧ b ≤ 57 := by simpa [isDig] using hb b (by simp)
    exact decI_nonneg r (n * 10 + b - 48) (by omega) fun c hc => hb c (List.mem_cons_of_mem _ hc)
section
variable {P : Program} {w : World} {K : PySem.W.Frag} {mg : Str → Option Value} {base : Heap} {d dL dD dK dT dF dN dM : Dn} {CF CT : Addr}
theorem sc_numberAt : FnScope ["text", "place", "behind", "value", "needless_zero"] ["text", "place"] (defScope s_numberAt) := ⟨rfl, rfl, rfl, by decide +kernel, rfl, by decide +kernel, by decide +kernel⟩
theorem ok_numberAt (G : Glb K mg "number_at" s_numberAt ["text", "place"] d) (GD : Glb K mg "is_digit" s_isDigit ["byte"] dD) (TT : TokT K mg CT dT) (TF : FaultT K mg CF dF)
    (ml : mg "len" = none) (mN : Cst mg "NUMBER" (.str "number")) (mG : Cst mg "GREATEST_NUMBER" (.int 1000000000)) (mX : Cst mg "NO_TOKEN" (.int 2)) :
    FnOk P w K mg base (L2.CX P w) 3 d.a d.fd ["text", "place"] (spNumberAt K CF CT) := by
  have FD : FnOk P w K mg base CX0 1 dD.a dD.fd ["byte"] spIsDigit := ok_isDigit GD
  have FT : FnOk P w K mg base CX0 1 dT.a dT.fd ["self", "kind", "place", "behind", "value"] (spTokenI CT) := ok_TokenI TT
  refine G.F.okX sc_numberAt (fun vs H Q E h => ?_) (fun cdv A outer s H vs Q E hr h => ?_)
  · obtain ⟨a, ns, p, b, rfl, _⟩ := h; rfl
  · obtain ⟨a, ns, p, b0, rfl, hS, hb0, kE, kQ⟩ := h
    have hr1 : Room 1 _ := hr.mono (by decide)
    have hp : p ≤ ns.length := Nat.le_of_lt (List.getElem?_eq_some_iff.mp hb0).1
    refine ⟨_, pss_cons (ps_set (i := 2) sc_numberAt.nd rfl (.inl rfl) (pv 1))
      (pss_cons (ps_set (i := 3) sc_numberAt.nd rfl (.inl rfl) pe_int)
      (pss_cons (ps_while (passes_of rfl) (PW.pt (pw_and (pt_cmpR op_lt (pv 2) (pe_callB call_len_seq (by rfl) ml PySem.boot_len (pa_cons (pv 0) pa_nil)) (nomark _))
          (pw_and1 (pt_val (pe_call FD hr1 rfl GD.g GD.k GD.b .nil pass0 (pa_cons (pe_ix ix_list (pv 0) (pv 2) (fun _ _ => rfl)) pa_nil))))))
        (pss_cons (ps_set (i := 3) sc_numberAt.nd rfl (.inl rfl) (pe_op op_sub (pe_op op_add (pe_op op_mul (pv 3) pe_int) (pe_ix ix_list (pv 0) (pv 2) (fun _ _ => rfl))) pe_int))
        (pss_one (ps_aug (i := 2) sc_numberAt.nd rfl (.inl rfl) pe_int ip_add))))
      (pss_cons (ps_set (i := 4) sc_numberAt.nd rfl (.inl rfl) (pe_and (pe_cmpR op_eq (pe_ix ix_list (pv 0) (pv 1) (fun _ _ => rfl)) pe_int (nomark _)) (pe_one (pe_cmpR op_gt (pe_op op_sub (pv 2) (pv 1)) pe_int (nomark _)))))
      (pss_cons (ps_if (PW.pt (pw_or (pt_val (pv 4)) (pw_or1 (pt_cmpR op_gt (pv 3) (pe_cst rfl mG) (nomark _))))) (pss_one (ps_fault (k := 0) rfl TF hr (takes_of rfl rfl rfl rfl) (pa_cons (pe_cst rfl mX) (pa_cons (pv 1) pa_nil)))) pss_nil)
      (pss_one (ps_ret (pe_make TT.mkr FT hr rfl TT.g TT.b .nil pass0 (pa_cons (pe_cst rfl mN) (pa_cons (pv 1) (pa_cons (pv 2) (pa_cons (pv 3) pa_nil))))))))))), ?_⟩
    refine ⟨_, rfl, ?_⟩
    refine ⟨fun m σ H' => ∃ (q : Nat) (v : Int), σ = [some (.ref a), some (.int p), some (.int q), some (.int v), none] ∧ H' = H ∧ q ≤ ns.length ∧ q + ((ns.drop q).takeWhile isDig).length = p + ((ns.drop p).takeWhile isDig).length ∧ ((ns.drop q).takeWhile isDig).foldl (fun n b => n * 10 + b - 48) v = decI ((ns.drop p).takeWhile isDig) ∧ m = ns.length - q,
      ⟨_, p, 0, rfl, rfl, hp, rfl, rfl, rfl⟩, ?_⟩
    rintro m σ H' ⟨q, v, rfl, rfl, h2, h3, h4, rfl⟩
    refine ⟨_, rfl, _, rfl, a, _, rfl, .inl hS, _, _, rfl, rfl, _, rfl, ?_⟩
    have after : ((ns.drop q).takeWhile isDig).length = 0 → ∀ (D : Ends) (tN : TS), D.rt = Q → (∀ z : Bool, z = (decide (b0 = 48) && decide (1 < (q : Int) - p)) → tN D [some (.ref a), some (.int p), some (.int q), some (.int v), some (.bl z)] H') →
        tSeq (tAsg (tAndV (tOp rEq (tOp (rIxL K) (tVar 0) (tVar 1)) (tC (.int 48))) (tOp (rI0 fun i j => V.bl (decide (j < i))) (tOp (rI0 fun i j => V.int (i - j)) (tVar 2) (tVar 1)) (tC (V.int 1)))) (gName 4)) tN D [some (.ref a), some (.int p), some (.int q), some (.int v), none] H' := by
      intro h0 D tN _ hz
      refine ⟨_, rfl, _, rfl, a, _, _, _, rfl, rfl, hS, at_int hb0, rfl, _, rfl, ?_⟩
      by_cases c : b0 = 48
      · refine ifT (by simpa using c) ⟨_, rfl, _, rfl, _, _, rfl, rfl, _, _, rfl, rfl, ?_⟩
        refine hz _ ?_
        rw [decide_eq_true c]; rfl
      · refine ifF (by simpa using c) ?_
        refine hz _ ?_
        rw [decide_eq_false c]; rfl
    have fin : ((ns.drop q).takeWhile isDig).length = 0 → ∀ z : Bool, z = (decide (b0 = 48) && decide (1 < (q : Int) - p)) →
        tSeq (tIfS (tOr (tB (tVar 4)) (tTest (tOp (rI0 fun i j => V.bl (decide (j < i))) (tVar 3) (tC (.int 1000000000))))) (fun x σ H => tMkO CF (spFaultI CF) [] (tCons (tC (V.int 2)) (tCons (tVar 1) tNil)) σ H fun cls d H' => E cls d H') tNext)
          (tRet (tMake CT (spTokenI CT) [] E0 (tCons (tC (.str "number")) (tCons (tVar 1) (tCons (tVar 2) (tCons (tVar 3) tNil)))))) { nx := fun x H' => Q V.non H', rt := Q } [some (.ref a), some (.int p), some (.int q), some (.int v), some (.bl z)] H' := by
      intro h0 z hz
      have hq : q = p + ((ns.drop p).takeWhile isDig).length := by omega
      have hv : v = decI ((ns.drop p).takeWhile isDig) := by rw [← h4, List.length_eq_zero_iff.mp h0]; rfl
      have flt : ((b0 = 48 ∧ 1 < ((ns.drop p).takeWhile isDig).length) ∨ 1000000000 < decI ((ns.drop p).takeWhile isDig)) → tMkO CF (spFaultI CF) [] (tCons (tC (V.int 2)) (tCons (tVar 1) tNil)) [some (.ref a), some (.int p), some (.int q), some (.int v), some (.bl z)] H' fun cls d H' => E cls d H' :=
        fun c => ⟨_, rfl, mk_fault fun d H2 hd hs hx => kE c d H2 hd hs hx⟩
      refine ⟨_, rfl, _, rfl, ?_⟩
      cases z with
      | true =>
        have hz' : (decide (b0 = 48) && decide (1 < (q : Int) - p)) = true := hz.symm
        simp only [Bool.and_eq_true, decide_eq_true_eq] at hz'
        exact ifT rfl (ifT rfl (flt (.inl ⟨hz'.1, by omega⟩)))
      | false =>
        have nz : ¬ (b0 = 48 ∧ 1 < ((ns.drop p).takeWhile isDig).length) := fun ⟨z1, z2⟩ => by
          have : (decide (b0 = 48) && decide (1 < (q : Int) - p)) = true := by rw [decide_eq_true z1, decide_eq_true (by omega)]; rfl
          rw [this] at hz; cases hz
        refine ifF rfl ⟨_, rfl, _, _, rfl, rfl, _, rfl, ?_⟩
        by_cases c : 1000000000 < v
        · exact ifT (decide_eq_true c) (flt (.inr (by rw [← hv]; exact c)))
        · refine ifF (decide_eq_false c) ⟨_, rfl, _, rfl, _, rfl, fun x dx nx ndx nex => ⟨x, dx, _, _, _, _, rfl, upd_same, rfl, ?_⟩⟩
          refine kQ (fun z => z.elim nz fun z => c (by rw [hv]; exact z)) x _ (same_made nx ndx) ?_
          rw [← hq]
          refine new_tok nx ndx rfl rfl ?_
          show V.int v = V.int (((decI ((ns.drop p).takeWhile isDig)).toNat : Nat) : Int)
          rw [← hv]
          have : 0 ≤ v := by rw [hv]; exact decI_nonneg _ 0 (by decide) fun b hb => (BW.tw_all hb).2
          rw [Int.toNat_of_nonneg this]
    by_cases c : q < ns.length
    · refine ifT (by simpa using c) ?_
      obtain ⟨b, hb, hd⟩ := drop_at c
      have rs := run_step (f := isDig) hd
      refine ⟨_, rfl, _, rfl, a, _, _, _, rfl, rfl, hS, at_int hb, b, rfl, _, rfl, ?_⟩
      cases hg : isDig b with
      | true =>
        rw [if_pos hg] at rs
        refine ifT rfl ⟨_, fun _ _ z => z, _, rfl, _, _, rfl, rfl, .inr ⟨by decide, by decide⟩, _, rfl, _, rfl, a, _, _, _, rfl, rfl, hS, at_int hb, _, _, rfl, rfl, _, _, rfl, rfl, _, rfl, _, _, rfl, rfl, ?_⟩
        refine ⟨_, (by omega : ns.length - (q + 1) < ns.length - q), q + 1, _, rfl, rfl, c, by omega, ?_, rfl⟩
        rw [← h4]
        conv => rhs; rw [hd, List.takeWhile_cons, hg]
        rfl
      | false =>
        rw [hg, if_neg Bool.false_ne_true] at rs
        exact ifF rfl (after rs _ _ rfl fun z hz => fin rs z hz)
    · have rs : ((ns.drop q).takeWhile isDig).length = 0 := by
        have e : q = ns.length := by omega
        rw [e, List.drop_length]; rfl
      exact ifF (by simpa using c) (ifF rfl (after rs _ _ rfl fun z hz => fin rs z hz))
end
end BWP
namespace BWP
open PySem PySem.Spec PyProof.Rows L2
open BW (isDig isLet isBla isNam isSig IsB octs toEnd sk decI)
/-- an error of the class Fault leaves: its code, its place; all that was tracked stands -/
def FltTo (CF : Addr) (E : XK) (H : Hp) (c p : Int) : Prop := ∀ (d : Addr) (H' : Hp), H d = none → Same H H' → H' d = some (.xd (fltF c p)) → E (.ref CF) (some d) H'
theorem FltTo.from {CF : Addr} {E : XK} {H H1 : Hp} {c p : Int} (h : FltTo CF E H c p) (s : Same H H1) : FltTo CF E H1 c p := fun d H' hd hs hx => h d H' (s.free hd) (s.trans hs) hx
/-! ### token_at -/
abbrev s_tokenAt : Stmt := topS 26
def sgF (k : Int) : Option V := if k = 44 then some (.str ",") else if k = 58 then some (.str ":") else if k = 59 then some (.str ";") else if k = 45 then some (.str "-") else none
def spTokenAt (K : PySem.W.Frag) (CF CT : Addr) : Sp := fun vs H Q E => ∃ (a : Addr) (ns : List Int) (p : Nat), vs = [.ref a, .int p] ∧ SqL K H a (ns.map V.int) ∧ (∀ x ∈ ns, IsB x) ∧ p < ns.length ∧
  (VaskyBase.token (octs (ns.drop p)) = none → FltTo CF E H 2 p) ∧
  (∀ x, VaskyBase.token (octs (ns.drop p)) = some x → ∀ (q : Addr) (H' : Hp), Same H H' → TokB CT H' q ⟨p, x.1⟩ ((p + x.2 : Nat) : Int) → Q (.ref q) H')
/-- what the top says of the module tokens -/
structure TokM (K : PySem.W.Frag) (mg : Str → Option Value) (CF CT : Addr) (dF dT dSplit dSkip dEnd dAt dName dKind dNum dLet dDig : Dn) (aB aW aS : Addr) : Prop where
  F : FaultT K mg CF dF
  T : TokT K mg CT dT
  split : Glb K mg "split_tokens" (topS 23) ["text"] dSplit
  skip : Glb K mg "skip_blanks" s_skip ["text", "place"] dSkip
  lend : Glb K mg "line_end" s_lineEnd ["text", "place"] dEnd
  tat : Glb K mg "token_at" s_tokenAt ["text", "place"] dAt
  nam : Glb K mg "name_at" s_nameAt ["text", "place"] dName
  knd : Glb K mg "kind_of_name" s_kindOf ["name"] dKind
  num : Glb K mg "number_at" s_numberAt ["text", "place"] dNum
  let_ : Glb K mg "is_letter" s_isLetter ["byte"] dLet
  dig : Glb K mg "is_digit" s_isDigit ["byte"] dDig
  len : mg "len" = none
  ord : mg "ord" = none
  cLE : Cst mg "LINE_END" (.int 10)
  cRM : Cst mg "REMARK" (.int 35)
  cBL : Cst mg "BLANKS" (.ref aB)
  tBL : ∀ H, SqT K H aB [.int 32, .int 9, .int 10]
  cWD : Cst mg "WORDS" (.ref aW)
  tWD : ∀ H, SqT K H aW [.str "measures", .str "up", .str "down", .str "item"]
  cSG : Cst mg "SIGNS" (.ref aS)
  tSG : IDict K aS sgF
  cNM : Cst mg "NAME" (.str "name")
  cNU : Cst mg "NUMBER" (.str "number")
  cEN : Cst mg "END" (.str "end")
  cLN : Cst mg "LONGEST_NAME" (.int 16)
  cGN : Cst mg "GREATEST_NUMBER" (.int 1000000000)
  cNT : Cst mg "NO_TOKEN" (.int 2)
section
variable {P : Program} {w : World} {K : PySem.W.Frag} {mg : Str → Option Value} {base : Heap} {CF CT aB aW aS : Addr} {dF dT dSplit dSkip dEnd dAt dName dKind dNum dLet dDig : Dn}
theorem sc_tokenAt : FnScope ["text", "place", "byte"] ["text", "place"] (defScope s_tokenAt) := ⟨rfl, rfl, rfl, by decide +kernel, rfl, by decide +kernel, by decide +kernel⟩
theorem sg_kind {b : Int} (h : isSig b = true) : ∃ k : String, sgF b = some (.str k) ∧ BW.kind (.sign b.toNat) = k := by
  unfold isSig at h
  simp only [Bool.or_eq_true, decide_eq_true_eq] at h
  rcases h with rfl | rfl | rfl | rfl
  · exact ⟨",", rfl, rfl⟩
  · exact ⟨":", rfl, rfl⟩
  · exact ⟨";", rfl, rfl⟩
  · exact ⟨"-", rfl, rfl⟩
theorem sg_none {b : Int} (h : isSig b = false) : sgF b = none := by
  unfold isSig at h
  simp only [Bool.or_eq_false_iff, decide_eq_false_iff_not] at h
  unfold sgF
  rw [if_neg h.1, if_neg h.2.1, if_neg h.2.2.1, if_neg h.2.2.2]
theorem ok_tokenAt (M : TokM K mg CF CT dF dT dSplit dSkip dEnd dAt dName dKind dNum dLet dDig aB aW aS) : FnOk P w K mg base (L2.CX P w) 4 dAt.a dAt.fd ["text", "place"] (spTokenAt K CF CT) := by
  have FL : FnOk P w K mg base CX0 1 dLet.a dLet.fd ["byte"] spIsLetter := ok_isLetter M.let_
  have FD : FnOk P w K mg base CX0 1 dDig.a dDig.fd ["byte"] spIsDigit := ok_isDigit M.dig
  have FT : FnOk P w K mg base CX0 1 dT.a dT.fd ["self", "kind", "place", "behind", "value"] (spTokenI CT) := ok_TokenI M.T
  have FN : FnOk P w K mg base (L2.CX P w) 3 dName.a dName.fd ["text", "place"] (spNameAt K CF CT) := ok_nameAt M.nam M.let_ M.dig M.knd M.T M.F M.len M.ord M.cWD M.cNM M.tWD M.cLN M.cNT
  have FU : FnOk P w K mg base (L2.CX P w) 3 dNum.a dNum.fd ["text", "place"] (spNumberAt K CF CT) := ok_numberAt M.num M.dig M.T M.F M.len M.cNU M.cGN M.cNT
  refine M.tat.F.okX sc_tokenAt (fun vs H Q E h => ?_) (fun cdv A outer s H vs Q E hr h => ?_)
  · obtain ⟨a, ns, p, rfl, _⟩ := h; rfl
  · obtain ⟨a, ns, p, rfl, hS, hB, hp, kE, kQ⟩ := h
    have hr1 : Room 1 _ := hr.mono (by decide)
    have hr2 : Room 2 _ := hr.mono (by decide)
    refine ⟨_, pss_cons (ps_set (i := 2) sc_tokenAt.nd rfl (.inl rfl) (pe_ix ix_list (pv 0) (pv 1) (fun _ _ => rfl)))
      (pss_cons (ps_if (pt_val (pe_call FL hr1 rfl M.let_.g M.let_.k M.let_.b .nil pass0 (pa_cons (pv 2) pa_nil))) (pss_one (ps_ret (pe_call FN hr rfl M.nam.g M.nam.k M.nam.b .nil (passes_call (E := E) (takes_of rfl rfl rfl rfl) (fun _ _ _ _ e => e)) (pa_cons (pv 0) (pa_cons (pv 1) pa_nil))))) pss_nil)
      (pss_cons (ps_if (pt_val (pe_call FD hr1 rfl M.dig.g M.dig.k M.dig.b .nil pass0 (pa_cons (pv 2) pa_nil))) (pss_one (ps_ret (pe_call FU hr rfl M.num.g M.num.k M.num.b .nil (passes_call (E := E) (takes_of rfl rfl rfl rfl) (fun _ _ _ _ e => e)) (pa_cons (pv 0) (pa_cons (pv 1) pa_nil))))) pss_nil)
      (pss_cons (ps_if (pt_cmpR (op_inI M.tSG) (pv 2) (pe_cst rfl M.cSG) rfl) (pss_one (ps_ret (pe_make M.T.mkr FT hr2 rfl M.T.g M.T.b .nil pass0 (pa_cons (pe_ix (ix_I M.tSG) (pe_cst rfl M.cSG) (pv 2) (fun _ _ => rfl)) (pa_cons (pv 1) (pa_cons (pe_op op_add (pv 1) pe_int) (pa_cons pe_int pa_nil))))))) pss_nil)
      (pss_one (ps_fault (k := 1) rfl M.F hr (takes_of rfl rfl rfl rfl) (pa_cons (pe_cst rfl M.cNT) (pa_cons (pv 1) pa_nil))))))), ?_⟩
    obtain ⟨b, hb, hd⟩ := drop_at hp
    have hBd : ∀ c ∈ b :: ns.drop (p + 1), IsB c := fun c hc => hB c (List.mem_of_mem_drop (by rw [hd]; exact hc))
    have tk := BW.token_octs hBd
    rw [← hd] at tk
    refine ⟨_, rfl, _, rfl, a, _, _, _, rfl, rfl, hS, at_int hb, ?_⟩
    refine ⟨_, rfl, b, rfl, _, rfl, ?_⟩
    cases hl : isLet b with
    | true =>
      rw [if_pos hl] at tk
      have h0 : 0 < ((ns.drop p).takeWhile isNam).length := by
        rw [run_step (f := isNam) hd, if_pos (by unfold isNam; rw [hl]; rfl)]; omega
      refine ifT rfl ⟨_, rfl, _, rfl, a, ns, p, rfl, hS, hB, Nat.le_of_lt hp, h0, fun c => kE (by rw [tk, if_pos c]), fun c q H' s1 t1 => kQ _ (by rw [tk, if_neg c]) q H' s1 t1⟩
    | false =>
      rw [if_neg (by rw [hl]; exact Bool.false_ne_true)] at tk
      refine ifF rfl ⟨_, rfl, b, rfl, _, rfl, ?_⟩
      cases hg : isDig b with
      | true =>
        rw [if_pos hg] at tk
        refine ifT rfl ⟨_, rfl, _, rfl, a, ns, p, b, rfl, hS, hb, fun c => kE (by rw [tk, if_pos c]), fun c q H' s1 t1 => kQ _ (by rw [tk, if_neg c]) q H' s1 t1⟩
      | false =>
        rw [if_neg (by rw [hg]; exact Bool.false_ne_true)] at tk
        refine ifF rfl ⟨_, rfl, b, rfl, rfl, _, rfl, ?_⟩
        cases hs : isSig b with
        | true =>
          rw [if_pos hs] at tk
          obtain ⟨k, e1, e2⟩ := sg_kind hs
          refine ifT (by rw [e1]; rfl) ⟨_, rfl, b, _, rfl, rfl, e1, _, rfl, _, rfl, _, _, rfl, rfl, fun x dx nx ndx nex => ⟨x, dx, _, _, _, _, rfl, upd_same, rfl, ?_⟩⟩
          refine kQ _ tk x _ (same_made nx ndx) (new_tok nx ndx (by rw [e2]) rfl ?_)
          exact rfl
        | false =>
          rw [if_neg (by rw [hs]; exact Bool.false_ne_true)] at tk
          refine ifF (by rw [sg_none hs]; rfl) ⟨_, rfl, mk_fault fun d H2 hd hs hx => kE tk d H2 hd hs hx⟩
end
/-! ### split_tokens -/
abbrev s_split : Stmt := topS 23
/-- the tokens at the addresses -/
def TksAt (C : Addr) (H : Hp) : List Addr → VaskyBase.Toks → Prop
  | [], [] => True
  | a :: as, t :: ts => (∃ e, TokB C H a t e) ∧ TksAt C H as ts
  | _, _ => False
theorem TksAt.imp {C : Addr} {H H' : Hp} (k : ∀ a t e, TokB C H a t e → TokB C H' a t e) : ∀ {as : List Addr} {ts : VaskyBase.Toks}, TksAt C H as ts → TksAt C H' as ts
  | [], [], _ => trivial
  | a :: as, t :: ts, ⟨⟨e, h1⟩, h2⟩ => ⟨⟨e, k a t e h1⟩, TksAt.imp k h2⟩
theorem TksAt.snoc {C : Addr} {H : Hp} {a : Addr} {t : VaskyBase.PTok} {e : Int} (h : TokB C H a t e) : ∀ {as : List Addr} {ts : VaskyBase.Toks}, TksAt C H as ts → TksAt C H (as ++ [a]) (ts ++ [t])
  | [], [], _ => ⟨⟨e, h⟩, trivial⟩
  | b :: as, u :: ts, ⟨h1, h2⟩ => ⟨h1, TksAt.snoc h h2⟩
theorem TksAt.len {C : Addr} {H : Hp} : ∀ {as : List Addr} {ts : VaskyBase.Toks}, TksAt C H as ts → as.length = ts.length
  | [], [], _ => rfl
  | a :: as, t :: ts, ⟨_, h2⟩ => by rw [List.length_cons, List.length_cons, TksAt.len h2]
def spSplit (K : PySem.W.Frag) (CF CT : Addr) : Sp := fun vs H Q E => ∃ (a : Addr) (ns : List Int), vs = [.ref a] ∧ SqL K H a (ns.map V.int) ∧ (∀ x ∈ ns, IsB x) ∧ ns.length ≤ 4096 ∧
  (∀ f, BW.LX 0 (octs ns) = .error f → FltTo CF E H f.code f.place) ∧
  (∀ ts, BW.LX 0 (octs ns) = .ok ts → ∀ (l : Addr) (as : List Addr) (H' : Hp), Same H H' → H l = none → H' l = some (.lst (as.map V.ref)) → TksAt CT H' as ts → as.length ≤ 4097 → Q (.ref l) H')
section
variable {P : Program} {w : World} {K : PySem.W.Frag} {mg : Str → Option Value} {base : Heap} {CF CT aB aW aS : Addr} {dF dT dSplit dSkip dEnd dAt dName dKind dNum dLet dDig : Dn}
theorem sc_split : FnScope ["text", "tokens", "place", "token"] ["text"] (defScope s_split) := ⟨rfl, rfl, rfl, by decide +kernel, rfl, by decide +kernel, by decide +kernel⟩
theorem ok_split (M : TokM K mg CF CT dF dT dSplit dSkip dEnd dAt dName dKind dNum dLet dDig aB aW aS) : FnOk P w K mg base (L2.CX P w) 5 dSplit.a dSplit.fd ["text"] (spSplit K CF CT) := by
  have FS : FnOk P w K mg base CX0 2 dSkip.a dSkip.fd ["text", "place"] (spSkip K) := ok_skip M.skip M.lend M.len M.cLE M.cRM M.cBL M.tBL
  have FT : FnOk P w K mg base CX0 1 dT.a dT.fd ["self", "kind", "place", "behind", "value"] (spTokenI CT) := ok_TokenI M.T
  have FA : FnOk P w K mg base (L2.CX P w) 4 dAt.a dAt.fd ["text", "place"] (spTokenAt K CF CT) := ok_tokenAt M
  refine M.split.F.okX sc_split (fun vs H Q E h => ?_) (fun cdv A outer s H vs Q E hr h => ?_)
  · obtain ⟨a, ns, rfl, _⟩ := h; rfl
  · obtain ⟨a, ns, rfl, hS, hB, hlen, kE, kQ⟩ := h
    have hr2 : Room 2 _ := hr.mono (by decide)
    refine ⟨_, pss_cons (ps_set (i := 1) sc_split.nd rfl (.inl rfl) (pe_lst pa_nil))
      (pss_cons (ps_set (i := 2) sc_split.nd rfl (.inl rfl) (pe_call FS hr2 rfl M.skip.g M.skip.k M.skip.b .nil pass0 (pa_cons (pv 0) (pa_cons pe_int pa_nil))))
      (pss_cons (ps_while (passes_of rfl) (pt_cmpR op_lt (pv 2) (pe_callB call_len_seq (by rfl) M.len PySem.boot_len (pa_cons (pv 0) pa_nil)) (nomark _))
        (pss_cons (ps_set (i := 3) sc_split.nd rfl (.inl rfl) (pe_call FA hr rfl M.tat.g M.tat.k M.tat.b .nil (passes_call (E := E) (takes_of rfl rfl rfl rfl) (fun _ _ _ _ e => e)) (pa_cons (pv 0) (pa_cons (pv 2) pa_nil))))
        (pss_cons (ps_expr (pe_bm PySem.F.plainAttrs_list PySem.F.slot_list_append PySem.F.type_list_append mt_append (pv 1) (pa_cons (pv 3) pa_nil)))
        (pss_one (ps_set (i := 2) sc_split.nd rfl (.inl rfl) (pe_call FS hr2 rfl M.skip.g M.skip.k M.skip.b .nil pass0 (pa_cons (pv 0) (pa_cons (pe_fld (pv 3) rfl) pa_nil))))))))
      (pss_cons (ps_expr (pe_bm PySem.F.plainAttrs_list PySem.F.slot_list_append PySem.F.type_list_append mt_append (pv 1) (pa_cons (pe_make M.T.mkr FT hr2 rfl M.T.g M.T.b .nil pass0 (pa_cons (pe_cst rfl M.cEN) (pa_cons (pe_callB call_len_seq (by rfl) M.len PySem.boot_len (pa_cons (pv 0) pa_nil)) (pa_cons (pe_callB call_len_seq (by rfl) M.len PySem.boot_len (pa_cons (pv 0) pa_nil)) (pa_cons pe_int pa_nil))))) pa_nil)))
      (pss_one (ps_ret (pv 1)))))), ?_⟩
    refine ⟨(by show 0 ≤ sizeLine; decide), fun l hl => ?_⟩
    have s0 : Same H (upd H l (.lst [])) := same_new hl
    refine ⟨_, rfl, a, ns, 0, rfl, s0.seq hS, Nat.zero_le _, ?_⟩
    -- behind blanks and remarks: there are none
    have bare : ∀ p : Nat, sk false (ns.drop (p + sk false (ns.drop p))) = 0 := fun p => by
      rw [← List.drop_drop]
      cases hc : (ns.drop p).drop (sk false (ns.drop p)) with
      | nil => rw [BW.sk]
      | cons b r =>
        obtain ⟨h1, h2⟩ := BW.sk_head _ (ns.drop p) (Nat.le_refl _) hc
        exact BW.sk_no h1 (by rw [h2]; exact Bool.false_ne_true)
    have skl : ∀ p : Nat, p ≤ ns.length → p + sk false (ns.drop p) ≤ ns.length := fun p hp => by
      have := BW.sk_le false (ns.drop p)
      rw [List.length_drop] at this; omega
    have skx : ∀ p : Nat, BW.LX p (octs (ns.drop p)) = BW.LX (p + sk false (ns.drop p)) (octs (ns.drop (p + sk false (ns.drop p)))) := fun p => by
      have e := BW.LX_skip _ (ns.drop p) p (Nat.le_refl _) fun b hb => hB b (List.mem_of_mem_drop hb)
      rw [List.drop_drop] at e; exact e
    have map_id : ∀ x : Except VaskyBase.Fault VaskyBase.Toks, x = x.map (fun r => [] ++ r) := fun x => by cases x <;> rfl
    refine ⟨fun m σ H' => ∃ (q : Nat) (as : List Addr) (dn : VaskyBase.Toks) (v : Option V), σ = [some (.ref a), some (.ref l), some (.int q), v] ∧ Same H H' ∧ H' l = some (.lst (as.map V.ref)) ∧ TksAt CT H' as dn ∧ q ≤ ns.length ∧ sk false (ns.drop q) = 0 ∧
        BW.LX 0 (octs ns) = (BW.LX q (octs (ns.drop q))).map (fun r => dn ++ r) ∧ as.length ≤ q ∧ m = ns.length - q,
      ⟨_, 0 + sk false (ns.drop 0), [], [], none, rfl, s0, upd_same, trivial, skl 0 (Nat.zero_le _), bare 0, ?_, Nat.zero_le _, rfl⟩, ?_⟩
    · rw [← skx 0]; exact map_id _
    rintro m σ H' ⟨q, as, dn, v, rfl, s1, hl1, tk1, hq, hsk, hLX, has, rfl⟩
    refine ⟨_, rfl, _, rfl, a, _, rfl, .inl (s1.seq hS), _, _, rfl, rfl, _, rfl, ?_⟩
    by_cases c : q < ns.length
    · refine ifT (by simpa using c) ⟨_, fun _ _ z => z, ?_⟩
      obtain ⟨b, hb, hd⟩ := drop_at c
      have hbB : IsB b := hB b (List.mem_of_getElem? hb)
      have n35 : ¬ b = 35 := fun z => by rw [hd, BW.sk, if_pos z] at hsk; omega
      have nbl : isBla b = false := by
        cases z : isBla b
        · rfl
        · rw [hd, BW.sk, if_neg n35, if_pos z] at hsk; omega
      have eL := BW.LX_tok (at_ := q) (b := BW.oct b) (r := octs (ns.drop (q + 1))) (by rw [BW.oct_bla hbB]; exact nbl) (by rw [BW.oct_rem hbB]; exact decide_eq_false n35)
      have eo : BW.oct b :: octs (ns.drop (q + 1)) = octs (ns.drop q) := by rw [hd]; rfl
      rw [eo] at eL
      rw [eL] at hLX
      refine ⟨_, rfl, _, rfl, a, ns, q, rfl, s1.seq hS, hB, c, fun hn => ?_, fun x hx t H2 s2 t2 => ?_⟩
      · rw [hn] at hLX
        exact (kE ⟨2, q⟩ hLX).from s1
      · rw [hx] at hLX
        obtain ⟨x1, x2⟩ := BW.token_len hx
        have xl : (octs (ns.drop q)).length = ns.length - q := by unfold BW.octs; rw [List.length_map, List.length_drop]
        rw [xl] at x2
        have s12 := s1.trans s2
        have hl2 := s2 l _ hl1
        have aslen : (as.map V.ref).length < sizeLine := by
          rw [List.length_map]; exact Nat.lt_of_le_of_lt (Nat.le_trans has (Nat.le_trans hq hlen)) (by decide)
        refine ⟨_, rfl, .inl ⟨rfl, _, SqL.of hl2⟩, _, rfl, l, _, _, rfl, rfl, hl2, aslen, ?_⟩
        have e3 : as.map V.ref ++ [V.ref t] = (as ++ [t]).map V.ref := by rw [List.map_append]; rfl
        rw [e3]
        have t3 : TokB CT (upd H2 l (.lst ((as ++ [t]).map V.ref))) t ⟨q, x.1⟩ ((q + x.2 : Nat) : Int) := t2.chgL hl2
        obtain ⟨dx, v3, ht3, _⟩ := id t3
        have s3 : Same H (upd H2 l (.lst ((as ++ [t]).map V.ref))) := same_upd s12 hl
        refine ⟨_, rfl, _, rfl, t, CT, dx, _, _, rfl, ht3, M.T.cl, M.T.no _ (by simp), ?_, a, ns, q + x.2, rfl, s3.seq hS, by omega, ?_⟩
        · exact (lk1 (by decide +kernel)).trans ((lk1 (by decide +kernel)).trans lk0)
        refine ⟨_, ?_, q + x.2 + sk false (ns.drop (q + x.2)), as ++ [t], dn ++ [⟨q, x.1⟩], _, rfl, s3, upd_same, ?_, skl _ (by omega), bare _, ?_, ?_, rfl⟩
        · have := skl (q + x.2) (by omega)
          omega
        · exact TksAt.snoc t3 ((tk1.imp fun _ _ _ h => h.same s2).imp fun _ _ _ h => h.chgL hl2)
        · rw [hLX]
          have ed : (octs (ns.drop q)).drop x.2 = octs (ns.drop (q + x.2)) := by
            unfold BW.octs; rw [← List.map_drop, List.drop_drop]
          show ((BW.LX (q + x.2) ((octs (ns.drop q)).drop x.2)).map _).map _ = _
          rw [ed, skx (q + x.2)]
          cases BW.LX (q + x.2 + sk false (ns.drop (q + x.2))) (octs (ns.drop (q + x.2 + sk false (ns.drop (q + x.2))))) with
          | error f => rfl
          | ok ts => show Except.ok (dn ++ (_ :: ts)) = Except.ok (dn ++ [_] ++ ts); rw [List.append_assoc]; rfl
        · rw [List.length_append]; show as.length + 1 ≤ _; omega
    · have e : q = ns.length := by omega
      refine ifF (by simpa using c) ?_
      refine ⟨_, rfl, .inl ⟨rfl, _, SqL.of hl1⟩, ?_⟩
      refine ⟨_, rfl, a, _, rfl, .inl (s1.seq hS), _, rfl, a, _, rfl, .inl (s1.seq hS), fun x dx nx ndx nex => ⟨x, dx, _, _, _, _, rfl, upd_same, rfl, ?_⟩⟩
      have sm := same_made (C := CT) (o := .ins CT dx (tokF "end" ((ns.map V.int).length : Nat) ((ns.map V.int).length : Nat) (.int 0))) nx ndx
      have hl2 := sm l _ hl1
      have aslen : (as.map V.ref).length < sizeLine := by
        rw [List.length_map]; exact Nat.lt_of_le_of_lt (Nat.le_trans has (Nat.le_trans hq hlen)) (by decide)
      refine ⟨l, _, _, rfl, rfl, hl2, aslen, _, rfl, ?_⟩
      have e3 : as.map V.ref ++ [V.ref x] = (as ++ [x]).map V.ref := by rw [List.map_append]; rfl
      rw [e3]
      have tn : TokB CT _ x ⟨ns.length, .last⟩ ((ns.map V.int).length : Nat) := new_tok (C := CT) (k := "end") (p := ((ns.map V.int).length : Nat)) (b := ((ns.map V.int).length : Nat)) (v := .int 0) (t := ⟨ns.length, .last⟩) nx ndx rfl (by rw [List.length_map]) rfl
      refine kQ (dn ++ [⟨ns.length, .last⟩]) ?_ l (as ++ [x]) _ (same_upd (s1.trans sm) hl) hl upd_same (TksAt.snoc (tn.chgL hl2) ((tk1.imp fun _ _ _ h => h.same sm).imp fun _ _ _ h => h.chgL hl2)) ?_
      · rw [hLX, e, List.drop_length]; rfl
      · rw [List.length_append]; show as.length + 1 ≤ _; omega
end
end BWP
namespace BWP
open PySem PySem.Spec PyProof.Rows L2
open BW (isDig isLet isBla isNam isSig IsB octs toEnd sk decI takeK kind Good numT nameT)
open VaskyBase (Toks PTok)
/-- all but the object at r stands -/
def KB (r : Addr) (H H' : Hp) : Prop := ∀ b o, H b = some o → b ≠ r → H' b = some o
theorem KB.refl (r : Addr) (H : Hp) : KB r H H := fun _ _ h _ => h
theorem KB.trans {r : Addr} {H H1 H2 : Hp} (a : KB r H H1) (b : KB r H1 H2) : KB r H H2 := fun c o h n => b c o (a c o h n) n
theorem KB.of {r : Addr} {H H' : Hp} (s : Same H H') : KB r H H' := fun b o h _ => s b o h
theorem KB.up {r : Addr} {H : Hp} {o : HO} : KB r H (upd H r o) := fun b u h n => by rw [upd_ne n]; exact h
theorem KB.seq {K : PySem.W.Frag} {r a : Addr} {H H' : Hp} {xs : List V} (h : KB r H H') (n : a ≠ r) (q : SqL K H a xs) : SqL K H' a xs := by
  rcases q with (q | ⟨o, q⟩) | q
  · exact .inl (.inl (h _ _ q n))
  · exact .inl (.inr ⟨o, h _ _ q n⟩)
  · exact .inr q
/-! ### Reader -/
abbrev s_ReaderI : Stmt := inClass (topS 38) 0
abbrev s_sees : Stmt := inClass (topS 38) 1
abbrev s_take : Stmt := inClass (topS 38) 2
def rdF (l : Addr) (n : Int) : List (Str × V) := [("tokens", .ref l), ("taken", .int n)]
/-- the reader at r: what is still to be read; B: the part of the heap that holds the tokens, which nothing changes -/
def RdAt (CR CT : Addr) (B H : Hp) (r : Addr) (rest : Toks) : Prop := Same B H ∧ B r = none ∧ ∃ (dx l : Addr) (as : List Addr) (all : Toks) (n : Nat), H r = some (.ins CR dx (rdF l n)) ∧ B l = some (.lst (as.map V.ref)) ∧ TksAt CT B as all ∧ rest = all.drop n
theorem RdAt.same {CR CT : Addr} {B H H' : Hp} {r : Addr} {rest : Toks} (s : Same H H') (h : RdAt CR CT B H r rest) : RdAt CR CT B H' r rest := by
  obtain ⟨sB, hB, dx, l, as, all, n, h1, h2⟩ := h
  exact ⟨sB.trans s, hB, dx, l, as, all, n, s _ _ h1, h2⟩
/-- the reader stands while another object, none of B, is changed -/
theorem RdAt.chg {CR CT : Addr} {B H : Hp} {r x : Addr} {o : HO} {rest : Toks} (h : RdAt CR CT B H r rest) (hx : B x = none) (hr : x ≠ r) : RdAt CR CT B (upd H x o) r rest := by
  obtain ⟨sB, hB, dx, l, as, all, n, h1, h2⟩ := h
  exact ⟨fun b u e => by rw [upd_ne (ne_of_none e hx)]; exact sB b u e, hB, dx, l, as, all, n, (upd_ne (Ne.symm hr)).trans h1, h2⟩
theorem tks_at {C : Addr} {H : Hp} : ∀ {as : List Addr} {ts : Toks} {n : Nat} {t : PTok} {r : Toks}, TksAt C H as ts → ts.drop n = t :: r → ∃ a e, as[n]? = some a ∧ TokB C H a t e
  | [], [], n, t, r, _, h => by simp at h
  | a :: as, u :: ts, 0, t, r, ⟨⟨e, h1⟩, _⟩, h => by
    have : u = t := by simpa using (List.cons.inj h).1
    subst this
    exact ⟨a, e, rfl, h1⟩
  | a :: as, u :: ts, n + 1, t, r, ⟨_, h2⟩, h => by
    obtain ⟨b, e, q1, q2⟩ := tks_at h2 h
    exact ⟨b, e, q1, q2⟩
theorem at_refs {as : List Addr} {i : Nat} {a : Addr} (h : as[i]? = some a) : atI (as.map V.ref) (i : Int) = some (.ref a) := atI_nat (by rw [List.getElem?_map, h]; rfl)
/-! kinds as texts -/
def KINDS : List String := ["measures", "up", "down", "item", "name", "number", "end", ",", ":", ";", "-"]
theorem kind_in (t : VaskyBase.Tok) : kind t ∈ KINDS := by
  unfold kind
  cases t with
  | name b => simp only; split; · decide
              · split; · decide
                · split; · decide
                  · split <;> decide
  | num n => exact (by decide : "number" ∈ KINDS)
  | sign c => simp only; split; · decide
              · split; · decide
                · split <;> decide
  | last => decide
theorem kinds_inj : ∀ a ∈ KINDS, ∀ b ∈ KINDS, Str.ofString a = Str.ofString b → a = b := by decide +kernel
theorem kind_eq {t : VaskyBase.Tok} {k : String} (hk : k ∈ KINDS) : (Str.ofString (kind t) = Str.ofString k) ↔ kind t = k := ⟨fun h => kinds_inj _ (kind_in t) _ hk h, fun h => by rw [h]⟩
theorem inV_kinds {t : VaskyBase.Tok} : ∀ {ks : List String}, (∀ k ∈ ks, k ∈ KINDS) → inV (.str (kind t)) (ks.map fun (k : String) => V.str k) = decide (kind t ∈ ks)
  | [], _ => by simp [inV]
  | k :: ks, h => by
    have ih := inV_kinds (t := t) (ks := ks) fun x hx => h x (List.mem_cons_of_mem _ hx)
    have e : inV (.str (kind t)) ((k :: ks).map fun (k : String) => V.str k) = ((Str.ofString k == Str.ofString (kind t)) || inV (.str (kind t)) (ks.map fun (k : String) => V.str k)) := rfl
    rw [e, ih]
    by_cases c : kind t = k
    · simp [c]
    · have : (Str.ofString k == Str.ofString (kind t)) = false := by
        rw [beq_eq_false_iff_ne]
        exact fun z => c ((kind_eq (h k (by simp))).mp z.symm)
      rw [this]; simp [c]
theorem flat_kinds : ∀ ks : List String, (ks.map fun (k : String) => V.str k).all flatV = true
  | [] => rfl
  | k :: ks => by rw [List.map_cons, List.all_cons, flat_kinds ks]; rfl
/-- what the top says of Reader -/
structure RdrT (K : PySem.W.Frag) (mg : Str → Option Value) (CR : Addr) (dI dS dT : Dn) : Prop where
  r : Rec K mg "Reader" "Reader.__init__" s_ReaderI ["self", "tokens"] ["tokens", "taken"] CR dI
  mS : Meth K CR "sees" dS.a
  FS : Fun K "sees" "Reader.sees" s_sees dS.a dS.fd
  bS : Binds K dS.fd ["self", "kind"] []
  mT : Meth K CR "take" dT.a
  FT : Fun K "take" "Reader.take" s_take dT.a dT.fd
  bT : Binds K dT.fd ["self", "kinds"] []
def spReaderI (C : Addr) : Sp := fun vs H Q _ => ∃ (x dx l : Addr), vs = [.ref x, .ref l] ∧ H x = some (.ins C dx []) ∧ Q .non (upd H x (.ins C dx (rdF l 0)))
def spSees (CR CT : Addr) : Sp := fun vs H Q _ => ∃ (r : Addr) (k : String) (t : PTok) (rest : Toks), vs = [.ref r, .str k] ∧ k ∈ KINDS ∧ (∃ B, RdAt CR CT B H r (t :: rest)) ∧ Q (.bl (decide (kind t.tok = k))) H
def spTake (K : PySem.W.Frag) (CR CT CF : Addr) : Sp := fun vs H Q E => ∃ (B : Hp) (r p : Addr) (ks : List String) (rest : Toks), vs = [.ref r, .ref p] ∧ (∀ k ∈ ks, k ∈ KINDS) ∧ SqT K H p (ks.map fun (k : String) => V.str k) ∧ RdAt CR CT B H r rest ∧ rest ≠ [] ∧
  (∀ f, takeK ks rest = .error f → FltTo CF E H f.code f.place) ∧
  (∀ x, takeK ks rest = .ok x → ∀ (a : Addr) (e : Int) (H' : Hp), KB r H H' → TokB CT B a x.1 e → RdAt CR CT B H' r x.2 → Q (.ref a) H')
section
variable {P : Program} {w : World} {K : PySem.W.Frag} {mg : Str → Option Value} {base : Heap} {CR CT CF : Addr} {dI dS dT dK dF : Dn}
theorem sc_ReaderI : FnScope ["self", "tokens"] ["self", "tokens"] (defScope s_ReaderI) := ⟨rfl, rfl, rfl, by decide +kernel, rfl, by decide +kernel, by decide +kernel⟩
theorem ok_ReaderI (T : RdrT K mg CR dI dS dT) : FnOk P w K mg base CX0 1 dI.a dI.fd ["self", "tokens"] (spReaderI CR) := by
  refine T.r.F.ok sc_ReaderI (fun vs H Q E h => ?_) (fun cdv A outer s H vs Q E hr h => ?_)
  · obtain ⟨x, dx, l, rfl, _⟩ := h; rfl
  · obtain ⟨x, dx, l, rfl, hx, q⟩ := h
    refine ⟨_, pss_cons (ps_fld (pv 0) (pv 1) rfl) (pss_one (ps_fld (pv 0) pe_int rfl)), ?_⟩
    refine ⟨_, rfl, _, rfl, x, CR, dx, _, rfl, hx, T.r.cl, T.r.no _ (by simp), (by show 0 < 1000; decide), ?_⟩
    refine ⟨_, rfl, x, CR, dx, _, rfl, upd_same, T.r.cl, T.r.no _ (by simp), (by show 1 < 1000; decide), ?_⟩
    rw [upd_upd]; exact q
theorem sc_sees : FnScope ["self", "kind"] ["self", "kind"] (defScope s_sees) := ⟨rfl, rfl, rfl, by decide +kernel, rfl, by decide +kernel, by decide +kernel⟩
theorem rd_tokens {l : Addr} {n : Int} : (rdF l n).lookup ("tokens" : Str) = some (.ref l) := lk0
theorem rd_taken {l : Addr} {n : Int} : (rdF l n).lookup ("taken" : Str) = some (.int n) := (lk1 (by decide +kernel)).trans lk0
theorem tk_kind {k : Str} {p b : Int} {v : V} : (tokF k p b v).lookup ("kind" : Str) = some (.str k) := lk0
theorem tk_place {k : Str} {p b : Int} {v : V} : (tokF k p b v).lookup ("place" : Str) = some (.int p) := (lk1 (by decide +kernel)).trans lk0
theorem tk_value {k : Str} {p b : Int} {v : V} : (tokF k p b v).lookup ("value" : Str) = some v := (lk1 (by decide +kernel)).trans ((lk1 (by decide +kernel)).trans ((lk1 (by decide +kernel)).trans lk0))
theorem ok_sees (T : RdrT K mg CR dI dS dT) (TT : TokT K mg CT dK) : FnOk P w K mg base CX0 1 dS.a dS.fd ["self", "kind"] (spSees CR CT) := by
  refine T.FS.ok sc_sees (fun vs H Q E h => ?_) (fun cdv A outer s H vs Q E hr h => ?_)
  · obtain ⟨r, k, t, rest, rfl, _⟩ := h; rfl
  · obtain ⟨r, k, t, rest, rfl, hk, ⟨B, sB, hB, dx, l, as, all, n, e1, e2, e3, e4⟩, q⟩ := h
    refine ⟨_, pss_one (ps_ret (pe_cmpR op_eq (pe_fld (pe_ix ix_list (pe_fld (pv 0) rfl) (pe_fld (pv 0) rfl) (fun _ _ => rfl)) rfl) (pv 1) (nomark _))), ?_⟩
    obtain ⟨a, e, ha, dt, v, ht, _⟩ := tks_at e3 e4.symm
    have ht := sB _ _ ht
    have e2 := sB _ _ e2
    refine ⟨_, rfl, r, CR, dx, _, _, rfl, e1, T.r.cl, T.r.no _ (by simp), rd_tokens, _, rfl, r, CR, dx, _, _, rfl, e1, T.r.cl, T.r.no _ (by simp), rd_taken, l, _, _, _, rfl, rfl, SqL.of e2, at_refs ha, a, CT, dt, _, _, rfl, ht, TT.cl, TT.no _ (by simp), tk_kind, _, rfl, rfl, ?_⟩
    have : decide (V.str (kind t.tok) = V.str k) = decide (kind t.tok = k) := decide_eq_decide.mpr ⟨fun z => (kind_eq hk).mp (V.str.inj z), fun z => by rw [z]⟩
    rw [this]; exact q
theorem sc_take : FnScope ["self", "kinds", "token"] ["self", "kinds"] (defScope s_take) := ⟨rfl, rfl, rfl, by decide +kernel, rfl, by decide +kernel, by decide +kernel⟩
theorem ok_take (T : RdrT K mg CR dI dS dT) (TT : TokT K mg CT dK) (TF : FaultT K mg CF dF) (mX : Cst mg "NOT_ALLOWED" (.int 3)) : FnOk P w K mg base (L2.CX P w) 3 dT.a dT.fd ["self", "kinds"] (spTake K CR CT CF) := by
  refine T.FT.okX sc_take (fun vs H Q E h => ?_) (fun cdv A outer s H vs Q E hr h => ?_)
  · obtain ⟨B, r, p, ks, rest, rfl, _⟩ := h; rfl
  · obtain ⟨B, r, p, ks, rest, rfl, hk, hp, ⟨sB, hB, dx, l, as, all, n, e1, e2, e3, e4⟩, hne, kE, kQ⟩ := h
    refine ⟨_, pss_cons (ps_set (i := 2) sc_take.nd rfl (.inl rfl) (pe_ix ix_list (pe_fld (pv 0) rfl) (pe_fld (pv 0) rfl) (fun _ _ => rfl)))
      (pss_cons (ps_if (pt_cmpR op_notIn_seq (pe_fld (pv 2) rfl) (pv 1) rfl) (pss_one (ps_fault (k := 0) rfl TF hr (takes_of rfl rfl rfl rfl) (pa_cons (pe_cst rfl mX) (pa_cons (pe_fld (pv 2) rfl) pa_nil)))) pss_nil)
      (pss_cons (ps_fldaug (pv 0) pe_int in_add) (pss_one (ps_ret (pv 2))))), ?_⟩
    cases rest with
    | nil => exact absurd rfl hne
    | cons t rest =>
      obtain ⟨a, e, ha, dt, v, ht0, hv⟩ := tks_at e3 e4.symm
      have ht := sB _ _ ht0
      have e2' := sB _ _ e2
      refine ⟨_, rfl, r, CR, dx, _, _, rfl, e1, T.r.cl, T.r.no _ (by simp), rd_tokens, _, rfl, r, CR, dx, _, _, rfl, e1, T.r.cl, T.r.no _ (by simp), rd_taken, l, _, _, _, rfl, rfl, SqL.of e2', at_refs ha, ?_⟩
      refine ⟨_, rfl, a, CT, dt, _, _, rfl, ht, TT.cl, TT.no _ (by simp), tk_kind, _, rfl, p, _, rfl, .inr hp, rfl, flat_kinds ks, _, rfl, ?_⟩
      by_cases c : kind t.tok ∈ ks
      · refine ifF (by show (!inV (.str (kind t.tok)) (ks.map fun (k : String) => V.str k)) = false; rw [inV_kinds hk, decide_eq_true c]; rfl) ?_
        refine ⟨_, rfl, r, CR, dx, _, _, rfl, e1, T.r.cl, T.r.no _ (by simp), rd_taken, _, _, rfl, rfl, dx, _, e1, (by show 2 < 1000; decide), _, rfl, ?_⟩
        refine kQ (t, rest) (by show (if kind t.tok ∈ ks then _ else _) = _; rw [if_pos c]) a e _ KB.up ⟨dt, v, ht0, hv⟩ ⟨fun b u q => by rw [upd_ne (ne_of_none q hB)]; exact sB b u q, hB, dx, l, as, all, n + 1, upd_same, e2, e3, ?_⟩
        · rw [← List.drop_drop, ← e4]; rfl
      · refine ifT (by show (!inV (.str (kind t.tok)) (ks.map fun (k : String) => V.str k)) = true; rw [inV_kinds hk, decide_eq_false c]; rfl) ?_
        exact ⟨_, rfl, a, CT, dt, _, _, rfl, ht, TT.cl, TT.no _ (by simp), tk_place, mk_fault fun d H2 hd hs hx => kE ⟨3, t.place⟩ (by show (if kind t.tok ∈ ks then _ else _) = _; rw [if_neg c]) d H2 hd hs hx⟩
end
end BWP
namespace BWP
open PySem PySem.Spec PyProof.Rows L2
open BW (isDig isLet isBla isNam isSig IsB octs toEnd sk decI takeK kind Good numT nameT finV)
open VaskyBase (Toks PTok)
theorem KB.fltTo {CF : Addr} {E : XK} {H H1 : Hp} {c p : Int} (h : FltTo CF E H c p) (s : Same H H1) : FltTo CF E H1 c p := h.from s
/-- an error that leaves behind a change of the object at r alone -/
def FltBut (r CF : Addr) (E : XK) (H : Hp) (c p : Int) : Prop := ∀ (d : Addr) (H' : Hp), KB r H H' → H' d = some (.xd (fltF c p)) → (H d = none) → E (.ref CF) (some d) H'
theorem FltBut.to {r CF : Addr} {E : XK} {H H1 : Hp} {c p : Int} (h : FltBut r CF E H c p) (k : KB r H H1) (hr : ∃ o, H1 r = some o) : FltTo CF E H1 c p := fun d H' hd hs hx => by
  refine h d H' (k.trans (KB.of hs)) hx ?_
  cases q : H d with
  | none => rfl
  | some o =>
    by_cases z : d = r
    · obtain ⟨o', ho⟩ := hr
      rw [z, ho] at hd; cases hd
    · rw [k d o q z] at hd; cases hd
theorem FltBut.from {r CF : Addr} {E : XK} {H H1 : Hp} {c p : Int} (h : FltBut r CF E H c p) (k : KB r H H1) (hr : ∃ o, H1 r = some o) : FltBut r CF E H1 c p := fun d H' kb hx hd => by
  refine h d H' (k.trans kb) hx ?_
  cases q : H d with
  | none => rfl
  | some o =>
    by_cases z : d = r
    · obtain ⟨o', ho⟩ := hr
      rw [z, ho] at hd; cases hd
    · rw [k d o q z] at hd; cases hd
theorem rd_take {l : Addr} {n : Int} : (rdF l n).lookup ("take" : Str) = none := (lk1 (by decide +kernel)).trans ((lk1 (by decide +kernel)).trans rfl)
theorem rd_sees {l : Addr} {n : Int} : (rdF l n).lookup ("sees" : Str) = none := (lk1 (by decide +kernel)).trans ((lk1 (by decide +kernel)).trans rfl)
section
variable {P : Program} {w : World} {K : PySem.W.Frag} {mg : Str → Option Value} {base : Heap} {CR CT CF : Addr} {dI dS dT dK dF d dV : Dn}
/-- reader.take((..)): what the call asks, the reader in some slot -/
theorem use_take {B H : Hp} {Q : VK} {E : XK} {r p : Addr} {ks : List String} {rest : Toks} (hks : ∀ k ∈ ks, k ∈ KINDS) (R : RdAt CR CT B H r rest) (hne : rest ≠ []) (hp : H p = none)
    (kE : ∀ f, takeK ks rest = .error f → FltTo CF E H f.code f.place) (kQ : ∀ x, takeK ks rest = .ok x → ∀ (a : Addr) (e : Int) (H' : Hp), KB r H H' → TokB CT B a x.1 e → RdAt CR CT B H' r x.2 → Q (.ref a) H') :
    spTake K CR CT CF ([.ref r, .ref p] ++ []) (upd H p (.tup (ks.map fun (k : String) => V.str k))) Q E :=
  ⟨B, r, p, ks, rest, rfl, hks, SqT.of upd_same, R.same (same_new hp), hne, fun f hf => (kE f hf).from (same_new hp), fun x hx a e H' kb tb rd => kQ x hx a e H' ((KB.of (same_new hp)).trans kb) tb rd⟩
theorem RdAt.obj {B H : Hp} {r : Addr} {rest : Toks} (R : RdAt CR CT B H r rest) : ∃ (dx l : Addr) (n : Int), H r = some (.ins CR dx (rdF l n)) := by
  obtain ⟨_, _, dx, l, as, all, n, e1, _⟩ := R
  exact ⟨dx, l, n, e1⟩
theorem RdAt.some {B H : Hp} {r : Addr} {rest : Toks} (R : RdAt CR CT B H r rest) : ∃ o, H r = some o := by
  obtain ⟨dx, l, n, e1⟩ := R.obj
  exact ⟨_, e1⟩
/-! ### read_value -/
abbrev s_value : Stmt := topS 43
def spValue (CR CT CF : Addr) : Sp := fun vs H Q E => ∃ (B : Hp) (r : Addr) (rest : Toks), vs = [.ref r] ∧ RdAt CR CT B H r rest ∧ Good rest ∧
  (∀ f, Vaskya.takeInt rest = .error f → FltBut r CF E H f.code f.place) ∧ (∀ x, Vaskya.takeInt rest = .ok x → ∀ H', KB r H H' → RdAt CR CT B H' r x.2 → Q (.int x.1) H')
theorem sc_value : FnScope ["reader", "token", "sign"] ["reader"] (defScope s_value) := ⟨rfl, rfl, rfl, by decide +kernel, rfl, by decide +kernel, by decide +kernel⟩
theorem ok_value (G : Glb K mg "read_value" s_value ["reader"] d) (T : RdrT K mg CR dI dS dT) (TT : TokT K mg CT dK) (TF : FaultT K mg CF dF) (mX : Cst mg "NOT_ALLOWED" (.int 3)) (mN : Cst mg "NUMBER" (.str "number")) (mG : Cst mg "GREATEST_VALUE" (.int 1000)) (mT : Cst mg "TOO_GREAT" (.int 7)) :
    FnOk P w K mg base (L2.CX P w) 4 d.a d.fd ["reader"] (spValue CR CT CF) := by
  have FT : FnOk P w K mg base (L2.CX P w) 3 dT.a dT.fd ["self", "kinds"] (spTake K CR CT CF) := ok_take T TT TF mX
  refine G.F.okX sc_value (fun vs H Q E h => ?_) (fun cdv A outer s H vs Q E hr h => ?_)
  · obtain ⟨B, r, rest, rfl, _⟩ := h; rfl
  · obtain ⟨B, r, rest, rfl, R, hg, kE, kQ⟩ := h
    refine ⟨_, pss_cons (ps_set (i := 1) sc_value.nd rfl (.inl rfl) (pe_meth (pv 0) T.r.cl T.mT FT hr T.bT .nil (passes_call (E := E) (takes_of rfl rfl rfl rfl) (fun _ _ _ _ e => e)) (pa_cons (pe_tup (pa_cons pe_str (pa_cons (pe_cst rfl mN) pa_nil))) pa_nil)))
      (pss_cons (ps_set (i := 2) sc_value.nd rfl (.inl rfl) pe_int)
      (pss_cons (ps_if (pt_cmpR op_eq (pe_fld (pv 1) rfl) pe_str (nomark _))
        (pss_cons (ps_set (i := 2) sc_value.nd rfl (.inl rfl) (pe_un un_neg pe_int))
          (pss_one (ps_set (i := 1) sc_value.nd rfl (.inl rfl) (pe_meth (pv 0) T.r.cl T.mT FT hr T.bT .nil (passes_call (E := E) (takes_of rfl rfl rfl rfl) (fun _ _ _ _ e => e)) (pa_cons (pe_tup (pa_cons (pe_cst rfl mN) pa_nil)) pa_nil))))) pss_nil)
      (pss_cons (ps_if (pt_cmpR op_gt (pe_fld (pv 1) rfl) (pe_cst rfl mG) (nomark _)) (pss_one (ps_fault (k := 1) rfl TF hr (takes_of rfl rfl rfl rfl) (pa_cons (pe_cst rfl mT) (pa_cons (pe_fld (pv 1) rfl) pa_nil)))) pss_nil)
      (pss_one (ps_ret (pe_op op_mul (pv 2) (pe_fld (pv 1) rfl))))))), ?_⟩
    rw [BW.takeInt_k hg] at kE kQ
    obtain ⟨dx, l, n, e1⟩ := R.obj
    -- behind the takings: a number in hand
    have fin : ∀ (sg : Int) (y : PTok × Toks) (a : Addr) (e : Int) (H1 : Hp), (sg = 1 ∨ sg = -1) → kind y.1.tok = "number" → KB r H H1 → TokB CT B a y.1 e → RdAt CR CT B H1 r y.2 → (∀ f, finV sg y = .error f → FltBut r CF E H f.code f.place) → (∀ x, finV sg y = .ok x → ∀ H', KB r H H' → RdAt CR CT B H' r x.2 → Q (.int x.1) H') →
        tSeq (tIfS (tTest (tOp (rI0 fun i j => V.bl (decide (j < i))) (tFld K (tVar 1) "value") (tC (.int 1000)))) (fun x σ H => tMkO CF (spFaultI CF) [] (tCons (tC (V.int 7)) (tCons (tFld K (tVar 1) "place") tNil)) σ H fun cls d H' => E cls d H') tNext)
          (tRet (tOp (rI CMul fun i j => .int (i * j)) (tVar 2) (tFld K (tVar 1) "value"))) { nx := fun x H' => Q V.non H', rt := Q } [some (.ref r), some (.ref a), some (.int sg)] H1 := by
      intro sg y a e H1 hsg hk kb tb rd fE fQ
      obtain ⟨n, hn⟩ := BW.kind_num.mp hk
      obtain ⟨dt, v, ht, hv⟩ := tb
      have ht := rd.1 _ _ ht
      rw [hn] at hv
      have hv : v = .int n := hv
      subst hv
      have en : numT y.1.tok = n := by rw [hn]; rfl
      refine ⟨_, rfl, a, CT, dt, _, _, rfl, ht, TT.cl, TT.no _ (by simp), tk_value, _, _, rfl, rfl, _, rfl, ?_⟩
      by_cases c : (1000 : Int) < n
      · refine ifT (decide_eq_true c) ⟨_, rfl, a, CT, dt, _, _, rfl, ht, TT.cl, TT.no _ (by simp), tk_place, mk_fault ?_⟩
        exact (fE ⟨7, y.1.place⟩ (by unfold BW.finV; rw [en, if_pos c])).to kb rd.some
      · refine ifF (decide_eq_false c) ⟨_, rfl, _, rfl, a, CT, dt, _, _, rfl, ht, TT.cl, TT.no _ (by simp), tk_value, _, _, rfl, rfl, .inl ?_, ?_⟩
        · rcases hsg with rfl | rfl <;> exact ⟨by decide, by decide⟩
        · have := fQ (sg * n, y.2) (by unfold BW.finV; rw [en, if_neg c]) H1 kb rd
          exact this
    refine ⟨_, rfl, r, dx, _, rfl, e1, rd_take, (by show 2 ≤ sizeLine; decide), fun p hp => ?_⟩
    dsimp only [tNil]
    refine use_take (ks := ["-", "number"]) (by decide) R hg.ne hp (fun f hf => (kE f (by rw [hf]; rfl)).to (KB.refl _ _) R.some) (fun x hx a e H1 kb tb rd => ?_)
    have kE1 : ∀ f, (if kind x.1.tok = "-" then (takeK ["number"] x.2).bind (finV (-1)) else finV 1 x) = .error f → FltBut r CF E H f.code f.place := fun f hf => kE f (by rw [hx]; exact hf)
    have kQ1 : ∀ y, (if kind x.1.tok = "-" then (takeK ["number"] x.2).bind (finV (-1)) else finV 1 x) = .ok y → ∀ H', KB r H H' → RdAt CR CT B H' r y.2 → Q (.int y.1) H' := fun y hy => kQ y (by rw [hx]; exact hy)
    obtain ⟨g1, _, hkm⟩ := BW.takeK_good hg (by decide) hx
    obtain ⟨dt, v, ht, hv⟩ := id tb
    have ht := rd.1 _ _ ht
    refine ⟨_, rfl, a, CT, dt, _, _, rfl, ht, TT.cl, TT.no _ (by simp), tk_kind, rfl, _, rfl, ?_⟩
    by_cases c : kind x.1.tok = "-"
    · rw [if_pos c] at kE1 kQ1
      refine ifT (by rw [c]; exact decide_eq_true rfl) ⟨_, rfl, ?_⟩
      obtain ⟨dx2, l2, n2, e2⟩ := rd.obj
      refine ⟨_, rfl, r, dx2, _, rfl, e2, rd_take, (by show 1 ≤ sizeLine; decide), fun p hp => ?_⟩
      dsimp only [tNil]
      refine use_take (ks := ["number"]) (by decide) rd g1.ne hp (fun f hf => (kE1 f (by rw [hf]; rfl)).to kb rd.some) (fun y hy a2 e3 H2 kb2 tb2 rd2 => ?_)
      obtain ⟨g2, _, hkm2⟩ := BW.takeK_good g1 (by decide) hy
      exact fin (-1) y a2 e3 H2 (.inr rfl) (by simpa using hkm2) (kb.trans kb2) tb2 rd2 (fun f hf => kE1 f (by rw [hy]; exact hf)) fun z hz => kQ1 z (by rw [hy]; exact hz)
    · rw [if_neg c] at kE1 kQ1
      refine ifF (decide_eq_false fun z => c ((kind_eq (by decide)).mp (V.str.inj z))) ?_
      exact fin 1 x a e H1 (.inl rfl) (by simpa [c] using hkm) kb tb rd kE1 kQ1
end
end BWP
namespace BWP
open PySem PySem.Spec PyProof.Rows L2
open BW (isDig isLet isBla isNam isSig IsB octs toEnd sk decI takeK kind Good numT nameT finV rowM)
open VaskyBase (Toks PTok)
theorem hu65 {A : Around} {k : Nat} (hr : Room k A) : A.units + 65 < cLine := by have := hr.un; omega
theorem KB.free {r : Addr} {H H1 : Hp} (k : KB r H H1) (hr : ∃ o, H1 r = some o) {d : Addr} (hd : H1 d = none) : H d = none := by
  cases q : H d with
  | none => rfl
  | some o =>
    by_cases z : d = r
    · obtain ⟨o', ho⟩ := hr
      rw [z, ho] at hd; cases hd
    · rw [k d o q z] at hd; cases hd
/-- a list that is being built: an update of it leaves what stood in H (without it) -/
theorem KB.own {r p : Addr} {H H1 : Hp} {o : HO} (k : KB r H H1) (hp : H p = none) : KB r H (upd H1 p o) := fun b u e n => by
  rw [upd_ne (ne_of_none e hp)]; exact k b u e n
section
variable {P : Program} {w : World} {K : PySem.W.Frag} {mg : Str → Option Value} {base : Heap} {CR CT CF : Addr} {dI dS dT dK dF d dV : Dn}
/-! ### read_row -/
abbrev s_row : Stmt := topS 42
def spRow (CR CT CF : Addr) : Sp := fun vs H Q E => ∃ (B : Hp) (r : Addr) (rest : Toks) (k : Nat), vs = [.ref r, .int k] ∧ 1 ≤ k ∧ k ≤ 4 ∧ RdAt CR CT B H r rest ∧ Good rest ∧
  (∀ f, rowM k rest = .error f → FltBut r CF E H f.code f.place) ∧ (∀ x, rowM k rest = .ok x → ∀ (p : Addr) (H' : Hp), KB r H H' → H p = none → H' p = some (.lst (x.1.map V.int)) → RdAt CR CT B H' r x.2 → Q (.ref p) H')
theorem sc_row : FnScope ["reader", "width", "row"] ["reader", "width"] (defScope s_row) := ⟨rfl, rfl, rfl, by decide +kernel, rfl, by decide +kernel, by decide +kernel⟩
theorem ok_row (G : Glb K mg "read_row" s_row ["reader", "width"] d) (GV : Glb K mg "read_value" s_value ["reader"] dV) (T : RdrT K mg CR dI dS dT) (TT : TokT K mg CT dK) (TF : FaultT K mg CF dF) (ml : mg "len" = none) (mX : Cst mg "NOT_ALLOWED" (.int 3)) (mN : Cst mg "NUMBER" (.str "number")) (mG : Cst mg "GREATEST_VALUE" (.int 1000)) (mT : Cst mg "TOO_GREAT" (.int 7)) :
    FnOk P w K mg base (L2.CX P w) 5 d.a d.fd ["reader", "width"] (spRow CR CT CF) := by
  have FT : FnOk P w K mg base (L2.CX P w) 3 dT.a dT.fd ["self", "kinds"] (spTake K CR CT CF) := ok_take T TT TF mX
  have FV : FnOk P w K mg base (L2.CX P w) 4 dV.a dV.fd ["reader"] (spValue CR CT CF) := ok_value GV T TT TF mX mN mG mT
  refine G.F.okX sc_row (fun vs H Q E h => ?_) (fun cdv A outer s H vs Q E hr h => ?_)
  · obtain ⟨B, r, rest, k, rfl, _⟩ := h; rfl
  · obtain ⟨B, r, rest, k, rfl, hk1, hk4, R, hg, kE, kQ⟩ := h
    have hr3 : Room 3 _ := hr.mono (by decide)
    refine ⟨_, pss_cons (ps_set (i := 2) sc_row.nd rfl (.inl rfl) (pe_lst (pa_cons (pe_call FV hr rfl GV.g GV.k GV.b .nil (passes_call (E := E) (takes_of rfl rfl rfl rfl) (fun _ _ _ _ e => e)) (pa_cons (pv 0) pa_nil)) pa_nil)))
      (pss_cons (ps_while (passes_of rfl) (pt_cmpR op_lt (pe_callB call_len_seq (by rfl) ml PySem.boot_len (pa_cons (pv 2) pa_nil)) (pv 1) (nomark _))
        (pss_cons (ps_expr (pe_meth (pv 0) T.r.cl T.mT FT hr3 T.bT .nil (passes_call (E := E) (takes_of rfl rfl rfl rfl) (fun _ _ _ _ e => e)) (pa_cons (pe_tup (pa_cons pe_str pa_nil)) pa_nil)))
        (pss_one (ps_expr (pe_bm PySem.F.plainAttrs_list PySem.F.slot_list_append PySem.F.type_list_append mt_append (pv 2) (pa_cons (pe_call FV hr rfl GV.g GV.k GV.b .nil (passes_call (E := E) (takes_of rfl rfl rfl rfl) (fun _ _ _ _ e => e)) (pa_cons (pv 0) pa_nil)) pa_nil))))))
      (pss_cons (ps_expr (pe_meth (pv 0) T.r.cl T.mT FT hr3 T.bT .nil (passes_call (E := E) (takes_of rfl rfl rfl rfl) (fun _ _ _ _ e => e)) (pa_cons (pe_tup (pa_cons pe_str pa_nil)) pa_nil)))
      (pss_one (ps_ret (pv 2))))), ?_⟩
    obtain ⟨k, rfl⟩ : ∃ k', k = k' + 1 := ⟨k - 1, by omega⟩
    have e0 : rowM (k + 1) rest = ((Vaskya.takeInt rest).bind fun x => Vaskya.takeValues k [x.1] x.2).bind fun v => (takeK [";"] v.2).map fun x => (v.1, x.2) := rfl
    refine ⟨_, rfl, B, r, rest, rfl, R, hg, fun f hf => kE f (by rw [e0, hf]; rfl), fun x hx H1 kb R1 => ?_⟩
    obtain ⟨gx, _⟩ := BW.takeInt_good hg hx
    refine ⟨(by show 1 ≤ sizeLine; decide), fun p hp => ?_⟩
    have hp0 : H p = none := kb.free R1.some hp
    have e1 : rowM (k + 1) rest = (Vaskya.takeValues k [x.1] x.2).bind fun v => (takeK [";"] v.2).map fun x => (v.1, x.2) := by rw [e0, hx]; rfl
    have sn : Same H1 (upd H1 p (.lst [.int x.1])) := same_new hp
    have hpB : B p = none := R1.1.free hp
    refine ⟨fun m σ H' => ∃ (vs : List Int) (l : Toks), σ = [some (.ref r), some (.int ((k + 1 : Nat) : Int)), some (.ref p)] ∧ KB r H H' ∧ H' p = some (.lst (vs.map V.int)) ∧ RdAt CR CT B H' r l ∧ Good l ∧ vs ≠ [] ∧ vs.length ≤ k + 1 ∧
        rowM (k + 1) rest = (Vaskya.takeValues (k + 1 - vs.length) vs l).bind (fun v => (takeK [";"] v.2).map fun x => (v.1, x.2)) ∧ m = k + 1 - vs.length,
      ⟨_, [x.1], x.2, rfl, (kb.trans (KB.of sn)), upd_same, R1.same sn, gx, by simp, by simp, by rw [e1]; rfl, rfl⟩, ?_⟩
    rintro m σ H2 ⟨vs, l, rfl, kb2, hp2, R2, g2, hv0, hvk, e2, rfl⟩
    obtain ⟨dx, l2, n2, f1⟩ := R2.obj
    have pr : p ≠ r := fun z => by rw [z, f1] at hp2; cases hp2
    refine ⟨_, rfl, p, _, rfl, .inl (SqL.of hp2), _, rfl, _, _, rfl, rfl, _, rfl, ?_⟩
    by_cases c : vs.length < k + 1
    · refine ifT (by rw [List.length_map]; exact decide_eq_true (by omega)) ⟨_, fun _ _ z => z, ?_⟩
      obtain ⟨j, hj⟩ : ∃ j, k + 1 - vs.length = j + 1 := ⟨k - vs.length, by omega⟩
      rw [hj, BW.takeValues_step g2 hv0] at e2
      refine ⟨_, rfl, r, dx, _, rfl, f1, rd_take, (by show 1 ≤ sizeLine; decide), fun q hq => ?_⟩
      dsimp only [tNil]
      refine use_take (ks := [","]) (by decide) R2 g2.ne hq (fun f hf => ((kE f (by rw [e2, hf]; rfl)).from kb2 R2.some).to (KB.refl _ _) R2.some) (fun y hy a e H3 kb3 tb3 R3 => ?_)
      obtain ⟨g3, _, _⟩ := BW.takeK_good g2 (by decide) hy
      have e3 : rowM (k + 1) rest = ((Vaskya.takeInt y.2).bind fun x => Vaskya.takeValues j (vs ++ [x.1]) x.2).bind (fun v => (takeK [";"] v.2).map fun x => (v.1, x.2)) := by rw [e2, hy]; rfl
      have hp3 := kb3 p _ hp2 pr
      refine ⟨_, rfl, .inl ⟨rfl, _, SqL.of hp3⟩, _, rfl, B, r, y.2, rfl, R3, g3, fun f hf => (kE f (by rw [e3, hf]; rfl)).from (kb2.trans kb3) R3.some, fun z hz H4 kb4 R4 => ?_⟩
      obtain ⟨g4, _⟩ := BW.takeInt_good g3 hz
      have hp4 := kb4 p _ hp3 pr
      refine ⟨p, _, _, rfl, rfl, hp4, ?_, ?_⟩
      · rw [List.length_map]; exact Nat.lt_of_le_of_lt (Nat.le_trans hvk (by omega : k + 1 ≤ 4)) (by decide)
      have e4 : vs.map V.int ++ [V.int z.1] = (vs ++ [z.1]).map V.int := by rw [List.map_append]; rfl
      rw [e4]
      refine ⟨_, ?_, vs ++ [z.1], z.2, rfl, ((kb2.trans kb3).trans kb4).own hp0, upd_same, R4.chg hpB pr, g4, by simp, by rw [List.length_append]; show vs.length + 1 ≤ _; omega, ?_, rfl⟩
      · rw [List.length_append]; show k + 1 - (vs.length + 1) < _; omega
      · rw [e3, hz, List.length_append]
        have : k + 1 - (vs.length + [z.1].length) = j := by show k + 1 - (vs.length + 1) = j; omega
        rw [this]; rfl
    · have hvl : vs.length = k + 1 := by omega
      rw [hvl, Nat.sub_self] at e2
      refine ifF (by rw [List.length_map]; exact decide_eq_false (by omega)) ?_
      refine ⟨_, rfl, r, dx, _, rfl, f1, rd_take, (by show 1 ≤ sizeLine; decide), fun q hq => ?_⟩
      dsimp only [tNil]
      refine use_take (ks := [";"]) (by decide) R2 g2.ne hq (fun f hf => ((kE f (by rw [e2]; show (takeK [";"] l).map _ = _; rw [hf]; rfl)).from kb2 R2.some).to (KB.refl _ _) R2.some) (fun y hy a e H3 kb3 tb3 R3 => ?_)
      refine ⟨_, rfl, kQ (vs, y.2) (by rw [e2]; show (takeK [";"] l).map _ = _; rw [hy]; rfl) p H3 (kb2.trans kb3) hp0 (kb3 p _ hp2 pr) R3⟩
/-! ### refuse_too_many, add_name -/
abbrev s_refuse : Stmt := topS 44
abbrev s_addName : Stmt := topS 45
def spRefuse (K : PySem.W.Frag) (CT CF : Addr) : Sp := fun vs H Q E => ∃ (nm a : Addr) (xs : List V) (m e : Int) (t : PTok), vs = [.ref nm, .int m, .ref a] ∧ SqL K H nm xs ∧ TokB CT H a t e ∧ ((xs.length : Int) = m → FltTo CF E H 4 t.place) ∧ (¬ (xs.length : Int) = m → Q .non H)
theorem sc_refuse : FnScope ["names", "most", "token"] ["names", "most", "token"] (defScope s_refuse) := ⟨rfl, rfl, rfl, by decide +kernel, rfl, by decide +kernel, by decide +kernel⟩
theorem ok_refuse (G : Glb K mg "refuse_too_many" s_refuse ["names", "most", "token"] d) (TT : TokT K mg CT dK) (TF : FaultT K mg CF dF) (ml : mg "len" = none) (mX : Cst mg "TOO_MANY" (.int 4)) : FnOk P w K mg base (L2.CX P w) 3 d.a d.fd ["names", "most", "token"] (spRefuse K CT CF) := by
  refine G.F.okX sc_refuse (fun vs H Q E h => ?_) (fun cdv A outer s H vs Q E hr h => ?_)
  · obtain ⟨nm, a, xs, m, e, t, rfl, _⟩ := h; rfl
  · obtain ⟨nm, a, xs, m, e, t, rfl, hn, ⟨dt, v, ht, _⟩, kE, kQ⟩ := h
    refine ⟨_, pss_one (ps_if (pt_cmpR op_eq (pe_callB call_len_seq (by rfl) ml PySem.boot_len (pa_cons (pv 0) pa_nil)) (pv 1) (nomark _)) (pss_one (ps_fault (k := 0) rfl TF hr (takes_of rfl rfl rfl rfl) (pa_cons (pe_cst rfl mX) (pa_cons (pe_fld (pv 2) rfl) pa_nil)))) pss_nil), ?_⟩
    refine ⟨_, rfl, nm, _, rfl, .inl hn, _, rfl, rfl, _, rfl, ?_⟩
    by_cases c : (xs.length : Int) = m
    · exact ifT (by rw [c]; exact decide_eq_true rfl) ⟨_, rfl, a, CT, dt, _, _, rfl, ht, TT.cl, TT.no _ (by simp), tk_place, mk_fault (kE c)⟩
    · exact ifF (decide_eq_false fun z => c (V.int.inj z)) (kQ c)
/-- a name's list -/
def NmAt (H : Hp) (q : Addr) (b : VaskyBase.Bytes) : Prop := ∃ ns : List Int, H q = some (.lst (ns.map V.int)) ∧ octs ns = b ∧ ∀ x ∈ ns, IsB x
def NmsAt (H : Hp) : List Addr → List VaskyBase.Bytes → Prop
  | [], [] => True
  | q :: qs, b :: bs => NmAt H q b ∧ NmsAt H qs bs
  | _, _ => False
theorem NmAt.same {H H' : Hp} {q : Addr} {b : VaskyBase.Bytes} (s : Same H H') (h : NmAt H q b) : NmAt H' q b := by
  obtain ⟨ns, h1, h2⟩ := h
  exact ⟨ns, s _ _ h1, h2⟩
theorem NmsAt.same {H H' : Hp} (s : Same H H') : ∀ {qs : List Addr} {bs : List VaskyBase.Bytes}, NmsAt H qs bs → NmsAt H' qs bs
  | [], [], _ => trivial
  | q :: qs, b :: bs, ⟨h1, h2⟩ => ⟨h1.same s, h2.same s⟩
theorem NmsAt.snoc {H : Hp} {q : Addr} {b : VaskyBase.Bytes} (h : NmAt H q b) : ∀ {qs : List Addr} {bs : List VaskyBase.Bytes}, NmsAt H qs bs → NmsAt H (qs ++ [q]) (bs ++ [b])
  | [], [], _ => ⟨h, trivial⟩
  | _ :: _, _ :: _, ⟨h1, h2⟩ => ⟨h1, NmsAt.snoc h h2⟩
theorem NmsAt.len {H : Hp} : ∀ {qs : List Addr} {bs : List VaskyBase.Bytes}, NmsAt H qs bs → qs.length = bs.length
  | [], [], _ => rfl
  | _ :: _, _ :: _, ⟨_, h2⟩ => by rw [List.length_cons, List.length_cons, NmsAt.len h2]
theorem nms_data {H : Hp} : ∀ {qs : List Addr} {bs : List VaskyBase.Bytes}, NmsAt H qs bs → ∃ nss : List (List Int), DpAll K H (qs.map V.ref) (nss.map fun ns => PyData.list (ns.map PyData.int)) ∧ nss.map octs = bs ∧ ∀ ns ∈ nss, ∀ x ∈ ns, IsB x
  | [], [], _ => ⟨[], .nil, rfl, by simp⟩
  | q :: qs, b :: bs, ⟨⟨ns, h1, h2, h3⟩, h4⟩ => by
    obtain ⟨nss, g1, g2, g3⟩ := nms_data h4
    refine ⟨ns :: nss, .cons (dp_list (SqL.of h1)) g1, by rw [List.map_cons, h2, g2], fun m hm => ?_⟩
    rcases List.mem_cons.mp hm with z | z
    · rw [z]; exact h3
    · exact g3 m z
theorem shaped_lists : ∀ nss : List (List Int), SeqAt.shaped (.list (nss.map fun ns => PyData.list (ns.map PyData.int))) = true := by
  intro nss
  have key : PyData.canLayAll0 (nss.map fun ns => PyData.list (ns.map PyData.int)) = true ∧ PyData.depthAll (nss.map fun ns => PyData.list (ns.map PyData.int)) ≤ 63 := by
    induction nss with
    | nil => exact ⟨by simp [PyData.canLayAll0], by simp [PyData.depthAll]⟩
    | cons ns nss ih =>
      have h := PySem.W.shaped_ints ns
      unfold SeqAt.shaped at h
      simp only [Bool.and_eq_true, decide_eq_true_eq] at h
      have hd : (PyData.list (ns.map PyData.int)).depth ≤ 1 := by
        have : PyData.depthAll (ns.map PyData.int) = 0 := by
          clear ih h
          induction ns with
          | nil => simp [PyData.depthAll]
          | cons n r ih => simp [PyData.depthAll, PyData.depth, ih]
        simp only [PyData.depth, this]; omega
      constructor
      · simp only [List.map_cons, PyData.canLayAll0, h.1, ih.1, Bool.and_self]
      · simp only [List.map_cons, PyData.depthAll]
        have := ih.2
        omega
  unfold SeqAt.shaped
  simp only [PyData.canLay0, key.1, PyData.depth, Bool.true_and, decide_eq_true_eq]
  exact decide_eq_true (Nat.succ_le_succ key.2)
def spAddName (CT CF : Addr) : Sp := fun vs H Q E => ∃ (nm a : Addr) (qs : List Addr) (bs : List VaskyBase.Bytes) (b : VaskyBase.Bytes) (p : Nat) (e : Int), vs = [.ref nm, .ref a] ∧ H nm = some (.lst (qs.map V.ref)) ∧ NmsAt H qs bs ∧ qs.length ≤ 1000 ∧ TokB CT H a ⟨p, .name b⟩ e ∧
  (b ∈ bs → FltTo CF E H 5 p) ∧ (¬ b ∈ bs → ∀ q : Addr, (∀ dx v, H a = some (.ins CT dx (tokF (kind (.name b)) p e v)) → v = .ref q) → NmAt H q b → Q .non (upd H nm (.lst ((qs ++ [q]).map V.ref))))
theorem sc_addName : FnScope ["names", "token"] ["names", "token"] (defScope s_addName) := ⟨rfl, rfl, rfl, by decide +kernel, rfl, by decide +kernel, by decide +kernel⟩
theorem ok_addName (G : Glb K mg "add_name" s_addName ["names", "token"] d) (TT : TokT K mg CT dK) (TF : FaultT K mg CF dF) (mX : Cst mg "SAME_NAME" (.int 5)) : FnOk P w K mg base (L2.CX P w) 3 d.a d.fd ["names", "token"] (spAddName CT CF) := by
  refine G.F.okX sc_addName (fun vs H Q E h => ?_) (fun cdv A outer s H vs Q E hr h => ?_)
  · obtain ⟨nm, a, qs, bs, b, p, e, rfl, _⟩ := h; rfl
  · obtain ⟨nm, a, qs, bs, b, p, e, rfl, hn, hns, hq, ⟨dt, v, ht, hv⟩, kE, kQ⟩ := h
    refine ⟨_, pss_cons (ps_if (pt_cmpR (op_inD (hu65 hr)) (pe_fld (pv 1) rfl) (pv 0) rfl) (pss_one (ps_fault (k := 0) rfl TF hr (takes_of rfl rfl rfl rfl) (pa_cons (pe_cst rfl mX) (pa_cons (pe_fld (pv 1) rfl) pa_nil)))) pss_nil)
      (pss_one (ps_expr (pe_bm PySem.F.plainAttrs_list PySem.F.slot_list_append PySem.F.type_list_append mt_append (pv 0) (pa_cons (pe_fld (pv 1) rfl) pa_nil)))), ?_⟩
    obtain ⟨q, ns, rfl, hq1, hb, hB, _⟩ := hv
    obtain ⟨nss, g1, g2, g3⟩ := nms_data (K := K) hns
    have any : ((nss.map fun ns => PyData.list (ns.map PyData.int)).any fun z => PyData.eqv z (.list (ns.map PyData.int))) = decide (b ∈ bs) := by
      rw [← g2, ← hb]
      clear g1 g2
      induction nss with
      | nil => simp
      | cons m nss ih =>
        rw [List.map_cons, List.any_cons, ih fun x hx => g3 x (List.mem_cons_of_mem _ hx), eqv_list, List.map_cons]
        by_cases c : m = ns
        · simp [c]
        · have : ¬ octs ns = octs m := fun z => c (BW.octs_inj (g3 m (by simp)) hB z.symm)
          simp [c, this]
    refine ⟨_, rfl, a, CT, dt, _, _, rfl, ht, TT.cl, TT.no _ (by simp), tk_value, _, rfl, _, _, dp_list (SqL.of hq1), .lst (SqL.of hn) g1, PySem.W.shaped_ints ns, shaped_lists nss, _, rfl, ?_⟩
    by_cases c : b ∈ bs
    · exact ifT (any.trans (decide_eq_true c)) ⟨_, rfl, a, CT, dt, _, _, rfl, ht, TT.cl, TT.no _ (by simp), tk_place, mk_fault (kE c)⟩
    · refine ifF (any.trans (decide_eq_false c)) ⟨_, rfl, .inl ⟨rfl, _, SqL.of hn⟩, _, rfl, a, CT, dt, _, _, rfl, ht, TT.cl, TT.no _ (by simp), tk_value, nm, _, _, rfl, rfl, hn, ?_, ?_⟩
      · rw [List.length_map]; exact Nat.lt_of_le_of_lt hq (by decide)
      · have := kQ c q (fun dx v z => by rw [ht] at z; injection z with z; injection z with _ _ z; injection z with _ z; injection z with _ z; injection z with _ z; injection z with z _; injection z with _ z; exact z.symm) ⟨ns, hq1, hb, hB⟩
        rw [List.map_append] at this
        exact this
end
end BWP
namespace BWP
open PySem PySem.Spec PyProof.Rows L2
open BW (isDig isLet isBla isNam isSig IsB octs toEnd sk decI takeK kind Good numT nameT finV rowM)
open VaskyBase (Toks PTok)
/-- what the top says of the module lists -/
structure LstM (K : PySem.W.Frag) (mg : Str → Option Value) (CR CT CF : Addr) (dI dS dT dK dF dV dRow dRows dMea dRef dAdd : Dn) : Prop where
  R : RdrT K mg CR dI dS dT
  T : TokT K mg CT dK
  F : FaultT K mg CF dF
  val : Glb K mg "read_value" s_value ["reader"] dV
  row : Glb K mg "read_row" s_row ["reader", "width"] dRow
  rows : Glb K mg "read_rows" (topS 41) ["reader", "width"] dRows
  mea : Glb K mg "read_measures" (topS 40) ["reader"] dMea
  ref : Glb K mg "refuse_too_many" s_refuse ["names", "most", "token"] dRef
  add : Glb K mg "add_name" s_addName ["names", "token"] dAdd
  len : mg "len" = none
  cNA : Cst mg "NOT_ALLOWED" (.int 3)
  cTM : Cst mg "TOO_MANY" (.int 4)
  cSN : Cst mg "SAME_NAME" (.int 5)
  cTG : Cst mg "TOO_GREAT" (.int 7)
  cNM : Cst mg "NAME" (.str "name")
  cNU : Cst mg "NUMBER" (.str "number")
  cEN : Cst mg "END" (.str "end")
  cMM : Cst mg "MOST_MEASURES" (.int 4)
  cMI : Cst mg "MOST_ITEMS" (.int 16)
  cGV : Cst mg "GREATEST_VALUE" (.int 1000)
abbrev s_measures : Stmt := topS 40
def measM (l : Toks) : Except VaskyBase.Fault (List Vaskya.Measure × Toks) := (takeK ["measures"] l).bind fun r => Vaskya.takeMeasures (r.2.length + 1) [] r.2
def wayI (m : Vaskya.Measure) : Int := if m.up = true then 1 else -1
def spMeasures (CR CT CF : Addr) : Sp := fun vs H Q E => ∃ (B : Hp) (r : Addr) (rest : Toks), vs = [.ref r] ∧ RdAt CR CT B H r rest ∧ Good rest ∧
  (∀ f, measM rest = .error f → FltBut r CF E H f.code f.place) ∧
  (∀ x, measM rest = .ok x → ∀ (p : Addr) (H' : Hp), KB r H H' → H p = none → H' p = some (.lst ((x.1.map wayI).map V.int)) → RdAt CR CT B H' r x.2 → Good x.2 → 1 ≤ x.1.length → x.1.length ≤ 4 → Q (.ref p) H')
theorem nm_tok {CT : Addr} {B H : Hp} {a q : Addr} {p : Nat} {b : VaskyBase.Bytes} {e : Int} (s : Same B H) (t : TokB CT B a ⟨p, .name b⟩ e) (hq : ∀ dx v, H a = some (.ins CT dx (tokF (kind (.name b)) p e v)) → v = .ref q) : NmAt B q b := by
  obtain ⟨dx, v, h1, q', ns, rfl, h2, h3, h4, _⟩ := t
  have := hq dx _ (s _ _ h1)
  injection this with this
  rw [← this]
  exact ⟨ns, h2, h3, h4⟩
theorem takeK_len {ks : List String} {l : Toks} {x : PTok × Toks} (h : takeK ks l = .ok x) : l.length = x.2.length + 1 := by
  cases l with
  | nil => cases h
  | cons t r =>
    have h : (if kind t.tok ∈ ks then Except.ok (t, r) else Except.error (VaskyBase.Fault.mk 3 t.place)) = Except.ok x := h
    split at h
    · cases h; rfl
    · cases h
theorem any_name {A : Type} {f : A → VaskyBase.Bytes} (b : VaskyBase.Bytes) : ∀ ms : List A, (ms.any fun m => f m == b) = decide (b ∈ ms.map f)
  | [] => by simp
  | m :: ms => by
    rw [List.any_cons, any_name b ms, List.map_cons]
    by_cases z : f m = b
    · rw [z]; simp
    · have z' : ¬ b = f m := fun q => z q.symm
      rw [beq_eq_false_iff_ne.mpr z, Bool.false_or]
      exact decide_eq_decide.mpr ⟨fun h => List.mem_cons_of_mem _ h, fun h => (List.mem_cons.mp h).resolve_left z'⟩
section
variable {P : Program} {w : World} {K : PySem.W.Frag} {mg : Str → Option Value} {base : Heap} {CR CT CF : Addr} {dI dS dT dK dF dV dRow dRows dMea dRef dAdd : Dn}
theorem sc_measures : FnScope ["reader", "names", "ways", "more", "name", "way"] ["reader"] (defScope s_measures) := ⟨rfl, rfl, rfl, by decide +kernel, rfl, by decide +kernel, by decide +kernel⟩
theorem ok_measures (M : LstM K mg CR CT CF dI dS dT dK dF dV dRow dRows dMea dRef dAdd) : FnOk P w K mg base (L2.CX P w) 4 dMea.a dMea.fd ["reader"] (spMeasures CR CT CF) := by
  have FT : FnOk P w K mg base (L2.CX P w) 3 dT.a dT.fd ["self", "kinds"] (spTake K CR CT CF) := ok_take M.R M.T M.F M.cNA
  have FR : FnOk P w K mg base (L2.CX P w) 3 dRef.a dRef.fd ["names", "most", "token"] (spRefuse K CT CF) := ok_refuse M.ref M.T M.F M.len M.cTM
  have FA : FnOk P w K mg base (L2.CX P w) 3 dAdd.a dAdd.fd ["names", "token"] (spAddName CT CF) := ok_addName M.add M.T M.F M.cSN
  refine M.mea.F.okX sc_measures (fun vs H Q E h => ?_) (fun cdv A outer s H vs Q E hr h => ?_)
  · obtain ⟨B, r, rest, rfl, _⟩ := h; rfl
  · obtain ⟨B, r, rest, rfl, R, hg, kE, kQ⟩ := h
    refine ⟨_, pss_cons (ps_expr (pe_meth (pv 0) M.R.r.cl M.R.mT FT hr M.R.bT .nil (passes_call (E := E) (takes_of rfl rfl rfl rfl) (fun _ _ _ _ e => e)) (pa_cons (pe_tup (pa_cons pe_str pa_nil)) pa_nil)))
      (pss_cons (ps_set (i := 1) sc_measures.nd rfl (.inl rfl) (pe_lst pa_nil))
      (pss_cons (ps_set (i := 2) sc_measures.nd rfl (.inl rfl) (pe_lst pa_nil))
      (pss_cons (ps_set (i := 3) sc_measures.nd rfl (.inl rfl) pe_bl)
      (pss_cons (ps_while (passes_of rfl) (pt_val (pv 3))
        (pss_cons (ps_set (i := 4) sc_measures.nd rfl (.inl rfl) (pe_meth (pv 0) M.R.r.cl M.R.mT FT hr M.R.bT .nil (passes_call (E := E) (takes_of rfl rfl rfl rfl) (fun _ _ _ _ e => e)) (pa_cons (pe_tup (pa_cons (pe_cst rfl M.cNM) pa_nil)) pa_nil)))
        (pss_cons (ps_expr (pe_call FR hr rfl M.ref.g M.ref.k M.ref.b .nil (passes_call (E := E) (takes_of rfl rfl rfl rfl) (fun _ _ _ _ e => e)) (pa_cons (pv 1) (pa_cons (pe_cst rfl M.cMM) (pa_cons (pv 4) pa_nil)))))
        (pss_cons (ps_expr (pe_call FA hr rfl M.add.g M.add.k M.add.b .nil (passes_call (E := E) (takes_of rfl rfl rfl rfl) (fun _ _ _ _ e => e)) (pa_cons (pv 1) (pa_cons (pv 4) pa_nil))))
        (pss_cons (ps_set (i := 5) sc_measures.nd rfl (.inl rfl) (pe_meth (pv 0) M.R.r.cl M.R.mT FT hr M.R.bT .nil (passes_call (E := E) (takes_of rfl rfl rfl rfl) (fun _ _ _ _ e => e)) (pa_cons (pe_tup (pa_cons pe_str (pa_cons pe_str pa_nil))) pa_nil)))
        (pss_cons (ps_expr (pe_bm PySem.F.plainAttrs_list PySem.F.slot_list_append PySem.F.type_list_append mt_append (pv 2) (pa_cons (pe_ifExp (pt_cmpR op_eq (pe_fld (pv 5) rfl) pe_str (nomark _)) pe_int (pe_un un_neg pe_int)) pa_nil)))
        (pss_one (ps_set (i := 3) sc_measures.nd rfl (.inl rfl) (pe_cmpR op_eq (pe_fld (pe_meth (pv 0) M.R.r.cl M.R.mT FT hr M.R.bT .nil (passes_call (E := E) (takes_of rfl rfl rfl rfl) (fun _ _ _ _ e => e)) (pa_cons (pe_tup (pa_cons pe_str (pa_cons pe_str pa_nil))) pa_nil)) rfl) pe_str (nomark _))))))))))
      (pss_one (ps_ret (pv 2))))))), ?_⟩
    obtain ⟨dx, l0, n0, f1⟩ := R.obj
    refine ⟨_, rfl, r, dx, _, rfl, f1, rd_take, (by show 1 ≤ sizeLine; decide), fun q hq => ?_⟩
    dsimp only [tNil]
    refine use_take (ks := ["measures"]) (by decide) R hg.ne hq (fun f hf => (kE f (by unfold measM; rw [hf]; rfl)).to (KB.refl _ _) R.some) (fun x hx a e H1 kb1 tb1 R1 => ?_)
    obtain ⟨g1, _, _⟩ := BW.takeK_good hg (by decide) hx
    have eM : measM rest = Vaskya.takeMeasures (x.2.length + 1) [] x.2 := by unfold measM; rw [hx]; rfl
    rw [eM] at kE kQ
    refine ⟨(by show 0 ≤ sizeLine; decide), fun nm hnm => ⟨(by show 0 ≤ sizeLine; decide), fun wl hwl => ?_⟩⟩
    have s1 : Same H1 (upd H1 nm (.lst [])) := same_new hnm
    have s2 : Same (upd H1 nm (.lst [])) (upd (upd H1 nm (.lst [])) wl (.lst [])) := same_new hwl
    have hwl1 : H1 wl = none := s1.free hwl
    have nmB : B nm = none := R1.1.free hnm
    have wlB : B wl = none := R1.1.free hwl1
    have nm0 : H nm = none := kb1.free R1.some hnm
    have wl0 : H wl = none := kb1.free R1.some hwl1
    have nw : nm ≠ wl := fun z => by rw [← z, upd_same] at hwl; cases hwl
    refine ⟨fun m σ H' => ∃ (qs : List Addr) (ms : List Vaskya.Measure) (l : Toks) (mo : Bool) (u v : Option V), σ = [some (.ref r), some (.ref nm), some (.ref wl), some (.bl mo), u, v] ∧ KB r H H' ∧ H' nm = some (.lst (qs.map V.ref)) ∧ H' wl = some (.lst ((ms.map wayI).map V.int)) ∧ NmsAt B qs (ms.map (·.name)) ∧ RdAt CR CT B H' r l ∧ Good l ∧ ms.length ≤ 4 ∧
        (mo = true → ∃ n, l.length < n ∧ Vaskya.takeMeasures (x.2.length + 1) [] x.2 = Vaskya.takeMeasures n ms l) ∧ (mo = false → 1 ≤ ms.length ∧ Vaskya.takeMeasures (x.2.length + 1) [] x.2 = .ok (ms, l)) ∧ m = if mo = true then l.length + 1 else 0,
      ⟨_, [], [], x.2, true, none, none, rfl, (kb1.trans (KB.of s1)).trans (KB.of s2), ?_, upd_same, trivial, (R1.same s1).same s2, g1, by simp, fun _ => ⟨_, Nat.lt_succ_self _, rfl⟩, (fun z => by cases z), rfl⟩, ?_⟩
    · rw [upd_ne nw]; exact upd_same
    rintro m σ H2 ⟨qs, ms, l, mo, u, v, rfl, kb2, hn2, hw2, nms2, R2, g2, hm4, hmo, hmf, rfl⟩
    obtain ⟨dx2, l2, n2, f2⟩ := R2.obj
    have nr : nm ≠ r := fun z => by rw [z, f2] at hn2; cases hn2
    have wr : wl ≠ r := fun z => by rw [z, f2] at hw2; cases hw2
    refine ⟨_, rfl, _, rfl, ?_⟩
    cases mo with
    | false =>
      obtain ⟨h1, h2⟩ := hmf rfl
      exact ifF rfl ⟨_, rfl, kQ (ms, l) h2 wl H2 kb2 wl0 hw2 R2 g2 h1 hm4⟩
    | true =>
      obtain ⟨n, hln, e2⟩ := hmo rfl
      obtain ⟨n, rfl⟩ : ∃ n', n = n' + 1 := ⟨n - 1, by omega⟩
      rw [e2, BW.meas_step g2] at kE kQ
      refine ifT rfl ⟨_, fun _ _ z => z, ?_⟩
      refine ⟨_, rfl, r, dx2, _, rfl, f2, rd_take, (by show 1 ≤ sizeLine; decide), fun q hq => ?_⟩
      dsimp only [tNil]
      refine use_take (ks := ["name"]) (by decide) R2 g2.ne hq (fun f hf => (kE f (by rw [hf]; rfl)).to kb2 R2.some) (fun y hy a e H3 kb3 tb3 R3 => ?_)
      obtain ⟨g3, _, hky⟩ := BW.takeK_good g2 (by decide) hy
      have ly := takeK_len hy
      obtain ⟨b, hb, _⟩ := BW.kind_name.mp (by simpa using hky)
      obtain ⟨⟨py, ty⟩, ry⟩ := y
      have hb : ty = .name b := hb
      subst hb
      have kb23 := kb2.trans kb3
      have hn3 := kb3 nm _ hn2 nr
      have hw3 := kb3 wl _ hw2 wr
      have ql : qs.length = ms.length := by rw [nms2.len, List.length_map]
      rw [hy] at kE kQ
      -- refuse_too_many
      refine ⟨_, rfl, _, rfl, nm, a, _, 4, e, _, rfl, SqL.of hn3, tb3.same R3.1, fun c => ?_, fun c => ?_⟩
      · rw [List.length_map] at c
        exact (kE ⟨4, py⟩ (by show (if 4 ≤ ms.length then _ else _) = _; rw [if_pos (by omega)])).to kb23 R3.some
      rw [List.length_map] at c
      have c4 : ¬ 4 ≤ ms.length := by omega
      have kE3 := fun f hf => kE f ((if_neg c4).trans hf)
      have kQ3 := fun z hz => kQ z ((if_neg c4).trans hz)
      have anyb := any_name (f := fun (m : Vaskya.Measure) => m.name) b ms
      -- add_name
      refine ⟨_, rfl, _, rfl, nm, a, qs, _, b, py, e, rfl, hn3, nms2.same R3.1, by omega, tb3.same R3.1, fun c5 => ?_, fun c5 q hq5 _ => ?_⟩
      · exact (kE3 ⟨5, py⟩ (if_pos (by show (ms.any fun m => m.name == b) = true; rw [anyb]; exact decide_eq_true c5))).to kb23 R3.some
      have c5' : ¬ (ms.any fun m => m.name == b) = true := by rw [anyb]; simpa using c5
      have kE4 := fun f hf => kE3 f ((if_neg c5').trans hf)
      have kQ4 := fun z hz => kQ3 z ((if_neg c5').trans hz)
      have nq := nm_tok R3.1 tb3 hq5
      have R4 := R3.chg (x := nm) (o := .lst ((qs ++ [q]).map V.ref)) nmB nr
      have kb4 := kb23.own (p := nm) (o := .lst ((qs ++ [q]).map V.ref)) nm0
      obtain ⟨dx4, l4, n4, f4⟩ := R4.obj
      refine ⟨_, rfl, r, dx4, _, rfl, f4, rd_take, (by show 2 ≤ sizeLine; decide), fun q2 hq2 => ?_⟩
      dsimp only [tNil]
      refine use_take (ks := ["up", "down"]) (by decide) R4 g3.ne hq2 (fun f hf => (kE4 f (by show (takeK ["up", "down"] ry).bind _ = _; rw [hf]; rfl)).to kb4 R4.some) (fun y5 hy5 a5 e5 H5 kb5 tb5 R5 => ?_)
      obtain ⟨g5, _, hk5⟩ := BW.takeK_good g3 (by decide) hy5
      have l5 := takeK_len hy5
      have kE5 := fun f hf => kE4 f ((by show (takeK ["up", "down"] ry).bind _ = _; rw [hy5]; exact hf))
      have kQ5 := fun z hz => kQ4 z ((by show (takeK ["up", "down"] ry).bind _ = _; rw [hy5]; exact hz))
      have hn5 := kb5 nm _ (upd_same (H := H3) (a := nm)) nr
      have hw5 := kb5 wl _ ((upd_ne (Ne.symm nw)).trans hw3) wr
      have kb45 := kb4.trans kb5
      obtain ⟨dt5, v5, ht5, _⟩ := tb5.same R5.1
      refine ⟨_, rfl, .inl ⟨rfl, _, SqL.of hw5⟩, _, rfl, a5, CT, dt5, _, _, rfl, ht5, M.T.cl, M.T.no _ (by simp), tk_kind, rfl, _, rfl, ?_⟩
      -- behind the append
      have tail : ∀ (wv : Int) (D : Ends), wv = wayI ⟨b, decide (kind y5.1.tok = "up")⟩ → (∀ (H' : Hp) (ms' : List Vaskya.Measure) (l' : Toks) (mo' : Bool), KB r H H' → H' nm = some (.lst ((qs ++ [q]).map V.ref)) → H' wl = some (.lst ((ms'.map wayI).map V.int)) → NmsAt B (qs ++ [q]) (ms'.map (·.name)) → RdAt CR CT B H' r l' → Good l' → ms'.length ≤ 4 → 1 ≤ ms'.length → l'.length < l.length →
          (mo' = true → l'.length < n ∧ Vaskya.takeMeasures (x.2.length + 1) [] x.2 = Vaskya.takeMeasures n ms' l') → (mo' = false → Vaskya.takeMeasures (x.2.length + 1) [] x.2 = .ok (ms', l')) → D.nx [some (.ref r), some (.ref nm), some (.ref wl), some (.bl mo'), some (.ref a), some (.ref a5)] H') →
          tAsg (tOp rEq (tFld K (tMeth CR "take" (spTake K CR CT CF) [] E (tVar 0) (tCons (tTup (tCons (tC (.str ",")) (tCons (tC (.str ";")) tNil))) tNil)) "kind") (tC (.str ","))) (gName 3) D [some (.ref r), some (.ref nm), some (.ref wl), some (.bl true), some (.ref a), some (.ref a5)] (upd H5 wl (.lst ((ms.map wayI).map V.int ++ [.int wv]))) := by
        intro wv D hwv next
        have R6 := R5.chg (x := wl) (o := .lst ((ms.map wayI).map V.int ++ [.int wv])) wlB wr
        have kb6 := kb45.own (p := wl) (o := .lst ((ms.map wayI).map V.int ++ [.int wv])) wl0
        obtain ⟨dx6, l6, n6, f6⟩ := R6.obj
        refine ⟨_, rfl, r, dx6, _, rfl, f6, rd_take, (by show 2 ≤ sizeLine; decide), fun q3 hq3 => ?_⟩
        dsimp only [tNil]
        refine use_take (ks := [",", ";"]) (by decide) R6 g5.ne hq3 (fun f hf => (kE5 f (by show (takeK [",", ";"] y5.2).bind _ = _; rw [hf]; rfl)).to kb6 R6.some) (fun y7 hy7 a7 e7 H7 kb7 tb7 R7 => ?_)
        obtain ⟨g7, _, hk7⟩ := BW.takeK_good g5 (by decide) hy7
        have l7 := takeK_len hy7
        obtain ⟨dt7, v7, ht7, _⟩ := tb7.same R7.1
        refine ⟨a7, CT, dt7, _, _, rfl, ht7, M.T.cl, M.T.no _ (by simp), tk_kind, rfl, ?_⟩
        have e8 : decide (V.str (kind y7.1.tok) = V.str ",") = decide (kind y7.1.tok = ",") := decide_eq_decide.mpr ⟨fun z => (kind_eq (by decide)).mp (V.str.inj z), fun z => by rw [z]⟩
        rw [e8]
        have whole : Vaskya.takeMeasures (x.2.length + 1) [] x.2 = if kind y7.1.tok = "," then Vaskya.takeMeasures n (ms ++ [⟨b, decide (kind y5.1.tok = "up")⟩]) y7.2 else .ok (ms ++ [⟨b, decide (kind y5.1.tok = "up")⟩], y7.2) := by
          rw [e2, BW.meas_step g2, hy]
          refine (if_neg c4).trans ((if_neg c5').trans ?_)
          show (takeK ["up", "down"] ry).bind _ = _
          rw [hy5]
          show (takeK [",", ";"] y5.2).bind _ = _
          rw [hy7]; rfl
        refine next H7 (ms ++ [⟨b, decide (kind y5.1.tok = "up")⟩]) y7.2 _ (kb6.trans kb7) (kb7 nm _ ((upd_ne nw).trans hn5) nr) ?_ ?_ R7 g7 ?_ ?_ ?_ (fun z => ?_) (fun z => ?_)
        · rw [kb7 wl _ upd_same wr, hwv, List.map_append, List.map_append]; rfl
        · rw [List.map_append]; exact NmsAt.snoc nq nms2
        · rw [List.length_append]; show ms.length + 1 ≤ 4; omega
        · rw [List.length_append]; show 1 ≤ ms.length + 1; omega
        · have ly : l.length = ry.length + 1 := ly
          omega
        · have z : kind y7.1.tok = "," := of_decide_eq_true z
          rw [if_pos z] at whole
          have ly : l.length = ry.length + 1 := ly
          exact ⟨by omega, whole⟩
        · have z : ¬ kind y7.1.tok = "," := of_decide_eq_false z
          rw [if_neg z] at whole
          exact whole
      have aslen : ((ms.map wayI).map V.int).length < sizeLine := by
        rw [List.length_map, List.length_map]; exact Nat.lt_of_le_of_lt hm4 (by decide)
      have fin : ∀ (H' : Hp) (ms' : List Vaskya.Measure) (l' : Toks) (mo' : Bool), KB r H H' → H' nm = some (.lst ((qs ++ [q]).map V.ref)) → H' wl = some (.lst ((ms'.map wayI).map V.int)) → NmsAt B (qs ++ [q]) (ms'.map (·.name)) → RdAt CR CT B H' r l' → Good l' → ms'.length ≤ 4 → 1 ≤ ms'.length → l'.length < l.length →
          (mo' = true → l'.length < n ∧ Vaskya.takeMeasures (x.2.length + 1) [] x.2 = Vaskya.takeMeasures n ms' l') → (mo' = false → Vaskya.takeMeasures (x.2.length + 1) [] x.2 = .ok (ms', l')) →
          ∃ m', m' < (if true = true then l.length + 1 else 0) ∧ ∃ (qs : List Addr) (ms : List Vaskya.Measure) (l : Toks) (mo : Bool) (u v : Option V), [some (.ref r), some (.ref nm), some (.ref wl), some (.bl mo'), some (.ref a), some (.ref a5)] = [some (.ref r), some (.ref nm), some (.ref wl), some (.bl mo), u, v] ∧ KB r H H' ∧ H' nm = some (.lst (qs.map V.ref)) ∧ H' wl = some (.lst ((ms.map wayI).map V.int)) ∧ NmsAt B qs (ms.map (·.name)) ∧ RdAt CR CT B H' r l ∧ Good l ∧ ms.length ≤ 4 ∧
            (mo = true → ∃ n, l.length < n ∧ Vaskya.takeMeasures (x.2.length + 1) [] x.2 = Vaskya.takeMeasures n ms l) ∧ (mo = false → 1 ≤ ms.length ∧ Vaskya.takeMeasures (x.2.length + 1) [] x.2 = .ok (ms, l)) ∧ m' = if mo = true then l.length + 1 else 0 := by
        intro H' ms' l' mo' h1 h2 h3 h4 h5 h6 h7 h8 h9 h10 h11
        refine ⟨_, ?_, qs ++ [q], ms', l', mo', _, _, rfl, h1, h2, h3, h4, h5, h6, h7, fun z => ⟨n, h10 z⟩, fun z => ⟨h8, h11 z⟩, rfl⟩
        rw [if_pos rfl]
        split <;> omega
      by_cases cu : kind y5.1.tok = "up"
      · refine ifT (by rw [cu]; exact decide_eq_true rfl) ⟨wl, _, _, rfl, rfl, hw5, aslen, ?_⟩
        exact tail 1 _ (by unfold wayI; rw [decide_eq_true cu]; rfl) fin
      · refine ifF (decide_eq_false fun z => cu ((kind_eq (by decide)).mp (V.str.inj z))) ⟨_, rfl, wl, _, _, rfl, rfl, hw5, aslen, ?_⟩
        exact tail (-1) _ (by unfold wayI; rw [decide_eq_false cu]; rfl) fin
end
end BWP
namespace BWP
open PySem PySem.Spec PyProof.Rows L2
open BW (isDig isLet isBla isNam isSig IsB octs toEnd sk decI takeK kind Good numT nameT finV rowM)
open VaskyBase (Toks PTok)
abbrev s_rows : Stmt := topS 41
/-- the rows of values, each a list -/
def RowsAt (H : Hp) : List Addr → List (List Int) → Prop
  | [], [] => True
  | p :: ps, vs :: vss => H p = some (.lst (vs.map V.int)) ∧ RowsAt H ps vss
  | _, _ => False
theorem RowsAt.imp {H H' : Hp} : ∀ {ps : List Addr} {vss : List (List Int)}, (∀ p ∈ ps, ∀ o, H p = some o → H' p = some o) → RowsAt H ps vss → RowsAt H' ps vss
  | [], [], _, _ => trivial
  | p :: ps, vs :: vss, k, ⟨h1, h2⟩ => ⟨k p (by simp) _ h1, RowsAt.imp (fun q hq => k q (List.mem_cons_of_mem _ hq)) h2⟩
theorem RowsAt.snoc {H : Hp} {p : Addr} {vs : List Int} (h : H p = some (.lst (vs.map V.int))) : ∀ {ps : List Addr} {vss : List (List Int)}, RowsAt H ps vss → RowsAt H (ps ++ [p]) (vss ++ [vs])
  | [], [], _ => ⟨h, trivial⟩
  | _ :: _, _ :: _, ⟨h1, h2⟩ => ⟨h1, RowsAt.snoc h h2⟩
theorem RowsAt.len {H : Hp} : ∀ {ps : List Addr} {vss : List (List Int)}, RowsAt H ps vss → ps.length = vss.length
  | [], [], _ => rfl
  | _ :: _, _ :: _, ⟨_, h2⟩ => by rw [List.length_cons, List.length_cons, RowsAt.len h2]
theorem RowsAt.same {H H' : Hp} {ps : List Addr} {vss : List (List Int)} (s : Same H H') (h : RowsAt H ps vss) : RowsAt H' ps vss := h.imp fun p _ o e => s p o e
def spRows (CR CT CF : Addr) : Sp := fun vs H Q E => ∃ (B : Hp) (r : Addr) (rest : Toks) (k : Nat), vs = [.ref r, .int k] ∧ 1 ≤ k ∧ k ≤ 4 ∧ RdAt CR CT B H r rest ∧ Good rest ∧
  (∀ f, Vaskya.takeItems k (rest.length + 1) [] rest = .error f → FltBut r CF E H f.code f.place) ∧
  (∀ is, Vaskya.takeItems k (rest.length + 1) [] rest = .ok is → ∀ (p : Addr) (ps : List Addr) (H' : Hp), KB r H H' → H p = none → H' p = some (.lst (ps.map V.ref)) → RowsAt H' ps (is.map (·.vs)) → is.length ≤ 16 → Q (.ref p) H')
theorem row_len {k : Nat} {l : Toks} {x : List Int × Toks} (hg : Good l) (h : rowM k l = .ok x) : Good x.2 ∧ x.2.length ≤ l.length ∧ x.1.length = k := by
  have key : ∀ (n : Nat) (vs : List Int) (l : Toks) (v : List Int × Toks), Good l → Vaskya.takeValues n vs l = .ok v → Good v.2 ∧ v.2.length ≤ l.length ∧ v.1.length = vs.length + n := by
    intro n
    induction n with
    | zero => intro vs l v g e; cases e; exact ⟨g, Nat.le_refl _, rfl⟩
    | succ n ih =>
      intro vs l v g e
      by_cases hv : vs = []
      · subst hv
        rw [BW.takeValues_first] at e
        cases hi : Vaskya.takeInt l with
        | error f => rw [hi] at e; cases e
        | ok y =>
          rw [hi] at e
          obtain ⟨g1, g2, _⟩ := BW.takeInt_good g hi
          obtain ⟨a1, a2, a3⟩ := ih _ _ _ g1 e
          refine ⟨a1, by omega, ?_⟩
          rw [a3]; show 1 + n = 0 + (n + 1); omega
      · rw [BW.takeValues_step g hv] at e
        cases hc : takeK [","] l with
        | error f => rw [hc] at e; cases e
        | ok z =>
          rw [hc] at e
          obtain ⟨g0, _, _⟩ := BW.takeK_good g (by decide) hc
          have lz := takeK_len hc
          have e : (Vaskya.takeInt z.2).bind (fun x => Vaskya.takeValues n (vs ++ [x.1]) x.2) = .ok v := e
          cases hi : Vaskya.takeInt z.2 with
          | error f => rw [hi] at e; cases e
          | ok y =>
            rw [hi] at e
            obtain ⟨g1, g2, _⟩ := BW.takeInt_good g0 hi
            obtain ⟨a1, a2, a3⟩ := ih _ _ _ g1 e
            refine ⟨a1, by omega, ?_⟩
            rw [a3, List.length_append]; show vs.length + 1 + n = _; omega
  unfold BW.rowM at h
  cases hv : Vaskya.takeValues k [] l with
  | error f => rw [hv] at h; cases h
  | ok v =>
    rw [hv] at h
    obtain ⟨g1, g2, g3⟩ := key k [] l v hg hv
    have h : (takeK [";"] v.2).map (fun x => (v.1, x.2)) = .ok x := h
    cases hk : takeK [";"] v.2 with
    | error f => rw [hk] at h; cases h
    | ok y =>
      rw [hk] at h
      cases h
      obtain ⟨g4, _, _⟩ := BW.takeK_good g1 (by decide) hk
      have := takeK_len hk
      refine ⟨g4, by show y.2.length ≤ _; omega, ?_⟩
      show v.1.length = k
      rw [g3]; show 0 + k = k; omega
section
variable {P : Program} {w : World} {K : PySem.W.Frag} {mg : Str → Option Value} {base : Heap} {CR CT CF : Addr} {dI dS dT dK dF dV dRow dRows dMea dRef dAdd : Dn}
theorem sc_rows : FnScope ["reader", "width", "names", "rows"] ["reader", "width"] (defScope s_rows) := ⟨rfl, rfl, rfl, by decide +kernel, rfl, by decide +kernel, by decide +kernel⟩
theorem ok_rows (M : LstM K mg CR CT CF dI dS dT dK dF dV dRow dRows dMea dRef dAdd) : FnOk P w K mg base (L2.CX P w) 6 dRows.a dRows.fd ["reader", "width"] (spRows CR CT CF) := by
  have FT : FnOk P w K mg base (L2.CX P w) 3 dT.a dT.fd ["self", "kinds"] (spTake K CR CT CF) := ok_take M.R M.T M.F M.cNA
  have FS : FnOk P w K mg base CX0 1 dS.a dS.fd ["self", "kind"] (spSees CR CT) := ok_sees M.R M.T
  have FR : FnOk P w K mg base (L2.CX P w) 3 dRef.a dRef.fd ["names", "most", "token"] (spRefuse K CT CF) := ok_refuse M.ref M.T M.F M.len M.cTM
  have FA : FnOk P w K mg base (L2.CX P w) 3 dAdd.a dAdd.fd ["names", "token"] (spAddName CT CF) := ok_addName M.add M.T M.F M.cSN
  have FW : FnOk P w K mg base (L2.CX P w) 5 dRow.a dRow.fd ["reader", "width"] (spRow CR CT CF) := ok_row M.row M.val M.R M.T M.F M.len M.cNA M.cNU M.cGV M.cTG
  refine M.rows.F.okX sc_rows (fun vs H Q E h => ?_) (fun cdv A outer s H vs Q E hr h => ?_)
  · obtain ⟨B, r, rest, k, rfl, _⟩ := h; rfl
  · obtain ⟨B, r, rest, k, rfl, hk1, hk4, R, hg, kE, kQ⟩ := h
    have hr3 : Room 3 _ := hr.mono (by decide)
    have hr1 : Room 1 _ := hr.mono (by decide)
    refine ⟨_, pss_cons (ps_set (i := 2) sc_rows.nd rfl (.inl rfl) (pe_lst pa_nil))
      (pss_cons (ps_set (i := 3) sc_rows.nd rfl (.inl rfl) (pe_lst pa_nil))
      (pss_cons (ps_while (passes_of rfl) (pt_val (pe_meth (pv 0) M.R.r.cl M.R.mS FS hr1 M.R.bS .nil pass0 (pa_cons pe_str pa_nil)))
        (pss_cons (ps_expr (pe_call FR hr3 rfl M.ref.g M.ref.k M.ref.b .nil (passes_call (E := E) (takes_of rfl rfl rfl rfl) (fun _ _ _ _ e => e)) (pa_cons (pv 2) (pa_cons (pe_cst rfl M.cMI) (pa_cons (pe_meth (pv 0) M.R.r.cl M.R.mT FT hr3 M.R.bT .nil (passes_call (E := E) (takes_of rfl rfl rfl rfl) (fun _ _ _ _ e => e)) (pa_cons (pe_tup (pa_cons pe_str pa_nil)) pa_nil)) pa_nil)))))
        (pss_cons (ps_expr (pe_call FA hr3 rfl M.add.g M.add.k M.add.b .nil (passes_call (E := E) (takes_of rfl rfl rfl rfl) (fun _ _ _ _ e => e)) (pa_cons (pv 2) (pa_cons (pe_meth (pv 0) M.R.r.cl M.R.mT FT hr3 M.R.bT .nil (passes_call (E := E) (takes_of rfl rfl rfl rfl) (fun _ _ _ _ e => e)) (pa_cons (pe_tup (pa_cons (pe_cst rfl M.cNM) pa_nil)) pa_nil)) pa_nil))))
        (pss_cons (ps_expr (pe_meth (pv 0) M.R.r.cl M.R.mT FT hr3 M.R.bT .nil (passes_call (E := E) (takes_of rfl rfl rfl rfl) (fun _ _ _ _ e => e)) (pa_cons (pe_tup (pa_cons pe_str pa_nil)) pa_nil)))
        (pss_one (ps_expr (pe_bm PySem.F.plainAttrs_list PySem.F.slot_list_append PySem.F.type_list_append mt_append (pv 3) (pa_cons (pe_call FW hr rfl M.row.g M.row.k M.row.b .nil (passes_call (E := E) (takes_of rfl rfl rfl rfl) (fun _ _ _ _ e => e)) (pa_cons (pv 0) (pa_cons (pv 1) pa_nil))) pa_nil))))))))
      (pss_cons (ps_expr (pe_meth (pv 0) M.R.r.cl M.R.mT FT hr3 M.R.bT .nil (passes_call (E := E) (takes_of rfl rfl rfl rfl) (fun _ _ _ _ e => e)) (pa_cons (pe_tup (pa_cons (pe_cst rfl M.cEN) pa_nil)) pa_nil)))
      (pss_one (ps_ret (pv 3)))))), ?_⟩
    refine ⟨(by show 0 ≤ sizeLine; decide), fun nm hnm => ⟨(by show 0 ≤ sizeLine; decide), fun rl hrl => ?_⟩⟩
    have s1 : Same H (upd H nm (.lst [])) := same_new hnm
    have s2 : Same (upd H nm (.lst [])) (upd (upd H nm (.lst [])) rl (.lst [])) := same_new hrl
    have rl0 : H rl = none := s1.free hrl
    have nmB : B nm = none := R.1.free hnm
    have rlB : B rl = none := R.1.free rl0
    have nw : nm ≠ rl := fun z => by rw [← z, upd_same] at hrl; cases hrl
    refine ⟨fun m σ H' => ∃ (qs ps : List Addr) (is : List Vaskya.Item) (l : Toks), σ = [some (.ref r), some (.int k), some (.ref nm), some (.ref rl)] ∧ KB r H H' ∧ H' nm = some (.lst (qs.map V.ref)) ∧ H' rl = some (.lst (ps.map V.ref)) ∧ NmsAt B qs (is.map (·.name)) ∧ RowsAt H' ps (is.map (·.vs)) ∧ (∀ p ∈ ps, p ≠ r ∧ p ≠ nm ∧ p ≠ rl) ∧ RdAt CR CT B H' r l ∧ Good l ∧ is.length ≤ 16 ∧
        (∃ n, l.length < n ∧ Vaskya.takeItems k (rest.length + 1) [] rest = Vaskya.takeItems k n is l) ∧ m = l.length,
      ⟨_, [], [], [], rest, rfl, (KB.of s1).trans (KB.of s2), ?_, upd_same, trivial, trivial, by simp, (R.same s1).same s2, hg, by simp, ⟨_, Nat.lt_succ_self _, rfl⟩, rfl⟩, ?_⟩
    · rw [upd_ne nw]; exact upd_same
    rintro m σ H2 ⟨qs, ps, is, l, rfl, kb2, hn2, hw2, nms2, rows2, ne2, R2, g2, hm16, ⟨n, hln, e2⟩, rfl⟩
    obtain ⟨dx2, l2, n2, f2⟩ := R2.obj
    have nr : nm ≠ r := fun z => by rw [z, f2] at hn2; cases hn2
    have wr : rl ≠ r := fun z => by rw [z, f2] at hw2; cases hw2
    obtain ⟨n, rfl⟩ : ∃ n', n = n' + 1 := ⟨n - 1, by omega⟩
    obtain ⟨t, lr, rfl⟩ := BW.head_k g2
    rw [e2, BW.item_step g2] at kE kQ
    have ql : qs.length = is.length := by rw [nms2.len, List.length_map]
    have pl : ps.length = is.length := by rw [rows2.len, List.length_map]
    refine ⟨_, rfl, r, dx2, _, rfl, f2, rd_sees, r, "item", t, lr, rfl, by decide, ⟨B, R2⟩, _, rfl, ?_⟩
    by_cases ci : kind t.tok = "item"
    · rw [if_pos ci] at kE kQ
      refine ifT (decide_eq_true ci) ⟨_, fun _ _ z => z, ?_⟩
      -- refuse_too_many(names, MOST_ITEMS, reader.take(("item",)))
      refine ⟨_, rfl, _, rfl, r, dx2, _, rfl, f2, rd_take, (by show 1 ≤ sizeLine; decide), fun q hq => ?_⟩
      dsimp only [tNil]
      have tk : takeK ["item"] (t :: lr) = .ok (t, lr) := BW.takeK_pos (by simp [ci])
      refine use_take (ks := ["item"]) (by decide) R2 g2.ne hq (fun f hf => by rw [tk] at hf; cases hf) (fun y hy a e H3 kb3 tb3 R3 => ?_)
      rw [tk] at hy
      cases hy
      have g3 : Good lr := g2.tail (by rw [ci]; decide)
      have kb23 := kb2.trans kb3
      have hn3 := kb3 nm _ hn2 nr
      have hw3 := kb3 rl _ hw2 wr
      refine ⟨nm, a, _, 16, e, t, rfl, SqL.of hn3, tb3.same R3.1, fun c => ?_, fun c => ?_⟩
      · rw [List.length_map] at c
        exact (kE ⟨4, t.place⟩ (if_pos (by omega))).to kb23 R3.some
      rw [List.length_map] at c
      have c16 : ¬ 16 ≤ is.length := by omega
      have kE3 := fun f hf => kE f ((if_neg c16).trans hf)
      have kQ3 := fun z hz => kQ z ((if_neg c16).trans hz)
      -- add_name(names, reader.take((NAME,)))
      obtain ⟨dx3, l3, n3, f3⟩ := R3.obj
      refine ⟨_, rfl, _, rfl, r, dx3, _, rfl, f3, rd_take, (by show 1 ≤ sizeLine; decide), fun q hq => ?_⟩
      dsimp only [tNil]
      refine use_take (ks := ["name"]) (by decide) R3 g3.ne hq (fun f hf => (kE3 f (by rw [hf]; rfl)).to kb23 R3.some) (fun y hy a4 e4 H4 kb4 tb4 R4 => ?_)
      obtain ⟨g4, _, hky⟩ := BW.takeK_good g3 (by decide) hy
      have ly := takeK_len hy
      obtain ⟨b, hb, _⟩ := BW.kind_name.mp (by simpa using hky)
      obtain ⟨⟨py, ty⟩, ry⟩ := y
      have hb : ty = .name b := hb
      subst hb
      have ly : lr.length = ry.length + 1 := ly
      rw [hy] at kE3 kQ3
      have kb24 := kb23.trans kb4
      have hn4 := kb4 nm _ hn3 nr
      have hw4 := kb4 rl _ hw3 wr
      have anyb := any_name (f := fun (m : Vaskya.Item) => m.name) b is
      refine ⟨nm, a4, qs, _, b, py, e4, rfl, hn4, nms2.same R4.1, by omega, tb4.same R4.1, fun c5 => ?_, fun c5 q hq5 _ => ?_⟩
      · exact (kE3 ⟨5, py⟩ (if_pos (by show (is.any fun m => m.name == b) = true; rw [anyb]; exact decide_eq_true c5))).to kb24 R4.some
      have c5' : ¬ (is.any fun m => m.name == b) = true := by rw [anyb]; simpa using c5
      have kE4 := fun f hf => kE3 f ((if_neg c5').trans hf)
      have kQ4 := fun z hz => kQ3 z ((if_neg c5').trans hz)
      have nq := nm_tok R4.1 tb4 hq5
      have R5 := R4.chg (x := nm) (o := .lst ((qs ++ [q]).map V.ref)) nmB nr
      have kb5 := kb24.own (p := nm) (o := .lst ((qs ++ [q]).map V.ref)) hnm
      obtain ⟨dx5, l5, n5, f5⟩ := R5.obj
      have hw5 : upd H4 nm (.lst ((qs ++ [q]).map V.ref)) rl = some (.lst (ps.map V.ref)) := (upd_ne (Ne.symm nw)).trans hw4
      have rows5 : RowsAt (upd H4 nm (.lst ((qs ++ [q]).map V.ref))) ps (is.map (·.vs)) := rows2.imp fun p hp o ho => by
        rw [upd_ne (ne2 p hp).2.1]
        exact kb4 p _ (kb3 p _ ho (ne2 p hp).1) (ne2 p hp).1
      -- reader.take((":",))
      refine ⟨_, rfl, r, dx5, _, rfl, f5, rd_take, (by show 1 ≤ sizeLine; decide), fun q2 hq2 => ?_⟩
      dsimp only [tNil]
      refine use_take (ks := [":"]) (by decide) R5 g4.ne hq2 (fun f hf => (kE4 f (by show (takeK [":"] ry).bind _ = _; rw [hf]; rfl)).to kb5 R5.some) (fun y6 hy6 a6 e6 H6 kb6 tb6 R6 => ?_)
      obtain ⟨g6, _, _⟩ := BW.takeK_good g4 (by decide) hy6
      have l6 : ry.length = y6.2.length + 1 := takeK_len hy6
      have kE6 := fun f hf => kE4 f ((by show (takeK [":"] ry).bind _ = _; rw [hy6]; exact hf))
      have kb56 := kb5.trans kb6
      have hn6 := kb6 nm _ upd_same nr
      have hw6 := kb6 rl _ hw5 wr
      have rows6 := rows5.imp (H' := H6) fun p hp o ho => kb6 p _ ho (ne2 p hp).1
      -- rows.append(read_row(reader, width))
      refine ⟨_, rfl, .inl ⟨rfl, _, SqL.of hw6⟩, _, rfl, _, rfl, B, r, y6.2, k, rfl, hk1, hk4, R6, g6, fun f hf => (kE6 f (by show (rowM k y6.2).bind _ = _; rw [hf]; rfl)).from kb56 R6.some, fun x hx p H7 kb7 hp7 hr7 R7 => ?_⟩
      obtain ⟨g7, l7, _⟩ := row_len g6 hx
      have pn : p ≠ nm := Ne.symm (ne_of_none hn6 hp7)
      have prl : p ≠ rl := Ne.symm (ne_of_none hw6 hp7)
      have pr : p ≠ r := fun z => by
        obtain ⟨dx6, l6, n6, f6⟩ := R6.obj
        rw [z, f6] at hp7; cases hp7
      have hn7 := kb7 nm _ hn6 nr
      have hw7 := kb7 rl _ hw6 wr
      refine ⟨rl, _, _, rfl, rfl, hw7, ?_, ?_⟩
      · rw [List.length_map, pl]; exact Nat.lt_of_le_of_lt hm16 (by decide)
      have e8 : ps.map V.ref ++ [V.ref p] = (ps ++ [p]).map V.ref := by rw [List.map_append]; rfl
      rw [e8]
      refine ⟨_, ?_, qs ++ [q], ps ++ [p], is ++ [⟨b, x.1⟩], x.2, rfl, (kb56.trans kb7).own rl0, (upd_ne nw).trans hn7, upd_same, ?_, ?_, ?_, R7.chg rlB wr, g7, ?_, ⟨n, ?_, ?_⟩, rfl⟩
      · show x.2.length < lr.length + 1; omega
      · rw [List.map_append]; exact NmsAt.snoc nq nms2
      · have em : (is ++ [(⟨b, x.1⟩ : Vaskya.Item)]).map (·.vs) = is.map (·.vs) ++ [x.1] := by rw [List.map_append]; rfl
        rw [em]
        refine RowsAt.snoc ((upd_ne prl).trans hr7) (rows6.imp fun p' hp' o ho => ?_)
        rw [upd_ne (ne2 p' hp').2.2]
        exact kb7 p' _ ho (ne2 p' hp').1
      · intro p' hp'
        rcases List.mem_append.mp hp' with z | z
        · exact ne2 p' z
        · rw [List.mem_singleton.mp z]; exact ⟨pr, pn, prl⟩
      · rw [List.length_append]; show is.length + 1 ≤ 16; omega
      · have hln : lr.length + 1 < n + 1 := hln
        omega
      · rw [e2, BW.item_step g2, if_pos ci]
        refine (if_neg c16).trans ?_
        rw [hy]
        refine (if_neg c5').trans ?_
        show (takeK [":"] ry).bind _ = _
        rw [hy6]
        show (rowM k y6.2).bind _ = _
        rw [hx]; rfl
    · rw [if_neg ci] at kE kQ
      refine ifF (decide_eq_false ci) ?_
      refine ⟨_, rfl, r, dx2, _, rfl, f2, rd_take, (by show 1 ≤ sizeLine; decide), fun q hq => ?_⟩
      dsimp only [tNil]
      refine use_take (ks := ["end"]) (by decide) R2 g2.ne hq (fun f hf => (kE f (by rw [hf]; rfl)).to kb2 R2.some) (fun y hy a e H3 kb3 tb3 R3 => ?_)
      refine ⟨_, rfl, kQ is (by rw [hy]; rfl) rl ps H3 (kb2.trans kb3) rl0 (kb3 rl _ hw2 wr) (rows2.imp fun p hp o ho => kb3 p _ ho (ne2 p hp).1) hm16⟩
end
end BWP
set_option linter.unusedSimpArgs false
namespace BW
open VaskyBase
/-- what a list that was read keeps to -/
structure SheetOk (s : Vaskya.Sheet) : Prop where
  m1 : 1 ≤ s.ms.length
  m4 : s.ms.length ≤ 4
  i16 : s.items.length ≤ 16
  row : ∀ i ∈ s.items, i.vs.length = s.ms.length
  val : ∀ i ∈ s.items, ∀ v ∈ i.vs, -1000 ≤ v ∧ v ≤ 1000
theorem takeValues_ok : ∀ (n : Nat) (vs : List Int) (l : Toks) (v : List Int × Toks), Good l → (∀ x ∈ vs, -1000 ≤ x ∧ x ≤ 1000) → Vaskya.takeValues n vs l = .ok v → Good v.2 ∧ v.1.length = vs.length + n ∧ ∀ x ∈ v.1, -1000 ≤ x ∧ x ≤ 1000
  | 0, vs, l, v, g, hv, e => by cases e; exact ⟨g, rfl, hv⟩
  | n + 1, vs, l, v, g, hv, e => by
    have e : (if vs.isEmpty = true then Except.ok l else takeSign 44 l).bind (fun r => (Vaskya.takeInt r).bind fun x => Vaskya.takeValues n (vs ++ [x.1]) x.2) = .ok v := e
    have gr : ∀ r, (if vs.isEmpty = true then Except.ok l else takeSign 44 l) = .ok r → Good r := by
      intro r hr
      split at hr
      · cases hr; exact g
      · rw [takeSign_k g.sg 44 "," (by simp)] at hr
        cases hq : takeK [","] l with
        | error f => rw [hq] at hr; cases hr
        | ok z => rw [hq] at hr; cases hr; exact (takeK_good g (by decide) hq).1
    cases hr : (if vs.isEmpty = true then Except.ok l else takeSign 44 l) with
    | error f => rw [hr] at e; cases e
    | ok r =>
      rw [hr] at e
      have e : (Vaskya.takeInt r).bind (fun x => Vaskya.takeValues n (vs ++ [x.1]) x.2) = .ok v := e
      cases hi : Vaskya.takeInt r with
      | error f => rw [hi] at e; cases e
      | ok x =>
        rw [hi] at e
        obtain ⟨g2, _, b1, b2⟩ := takeInt_good (gr r hr) hi
        obtain ⟨a1, a2, a3⟩ := takeValues_ok n (vs ++ [x.1]) x.2 v g2 (fun y hy => by
          rcases List.mem_append.mp hy with z | z
          · exact hv y z
          · rw [List.mem_singleton.mp z]; exact ⟨b1, b2⟩) e
        refine ⟨a1, ?_, a3⟩
        rw [a2, List.length_append]; show vs.length + 1 + n = _; omega
theorem takeItems_ok (k : Nat) : ∀ (n : Nat) (is : List Vaskya.Item) (l : Toks) (js : List Vaskya.Item), Good l → is.length ≤ 16 → (∀ i ∈ is, i.vs.length = k ∧ ∀ v ∈ i.vs, -1000 ≤ v ∧ v ≤ 1000) → Vaskya.takeItems k n is l = .ok js → js.length ≤ 16 ∧ ∀ i ∈ js, i.vs.length = k ∧ ∀ v ∈ i.vs, -1000 ≤ v ∧ v ≤ 1000
  | 0, is, l, js, g, h16, hi, e => by cases e
  | n + 1, is, l, js, g, h16, hi, e => by
    obtain ⟨t, r, rfl⟩ := head_k g
    rw [item_step g] at e
    by_cases c : kind t.tok = "item"
    · rw [if_pos c] at e
      have gr : Good r := g.tail (by rw [c]; decide)
      by_cases c1 : 16 ≤ is.length
      · rw [if_pos c1] at e; cases e
      · rw [if_neg c1] at e
        cases hx : takeK ["name"] r with
        | error f => rw [hx] at e; cases e
        | ok x =>
          rw [hx] at e
          obtain ⟨g1, _, _⟩ := takeK_good gr (by decide) hx
          have e : (if is.any (fun i => i.name == nameT x.1.tok) = true then Except.error (Fault.mk 5 x.1.place) else (takeK [":"] x.2).bind fun y => (rowM k y.2).bind fun v => Vaskya.takeItems k n (is ++ [⟨nameT x.1.tok, v.1⟩]) v.2) = .ok js := e
          split at e
          · cases e
          · cases hy : takeK [":"] x.2 with
            | error f => rw [hy] at e; cases e
            | ok y =>
              rw [hy] at e
              obtain ⟨g2, _, _⟩ := takeK_good g1 (by decide) hy
              have e : (rowM k y.2).bind (fun v => Vaskya.takeItems k n (is ++ [⟨nameT x.1.tok, v.1⟩]) v.2) = .ok js := e
              cases hv : rowM k y.2 with
              | error f => rw [hv] at e; cases e
              | ok v =>
                rw [hv] at e
                unfold rowM at hv
                cases hw : Vaskya.takeValues k [] y.2 with
                | error f => rw [hw] at hv; cases hv
                | ok w =>
                  rw [hw] at hv
                  obtain ⟨a1, a2, a3⟩ := takeValues_ok k [] y.2 w g2 (by simp) hw
                  have hv : (takeK [";"] w.2).map (fun x => (w.1, x.2)) = .ok v := hv
                  cases hs : takeK [";"] w.2 with
                  | error f => rw [hs] at hv; cases hv
                  | ok z =>
                    rw [hs] at hv
                    cases hv
                    obtain ⟨g3, _, _⟩ := takeK_good a1 (by decide) hs
                    refine takeItems_ok k n _ _ js g3 ?_ ?_ e
                    · rw [List.length_append]; show is.length + 1 ≤ 16; omega
                    · intro i hi'
                      rcases List.mem_append.mp hi' with q | q
                      · exact hi i q
                      · rw [List.mem_singleton.mp q]
                        refine ⟨?_, a3⟩
                        show w.1.length = k
                        rw [a2]; show 0 + k = k; omega
    · rw [if_neg c] at e
      cases hk : takeK ["end"] (t :: r) with
      | error f => rw [hk] at e; cases e
      | ok x => rw [hk] at e; cases e; exact ⟨h16, hi⟩
theorem takeMeasures_ok : ∀ (n : Nat) (ms : List Vaskya.Measure) (l : Toks) (x : List Vaskya.Measure × Toks), Good l → ms.length ≤ 4 → Vaskya.takeMeasures n ms l = .ok x → Good x.2 ∧ 1 ≤ x.1.length ∧ x.1.length ≤ 4
  | 0, ms, l, x, g, h4, e => by cases e
  | n + 1, ms, l, x, g, h4, e => by
    rw [meas_step g] at e
    cases hy : takeK ["name"] l with
    | error f => rw [hy] at e; cases e
    | ok y =>
      rw [hy] at e
      obtain ⟨g1, _, _⟩ := takeK_good g (by decide) hy
      have e : (if 4 ≤ ms.length then Except.error (Fault.mk 4 y.1.place) else if ms.any (fun m => m.name == nameT y.1.tok) = true then .error ⟨5, y.1.place⟩ else (takeK ["up", "down"] y.2).bind fun u => (takeK [",", ";"] u.2).bind fun z => if kind z.1.tok = "," then Vaskya.takeMeasures n (ms ++ [⟨nameT y.1.tok, decide (kind u.1.tok = "up")⟩]) z.2 else .ok (ms ++ [⟨nameT y.1.tok, decide (kind u.1.tok = "up")⟩], z.2)) = .ok x := e
      by_cases c1 : 4 ≤ ms.length
      · rw [if_pos c1] at e; cases e
      · rw [if_neg c1] at e
        split at e
        · cases e
        · cases hu : takeK ["up", "down"] y.2 with
          | error f => rw [hu] at e; cases e
          | ok u =>
            rw [hu] at e
            obtain ⟨g2, _, _⟩ := takeK_good g1 (by decide) hu
            have e : (takeK [",", ";"] u.2).bind (fun z => if kind z.1.tok = "," then Vaskya.takeMeasures n (ms ++ [⟨nameT y.1.tok, decide (kind u.1.tok = "up")⟩]) z.2 else .ok (ms ++ [⟨nameT y.1.tok, decide (kind u.1.tok = "up")⟩], z.2)) = .ok x := e
            cases hz : takeK [",", ";"] u.2 with
            | error f => rw [hz] at e; cases e
            | ok z =>
              rw [hz] at e
              obtain ⟨g3, _, _⟩ := takeK_good g2 (by decide) hz
              have e : (if kind z.1.tok = "," then Vaskya.takeMeasures n (ms ++ [⟨nameT y.1.tok, decide (kind u.1.tok = "up")⟩]) z.2 else Except.ok (ms ++ [⟨nameT y.1.tok, decide (kind u.1.tok = "up")⟩], z.2)) = .ok x := e
              have hl : (ms ++ [(⟨nameT y.1.tok, decide (kind u.1.tok = "up")⟩ : Vaskya.Measure)]).length = ms.length + 1 := by rw [List.length_append]; rfl
              split at e
              · exact takeMeasures_ok n _ _ x g3 (by omega) e
              · cases e
                refine ⟨g3, ?_, ?_⟩
                · show 1 ≤ (ms ++ [_]).length; rw [hl]; omega
                · show (ms ++ [_]).length ≤ 4; rw [hl]; omega
theorem read_ok {b : Bytes} {s : Vaskya.Sheet} (h : Vaskya.read b = .ok s) : SheetOk s := by
  rw [read_k] at h
  split at h
  · cases h
  · cases hl : LX 0 b with
    | error f => rw [hl] at h; cases h
    | ok l =>
      rw [hl] at h
      have h : (takeK ["measures"] l).bind (fun r => (Vaskya.takeMeasures (r.2.length + 1) [] r.2).bind fun x => (Vaskya.takeItems x.1.length (x.2.length + 1) [] x.2).map fun is => (⟨x.1, is⟩ : Vaskya.Sheet)) = .ok s := h
      have g := LX_good hl
      cases hr : takeK ["measures"] l with
      | error f => rw [hr] at h; cases h
      | ok r =>
        rw [hr] at h
        obtain ⟨g1, _, _⟩ := takeK_good g (by decide) hr
        have h : (Vaskya.takeMeasures (r.2.length + 1) [] r.2).bind (fun x => (Vaskya.takeItems x.1.length (x.2.length + 1) [] x.2).map fun is => (⟨x.1, is⟩ : Vaskya.Sheet)) = .ok s := h
        cases hm : Vaskya.takeMeasures (r.2.length + 1) [] r.2 with
        | error f => rw [hm] at h; cases h
        | ok x =>
          rw [hm] at h
          obtain ⟨g2, m1, m4⟩ := takeMeasures_ok _ _ _ _ g1 (by simp) hm
          have h : (Vaskya.takeItems x.1.length (x.2.length + 1) [] x.2).map (fun is => (⟨x.1, is⟩ : Vaskya.Sheet)) = .ok s := h
          cases hi : Vaskya.takeItems x.1.length (x.2.length + 1) [] x.2 with
          | error f => rw [hi] at h; cases h
          | ok is =>
            rw [hi] at h
            cases h
            obtain ⟨h16, hr⟩ := takeItems_ok x.1.length _ _ _ _ g2 (by simp) (by simp) hi
            exact ⟨m1, m4, h16, fun i hi => (hr i hi).1, fun i hi => (hr i hi).2⟩
end BW
namespace BWP
open PySem PySem.Spec PyProof.Rows L2
open BW (isDig isLet isBla isNam isSig IsB octs toEnd sk decI takeK kind Good numT nameT finV rowM)
open VaskyBase (Toks PTok)
abbrev s_MListI : Stmt := inClass (topS 37) 0
abbrev s_readList : Stmt := topS 39
def mlF (wl rl : Addr) : List (Str × V) := [("ways", .ref wl), ("rows", .ref rl)]
def spMListI (C : Addr) : Sp := fun vs H Q _ => ∃ (x dx wl rl : Addr), vs = [.ref x, .ref wl, .ref rl] ∧ H x = some (.ins C dx []) ∧ Q .non (upd H x (.ins C dx (mlF wl rl)))
/-- a list of measures and items in the heap -/
def MLAt (C : Addr) (H : Hp) (p : Addr) (s : Vaskya.Sheet) : Prop := ∃ (dx wl rl : Addr) (ps : List Addr), H p = some (.ins C dx (mlF wl rl)) ∧ H wl = some (.lst ((s.ms.map wayI).map V.int)) ∧ H rl = some (.lst (ps.map V.ref)) ∧ RowsAt H ps (s.items.map (·.vs))
theorem MLAt.same {C : Addr} {H H' : Hp} {p : Addr} {s : Vaskya.Sheet} (e : Same H H') (h : MLAt C H p s) : MLAt C H' p s := by
  obtain ⟨dx, wl, rl, ps, h1, h2, h3, h4⟩ := h
  exact ⟨dx, wl, rl, ps, e _ _ h1, e _ _ h2, e _ _ h3, h4.same e⟩
def spReadList (K : PySem.W.Frag) (CM CF : Addr) : Sp := fun vs H Q E => ∃ (a : Addr) (ns : List Int), vs = [.ref a] ∧ SqL K H a (ns.map V.int) ∧ (∀ x ∈ ns, IsB x) ∧
  (∀ f, Vaskya.read (octs ns) = .error f → FltTo CF E H f.code f.place) ∧ (∀ s, Vaskya.read (octs ns) = .ok s → ∀ (p : Addr) (H' : Hp), Same H H' → H p = none → MLAt CM H' p s → Q (.ref p) H')
theorem FltTo.but {r CF : Addr} {E : XK} {H H1 : Hp} {c p : Int} (h : FltTo CF E H c p) (s : Same H H1) (hr : H r = none) : FltBut r CF E H1 c p := fun d H' kb hx hd =>
  h d H' (s.free hd) (fun b o e => kb b o (s b o e) (ne_of_none e hr)) hx
abbrev MLT (K : PySem.W.Frag) (mg : Str → Option Value) (C : Addr) (d : Dn) : Prop := Rec K mg "MeasuredList" "MeasuredList.__init__" s_MListI ["self", "ways", "rows"] ["ways", "rows"] C d
section
variable {P : Program} {w : World} {K : PySem.W.Frag} {mg : Str → Option Value} {base : Heap} {CM CR CT CF aB aW aS : Addr} {d dM dI dS dT dK dF dV dRow dRows dMea dRef dAdd dSplit dSkip dEnd dAt dName dKind dNum dLet dDig : Dn}
theorem sc_MListI : FnScope ["self", "ways", "rows"] ["self", "ways", "rows"] (defScope s_MListI) := ⟨rfl, rfl, rfl, by decide +kernel, rfl, by decide +kernel, by decide +kernel⟩
theorem ok_MListI (T : MLT K mg CM dM) : FnOk P w K mg base CX0 1 dM.a dM.fd ["self", "ways", "rows"] (spMListI CM) := by
  refine T.F.ok sc_MListI (fun vs H Q E h => ?_) (fun cdv A outer s H vs Q E hr h => ?_)
  · obtain ⟨x, dx, wl, rl, rfl, _⟩ := h; rfl
  · obtain ⟨x, dx, wl, rl, rfl, hx, q⟩ := h
    refine ⟨_, pss_cons (ps_fld (pv 0) (pv 1) rfl) (pss_one (ps_fld (pv 0) (pv 2) rfl)), ?_⟩
    refine ⟨_, rfl, _, rfl, x, CM, dx, _, rfl, hx, T.cl, T.no _ (by simp), (by show 0 < 1000; decide), ?_⟩
    refine ⟨_, rfl, _, rfl, x, CM, dx, _, rfl, upd_same, T.cl, T.no _ (by simp), (by show 1 < 1000; decide), ?_⟩
    rw [upd_upd]; exact q
theorem sc_readList : FnScope ["text", "reader", "ways", "rows"] ["text"] (defScope s_readList) := ⟨rfl, rfl, rfl, by decide +kernel, rfl, by decide +kernel, by decide +kernel⟩
theorem ok_readList (G : Glb K mg "read_list" s_readList ["text"] d) (TM : MLT K mg CM dM) (MT : TokM K mg CF CT dF dK dSplit dSkip dEnd dAt dName dKind dNum dLet dDig aB aW aS) (ML : LstM K mg CR CT CF dI dS dT dK dF dV dRow dRows dMea dRef dAdd) (cMB : Cst mg "MOST_BYTES" (.int 4096)) (cTL : Cst mg "TOO_LONG" (.int 1)) :
    FnOk P w K mg base (L2.CX P w) 7 d.a d.fd ["text"] (spReadList K CM CF) := by
  have FSp : FnOk P w K mg base (L2.CX P w) 5 dSplit.a dSplit.fd ["text"] (spSplit K CF CT) := ok_split MT
  have FMe : FnOk P w K mg base (L2.CX P w) 4 dMea.a dMea.fd ["reader"] (spMeasures CR CT CF) := ok_measures ML
  have FRw : FnOk P w K mg base (L2.CX P w) 6 dRows.a dRows.fd ["reader", "width"] (spRows CR CT CF) := ok_rows ML
  have FML : FnOk P w K mg base CX0 1 dM.a dM.fd ["self", "ways", "rows"] (spMListI CM) := ok_MListI TM
  have FRd : FnOk P w K mg base CX0 1 dI.a dI.fd ["self", "tokens"] (spReaderI CR) := ok_ReaderI ML.R
  refine G.F.okX sc_readList (fun vs H Q E h => ?_) (fun cdv A outer s H vs Q E hr h => ?_)
  · obtain ⟨a, ns, rfl, _⟩ := h; rfl
  · obtain ⟨a, ns, rfl, hS, hB, kE, kQ⟩ := h
    have hr5 : Room 5 _ := hr.mono (by decide)
    have hr4 : Room 4 _ := hr.mono (by decide)
    have hr2 : Room 2 _ := hr.mono (by decide)
    have ps : ∀ {σ : Unit}, True := trivial
    refine ⟨_, pss_cons (ps_if (pt_cmpR op_gt (pe_callB call_len_seq (by rfl) MT.len PySem.boot_len (pa_cons (pv 0) pa_nil)) (pe_cst rfl cMB) (nomark _)) (pss_one (ps_fault (k := 4) rfl MT.F hr (takes_of rfl rfl rfl rfl) (pa_cons (pe_cst rfl cTL) (pa_cons (pe_cst rfl cMB) pa_nil)))) pss_nil)
      (pss_cons (ps_set (i := 1) sc_readList.nd rfl (.inl rfl) (pe_make ML.R.r.mkr FRd hr2 rfl ML.R.r.g ML.R.r.b .nil pass0 (pa_cons (pe_call FSp hr5 rfl MT.split.g MT.split.k MT.split.b .nil (passes_call (E := E) (takes_of rfl rfl rfl rfl) (fun _ _ _ _ e => e)) (pa_cons (pv 0) pa_nil)) pa_nil)))
      (pss_cons (ps_set (i := 2) sc_readList.nd rfl (.inl rfl) (pe_call FMe hr4 rfl ML.mea.g ML.mea.k ML.mea.b .nil (passes_call (E := E) (takes_of rfl rfl rfl rfl) (fun _ _ _ _ e => e)) (pa_cons (pv 1) pa_nil)))
      (pss_cons (ps_set (i := 3) sc_readList.nd rfl (.inl rfl) (pe_call FRw hr rfl ML.rows.g ML.rows.k ML.rows.b .nil (passes_call (E := E) (takes_of rfl rfl rfl rfl) (fun _ _ _ _ e => e)) (pa_cons (pv 1) (pa_cons (pe_callB call_len_seq (by rfl) MT.len PySem.boot_len (pa_cons (pv 2) pa_nil)) pa_nil))))
      (pss_one (ps_ret (pe_make TM.mkr FML hr2 rfl TM.g TM.b .nil pass0 (pa_cons (pv 2) (pa_cons (pv 3) pa_nil)))))))), ?_⟩
    rw [BW.read_k] at kE kQ
    have hl : (octs ns).length = ns.length := by unfold BW.octs; rw [List.length_map]
    rw [hl] at kE kQ
    refine ⟨_, rfl, a, _, rfl, .inl hS, _, _, rfl, rfl, _, rfl, ?_⟩
    by_cases c : 4096 < ns.length
    · rw [if_pos c] at kE
      exact ifT (by rw [List.length_map]; exact decide_eq_true (by omega)) (mk_fault (kE ⟨1, 4096⟩ rfl))
    · rw [if_neg c] at kE kQ
      refine ifF (by rw [List.length_map]; exact decide_eq_false (by omega)) ?_
      refine ⟨_, rfl, a, ns, rfl, hS, hB, by omega, fun f hf => kE f (by rw [hf]; rfl), fun ts hts l as H1 s1 hl1 hl2 tk1 _ x dx nx ndx nex => ?_⟩
      have g0 := BW.LX_good hts
      refine ⟨x, dx, l, rfl, upd_same, rfl, ?_⟩
      have s2 : Same H1 (upd (upd (upd H1 dx (.own x)) x (.ins CR dx [])) x (.ins CR dx (rdF l 0))) := same_made nx ndx
      generalize hH2 : upd (upd (upd H1 dx (.own x)) x (.ins CR dx [])) x (.ins CR dx (rdF l 0)) = H2 at s2
      have hx2 : H2 x = some (.ins CR dx (rdF l 0)) := by rw [← hH2]; exact upd_same
      have R2 : RdAt CR CT H1 H2 x ts := ⟨s2, nx, dx, l, as, ts, 0, hx2, hl2, tk1, rfl⟩
      have x0 : H x = none := s1.free nx
      rw [hts] at kE kQ
      have kE' : ∀ f, ((takeK ["measures"] ts).bind fun r => (Vaskya.takeMeasures (r.2.length + 1) [] r.2).bind fun x => (Vaskya.takeItems x.1.length (x.2.length + 1) [] x.2).map fun is => (⟨x.1, is⟩ : Vaskya.Sheet)) = .error f → FltTo CF E H f.code f.place := kE
      have kQ' : ∀ s, ((takeK ["measures"] ts).bind fun r => (Vaskya.takeMeasures (r.2.length + 1) [] r.2).bind fun x => (Vaskya.takeItems x.1.length (x.2.length + 1) [] x.2).map fun is => (⟨x.1, is⟩ : Vaskya.Sheet)) = .ok s → ∀ (p : Addr) (H' : Hp), Same H H' → H p = none → MLAt CM H' p s → Q (.ref p) H' := kQ
      have em : ((takeK ["measures"] ts).bind fun r => (Vaskya.takeMeasures (r.2.length + 1) [] r.2).bind fun x => (Vaskya.takeItems x.1.length (x.2.length + 1) [] x.2).map fun is => (⟨x.1, is⟩ : Vaskya.Sheet)) = (measM ts).bind fun x => (Vaskya.takeItems x.1.length (x.2.length + 1) [] x.2).map fun is => (⟨x.1, is⟩ : Vaskya.Sheet) := by
        unfold measM
        cases takeK ["measures"] ts <;> rfl
      rw [em] at kE' kQ'
      refine ⟨_, rfl, H1, x, ts, rfl, R2, g0, fun f hf => (kE' f (by rw [hf]; rfl)).but (s1.trans s2) x0, fun y hy wl H3 kb3 hwl hwl3 R3 g3 m1 m4 => ?_⟩
      rw [hy] at kE' kQ'
      have wx : wl ≠ x := fun z => by rw [z, hx2] at hwl; cases hwl
      have s3 : Same H H3 := fun b o e => kb3 b o (s2 b o (s1 b o e)) (ne_of_none e x0)
      refine ⟨_, rfl, _, rfl, wl, _, rfl, .inl (SqL.of hwl3), H1, x, y.2, y.1.length, ?_, m1, m4, R3, g3, fun f hf => ?_, fun is his rl ps H4 kb4 hrl hrl4 rows4 i16 => ?_⟩
      · rw [List.length_map, List.length_map]; rfl
      · exact (kE' f (by show (Vaskya.takeItems y.1.length (y.2.length + 1) [] y.2).map _ = _; rw [hf]; rfl)).but s3 x0
      · refine ⟨_, rfl, _, rfl, fun p dp np ndp nep => ⟨p, dp, wl, rl, rfl, upd_same, rfl, ?_⟩⟩
        have s4 : Same H H4 := fun b o e => kb4 b o (s3 b o e) (ne_of_none e x0)
        have s5 := same_made (C := CM) (o := .ins CM dp (mlF wl rl)) np ndp
        refine kQ' ⟨y.1, is⟩ (by show (Vaskya.takeItems y.1.length (y.2.length + 1) [] y.2).map _ = _; rw [his]; rfl) p _ (s4.trans s5) (s4.free np) ⟨dp, wl, rl, ps, upd_same, s5 _ _ (kb4 wl _ hwl3 wx), s5 _ _ hrl4, rows4.same s5⟩
end
end BWP
namespace BW
open VaskyBase
/-! ### the program's reckoning with fractions -/
/-- small numbers: what the shares of a list's items are told by -/
def Sm (q : Rat) : Prop := q.den ≤ 4000 ∧ -4000 ≤ q.num ∧ q.num ≤ 4000
theorem sm_zero : Sm 0 := ⟨by decide, by decide, by decide⟩
theorem sm_one : Sm 1 := ⟨by decide, by decide, by decide⟩
theorem divInt_sm {a b : Int} (ha : -4000 ≤ a ∧ a ≤ 4000) (hb : -4000 ≤ b ∧ b ≤ 4000) (h0 : b ≠ 0) : Sm (Rat.divInt a b) := by
  have hn := Rat.num_divInt a b
  have hd := Rat.den_divInt a b
  rw [if_neg h0] at hd
  have g0 : 0 < b.gcd a := Int.gcd_pos_of_ne_zero_left a h0
  refine ⟨?_, ?_, ?_⟩
  · rw [hd]
    exact Nat.le_trans (Nat.div_le_self _ _) (by omega)
  · rw [hn]
    have : b.sign * a ≤ 4000 ∧ -4000 ≤ b.sign * a := by
      rcases Int.lt_or_gt_of_ne h0 with z | z
      · rw [Int.sign_eq_neg_one_of_neg z]; omega
      · rw [Int.sign_eq_one_of_pos z]; omega
    have dv : ((b.gcd a : Nat) : Int) ∣ b.sign * a := Int.dvd_mul_of_dvd_right (Int.gcd_dvd_right b a)
    obtain ⟨c, hc⟩ := dv
    rw [hc, Int.mul_ediv_cancel_left _ (by omega)]
    have gp : 1 ≤ ((b.gcd a : Nat) : Int) := by omega
    by_cases c0 : 0 ≤ c
    · omega
    · have : ((b.gcd a : Nat) : Int) * c ≤ 1 * c := Int.mul_le_mul_of_nonpos_right gp (by omega)
      omega
  · rw [hn]
    have : b.sign * a ≤ 4000 ∧ -4000 ≤ b.sign * a := by
      rcases Int.lt_or_gt_of_ne h0 with z | z
      · rw [Int.sign_eq_neg_one_of_neg z]; omega
      · rw [Int.sign_eq_one_of_pos z]; omega
    have dv : ((b.gcd a : Nat) : Int) ∣ b.sign * a := Int.dvd_mul_of_dvd_right (Int.gcd_dvd_right b a)
    obtain ⟨c, hc⟩ := dv
    rw [hc, Int.mul_ediv_cancel_left _ (by omega)]
    have gp : 1 ≤ ((b.gcd a : Nat) : Int) := by omega
    by_cases c0 : c ≤ 0
    · omega
    · have : 1 * c ≤ ((b.gcd a : Nat) : Int) * c := Int.mul_le_mul_of_nonneg_right gp (by omega)
      omega
/-- lowest_terms: the two quotients are the fraction's numbers -/
theorem lowest {a b : Int} (h0 : b ≠ 0) : a.fdiv (if b < 0 then -((Nat.gcd a.natAbs b.natAbs : Nat) : Int) else ((Nat.gcd a.natAbs b.natAbs : Nat) : Int)) = (Rat.divInt a b).num ∧
    b.fdiv (if b < 0 then -((Nat.gcd a.natAbs b.natAbs : Nat) : Int) else ((Nat.gcd a.natAbs b.natAbs : Nat) : Int)) = ((Rat.divInt a b).den : Int) := by
  have hn := Rat.num_divInt a b
  have hd := Rat.den_divInt a b
  rw [if_neg h0] at hd
  have ge : b.gcd a = Nat.gcd a.natAbs b.natAbs := by rw [Int.gcd, Nat.gcd_comm]
  rw [ge] at hn hd
  have gp : 0 < Nat.gcd a.natAbs b.natAbs := Nat.gcd_pos_of_pos_right _ (by omega)
  have da : ((Nat.gcd a.natAbs b.natAbs : Nat) : Int) ∣ a := Int.ofNat_dvd_left.mpr (Nat.gcd_dvd_left _ _)
  have db : ((Nat.gcd a.natAbs b.natAbs : Nat) : Int) ∣ b := Int.ofNat_dvd_left.mpr (Nat.gcd_dvd_right _ _)
  have dn : Nat.gcd a.natAbs b.natAbs ∣ b.natAbs := Nat.gcd_dvd_right _ _
  generalize Nat.gcd a.natAbs b.natAbs = g at *
  obtain ⟨c, hc⟩ := da
  obtain ⟨e, he⟩ := db
  have g0 : ((g : Nat) : Int) ≠ 0 := by omega
  have nb : ((b.natAbs / g : Nat) : Int) = if b < 0 then -e else e := by
    rw [Int.natCast_ediv]
    split
    · rename_i z
      have : ((b.natAbs : Nat) : Int) = (g : Int) * (-e) := by rw [Int.mul_neg, ← he]; omega
      rw [this, Int.mul_ediv_cancel_left _ g0]
    · rename_i z
      have : ((b.natAbs : Nat) : Int) = (g : Int) * e := by rw [← he]; omega
      rw [this, Int.mul_ediv_cancel_left _ g0]
  rw [hn, hd, nb]
  split
  · rename_i z
    rw [Int.sign_eq_neg_one_of_neg z]
    have g1 : -((g : Nat) : Int) ≠ 0 := by omega
    constructor
    · have e1 : a = -(g : Int) * (-c) := by rw [Int.neg_mul_neg]; exact hc
      have e2 : -1 * a = (g : Int) * (-c) := by rw [Int.mul_neg, ← hc]; omega
      rw [e2, Int.mul_ediv_cancel_left _ g0]
      conv => lhs; rw [e1]
      exact Int.mul_fdiv_cancel_left _ g1
    · have e1 : b = -(g : Int) * (-e) := by rw [Int.neg_mul_neg]; exact he
      conv => lhs; rw [e1]
      exact Int.mul_fdiv_cancel_left _ g1
  · rename_i z
    rw [Int.sign_eq_one_of_pos (by omega)]
    constructor
    · rw [Int.one_mul]
      conv => lhs; rw [hc]
      conv => rhs; rw [hc]
      rw [Int.mul_fdiv_cancel_left _ g0, Int.mul_ediv_cancel_left _ g0]
    · conv => lhs; rw [he]
      exact Int.mul_fdiv_cancel_left _ g0
theorem meet_div {x y : Ln} : meet x y = Rat.divInt (y.2 - x.2) (slopeI x - slopeI y) := by
  unfold meet
  rw [Rat.divInt_eq_div, sl_slope]
/-- lines of a list: their two numbers are at most 1000 -/
def LnOk (x : Ln) : Prop := (-1000 ≤ x.1 ∧ x.1 ≤ 1000) ∧ (-1000 ≤ x.2 ∧ x.2 ≤ 1000)
theorem meet_sm {x y : Ln} (hx : LnOk x) (hy : LnOk y) (h : slopeI x ≠ slopeI y) : Sm (meet x y) := by
  rw [meet_div]
  obtain ⟨⟨a1, a2⟩, ⟨a3, a4⟩⟩ := hx
  obtain ⟨⟨b1, b2⟩, ⟨b3, b4⟩⟩ := hy
  unfold slopeI at *
  exact divInt_sm ⟨by omega, by omega⟩ ⟨by omega, by omega⟩ (by omega)
theorem endOf_sm {l : List Ln} {x : Ln} {last : Rat} (hx : LnOk x) (hl : ∀ y ∈ l, LnOk y) (h : Sm last) : Sm (endOf l x last) := by
  unfold endOf
  induction l generalizing last with
  | nil => exact h
  | cons y l ih =>
    refine ih (fun z hz => hl z (List.mem_cons_of_mem _ hz)) ?_
    unfold endStep
    split
    · rename_i c
      split
      · exact meet_sm (hl y (by simp)) hx (by omega)
      · exact h
    · exact h
theorem liked_sm {lo hi : Rat} {x y : Ln} {z : Rat × Rat} (hx : LnOk x) (hy : LnOk y) (hlo : Sm lo) (hhi : Sm hi) (e : likedR lo hi x y = some z) : Sm z.1 ∧ Sm z.2 := by
  unfold likedR at e
  by_cases hs : slopeI x = slopeI y
  · rw [if_pos hs] at e
    split at e
    · cases e; exact ⟨hlo, hhi⟩
    · cases e
  · rw [if_neg hs] at e
    have ms := meet_sm hx hy hs
    have key : ∀ a b : Rat, Sm a → Sm b → (if b < a then none else some (a, b)) = some z → Sm z.1 ∧ Sm z.2 := by
      intro a b ha hb q
      by_cases c : b < a
      · rw [if_pos c] at q; cases q
      · rw [if_neg c] at q; cases q; exact ⟨ha, hb⟩
    refine key _ _ ?_ ?_ e
    · split
      · split <;> assumption
      · exact hlo
    · split
      · exact hhi
      · split <;> assumption
/-- a share's numbers, compared as the program does -/
theorem lt_nums (p q : Rat) : decide (p.num * (q.den : Int) < q.num * (p.den : Int)) = decide (p < q) := decide_eq_decide.mpr (Rat.lt_iff p q).symm
/-- worth -/
theorem worth_mixed (t : Rat) (x : Ln) : t.num * x.1 + ((t.den : Int) - t.num) * x.2 = Vaskyc.mixed (ofRat t) x := rfl
theorem worth_lt {t : Rat} {x y : Ln} : Vaskyc.mixed (ofRat t) x < Vaskyc.mixed (ofRat t) y ↔ 0 < D y x t := by rw [mixed_lt, at_lt]
theorem worth_eq {t : Rat} {x y : Ln} : Vaskyc.mixed (ofRat t) x = Vaskyc.mixed (ofRat t) y ↔ D y x t = 0 := by
  have h1 := worth_lt (t := t) (x := x) (y := y)
  have h2 := worth_lt (t := t) (x := y) (y := x)
  rw [D_neg y x] at h2
  constructor
  · intro h
    have n1 : ¬ 0 < D y x t := fun z => by have := h1.mpr z; omega
    have n2 : ¬ 0 < -D y x t := fun z => by have := h2.mpr z; omega
    grind
  · intro h
    have n1 : ¬ Vaskyc.mixed (ofRat t) x < Vaskyc.mixed (ofRat t) y := fun z => by have := h1.mp z; rw [h] at this; exact absurd this (by decide)
    have n2 : ¬ Vaskyc.mixed (ofRat t) y < Vaskyc.mixed (ofRat t) x := fun z => by have := h2.mp z; rw [h] at this; exact absurd this (by decide)
    omega
end BW
set_option autoImplicit false
namespace BWX
open PySem
open Sem (wp)
/-- what max(x, key=q) needs of its key, told of one state: J i k: the state is good, and k is the key of the i-th item in it -/
structure KRun (prog : Program) (w : World) (A : Around) (q : Value) (S : Addr) (wr : List Addr) (G : Array GenState → Array GenState → Prop) (n : Nat) (P : Nat → Value → Prop) (St : Nat → Shared → Prop) (J : Nat → Value → Shared → Prop) (J0 : Shared → Prop) (bt : Nat → Nat → Bool) : Prop where
  keep0 : ∀ s s', J0 s → Moved (S :: wr) G s s' → J0 s'
  keep : ∀ i k s s', J i k s → Moved (S :: wr) G s s' → J i k s'
  drop : ∀ i k s, J i k s → J0 s
  first : ∀ v (s : Shared) (o : Obj) (Q E : Value → Shared → Prop), 0 < n → P 0 v → J0 s → St 1 s → s.heap.get? S = some o →
    (∀ k s', J 0 k s' → St 1 s' → s'.heap.get? S = some o → Q k s') → wpAny (model prog w) A (call q [v]) Q E s
  turn : ∀ j i kb v (s : Shared) (o : Obj) (Q E : Value → Shared → Prop), j < n → P j v → J i kb s → St (j + 1) s → s.heap.get? S = some o →
    (∀ k s', J i kb s' → J j k s' → St (j + 1) s' → s'.heap.get? S = some o → (∀ Q' E' : Value → Shared → Prop, Q' (.bool (bt j i)) s' → wpAny (model prog w) A (richCompare .Gt k kb) Q' E' s') → Q k s') → wpAny (model prog w) A (call q [v]) Q E s
section
variable {prog : Program} {w : World} {A : Around} {R : Result → Shared → Prop} {I : Addr} {fp wr : List Addr} {G : Array GenState → Array GenState → Prop} {n : Nat} {P : Nat → Value → Prop} {St : Nat → Shared → Prop} {J : Nat → Value → Shared → Prop} {J0 : Shared → Prop} {bt : Nat → Nat → Bool} {q : Addr}
theorem max_loop (W : WalksS prog w A.in1 I fp wr G n P St) (S : Addr) (hSf : S ∉ fp) (K : KRun prog w A.in1 (.ref q) S wr G n P St J J0 bt) (kw : List (Str × Value)) :
    ∀ (k j : Nat) (s : Shared) (vb kb : Value) (c : Nat), n - (j + 1) = k → j + 1 ≤ n → J (argBest bt j) kb s → St (j + 1) s → P (argBest bt j) vb →
    s.heap.get? S = some { cls := .type "list", dict := none, data := .seq #[vb, kb] c, slots := #[] } →
    (∀ v s', P (argBest bt (n - 1)) v → J0 s' → R (.ok (.ret v)) s') → codeAny (model prog w) A (.builtin "max.loop" ⟨[.ref I, (.ref q), .ref S], kw⟩) R s := by
  have noS : S ∉ wr := fun h => hSf (W.sub _ h)
  have inS : ∀ b ∈ wr, b ∈ S :: wr := fun b hb => List.mem_cons_of_mem _ hb
  have nm : (toString "max" ++ toString ".loop" : String) = "max.loop" := by decide
  have ne : ∀ {b : Addr}, b ∉ S :: wr → S ≠ b := fun hb h => hb (by rw [h]; exact List.mem_cons_self)
  intro k; induction k with
  | zero =>
    intro j s vb kb c hk hj hJ hst hPb hS hR
    have hin : j + 1 = n := by omega
    refine codeAny_builtin F.entry_max_loop (by
      rw [Around.under_plainId F.plain_max_loop _]
      show wpAny _ A.in1 (seqItems? (.ref S) >>= _) _ _ s
      refine wpAny_bind (wpAny_seqItems hS rfl (show wpAny _ A.in1 (tryCatch (pyNext (.ref I)) _ >>= _) _ _ s from wpAny_bind (wpAny_tryCatch (W.done s _ _ (hin ▸ hst) fun s' hm => ?_))))
      have hS' := hm.heap S _ noS hS
      refine (show wpAny _ A.in1 (updateSeq S (fun _ => #[]) >>= _) _ _ _ from wpAny_bind (wpAny_updateSeq hS' rfl (wpAny_bind (wpAny_letGo (wpAny_pure ?_)))))
      exact hR vb _ (by rw [← hin]; exact hPb) (K.keep0 _ _ (K.drop _ _ _ hJ) ((hm.mono inS).then_heap (tk := s'.toks) (Nat.le_refl _) fun b o hb e => (Heap.get?_update_other _ _ (ne hb)).trans e)))
  | succ k ih =>
    intro j s vb kb c hk hj hJ hst hPb hS hR
    have hlt : j + 1 < n := by omega
    refine codeAny_builtin F.entry_max_loop (by
      rw [Around.under_plainId F.plain_max_loop _]
      show wpAny _ A.in1 (seqItems? (.ref S) >>= _) _ _ s
      refine wpAny_bind (wpAny_seqItems hS rfl (show wpAny _ A.in1 (tryCatch (pyNext (.ref I)) _ >>= _) _ _ s from wpAny_bind (wpAny_tryCatch (W.item (j + 1) s _ _ hlt hst fun v s' hP hst' hm => ?_))))
      have hS' := hm.heap S _ noS hS
      have hJ' := K.keep _ _ _ _ hJ (hm.mono inS)
      refine (show wpAny _ A.in1 (tryCatch (holding [v] (call (.ref q) [v])) _ >>= _) _ _ _ from wpAny_bind (wpAny_tryCatch (wpAny_holding (K.turn (j + 1) (argBest bt j) kb v s' _ _ _ hlt hP hJ' hst' hS' fun kx s'' hJ1 hJ2 hst2 hS2 hcmp => ?_))))
      refine (show wpAny _ A.in1 (tryCatch (holding [v, kx] (richCompare .Gt kx kb >>= _)) _ >>= _) _ _ _ from wpAny_bind (wpAny_tryCatch (wpAny_holding (wpAny_bind (hcmp _ _ ?_)))))
      refine wpAny_bind (wpAny_holding (wpAny_truthy_bool (wpAny_bind (wpAny_letGo (wpAny_pure ?_)))))
      cases hb : bt (j + 1) (argBest bt j) with
      | true =>
        simp only [if_true]
        refine wpAny_bind (wpAny_updateSeq hS2 rfl (wpAny_bind (wpAny_letGo ?_)))
        rw [nm]
        have hm2 : Moved (S :: wr) G s'' { s'' with heap := s''.heap.update S (Obj.mapSeq fun _ => #[v, kx]), toks := s''.toks } := (Moved.refl W.grefl).then_heap (tk := s''.toks) (Nat.le_refl _) fun b o hb e => (Heap.get?_update_other _ _ (ne hb)).trans e
        refine wpAny_pure ⟨plainId_quiet F.plain_max_loop _, ih (j + 1) _ v kx _ (by omega) hlt (by simp only [argBest, hb, if_true]; exact K.keep _ _ _ _ hJ2 hm2) (W.frame _ s'' _ s''.toks hst2 (Nat.le_refl _) fun b hbf o e => ?_) (by simp only [argBest, hb, if_true]; exact hP) (Heap.get?_update_self _ hS2 rfl) hR⟩
        exact (Heap.get?_update_other _ _ (fun h : S = b => hSf (by rw [h]; exact hbf))).trans e
      | false =>
        simp only [Bool.false_eq_true, if_false]
        refine wpAny_bind (wpAny_letGo (by
          rw [nm]
          exact wpAny_pure ⟨plainId_quiet F.plain_max_loop _, ih (j + 1) _ vb kb c (by omega) hlt (by simp only [argBest, hb, Bool.false_eq_true, if_false]; exact hJ1) hst2 (by simp only [argBest, hb, Bool.false_eq_true, if_false]; exact hPb) hS2 hR⟩)))
theorem max_first (W : WalksS prog w A.in1 I fp wr G n P St) (S : Addr) (hSf : S ∉ fp) (K : KRun prog w A.in1 (.ref q) S wr G n P St J J0 bt) (kw : List (Str × Value)) (hn : 0 < n) {s : Shared} {c : Nat} (hJ : J0 s) (hst : St 0 s)
    (hS : s.heap.get? S = some { cls := .type "list", dict := none, data := .seq #[] c, slots := #[] })
    (hR : ∀ v s', P (argBest bt (n - 1)) v → J0 s' → R (.ok (.ret v)) s') : codeAny (model prog w) A (.builtin "max.loop" ⟨[.ref I, (.ref q), .ref S], kw⟩) R s := by
  have noS : S ∉ wr := fun h => hSf (W.sub _ h)
  have inS : ∀ b ∈ wr, b ∈ S :: wr := fun b hb => List.mem_cons_of_mem _ hb
  have nm : (toString "max" ++ toString ".loop" : String) = "max.loop" := by decide
  have ne : ∀ {b : Addr}, b ∉ S :: wr → S ≠ b := fun hb h => hb (by rw [h]; exact List.mem_cons_self)
  refine codeAny_builtin F.entry_max_loop (by
    rw [Around.under_plainId F.plain_max_loop _]
    show wpAny _ A.in1 (seqItems? (.ref S) >>= _) _ _ s
    refine wpAny_bind (wpAny_seqItems hS rfl (show wpAny _ A.in1 (tryCatch (pyNext (.ref I)) _ >>= _) _ _ s from wpAny_bind (wpAny_tryCatch (W.item 0 s _ _ hn hst fun v s' hP hst' hm => ?_))))
    have hS' := hm.heap S _ noS hS
    refine (show wpAny _ A.in1 (tryCatch (holding [v] (call (.ref q) [v])) _ >>= _) _ _ _ from wpAny_bind (wpAny_tryCatch (wpAny_holding (K.first v s' _ _ _ hn hP (K.keep0 _ _ hJ (hm.mono inS)) hst' hS' fun kx s'' hJ2 hst2 hS2 => ?_))))
    refine (show wpAny _ A.in1 (updateSeq S (fun _ => #[v, kx]) >>= _) _ _ _ from wpAny_bind (wpAny_updateSeq hS2 rfl (by
      rw [nm]
      have hm2 : Moved (S :: wr) G s'' { s'' with heap := s''.heap.update S (Obj.mapSeq fun _ => #[v, kx]), toks := s''.toks } := (Moved.refl W.grefl).then_heap (tk := s''.toks) (Nat.le_refl _) fun b o hb e => (Heap.get?_update_other _ _ (ne hb)).trans e
      refine wpAny_pure ⟨plainId_quiet F.plain_max_loop _, max_loop W S hSf K kw _ 0 _ v kx _ rfl hn (K.keep _ _ _ _ hJ2 hm2) (W.frame _ s'' _ s''.toks hst2 (Nat.le_refl _) fun b hbf o e => ?_) hP (Heap.get?_update_self _ hS2 rfl) hR⟩
      exact (Heap.get?_update_other _ _ (fun h : S = b => hSf (by rw [h]; exact hbf))).trans e))))
/-- max(x, key=q) over what is walked -/
theorem call_maxK {x : Value} {Q E : Value → Shared → Prop} {s : Shared}
    (h : wpAny (model prog w) A.in1 (pyIter x) (fun it s2 => ∃ I fp wr G n P St J J0 bt, it = .ref I ∧ WalksS prog w A.in1 I fp wr G n P St ∧ St 0 s2 ∧ (∀ b ∈ fp, b < s2.heap.objs.size) ∧ 0 < n ∧
      KRun prog w A.in1 (.ref q) s2.heap.objs.size wr G n P St J J0 bt ∧ J0 s2 ∧ ∀ v s', P (argBest bt (n - 1)) v → J0 s' → Q v s') E s) :
    wpAny (model prog w) A (call (.builtin "max") [x] [(Str.ofString "key", .ref q)]) Q E s := by
  have nm : (toString "max" ++ toString ".loop" : String) = "max.loop" := by decide
  refine PyProof.Rows.kmk_tree F.kind_max F.plain_max F.entry_max (PyProof.Rows.kmk_max_key _ _) (by
    refine (show wpAny _ A.in1 (Builtin.Builtins.bindParams "max" ["key", "default"] 0 ⟨[], [(Str.ofString "key", .ref q)]⟩ >>= _) _ _ s from wpAny_bind (wpAny_of_eq (show Builtin.Builtins.bindParams "max" ["key", "default"] 0 ⟨[], [(Str.ofString "key", .ref q)]⟩ = pure [some (.ref q), none] from rfl) ?_))
    refine wpAny_bind (wpAny_pure (wpAny_bind (wpAny_mono h (fun it s2 h2 => ?_) fun _ _ e => e)))
    obtain ⟨I, fp, wr, G, n, P, St, J, J0, bt, rfl, W, hst, hfp, hn, K, hJ, hQ⟩ := h2
    refine wpAny_bind (wpAny_newObj_type ?_)
    have hSf : s2.heap.objs.size ∉ fp := fun hm => Nat.lt_irrefl _ (hfp _ hm)
    rw [nm]
    have hm0 : Moved (s2.heap.objs.size :: wr) G s2 { s2 with heap := s2.heap.push { cls := .type "list", data := .seq #[] 0 }, toks := s2.toks } := (Moved.refl W.grefl).then_heap (tk := s2.toks) (Nat.le_refl _) fun b o _ e => Heap.get?_push_of_some _ e
    have hst' := W.frame 0 s2 (s2.heap.push { cls := .type "list", data := .seq #[] 0 }) s2.toks hst (Nat.le_refl _) fun b _ o e => Heap.get?_push_of_some _ e
    exact wpAny_pure ⟨plainId_quiet F.plain_max_loop _, max_first W s2.heap.objs.size hSf K _ hn (K.keep0 _ _ hJ hm0) hst' (Heap.get?_push_size _ rfl) hQ⟩)
end
end BWX
namespace BWX
open PySem PySem.Spec PyProof.Rows L2 LamX
/-- the names of a lambda of one parameter a: a, captured ones, globals -/
structure LamA (sc scope : Scope) (a : Str) : Prop where
  kind : scope.kind = .function
  co : scope.isCoroutine = false
  gen : scope.isGenerator = false
  par : scope.names.lookup a = some .local
  own : ∀ y ∈ scope.names, y.2 ≠ .cell
  one : ∀ y, scope.names.lookup y = some .local → y = a
  free : ∀ y ∈ scope.names, y.2 = .free → sc.names.lookup y.1 = some .cell ∨ sc.names.lookup y.1 = some .free
theorem LamA.has {X : Cx} {scope : Scope} {a : Str} (L : LamA X.env.scope scope a) (ok : X.Ok) : ∀ y ∈ scope.names, y.2 = .free → ∃ c, X.env.cells.lookup y.1 = some c := fun y hy e => by
  rcases L.free y hy e with k | k
  · exact ok.has _ (.inl k)
  · exact ok.has _ (.inr k)
/-- the context of the key's body: its parameter in slot 0, the maker's slots behind it; nothing is let out -/
def keyCx (X : Cx) (A : Around) (outer : List Env) (s : Shared) (H : Hp) (scope : Scope) (f c' : Addr) (a : Str) : Cx :=
  { lamCx X A outer s H (fun _ _ _ => False) scope f c' with N := a :: X.N, xe := fun _ _ => False }
section
variable {X : Cx} {pins : List (Addr × Obj)} {σ : L2.St} {H : Hp} {s : Shared}
theorem key_start {A : Around} {scope : Scope} {f c' : Addr} {h1 : Heap} {tk : Nat} {a : Str} {v : V} {u : Value} (I : Inv X pins σ H s) (L : LamA X.env.scope scope a) (e0 : Env0 X.prog X.w X.K X.mg X.base A X.stack s H) (hd : A.handled = none) (ha : a ∉ X.N)
    (r : RelV v u) (hns : h1.Ns s.heap.objs.size fun y => [(a, u)].reverse.lookup y) (kp : ∀ b o, s.heap.get? b = some o → h1.get? b = some o) :
    Inv (keyCx X A X.stack s H scope f c' a) [] (some v :: σ) H { s with heap := h1, toks := tk } := by
  have hfree := L.has I.ok
  have cm : ∀ {y c}, (cloFrom X.env.cells scope.names []).lookup y = some c → X.env.cells.lookup y = some c := fun {y c} e => by
    rcases cloFrom_mem (PySem.mem_of_lookup e) with hm | ⟨h1, h2⟩
    · cases hm
    · obtain ⟨c1, hc⟩ := hfree _ h1 rfl
      have hc : X.env.cells.lookup y = some c1 := hc
      have e2 : c = c1 := by rw [h2, hc] <;> rfl
      rw [e2]; exact hc
  have look : ∀ {y}, scope.names.lookup y = some .free → ∃ c, (cloFrom X.env.cells scope.names []).lookup y = some c := fun {y} hl =>
    mem_lookup (cloFrom_has (cells := X.env.cells) (acc := []) (PySem.mem_of_lookup hl))
  have cellK : ∀ {c : Addr} {v : Option Value}, s.heap.IsCell c v → h1.IsCell c v := fun {c v} ⟨o, ho, hd⟩ => ⟨_, kp _ _ ho, hd⟩
  have noA : ∀ b : Addr, b ∉ (keyCx X A X.stack s H scope f c' a).ex := fun b z => absurd (show b ∈ ([] : List Addr) from z) (by simp)
  refine ⟨⟨e0.mod, L.kind, rfl, rfl, Nat.le_refl _, fun y z c e1 e2 => I.ok.inj y z c (cm e1) (cm e2), fun y hy => ?_, fun y c z _ => ?_, fun _ => hd, Around.frames_deeper e0.frames, .inr ⟨rfl, rfl⟩, fun b z => absurd z (noA b), e0.bs, e0.bsz, fun b _ _ => noA b,
      fun b z => absurd z (noA b), e0.funs, e0.frf⟩,
    rfl, e0.bare, Un.kept kp, ⟨_, hns, fun i y w e1 e2 e3 => ?_⟩, fun y c e => ?_, e0.hok.fresh (Nat.le_refl _), fun y c e => I.freeC y c (cm e), fun q hq => absurd (show q ∈ ([] : List (Addr × Obj)) ++ [] from hq) (by simp), e0.hok.kept kp, ?_⟩
  · have hy : scope.names.lookup y = some .cell ∨ scope.names.lookup y = some .free := hy
    rcases hy with hy | hy
    · exact absurd rfl (L.own _ (PySem.mem_of_lookup hy))
    · exact look hy
  · have z : false = true := z
    cases z
  · have e1 : (a :: X.N)[i]? = some y := e1
    have e3 : Vis scope y := e3
    cases i with
    | zero =>
      have ey : a = y := by simpa using e1
      have ev : v = w := by simpa using e2
      subst ey ev
      refine ⟨u, r, .inl ⟨L.par, ?_⟩⟩
      show List.lookup a [(a, u)] = some u
      simp [List.lookup]
    | succ i =>
      have e1 : X.N[i]? = some y := by simpa using e1
      have e2 : σ[i]? = some (some w) := by simpa using e2
      have hya : y ≠ a := fun z => ha (z ▸ List.mem_of_getElem? e1)
      rcases e3 with k | k | k
      · exact absurd (L.one y k) hya
      · exact absurd rfl (L.own _ (PySem.mem_of_lookup k))
      · obtain ⟨m, hn, hl⟩ := I.loc
        have hvis : Vis X.env.scope y := (L.free _ (PySem.mem_of_lookup k) rfl).elim (fun k => .inr (.inl k)) (fun k => .inr (.inr k))
        obtain ⟨w', r, q⟩ := hl i y w e1 e2 hvis
        obtain ⟨c2, h2⟩ := look k
        refine ⟨w', r, .inr ⟨.inr k, c2, h2, ?_⟩⟩
        have c1 := cm h2
        rcases q with ⟨k', _⟩ | ⟨_, c3, e', z⟩
        · have k' : X.env.scope.names.lookup y = some .local := k'
          rcases L.free _ (PySem.mem_of_lookup k) rfl with k2 | k2 <;> rw [show X.env.scope.names.lookup y = _ from k2] at k' <;> cases k'
        · rw [c1] at e'
          cases e'
          exact cellK z
  · obtain ⟨w', z⟩ := I.cell y c (cm e)
    exact ⟨w', cellK z⟩
  · show (some v :: σ).length = (a :: X.N).length
    rw [List.length_cons, List.length_cons, I.len]
/-- the lambda at f is called with v, from within a built-in (A) of the maker's frame -/
theorem key_call {A : Around} {scope : Scope} {f c' : Addr} {pm ctv : Value} {params : Arguments} {body : Expr} {a : Str} {v : V} {u : Value} {k : Nat} {tb : TE} {Q : Value → Shared → Prop} {E : Value → Shared → Prop} {Qv : VK} (I : Inv X pins σ H s) (L : LamA X.env.scope scope a) (hr : Room (k + 1) A) (hf : A.frames = some X.stack) (ha : a ∉ X.N)
    (of : s.heap.get? f = some (PySem.W.kla_obj "<lambda>" (X.env.qual ++ "<lambda>") params body scope (cloFrom X.env.cells scope.names []) pm c' ctv)) (hc : H c' = some (CodeO c' (X.env.qual ++ "<lambda>")))
    (hbind : ∀ u, bindArgs (PySem.W.kla_fn "<lambda>" (X.env.qual ++ "<lambda>") params body scope (cloFrom X.env.cells scope.names []) pm (.ref c') ctv) ⟨[u], []⟩ = pure [(a, u)])
    (hbody : ∀ (A : Around) (outer : List Env) (s : Shared) (H : Hp), Room k (A.deeper (lamEnv X scope s.heap.objs.size f c')) → PE (keyCx X A outer s H scope f c' a) body tb)
    (r : RelV v u) (ht : tb (some v :: σ) H Qv) (hq : ∀ w H' u' s', s'.os = s.os → AllBare s'.gens → Un (frs X.stack) [] H H' s.heap s'.heap → HOk X.prog X.w H' s'.heap → RelV w u' → Qv w H' → Q u' s') :
    wpAny (model X.prog X.w) A (call (.ref f) [u]) Q E s := by
  obtain ⟨⟨oc, vs, t, hoc, hdc, hvc⟩, _, _⟩ := I.hok c' _ hc
  have e1 := I.env0
  have e0 : Env0 X.prog X.w X.K X.mg X.base A X.stack s H := ⟨hf, e1.mod, e1.bs, e1.bsz, e1.funs, e1.frf, e1.hok, e1.bare⟩
  refine wpAny_call (PySem.W.kla_callFunE hr.depth of rfl L.co L.gen rfl ⟨c', oc, vs, t, rfl, hoc, hdc, hvc⟩ ?_)
  rw [hbind]
  refine wpAny_pure (wpAny_newFunctionEnv (fun y hy => L.own y hy) (fun y hy => ?_) (fun h1 hns hsb => ⟨I.nolimit.fresh _ hsb, ?_⟩) L.kind)
  · have e : y = (a, u) := by simpa using hy
    rw [e]; exact L.par
  · have kp : ∀ b o, s.heap.get? b = some o → h1.get? b = some o := fun b o e => hsb.extBut b o (Nat.ne_of_lt (Heap.lt_size e)) (Heap.get?_push_of_some _ e)
    have J : Inv (keyCx X A X.stack s H scope f c' a) [] (some v :: σ) H { s with heap := h1, toks := s.toks + [(a, u)].length } := key_start I L e0 hr.hd ha r hns kp
    show codeAny _ _ (.expr body (lamEnv X scope s.heap.objs.size f c')) _ _
    refine PySem.W.kla_codeExpr (wpAny_mono ((hbody A X.stack s H (hr.deeper _)).run [] _ _ H Qv J ht) (fun v' s' hz => ?_) fun e s' hz => (show False from hz).elim)
    obtain ⟨w', H', J', rv, q⟩ := hz
    exact hq w' H' v' s' J'.os J'.bare J'.base J'.hok rv q
end
end BWX
namespace BWX
open PySem PySem.Spec PyProof.Rows L2 LamX
theorem refs_of : ∀ {xs : List Addr} {us : List Value}, Vals (xs.map V.ref) us → us = xs.map Value.ref
  | [], us, h => by cases h; rfl
  | x :: r, us, h => by
    cases h with
    | @cons _ u _ ur ra rr =>
      obtain rfl : u = Value.ref x := ra
      rw [refs_of rr]; rfl
/-- two keys and how they compare: two ints, or two pairs of ints -/
inductive KCmp (H : Hp) : V → V → Bool → Prop
  | ki (a b : Int) : KCmp H (.int a) (.int b) (decide (b < a))
  | kt {p q : Addr} (a1 a2 b1 b2 : Int) : H p = some (.tup [.int a1, .int a2]) → H q = some (.tup [.int b1, .int b2]) → KCmp H (.ref p) (.ref q) (if a1 = b1 then decide (b2 < a2) else decide (b1 < a1))
theorem kcmp_run {X : Cx} {pins : List (Addr × Obj)} {σ : L2.St} {H : Hp} {s : Shared} {A : Around} {x y : V} {u v : Value} {b : Bool} (I : Inv X pins σ H s) (hu : A.units < cLine) (h : KCmp H x y b) (rx : RelV x u) (ry : RelV y v) (Q E : Value → Shared → Prop) (q : Q (.bool b) s) :
    wpAny (model X.prog X.w) A (richCompare .Gt u v) Q E s := by
  cases h with
  | ki a b =>
    obtain ⟨t1, rfl⟩ := rx
    obtain ⟨t2, rfl⟩ := ry
    exact PyProof.Rows.gt_int q
  | @kt p p' a1 a2 b1 b2 h1 h2 =>
    obtain rfl : u = Value.ref p := rx
    obtain rfl : v = Value.ref p' := ry
    obtain ⟨i1, r1, t1, _⟩ := I.tuple (SqT.of h1)
    obtain ⟨i2, r2, t2, _⟩ := I.tuple (SqT.of h2)
    cases r1 with | cons z1 r1 => cases r1 with | cons z2 r1 => cases r1; cases r2 with | cons y1 r2 => cases r2 with | cons y2 r2 =>
      cases r2
      obtain ⟨_, rfl⟩ := z1
      obtain ⟨_, rfl⟩ := z2
      obtain ⟨_, rfl⟩ := y1
      obtain ⟨_, rfl⟩ := y2
      have key := SeqAt.RcOp.tuples_gt (A := A) (s := s) (e := fun j => if j = 0 then a1 == b1 else a2 == b2) (r := fun j => if j = 0 then decide (b1 < a1) else decide (b2 < a2)) t1 t2 hu (fun j g1 g2 => ?_) (fun j g1 g2 _ => ?_)
      · refine key _ _ _ _ ?_
        have : SeqAt.firstLt (fun j => if j = 0 then a1 == b1 else a2 == b2) (fun j => if j = 0 then decide (b1 < a1) else decide (b2 < a2)) (decide (2 > 2)) (List.range (min 2 2)) = if a1 = b1 then decide (b2 < a2) else decide (b1 < a1) := by
          show (if (a1 == b1) = true then (if (a2 == b2) = true then decide (2 > 2) else decide (b2 < a2)) else decide (b1 < a1)) = _
          by_cases c : a1 = b1
          · rw [if_pos (by simpa using c), if_pos c]
            by_cases d : a2 = b2
            · rw [if_pos (by simpa using d)]; simp [d]
            · rw [if_neg (by simpa using d)]
          · rw [if_neg (by simpa using c), if_neg c]
        rw [← this] at q
        exact q
      · have g1 : j < 2 := g1
        match j, g1 with
        | 0, _ => exact SeqAt.EqAt.int_int _ _ _ _
        | 1, _ => exact SeqAt.EqAt.int_int _ _ _ _
      · have g1 : j < 2 := g1
        match j, g1 with
        | 0, _ => exact fun _ _ _ _ h => PyProof.Rows.gt_int h
        | 1, _ => exact fun _ _ _ _ h => PyProof.Rows.gt_int h
end BWX
namespace BWX
open PySem PySem.Spec PyProof.Rows L2 LamX
/-- max(xs, key=lambda a: e), xs a list of objects, not empty; Phi: what stays while the key is reckoned; KR i k: k is the i-th one's key -/
def tMaxLam (K : PySem.W.Frag) (T : List (Addr × Str)) (q : Str) (ta : TA) (tb : TE) : TE := fun σ H Q => ta σ H fun vs H1 => ∃ (l : Addr) (xs : List Addr), vs = [.ref l] ∧ SqL K H1 l (xs.map V.ref) ∧ 0 < xs.length ∧ Tabs T H1 ∧
  ∀ H2, ExtN H1 H2 → Tabs T H2 → ∃ (Phi : Hp → Prop) (KR : Nat → V → Hp → Prop) (bt : Nat → Nat → Bool), Phi H2 ∧ (∀ H, Phi H → SqL K H l (xs.map V.ref)) ∧ (∀ c, H2 c = some (CodeO c q) → ∀ H, Phi H → H c = some (CodeO c q)) ∧
    (∀ (i : Nat) x H, xs[i]? = some x → Phi H → tb (some (.ref x) :: σ) H fun k H' => Phi H' ∧ KR i k H' ∧ ∀ j k', KR j k' H → KR j k' H') ∧
    (∀ i j ki kj H, Phi H → KR i ki H → KR j kj H → KCmp H ki kj (bt i j)) ∧ ∀ x H, xs[argBest bt (xs.length - 1)]? = some x → Phi H → Q (.ref x) H
section
variable {X : Cx}
theorem pe_maxlam {T : List (Addr × Str)} {c P : Addr} {k : Nat} {e : Expr} {ta : TA} {params : Arguments} {body : Expr} {scope : Scope} {a : Str} {tb : TE} {p lpos kpos pos : Pos} (hcm : X.calm = true) (hg : Gl X "max") (hm : X.mg "max" = none) (ha : PA X [e] ta)
    (TB : TabB X.base X.mg c P) (hcode : X.env.code = .ref c) (hmT : (P, X.env.qual ++ "<lambda>") ∈ T) (hu : ∀ p ∈ T, p.1 = P → p.2 = X.env.qual ++ "<lambda>") (hr : Room (k + 2) X.A) (L : LamA X.env.scope scope a) (hN : a ∉ X.N) (hdef : defaultsOf params X.env = ([], []))
    (hbind : ∀ (q : Str) (cl : List (Str × Addr)) (pm cv ctv u : Value), bindArgs (PySem.W.kla_fn "<lambda>" q params body scope cl pm cv ctv) ⟨[u], []⟩ = pure [(a, u)])
    (hbody : ∀ (A : Around) (outer : List Env) (s : Shared) (H : Hp) (f c' : Addr), Room k (A.deeper (lamEnv X scope s.heap.objs.size f c')) → PE (keyCx X A outer s H scope f c' a) body tb)
    (he : backTo pos (starEach [e] X.env) = (false, eval e X.env) :: backTo pos (starEach [] X.env) := by rfl) (hpl : (backTo pos (starEach [e] X.env)).any (·.1) = false := by rfl) :
    PE X (.Call (.Name "max" p) [e] [⟨some "key", .Lambda params body scope lpos, kpos⟩] pos) (tMaxLam X.K T (X.env.qual ++ "<lambda>") ta tb) := by
  refine ⟨fun pins s σ H Q I h => ?_⟩
  refine wpAny_Call_Name_kw (ld_blt I hg hm boot_max ?_ (by decide) (by decide))
  refine PyProof.Rows.callWith_kw (thn (ha.run pos pins s σ H _ I h) fun us s1 ⟨vs, H1, I1, r1, q1⟩ => ?_) he hpl (by rfl) (by rfl)
  obtain ⟨l, xs, rfl, hl, hne, hT, q1⟩ := q1
  show wpAny _ _ (evalAll ((do let v ← eval (.Lambda params body scope lpos) X.env; standAt pos; pure v) :: [])) _ _ s1
  refine wpAny_evalAll_cons (wpAny_bind (lam_make2 I1 TB hcode hmT hu hT hdef (L.has I1.ok) fun f c' pm ctv H2 s2 I2 eN T2 hf hfn hfr hco => wpAny_bind (wpAny_standAt (wpAny_pure (wpAny_evalAll_nil ?_)))))
  show wpAny _ _ (call (.builtin "max") us [(Str.ofString "key", .ref f)]) _ _ s2
  rw [Vals.ref1 r1]
  obtain ⟨Phi, KR, bt, p0, pl, pc, pt, pq, pd⟩ := q1 H2 eN T2
  obtain ⟨its, rv, pls, _⟩ := I2.list (pl H2 p0)
  have ei := refs_of rv
  subst ei
  have hls : s2.heap.IsList l (xs.map Value.ref).toArray := pls.isList
  obtain ⟨ol, hol, _⟩ := id hls
  have ll : l < s2.heap.objs.size := Heap.lt_size hol
  refine call_maxK (wpAny_pyIter_list hls ?_)
  -- the iterator at it, max's own list at S
  have hsz : (s2.heap.push { cls := .type "list_iterator", data := .fields #[.ref l, .int 0 0] }).objs.size = s2.heap.objs.size + 1 := size_push' ..
  have hn : 0 < (xs.map Value.ref).toArray.size := by simpa using hne
  have hnx : (xs.map Value.ref).toArray.size = xs.length := by simp
  have hh : X.A.in1.handled = none := I2.ok.hd hcm
  have W := (Walks.list (prog := X.prog) (w := X.w) (A := X.A.in1) hh s2.heap.objs.size l (Nat.ne_of_lt ll) (xs.map Value.ref).toArray).toS
  have lf : f < s2.heap.objs.size := Heap.lt_size hf
  -- what holds between two turns
  let Base : Hp → Shared → Prop := fun H' s' => Inv X pins σ H' s' ∧ (∀ b ∈ [s2.heap.objs.size + 1, s2.heap.objs.size], FpOk X pins H' b) ∧ H' f = none ∧
    s'.heap.get? f = some (PySem.W.kla_obj "<lambda>" (X.env.qual ++ "<lambda>") params body scope (cloFrom X.env.cells scope.names []) pm c' ctv) ∧ Phi H'
  refine ⟨_, _, _, _, _, _, _, fun i k s' => ∃ H' kv, Base H' s' ∧ RelV kv k ∧ KR i kv H', fun s' => ∃ H', Base H' s', bt, rfl, W, ⟨⟨_, Heap.get?_push_size _ rfl, rfl, rfl⟩, hls.push _⟩, fun b hb => ?_, hn, ?_, ?_, fun v s' hv hj => ?_⟩
  · show b < (s2.heap.push _).objs.size
    rw [hsz]
    rcases List.mem_cons.mp hb with z | z
    · rw [z]; exact Nat.lt_succ_self _
    · rw [List.mem_singleton.mp z]; exact Nat.lt_succ_of_lt ll
  · show KRun X.prog X.w X.A.in1 (.ref f) (s2.heap.push { cls := .type "list_iterator", data := .fields #[.ref l, .int 0 0] }).objs.size _ _ _ _ _ _ _ _
    rw [hsz]
    have keepB : ∀ H' s' s'', Base H' s' → Moved [s2.heap.objs.size + 1, s2.heap.objs.size] (fun a b => b = a) s' s'' → Base H' s'' := by
      rintro H' s' s'' ⟨J, fp, n, o, ph⟩ m
      refine ⟨?_, fp, n, m.heap f _ (fun z => ?_) o, ph⟩
      · have J' := J.turnedL (t' := s''.toks) (ch := [s2.heap.objs.size + 1, s2.heap.objs.size]) (fun b o hb e => m.heap b o hb e) fp
        rw [Moved.eq_with m]
        exact J'
      · rcases List.mem_cons.mp z with z | z
        · exact absurd lf (by rw [z]; exact Nat.not_lt.mpr (Nat.le_succ _))
        · exact absurd lf (by rw [List.mem_singleton.mp z]; exact Nat.lt_irrefl _)
    -- the key's call
    have run : ∀ (H' : Hp) (s' : Shared) (j : Nat) (v : Value) (o : Obj) (Q' E' : Value → Shared → Prop), Base H' s' → (xs.map Value.ref).toArray[j]? = some v → s'.heap.IsListIter s2.heap.objs.size l (j + 1) → s'.heap.get? (s2.heap.objs.size + 1) = some o →
        (∀ k s'' H'' kv, Base H'' s'' → RelV kv k → KR j kv H'' → (∀ i k', KR i k' H' → KR i k' H'') → (s''.heap.IsListIter s2.heap.objs.size l (j + 1) ∧ s''.heap.IsList l (xs.map Value.ref).toArray) → s''.heap.get? (s2.heap.objs.size + 1) = some o → Q' k s'') →
        wpAny (model X.prog X.w) X.A.in1 (call (.ref f) [v]) Q' E' s' := by
      rintro H' s' j v o Q' E' ⟨J, fp, n, of, ph⟩ hv hit hS hk
      obtain ⟨x, hx, rfl⟩ : ∃ x, xs[j]? = some x ∧ v = Value.ref x := by
        have hv' : (xs.map Value.ref)[j]? = some v := by simpa using hv
        rw [List.getElem?_map] at hv'
        cases q : xs[j]? with
        | none => rw [q] at hv'; cases hv'
        | some x => rw [q] at hv'; exact ⟨x, rfl, (Option.some.inj hv').symm⟩
      refine key_call (v := .ref x) (Qv := fun k H'' => Phi H'' ∧ KR j k H'' ∧ ∀ i k', KR i k' H' → KR i k' H'') J L hr.in1 J.ok.frames hN of (pc c' hco H' ph) (hbind _ _ _ _ _) (fun A outer s H h => hbody A outer s H f c' h) rfl (pt j x H' hx ph) fun kv H'' k s'' os ag un hok rk ⟨ph', kr, ko⟩ => ?_
      have I3 : Inv X pins σ H'' s'' := J.call' (ch := []) os un hok ag fun b hb => absurd hb (by simp)
      have notf : ∀ b, FpOk X pins H' b → b ∉ frs X.stack := fun b hb z => by
        rcases List.mem_cons.mp (J.stkSub b z) with q | q
        · exact hb.2.1 q
        · exact hb.2.2.1 q
      have kept : ∀ b o, FpOk X pins H' b → s'.heap.get? b = some o → s''.heap.get? b = some o := fun b o hb e => un.keep b o e hb.1 (notf b hb) (by simp)
      have fS := fp (s2.heap.objs.size + 1) (by simp)
      have fI := fp s2.heap.objs.size (by simp)
      obtain ⟨oI, hoI, hoc, hod⟩ := hit
      have fp2 : ∀ b ∈ [s2.heap.objs.size + 1, s2.heap.objs.size], FpOk X pins H'' b := fun b hb => by
        have q := fp b hb
        refine ⟨?_, q.2⟩
        rcases List.mem_cons.mp hb with z | z
        · rw [z]; exact un.free _ _ hS fS.1 (by simp)
        · rw [List.mem_singleton.mp z]; exact un.free _ _ hoI fI.1 (by simp)
      obtain ⟨its2, rv2, pls2, _⟩ := I3.list (pl H'' ph')
      have ei2 := refs_of rv2
      subst ei2
      refine hk k s'' H'' kv ⟨I3, fp2, un.free f _ of n (by simp), un.keep f _ of n hfr (by simp), ph'⟩ rk kr ko ⟨⟨oI, kept _ _ fI hoI, hoc, hod⟩, pls2.isList⟩ (kept _ _ fS hS)
    refine ⟨fun s' s'' ⟨H', b⟩ m => ⟨H', keepB H' s' s'' b m⟩, fun i k s' s'' ⟨H', kv, b, rk, kr⟩ m => ⟨H', kv, keepB H' s' s'' b m, rk, kr⟩, fun i k s' ⟨H', kv, b, _⟩ => ⟨H', b⟩, ?_, ?_⟩
    · rintro v s' o Q' E' _ hv ⟨H', b⟩ st hS hk
      exact run H' s' 0 v o Q' E' b hv st.1 hS fun k s'' H'' kv b' rk kr _ st' hS' => hk k s'' ⟨H'', kv, b', rk, kr⟩ st' hS'
    · rintro j i kb v s' o Q' E' _ hv ⟨H', kvb, b, rkb, krb⟩ st hS hk
      refine run H' s' j v o Q' E' b hv st.1 hS fun k s'' H'' kv b' rk kr ko st' hS' => ?_
      refine hk k s'' ⟨H'', kvb, b', rkb, ko _ _ krb⟩ ⟨H'', kv, b', rk, kr⟩ st' hS' fun Q2 E2 q2 => ?_
      exact kcmp_run b'.1 (Room.units0 hr.in1) (pq j i kv kvb H'' b'.2.2.2.2 kr (ko _ _ krb)) rk rkb Q2 E2 q2
  · have J : Inv X pins σ H2 { s2 with heap := s2.heap.push { cls := .type "list_iterator", data := .fields #[.ref l, .int 0 0] }, toks := s2.toks } := I2.kept fun b o e => Heap.get?_push_of_some _ e
    refine ⟨H2, J, fun b hb => ?_, hfn, Heap.get?_push_of_some _ hf, p0⟩
    have hb2 : s2.heap.objs.size ≤ b := by
      rcases List.mem_cons.mp hb with z | z
      · rw [z]; exact Nat.le_succ _
      · rw [List.mem_singleton.mp z]; exact Nat.le_refl _
    exact I2.fpOk hb2 (I2.hok.fresh hb2)
  · obtain ⟨H', J, _, _, _, ph⟩ := hj
    rw [hnx] at hv
    have hv' : (xs.map Value.ref)[argBest bt (xs.length - 1)]? = some v := by simpa using hv
    rw [List.getElem?_map] at hv'
    cases q : xs[argBest bt (xs.length - 1)]? with
    | none => rw [q] at hv'; cases hv'
    | some x =>
      rw [q] at hv'
      have e : v = Value.ref x := (Option.some.inj hv').symm
      subst e
      exact ⟨.ref x, H', J, rfl, pd x H' q ph⟩
end
end BWX
namespace BWX
open PySem PySem.Spec PyProof.Rows L2 LamX
open PySem.W (WData Codec OpenSpec Well WellAll ReadsW ReadsAllW)
/-! A Spec row whose defs make lambdas: the tables of their code objects are tracked from the beginning. -/
theorem sqL_more {K : PySem.W.Frag} {H H' : Hp} {a : Addr} {xs : List V} (e : ∀ b o, H b = some o → H' b = some o) (h : SqL K H a xs) : SqL K H' a xs := Same.seq e h
theorem sqT_more {K : PySem.W.Frag} {H H' : Hp} {a : Addr} {xs : List V} (e : ∀ b o, H b = some o → H' b = some o) (h : SqT K H a xs) : SqT K H' a xs := by
  rcases h with (h | ⟨o, h⟩) | h
  · exact .inl (.inl (e _ _ h))
  · exact .inl (.inr ⟨o, e _ _ h⟩)
  · exact .inr h
mutual
theorem dw_more {K : PySem.W.Frag} {H H' : Hp} (e : ∀ b o, H b = some o → H' b = some o) : ∀ {v : V} {d : WData}, Dw K H v d → Dw K H' v d
  | _, _, .non => .non
  | _, _, .bl b => .bl b
  | _, _, .int i => .int i
  | _, _, .str x => .str x
  | _, _, .byt b => .byt b
  | _, _, .lst h1 h2 => .lst (sqL_more e h1) (dwAll_more e h2)
  | _, _, .tup h1 h2 => .tup (sqT_more e h1) (dwAll_more e h2)
theorem dwAll_more {K : PySem.W.Frag} {H H' : Hp} (e : ∀ b o, H b = some o → H' b = some o) : ∀ {vs : List V} {ds : List WData}, DwAll K H vs ds → DwAll K H' vs ds
  | _, _, .nil => .nil
  | _, _, .cons h1 h2 => .cons (dw_more e h1) (dwAll_more e h2)
end
theorem spec_callT {P : Program} {w : World} {K : PySem.W.Frag} {mg mb : Str → Option Value} {CX : CXT} {k : Nat} {fa : Addr} {fd : FuncData} {ps : List Str} {sp : Sp} {s1 : Shared} {vals : List Value} {ds : List WData} {R : PySem.W.WRecords} {cl : Str → Option Addr} {d0 : WData} {cs : List (Addr × Addr)}
    (KX : K.In s1.heap) (hns : s1.heap.Ns mainGlobals mg) (hb : s1.heap.Ns builtinsNs mb) (hbb : ∀ x : Str, x ≠ "__name__" → mb x = bootBuiltins x) (hlim : s1.heap.NoLimit) (hg : s1.gens = #[])
    (hT : ∀ p ∈ cs, s1.heap.get? p.2 = some (PySem.W.tabObj #[])) (nT : ∀ p ∈ cs, K.lookup p.2 = none) (C : ∀ p ∈ cs, PySem.W.CodeHd s1.heap p.1 p.2)
    (hbm : ∃ (bm : Addr) (ob : Obj), mg "__builtins__" = some (.ref bm) ∧ bm ≠ builtinsNs ∧ s1.heap.get? bm = some ob ∧ ob.cls = .type "module" ∧ ob.dict = some builtinsNs ∧ ob.data = .plain)
    (hwl : WellAll w.params s1.heap vals ds) (hpl : plWs ds = true) (hwt : ∀ d ∈ ds, d.weight ≤ 1048576) (hr : Room k callerA)
    (F : ∀ base : Heap, K.In base → base.Ns mainGlobals mg → (∀ p ∈ cs, TabB base mg p.1 p.2) → FnOk P w K mg base CX k fa fd ps sp) (hbind : ∀ (s : Shared) (us : List Value), us.length = ps.length → BindsTo s fd ⟨us, []⟩ (ps.zip us)) (hlen : ds.length = ps.length)
    (hsp : ∀ (H : Hp) (xs : List V), (∀ p ∈ cs, H p.2 = some (.tbl #[])) → DwAll K H xs ds → sp xs H (fun v H' => Dw K H' v d0) fun _ _ _ => False)
    (hCX : ∀ H e s', CX [] H s1 (fun _ _ _ => False) e s' → False) :
    codeAny (model P w) callerA (.call (.ref fa) ⟨vals, []⟩) (fun r s' => ∃ u as, r = .ok (.ret u) ∧ ReadsW R cl s'.heap u d0 as ∧ OldK s1.heap s'.heap ∧ s'.os = s1.os ∧ AllBare s'.gens) s1 := by
  obtain ⟨A, ho, ar⟩ := area_all ds vals hwl hpl hwt
  let Ts : List Addr := cs.map (·.2)
  have tabAt : ∀ b ∈ Ts, s1.heap.get? b = some (PySem.W.tabObj #[]) ∧ K.lookup b = none := fun b hb => by
    obtain ⟨p, hp, e⟩ := List.mem_map.mp hb
    rw [← e]; exact ⟨hT p hp, nT p hp⟩
  -- what is tracked: the arguments, locked, and the tables
  let H : Hp := fun b => if b ∈ Ts then some (.tbl #[]) else argH K s1.heap A b
  have inT : ∀ b ∈ Ts, H b = some (.tbl #[]) := fun b hb => if_pos hb
  have outT : ∀ b, b ∉ Ts → H b = argH K s1.heap A b := fun b hb => if_neg hb
  have argT' : ∀ b u, argH K s1.heap A b = some u → b ∉ Ts := fun b u q hb => by
    obtain ⟨_, vs, _, _, ⟨e, _⟩ | ⟨e, _⟩⟩ := argH_is ar q <;> rw [(tabAt b hb).1] at e <;> cases e
  have more : ∀ b o, argH K s1.heap A b = some o → H b = some o := fun b o q => (outT b (argT' b o q)).trans q
  have kind : ∀ b u, H b = some u → (b ∈ Ts ∧ u = .tbl #[]) ∨ (b ∉ Ts ∧ argH K s1.heap A b = some u) := fun b u q => by
    by_cases hb : b ∈ Ts
    · exact .inl ⟨hb, (Option.some.inj ((inT b hb).symm.trans q)).symm⟩
    · exact .inr ⟨hb, (outT b hb).symm.trans q⟩
  have hok : HOk P w H s1.heap := fun b u q => by
    rcases kind b u q with ⟨hb, rfl⟩ | ⟨hb, q'⟩
    · exact (tabAt b hb).1
    · refine (argH_ok (P := P) (w := w) ar b u q').stay (fun c v _ z => z) (fun c z => more c _ z) fun c xs z => more c _ z
  have hS : DwAll K H (vals.map toV) ds := dwAll_more more (dw_all KX ar ds vals hwl hpl ho)
  have hK : ∀ b u, H b = some u → K.lookup b = none := fun b u q => by
    rcases kind b u q with ⟨hb, _⟩ | ⟨_, q'⟩
    · exact (tabAt b hb).2
    · exact (argH_is ar q').1
  -- objects of another make are not tracked
  have other : ∀ {b : Addr} {o : Obj}, s1.heap.get? b = some o → (∀ vs n, o.data ≠ .seq vs n) → o.data ≠ .fields #[] → H b = none := fun {b o} e h1 h2 => by
    cases q : H b with
    | none => rfl
    | some u =>
      exfalso
      rcases kind b u q with ⟨hb, _⟩ | ⟨_, q'⟩
      · rw [(tabAt b hb).1] at e; cases e; exact h2 rfl
      · obtain ⟨_, vs, _, _, ⟨e2, _⟩ | ⟨e2, _⟩⟩ := argH_is ar q' <;> rw [e2] at e <;> cases e <;> exact h1 _ _ rfl
  have dicts : ∀ {b : Addr} {o : Obj} {es : Array DictEntry} {ep : Nat}, s1.heap.get? b = some o → o.data = .dict es ep → H b = none := fun e d => other e (fun vs n z => by rw [d] at z; cases z) fun z => by rw [d] at z; cases z
  clear_value H
  have low : ∀ {b : Addr} {o : Obj}, s1.heap.get? b = some o → H b = none → (hidT s1.heap H).get? b = some o := fun e n => hidT_get e n
  have nsK : ∀ {b : Addr} {m : Str → Option Value}, s1.heap.Ns b m → (hidT s1.heap H).Ns b m := fun {b m} ⟨o, es, ep, e, d, r⟩ => ⟨o, es, ep, low e (dicts e d), d, r⟩
  have hKb : K.In (hidT s1.heap H) := fun b o e => low (KX b o e) (by
    cases q : H b with
    | none => rfl
    | some u => rw [hK b u q] at e; cases e)
  have hM : L2.Mod K mg (hidT s1.heap H) := ⟨hKb, nsK hns, ⟨mb, nsK hb, hbb⟩, let ⟨mc, h1, h2⟩ := hlim; ⟨mc, nsK h1, h2⟩⟩
  have TB : ∀ p ∈ cs, TabB (hidT s1.heap H) mg p.1 p.2 := fun p hp => by
    have hTp := hT p hp
    refine ⟨?_, ?_, fun z => ?_⟩
    · obtain ⟨o, us, file, tf, flags, tg, inF, text, tt, e1, r1, r2, r3, r4⟩ := C p hp
      exact ⟨o, us, file, tf, flags, tg, inF, text, tt, low e1 (other e1 (fun vs n z => by rw [r2] at z; cases z) fun z => by rw [r2] at z; cases z; simp at r3), r1, r2, r3, r4⟩
    · obtain ⟨bm, ob, b1, b2, b3, b4, b5, b6⟩ := hbm
      refine ⟨bm, ob, b1, b2, fun q => ?_, fun q => ?_, low b3 (other b3 (fun vs n z => by rw [b6] at z; cases z) fun z => by rw [b6] at z; cases z), b4, b5, b6⟩
      · obtain ⟨o, es, ep, e, hd, _⟩ := hns
        rw [q, e] at b3; cases b3; rw [hd] at b6; cases b6
      · rw [q, hTp] at b3; cases b3; cases b6
    · obtain ⟨o, es, ep, e, hd, _⟩ := hns
      rw [z, hTp] at e; cases e; cases hd
  have e0 : Env0 P w K mg (hidT s1.heap H) callerA [] s1 H := ⟨rfl, hM, fun b o e => of_hidT e, Nat.le_of_eq (hidT_size _ _), trivial, fun b hb => absurd (show b ∈ ([] : List Addr) from hb) (by simp), hok, .of_eq hg⟩
  have hl : vals.length = ps.length := (wellAll_len hwl).trans hlen
  refine codeAny_mono ((F _ hKb (nsK hns) TB).run callerA [] s1 H ⟨vals, []⟩ vals (vals.map toV) _ _ hr e0 (hbind s1 vals hl) (vals_toV ho) (hsp H _ (fun p hp => inT _ (List.mem_map.mpr ⟨p, hp, rfl⟩)) hS)) fun r s' x => ?_
  cases r with
  | error e => exact (hCX H e s' x).elim
  | ok fl =>
    cases fl with
    | next => exact False.elim x
    | brk => exact False.elim x
    | cont => exact False.elim x
    | ret u =>
      obtain ⟨v, H', os, bare, un, hok', r', q⟩ := x
      have kept : ∀ b o, b ∉ Ts → s1.heap.get? b = some o → s'.heap.get? b = some o := fun b o nb e => by
        cases q2 : H b with
        | none => exact un.keep b o e q2 (by intro z; exact absurd (show b ∈ ([] : List Addr) from z) (by simp)) (by simp)
        | some u2 =>
          rcases kind b u2 q2 with ⟨hb, _⟩ | ⟨_, q3⟩
          · exact absurd hb nb
          · rcases argH_only ar b with z | ⟨ob, u3, z⟩
            · rw [q3] at z; cases z
            · have z2 := un.frzs b ob _ (more _ _ z)
              obtain ⟨e1, _⟩ := hok b _ (more _ _ z)
              obtain ⟨e2, _⟩ := hok' b _ z2
              rw [e] at e1; cases e1; exact e2
      have grown : ∀ p ∈ cs, ∃ vs : Array Value, s'.heap.get? p.2 = some { cls := .none, data := .fields vs } := fun p hp => by
        obtain ⟨m, z⟩ := un.tbls p.2 #[] (inT _ (List.mem_map.mpr ⟨p, hp, rfl⟩))
        exact ⟨_, hok' p.2 _ z⟩
      have KX' : K.In s'.heap := fun b o e => kept b o (fun hb => by rw [(tabAt b hb).2] at e; cases e) (KX b o e)
      obtain ⟨as, hrd⟩ := Dw.reads (R := R) (cl := cl) hok' KX' d0 v u q r'
      refine ⟨u, as, rfl, hrd, ⟨fun b o e => ?_, fun b o e => ?_⟩, os, bare⟩
      · by_cases hb : b ∈ Ts
        · obtain ⟨p, hp, ep⟩ := List.mem_map.mp hb
          obtain ⟨vs, hm⟩ := grown p hp
          rw [← ep] at e ⊢
          rw [hT p hp] at e; cases e
          exact .inr (.inl ⟨((C p hp).tab (hT p hp)).isCodeTable, rfl, #[], vs, rfl, by rw [Array.empty_append]; exact hm⟩)
        · exact .inl (kept b o hb e)
      · by_cases hb : b ∈ Ts
        · obtain ⟨p, hp, ep⟩ := List.mem_map.mp hb
          obtain ⟨vs, hm⟩ := grown p hp
          rw [← ep]; exact ⟨_, hm⟩
        · exact ⟨o, kept b o hb e⟩
/-- the goal that k_headS leaves, from the promise of the row's def, with tables; Top's own facts are handed on -/
theorem walk_specT {r : OpenSpec} {k : Nat} {q : Program} {loose : List Str} {XP : (Str → Option Value) → Heap → Prop} {YP : World → Heap → Prop} {d : DefRec} {K : Params → PySem.W.Frag} {CX : CXT} {ps : List Str}
    (hwell : r.wellSaid = true) (hdf : d.params.defaults = []) (hlen : r.args.length = ps.length) (hr : Room k callerA) (hY : ∀ (w : World) (h : Heap), YP w h → (K w.params).In h)
    (F : ∀ (w : World) (mg mb : Str → Option Value) (fa : Addr) (h : Heap) (mean : ExcName → Option Value), YP w h → (K w.params).In h → Top q (PySem.W.looseW q loose) mean mg mb h → mg d.name = some (.ref fa) →
      ∃ (fd : FuncData) (cs : List (Addr × Addr)) (sp : Sp), (∀ p ∈ cs, h.get? p.2 = some (PySem.W.tabObj #[]) ∧ (K w.params).lookup p.2 = none ∧ PySem.W.CodeHd h p.1 p.2) ∧ (∀ (s : Shared) (us : List Value), us.length = ps.length → BindsTo s fd ⟨us, []⟩ (ps.zip us)) ∧
        (∀ base : Heap, (K w.params).In base → base.Ns mainGlobals mg → (∀ p ∈ cs, TabB base mg p.1 p.2) → FnOk r.prog w (K w.params) mg base CX k fa fd ps sp) ∧
        ∀ (H : Hp) (xs : List V) (a : Codec.denoteAll r.args), (∀ p ∈ cs, H p.2 = some (.tbl #[])) → Codec.withinAll r.args a = true → Codec.app r.args r.asked a = true → DwAll (K w.params) H xs (Codec.encAll r.args a) →
          sp xs H (fun v H' => Dw (K w.params) H' v (r.ret.enc (Codec.app r.args r.f a))) fun _ _ _ => False)
    (hCX : ∀ (H : Hp) (s : Shared) (e : Value) (s' : Shared), CX [] H s (fun _ _ _ => False) e s' → False) :
    PySem.W.WalkOS q loose XP YP r d [] (fun f vs => PySem.call f vs) := by
  intro w s0 s1 mg mb G Y fa o pm cd doc dV kV ho hd hcd hD hmg hg args vals as hpre hlay hrd hwl hlo
  obtain ⟨a, e1, e2⟩ := PySem.W.os_pre_some hpre
  obtain ⟨e3, hwi⟩ := Codec.encAll_of_decAll r.args args a e1
  subst e3
  have KX := hY w _ Y
  obtain ⟨fd, cs, sp, hcs, hb, hF, hsp⟩ := F w mg mb fa _ _ Y KX G.T hmg
  refine PySem.W.enter_call (codeAny_mono (spec_callT (R := []) (cl := classAt s0.heap) (d0 := r.ret.enc (Codec.app r.args r.f a)) (cs := cs) KX G.T.g G.T.b G.T.builtins G.T.nolimit hg (fun p hp => (hcs p hp).1) (fun p hp => (hcs p hp).2.1) (fun p hp => (hcs p hp).2.2) G.T.bmain hwl (pl_encAll _ _) (layable_weight hlay) hr hF hb (by rw [encAll_len]; exact hlen)
    (fun H xs hO hS => hsp H xs a hO hwi e2 hS) fun H e s' => hCX H s1 e s') fun r' s' hq => ?_)
  obtain ⟨u, as', rfl, h1, h2, h3, h4⟩ := hq
  exact ⟨.inl ⟨u, _, as', rfl, fun _ => rfl, h1, (OpenSpec.post_iff hwell hwi _ _).mpr rfl, fun z => Bool.noConfusion (show false = true from z)⟩, h2, h3, h4⟩
end BWX
namespace BWP
open PySem PySem.Spec PyProof.Rows L2
open BW (Sm Ln LnOk slopeI meet sl ofRat)
/-! ### Contender -/
abbrev s_ContI : Stmt := inClass (topS 50) 0
def cnF (i : Int) (x : Ln) : List (Str × V) := [("number", .int i), ("first", .int x.1), ("second", .int x.2)]
def spContI (C : Addr) : Sp := fun vs H Q _ => ∃ (x dx : Addr) (i : Int) (l : Ln), vs = [.ref x, .int i, .int l.1, .int l.2] ∧ H x = some (.ins C dx []) ∧ Q .non (upd H x (.ins C dx (cnF i l)))
def CnAt (C : Addr) (H : Hp) (a : Addr) (i : Int) (x : Ln) : Prop := ∃ dx, H a = some (.ins C dx (cnF i x))
theorem CnAt.same {C : Addr} {H H' : Hp} {a : Addr} {i : Int} {x : Ln} (s : Same H H') (h : CnAt C H a i x) : CnAt C H' a i x := let ⟨dx, e⟩ := h; ⟨dx, s _ _ e⟩
theorem cn_num {i : Int} {x : Ln} : (cnF i x).lookup ("number" : Str) = some (.int i) := lk0
theorem cn_fst {i : Int} {x : Ln} : (cnF i x).lookup ("first" : Str) = some (.int x.1) := (lk1 (by decide +kernel)).trans lk0
theorem cn_snd {i : Int} {x : Ln} : (cnF i x).lookup ("second" : Str) = some (.int x.2) := (lk1 (by decide +kernel)).trans ((lk1 (by decide +kernel)).trans lk0)
abbrev CnT (K : PySem.W.Frag) (mg : Str → Option Value) (C : Addr) (d : Dn) : Prop := Rec K mg "Contender" "Contender.__init__" s_ContI ["self", "number", "first", "second"] ["number", "first", "second"] C d
/-! ### shares -/
def ShAt (K : PySem.W.Frag) (H : Hp) (a : Addr) (q : Rat) : Prop := SqT K H a [.int q.num, .int (q.den : Int)] ∧ Sm q
theorem sqT_same {K : PySem.W.Frag} {H H' : Hp} {a : Addr} {xs : List V} (e : Same H H') (h : SqT K H a xs) : SqT K H' a xs := BWX.sqT_more e h
theorem ShAt.same {K : PySem.W.Frag} {H H' : Hp} {a : Addr} {q : Rat} (e : Same H H') (h : ShAt K H a q) : ShAt K H' a q := ⟨sqT_same e h.1, h.2⟩
theorem mul_small {a b : Int} (h : -4000 ≤ a ∧ a ≤ 4000) : CMul a b := .inl ⟨by omega, by omega⟩
theorem mul_small' {a b : Int} (h : -10000 ≤ a ∧ a ≤ 10000) : CMul a b := .inl ⟨by omega, by omega⟩
theorem at0 {x y : V} : atI [x, y] 0 = some x := rfl
theorem at1 {x y : V} : atI [x, y] 1 = some y := rfl
abbrev s_isLess : Stmt := topS 54
abbrev s_slope : Stmt := topS 55
abbrev s_worth : Stmt := topS 56
abbrev s_cdiv : Stmt := topS 53
abbrev s_lowest : Stmt := topS 52
abbrev s_even : Stmt := topS 57
abbrev s_allSh : Stmt := topS 51
def spIsLess (K : PySem.W.Frag) : Sp := fun vs H Q _ => ∃ (a b : Addr) (p q : Rat), vs = [.ref a, .ref b] ∧ ShAt K H a p ∧ ShAt K H b q ∧ Q (.bl (decide (p < q))) H
def spSlope (C : Addr) : Sp := fun vs H Q _ => ∃ (a : Addr) (i : Int) (x : Ln), vs = [.ref a] ∧ CnAt C H a i x ∧ Q (.int (slopeI x)) H
def spWorth (K : PySem.W.Frag) (C : Addr) : Sp := fun vs H Q _ => ∃ (a b : Addr) (i : Int) (x : Ln) (t : Rat), vs = [.ref a, .ref b] ∧ CnAt C H a i x ∧ ShAt K H b t ∧ Q (.int (Vaskyc.mixed (ofRat t) x)) H
def spCdiv : Sp := fun vs H Q _ => ∃ (a b : Nat), vs = [.int a, .int b] ∧ Q (.int (Nat.gcd a b : Nat)) H
def spLowest (K : PySem.W.Frag) : Sp := fun vs H Q _ => ∃ (a b : Int), vs = [.int a, .int b] ∧ b ≠ 0 ∧ (-4000 ≤ a ∧ a ≤ 4000) ∧ (-4000 ≤ b ∧ b ≤ 4000) ∧ ∀ p H', Same H H' → H p = none → ShAt K H' p (Rat.divInt a b) → Q (.ref p) H'
def spEven (K : PySem.W.Frag) (C : Addr) : Sp := fun vs H Q _ => ∃ (a b : Addr) (i j : Int) (x y : Ln), vs = [.ref a, .ref b] ∧ CnAt C H a i x ∧ CnAt C H b j y ∧ LnOk x ∧ LnOk y ∧ slopeI x ≠ slopeI y ∧ ∀ p H', Same H H' → H p = none → ShAt K H' p (meet x y) → Q (.ref p) H'
def LeftAt (K : PySem.W.Frag) (H : Hp) (a : Addr) (lo hi : Rat) : Prop := ∃ p q, SqT K H a [.ref p, .ref q] ∧ ShAt K H p lo ∧ ShAt K H q hi
theorem LeftAt.same {K : PySem.W.Frag} {H H' : Hp} {a : Addr} {lo hi : Rat} (e : Same H H') (h : LeftAt K H a lo hi) : LeftAt K H' a lo hi := let ⟨p, q, h1, h2, h3⟩ := h; ⟨p, q, sqT_same e h1, h2.same e, h3.same e⟩
def spAllSh (K : PySem.W.Frag) : Sp := fun vs H Q _ => vs = [] ∧ ∀ p H', Same H H' → H p = none → LeftAt K H' p 0 1 → Q (.ref p) H'
section
variable {P : Program} {w : World} {K : PySem.W.Frag} {mg : Str → Option Value} {base : Heap} {CC : Addr} {d dC dS dL dG : Dn}
theorem sc_ContI : FnScope ["self", "number", "first", "second"] ["self", "number", "first", "second"] (defScope s_ContI) := ⟨rfl, rfl, rfl, by decide +kernel, rfl, by decide +kernel, by decide +kernel⟩
theorem ok_ContI (T : CnT K mg CC dC) : FnOk P w K mg base CX0 1 dC.a dC.fd ["self", "number", "first", "second"] (spContI CC) := by
  refine T.F.ok sc_ContI (fun vs H Q E h => ?_) (fun cdv A outer s H vs Q E hr h => ?_)
  · obtain ⟨x, dx, i, l, rfl, _⟩ := h; rfl
  · obtain ⟨x, dx, i, l, rfl, hx, q⟩ := h
    refine ⟨_, pss_cons (ps_fld (pv 0) (pv 1) rfl) (pss_cons (ps_fld (pv 0) (pv 2) rfl) (pss_one (ps_fld (pv 0) (pv 3) rfl))), ?_⟩
    refine ⟨_, rfl, _, rfl, x, CC, dx, _, rfl, hx, T.cl, T.no _ (by simp), (by show 0 < 1000; decide), ?_⟩
    refine ⟨_, rfl, _, rfl, x, CC, dx, _, rfl, upd_same, T.cl, T.no _ (by simp), (by show 1 < 1000; decide), ?_⟩
    refine ⟨_, rfl, _, rfl, x, CC, dx, _, rfl, upd_same, T.cl, T.no _ (by simp), (by show 2 < 1000; decide), ?_⟩
    rw [upd_upd, upd_upd]; exact q
theorem sc_isLess : FnScope ["share", "other"] ["share", "other"] (defScope s_isLess) := ⟨rfl, rfl, rfl, by decide +kernel, rfl, by decide +kernel, by decide +kernel⟩
theorem ok_isLess (G : Glb K mg "is_less" s_isLess ["share", "other"] d) : FnOk P w K mg base CX0 1 d.a d.fd ["share", "other"] (spIsLess K) := by
  refine G.F.ok sc_isLess (fun vs H Q E h => ?_) (fun cdv A outer s H vs Q E hr h => ?_)
  · obtain ⟨a, b, p, q, rfl, _⟩ := h; rfl
  · obtain ⟨a, b, p, q, rfl, ⟨h1, m1⟩, ⟨h2, m2⟩, k⟩ := h
    refine ⟨_, pss_one (ps_ret (pe_cmpR op_lt (pe_op op_mul (pe_ix ix_tup (pv 0) pe_int (fun _ _ => rfl)) (pe_ix ix_tup (pv 1) pe_int (fun _ _ => rfl))) (pe_op op_mul (pe_ix ix_tup (pv 1) pe_int (fun _ _ => rfl)) (pe_ix ix_tup (pv 0) pe_int (fun _ _ => rfl))) (nomark _))), ?_⟩
    refine ⟨_, rfl, a, _, _, _, rfl, rfl, h1, at0, _, rfl, b, _, _, _, rfl, rfl, h2, at1, _, _, rfl, rfl, mul_small m1.2, _, rfl, b, _, _, _, rfl, rfl, h2, at0, _, rfl, a, _, _, _, rfl, rfl, h1, at1, _, _, rfl, rfl, mul_small m2.2, _, _, rfl, rfl, ?_⟩
    show Q (.bl (decide (p.num * (q.den : Int) < q.num * (p.den : Int)))) H
    rw [BW.lt_nums]; exact k
theorem sc_slope : FnScope ["contender"] ["contender"] (defScope s_slope) := ⟨rfl, rfl, rfl, by decide +kernel, rfl, by decide +kernel, by decide +kernel⟩
theorem ok_slope (G : Glb K mg "slope" s_slope ["contender"] d) (T : CnT K mg CC dC) : FnOk P w K mg base CX0 1 d.a d.fd ["contender"] (spSlope CC) := by
  refine G.F.ok sc_slope (fun vs H Q E h => ?_) (fun cdv A outer s H vs Q E hr h => ?_)
  · obtain ⟨a, i, x, rfl, _⟩ := h; rfl
  · obtain ⟨a, i, x, rfl, ⟨dx, ha⟩, k⟩ := h
    refine ⟨_, pss_one (ps_ret (pe_op op_sub (pe_fld (pv 0) rfl) (pe_fld (pv 0) rfl))), ?_⟩
    exact ⟨_, rfl, a, CC, dx, _, _, rfl, ha, T.cl, T.no _ (by simp), cn_fst, _, rfl, a, CC, dx, _, _, rfl, ha, T.cl, T.no _ (by simp), cn_snd, _, _, rfl, rfl, k⟩
theorem sc_worth : FnScope ["contender", "share"] ["contender", "share"] (defScope s_worth) := ⟨rfl, rfl, rfl, by decide +kernel, rfl, by decide +kernel, by decide +kernel⟩
theorem ok_worth (G : Glb K mg "worth" s_worth ["contender", "share"] d) (T : CnT K mg CC dC) : FnOk P w K mg base CX0 1 d.a d.fd ["contender", "share"] (spWorth K CC) := by
  refine G.F.ok sc_worth (fun vs H Q E h => ?_) (fun cdv A outer s H vs Q E hr h => ?_)
  · obtain ⟨a, b, i, x, t, rfl, _⟩ := h; rfl
  · obtain ⟨a, b, i, x, t, rfl, ⟨dx, ha⟩, ⟨h2, m2⟩, k⟩ := h
    refine ⟨_, pss_one (ps_ret (pe_op op_add (pe_op op_mul (pe_ix ix_tup (pv 1) pe_int (fun _ _ => rfl)) (pe_fld (pv 0) rfl)) (pe_op op_mul (pe_op op_sub (pe_ix ix_tup (pv 1) pe_int (fun _ _ => rfl)) (pe_ix ix_tup (pv 1) pe_int (fun _ _ => rfl))) (pe_fld (pv 0) rfl)))), ?_⟩
    refine ⟨_, rfl, b, _, _, _, rfl, rfl, h2, at0, _, rfl, a, CC, dx, _, _, rfl, ha, T.cl, T.no _ (by simp), cn_fst, _, _, rfl, rfl, mul_small m2.2, _, rfl, b, _, _, _, rfl, rfl, h2, at1, _, rfl, b, _, _, _, rfl, rfl, h2, at0, _, _, rfl, rfl, _, rfl, a, CC, dx, _, _, rfl, ha, T.cl, T.no _ (by simp), cn_snd, _, _, rfl, rfl, mul_small' ?_, _, _, rfl, rfl, k⟩
    have := m2.1
    have := m2.2
    omega
theorem sc_cdiv : FnScope ["one", "other", "rest"] ["one", "other"] (defScope s_cdiv) := ⟨rfl, rfl, rfl, by decide +kernel, rfl, by decide +kernel, by decide +kernel⟩
theorem ok_cdiv (G : Glb K mg "common_divisor" s_cdiv ["one", "other"] d) : FnOk P w K mg base CX0 1 d.a d.fd ["one", "other"] spCdiv := by
  refine G.F.ok sc_cdiv (fun vs H Q E h => ?_) (fun cdv A outer s H vs Q E hr h => ?_)
  · obtain ⟨a, b, rfl, _⟩ := h; rfl
  · obtain ⟨a, b, rfl, k⟩ := h
    refine ⟨_, pss_cons (ps_while PassesOwn.never (pt_cmpR op_ne (pv 1) pe_int (nomark _))
      (pss_cons (ps_set (i := 2) sc_cdiv.nd rfl (.inl rfl) (pe_op op_modN (pv 0) (pv 1))) (pss_cons (ps_set (i := 0) sc_cdiv.nd rfl (.inl rfl) (pv 1)) (pss_one (ps_set (i := 1) sc_cdiv.nd rfl (.inl rfl) (pv 2)))))) (pss_one (ps_ret (pv 0))), ?_⟩
    refine ⟨fun m σ H' => ∃ (x y : Nat) (v : Option V), σ = [some (.int x), some (.int y), v] ∧ H' = H ∧ Nat.gcd x y = Nat.gcd a b ∧ m = y, ⟨_, a, b, none, rfl, rfl, rfl, rfl⟩, ?_⟩
    rintro y σ H' ⟨x, y', v, rfl, rfl, hg, hm⟩
    subst hm
    refine ⟨_, rfl, rfl, _, rfl, ?_⟩
    by_cases c : y = 0
    · subst c
      refine ifF (by simp) ⟨_, rfl, ?_⟩
      rw [Nat.gcd_zero_right] at hg
      rw [hg]; exact k
    · refine ifT (by simpa using c) ⟨_, fun _ _ z => z, _, rfl, _, rfl, _, _, rfl, rfl, (by omega : (y : Int) ≠ 0), _, rfl, _, rfl, ?_⟩
      have e : Int.fmod (x : Int) (y : Int) = ((x % y : Nat) : Int) := by rw [Int.fmod_eq_emod_of_nonneg _ (by omega)]; rfl
      refine ⟨_, Nat.mod_lt x (by omega), y, x % y, some (.int ((x % y : Nat) : Int)), ?_, rfl, ?_, rfl⟩
      · show [some (V.int y), some (V.int (Int.fmod x y)), some (V.int (Int.fmod x y))] = _
        rw [e]
      rw [← hg, Nat.gcd_comm x y, Nat.gcd_rec y x, Nat.gcd_comm]
theorem sc_lowest : FnScope ["over", "under", "divisor"] ["over", "under"] (defScope s_lowest) := ⟨rfl, rfl, rfl, by decide +kernel, rfl, by decide +kernel, by decide +kernel⟩
theorem ok_lowest (G : Glb K mg "lowest_terms" s_lowest ["over", "under"] d) (GC : Glb K mg "common_divisor" s_cdiv ["one", "other"] dG) (ma : mg "abs" = none) : FnOk P w K mg base CX0 2 d.a d.fd ["over", "under"] (spLowest K) := by
  have FC : FnOk P w K mg base CX0 1 dG.a dG.fd ["one", "other"] spCdiv := ok_cdiv GC
  refine G.F.ok sc_lowest (fun vs H Q E h => ?_) (fun cdv A outer s H vs Q E hr h => ?_)
  · obtain ⟨a, b, rfl, _⟩ := h; rfl
  · obtain ⟨a, b, rfl, hb0, ha, hb, k⟩ := h
    refine ⟨_, pss_cons (ps_set (i := 2) sc_lowest.nd rfl (.inl rfl) (pe_call FC hr rfl GC.g GC.k GC.b .nil pass0 (pa_cons (pe_callB call_abs (by rfl) ma (by decide +kernel) (pa_cons (pv 0) pa_nil)) (pa_cons (pe_callB call_abs (by rfl) ma (by decide +kernel) (pa_cons (pv 1) pa_nil)) pa_nil))))
      (pss_cons (ps_if (pt_cmpR op_lt (pv 1) pe_int (nomark _)) (pss_one (ps_set (i := 2) sc_lowest.nd rfl (.inl rfl) (pe_un un_neg (pv 2)))) pss_nil)
      (pss_one (ps_ret (pe_tup (pa_cons (pe_op op_fdivN (pv 0) (pv 2)) (pa_cons (pe_op op_fdivN (pv 1) (pv 2)) pa_nil)))))), ?_⟩
    have absn : ∀ i : Int, (if i < 0 then -i else i) = ((i.natAbs : Nat) : Int) := fun i => by split <;> omega
    refine ⟨_, rfl, a, rfl, _, rfl, b, rfl, a.natAbs, b.natAbs, ?_, ?_⟩
    · rw [absn, absn]; rfl
    have low := BW.lowest (a := a) hb0
    have gp : 0 < Nat.gcd a.natAbs b.natAbs := Nat.gcd_pos_of_pos_right _ (by omega)
    have gl : Nat.gcd a.natAbs b.natAbs ≤ 4000 := Nat.le_trans (Nat.gcd_le_right _ (by omega)) (by omega)
    have sm : BW.Sm (Rat.divInt a b) := BW.divInt_sm ha hb hb0
    generalize Nat.gcd a.natAbs b.natAbs = g at *
    -- the two quotients
    have fin : ∀ v : Int, v = (if b < 0 then -((g : Nat) : Int) else ((g : Nat) : Int)) → tRet (tTup (tCons (tOp (rI CDivN fun i j => .int (i.fdiv j)) (tVar 0) (tVar 2)) (tCons (tOp (rI CDivN fun i j => .int (i.fdiv j)) (tVar 1) (tVar 2)) tNil))) { nx := fun x H' => Q V.non H', rt := Q } [some (.int a), some (.int b), some (.int v)] H := by
      intro v hv
      have cd : ∀ i, CDivN i v := fun i => by
        subst hv
        constructor
        · split <;> omega
        · split <;> omega
      refine ⟨_, rfl, _, rfl, _, _, rfl, rfl, cd a, _, rfl, _, rfl, _, _, rfl, rfl, cd b, (by show 2 ≤ sizeLine; decide), fun p hp => ?_⟩
      refine k p _ (same_new hp) hp ⟨SqT.of ?_, sm⟩
      rw [upd_same, hv]
      show some (HO.tup [.int (a.fdiv _), .int (b.fdiv _)]) = _
      rw [low.1, low.2]
    refine ⟨_, rfl, _, _, rfl, rfl, _, rfl, ?_⟩
    by_cases c : b < 0
    · exact ifT (decide_eq_true c) ⟨_, rfl, _, rfl, fin _ (by rw [if_pos c])⟩
    · exact ifF (decide_eq_false c) (fin _ (by rw [if_neg c]))
theorem sc_even : FnScope ["one", "other"] ["one", "other"] (defScope s_even) := ⟨rfl, rfl, rfl, by decide +kernel, rfl, by decide +kernel, by decide +kernel⟩
theorem ok_even (G : Glb K mg "even_share" s_even ["one", "other"] d) (GL : Glb K mg "lowest_terms" s_lowest ["over", "under"] dL) (GC : Glb K mg "common_divisor" s_cdiv ["one", "other"] dG) (GS : Glb K mg "slope" s_slope ["contender"] dS) (T : CnT K mg CC dC) (ma : mg "abs" = none) : FnOk P w K mg base CX0 3 d.a d.fd ["one", "other"] (spEven K CC) := by
  have FL : FnOk P w K mg base CX0 2 dL.a dL.fd ["over", "under"] (spLowest K) := ok_lowest GL GC ma
  have FS : FnOk P w K mg base CX0 1 dS.a dS.fd ["contender"] (spSlope CC) := ok_slope GS T
  refine G.F.ok sc_even (fun vs H Q E h => ?_) (fun cdv A outer s H vs Q E hr h => ?_)
  · obtain ⟨a, b, i, j, x, y, rfl, _⟩ := h; rfl
  · obtain ⟨a, b, i, j, x, y, rfl, ⟨dx, ha⟩, ⟨dy, hb⟩, lx, ly, hs, k⟩ := h
    have hr1 : Room 1 _ := hr.mono (by decide)
    refine ⟨_, pss_one (ps_ret (pe_call FL hr rfl GL.g GL.k GL.b .nil pass0 (pa_cons (pe_op op_sub (pe_fld (pv 1) rfl) (pe_fld (pv 0) rfl)) (pa_cons (pe_op op_sub (pe_call FS hr1 rfl GS.g GS.k GS.b .nil pass0 (pa_cons (pv 0) pa_nil)) (pe_call FS hr1 rfl GS.g GS.k GS.b .nil pass0 (pa_cons (pv 1) pa_nil))) pa_nil)))), ?_⟩
    obtain ⟨⟨a1, a2⟩, ⟨a3, a4⟩⟩ := id lx
    obtain ⟨⟨b1, b2⟩, ⟨b3, b4⟩⟩ := id ly
    refine ⟨_, rfl, b, CC, dy, _, _, rfl, hb, T.cl, T.no _ (by simp), cn_snd, _, rfl, a, CC, dx, _, _, rfl, ha, T.cl, T.no _ (by simp), cn_snd, _, _, rfl, rfl, _, rfl, a, i, x, rfl, ⟨dx, ha⟩, _, rfl, b, j, y, rfl, ⟨dy, hb⟩, _, _, rfl, rfl, _, _, rfl, ?_, ?_, ?_, fun p H' s1 hp hsh => ?_⟩
    · omega
    · omega
    · unfold BW.slopeI; omega
    · exact k p H' s1 hp (by rw [BW.meet_div]; exact hsh)
theorem sc_allSh : FnScope [] [] (defScope s_allSh) := ⟨rfl, rfl, rfl, by decide +kernel, rfl, by decide +kernel, by decide +kernel⟩
theorem ok_allSh (G : Glb K mg "all_shares" s_allSh [] d) : FnOk P w K mg base CX0 1 d.a d.fd [] (spAllSh K) := by
  refine G.F.ok sc_allSh (fun vs H Q E h => ?_) (fun cdv A outer s H vs Q E hr h => ?_)
  · obtain ⟨rfl, _⟩ := h; rfl
  · obtain ⟨rfl, k⟩ := h
    refine ⟨_, pss_one (ps_ret (pe_tup (pa_cons (pe_tup (pa_cons pe_int (pa_cons pe_int pa_nil))) (pa_cons (pe_tup (pa_cons pe_int (pa_cons pe_int pa_nil))) pa_nil)))), ?_⟩
    refine ⟨(by show 2 ≤ sizeLine; decide), fun p hp => ⟨(by show 2 ≤ sizeLine; decide), fun q hq => ⟨(by show 2 ≤ sizeLine; decide), fun a ha => ?_⟩⟩⟩
    have s1 := same_new (o := .tup [.int 0, .int 1]) hp
    have s2 := same_new (o := .tup [.int 1, .int 1]) hq
    have s3 := same_new (o := .tup [.ref p, .ref q]) ha
    exact k a _ ((s1.trans s2).trans s3) ((s1.trans s2).free ha) ⟨p, q, SqT.of upd_same, ⟨SqT.of (s3 _ _ (s2 _ _ upd_same)), BW.sm_zero⟩, ⟨SqT.of (s3 _ _ upd_same), BW.sm_one⟩⟩
end
end BWP
namespace BWP
open PySem PySem.Spec PyProof.Rows L2
open BW (Sm Ln LnOk slopeI meet sl ofRat likedR)
abbrev s_leftL : Stmt := topS 58
def spLeftL (K : PySem.W.Frag) (C : Addr) : Sp := fun vs H Q _ => ∃ (a b c : Addr) (lo hi : Rat) (i j : Int) (x y : Ln), vs = [.ref a, .ref b, .ref c] ∧ LeftAt K H a lo hi ∧ CnAt C H b i x ∧ CnAt C H c j y ∧ LnOk x ∧ LnOk y ∧
  (likedR lo hi x y = none → ∀ H', Same H H' → Q .non H') ∧ ∀ z, likedR lo hi x y = some z → ∀ p H', Same H H' → LeftAt K H' p z.1 z.2 → Q (.ref p) H'
section
variable {P : Program} {w : World} {K : PySem.W.Frag} {mg : Str → Option Value} {base : Heap} {CC : Addr} {d dC dS dL dG dE dI : Dn}
theorem sc_leftL : FnScope ["left", "liked", "other", "least", "greatest", "even"] ["left", "liked", "other"] (defScope s_leftL) := ⟨rfl, rfl, rfl, by decide +kernel, rfl, by decide +kernel, by decide +kernel⟩
/-- what the shares' defs lean on -/
structure ShM (K : PySem.W.Frag) (mg : Str → Option Value) (CC : Addr) (dC dI dS dW dG dL dE : Dn) : Prop where
  T : CnT K mg CC dC
  less : Glb K mg "is_less" s_isLess ["share", "other"] dI
  slope : Glb K mg "slope" s_slope ["contender"] dS
  worth : Glb K mg "worth" s_worth ["contender", "share"] dW
  cdiv : Glb K mg "common_divisor" s_cdiv ["one", "other"] dG
  lowest : Glb K mg "lowest_terms" s_lowest ["over", "under"] dL
  even : Glb K mg "even_share" s_even ["one", "other"] dE
  abs : mg "abs" = none
theorem ok_leftL {dW : Dn} (G : Glb K mg "left_when_liked" s_leftL ["left", "liked", "other"] d) (M : ShM K mg CC dC dI dS dW dG dL dE) : FnOk P w K mg base CX0 4 d.a d.fd ["left", "liked", "other"] (spLeftL K CC) := by
  have FS : FnOk P w K mg base CX0 1 dS.a dS.fd ["contender"] (spSlope CC) := ok_slope M.slope M.T
  have FI : FnOk P w K mg base CX0 1 dI.a dI.fd ["share", "other"] (spIsLess K) := ok_isLess M.less
  have FE : FnOk P w K mg base CX0 3 dE.a dE.fd ["one", "other"] (spEven K CC) := ok_even M.even M.lowest M.cdiv M.slope M.T M.abs
  refine G.F.ok sc_leftL (fun vs H Q E h => ?_) (fun cdv A outer s H vs Q E hr h => ?_)
  · obtain ⟨a, b, c, lo, hi, i, j, x, y, rfl, _⟩ := h; rfl
  · obtain ⟨a, b, c, lo, hi, i, j, x, y, rfl, hL, hb, hc, lx, ly, kN, kS⟩ := h
    have hr1 : Room 1 _ := hr.mono (by decide)
    obtain ⟨p, q, hpq, hp, hq⟩ := id hL
    obtain ⟨dx, ebx⟩ := id hb
    obtain ⟨dy, ecy⟩ := id hc
    refine ⟨_, pss_cons (ps_if (pt_cmpR op_eq (pe_call FS hr1 rfl M.slope.g M.slope.k M.slope.b .nil pass0 (pa_cons (pv 1) pa_nil)) (pe_call FS hr1 rfl M.slope.g M.slope.k M.slope.b .nil pass0 (pa_cons (pv 2) pa_nil)) (nomark _))
        (pss_one (ps_ret (pe_ifExp (pt_cmpR op_ge (pe_fld (pv 1) rfl) (pe_fld (pv 2) rfl) (nomark _)) (pv 0) pe_non))) pss_nil)
      (pss_cons (ps_set (i := 3) sc_leftL.nd rfl (.inl rfl) (pe_ix ix_tup (pv 0) pe_int (fun _ _ => rfl)))
      (pss_cons (ps_set (i := 4) sc_leftL.nd rfl (.inl rfl) (pe_ix ix_tup (pv 0) pe_int (fun _ _ => rfl)))
      (pss_cons (ps_set (i := 5) sc_leftL.nd rfl (.inl rfl) (pe_call FE hr rfl M.even.g M.even.k M.even.b .nil pass0 (pa_cons (pv 1) (pa_cons (pv 2) pa_nil))))
      (pss_cons (ps_if (pt_cmpR op_gt (pe_call FS hr1 rfl M.slope.g M.slope.k M.slope.b .nil pass0 (pa_cons (pv 1) pa_nil)) (pe_call FS hr1 rfl M.slope.g M.slope.k M.slope.b .nil pass0 (pa_cons (pv 2) pa_nil)) (nomark _))
        (pss_one (ps_set (i := 3) sc_leftL.nd rfl (.inl rfl) (pe_ifExp (pt_val (pe_call FI hr1 rfl M.less.g M.less.k M.less.b .nil pass0 (pa_cons (pv 3) (pa_cons (pv 5) pa_nil)))) (pv 5) (pv 3))))
        (pss_one (ps_set (i := 4) sc_leftL.nd rfl (.inl rfl) (pe_ifExp (pt_val (pe_call FI hr1 rfl M.less.g M.less.k M.less.b .nil pass0 (pa_cons (pv 5) (pa_cons (pv 4) pa_nil)))) (pv 5) (pv 4)))))
      (pss_one (ps_ret (pe_ifExp (pt_val (pe_call FI hr1 rfl M.less.g M.less.k M.less.b .nil pass0 (pa_cons (pv 4) (pa_cons (pv 3) pa_nil)))) pe_non (pe_tup (pa_cons (pv 3) (pa_cons (pv 4) pa_nil)))))))))), ?_⟩
    -- the end: two shares at u, v
    have fin : ∀ (u v : Addr) (l h : Rat) (H1 : Hp) (e5 : Option V), Same H H1 → ShAt K H1 u l → ShAt K H1 v h → (if h < l then none else some (l, h)) = likedR lo hi x y →
        ∀ Ex, tRet (tIf (tB (tCall (spIsLess K) [] Ex (tCons (tVar 4) (tCons (tVar 3) tNil)))) (tC .non) (tTup (tCons (tVar 3) (tCons (tVar 4) tNil)))) { nx := fun x H' => Q V.non H', rt := Q } [some (.ref a), some (.ref b), some (.ref c), some (.ref u), some (.ref v), e5] H1 := by
      intro u v l h H1 e5 s1 hu hv e Ex
      refine ⟨_, rfl, _, rfl, v, u, h, l, rfl, hv, hu, _, rfl, ?_⟩
      by_cases z : h < l
      · rw [if_pos z] at e
        exact ifT (decide_eq_true z) (kN e.symm H1 s1)
      · rw [if_neg z] at e
        refine ifF (decide_eq_false z) ⟨_, rfl, _, rfl, (by show 2 ≤ sizeLine; decide), fun t ht => ?_⟩
        have s2 := same_new (o := .tup [.ref u, .ref v]) ht
        exact kS _ e.symm t _ (s1.trans s2) ⟨u, v, SqT.of upd_same, hu.same s2, hv.same s2⟩
    refine ⟨_, rfl, b, i, x, rfl, hb, _, rfl, c, j, y, rfl, hc, rfl, _, rfl, ?_⟩
    by_cases e1 : slopeI x = slopeI y
    · refine ifT (decide_eq_true (by rw [e1])) ⟨_, rfl, b, CC, dx, _, _, rfl, ebx, M.T.cl, M.T.no _ (by simp), cn_snd, _, rfl, c, CC, dy, _, _, rfl, ecy, M.T.cl, M.T.no _ (by simp), cn_snd, _, _, rfl, rfl, _, rfl, ?_⟩
      by_cases e2 : y.2 ≤ x.2
      · exact ifT (decide_eq_true e2) ⟨_, rfl, kS (lo, hi) (by unfold BW.likedR; rw [if_pos e1, if_pos e2]) a H (Same.refl H) hL⟩
      · exact ifF (decide_eq_false e2) (kN (by unfold BW.likedR; rw [if_pos e1, if_neg e2]) H (Same.refl H))
    · refine ifF (decide_eq_false fun z => e1 (V.int.inj z)) ⟨_, rfl, a, _, _, _, rfl, rfl, hpq, at0, _, rfl, a, _, _, _, rfl, rfl, hpq, at1, _, rfl, _, rfl, b, c, i, j, x, y, rfl, hb, hc, lx, ly, e1, fun u H1 s1 hu hsh => ?_⟩
      have hb1 : CnAt CC H1 b i x := hb.same s1
      have hc1 : CnAt CC H1 c j y := hc.same s1
      refine ⟨_, rfl, b, i, x, rfl, hb1, _, rfl, c, j, y, rfl, hc1, _, _, rfl, rfl, _, rfl, ?_⟩
      have eq : likedR lo hi x y = (if (if slopeI y < slopeI x then hi else (if meet x y < hi then meet x y else hi)) < (if slopeI y < slopeI x then (if lo < meet x y then meet x y else lo) else lo) then none else some (if slopeI y < slopeI x then (if lo < meet x y then meet x y else lo) else lo, if slopeI y < slopeI x then hi else (if meet x y < hi then meet x y else hi))) := by
        unfold BW.likedR; rw [if_neg e1]
      by_cases e3 : slopeI y < slopeI x
      · simp only [if_pos e3] at eq
        refine ifT (decide_eq_true e3) ⟨_, rfl, _, rfl, p, u, lo, meet x y, rfl, hp.same s1, hsh, _, rfl, ?_⟩
        by_cases e4 : lo < meet x y
        · rw [if_pos e4] at eq
          exact ifT (decide_eq_true e4) ⟨_, rfl, fin u q _ _ H1 _ s1 hsh (hq.same s1) eq.symm _⟩
        · rw [if_neg e4] at eq
          exact ifF (decide_eq_false e4) ⟨_, rfl, fin p q _ _ H1 _ s1 (hp.same s1) (hq.same s1) eq.symm _⟩
      · simp only [if_neg e3] at eq
        refine ifF (decide_eq_false e3) ⟨_, rfl, _, rfl, u, q, meet x y, hi, rfl, hsh, hq.same s1, _, rfl, ?_⟩
        by_cases e4 : meet x y < hi
        · rw [if_pos e4] at eq
          exact ifT (decide_eq_true e4) ⟨_, rfl, fin p u _ _ H1 _ s1 (hp.same s1) hsh eq.symm _⟩
        · rw [if_neg e4] at eq
          exact ifF (decide_eq_false e4) ⟨_, rfl, fin p q _ _ H1 _ s1 (hp.same s1) (hq.same s1) eq.symm _⟩
end
end BWP
namespace BWP
open PySem PySem.Spec PyProof.Rows L2
open BW (Sm Ln LnOk slopeI meet sl ofRat likedR endOf endStep)
open LamX (Tabs ExtN TabB)
abbrev s_pieceEnd : Stmt := topS 62
/-- a list of contenders -/
def CnsAt (C : Addr) (H : Hp) : List Addr → List (Int × Ln) → Prop
  | [], [] => True
  | p :: ps, c :: cs => CnAt C H p c.1 c.2 ∧ CnsAt C H ps cs
  | _, _ => False
theorem CnsAt.same {C : Addr} {H H' : Hp} (s : Same H H') : ∀ {ps : List Addr} {cs : List (Int × Ln)}, CnsAt C H ps cs → CnsAt C H' ps cs
  | [], [], _ => trivial
  | _ :: _, _ :: _, ⟨h1, h2⟩ => ⟨h1.same s, CnsAt.same s h2⟩
theorem CnsAt.len {C : Addr} {H : Hp} : ∀ {ps : List Addr} {cs : List (Int × Ln)}, CnsAt C H ps cs → ps.length = cs.length
  | [], [], _ => rfl
  | _ :: _, _ :: _, ⟨_, h2⟩ => by rw [List.length_cons, List.length_cons, CnsAt.len h2]
theorem CnsAt.get {C : Addr} {H : Hp} : ∀ {ps : List Addr} {cs : List (Int × Ln)} {i : Nat} {p : Addr}, CnsAt C H ps cs → ps[i]? = some p → ∃ c, cs[i]? = some c ∧ CnAt C H p c.1 c.2
  | [], [], i, p, _, e => by simp at e
  | q :: ps, c :: cs, 0, p, ⟨h1, _⟩, e => by
    have e : q = p := by simpa using e
    subst e; exact ⟨c, rfl, h1⟩
  | q :: ps, c :: cs, i + 1, p, ⟨_, h2⟩, e => by
    have e : ps[i]? = some p := by simpa using e
    obtain ⟨c', e1, e2⟩ := CnsAt.get h2 e
    exact ⟨c', by simpa using e1, e2⟩
def spPieceEnd (K : PySem.W.Frag) (C : Addr) : Sp := fun vs H Q _ => ∃ (a b e : Addr) (ps : List Addr) (cs : List (Int × Ln)) (j : Int) (x : Ln) (last : Rat), vs = [.ref a, .ref b, .ref e] ∧ SqL K H a (ps.map V.ref) ∧ CnsAt C H ps cs ∧ (∀ c ∈ cs, LnOk c.2) ∧ CnAt C H b j x ∧ LnOk x ∧ ShAt K H e last ∧
  ∀ p H', Same H H' → ShAt K H' p (endOf (cs.map (·.2)) x last) → Q (.ref p) H'
section
variable {P : Program} {w : World} {K : PySem.W.Frag} {mg : Str → Option Value} {base : Heap} {CC : Addr} {d dC dS dL dG dE dI dW : Dn}
theorem sc_pieceEnd : FnScope ["contenders", "winner", "last", "end", "contender", "even"] ["contenders", "winner", "last"] (defScope s_pieceEnd) := ⟨rfl, rfl, rfl, by decide +kernel, rfl, by decide +kernel, by decide +kernel⟩
theorem ok_pieceEnd (G : Glb K mg "piece_end" s_pieceEnd ["contenders", "winner", "last"] d) (M : ShM K mg CC dC dI dS dW dG dL dE) : FnOk P w K mg base CX0 4 d.a d.fd ["contenders", "winner", "last"] (spPieceEnd K CC) := by
  have FS : FnOk P w K mg base CX0 1 dS.a dS.fd ["contender"] (spSlope CC) := ok_slope M.slope M.T
  have FI : FnOk P w K mg base CX0 1 dI.a dI.fd ["share", "other"] (spIsLess K) := ok_isLess M.less
  have FE : FnOk P w K mg base CX0 3 dE.a dE.fd ["one", "other"] (spEven K CC) := ok_even M.even M.lowest M.cdiv M.slope M.T M.abs
  refine G.F.ok sc_pieceEnd (fun vs H Q E h => ?_) (fun cdv A outer s H vs Q E hr h => ?_)
  · obtain ⟨a, b, e, ps, cs, j, x, last, rfl, _⟩ := h; rfl
  · obtain ⟨a, b, e, ps, cs, j, x, last, rfl, hl, hc, ok, hb, ox, he, k⟩ := h
    have hr1 : Room 1 _ := hr.mono (by decide)
    refine ⟨_, pss_cons (ps_set (i := 3) sc_pieceEnd.nd rfl (.inl rfl) (pv 2))
      (pss_cons (ps_for PassesOwn.never rfl (pi_list (pv 0)) (pg_name (i := 4) sc_pieceEnd.nd rfl (Or.inl rfl))
        (pss_one (ps_if (pt_cmpR op_gt (pe_call FS hr1 rfl M.slope.g M.slope.k M.slope.b .nil pass0 (pa_cons (pv 4) pa_nil)) (pe_call FS hr1 rfl M.slope.g M.slope.k M.slope.b .nil pass0 (pa_cons (pv 1) pa_nil)) (nomark _))
          (pss_cons (ps_set (i := 5) sc_pieceEnd.nd rfl (.inl rfl) (pe_call FE hr rfl M.even.g M.even.k M.even.b .nil pass0 (pa_cons (pv 4) (pa_cons (pv 1) pa_nil))))
            (pss_one (ps_set (i := 3) sc_pieceEnd.nd rfl (.inl rfl) (pe_ifExp (pt_val (pe_call FI hr1 rfl M.less.g M.less.k M.less.b .nil pass0 (pa_cons (pv 5) (pa_cons (pv 3) pa_nil)))) (pv 5) (pv 3)))))
          pss_nil)))
      (pss_one (ps_ret (pv 3)))), ?_⟩
    have hlen := hc.len
    refine ⟨_, rfl, _, rfl, a, rfl, ⟨_, hl⟩, for_list (xs := ps.map V.ref) (fun i σ H1 => ∃ (u : Addr) (v4 v5 : Option V), σ = [some (.ref a), some (.ref b), some (.ref e), some (.ref u), v4, v5] ∧ Same H H1 ∧ ShAt K H1 u (endOf ((cs.take i).map (·.2)) x last))
      ⟨e, none, none, rfl, Same.refl H, he⟩ (fun i σ H1 _ q => ?_) (fun i v σ H1 hv q => ?_) (fun σ H1 q => ?_)⟩
    · obtain ⟨u, v4, v5, rfl, s1, _⟩ := q
      exact Same.seq s1 hl
    · obtain ⟨u, v4, v5, rfl, s1, hu⟩ := q
      obtain ⟨p, hp, rfl⟩ : ∃ p, ps[i]? = some p ∧ v = .ref p := by
        rw [List.getElem?_map] at hv
        cases z : ps[i]? with
        | none => rw [z] at hv; cases hv
        | some p => rw [z] at hv; exact ⟨p, rfl, (Option.some.inj hv).symm⟩
      obtain ⟨c, hci, hcp⟩ := hc.get hp
      have ilt : i < cs.length := by
        by_cases z : i < cs.length
        · exact z
        · rw [List.getElem?_eq_none (by omega)] at hci; cases hci
      have oc := ok c (List.mem_of_getElem? hci)
      have tk : (cs.take (i + 1)).map (·.2) = (cs.take i).map (·.2) ++ [c.2] := by
        rw [List.take_succ, hci, List.map_append]; rfl
      have ee : endOf ((cs.take (i + 1)).map (·.2)) x last = endStep x (endOf ((cs.take i).map (·.2)) x last) c.2 := by
        unfold BW.endOf; rw [tk, List.foldl_append]; rfl
      refine ⟨_, rfl, p, c.1, c.2, rfl, hcp.same s1, _, rfl, b, j, x, rfl, hb.same s1, _, _, rfl, rfl, _, rfl, ?_⟩
      by_cases z : slopeI x < slopeI c.2
      · refine ifT (decide_eq_true z) ⟨_, rfl, _, rfl, p, b, c.1, j, c.2, x, rfl, hcp.same s1, hb.same s1, oc, ox, by omega, fun r H2 s2 hr2 hsh => ?_⟩
        refine ⟨_, rfl, _, rfl, r, u, _, _, rfl, hsh, hu.same s2, _, rfl, ?_⟩
        by_cases z2 : meet c.2 x < endOf ((cs.take i).map (·.2)) x last
        · refine ifT (decide_eq_true z2) ⟨_, rfl, r, _, _, rfl, s1.trans s2, ?_⟩
          rw [ee]; unfold BW.endStep; rw [if_pos z, if_pos z2]; exact hsh
        · refine ifF (decide_eq_false z2) ⟨_, rfl, u, _, _, rfl, s1.trans s2, ?_⟩
          rw [ee]; unfold BW.endStep; rw [if_pos z, if_neg z2]; exact hu.same s2
      · refine ifF (decide_eq_false z) ⟨u, _, _, rfl, s1, ?_⟩
        rw [ee]; unfold BW.endStep; rw [if_neg z]; exact hu
    · obtain ⟨u, v4, v5, rfl, s1, hu⟩ := q
      rw [List.length_map, hlen, List.take_length] at hu
      exact ⟨_, rfl, k u H1 s1 hu⟩
end
/-! ### the first of the greatest -/
theorem argBest_max {bt : Nat → Nat → Bool} (as : ∀ i j, bt i j = true → bt j i = false) (nt : ∀ i j k, bt k i = true → bt j i = true ∨ bt k j = true) : ∀ n, argBest bt n ≤ n ∧ (∀ i, i ≤ n → bt i (argBest bt n) = false) ∧ ∀ i, i < argBest bt n → bt (argBest bt n) i = true
  | 0 => ⟨Nat.le_refl _, fun i hi => by
      have e : i = 0 := by omega
      subst e
      show bt 0 0 = false
      cases h : bt 0 0 with
      | false => rfl
      | true => exact absurd (as 0 0 h) (by rw [h]; decide), fun i hi => absurd hi (Nat.not_lt_zero _)⟩
  | n + 1 => by
    obtain ⟨h1, h2, h3⟩ := argBest_max as nt n
    have ir : ∀ i, bt i i = false := fun i => by
      cases h : bt i i with
      | false => rfl
      | true => exact absurd (as i i h) (by rw [h]; decide)
    cases hb : bt (n + 1) (argBest bt n) with
    | true =>
      have e : argBest bt (n + 1) = n + 1 := by simp only [argBest, hb, if_true]
      rw [e]
      have up : ∀ i, i < n + 1 → bt (n + 1) i = true := fun i hi => (nt (argBest bt n) i (n + 1) hb).resolve_left (by rw [h2 i (by omega)]; decide)
      refine ⟨Nat.le_refl _, fun i hi => ?_, up⟩
      rcases Nat.lt_or_eq_of_le hi with z | z
      · exact as _ _ (up i z)
      · rw [z]; exact ir _
    | false =>
      have e : argBest bt (n + 1) = argBest bt n := by simp only [argBest, hb, Bool.false_eq_true, if_false]
      rw [e]
      refine ⟨by omega, fun i hi => ?_, h3⟩
      rcases Nat.lt_or_eq_of_le hi with z | z
      · exact h2 i (by omega)
      · rw [z]; exact hb
end BWP
namespace BWP
open PySem PySem.Spec PyProof.Rows L2
open BW (Sm Ln LnOk slopeI meet sl ofRat likedR endOf endStep Above D)
open LamX (Tabs ExtN TabB)
open BWX (LamA KCmp pe_maxlam tMaxLam)
abbrev s_justAbove : Stmt := topS 61
/-- a def that makes a lambda: its code object and its table -/
structure LamF (mg : Str → Option Value) (base : Heap) (T : List (Addr × Str)) (q : Str) (d : Dn) (c P : Addr) : Prop where
  tb : TabB base mg c P
  code : d.fd.code = .ref c
  mem : (P, q) ∈ T
  uni : ∀ p ∈ T, p.1 = P → p.2 = q
section
variable {P : Program} {w : World} {K : PySem.W.Frag} {mg : Str → Option Value} {base : Heap}
theorem okC {x qual : Str} {st : Stmt} {f c : Addr} {fd : FuncData} {N ps : List Str} {k : Nat} {sp : Sp} (F : Fun K x qual st f fd) (hcd : fd.code = .ref c) (S : FnScope N ps (defScope st)) (len : ∀ vs H Q E, sp vs H Q E → vs.length = ps.length)
    (hbody : ∀ (A : Around) (outer : List Env) (s : Shared) (H : Hp) (vs : List V) (Q : VK) (E : XK), Room k (A.deeper (envOfC qual (defScope st) s.heap.objs.size f (.ref c))) → sp vs H Q E →
      ∃ t, PSs (cxOf CX0 P w K mg base N qual (defScope st) f (.ref c) A outer s H E).nox (defBody st) t ∧ t { nx := fun _ H' => Q .non H', rt := Q } (start N vs) H) : FnOk P w K mg base CX0 (k + 1) f fd ps sp := by
  obtain ⟨oc, od, kV, doc, pm, an, cdv, ct, osl, rfl, lk, hc⟩ := F.ex
  have e : cdv = .ref c := hcd
  subst e
  refine fn_of lk hc S len fun A outer s H vs Q E hr hsp => ?_
  obtain ⟨t, h, q⟩ := hbody A outer s H vs Q E hr hsp
  exact ⟨t, h.nox, q⟩
end
theorem lamA_by {sc scope : Scope} {a : Str} (h1 : scope.kind = .function) (h2 : scope.isCoroutine = false) (h3 : scope.isGenerator = false) (h4 : scope.names.lookup a = some .local)
    (h : (scope.names.all fun y => decide (y.2 ≠ .cell) && (decide (y.2 ≠ .local) || decide (y.1 = a)) && (decide (y.2 ≠ .free) || decide (sc.names.lookup y.1 = some .cell) || decide (sc.names.lookup y.1 = some .free))) = true) : LamA sc scope a := by
  have q := fun y hy => List.all_eq_true.mp h y hy
  refine ⟨h1, h2, h3, h4, fun y hy => ?_, fun y hy => ?_, fun y hy e => ?_⟩
  · have := q y hy
    simp only [Bool.and_eq_true, decide_eq_true_eq] at this
    exact this.1.1
  · have := q (y, .local) (PySem.mem_of_lookup hy)
    simp at this
    exact this
  · have := q y hy
    simp only [Bool.and_eq_true, Bool.or_eq_true, decide_eq_true_eq] at this
    rcases this.2 with (z | z) | z
    · exact absurd e z
    · exact .inl z
    · exact .inr z
theorem nin_by {a : Str} {N : List Str} (h : decide (a ∈ N) = false) : a ∉ N := of_decide_eq_false h
theorem SqL.ext {K : PySem.W.Frag} {H H' : Hp} {a : Addr} {xs : List V} (e : ExtN H H') (h : SqL K H a xs) : SqL K H' a xs := by
  rcases h with (h | ⟨o, h⟩) | h
  · exact .inl (.inl (e _ _ h (fun _ z => by cases z)))
  · exact .inl (.inr ⟨o, e _ _ h (fun _ z => by cases z)⟩)
  · exact .inr h
theorem SqT.ext {K : PySem.W.Frag} {H H' : Hp} {a : Addr} {xs : List V} (e : ExtN H H') (h : SqT K H a xs) : SqT K H' a xs := by
  rcases h with (h | ⟨o, h⟩) | h
  · exact .inl (.inl (e _ _ h (fun _ z => by cases z)))
  · exact .inl (.inr ⟨o, e _ _ h (fun _ z => by cases z)⟩)
  · exact .inr h
theorem CnAt.ext {C : Addr} {H H' : Hp} {a : Addr} {i : Int} {x : Ln} (e : ExtN H H') (h : CnAt C H a i x) : CnAt C H' a i x := let ⟨dx, q⟩ := h; ⟨dx, e _ _ q (fun _ z => by cases z)⟩
theorem CnsAt.ext {C : Addr} {H H' : Hp} (s : ExtN H H') : ∀ {ps : List Addr} {cs : List (Int × Ln)}, CnsAt C H ps cs → CnsAt C H' ps cs
  | [], [], _ => trivial
  | _ :: _, _ :: _, ⟨h1, h2⟩ => ⟨h1.ext s, CnsAt.ext s h2⟩
theorem ShAt.ext {K : PySem.W.Frag} {H H' : Hp} {a : Addr} {q : Rat} (e : ExtN H H') (h : ShAt K H a q) : ShAt K H' a q := ⟨SqT.ext e h.1, h.2⟩
theorem LeftAt.ext {K : PySem.W.Frag} {H H' : Hp} {a : Addr} {lo hi : Rat} (e : ExtN H H') (h : LeftAt K H a lo hi) : LeftAt K H' a lo hi := let ⟨p, q, h1, h2, h3⟩ := h; ⟨p, q, SqT.ext e h1, h2.ext e, h3.ext e⟩
def spJust (K : PySem.W.Frag) (C : Addr) (T : List (Addr × Str)) : Sp := fun vs H Q _ => ∃ (a b : Addr) (ps : List Addr) (cs : List (Int × Ln)) (t : Rat), vs = [.ref a, .ref b] ∧ SqL K H a (ps.map V.ref) ∧ CnsAt C H ps cs ∧ ps ≠ [] ∧ ShAt K H b t ∧ Tabs T H ∧
  ∀ H', ExtN H H' → Tabs T H' → ∀ (w : Nat) (p : Addr) (c : Int × Ln), ps[w]? = some p → cs[w]? = some c → Above (cs.map (·.2)) t w c.2 → Q (.ref p) H'
section
variable {P : Program} {w : World} {K : PySem.W.Frag} {mg : Str → Option Value} {base : Heap} {CC cJ PJ : Addr} {d dC dS dL dG dE dI dW : Dn} {T : List (Addr × Str)}
theorem sc_justAbove : FnScope ["contenders", "share"] ["contenders", "share"] (defScope s_justAbove) := ⟨rfl, rfl, rfl, by decide +kernel, rfl, by decide +kernel, by decide +kernel⟩
theorem ok_justAbove (G : Glb K mg "best_just_above" s_justAbove ["contenders", "share"] d) (L : LamF mg base T "best_just_above.<locals>.<lambda>" d cJ PJ) (M : ShM K mg CC dC dI dS dW dG dL dE) (mm : mg "max" = none) :
    FnOk P w K mg base CX0 4 d.a d.fd ["contenders", "share"] (spJust K CC T) := by
  have FS : FnOk P w K mg base CX0 1 dS.a dS.fd ["contender"] (spSlope CC) := ok_slope M.slope M.T
  have FW : FnOk P w K mg base CX0 1 dW.a dW.fd ["contender", "share"] (spWorth K CC) := ok_worth M.worth M.T
  refine okC G.F L.code sc_justAbove (fun vs H Q E h => ?_) (fun A outer s H vs Q E hr h => ?_)
  · obtain ⟨a, b, ps, cs, t, rfl, _⟩ := h; rfl
  · obtain ⟨a, b, ps, cs, t, rfl, hl, hc, hne, ht, hT, k⟩ := h
    refine ⟨_, pss_one (ps_ret (pe_maxlam (k := 1) rfl rfl mm (pa_cons (pv 0) pa_nil) L.tb rfl L.mem L.uni hr (lamA_by (sc := defScope s_justAbove) rfl rfl rfl rfl (by decide +kernel)) (nin_by (N := ["contenders", "share"]) (by decide +kernel)) rfl (fun _ _ _ _ _ _ => rfl)
      (fun A' outer' s' H' f c' hr' => pe_tup (pa_cons (pe_call FW hr' rfl M.worth.g M.worth.k M.worth.b .nil pass0 (pa_cons (pv 0) (pa_cons (pv 2) pa_nil))) (pa_cons (pe_call FS hr' rfl M.slope.g M.slope.k M.slope.b .nil pass0 (pa_cons (pv 0) pa_nil)) pa_nil))))), ?_⟩
    have hlen := hc.len
    have pos : 0 < ps.length := List.length_pos_iff.mpr hne
    refine ⟨_, rfl, a, ps, rfl, hl, pos, hT, fun H2 eN T2 => ?_⟩
    -- the key's two numbers
    let f : Nat → Int := fun i => Vaskyc.mixed (ofRat t) ((cs.getD i (0, 0, 0)).2)
    let g : Nat → Int := fun i => slopeI ((cs.getD i (0, 0, 0)).2)
    have f1 : ∀ i c, cs[i]? = some c → f i = Vaskyc.mixed (ofRat t) c.2 ∧ g i = slopeI c.2 := fun i c e => by
      have z : cs.getD i (0, 0, 0) = c := by rw [List.getD_eq_getElem?_getD, e]; rfl
      exact ⟨by show Vaskyc.mixed (ofRat t) ((cs.getD i (0, 0, 0)).2) = _; rw [z], by show slopeI ((cs.getD i (0, 0, 0)).2) = _; rw [z]⟩
    have hl2 : SqL K H2 a (ps.map V.ref) := SqL.ext eN hl
    have hc2 : CnsAt CC H2 ps cs := hc.ext eN
    have ht2 : ShAt K H2 b t := ht.ext eN
    refine ⟨fun H' => Same H2 H', fun i v H' => ∃ q, v = .ref q ∧ H' q = some (.tup [.int (f i), .int (g i)]), fun i j => if f i = f j then decide (g j < g i) else decide (f j < f i), Same.refl H2, fun H' s => Same.seq s hl2, fun c hco H' s => s _ _ hco, ?_, ?_, ?_⟩
    · intro i x H' hx s
      obtain ⟨c, e1, e2⟩ := hc2.get hx
      obtain ⟨g1, g2⟩ := f1 i c e1
      refine ⟨_, rfl, _, rfl, x, b, c.1, c.2, t, rfl, e2.same s, ht2.same s, _, rfl, x, c.1, c.2, rfl, e2.same s, (by show 2 ≤ sizeLine; decide), fun q hq => ?_⟩
      have s2 := same_new (o := .tup [.int (Vaskyc.mixed (ofRat t) c.2), .int (slopeI c.2)]) hq
      refine ⟨s.trans s2, ⟨q, rfl, by rw [g1, g2]; exact upd_same⟩, fun j k' => ?_⟩
      rintro ⟨q', e3, e4⟩
      exact ⟨q', e3, s2 _ _ e4⟩
    · rintro i j ki kj H' _ ⟨q, rfl, e1⟩ ⟨q', rfl, e2⟩
      exact .kt _ _ _ _ e1 e2
    · intro x H' hx s
      obtain ⟨b1, b2, b3⟩ := argBest_max (bt := fun i j => if f i = f j then decide (g j < g i) else decide (f j < f i))
        (fun i j => by grind) (fun i j k => by grind) (ps.length - 1)
      generalize argBest (fun i j => if f i = f j then decide (g j < g i) else decide (f j < f i)) (ps.length - 1) = wi at *
      obtain ⟨c, e1, _⟩ := hc2.get hx
      refine k H' (fun b' o h n => s _ _ (eN b' o h n)) (T2.ext s) wi x c hx e1 ⟨by rw [List.getElem?_map, e1]; rfl, fun y hy => ?_, fun j hj y hy => ?_⟩
      · obtain ⟨j, hj⟩ := List.mem_iff_getElem?.mp hy
        rw [List.getElem?_map] at hj
        obtain ⟨c', e2, rfl⟩ := Option.map_eq_some_iff.mp hj
        have jl : j < cs.length := by
          by_cases z : j < cs.length
          · exact z
          · rw [List.getElem?_eq_none (by omega)] at e2; cases e2
        have q := b2 j (by omega)
        obtain ⟨g1, g2⟩ := f1 wi c e1
        obtain ⟨g3, g4⟩ := f1 j c' e2
        rw [g1, g2, g3, g4] at q
        by_cases z : Vaskyc.mixed (ofRat t) c'.2 = Vaskyc.mixed (ofRat t) c.2
        · rw [if_pos z] at q
          exact .inr ⟨BW.worth_eq.mp z.symm, Int.not_lt.mp (of_decide_eq_false q)⟩
        · rw [if_neg z] at q
          have z2 := of_decide_eq_false q
          have z3 := BW.worth_lt.mp (show Vaskyc.mixed (ofRat t) c'.2 < Vaskyc.mixed (ofRat t) c.2 by omega)
          rw [BW.D_neg c'.2 c.2] at z3
          exact .inl (by grind)
      · rw [List.getElem?_map] at hy
        obtain ⟨c', e2, rfl⟩ := Option.map_eq_some_iff.mp hy
        have q := b3 j hj
        obtain ⟨g1, g2⟩ := f1 wi c e1
        obtain ⟨g3, g4⟩ := f1 j c' e2
        rw [g1, g2, g3, g4] at q
        by_cases z : Vaskyc.mixed (ofRat t) c.2 = Vaskyc.mixed (ofRat t) c'.2
        · rw [if_pos z] at q
          exact .inr ⟨BW.worth_eq.mp z, of_decide_eq_true q⟩
        · rw [if_neg z] at q
          have z3 := BW.worth_lt.mp (of_decide_eq_true q)
          rw [BW.D_neg c'.2 c.2] at z3
          exact .inl (by grind)
end
end BWP
namespace BW
open Vaskyc (Piece)
/-! ### how many pieces there are at most -/
theorem flatMap_len {α β : Type} (f : α → List β) {k : Nat} (h : ∀ x, (f x).length ≤ k) : ∀ l : List α, (l.flatMap f).length ≤ l.length * k
  | [] => by simp
  | x :: l => by
    have a := h x
    have b := flatMap_len f h l
    rw [List.flatMap_cons, List.length_append, List.length_cons, Nat.add_mul, Nat.one_mul]
    omega
theorem crossing_len (x y : Ln) : (Vaskyc.crossing x y).length ≤ 1 := by
  unfold Vaskyc.crossing
  simp only []
  split
  · simp
  · split <;> split <;> simp
theorem into_len (x : VaskyBase.Frac) : ∀ r, (Vaskyc.intoFracs x r).length ≤ r.length + 1
  | [] => by simp [Vaskyc.intoFracs]
  | y :: r => by
    have := into_len x r
    unfold Vaskyc.intoFracs
    split
    · simp
    · split
      · simp
      · simp; omega
theorem foldl_len {α β : Type} (f : List β → α → List β) (h : ∀ r x, (f r x).length ≤ r.length + 1) : ∀ (l : List α) (r : List β), (l.foldl f r).length ≤ r.length + l.length
  | [], r => by simp
  | x :: l, r => by
    have a := foldl_len f h l (f r x)
    have b := h r x
    rw [List.foldl_cons, List.length_cons]
    omega
theorem marks_len (l : List Ln) : (Vaskyc.marks l).length ≤ 2 + l.length * l.length := by
  unfold Vaskyc.marks
  refine Nat.le_trans (foldl_len _ (fun r x => into_len x r) _ _) ?_
  have a := flatMap_len (fun x => l.flatMap fun y => Vaskyc.crossing x y) (k := l.length) (fun x => by
    have := flatMap_len (fun y => Vaskyc.crossing x y) (k := 1) (crossing_len x) l
    omega) l
  have b : [VaskyBase.whole 0, VaskyBase.whole 1].length = 2 := rfl
  rw [b]
  omega
theorem put_len (r : List Piece) (p : Piece) : (Vaskyc.putPiece r p).length ≤ r.length + 1 := by
  unfold Vaskyc.putPiece
  split
  · split
    · simp
    · simp
  · simp
theorem pieces_len (l : List Ln) : (Vaskyc.pieces l).length ≤ 2 + l.length * l.length := by
  rw [pieces_def]
  refine Nat.le_trans (foldl_len (pstep l) (fun r x => ?_) _ _) ?_
  · unfold pstep
    split
    · exact put_len _ _
    · omega
  · have := marks_len l
    rw [List.length_zip]
    simp
    omega
end BW
namespace BWP
open PySem PySem.Spec PyProof.Rows L2
open BW (Sm Ln LnOk slopeI meet sl ofRat likedR endOf endStep Above D Chain Best)
open LamX (Tabs ExtN TabB)
open BWX (LamA KCmp pe_maxlam tMaxLam)
open Vaskyc (Piece)
abbrev s_pWinners : Stmt := topS 60
/-- the pieces of some lines, as far as the shares go -/
def piecesW (l : List Ln) (lo hi : Rat) : List Piece := if lo = hi then (match (Vaskyc.bestAt l (ofRat lo)).head? with
    | some i => [⟨i, ofRat lo, ofRat hi⟩]
    | none => []) else (Vaskyc.pieces l).filterMap (Vaskyz.clip (ofRat lo) (ofRat hi))
def numsOf (cs : List (Int × Ln)) (r : List Piece) : List Int := r.map fun q => (cs.getD q.i (0, 0, 0)).1
/-- new, but for the tables -/
def NewN (H : Hp) (p : Addr) : Prop := ∀ o, H p = some o → ∃ q, o = .tbl q
theorem NewN.of {H : Hp} {p : Addr} (h : H p = none) : NewN H p := fun o e => by rw [h] at e; cases e
theorem NewN.ext {H H' : Hp} {p : Addr} (e : ExtN H H') (h : H' p = none) : NewN H p := fun o q => by
  by_cases z : ∃ ps, o = .tbl ps
  · exact z
  · exact absurd (e p o q fun ps y => z ⟨ps, y⟩) (by rw [h]; intro y; cases y)
theorem ExtN.of_same {H H' : Hp} (s : Same H H') : ExtN H H' := fun b o h _ => s b o h
/-- a list of its own changes -/
theorem Tabs.put {T : List (Addr × Str)} {H : Hp} {W : Addr} {xs ys : List V} (t : Tabs T H) (h : H W = some (.lst xs)) : Tabs T (upd H W (.lst ys)) := fun p hp => by
  obtain ⟨ps, h1, h2, h3⟩ := t p hp
  refine ⟨ps, (upd_ne (ne_of h1 h (by intro z; cases z))).trans h1, h2, fun pos cv hc => ?_⟩
  obtain ⟨c, e1, e2⟩ := h3 pos cv hc
  exact ⟨c, e1, (upd_ne (ne_of e2 h (by intro z; cases z))).trans e2⟩
theorem ExtN.put {H H' : Hp} {W : Addr} {o : HO} (e : ExtN H H') (h : H W = none) : ExtN H (upd H' W o) := fun b u q n => (upd_ne (ne_of_none q h)).trans (e b u q n)
def spWin (K : PySem.W.Frag) (C : Addr) (T : List (Addr × Str)) : Sp := fun vs H Q _ => ∃ (a b : Addr) (ps : List Addr) (cs : List (Int × Ln)) (lo hi : Rat), vs = [.ref a, .ref b] ∧ SqL K H a (ps.map V.ref) ∧ CnsAt C H ps cs ∧ (∀ c ∈ cs, LnOk c.2) ∧ LeftAt K H b lo hi ∧ 0 ≤ lo ∧ lo ≤ hi ∧ hi ≤ 1 ∧ cs.length ≤ 1000 ∧ Tabs T H ∧
  ∀ p H', ExtN H H' → Tabs T H' → NewN H p → H' p = some (.lst ((numsOf cs (piecesW (cs.map (·.2)) lo hi)).map V.int)) → Q (.ref p) H'
theorem eqv_two {a b c d : Int} : PyData.eqv (.tuple [.int a, .int b]) (.tuple [.int c, .int d]) = decide (a = c ∧ b = d) := by
  simp only [PyData.eqv, PyData.eqvAll, Bool.and_true]
  rw [Bool.eq_iff_iff]
  simp
section
variable {P : Program} {w : World} {K : PySem.W.Frag} {mg : Str → Option Value} {base : Heap} {CC cJ PJ cW PW : Addr} {d dC dS dL dG dE dI dW dJ dP : Dn} {T : List (Addr × Str)}
theorem sc_pWinners : FnScope ["contenders", "left", "winners", "share", "winner"] ["contenders", "left"] (defScope s_pWinners) := ⟨rfl, rfl, rfl, by decide +kernel, rfl, by decide +kernel, by decide +kernel⟩
theorem ok_pWinners (G : Glb K mg "piece_winners" s_pWinners ["contenders", "left"] d) (L : LamF mg base T "piece_winners.<locals>.<lambda>" d cW PW) (GJ : Glb K mg "best_just_above" s_justAbove ["contenders", "share"] dJ) (LJ : LamF mg base T "best_just_above.<locals>.<lambda>" dJ cJ PJ)
    (GP : Glb K mg "piece_end" s_pieceEnd ["contenders", "winner", "last"] dP) (M : ShM K mg CC dC dI dS dW dG dL dE) (mm : mg "max" = none) (ml : mg "len" = none) :
    FnOk P w K mg base CX0 5 d.a d.fd ["contenders", "left"] (spWin K CC T) := by
  have FW : FnOk P w K mg base CX0 1 dW.a dW.fd ["contender", "share"] (spWorth K CC) := ok_worth M.worth M.T
  have FI : FnOk P w K mg base CX0 1 dI.a dI.fd ["share", "other"] (spIsLess K) := ok_isLess M.less
  have FJ : FnOk P w K mg base CX0 4 dJ.a dJ.fd ["contenders", "share"] (spJust K CC T) := ok_justAbove GJ LJ M mm
  have FP : FnOk P w K mg base CX0 4 dP.a dP.fd ["contenders", "winner", "last"] (spPieceEnd K CC) := ok_pieceEnd GP M
  refine okC G.F L.code sc_pWinners (fun vs H Q E h => ?_) (fun A outer s H vs Q E hr h => ?_)
  · obtain ⟨a, b, ps, cs, lo, hi, rfl, _⟩ := h; rfl
  · obtain ⟨a, b, ps, cs, lo, hi, rfl, hl, hc, ok, hL, h0, h1, h2, hn, hT, k⟩ := h
    have hr1 : Room 1 _ := hr.mono (by decide)
    have hr3 : Room 3 _ := hr.mono (by decide)
    refine ⟨_, pss_cons (ps_if (pt_cmpR op_eq (pe_callB call_len_seq (by rfl) ml PySem.boot_len (pa_cons (pv 0) pa_nil)) pe_int (nomark _)) (pss_one (ps_ret (pe_lst pa_nil))) pss_nil)
      (pss_cons (ps_if (pt_cmpR (op_eqD hr.units) (pe_ix ix_tup (pv 1) pe_int (fun _ _ => rfl)) (pe_ix ix_tup (pv 1) pe_int (fun _ _ => rfl)) (nomark _))
        (pss_one (ps_ret (pe_lst (pa_cons (pe_fld (pe_maxlam (k := 1) rfl rfl mm (pa_cons (pv 0) pa_nil) L.tb rfl L.mem L.uni hr3 (lamA_by (sc := defScope s_pWinners) rfl rfl rfl rfl (by decide +kernel)) (nin_by (N := ["contenders", "left", "winners", "share", "winner"]) (by decide +kernel)) rfl (fun _ _ _ _ _ _ => rfl)
          (fun A' outer' s' H' f c' hr' => pe_call FW hr' rfl M.worth.g M.worth.k M.worth.b .nil pass0 (pa_cons (pv 0) (pa_cons (pe_ix (show IxR _ (rIxT K) from ix_tup) (pv 2) pe_int (fun _ _ => rfl)) pa_nil)))) rfl) pa_nil)))) pss_nil)
      (pss_cons (ps_set (i := 2) sc_pWinners.nd rfl (.inl rfl) (pe_lst pa_nil))
      (pss_cons (ps_set (i := 3) sc_pWinners.nd rfl (.inl rfl) (pe_ix ix_tup (pv 1) pe_int (fun _ _ => rfl)))
      (pss_cons (ps_while PassesOwn.never (pt_val (pe_call FI hr1 rfl M.less.g M.less.k M.less.b .nil pass0 (pa_cons (pv 3) (pa_cons (pe_ix ix_tup (pv 1) pe_int (fun _ _ => rfl)) pa_nil))))
        (pss_cons (ps_set (i := 4) sc_pWinners.nd rfl (.inl rfl) (pe_call FJ hr rfl GJ.g GJ.k GJ.b .nil pass0 (pa_cons (pv 0) (pa_cons (pv 3) pa_nil))))
        (pss_cons (ps_expr (pe_bm PySem.F.plainAttrs_list PySem.F.slot_list_append PySem.F.type_list_append mt_append (pv 2) (pa_cons (pe_fld (pv 4) rfl) pa_nil)))
        (pss_one (ps_set (i := 3) sc_pWinners.nd rfl (.inl rfl) (pe_call FP hr rfl GP.g GP.k GP.b .nil pass0 (pa_cons (pv 0) (pa_cons (pv 4) (pa_cons (pe_ix ix_tup (pv 1) pe_int (fun _ _ => rfl)) pa_nil)))))))))
      (pss_one (ps_ret (pv 2))))))), ?_⟩
    have hlen := hc.len
    obtain ⟨p, q, hpq, hp, hq⟩ := id hL
    refine ⟨_, rfl, a, _, rfl, .inl hl, rfl, _, rfl, ?_⟩
    by_cases e0 : ps.length = 0
    · have hcs : cs = [] := List.eq_nil_of_length_eq_zero (by omega)
      refine ifT (decide_eq_true (by rw [List.length_map, e0]; rfl)) ⟨(by show 0 ≤ sizeLine; decide), fun l hl' => ?_⟩
      have s1 := same_new (o := .lst []) hl'
      refine k l _ (ExtN.of_same s1) (hT.ext s1) (NewN.of hl') ?_
      have e : piecesW (cs.map (·.2)) lo hi = [] := by
        rw [hcs]
        unfold piecesW
        by_cases z : lo = hi
        · rw [if_pos z]; rfl
        · rw [if_neg z]; show List.filterMap _ (Vaskyc.pieces []) = []; rw [BW.pieces_nil]; rfl
      rw [e]; exact upd_same
    · have hne : cs.map (·.2) ≠ [] := fun z => e0 (by rw [hlen]; simpa using congrArg List.length z)
      refine ifF (decide_eq_false fun z => e0 (by have := V.int.inj z; simpa using this)) ⟨_, rfl, b, _, _, _, rfl, rfl, hpq, at0, _, rfl, b, _, _, _, rfl, rfl, hpq, at1, _, _, .tup hp.1 (.cons (.int _) (.cons (.int _) .nil)), .tup hq.1 (.cons (.int _) (.cons (.int _) .nil)), rfl, rfl, _, rfl, ?_⟩
      rw [eqv_two]
      by_cases e1 : lo = hi
      · subst e1
        refine ifT (decide_eq_true ⟨rfl, rfl⟩) ⟨_, rfl, a, ps, rfl, hl, by omega, hT, fun H2 eN T2 => ?_⟩
        let f : Nat → Int := fun i => Vaskyc.mixed (ofRat lo) ((cs.getD i (0, 0, 0)).2)
        have f1 : ∀ i c, cs[i]? = some c → f i = Vaskyc.mixed (ofRat lo) c.2 := fun i c e => by
          have z : cs.getD i (0, 0, 0) = c := by rw [List.getD_eq_getElem?_getD, e]; rfl
          show Vaskyc.mixed (ofRat lo) ((cs.getD i (0, 0, 0)).2) = _; rw [z]
        have hl2 : SqL K H2 a (ps.map V.ref) := SqL.ext eN hl
        have hc2 : CnsAt CC H2 ps cs := hc.ext eN
        have hp2 : ShAt K H2 p lo := hp.ext eN
        have hb2 : SqT K H2 b [.ref p, .ref q] := SqT.ext eN hpq
        refine ⟨fun H' => Same H2 H', fun i v H' => v = .int (f i), fun i j => decide (f j < f i), Same.refl H2, fun H' s => Same.seq s hl2, fun c hco H' s => s _ _ hco, ?_, ?_, ?_⟩
        · intro i x H' hx s
          obtain ⟨c, e1, e2⟩ := hc2.get hx
          refine ⟨_, rfl, _, rfl, b, _, _, _, rfl, rfl, sqT_same s hb2, at0, x, p, c.1, c.2, lo, rfl, e2.same s, hp2.same s, s, ?_, fun _ _ z => z⟩
          show V.int _ = V.int (f i)
          rw [f1 i c e1]
        · rintro i j ki kj H' _ rfl rfl
          exact .ki _ _
        · intro x H' hx s
          obtain ⟨b1, b2, b3⟩ := argBest_max (bt := fun i j => decide (f j < f i)) (fun i j => by grind) (fun i j k => by grind) (ps.length - 1)
          generalize argBest (fun i j => decide (f j < f i)) (ps.length - 1) = wi at *
          obtain ⟨c, e1, e2⟩ := hc2.get hx
          obtain ⟨dx, e3⟩ := e2.same s
          refine ⟨x, CC, dx, _, _, rfl, e3, M.T.cl, M.T.no _ (by simp), cn_num, (by show 1 ≤ sizeLine; decide), fun l hl' => ?_⟩
          have s2 := same_new (o := .lst [.int c.1]) hl'
          refine k l _ (eN.trans (ExtN.of_same (s.trans s2))) ((T2.ext s).ext s2) (NewN.ext (eN.trans (ExtN.of_same s)) hl') ?_
          have hw : (cs.map (·.2))[wi]? = some c.2 := by rw [List.getElem?_map, e1]; rfl
          have hb : Best (cs.map (·.2)) wi lo := ⟨c.2, hw, fun y hy => by
            obtain ⟨j, hj⟩ := List.mem_iff_getElem?.mp hy
            rw [List.getElem?_map] at hj
            obtain ⟨c', e4, rfl⟩ := Option.map_eq_some_iff.mp hj
            have jl : j < cs.length := by
              by_cases z : j < cs.length
              · exact z
              · rw [List.getElem?_eq_none (by omega)] at e4; cases e4
            have z := of_decide_eq_false (b2 j (by omega))
            rw [f1 wi c e1, f1 j c' e4, BW.worth_lt, BW.D_neg c.2 c'.2] at z
            grind⟩
          have hf : ∀ j < wi, ¬ Best (cs.map (·.2)) j lo := fun j hj ⟨y, hy, ky⟩ => by
            rw [List.getElem?_map] at hy
            obtain ⟨c', e4, rfl⟩ := Option.map_eq_some_iff.mp hy
            have z := of_decide_eq_true (b3 j hj)
            rw [f1 wi c e1, f1 j c' e4, BW.worth_lt, BW.D_neg c'.2 c.2] at z
            have := ky c.2 (List.mem_of_getElem? hw)
            grind
          have e5 : piecesW (cs.map (·.2)) lo lo = [⟨wi, ofRat lo, ofRat lo⟩] := by
            unfold piecesW; rw [if_pos rfl, BW.bestAt_some.mpr ⟨hb, hf⟩]
          have e6 : cs.getD wi (0, 0, 0) = c := by rw [List.getD_eq_getElem?_getD, e1]; rfl
          rw [e5]
          show upd H' l (.lst [.int c.1]) l = some (.lst [.int (cs.getD wi (0, 0, 0)).1])
          rw [e6]; exact upd_same
      · refine ifF (decide_eq_false fun z => e1 (Rat.ext z.1 (by have := z.2; omega))) ⟨(by show 0 ≤ sizeLine; decide), fun W hW => ⟨_, rfl, b, _, _, _, rfl, rfl, sqT_same (same_new hW) hpq, at0, ?_⟩⟩
        have lt : lo < hi := by grind
        have ch := BW.clip_chain hne h0 h2 lt
        have epw : piecesW (cs.map (·.2)) lo hi = (Vaskyc.pieces (cs.map (·.2))).filterMap (Vaskyz.clip (ofRat lo) (ofRat hi)) := by
          unfold piecesW; rw [if_neg e1]
        rw [← epw] at ch
        have al : (piecesW (cs.map (·.2)) lo hi).length ≤ 1000002 := by
          rw [epw]
          refine Nat.le_trans (List.length_filterMap_le _ _) (Nat.le_trans (BW.pieces_len _) ?_)
          rw [List.length_map]
          have := Nat.mul_le_mul hn hn
          omega
        generalize piecesW (cs.map (·.2)) lo hi = all at *
        refine ⟨fun m σ H' => ∃ (u : Addr) (v4 : Option V) (done r : List Piece) (cur : Rat), σ = [some (.ref a), some (.ref b), some (.ref W), some (.ref u), v4] ∧ ExtN H H' ∧ Tabs T H' ∧ H' W = some (.lst ((numsOf cs done).map V.int)) ∧ ShAt K H' u cur ∧ all = done ++ r ∧ Chain (cs.map (·.2)) cur hi r ∧ m = r.length,
          ⟨_, p, none, [], all, lo, rfl, ExtN.of_same (same_new hW), hT.ext (same_new hW), upd_same, hp.same (same_new hW), rfl, ch, rfl⟩, ?_⟩
        rintro m σ H1 ⟨u, v4, done, r, cur, rfl, eN, T1, hW1, hu, ea, hch, hm⟩
        have hq1 : ShAt K H1 q hi := hq.ext eN
        refine ⟨_, rfl, _, rfl, b, _, _, _, rfl, rfl, SqT.ext eN hpq, at1, u, q, cur, hi, rfl, hu, hq1, _, rfl, ?_⟩
        cases r with
        | nil =>
          have e2 : cur = hi := hch
          refine ifF (decide_eq_false (by rw [e2]; exact Rat.lt_irrefl)) ⟨_, rfl, k W H1 eN T1 (NewN.of hW) ?_⟩
          rw [ea, List.append_nil]; exact hW1
        | cons pc r =>
          obtain ⟨cc, e3, e4, e5, e6, e7⟩ := id hch
          have lt2 : cur < hi := by have := Chain.le e7; grind
          refine ifT (decide_eq_true lt2) ⟨_, fun _ _ z => z, _, rfl, _, rfl, a, u, ps, cs, cur, rfl, SqL.ext eN hl, hc.ext eN, fun z => e0 (by rw [z]; rfl), hu, T1, fun H2 eN2 T2 w2 x c hx hcx ab => ?_⟩
          have ew : w2 = pc.i := Above.head hch ab
          obtain ⟨dx, hcn⟩ := id ((hc.get hx).elim fun c' q => (Option.some.inj (hcx.symm.trans q.1)) ▸ q.2.ext (eN.trans eN2))
          have hW2 := eN2 _ _ hW1 (fun _ z => by cases z)
          refine ⟨_, rfl, .inl ⟨rfl, _, SqL.of hW2⟩, _, rfl, x, CC, dx, _, _, rfl, hcn, M.T.cl, M.T.no _ (by simp), cn_num, W, _, _, rfl, rfl, hW2, ?_, ?_⟩
          · show ((numsOf cs done).map V.int).length < sizeLine
            have e8 : done.length + (pc :: r).length = all.length := by rw [ea, List.length_append]
            rw [List.length_map]
            show (done.map _).length < 2 ^ 24
            rw [List.length_map]
            omega
          · have eN3 : ExtN H (upd H2 W (.lst ((numsOf cs done).map V.int ++ [.int c.1]))) := ExtN.put (eN.trans eN2) hW
            have T3 : Tabs T (upd H2 W (.lst ((numsOf cs done).map V.int ++ [.int c.1]))) := Tabs.put T2 hW2
            have hcx3 : CnAt CC (upd H2 W (.lst ((numsOf cs done).map V.int ++ [.int c.1]))) x c.1 c.2 := by
              obtain ⟨c', q1, q2⟩ := hc.get hx
              have e := Option.some.inj (hcx.symm.trans q1)
              subst e
              exact q2.ext eN3
            refine ⟨_, rfl, _, rfl, _, rfl, b, _, _, _, rfl, rfl, SqT.ext eN3 hpq, at1, a, x, q, ps, cs, c.1, c.2, hi, rfl, SqL.ext eN3 hl, hc.ext eN3, ok, hcx3, ok c (List.mem_of_getElem? hcx), hq.ext eN3, fun u2 H4 s4 hu2 => ?_⟩
            have hw : (cs.map (·.2))[pc.i]? = some c.2 := by rw [← ew, List.getElem?_map, hcx]; rfl
            obtain ⟨g1, g2, g3⟩ := BW.Chain.end hch hw
            refine ⟨r.length, by rw [hm]; exact Nat.lt_succ_self _, u2, _, done ++ [pc], r, _, rfl, eN3.trans (ExtN.of_same s4), T3.ext s4, ?_, hu2, ?_, g3, rfl⟩
            · have e9 : numsOf cs (done ++ [pc]) = numsOf cs done ++ [c.1] := by
                unfold numsOf
                rw [List.map_append]
                show _ ++ [(cs.getD pc.i (0, 0, 0)).1] = _
                rw [← ew, List.getD_eq_getElem?_getD, hcx]; rfl
              rw [e9, List.map_append]
              exact s4 _ _ upd_same
            · rw [ea, List.append_assoc]; rfl
end
end BWP
namespace BWP
open PySem PySem.Spec PyProof.Rows L2
open LamX (Tabs ExtN TabB)
abbrev s_isWithin : Stmt := topS 76
/-- bounds: tuples of two -/
def BdsAt (K : PySem.W.Frag) (H : Hp) : List Addr → List (Int × Int) → Prop
  | [], [] => True
  | q :: qs, b :: bs => SqT K H q [.int b.1, .int b.2] ∧ BdsAt K H qs bs
  | _, _ => False
theorem BdsAt.same {K : PySem.W.Frag} {H H' : Hp} (s : Same H H') : ∀ {qs : List Addr} {bs : List (Int × Int)}, BdsAt K H qs bs → BdsAt K H' qs bs
  | [], [], _ => trivial
  | _ :: _, _ :: _, ⟨h1, h2⟩ => ⟨sqT_same s h1, BdsAt.same s h2⟩
theorem BdsAt.ext {K : PySem.W.Frag} {H H' : Hp} (s : ExtN H H') : ∀ {qs : List Addr} {bs : List (Int × Int)}, BdsAt K H qs bs → BdsAt K H' qs bs
  | [], [], _ => trivial
  | _ :: _, _ :: _, ⟨h1, h2⟩ => ⟨SqT.ext s h1, BdsAt.ext s h2⟩
theorem BdsAt.len {K : PySem.W.Frag} {H : Hp} : ∀ {qs : List Addr} {bs : List (Int × Int)}, BdsAt K H qs bs → qs.length = bs.length
  | [], [], _ => rfl
  | _ :: _, _ :: _, ⟨_, h2⟩ => by rw [List.length_cons, List.length_cons, BdsAt.len h2]
theorem BdsAt.get {K : PySem.W.Frag} {H : Hp} : ∀ {qs : List Addr} {bs : List (Int × Int)} {i : Nat} {q : Addr}, BdsAt K H qs bs → qs[i]? = some q → ∃ b, bs[i]? = some b ∧ SqT K H q [.int b.1, .int b.2]
  | [], [], i, p, _, e => by simp at e
  | q :: ps, c :: cs, 0, p, ⟨h1, _⟩, e => by
    have e : q = p := by simpa using e
    subst e; exact ⟨c, rfl, h1⟩
  | q :: ps, c :: cs, i + 1, p, ⟨_, h2⟩, e => by
    have e : ps[i]? = some p := by simpa using e
    obtain ⟨c', e1, e2⟩ := BdsAt.get h2 e
    exact ⟨c', by simpa using e1, e2⟩
def inB (ns : List Int) (bs : List (Int × Int)) : Bool := (ns.zip bs).all fun x => decide (x.2.1 ≤ x.1 ∧ x.1 ≤ x.2.2)
def spWithin (K : PySem.W.Frag) : Sp := fun vs H Q _ => ∃ (r b : Addr) (ns : List Int) (qs : List Addr) (bs : List (Int × Int)), vs = [.ref r, .ref b] ∧ SqL K H r (ns.map V.int) ∧ SqL K H b (qs.map V.ref) ∧ BdsAt K H qs bs ∧ ns.length ≤ 1000 ∧
  ∀ H', Same H H' → Q (.bl (inB ns bs)) H'
theorem ref_of {ps : List Addr} {i : Nat} {v : V} (h : (ps.map V.ref)[i]? = some v) : ∃ p, ps[i]? = some p ∧ v = .ref p := by
  rw [List.getElem?_map] at h
  obtain ⟨p, e1, e2⟩ := Option.map_eq_some_iff.mp h
  exact ⟨p, e1, e2.symm⟩
theorem int_of {ns : List Int} {i : Nat} {v : V} (h : (ns.map V.int)[i]? = some v) : ∃ n, ns[i]? = some n ∧ v = .int n := by
  rw [List.getElem?_map] at h
  obtain ⟨p, e1, e2⟩ := Option.map_eq_some_iff.mp h
  exact ⟨p, e1, e2.symm⟩
section
variable {P : Program} {w : World} {K : PySem.W.Frag} {mg : Str → Option Value} {base : Heap} {d : Dn}
theorem sc_isWithin : FnScope ["row", "bounds", "value", "pair"] ["row", "bounds"] (defScope s_isWithin) := ⟨rfl, rfl, rfl, by decide +kernel, rfl, by decide +kernel, by decide +kernel⟩
theorem ok_isWithin (G : Glb K mg "is_within" s_isWithin ["row", "bounds"] d) (ma : mg "all" = none) (mz : mg "zip" = none) : FnOk P w K mg base CX0 1 d.a d.fd ["row", "bounds"] (spWithin K) := by
  refine G.F.ok sc_isWithin (fun vs H Q E h => ?_) (fun cdv A outer s H vs Q E hr h => ?_)
  · obtain ⟨r, b, ns, qs, bs, rfl, _⟩ := h; rfl
  · obtain ⟨r, b, ns, qs, bs, rfl, h1, h2, h3, hn, k⟩ := h
    refine ⟨_, pss_one (ps_ret (pe_callB (cr_all rfl) (by rfl) ma (by decide +kernel) (pa_cons
      (pe_lc (own := [("value", 2), ("pair", 3)]) (g := gTup K 2 (gCons (gName 2) (gCons (gName 3) gNil))) (tt := tYes) rfl sc_isWithin.nd (pi_zip (by rfl) mz (pa_cons (pv 0) (pa_cons (pv 1) pa_nil))) (blkOk_by (N := ["row", "bounds", "value", "pair"]) (sc := defScope s_isWithin) (by decide +kernel))
        (fun _ _ _ _ _ => pg_tup rfl (pgs_cons (pg_name (i := 2) sc_isWithin.nd rfl (Or.inl rfl)) (pgs_cons (pg_name (i := 3) sc_isWithin.nd rfl (Or.inl rfl)) pgs_nil))) (fun _ _ _ _ _ => pts_nil)
        (fun _ _ _ _ _ => pe_chain op_le op_le (pe_ix (show IxR _ (rIxT K) from ix_tup) (pv 3) pe_int (fun _ _ => rfl)) (pv 2) (pe_ix (show IxR _ (rIxT K) from ix_tup) (pv 3) pe_int (fun _ _ => rfl)))) pa_nil))), ?_⟩
    let bl : Nat → List Bool := fun i => ((ns.zip bs).take i).map fun x => decide (x.2.1 ≤ x.1 ∧ x.1 ≤ x.2.2)
    have hlen := h3.len
    refine ⟨_, rfl, _, rfl, r, b, ns.map V.int, qs.map V.ref, rfl, h1, h2, fun D hD => lc_it (walk_zip (n := min ns.length qs.length) (xs := ns.map V.int) (ys := qs.map V.ref) (by rw [List.length_map, List.length_map]))
      (fun i H1 => Same H H1 ∧ H1 D = some (.lst ((bl i).map V.bl))) ⟨same_new hD, upd_same⟩ (fun i H1 _ q => ⟨Same.seq q.1 h1, Same.seq q.1 h2⟩) (fun i v H1 H2 hi q y => ?_) (fun H1 q => ?_)⟩
    · obtain ⟨s1, hD1⟩ := q
      obtain ⟨T, x, y, rfl, hT, rfl, ex, ey⟩ := y
      obtain ⟨n, en, rfl⟩ := int_of ex
      obtain ⟨p, ep, rfl⟩ := ref_of ey
      obtain ⟨bd, eb, hb⟩ := h3.get ep
      have s2 := same_new (o := .tup [.int n, .ref p]) hT
      have hb2 := sqT_same (s1.trans s2) hb
      have e1 : (ns.zip bs)[i]? = some (n, bd) := by rw [List.getElem?_zip_eq_some]; exact ⟨en, eb⟩
      have e2 : bl (i + 1) = bl i ++ [decide (bd.1 ≤ n ∧ n ≤ bd.2)] := by
        show List.map _ ((ns.zip bs).take (i + 1)) = _
        rw [List.take_succ, e1, List.map_append]; rfl
      have hl : (bl i).length < sizeLine := by
        show (List.map _ ((ns.zip bs).take i)).length < 2 ^ 24
        rw [List.length_map, List.length_take]
        have : i < ns.length := by omega
        omega
      have fin : ∀ v, v = decide (bd.1 ≤ n ∧ n ≤ bd.2) → ∃ acc, (upd H1 T (.tup [.int n, .ref p])) D = some (.lst acc) ∧ acc.length < sizeLine ∧ (Same H (upd (upd H1 T (.tup [.int n, .ref p])) D (.lst (acc ++ [.bl v]))) ∧ upd (upd H1 T (.tup [.int n, .ref p])) D (.lst (acc ++ [.bl v])) D = some (.lst ((bl (i + 1)).map V.bl))) := by
        intro v hv
        refine ⟨_, s2 _ _ hD1, by rw [List.length_map]; exact hl, fun b' o e => ?_, ?_⟩
        · exact (upd_ne (ne_of_none e hD)).trans ((s1.trans s2) _ _ e)
        · rw [upd_same, e2, List.map_append, hv]; rfl
      refine ⟨T, _, rfl, SqT.of upd_same, rfl, _, _, rfl, _, _, rfl, rfl, rfl, ?_⟩
      refine ⟨_, rfl, p, _, _, _, rfl, rfl, hb2, at0, _, rfl, _, _, rfl, rfl, _, rfl, ?_⟩
      by_cases c1 : bd.1 ≤ n
      · refine ifT (decide_eq_true c1) ⟨_, rfl, p, _, _, _, rfl, rfl, hb2, at1, _, _, rfl, rfl, fin _ ?_⟩
        simp [c1]
      · refine ifF (decide_eq_false c1) (fin _ ?_)
        simp [c1]
    · obtain ⟨s1, hD1⟩ := q
      refine ⟨D, bl _, rfl, SqL.of hD1, ?_⟩
      have e : (bl (min ns.length qs.length)).all id = inB ns bs := by
        show (List.map _ ((ns.zip bs).take (min ns.length qs.length))).all id = _
        rw [List.take_of_length_le (by rw [List.length_zip]; omega)]
        unfold inB
        rw [List.all_map]; rfl
      rw [e]; exact k H1 s1
end
end BWP
namespace BWP
open PySem PySem.Spec PyProof.Rows L2
open LamX (Tabs ExtN TabB)
open BW (Sm Ln LnOk slopeI meet sl ofRat likedR SheetOk)
/-! ### the session's object -/
structure Mth (K : PySem.W.Frag) (C : Addr) (n q : Str) (st : Stmt) (ps : List Str) (d : Dn) : Prop where
  m : Meth K C n d.a
  F : Fun K n q st d.a d.fd
  b : Binds K d.fd ps []
abbrev s_Session : Stmt := topS 74
abbrev s_WishI : Stmt := inClass (topS 73) 0
def SMETH : List Str := ["load", "bound", "begin", "like", "still", "ask", "best", "undo", "change", "has_measure", "has_item", "numbers_within", "contender", "contenders", "good_value", "good_row", "winners"]
/-- the object at x holds h and v -/
def SesAt (C : Addr) (H : Hp) (x : Addr) (h v : V) : Prop := ∃ dx fs, H x = some (.ins C dx fs) ∧ fs.lookup ("held" : Str) = some h ∧ fs.lookup ("wishes" : Str) = some v ∧ ∀ m ∈ SMETH, fs.lookup m = none
theorem SesAt.ext {C : Addr} {H H' : Hp} {x : Addr} {h v : V} (e : ExtN H H') (k : SesAt C H x h v) : SesAt C H' x h v := let ⟨dx, fs, k1, k2⟩ := k; ⟨dx, fs, e _ _ k1 (fun _ z => by cases z), k2⟩
theorem SesAt.same {C : Addr} {H H' : Hp} {x : Addr} {h v : V} (e : Same H H') (k : SesAt C H x h v) : SesAt C H' x h v := k.ext (ExtN.of_same e)
def wsF (b : Addr) (p l : V) : List (Str × V) := [("bounds", .ref b), ("pair", p), ("left", l)]
theorem ws_b {b : Addr} {p l : V} : (wsF b p l).lookup ("bounds" : Str) = some (.ref b) := lk0
theorem ws_p {b : Addr} {p l : V} : (wsF b p l).lookup ("pair" : Str) = some p := (lk1 (by decide +kernel)).trans lk0
theorem ws_l {b : Addr} {p l : V} : (wsF b p l).lookup ("left" : Str) = some l := (lk1 (by decide +kernel)).trans ((lk1 (by decide +kernel)).trans lk0)
def TwoAt (K : PySem.W.Frag) (H : Hp) (w : Vaskyz.Wish) (p l : V) : Prop := (w.two = none → p = .non ∧ l = .non) ∧ ∀ m k, w.two = some (m, k) → ∃ (a b : Addr) (lo hi : Rat), p = .ref a ∧ l = .ref b ∧ SqT K H a [.int (m : Nat), .int (k : Nat)] ∧ LeftAt K H b lo hi ∧ w.lo = ofRat lo ∧ w.hi = ofRat hi ∧ 0 ≤ lo ∧ lo ≤ hi ∧ hi ≤ 1
def WsAt (K : PySem.W.Frag) (C : Addr) (H : Hp) (v : Addr) (w : Vaskyz.Wish) : Prop := ∃ (dx b : Addr) (qs : List Addr) (p l : V), H v = some (.ins C dx (wsF b p l)) ∧ H b = some (.lst (qs.map V.ref)) ∧ BdsAt K H qs w.bounds ∧ TwoAt K H w p l
theorem TwoAt.ext {K : PySem.W.Frag} {H H' : Hp} {w : Vaskyz.Wish} {p l : V} (e : ExtN H H') (h : TwoAt K H w p l) : TwoAt K H' w p l := ⟨h.1, fun m k q => let ⟨a, b, lo, hi, h1, h2, h3, h4, h5⟩ := h.2 m k q; ⟨a, b, lo, hi, h1, h2, SqT.ext e h3, h4.ext e, h5⟩⟩
theorem WsAt.ext {K : PySem.W.Frag} {C : Addr} {H H' : Hp} {v : Addr} {w : Vaskyz.Wish} (e : ExtN H H') (h : WsAt K C H v w) : WsAt K C H' v w :=
  let ⟨dx, b, qs, p, l, h1, h2, h3, h4⟩ := h; ⟨dx, b, qs, p, l, e _ _ h1 (fun _ z => by cases z), e _ _ h2 (fun _ z => by cases z), h3.ext e, h4.ext e⟩
theorem WsAt.same {K : PySem.W.Frag} {C : Addr} {H H' : Hp} {v : Addr} {w : Vaskyz.Wish} (e : Same H H') (h : WsAt K C H v w) : WsAt K C H' v w := h.ext (ExtN.of_same e)
theorem RowsAt.ext {H H' : Hp} {ps : List Addr} {vss : List (List Int)} (e : ExtN H H') (h : RowsAt H ps vss) : RowsAt H' ps vss := by
  induction ps generalizing vss with
  | nil => cases vss <;> first | trivial | exact h
  | cons p ps ih => cases vss with
    | nil => exact h
    | cons vs vss => exact ⟨e _ _ h.1 (fun _ z => by cases z), ih h.2⟩
theorem RowsAt.get {H : Hp} : ∀ {ps : List Addr} {vss : List (List Int)} {i : Nat} {p : Addr}, RowsAt H ps vss → ps[i]? = some p → ∃ vs, vss[i]? = some vs ∧ H p = some (.lst (vs.map V.int))
  | [], [], i, p, _, e => by simp at e
  | q :: ps, c :: cs, 0, p, ⟨h1, _⟩, e => by
    have e : q = p := by simpa using e
    subst e; exact ⟨c, rfl, h1⟩
  | q :: ps, c :: cs, i + 1, p, ⟨_, h2⟩, e => by
    have e : ps[i]? = some p := by simpa using e
    obtain ⟨c', e1, e2⟩ := RowsAt.get h2 e
    exact ⟨c', by simpa using e1, e2⟩
theorem MLAt.ext {C : Addr} {H H' : Hp} {p : Addr} {s : Vaskya.Sheet} (e : ExtN H H') (h : MLAt C H p s) : MLAt C H' p s := by
  obtain ⟨dx, wl, rl, ps, h1, h2, h3, h4⟩ := h
  exact ⟨dx, wl, rl, ps, e _ _ h1 (fun _ z => by cases z), e _ _ h2 (fun _ z => by cases z), e _ _ h3 (fun _ z => by cases z), h4.ext e⟩
theorem ml_w {a b : Addr} : (mlF a b).lookup ("ways" : Str) = some (.ref a) := lk0
theorem ml_r {a b : Addr} : (mlF a b).lookup ("rows" : Str) = some (.ref b) := (lk1 (by decide +kernel)).trans lk0
abbrev s_hasMeas : Stmt := inClass s_Session 10
abbrev s_hasItem : Stmt := inClass s_Session 11
abbrev s_numsW : Stmt := inClass s_Session 12
abbrev s_cont : Stmt := inClass s_Session 13
abbrev s_goodV : Stmt := inClass s_Session 15
abbrev s_conts : Stmt := inClass s_Session 14
abbrev s_goodR : Stmt := inClass s_Session 16
abbrev s_winners : Stmt := inClass s_Session 17
/-- what the session's class is -/
structure SesC (K : PySem.W.Frag) (mg : Str → Option Value) (CS CM CW : Addr) (dM dW : Dn) : Prop where
  cl : Cls K CS
  no : ∀ f ∈ (["held", "wishes", "before"] : List Str), NoAttr K CS f
  ML : MLT K mg CM dM
  WS : Rec K mg "Wishes" "Wishes.__init__" s_WishI ["self", "bounds", "pair", "left"] ["bounds", "pair", "left"] CW dW
  len : mg "len" = none
def spHasMeas (CS CM : Addr) : Sp := fun vs H Q _ => ∃ (x h : Addr) (v : V) (m : Int) (s : Vaskya.Sheet), vs = [.ref x, .int m] ∧ SesAt CS H x (.ref h) v ∧ MLAt CM H h s ∧ Q (.bl (decide (0 ≤ m ∧ m < s.ms.length))) H
def spHasItem (CS CM : Addr) : Sp := fun vs H Q _ => ∃ (x h : Addr) (v : V) (m : Int) (s : Vaskya.Sheet), vs = [.ref x, .int m] ∧ SesAt CS H x (.ref h) v ∧ MLAt CM H h s ∧ Q (.bl (decide (0 ≤ m ∧ m < s.items.length))) H
def spGoodV (CS CM : Addr) : Sp := fun vs H Q _ => ∃ (x h : Addr) (v : V) (i m : Nat) (s : Vaskya.Sheet), vs = [.ref x, .int i, .int m] ∧ SesAt CS H x (.ref h) v ∧ MLAt CM H h s ∧ SheetOk s ∧ i < s.items.length ∧ m < s.ms.length ∧ Q (.int (((Vaskya.rows s).getD i []).getD m 0)) H
section
variable {P : Program} {w : World} {K : PySem.W.Frag} {mg : Str → Option Value} {base : Heap} {CS CM CW CC : Addr} {d dM dW dC dG : Dn}
theorem sc_hasMeas : FnScope ["self", "measure"] ["self", "measure"] (defScope s_hasMeas) := ⟨rfl, rfl, rfl, by decide +kernel, rfl, by decide +kernel, by decide +kernel⟩
theorem ok_hasMeas (G : Mth K CS "has_measure" "Session.has_measure" s_hasMeas ["self", "measure"] d) (M : SesC K mg CS CM CW dM dW) : FnOk P w K mg base CX0 1 d.a d.fd ["self", "measure"] (spHasMeas CS CM) := by
  refine G.F.ok sc_hasMeas (fun vs H Q E h => ?_) (fun cdv A outer s H vs Q E hr h => ?_)
  · obtain ⟨x, h, v, m, s, rfl, _⟩ := h; rfl
  · obtain ⟨x, h, v, m, s, rfl, ⟨dx, fs, h1, h2, _⟩, ⟨dl, wl, rl, ps, g1, g2, g3, g4⟩, k⟩ := h
    refine ⟨_, pss_one (ps_ret (pe_chain op_le op_lt pe_int (pv 1) (pe_callB call_len_seq (by rfl) M.len PySem.boot_len (pa_cons (pe_fld (pe_fld (pv 0) rfl) rfl) pa_nil)))), ?_⟩
    refine ⟨_, rfl, _, _, rfl, rfl, _, rfl, ?_⟩
    by_cases c : 0 ≤ m
    · refine ifT (decide_eq_true c) ⟨_, rfl, x, CS, dx, _, _, rfl, h1, M.cl, M.no _ (by simp), h2, h, CM, dl, _, _, rfl, g1, M.ML.cl, M.ML.no _ (by simp), ml_w, wl, _, rfl, .inl (SqL.of g2), _, _, rfl, rfl, ?_⟩
      rw [List.length_map, List.length_map]
      have e : decide (0 ≤ m ∧ m < (s.ms.length : Int)) = decide (m < (s.ms.length : Int)) := by simp [c]
      rw [e] at k
      exact k
    · refine ifF (decide_eq_false c) ?_
      have e : decide (0 ≤ m ∧ m < (s.ms.length : Int)) = false := by simp [c]
      rw [e] at k; exact k
theorem sc_hasItem : FnScope ["self", "item"] ["self", "item"] (defScope s_hasItem) := ⟨rfl, rfl, rfl, by decide +kernel, rfl, by decide +kernel, by decide +kernel⟩
theorem ok_hasItem (G : Mth K CS "has_item" "Session.has_item" s_hasItem ["self", "item"] d) (M : SesC K mg CS CM CW dM dW) : FnOk P w K mg base CX0 1 d.a d.fd ["self", "item"] (spHasItem CS CM) := by
  refine G.F.ok sc_hasItem (fun vs H Q E h => ?_) (fun cdv A outer s H vs Q E hr h => ?_)
  · obtain ⟨x, h, v, m, s, rfl, _⟩ := h; rfl
  · obtain ⟨x, h, v, m, s, rfl, ⟨dx, fs, h1, h2, _⟩, ⟨dl, wl, rl, ps, g1, g2, g3, g4⟩, k⟩ := h
    refine ⟨_, pss_one (ps_ret (pe_chain op_le op_lt pe_int (pv 1) (pe_callB call_len_seq (by rfl) M.len PySem.boot_len (pa_cons (pe_fld (pe_fld (pv 0) rfl) rfl) pa_nil)))), ?_⟩
    refine ⟨_, rfl, _, _, rfl, rfl, _, rfl, ?_⟩
    have hl := g4.len
    by_cases c : 0 ≤ m
    · refine ifT (decide_eq_true c) ⟨_, rfl, x, CS, dx, _, _, rfl, h1, M.cl, M.no _ (by simp), h2, h, CM, dl, _, _, rfl, g1, M.ML.cl, M.ML.no _ (by simp), ml_r, rl, _, rfl, .inl (SqL.of g3), _, _, rfl, rfl, ?_⟩
      rw [List.length_map, hl, List.length_map]
      have e : decide (0 ≤ m ∧ m < (s.items.length : Int)) = decide (m < (s.items.length : Int)) := by simp [c]
      rw [e] at k
      exact k
    · refine ifF (decide_eq_false c) ?_
      have e : decide (0 ≤ m ∧ m < (s.items.length : Int)) = false := by simp [c]
      rw [e] at k; exact k
theorem sc_goodV : FnScope ["self", "item", "measure"] ["self", "item", "measure"] (defScope s_goodV) := ⟨rfl, rfl, rfl, by decide +kernel, rfl, by decide +kernel, by decide +kernel⟩
theorem ok_goodV (G : Mth K CS "good_value" "Session.good_value" s_goodV ["self", "item", "measure"] d) (M : SesC K mg CS CM CW dM dW) : FnOk P w K mg base CX0 1 d.a d.fd ["self", "item", "measure"] (spGoodV CS CM) := by
  refine G.F.ok sc_goodV (fun vs H Q E h => ?_) (fun cdv A outer s H vs Q E hr h => ?_)
  · obtain ⟨x, h, v, i, m, s, rfl, _⟩ := h; rfl
  · obtain ⟨x, h, v, i, m, s, rfl, ⟨dx, fs, h1, h2, _⟩, ⟨dl, wl, rl, ps, g1, g2, g3, g4⟩, ok, hi, hm, k⟩ := h
    refine ⟨_, pss_one (ps_ret (pe_op op_mul (pe_ix ix_list (pe_fld (pe_fld (pv 0) rfl) rfl) (pv 2) (fun _ _ => rfl)) (pe_ix ix_list (pe_ix ix_list (pe_fld (pe_fld (pv 0) rfl) rfl) (pv 1) (fun _ _ => rfl)) (pv 2) (fun _ _ => rfl)))), ?_⟩
    have hl := g4.len
    rw [List.length_map] at hl
    obtain ⟨p, hp⟩ : ∃ p, ps[i]? = some p := ⟨_, List.getElem?_eq_getElem (by omega)⟩
    obtain ⟨vs, e1, e2⟩ := g4.get hp
    rw [List.getElem?_map] at e1
    obtain ⟨it, e3, rfl⟩ := Option.map_eq_some_iff.mp e1
    have mem := List.mem_of_getElem? e3
    have hr' := ok.row it mem
    obtain ⟨z, hz⟩ : ∃ z, it.vs[m]? = some z := ⟨_, List.getElem?_eq_getElem (by omega)⟩
    obtain ⟨me, hme⟩ : ∃ me, s.ms[m]? = some me := ⟨_, List.getElem?_eq_getElem hm⟩
    have hw : (s.ms.map wayI)[m]? = some (wayI me) := by rw [List.getElem?_map, hme]; rfl
    refine ⟨_, rfl, x, CS, dx, _, _, rfl, h1, M.cl, M.no _ (by simp), h2, h, CM, dl, _, _, rfl, g1, M.ML.cl, M.ML.no _ (by simp), ml_w, _, rfl, wl, _, _, _, rfl, rfl, SqL.of g2, at_int hw,
      _, rfl, x, CS, dx, _, _, rfl, h1, M.cl, M.no _ (by simp), h2, h, CM, dl, _, _, rfl, g1, M.ML.cl, M.ML.no _ (by simp), ml_r, _, rfl, rl, _, _, _, rfl, rfl, SqL.of g3, atI_nat (by rw [List.getElem?_map, hp]; rfl), _, rfl, p, _, _, _, rfl, rfl, SqL.of e2, at_int hz, _, _, rfl, rfl, ?_, ?_⟩
    · refine mul_small ?_
      unfold wayI; split <;> decide
    · have e : ((Vaskya.rows s).getD i []).getD m 0 = wayI me * z := by
        have q1 : (Vaskya.rows s)[i]? = some (Vaskya.goodOf s.ms it.vs) := by
          unfold Vaskya.rows; rw [List.getElem?_map, e3]; rfl
        have q2 : (s.ms.zip it.vs)[m]? = some (me, z) := by rw [List.getElem?_zip_eq_some]; exact ⟨hme, hz⟩
        rw [List.getD_eq_getElem?_getD (l := Vaskya.rows s), q1]
        show (Vaskya.goodOf s.ms it.vs).getD m 0 = _
        rw [List.getD_eq_getElem?_getD]
        unfold Vaskya.goodOf
        rw [List.getElem?_map, q2]
        show (if me.up = true then z else -z) = _
        unfold wayI
        split <;> simp
      rw [e] at k; exact k
end
end BWP
namespace BWP
open PySem PySem.Spec PyProof.Rows L2
open LamX (Tabs ExtN TabB)
open BW (Sm Ln LnOk slopeI meet sl ofRat likedR SheetOk)
def valOf (s : Vaskya.Sheet) (m k i : Nat) : Ln := Vaskyz.valueBy m k ((Vaskya.rows s).getD i [])
/-- an object that holds the list s and the wishes w -/
def HeldAt (K : PySem.W.Frag) (CS CM CW : Addr) (H : Hp) (x : Addr) (s : Vaskya.Sheet) (w : Vaskyz.Wish) : Prop := ∃ h v : Addr, SesAt CS H x (.ref h) (.ref v) ∧ MLAt CM H h s ∧ WsAt K CW H v w
theorem HeldAt.ext {K : PySem.W.Frag} {CS CM CW : Addr} {H H' : Hp} {x : Addr} {s : Vaskya.Sheet} {w : Vaskyz.Wish} (e : ExtN H H') (h : HeldAt K CS CM CW H x s w) : HeldAt K CS CM CW H' x s w := let ⟨a, v, h1, h2, h3⟩ := h; ⟨a, v, h1.ext e, h2.ext e, h3.ext e⟩
theorem HeldAt.same {K : PySem.W.Frag} {CS CM CW : Addr} {H H' : Hp} {x : Addr} {s : Vaskya.Sheet} {w : Vaskyz.Wish} (e : Same H H') (h : HeldAt K CS CM CW H x s w) : HeldAt K CS CM CW H' x s w := h.ext (ExtN.of_same e)
def spCont (K : PySem.W.Frag) (CS CM CW CC : Addr) : Sp := fun vs H Q _ => ∃ (x : Addr) (i m k : Nat) (s : Vaskya.Sheet) (w : Vaskyz.Wish), vs = [.ref x, .int i] ∧ HeldAt K CS CM CW H x s w ∧ SheetOk s ∧ w.two = some (m, k) ∧ i < s.items.length ∧ m < s.ms.length ∧ k < s.ms.length ∧
  ∀ p H', Same H H' → H p = none → CnAt CC H' p i (valOf s m k i) → Q (.ref p) H'
def spNumsW (K : PySem.W.Frag) (CS CM CW : Addr) : Sp := fun vs H Q _ => ∃ (x : Addr) (s : Vaskya.Sheet) (w : Vaskyz.Wish), vs = [.ref x] ∧ HeldAt K CS CM CW H x s w ∧ SheetOk s ∧
  ∀ p H', Same H H' → H p = none → H' p = some (.lst ((Vaskyz.nats (Vaskyz.within s w)).map V.int)) → Q (.ref p) H'
def spWinners (K : PySem.W.Frag) (CS CM CW : Addr) (T : List (Addr × Str)) : Sp := fun vs H Q _ => ∃ (x : Addr) (m k : Nat) (s : Vaskya.Sheet) (w : Vaskyz.Wish), vs = [.ref x] ∧ HeldAt K CS CM CW H x s w ∧ SheetOk s ∧ w.two = some (m, k) ∧ m < s.ms.length ∧ k < s.ms.length ∧ Tabs T H ∧
  ∀ p H', ExtN H H' → Tabs T H' → NewN H p → H' p = some (.lst ((Vaskyz.nats ((Vaskyz.piecesIn s w m k).map (·.i))).map V.int)) → Q (.ref p) H'
theorem valOf_ok {s : Vaskya.Sheet} (ok : SheetOk s) {m k i : Nat} : LnOk (valOf s m k i) := by
  have one : ∀ m : Nat, -1000 ≤ ((Vaskya.rows s).getD i []).getD m 0 ∧ ((Vaskya.rows s).getD i []).getD m 0 ≤ 1000 := fun m => by
    rw [List.getD_eq_getElem?_getD (l := Vaskya.rows s)]
    cases e : (Vaskya.rows s)[i]? with
    | none => simp
    | some r =>
      unfold Vaskya.rows at e
      rw [List.getElem?_map] at e
      obtain ⟨it, e3, rfl⟩ := Option.map_eq_some_iff.mp e
      show -1000 ≤ (Vaskya.goodOf s.ms it.vs).getD m 0 ∧ (Vaskya.goodOf s.ms it.vs).getD m 0 ≤ 1000
      rw [List.getD_eq_getElem?_getD]
      cases e2 : (Vaskya.goodOf s.ms it.vs)[m]? with
      | none => simp
      | some z =>
        unfold Vaskya.goodOf at e2
        rw [List.getElem?_map] at e2
        obtain ⟨y, e4, rfl⟩ := Option.map_eq_some_iff.mp e2
        have := ok.val it (List.mem_of_getElem? e3) y.2 (List.of_mem_zip (List.mem_of_getElem? e4)).2
        simp only [Option.getD_some]
        split <;> omega
  exact ⟨one m, one k⟩
section
variable {P : Program} {w : World} {K : PySem.W.Frag} {mg : Str → Option Value} {base : Heap} {CS CM CW CC : Addr} {d dM dW dC dG dB : Dn} {T : List (Addr × Str)}
theorem sc_cont : FnScope ["self", "item", "pair"] ["self", "item"] (defScope s_cont) := ⟨rfl, rfl, rfl, by decide +kernel, rfl, by decide +kernel, by decide +kernel⟩
theorem ok_cont (G : Mth K CS "contender" "Session.contender" s_cont ["self", "item"] d) (M : SesC K mg CS CM CW dM dW) (TC : CnT K mg CC dC) (GV : Mth K CS "good_value" "Session.good_value" s_goodV ["self", "item", "measure"] dG) : FnOk P w K mg base CX0 3 d.a d.fd ["self", "item"] (spCont K CS CM CW CC) := by
  have FC : FnOk P w K mg base CX0 1 dC.a dC.fd ["self", "number", "first", "second"] (spContI CC) := ok_ContI TC
  have FG : FnOk P w K mg base CX0 1 dG.a dG.fd ["self", "item", "measure"] (spGoodV CS CM) := ok_goodV GV M
  refine G.F.ok sc_cont (fun vs H Q E h => ?_) (fun cdv A outer s H vs Q E hr h => ?_)
  · obtain ⟨x, i, m, k, s, w, rfl, _⟩ := h; rfl
  · obtain ⟨x, i, m, k, s, w, rfl, ⟨h, v, hS, hM, hW⟩, ok, h2, hi, hm, hk, kQ⟩ := h
    have hr1 : Room 1 _ := hr.mono (by decide)
    refine ⟨_, pss_cons (ps_set (i := 2) sc_cont.nd rfl (.inl rfl) (pe_fld (pe_fld (pv 0) rfl) rfl))
      (pss_one (ps_ret (pe_make TC.mkr FC hr rfl TC.g TC.b .nil pass0 (pa_cons (pv 1) (pa_cons (pe_meth (pv 0) M.cl GV.m FG hr1 GV.b .nil pass0 (pa_cons (pv 1) (pa_cons (pe_ix ix_tup (pv 2) pe_int (fun _ _ => rfl)) pa_nil)))
        (pa_cons (pe_meth (pv 0) M.cl GV.m FG hr1 GV.b .nil pass0 (pa_cons (pv 1) (pa_cons (pe_ix ix_tup (pv 2) pe_int (fun _ _ => rfl)) pa_nil))) pa_nil)))))), ?_⟩
    obtain ⟨dx, fs, s1, s2, s3, s4⟩ := id hS
    obtain ⟨dv, b, qs, p, l, g1, g2, g3, g4⟩ := id hW
    obtain ⟨pa, pb, lo, hi', rfl, rfl, t1, _⟩ := g4.2 m k h2
    have nm : fs.lookup ("good_value" : Str) = none := s4 _ (by decide +kernel)
    refine ⟨_, rfl, x, CS, dx, _, _, rfl, s1, M.cl, M.no _ (by simp), s3, v, CW, dv, _, _, rfl, g1, M.WS.cl, M.WS.no _ (by simp), ws_p, _, rfl,
      _, rfl, x, dx, fs, rfl, s1, nm, _, rfl, _, rfl, pa, _, _, _, rfl, rfl, t1, at0, x, h, _, i, m, s, rfl, hS, hM, ok, hi, hm,
      _, rfl, x, dx, fs, rfl, s1, nm, _, rfl, _, rfl, pa, _, _, _, rfl, rfl, t1, at1, x, h, _, i, k, s, rfl, hS, hM, ok, hi, hk, fun q dq hq hdq ne => ?_⟩
    refine ⟨q, dq, i, valOf s m k i, rfl, upd_same, rfl, ?_⟩
    rw [upd_upd]
    exact kQ q _ (fun b' o e => (upd_ne (ne_of_none e hq)).trans ((upd_ne (ne_of_none e hdq)).trans e)) hq ⟨dq, upd_same⟩
theorem sc_numsW : FnScope ["self", "bounds", "number", "row"] ["self"] (defScope s_numsW) := ⟨rfl, rfl, rfl, by decide +kernel, rfl, by decide +kernel, by decide +kernel⟩
theorem ok_numsW (G : Mth K CS "numbers_within" "Session.numbers_within" s_numsW ["self"] d) (M : SesC K mg CS CM CW dM dW) (GB : Glb K mg "is_within" s_isWithin ["row", "bounds"] dB) (ma : mg "all" = none) (mz : mg "zip" = none) (me : mg "enumerate" = none) : FnOk P w K mg base CX0 2 d.a d.fd ["self"] (spNumsW K CS CM CW) := by
  have FB : FnOk P w K mg base CX0 1 dB.a dB.fd ["row", "bounds"] (spWithin K) := ok_isWithin GB ma mz
  refine G.F.ok sc_numsW (fun vs H Q E h => ?_) (fun cdv A outer s H vs Q E hr h => ?_)
  · obtain ⟨x, s, w, rfl, _⟩ := h; rfl
  · obtain ⟨x, s, w, rfl, ⟨h, v, hS, hM, hW⟩, ok, kQ⟩ := h
    refine ⟨_, pss_cons (ps_set (i := 1) sc_numsW.nd rfl (.inr rfl) (pe_fld (pe_fld (pv 0) rfl) rfl))
      (pss_one (ps_ret (pe_lc (own := [("number", 2), ("row", 3)]) (g := gTup K 2 (gCons (gName 2) (gCons (gName 3) gNil))) rfl sc_numsW.nd (pi_enum (by rfl) me (pa_cons (pe_fld (pe_fld (pv 0) rfl) rfl) pa_nil)) (blkOk_by (N := ["self", "bounds", "number", "row"]) (sc := defScope s_numsW) (by decide +kernel))
        (fun _ _ _ _ _ => pg_tup rfl (pgs_cons (pg_name (i := 2) sc_numsW.nd rfl (Or.inl rfl)) (pgs_cons (pg_name (i := 3) sc_numsW.nd rfl (Or.inl rfl)) pgs_nil))) (fun _ _ _ _ _ => pts_one (pt_val (pe_call FB hr rfl GB.g GB.k GB.b .nil pass0 (pa_cons (pv 3) (pa_cons (pv 1) pa_nil)))))
        (fun _ _ _ _ _ => pv 2)))), ?_⟩
    obtain ⟨dx, fs, s1, s2, s3, s4⟩ := id hS
    obtain ⟨dv, b, qs, p, l, g1, g2, g3, g4⟩ := id hW
    obtain ⟨dl, wl, rl, ps, m1, m2, m3, m4⟩ := id hM
    have hl := m4.len
    rw [List.length_map] at hl
    let nw : Nat → List Nat := fun n => (List.range n).filter fun i => (s.items[i]?).any (Vaskyz.inBounds w)
    refine ⟨_, rfl, x, CS, dx, _, _, rfl, s1, M.cl, M.no _ (by simp), s3, v, CW, dv, _, _, rfl, g1, M.WS.cl, M.WS.no _ (by simp), ws_b, _, rfl, x, CS, dx, _, _, rfl, s1, M.cl, M.no _ (by simp), s2, h, CM, dl, _, _, rfl, m1, M.ML.cl, M.ML.no _ (by simp), ml_r,
      rl, ps.map V.ref, rfl, SqL.of m3, fun D hD => lc_it (walk_enum (xs := ps.map V.ref)) (fun i H1 => Same H H1 ∧ H1 D = some (.lst ((Vaskyz.nats (nw i)).map V.int))) ⟨same_new hD, upd_same⟩ (fun i H1 _ q => SqL.of (q.1 _ _ m3)) (fun i y H1 H2 hi q yp => ?_) (fun H1 q => ?_)⟩
    · obtain ⟨e1, hD1⟩ := q
      obtain ⟨T, x1, y1, rfl, hT, rfl, ex, ey⟩ := yp
      have ex : x1 = .int (i : Nat) := (Option.some.inj ex).symm
      subst ex
      obtain ⟨r, er, rfl⟩ := ref_of ey
      obtain ⟨vs, ev, hv⟩ := m4.get er
      rw [List.getElem?_map] at ev
      obtain ⟨it, ei, rfl⟩ := Option.map_eq_some_iff.mp ev
      have e2 := same_new (o := .tup [.int (i : Nat), .ref r]) hT
      have e12 := e1.trans e2
      have hrow := ok.row it (List.mem_of_getElem? ei)
      refine ⟨T, _, rfl, SqT.of upd_same, rfl, _, _, rfl, _, _, rfl, rfl, rfl, ?_⟩
      refine ⟨_, rfl, _, rfl, r, b, it.vs, qs, w.bounds, rfl, SqL.of (e12 _ _ hv), SqL.of (e12 _ _ g2), g3.same e12, by have := ok.m4; omega, fun H3 e3 => ?_⟩
      have es : nw (i + 1) = nw i ++ (if inB it.vs w.bounds = true then [i] else []) := by
        show List.filter _ (List.range (i + 1)) = _
        rw [List.range_succ, List.filter_append]
        congr 1
        have z : (s.items[i]?).any (Vaskyz.inBounds w) = inB it.vs w.bounds := by rw [ei]; rfl
        simp only [List.filter_cons, List.filter_nil, z]
      have ln : (nw i).length ≤ i := by
        have := List.length_filter_le (fun i => (s.items[i]?).any (Vaskyz.inBounds w)) (List.range i)
        rw [List.length_range] at this
        exact this
      have hi' : i < s.items.length := by rw [List.length_map] at hi; omega
      refine ⟨_, rfl, ?_⟩
      by_cases c : inB it.vs w.bounds = true
      · rw [if_pos c] at es
        refine ifT c ⟨_, rfl, _, e3 _ _ (e2 _ _ hD1), ?_, fun b' o e => ?_, ?_⟩
        · show ((Vaskyz.nats (nw i)).map V.int).length < 2 ^ 24
          unfold Vaskyz.nats
          rw [List.length_map, List.length_map]
          have := ok.i16
          omega
        · exact (upd_ne (ne_of_none e hD)).trans (e3 _ _ (e12 _ _ e))
        · rw [upd_same, es]
          unfold Vaskyz.nats
          rw [List.map_append, List.map_append]; rfl
      · rw [if_neg c, List.append_nil] at es
        refine ifF (by simpa using c) ⟨e12.trans e3, ?_⟩
        rw [es]; exact e3 _ _ (e2 _ _ hD1)
    · obtain ⟨e1, hD1⟩ := q
      refine kQ D H1 e1 hD ?_
      rw [List.length_map, hl] at hD1
      exact hD1
end
end BWP
namespace BWP
open PySem PySem.Spec PyProof.Rows L2
open LamX (Tabs ExtN TabB)
open BW (Sm Ln LnOk slopeI meet sl ofRat likedR SheetOk)
def csOf (s : Vaskya.Sheet) (m k : Nat) (is : List Nat) : List (Int × Ln) := is.map fun (i : Nat) => ((i : Int), valOf s m k i)
theorem cs_two {s : Vaskya.Sheet} {w : Vaskyz.Wish} {m k : Nat} : (csOf s m k (Vaskyz.within s w)).map (·.2) = Vaskyz.twoOf s w m k := by
  unfold csOf Vaskyz.twoOf; rw [List.map_map]; rfl
theorem cs_num {s : Vaskya.Sheet} {m k : Nat} (is : List Nat) (j : Nat) : ((csOf s m k is).getD j (0, 0, 0)).1 = ((is.getD j 0 : Nat) : Int) := by
  rw [List.getD_eq_getElem?_getD, List.getD_eq_getElem?_getD]
  unfold csOf
  rw [List.getElem?_map]
  cases is[j]? <;> rfl
theorem wins_eq {s : Vaskya.Sheet} {w : Vaskyz.Wish} {m k : Nat} {lo hi : Rat} (h1 : w.lo = ofRat lo) (h2 : w.hi = ofRat hi) :
    numsOf (csOf s m k (Vaskyz.within s w)) (piecesW ((csOf s m k (Vaskyz.within s w)).map (·.2)) lo hi) = Vaskyz.nats ((Vaskyz.piecesIn s w m k).map (·.i)) := by
  rw [cs_two]
  have e : Vaskyz.piecesIn s w m k = (piecesW (Vaskyz.twoOf s w m k) lo hi).map fun p => { p with i := (Vaskyz.within s w).getD p.i 0 } := by
    unfold Vaskyz.piecesIn piecesW
    rw [h1, h2]
    simp only [BW.ofRat_eq]
    rfl
  rw [e]
  unfold numsOf Vaskyz.nats
  rw [List.map_map, List.map_map]
  refine List.map_congr_left fun p _ => ?_
  rw [cs_num]; rfl
theorem within_lt {s : Vaskya.Sheet} {w : Vaskyz.Wish} {i : Nat} (h : i ∈ Vaskyz.within s w) : i < s.items.length := by
  unfold Vaskyz.within at h
  exact List.mem_range.mp (List.mem_filter.mp h).1
theorem within_len {s : Vaskya.Sheet} {w : Vaskyz.Wish} : (Vaskyz.within s w).length ≤ s.items.length := by
  have := List.length_filter_le (fun i => (s.items[i]?).any (Vaskyz.inBounds w)) (List.range s.items.length)
  rw [List.length_range] at this
  exact this
theorem CnAt.put {C : Addr} {H : Hp} {D a : Addr} {i : Int} {x : Ln} {xs ys : List V} (h : CnAt C H a i x) (hD : H D = some (.lst xs)) : CnAt C (upd H D (.lst ys)) a i x := let ⟨dx, e⟩ := h; ⟨dx, (upd_ne (ne_of e hD (by intro z; cases z))).trans e⟩
theorem CnsAt.put {C : Addr} {H : Hp} {D : Addr} {xs ys : List V} (hD : H D = some (.lst xs)) : ∀ {ps : List Addr} {cs : List (Int × Ln)}, CnsAt C H ps cs → CnsAt C (upd H D (.lst ys)) ps cs
  | [], [], _ => trivial
  | _ :: _, _ :: _, ⟨h1, h2⟩ => ⟨h1.put hD, CnsAt.put hD h2⟩
theorem CnsAt.snoc {C : Addr} {H : Hp} {p : Addr} {c : Int × Ln} (h : CnAt C H p c.1 c.2) : ∀ {ps : List Addr} {cs : List (Int × Ln)}, CnsAt C H ps cs → CnsAt C H (ps ++ [p]) (cs ++ [c])
  | [], [], _ => ⟨h, trivial⟩
  | _ :: _, _ :: _, ⟨h1, h2⟩ => ⟨h1, CnsAt.snoc h h2⟩
/-- the items within the bounds, as contenders -/
def spConts (K : PySem.W.Frag) (CS CM CW CC : Addr) : Sp := fun vs H Q _ => ∃ (x : Addr) (m k : Nat) (s : Vaskya.Sheet) (w : Vaskyz.Wish), vs = [.ref x] ∧ HeldAt K CS CM CW H x s w ∧ SheetOk s ∧ w.two = some (m, k) ∧ m < s.ms.length ∧ k < s.ms.length ∧
  ∀ D H' cs, Same H H' → H D = none → H' D = some (.lst (cs.map V.ref)) → CnsAt CC H' cs (csOf s m k (Vaskyz.within s w)) → Q (.ref D) H'
section
variable {P : Program} {w : World} {K : PySem.W.Frag} {mg : Str → Option Value} {base : Heap} {CS CM CW CC cJ PJ cW PW : Addr} {d dM dW dC dG dB dN dK dP dJ dE dI dS dO dD dL dQ : Dn} {T : List (Addr × Str)}
theorem sc_conts : FnScope ["self", "item"] ["self"] (defScope s_conts) := ⟨rfl, rfl, rfl, by decide +kernel, rfl, by decide +kernel, by decide +kernel⟩
theorem ok_conts (G : Mth K CS "contenders" "Session.contenders" s_conts ["self"] d) (M : SesC K mg CS CM CW dM dW) (GN : Mth K CS "numbers_within" "Session.numbers_within" s_numsW ["self"] dN) (GK : Mth K CS "contender" "Session.contender" s_cont ["self", "item"] dK)
    (FN : FnOk P w K mg base CX0 2 dN.a dN.fd ["self"] (spNumsW K CS CM CW)) (FK : FnOk P w K mg base CX0 3 dK.a dK.fd ["self", "item"] (spCont K CS CM CW CC)) :
    FnOk P w K mg base CX0 4 d.a d.fd ["self"] (spConts K CS CM CW CC) := by
  refine G.F.ok sc_conts (fun vs H Q E h => ?_) (fun cdv A outer s H vs Q E hr h => ?_)
  · obtain ⟨x, m, k, s, w, rfl, _⟩ := h; rfl
  · obtain ⟨x, m, k, s, w, rfl, hH, ok, h2, hm, hk, kQ⟩ := h
    have hr2 : Room 2 _ := hr.mono (by decide)
    refine ⟨_, pss_one (ps_ret
      (pe_lc (own := [("item", 1)]) (g := gName 1) (tt := tYes) rfl sc_conts.nd (pi_list (pe_meth0 (pv 0) M.cl GN.m FN hr2 GN.b .nil pass0)) (blkOk_by (N := ["self", "item"]) (sc := defScope s_conts) (by decide +kernel)) (fun _ _ _ _ _ => pg_name (i := 1) sc_conts.nd rfl (Or.inl rfl)) (fun _ _ _ _ _ => pts_nil)
        (fun _ _ _ _ _ => pe_meth (pv 0) M.cl GK.m FK hr GK.b .nil pass0 (pa_cons (pv 1) pa_nil)))), ?_⟩
    obtain ⟨h, v, hS, hM, hW⟩ := id hH
    obtain ⟨dx, fs, s1, s2, s3, s4⟩ := id hS
    have nN : fs.lookup ("numbers_within" : Str) = none := s4 _ (by decide +kernel)
    have nC : fs.lookup ("contender" : Str) = none := s4 _ (by decide +kernel)
    let is := Vaskyz.within s w
    refine ⟨_, rfl, x, dx, fs, rfl, s1, nN, x, s, w, rfl, hH, ok, fun nl H1 e1 hnl hn1 => ⟨nl, rfl, ⟨_, SqL.of hn1⟩, fun D hD => lc_list (K := K) (a := nl) (xs := (Vaskyz.nats is).map V.int)
      (fun i H2 => Same H1 H2 ∧ ∃ cs : List Addr, H2 D = some (.lst (cs.map V.ref)) ∧ CnsAt CC H2 cs (csOf s m k (is.take i))) ⟨same_new hD, [], upd_same, (trivial : CnsAt CC _ [] [])⟩ (fun i H2 _ q => SqL.of (q.1 _ _ hn1)) (fun i y H2 hy q => ?_) (fun H2 q => ?_)⟩⟩
    · obtain ⟨e2, cs, hD2, hc2⟩ := q
      obtain ⟨n, en, rfl⟩ := int_of hy
      unfold Vaskyz.nats at en
      rw [List.getElem?_map] at en
      obtain ⟨j, ej, rfl⟩ := Option.map_eq_some_iff.mp en
      have e12 := e1.trans e2
      refine ⟨rfl, _, rfl, x, dx, fs, rfl, e12 _ _ s1, nC, _, rfl, x, j, m, k, s, w, rfl, hH.same e12, ok, h2, within_lt (List.mem_of_getElem? ej), hm, hk, fun q H3 e3 hq hcq => ?_⟩
      have ln := hc2.len
      refine ⟨_, e3 _ _ hD2, ?_, fun b' o e => ?_, cs ++ [q], ?_, ?_⟩
      · show (cs.map V.ref).length < 2 ^ 24
        rw [List.length_map, ln]
        unfold csOf
        rw [List.length_map, List.length_take]
        have := ok.i16
        have : is.length ≤ s.items.length := within_len (s := s) (w := w)
        omega
      · exact (upd_ne (ne_of_none e hD)).trans (e3 _ _ (e2 _ _ e))
      · rw [upd_same, List.map_append]; rfl
      · have qD : q ≠ D := fun z => by rw [z, hD2] at hq; cases hq
        have ec : csOf s m k (is.take (i + 1)) = csOf s m k (is.take i) ++ [((j : Int), valOf s m k j)] := by
          unfold csOf
          rw [List.take_succ, ej, List.map_append]; rfl
        rw [ec]
        exact CnsAt.snoc (CnAt.put hcq (e3 _ _ hD2)) (CnsAt.put (e3 _ _ hD2) (hc2.same e3))
    · obtain ⟨e2, cs, hD2, hc2⟩ := q
      have e12 := e1.trans e2
      have lt : is.take ((Vaskyz.nats is).map V.int).length = is := by
        unfold Vaskyz.nats
        rw [List.length_map, List.length_map, List.take_length]
      rw [lt] at hc2
      exact kQ D H2 cs e12 (e1.free hD) hD2 hc2
theorem cs_ok {s : Vaskya.Sheet} (ok : SheetOk s) {m k : Nat} {is : List Nat} : ∀ c ∈ csOf s m k is, LnOk c.2 := fun c hc => by
  unfold csOf at hc
  obtain ⟨i, _, rfl⟩ := List.mem_map.mp hc
  exact valOf_ok ok
theorem cs_len {s : Vaskya.Sheet} (ok : SheetOk s) {w : Vaskyz.Wish} {m k : Nat} : (csOf s m k (Vaskyz.within s w)).length ≤ 16 := by
  unfold csOf
  rw [List.length_map]
  have := ok.i16
  have := within_len (s := s) (w := w)
  omega
theorem sc_winners : FnScope ["self"] ["self"] (defScope s_winners) := ⟨rfl, rfl, rfl, by decide +kernel, rfl, by decide +kernel, by decide +kernel⟩
theorem ok_winners (G : Mth K CS "winners" "Session.winners" s_winners ["self"] d) (M : SesC K mg CS CM CW dM dW) (GN : Mth K CS "contenders" "Session.contenders" s_conts ["self"] dN)
    (GP : Glb K mg "piece_winners" s_pWinners ["contenders", "left"] dP)
    (FN : FnOk P w K mg base CX0 4 dN.a dN.fd ["self"] (spConts K CS CM CW CC)) (FP : FnOk P w K mg base CX0 5 dP.a dP.fd ["contenders", "left"] (spWin K CC T)) :
    FnOk P w K mg base CX0 6 d.a d.fd ["self"] (spWinners K CS CM CW T) := by
  refine G.F.ok sc_winners (fun vs H Q E h => ?_) (fun cdv A outer s H vs Q E hr h => ?_)
  · obtain ⟨x, m, k, s, w, rfl, _⟩ := h; rfl
  · obtain ⟨x, m, k, s, w, rfl, hH, ok, h2, hm, hk, hT, kQ⟩ := h
    have hr4 : Room 4 _ := hr.mono (by decide)
    refine ⟨_, pss_one (ps_ret (pe_call FP hr rfl GP.g GP.k GP.b .nil pass0 (pa_cons (pe_meth0 (pv 0) M.cl GN.m FN hr4 GN.b .nil pass0) (pa_cons (pe_fld (pe_fld (pv 0) rfl) rfl) pa_nil)))), ?_⟩
    obtain ⟨h, v, hS, hM, hW⟩ := id hH
    obtain ⟨dx, fs, s1, s2, s3, s4⟩ := id hS
    obtain ⟨dv, b, qs, p, l, g1, g2, g3, g4⟩ := id hW
    obtain ⟨pa, pb, lo, hi, rfl, rfl, t1, t2, t3, t4, t5, t6, t7⟩ := g4.2 m k h2
    have nN : fs.lookup ("contenders" : Str) = none := s4 _ (by decide +kernel)
    refine ⟨_, rfl, x, dx, fs, rfl, s1, nN, x, m, k, s, w, rfl, hH, ok, h2, hm, hk, fun D H2 cs e12 hD hD2 hc2 => ?_⟩
    refine ⟨_, rfl, x, CS, dx, _, _, rfl, e12 _ _ s1, M.cl, M.no _ (by simp), s3, v, CW, dv, _, _, rfl, e12 _ _ g1, M.WS.cl, M.WS.no _ (by simp), ws_l, D, pb, cs, csOf s m k (Vaskyz.within s w), lo, hi, rfl, SqL.of hD2, hc2, cs_ok ok, t2.same e12, t5, t6, t7, Nat.le_trans (cs_len ok) (by decide), hT.ext e12, fun q H3 e3 T3 nq hq => ?_⟩
    rw [wins_eq t3 t4] at hq
    refine kQ q H3 ((ExtN.of_same e12).trans e3) T3 (fun o eo => ?_) hq
    exact nq o (e12 _ _ eo)
end
end BWP
namespace BW
/-! ### the calls of a list of whole numbers -/
/-- how many numbers a call has that has no row -/
def howMany (p : Int) : Nat := if p = 1 then 3 else if p = 2 then 2 else if p = 3 then 2 else 0
theorem call_load {r : List Int} {c : List (List Int)} {t : List Int} (h : PyFlat.call PyVaskyz.shape (0 :: r) = some (c, t)) : ∃ n r', r = n :: r' ∧ 0 ≤ n ∧ n.toNat ≤ r'.length ∧ c = [[0], r'.take n.toNat] ∧ t = r'.drop n.toNat := by
  have h : (match PyFlat.rows 1 r with | none => none | some (xs, t) => some ((0 :: []) :: xs, t)) = some (c, t) := h
  cases r with
  | nil => cases h
  | cons n r' =>
    by_cases z : 0 ≤ n ∧ n.toNat ≤ r'.length
    · have e : PyFlat.rows 1 (n :: r') = some ([r'.take n.toNat], r'.drop n.toNat) := by
        simp only [PyFlat.rows, PyFlat.row, if_pos z]
      rw [e] at h
      cases h
      exact ⟨n, r', rfl, z.1, z.2, rfl, rfl⟩
    · have e : PyFlat.rows 1 (n :: r') = none := by
        simp only [PyFlat.rows, PyFlat.row, if_neg z]
      rw [e] at h
      cases h
theorem call_rest {p : Int} {r : List Int} {c : List (List Int)} {t : List Int} (hp : p ≠ 0) (h : PyFlat.call PyVaskyz.shape (p :: r) = some (c, t)) : (1 ≤ p ∧ p ≤ 7) ∧ howMany p ≤ r.length ∧ c = [p :: r.take (howMany p)] ∧ t = r.drop (howMany p) := by
  have key : ∀ n : Nat, PyVaskyz.shape p = some (n, 0) → n ≤ r.length ∧ c = [p :: r.take n] ∧ t = r.drop n := by
    intro n e
    have h : (match PyVaskyz.shape p with
      | none => none
      | some (n, k) => if r.length < n then none else match PyFlat.rows k (r.drop n) with
        | none => none
        | some (xs, t) => some ((p :: r.take n) :: xs, t)) = some (c, t) := h
    rw [e] at h
    by_cases z : r.length < n
    · simp only [if_pos z] at h; cases h
    · simp only [if_neg z, PyFlat.rows] at h
      cases h
      exact ⟨by omega, rfl, rfl⟩
  have none_ : PyVaskyz.shape p = none → False := by
    intro e
    have h : (match PyVaskyz.shape p with
      | none => none
      | some (n, k) => if r.length < n then none else match PyFlat.rows k (r.drop n) with
        | none => none
        | some (xs, t) => some ((p :: r.take n) :: xs, t)) = some (c, t) := h
    rw [e] at h
    cases h
  unfold PyVaskyz.shape at key none_
  unfold howMany
  by_cases e1 : p = 1
  · subst e1; exact ⟨by decide, key 3 rfl⟩
  by_cases e2 : p = 2
  · subst e2; exact ⟨by decide, key 2 rfl⟩
  by_cases e3 : p = 3
  · subst e3; exact ⟨by decide, key 2 rfl⟩
  by_cases e4 : p = 4
  · subst e4; exact ⟨by decide, key 0 rfl⟩
  by_cases e5 : p = 5
  · subst e5; exact ⟨by decide, key 0 rfl⟩
  by_cases e6 : p = 6
  · subst e6; exact ⟨by decide, key 0 rfl⟩
  by_cases e7 : p = 7
  · subst e7; exact ⟨by decide, key 0 rfl⟩
  exact absurd (none_ (by simp [hp, e1, e2, e3, e4, e5, e6, e7])) id
theorem calls_cons {f : Nat} {p : Int} {r : List Int} {cs : List (List (List Int))} (h : PyFlat.calls PyVaskyz.shape f (p :: r) = some cs) : ∃ f' c t cs', PyFlat.call PyVaskyz.shape (p :: r) = some (c, t) ∧ PyFlat.calls PyVaskyz.shape f' t = some cs' ∧ cs = c :: cs' := by
  cases f with
  | zero => cases h
  | succ f =>
    have h : (match PyFlat.call PyVaskyz.shape (p :: r) with
      | none => none
      | some (c, t) => match PyFlat.calls PyVaskyz.shape f t with
        | none => none
        | some cs => some (c :: cs)) = some cs := h
    cases e : PyFlat.call PyVaskyz.shape (p :: r) with
    | none => rw [e] at h; cases h
    | some x =>
      obtain ⟨c, t⟩ := x
      rw [e] at h
      cases e2 : PyFlat.calls PyVaskyz.shape f t with
      | none => simp only [e2] at h; cases h
      | some cs' =>
        simp only [e2] at h
        exact ⟨f, c, t, cs', rfl, e2, (Option.some.inj h).symm⟩
theorem calls_nil {f : Nat} {cs : List (List (List Int))} (h : PyFlat.calls PyVaskyz.shape f [] = some cs) : cs = [] := by
  cases f <;> exact (Option.some.inj h).symm
theorem whole_one (p : Int) (xs : List Int) : PyVaskyz.whole [p :: xs] = [p :: xs] := by
  unfold PyVaskyz.whole
  split <;> first | rfl | simp_all
theorem whole_load (b : List Int) : PyVaskyz.whole [[0], b] = [[0], b] := rfl
end BW
namespace BWP
open PySem PySem.Spec PyProof.Rows L2
open BW (howMany)
abbrev s_firstN : Stmt := topS 88
abbrev s_howMany : Stmt := topS 89
def spFirstN (K : PySem.W.Frag) : Sp := fun vs H Q _ => ∃ (a : Addr) (ns : List Int) (i : Nat) (p : Int), vs = [.ref a, .int i] ∧ SqL K H a (ns.map V.int) ∧ ns[i]? = some p ∧ Q (.int (if p = 0 then i + 2 else i + 1)) H
def spHowM (K : PySem.W.Frag) : Sp := fun vs H Q _ => ∃ (a : Addr) (ns : List Int) (i : Nat) (p : Int), vs = [.ref a, .int i] ∧ SqL K H a (ns.map V.int) ∧ ns[i]? = some p ∧ (p = 0 → ∃ n, ns[i + 1]? = some n ∧ Q (.int n) H) ∧ (p ≠ 0 → (1 ≤ p ∧ p ≤ 7) ∧ Q (.int (howMany p)) H)
def HOWM : List V := [.int 0, .int 3, .int 2, .int 2, .int 0, .int 0, .int 0, .int 0]
theorem howm_at {p : Int} (h : 1 ≤ p ∧ p ≤ 7) : atI HOWM p = some (.int (howMany p)) := by
  have : p = 1 ∨ p = 2 ∨ p = 3 ∨ p = 4 ∨ p = 5 ∨ p = 6 ∨ p = 7 := by omega
  rcases this with e | e | e | e | e | e | e <;> subst e <;> rfl
section
variable {P : Program} {w : World} {K : PySem.W.Frag} {mg : Str → Option Value} {base : Heap} {d : Dn}
theorem sc_firstN : FnScope ["calls", "place"] ["calls", "place"] (defScope s_firstN) := ⟨rfl, rfl, rfl, by decide +kernel, rfl, by decide +kernel, by decide +kernel⟩
theorem ok_firstN (G : Glb K mg "first_number" s_firstN ["calls", "place"] d) (mL : Cst mg "LOAD" (.int 0)) : FnOk P w K mg base CX0 1 d.a d.fd ["calls", "place"] (spFirstN K) := by
  refine G.F.ok sc_firstN (fun vs H Q E h => ?_) (fun cdv A outer s H vs Q E hr h => ?_)
  · obtain ⟨a, ns, i, p, rfl, _⟩ := h; rfl
  · obtain ⟨a, ns, i, p, rfl, hS, hp, k⟩ := h
    refine ⟨_, pss_one (ps_ret (pe_ifExp (pt_cmpR op_eq (pe_ix ix_list (pv 0) (pv 1) (fun _ _ => rfl)) (pe_cst rfl mL) (nomark _)) (pe_op op_add (pv 1) pe_int) (pe_op op_add (pv 1) pe_int))), ?_⟩
    refine ⟨_, rfl, _, rfl, a, _, _, _, rfl, rfl, hS, at_int hp, rfl, _, rfl, ?_⟩
    by_cases c : p = 0
    · rw [if_pos c] at k
      exact ifT (decide_eq_true (by rw [c])) ⟨_, rfl, _, _, rfl, rfl, k⟩
    · rw [if_neg c] at k
      exact ifF (decide_eq_false fun z => c (V.int.inj z)) ⟨_, rfl, _, _, rfl, rfl, k⟩
theorem sc_howMany : FnScope ["calls", "place"] ["calls", "place"] (defScope s_howMany) := ⟨rfl, rfl, rfl, by decide +kernel, rfl, by decide +kernel, by decide +kernel⟩
theorem ok_howMany {aH : Addr} (G : Glb K mg "how_many_numbers" s_howMany ["calls", "place"] d) (mL : Cst mg "LOAD" (.int 0)) (mH : Cst mg "HOW_MANY" (.ref aH)) (hH : ∀ H, SqT K H aH HOWM) : FnOk P w K mg base CX0 1 d.a d.fd ["calls", "place"] (spHowM K) := by
  refine G.F.ok sc_howMany (fun vs H Q E h => ?_) (fun cdv A outer s H vs Q E hr h => ?_)
  · obtain ⟨a, ns, i, p, rfl, _⟩ := h; rfl
  · obtain ⟨a, ns, i, p, rfl, hS, hp, k0, k1⟩ := h
    refine ⟨_, pss_one (ps_ret (pe_ifExp (pt_cmpR op_eq (pe_ix ix_list (pv 0) (pv 1) (fun _ _ => rfl)) (pe_cst rfl mL) (nomark _)) (pe_ix ix_list (pv 0) (pe_op op_add (pv 1) pe_int) (fun _ _ => rfl)) (pe_ix ix_tup (pe_cst rfl mH) (pe_ix ix_list (pv 0) (pv 1) (fun _ _ => rfl)) (fun _ _ => rfl)))), ?_⟩
    refine ⟨_, rfl, _, rfl, a, _, _, _, rfl, rfl, hS, at_int hp, rfl, _, rfl, ?_⟩
    by_cases c : p = 0
    · obtain ⟨n, hn, k⟩ := k0 c
      exact ifT (decide_eq_true (by rw [c])) ⟨_, rfl, _, rfl, _, _, rfl, rfl, a, _, _, _, rfl, rfl, hS, at_int hn, k⟩
    · obtain ⟨hb, k⟩ := k1 c
      exact ifF (decide_eq_false fun z => c (V.int.inj z)) ⟨_, rfl, _, rfl, a, _, _, _, rfl, rfl, hS, at_int hp, aH, _, _, _, rfl, rfl, hH _, howm_at hb, k⟩
end
end BWP
namespace BWP
open PySem PySem.Spec PyProof.Rows L2
open LamX (Tabs ExtN TabB)
open BW (Sm Ln LnOk ofRat)
/-- all stays but the tables and the objects of the class CS -/
def Fr (CS : Addr) (H H' : Hp) : Prop := ∀ b o, H b = some o → (∀ ps, o ≠ .tbl ps) → (∀ dx fs, o ≠ .ins CS dx fs) → H' b = some o
section
variable {K : PySem.W.Frag} {CS C CM CW : Addr} {H H' H'' : Hp}
theorem Fr.refl : Fr CS H H := fun _ _ h _ _ => h
theorem Fr.trans (a : Fr CS H H') (b : Fr CS H' H'') : Fr CS H H'' := fun c o h n m => b c o (a c o h n m) n m
theorem Fr.of (e : ExtN H H') : Fr CS H H' := fun b o h n _ => e b o h n
theorem Fr.ofS (e : Same H H') : Fr CS H H' := fun b o h _ _ => e b o h
theorem Fr.own {x dx : Addr} {fs : List (Str × V)} {o : HO} (h : H x = some (.ins CS dx fs)) : Fr CS H (upd H x o) := fun b u e _ m => (upd_ne fun z => m dx fs (by rw [z, h] at e; exact (Option.some.inj e).symm)).trans e
theorem Fr.new {x : Addr} {o : HO} (h : H x = none) : Fr CS H (upd H x o) := Fr.ofS (same_new h)
theorem SqL.fr {a : Addr} {xs : List V} (e : Fr CS H H') (h : SqL K H a xs) : SqL K H' a xs := by
  rcases h with (h | ⟨o, h⟩) | h
  · exact .inl (.inl (e _ _ h (fun _ z => by cases z) (fun _ _ z => by cases z)))
  · exact .inl (.inr ⟨o, e _ _ h (fun _ z => by cases z) (fun _ _ z => by cases z)⟩)
  · exact .inr h
theorem SqT.fr {a : Addr} {xs : List V} (e : Fr CS H H') (h : SqT K H a xs) : SqT K H' a xs := by
  rcases h with (h | ⟨o, h⟩) | h
  · exact .inl (.inl (e _ _ h (fun _ z => by cases z) (fun _ _ z => by cases z)))
  · exact .inl (.inr ⟨o, e _ _ h (fun _ z => by cases z) (fun _ _ z => by cases z)⟩)
  · exact .inr h
theorem ins_fr {a dx : Addr} {fs : List (Str × V)} (n : C ≠ CS) (e : Fr CS H H') (h : H a = some (.ins C dx fs)) : H' a = some (.ins C dx fs) := e _ _ h (fun _ z => by cases z) (fun _ _ z => by cases z; exact n rfl)
theorem lst_fr {a : Addr} {xs : List V} (e : Fr CS H H') (h : H a = some (.lst xs)) : H' a = some (.lst xs) := e _ _ h (fun _ z => by cases z) (fun _ _ z => by cases z)
theorem ShAt.fr {a : Addr} {q : Rat} (e : Fr CS H H') (h : ShAt K H a q) : ShAt K H' a q := ⟨SqT.fr e h.1, h.2⟩
theorem LeftAt.fr {a : Addr} {lo hi : Rat} (e : Fr CS H H') (h : LeftAt K H a lo hi) : LeftAt K H' a lo hi := let ⟨p, q, h1, h2, h3⟩ := h; ⟨p, q, SqT.fr e h1, h2.fr e, h3.fr e⟩
theorem BdsAt.fr (s : Fr CS H H') : ∀ {qs : List Addr} {bs : List (Int × Int)}, BdsAt K H qs bs → BdsAt K H' qs bs
  | [], [], _ => trivial
  | _ :: _, _ :: _, ⟨h1, h2⟩ => ⟨SqT.fr s h1, BdsAt.fr s h2⟩
theorem RowsAt.fr (e : Fr CS H H') : ∀ {ps : List Addr} {vss : List (List Int)}, RowsAt H ps vss → RowsAt H' ps vss
  | [], [], _ => trivial
  | _ :: _, _ :: _, ⟨h1, h2⟩ => ⟨lst_fr e h1, RowsAt.fr e h2⟩
theorem MLAt.fr {p : Addr} {s : Vaskya.Sheet} (n : CM ≠ CS) (e : Fr CS H H') (h : MLAt CM H p s) : MLAt CM H' p s := by
  obtain ⟨dx, wl, rl, ps, h1, h2, h3, h4⟩ := h
  exact ⟨dx, wl, rl, ps, ins_fr n e h1, lst_fr e h2, lst_fr e h3, h4.fr e⟩
theorem TwoAt.fr {w : Vaskyz.Wish} {p l : V} (e : Fr CS H H') (h : TwoAt K H w p l) : TwoAt K H' w p l := ⟨h.1, fun m k q => let ⟨a, b, lo, hi, h1, h2, h3, h4, h5⟩ := h.2 m k q; ⟨a, b, lo, hi, h1, h2, SqT.fr e h3, h4.fr e, h5⟩⟩
theorem WsAt.fr {v : Addr} {w : Vaskyz.Wish} (n : CW ≠ CS) (e : Fr CS H H') (h : WsAt K CW H v w) : WsAt K CW H' v w :=
  let ⟨dx, b, qs, p, l, h1, h2, h3, h4⟩ := h; ⟨dx, b, qs, p, l, ins_fr n e h1, lst_fr e h2, h3.fr e, h4.fr e⟩
/-- an object of the class CS changes -/
theorem Tabs.ins {T : List (Addr × Str)} {x dx : Addr} {fs fs' : List (Str × V)} (t : Tabs T H) (h : H x = some (.ins CS dx fs)) : Tabs T (upd H x (.ins CS dx fs')) := fun p hp => by
  obtain ⟨ps, h1, h2, h3⟩ := t p hp
  refine ⟨ps, (upd_ne (ne_of h1 h (by intro z; cases z))).trans h1, h2, fun pos cv hc => ?_⟩
  obtain ⟨c, e1, e2⟩ := h3 pos cv hc
  exact ⟨c, e1, (upd_ne (ne_of e2 h (by intro z; cases z))).trans e2⟩
end
end BWP
namespace BW
open Vaskyz (questions)
/-! ### how many questions -/
theorem q_small (f n : Nat) (h : n ≤ 1) : questions f n = 0 := by
  cases f with
  | zero => rfl
  | succ f => unfold Vaskyz.questions; rw [if_pos h]
theorem q_fuel : ∀ (f g n : Nat), n ≤ f → n ≤ g → questions f n = questions g n
  | 0, g, n, h, _ => by rw [q_small 0 n (by omega), q_small g n (by omega)]
  | f + 1, 0, n, _, h => by rw [q_small _ n (by omega), q_small 0 n (by omega)]
  | f + 1, g + 1, n, h1, h2 => by
    unfold Vaskyz.questions
    by_cases c : n ≤ 1
    · rw [if_pos c, if_pos c]
    · rw [if_neg c, if_neg c, q_fuel f g ((n + 1) / 2) (by omega) (by omega)]
/-- one more than for half of them, rounded up -/
theorem q_half {n : Nat} (h : 1 < n) : questions n n = questions ((n + 1) / 2) ((n + 1) / 2) + 1 := by
  cases n with
  | zero => omega
  | succ n =>
    have e : questions (n + 1) (n + 1) = questions n ((n + 1 + 1) / 2) + 1 := by
      show (if n + 1 ≤ 1 then 0 else questions n ((n + 1 + 1) / 2) + 1) = _
      rw [if_neg (by omega)]
    rw [e, q_fuel n ((n + 1 + 1) / 2) _ (by omega) (Nat.le_refl _)]
/-- so many are enough just where the pieces are at most two to it -/
theorem q_pow : ∀ (k n : Nat), questions n n ≤ k ↔ n ≤ 2 ^ k
  | 0, n => by
    by_cases c : n ≤ 1
    · rw [q_small n n c]; simp; exact c
    · rw [q_half (by omega)]; simp; omega
  | k + 1, n => by
    by_cases c : n ≤ 1
    · rw [q_small n n c]
      have := Nat.one_le_two_pow (n := k + 1)
      constructor <;> intro _ <;> omega
    · rw [q_half (by omega)]
      have := q_pow k ((n + 1) / 2)
      rw [Nat.pow_succ]
      omega
end BW
namespace BW
open VaskyBase
/-! ### narrowed one by one -/
def mayR (x : Ln) : List Ln → Rat → Rat → Bool
  | [], _, _ => true
  | y :: r, lo, hi => match likedR lo hi x y with
    | none => false
    | some z => mayR x r z.1 z.2
theorem D_sign {x y : Ln} (h : slopeI y < slopeI x) {t : Rat} : 0 ≤ D x y t ↔ meet x y ≤ t := by
  have sp : 0 < sl x y := sl_pos.mpr h
  have m0 : D x y (meet x y) = 0 := (meet_iff (by grind)).mpr rfl
  have e := D_from x y (meet x y) t
  rw [m0] at e
  constructor
  · intro z
    by_cases c : meet x y ≤ t
    · exact c
    · have := Rat.mul_pos (a := meet x y - t) (b := sl x y) (by grind) sp
      grind
  · intro z
    have := Rat.mul_nonneg (a := t - meet x y) (b := sl x y) (by grind) (by grind)
    grind
theorem D_sign' {x y : Ln} (h : slopeI x < slopeI y) {t : Rat} : 0 ≤ D x y t ↔ t ≤ meet x y := by
  have sp : 0 < sl y x := sl_pos.mpr h
  have sn : sl y x = - sl x y := sl_neg x y
  have m0 : D x y (meet x y) = 0 := (meet_iff (by grind)).mpr rfl
  have e := D_from x y (meet x y) t
  rw [m0] at e
  constructor
  · intro z
    by_cases c : t ≤ meet x y
    · exact c
    · have := Rat.mul_pos (a := t - meet x y) (b := - sl x y) (by grind) (by grind)
      grind
  · intro z
    have := Rat.mul_nonneg (a := meet x y - t) (b := - sl x y) (by grind) (by grind)
    grind
theorem likedR_some {lo hi : Rat} {x y : Ln} {z : Rat × Rat} (e : likedR lo hi x y = some z) (t : Rat) : (z.1 ≤ t ∧ t ≤ z.2) ↔ (lo ≤ t ∧ t ≤ hi ∧ 0 ≤ D x y t) := by
  unfold likedR at e
  by_cases hs : slopeI x = slopeI y
  · rw [if_pos hs] at e
    have s0 : sl x y = 0 := sl_eq.mpr hs.symm
    rw [D_zero s0]
    by_cases c : y.2 ≤ x.2
    · rw [if_pos c] at e; cases e
      have : (y.2 : Rat) ≤ (x.2 : Rat) := Rat.intCast_le_intCast.mpr c
      grind
    · rw [if_neg c] at e; cases e
  · rw [if_neg hs] at e
    by_cases c : slopeI y < slopeI x
    · rw [D_sign c]
      simp only [if_pos c] at e
      by_cases d : hi < (if lo < meet x y then meet x y else lo)
      · rw [if_pos d] at e; cases e
      · rw [if_neg d] at e; cases e
        by_cases f : lo < meet x y
        · simp only [if_pos f]; grind
        · simp only [if_neg f]; grind
    · rw [D_sign' (by omega)]
      simp only [if_neg c] at e
      by_cases d : (if meet x y < hi then meet x y else hi) < lo
      · rw [if_pos d] at e; cases e
      · rw [if_neg d] at e; cases e
        by_cases f : meet x y < hi
        · simp only [if_pos f]; grind
        · simp only [if_neg f]; grind
theorem likedR_none {lo hi : Rat} {x y : Ln} (e : likedR lo hi x y = none) {t : Rat} (h1 : lo ≤ t) (h2 : t ≤ hi) : ¬ 0 ≤ D x y t := by
  unfold likedR at e
  by_cases hs : slopeI x = slopeI y
  · rw [if_pos hs] at e
    have s0 : sl x y = 0 := sl_eq.mpr hs.symm
    rw [D_zero s0]
    by_cases c : y.2 ≤ x.2
    · rw [if_pos c] at e; cases e
    · have : (x.2 : Rat) < (y.2 : Rat) := Rat.intCast_lt_intCast.mpr (by omega)
      grind
  · rw [if_neg hs] at e
    by_cases c : slopeI y < slopeI x
    · rw [D_sign c]
      simp only [if_pos c] at e
      by_cases d : hi < (if lo < meet x y then meet x y else lo)
      · by_cases f : lo < meet x y
        · rw [if_pos f] at d; grind
        · rw [if_neg f] at d; grind
      · rw [if_neg d] at e; cases e
    · rw [D_sign' (by omega)]
      simp only [if_neg c] at e
      by_cases d : (if meet x y < hi then meet x y else hi) < lo
      · by_cases f : meet x y < hi
        · rw [if_pos f] at d; grind
        · rw [if_neg f] at d; grind
      · rw [if_neg d] at e; cases e
theorem mayR_iff {x : Ln} : ∀ {l : List Ln} {lo hi : Rat}, lo ≤ hi → (mayR x l lo hi = true ↔ ∃ t, lo ≤ t ∧ t ≤ hi ∧ ∀ y ∈ l, 0 ≤ D x y t)
  | [], lo, hi, h => ⟨fun _ => ⟨lo, Rat.le_refl, h, fun y hy => nomatch hy⟩, fun _ => rfl⟩
  | y :: r, lo, hi, h => by
    unfold mayR
    cases e : likedR lo hi x y with
    | none =>
      refine ⟨fun z => Bool.noConfusion z, fun ⟨t, h1, h2, h3⟩ => absurd (h3 y List.mem_cons_self) (likedR_none e h1 h2)⟩
    | some z =>
      show mayR x r z.1 z.2 = true ↔ _
      rw [mayR_iff (likedR_in h e).2.1]
      constructor
      · rintro ⟨t, h1, h2, h3⟩
        obtain ⟨a, b, c⟩ := (likedR_some e t).mp ⟨h1, h2⟩
        refine ⟨t, a, b, fun w hw => ?_⟩
        rcases List.mem_cons.mp hw with rfl | hw
        · exact c
        · exact h3 w hw
      · rintro ⟨t, h1, h2, h3⟩
        obtain ⟨a, b⟩ := (likedR_some e t).mpr ⟨h1, h2, h3 y List.mem_cons_self⟩
        exact ⟨t, a, b, fun w hw => h3 w (List.mem_cons_of_mem _ hw)⟩
theorem mayR_step {x y : Ln} (l : List Ln) {lo hi : Rat} : mayR x (y :: l) lo hi = (match likedR lo hi x y with | none => false | some z => mayR x l z.1 z.2) := rfl
/-- what the specification asks of an item, as the program finds it -/
theorem maybe_mayR {l : List Ln} {i : Nat} {x : Ln} {lo hi : Rat} (h0 : 0 ≤ lo) (h : lo ≤ hi) (h1 : hi ≤ 1) (hx : l[i]? = some x) :
    (match Vaskyc.sharesOf l i with
      | none => false
      | some x => !less x.2 (ofRat lo) && !less (ofRat hi) x.1) = mayR x l lo hi := by
  rw [Bool.eq_iff_iff]
  refine (maybe_iff h0 h h1).trans ?_
  rw [mayR_iff h]
  constructor
  · rintro ⟨t, a, b, x', e, k⟩
    rw [hx] at e; cases e
    exact ⟨t, a, b, k⟩
  · rintro ⟨t, a, b, k⟩
    exact ⟨t, a, b, x, hx, k⟩
theorem maybe_eq {s : Vaskya.Sheet} {w : Vaskyz.Wish} {m k : Nat} {lo hi : Rat} (e1 : w.lo = ofRat lo) (e2 : w.hi = ofRat hi) (h0 : 0 ≤ lo) (h : lo ≤ hi) (h1 : hi ≤ 1) :
    Vaskyz.maybe s w m k = ((List.range (Vaskyz.within s w).length).filter fun i => mayR ((Vaskyz.twoOf s w m k).getD i (0, 0)) (Vaskyz.twoOf s w m k) lo hi).map fun i => (Vaskyz.within s w).getD i 0 := by
  unfold Vaskyz.maybe
  simp only [e1, e2]
  congr 1
  refine List.filter_congr fun i hi' => ?_
  have hl : i < (Vaskyz.twoOf s w m k).length := by
    unfold Vaskyz.twoOf; rw [List.length_map]; exact List.mem_range.mp hi'
  have hx : (Vaskyz.twoOf s w m k)[i]? = some ((Vaskyz.twoOf s w m k).getD i (0, 0)) := by
    rw [List.getD_eq_getElem?_getD, List.getElem?_eq_getElem hl]; rfl
  exact maybe_mayR h0 h h1 hx
/-! ### the question -/
theorem question_some {ps : List Vaskyc.Piece} (h : 1 < ps.length) : ∃ p q, ps[ps.length / 2 - 1]? = some p ∧ ps[ps.length / 2]? = some q ∧ Vaskyz.question ps = some (p.i, q.i) := by
  have h1 : ps.length / 2 - 1 < ps.length := by omega
  have h2 : ps.length / 2 < ps.length := by omega
  refine ⟨_, _, List.getElem?_eq_getElem h1, List.getElem?_eq_getElem h2, ?_⟩
  unfold Vaskyz.question
  simp only [if_neg (by omega : ¬ ps.length ≤ 1), List.getElem?_eq_getElem h1, List.getElem?_eq_getElem h2]
/-- what ask tells of the pieces, in numbers -/
def askRow (is : List Nat) : List Nat := if 1 < is.length then (is.drop (is.length / 2 - 1)).take 2 else is
theorem two_at {α : Type} {l : List α} {i : Nat} {a b : α} (h1 : l[i]? = some a) (h2 : l[i + 1]? = some b) : (l.drop i).take 2 = [a, b] := by
  have l1 := (List.getElem?_eq_some_iff.mp h1)
  have l2 := (List.getElem?_eq_some_iff.mp h2)
  obtain ⟨a1, e1⟩ := l1
  obtain ⟨a2, e2⟩ := l2
  rw [List.drop_eq_getElem_cons a1, List.drop_eq_getElem_cons a2, e1, e2]
  rfl
end BW
namespace BW
open VaskyzNeutral (step encode asked1)
theorem asked_split {l : List Int} (h : PyVaskyz.answers_asked l = true) : ∃ cs, PyFlat.calls PyVaskyz.shape l.length l = some cs ∧ (∀ c ∈ cs, asked1 (PyVaskyz.whole c) = true) ∧ cs.length ≤ 40 ∧ PyVaskyz.answers l = PyFlat.told (PyFlat.played step VaskyzNeutral.start (cs.map PyVaskyz.whole)) ∧ (PyVaskyz.answers l).length ≤ 10000000 := by
  unfold PyVaskyz.answers_asked at h
  cases e : PyFlat.calls PyVaskyz.shape l.length l with
  | none => rw [e] at h; cases h
  | some cs =>
    rw [e] at h
    have h : (!cs.isEmpty && PyFlat.atMost 40 cs && PyInside.calls PyVaskyz.bound cs && VaskyzNeutral.asked (cs.map PyVaskyz.whole) && PyFlat.short 10000000 (PyVaskyz.answers l)) = true := h
    simp only [Bool.and_eq_true] at h
    obtain ⟨⟨⟨⟨h1, h2⟩, h3⟩, h4⟩, h5⟩ := h
    refine ⟨cs, rfl, fun c hc => ?_, of_decide_eq_true h2, ?_, of_decide_eq_true h5⟩
    · unfold VaskyzNeutral.asked at h4
      rw [Bool.and_eq_true] at h4
      exact List.all_eq_true.mp h4.1 _ (List.mem_map_of_mem hc)
    · unfold PyVaskyz.answers PyVaskyz.calls
      rw [e]
theorem load_asked {b : List Int} (h : asked1 [[0], b] = true) : (∀ n ∈ b, IsB n) ∧ b.length ≤ 8192 := by
  have h : ((b.all (fun (z : Int) => VaskyzNeutral.natural z 8)) && decide (b.length ≤ 8192)) = true := h
  rw [Bool.and_eq_true] at h
  refine ⟨fun n hn => ?_, of_decide_eq_true h.2⟩
  have := List.all_eq_true.mp h.1 n hn
  unfold VaskyzNeutral.natural at this
  simp only [Bool.and_eq_true, decide_eq_true_eq] at this
  exact ⟨this.1, by have := this.2; omega⟩
theorem step_load (o : Vaskyz.Obj) {b : List Int} (h : ∀ n ∈ b, IsB n) : step o [[0], b] = ((Vaskyz.step o (.load (octs b))).1, encode (Vaskyz.step o (.load (octs b))).2) := by
  have e : NeutralIO.bytes b = true := by
    unfold NeutralIO.bytes
    refine List.all_eq_true.mpr fun n hn => ?_
    have := h n hn
    simp only [Bool.and_eq_true, decide_eq_true_eq]
    unfold IsB at this
    omega
  unfold VaskyzNeutral.step VaskyzNeutral.callOf
  simp only [e, if_true]
  rfl
theorem step_bound (o : Vaskyz.Obj) (m lo hi : Int) : step o [[1, m, lo, hi]] = ((Vaskyz.step o (.bound m lo hi)).1, encode (Vaskyz.step o (.bound m lo hi)).2) := rfl
theorem step_begin (o : Vaskyz.Obj) (m k : Int) : step o [[2, m, k]] = ((Vaskyz.step o (.begin_ m k)).1, encode (Vaskyz.step o (.begin_ m k)).2) := rfl
theorem step_like (o : Vaskyz.Obj) (m k : Int) : step o [[3, m, k]] = ((Vaskyz.step o (.like m k)).1, encode (Vaskyz.step o (.like m k)).2) := rfl
theorem step_still (o : Vaskyz.Obj) : step o [[4]] = ((Vaskyz.step o .still).1, encode (Vaskyz.step o .still).2) := rfl
theorem step_ask (o : Vaskyz.Obj) : step o [[5]] = ((Vaskyz.step o .ask).1, encode (Vaskyz.step o .ask).2) := rfl
theorem step_best (o : Vaskyz.Obj) : step o [[6]] = ((Vaskyz.step o .best).1, encode (Vaskyz.step o .best).2) := rfl
theorem step_undo (o : Vaskyz.Obj) : step o [[7]] = ((Vaskyz.step o .undo).1, encode (Vaskyz.step o .undo).2) := rfl
theorem told_cons (a : List Int) (r : List (List Int)) : PyFlat.told (a :: r) = ((a.length : Int) :: a) ++ PyFlat.told r := rfl
end BW
namespace BW
/-- the call p with its numbers, as rows -/
def rowsOf (p : Int) (ns : List Int) : List (List Int) := if p = 0 then [[0], ns] else [p :: ns]
theorem flat_step {ns : List Int} {i f : Nat} {cs : List (List (List Int))} (hi : i < ns.length) (h : PyFlat.calls PyVaskyz.shape f (ns.drop i) = some cs) :
    ∃ (p : Int) (fs cnt f' : Nat) (c : List (List Int)) (cs2 : List (List (List Int))), ns[i]? = some p ∧ fs = (if p = 0 then i + 2 else i + 1) ∧ (p = 0 → ns[i + 1]? = some (cnt : Int)) ∧ (p ≠ 0 → (1 ≤ p ∧ p ≤ 7) ∧ cnt = howMany p) ∧ fs + cnt ≤ ns.length ∧
      cs = c :: cs2 ∧ PyVaskyz.whole c = rowsOf p ((ns.drop fs).take cnt) ∧ PyFlat.calls PyVaskyz.shape f' (ns.drop (fs + cnt)) = some cs2 := by
  have e0 : ns.drop i = ns[i] :: ns.drop (i + 1) := List.drop_eq_getElem_cons hi
  rw [e0] at h
  obtain ⟨f', c, t, cs2, h1, h2, h3⟩ := calls_cons h
  by_cases hp : ns[i] = 0
  · rw [hp] at h1
    obtain ⟨n, r, q1, q2, q3, q4, q5⟩ := call_load h1
    have hl : i + 1 < ns.length := by
      by_cases z : i + 1 < ns.length
      · exact z
      · rw [List.drop_eq_nil_of_le (by omega)] at q1; cases q1
    have e1 : ns.drop (i + 1) = ns[i + 1] :: ns.drop (i + 2) := List.drop_eq_getElem_cons hl
    rw [e1] at q1
    obtain ⟨g1, g2⟩ := List.cons.inj q1
    refine ⟨ns[i], i + 2, n.toNat, f', c, cs2, List.getElem?_eq_getElem hi, by rw [if_pos hp], fun _ => ?_, fun z => absurd hp z, ?_, h3, ?_, ?_⟩
    · rw [List.getElem?_eq_getElem hl, g1, Int.toNat_of_nonneg q2]
    · rw [← g2, List.length_drop] at q3; omega
    · unfold rowsOf; rw [if_pos hp, q4, ← g2]; rfl
    · rw [← List.drop_drop, g2, ← q5]; exact h2
  · obtain ⟨q1, q2, q3, q4⟩ := call_rest hp h1
    refine ⟨ns[i], i + 1, howMany ns[i], f', c, cs2, List.getElem?_eq_getElem hi, by rw [if_neg hp], fun z => absurd z hp, fun _ => ⟨q1, rfl⟩, ?_, h3, ?_, ?_⟩
    · rw [List.length_drop] at q2; omega
    · unfold rowsOf; rw [if_neg hp, q3, whole_one]
    · rw [← List.drop_drop, ← q4]; exact h2
end BW
namespace BW
open VaskyBase
open VaskyzNeutral (encode)
theorem nats_cons (n : Nat) (l : List Nat) : Vaskyz.nats (n :: l) = (n : Int) :: Vaskyz.nats l := rfl
theorem ask_eq {z : Vaskyz.Held} {m k : Nat} (h : z.w.two = some (m, k)) {ps : List Vaskyc.Piece} (hp : Vaskyz.piecesIn z.s z.w m k = ps) :
    encode (Vaskyz.looked z .ask) = ((Vaskyz.questions ps.length ps.length : Nat) : Int) :: (ps.length : Int) :: Vaskyz.nats (askRow (ps.map (·.i))) := by
  unfold Vaskyz.looked Vaskyz.withTwo
  simp only [h, hp]
  by_cases c : 1 < ps.length
  · obtain ⟨p, q, e1, e2, e3⟩ := question_some c
    rw [e3]
    have e4 : askRow (ps.map (·.i)) = [p.i, q.i] := by
      unfold askRow
      rw [List.length_map, if_pos c]
      refine two_at ?_ ?_
      · rw [List.getElem?_map, e1]; rfl
      · have : ps.length / 2 - 1 + 1 = ps.length / 2 := by omega
        rw [this, List.getElem?_map, e2]; rfl
    rw [e4]; rfl
  · have e3 : Vaskyz.question ps = none := by
      unfold Vaskyz.question
      simp only [if_pos (by omega : ps.length ≤ 1)]
    rw [e3]
    match ps, c with
    | [], _ => rfl
    | [p], _ => rfl
    | _ :: _ :: _, c => exact absurd (by simp) c
theorem still_eq {z : Vaskyz.Held} {m k : Nat} (h : z.w.two = some (m, k)) {lo hi : Rat} (e1 : z.w.lo = ofRat lo) (e2 : z.w.hi = ofRat hi) :
    encode (Vaskyz.looked z .still) = ((Vaskyz.maybe z.s z.w m k).length : Int) :: (Vaskyz.nats (Vaskyz.maybe z.s z.w m k) ++ [lo.num, (lo.den : Int), hi.num, (hi.den : Int)]) := by
  unfold Vaskyz.looked Vaskyz.withTwo
  simp only [h, e1, e2]
  show ((Vaskyz.maybe z.s z.w m k).length : Int) :: (Vaskyz.nats (Vaskyz.maybe z.s z.w m k) ++ [lo.num, (lo.den : Int)] ++ [hi.num, (hi.den : Int)]) = _
  rw [List.append_assoc (Vaskyz.nats (Vaskyz.maybe z.s z.w m k)) [lo.num, (lo.den : Int)]]; rfl
theorem best_eq {z : Vaskyz.Held} : encode (Vaskyz.looked z .best) = ((Vaskya.unbeatenIn (Vaskya.rows z.s) (Vaskyz.within z.s z.w)).length : Int) :: Vaskyz.nats (Vaskya.unbeatenIn (Vaskya.rows z.s) (Vaskyz.within z.s z.w)) := rfl
/-- as the program finds it -/
def unbR (row : List Int) (rows : List (List Int)) : Bool := !(rows.any fun o => Vaskya.beats o row)
theorem unb_eq (l : List (List Int)) (is : List Nat) : Vaskya.unbeatenIn l is = is.filter fun i => unbR (l.getD i []) (is.map fun j => l.getD j []) := by
  unfold Vaskya.unbeatenIn unbR
  refine List.filter_congr fun i _ => ?_
  rw [List.any_map]; rfl
end BW
namespace BWP
open PySem PySem.Spec PyProof.Rows L2
open LamX (Tabs ExtN TabB)
open BW (Sm Ln LnOk slopeI meet sl ofRat likedR mayR askRow unbR)
abbrev s_beats : Stmt := topS 1
abbrev s_isUnb : Stmt := topS 2
abbrev s_qNeeded : Stmt := topS 47
abbrev s_nextQ : Stmt := topS 48
abbrev s_mayBe : Stmt := topS 59
abbrev s_told : Stmt := topS 75
def spQ : Sp := fun vs H Q _ => ∃ n : Nat, vs = [.int n] ∧ n ≤ 2000000 ∧ Q (.int ((Vaskyz.questions n n : Nat) : Int)) H
def spNextQ (K : PySem.W.Frag) : Sp := fun vs H Q _ => ∃ (a : Addr) (is : List Nat), vs = [.ref a] ∧ SqL K H a ((Vaskyz.nats is).map V.int) ∧ ∀ p, H p = none → Q (.ref p) (upd H p (.lst ((Vaskyz.nats (askRow is)).map V.int)))
def shL (lo hi : Rat) : List Int := [lo.num, (lo.den : Int), hi.num, (hi.den : Int)]
def spTold (K : PySem.W.Frag) : Sp := fun vs H Q _ => ∃ (a : Addr) (lo hi : Rat), vs = [.ref a] ∧ LeftAt K H a lo hi ∧ ∀ l H', Same H H' → H l = none → H' l = some (.lst ((shL lo hi).map V.int)) → Q (.ref l) H'
def spMayBe (K : PySem.W.Frag) (C : Addr) : Sp := fun vs H Q _ => ∃ (a b l : Addr) (i : Int) (x : Ln) (ps : List Addr) (cs : List (Int × Ln)) (lo hi : Rat), vs = [.ref a, .ref b, .ref l] ∧ CnAt C H a i x ∧ LnOk x ∧ SqL K H b (ps.map V.ref) ∧ CnsAt C H ps cs ∧ (∀ c ∈ cs, LnOk c.2) ∧ LeftAt K H l lo hi ∧
  ∀ H', Same H H' → Q (.bl (mayR x (cs.map (·.2)) lo hi)) H'
def spBeats (K : PySem.W.Frag) : Sp := fun vs H Q _ => ∃ (a b : Addr) (ns ms : List Int), vs = [.ref a, .ref b] ∧ SqL K H a (ns.map V.int) ∧ SqL K H b (ms.map V.int) ∧ ns.length ≤ 1000 ∧ ∀ H', Same H H' → Q (.bl (Vaskya.beats ns ms)) H'
def spUnb (K : PySem.W.Frag) : Sp := fun vs H Q _ => ∃ (a b : Addr) (ns : List Int) (ps : List Addr) (nss : List (List Int)), vs = [.ref a, .ref b] ∧ SqL K H a (ns.map V.int) ∧ SqL K H b (ps.map V.ref) ∧ RowsAt H ps nss ∧ (∀ r ∈ nss, r.length ≤ 1000) ∧ nss.length ≤ 1000 ∧ ∀ H', Same H H' → Q (.bl (unbR ns nss)) H'
theorem canLay_ints : ∀ ns : List Int, PyData.canLayAll0 (ns.map PyData.int) = true
  | [] => rfl
  | n :: ns => by rw [List.map_cons, PyData.canLayAll0, canLay_ints ns]; rfl
theorem depth_ints : ∀ ns : List Int, PyData.depthAll (ns.map PyData.int) = 0
  | [] => rfl
  | n :: ns => by rw [List.map_cons, PyData.depthAll, depth_ints ns]; rfl
theorem shaped_ints (ns : List Int) : SeqAt.shaped (.list (ns.map PyData.int)) = true := by
  unfold SeqAt.shaped
  rw [PyData.canLay0, PyData.depth, canLay_ints, depth_ints]; rfl
section
variable {P : Program} {w : World} {K : PySem.W.Frag} {mg : Str → Option Value} {base : Heap} {CC : Addr} {d dC dS dL dG dE dI dW dB dK : Dn}
theorem sc_qNeeded : FnScope ["pieces", "needed"] ["pieces"] (defScope s_qNeeded) := ⟨rfl, rfl, rfl, by decide +kernel, rfl, by decide +kernel, by decide +kernel⟩
theorem ok_qNeeded (G : Glb K mg "questions_needed" s_qNeeded ["pieces"] d) : FnOk P w K mg base CX0 1 d.a d.fd ["pieces"] spQ := by
  refine G.F.ok sc_qNeeded (fun vs H Q E h => ?_) (fun cdv A outer s H vs Q E hr h => ?_)
  · obtain ⟨n, rfl, _⟩ := h; rfl
  · obtain ⟨n, rfl, hn, k⟩ := h
    refine ⟨_, pss_cons (ps_set (i := 1) sc_qNeeded.nd rfl (.inl rfl) pe_int) (pss_cons (ps_while PassesOwn.never (pt_cmpR op_gt (pv 0) pe_int (nomark _))
      (pss_cons (ps_set (i := 0) sc_qNeeded.nd rfl (.inl rfl) (pe_op op_fdivN (pe_op op_add (pv 0) pe_int) pe_int)) (pss_one (ps_aug (i := 1) sc_qNeeded.nd rfl (.inl rfl) pe_int ip_add)))) (pss_one (ps_ret (pv 1)))), ?_⟩
    refine ⟨fun m σ H' => ∃ (x y : Nat), σ = [some (.int x), some (.int y)] ∧ H' = H ∧ y + Vaskyz.questions x x = Vaskyz.questions n n ∧ m = x, ⟨_, n, 0, rfl, rfl, by omega, rfl⟩, ?_⟩
    rintro m σ H' ⟨x, y, rfl, rfl, hg, hm⟩
    subst hm
    refine ⟨_, rfl, _, _, rfl, rfl, _, rfl, ?_⟩
    by_cases c : 1 < m
    · refine ifT (decide_eq_true (by omega)) ⟨_, fun _ _ z => z, _, rfl, _, _, rfl, rfl, _, _, rfl, rfl, ⟨by decide, by decide⟩, _, rfl, _, _, rfl, rfl, (m + 1) / 2, by omega, (m + 1) / 2, y + 1, ?_, rfl, ?_, rfl⟩
      · have e : Int.fdiv ((m : Int) + 1) 2 = (((m + 1) / 2 : Nat) : Int) := by rw [Int.fdiv_eq_ediv_of_nonneg _ (by omega)]; omega
        show [some (V.int (Int.fdiv ((m : Int) + 1) 2)), some (V.int ((y : Int) + 1))] = _
        rw [e]; rfl
      · rw [← hg, BW.q_half c]; omega
    · refine ifF (decide_eq_false (by omega)) ⟨_, rfl, ?_⟩
      rw [BW.q_small m m (by omega)] at hg
      rw [← hg] at k; exact k
theorem sc_nextQ : FnScope ["winners", "middle"] ["winners"] (defScope s_nextQ) := ⟨rfl, rfl, rfl, by decide +kernel, rfl, by decide +kernel, by decide +kernel⟩
theorem ok_nextQ (G : Glb K mg "next_question" s_nextQ ["winners"] d) (ml : mg "len" = none) (mt : mg "list" = none) : FnOk P w K mg base CX0 1 d.a d.fd ["winners"] (spNextQ K) := by
  refine G.F.ok sc_nextQ (fun vs H Q E h => ?_) (fun cdv A outer s H vs Q E hr h => ?_)
  · obtain ⟨a, is, rfl, _⟩ := h; rfl
  · obtain ⟨a, is, rfl, hS, k⟩ := h
    refine ⟨_, pss_cons (ps_set (i := 1) sc_nextQ.nd rfl (.inl rfl) (pe_op op_fdivN (pe_callB call_len_seq (by rfl) ml PySem.boot_len (pa_cons (pv 0) pa_nil)) pe_int))
      (pss_one (ps_ret (pe_ifExp (pt_cmpR op_gt (pe_callB call_len_seq (by rfl) ml PySem.boot_len (pa_cons (pv 0) pa_nil)) pe_int (nomark _))
        (pe_slice sl_list (pv 0) (po_some (pe_op op_sub (pv 1) pe_int)) (po_some (pe_op op_add (pv 1) pe_int))) (pe_callTy call_list_of (by rfl) mt (by decide +kernel) (pa_cons (pv 0) pa_nil))))), ?_⟩
    have ln : ((Vaskyz.nats is).map V.int).length = is.length := by unfold Vaskyz.nats; rw [List.length_map, List.length_map]
    have e : Int.fdiv (is.length : Int) 2 = ((is.length / 2 : Nat) : Int) := by rw [Int.fdiv_eq_ediv_of_nonneg _ (by omega)]; omega
    refine ⟨_, rfl, a, _, rfl, .inl hS, _, _, rfl, rfl, ⟨by decide, by decide⟩, ?_⟩
    rw [ln]
    refine ⟨_, rfl, a, _, rfl, .inl hS, _, _, rfl, rfl, _, rfl, ?_⟩
    rw [ln]
    by_cases c : 1 < is.length
    · refine ifT (decide_eq_true (by omega)) ⟨_, rfl, _, rfl, _, _, rfl, rfl, _, rfl, _, rfl, _, _, rfl, rfl, _, rfl, a, _, rfl, hS, fun p hp => ?_⟩
      have cut : cutV ((Vaskyz.nats is).map V.int) (some (((is.length / 2 : Nat) : Int) - 1)) (some (((is.length / 2 : Nat) : Int) + 1)) = (Vaskyz.nats (askRow is)).map V.int := by
        have e1 : ((is.length / 2 : Nat) : Int) - 1 = ((is.length / 2 - 1 : Nat) : Int) := by omega
        have e2 : ((is.length / 2 : Nat) : Int) + 1 = ((is.length / 2 + 1 : Nat) : Int) := by omega
        have ll : (Vaskyz.nats is).length = is.length := by unfold Vaskyz.nats; rw [List.length_map]
        rw [e1, e2, cutV_ints (by omega) (by omega)]
        have e3 : is.length / 2 + 1 - (is.length / 2 - 1) = 2 := by omega
        unfold askRow
        rw [if_pos c, e3]
        unfold Vaskyz.nats
        simp only [List.map_take, List.map_drop]
      rw [← e] at cut
      have := k p hp
      rw [← cut] at this
      exact this
    · refine ifF (decide_eq_false (by omega)) ⟨_, rfl, a, _, rfl, .inl hS, fun p hp => ?_⟩
      have := k p hp
      unfold askRow at this
      rw [if_neg c] at this
      exact this
theorem sc_told : FnScope ["left"] ["left"] (defScope s_told) := ⟨rfl, rfl, rfl, by decide +kernel, rfl, by decide +kernel, by decide +kernel⟩
theorem ok_told (G : Glb K mg "told_shares" s_told ["left"] d) (mt : mg "list" = none) : FnOk P w K mg base CX0 1 d.a d.fd ["left"] (spTold K) := by
  refine G.F.ok sc_told (fun vs H Q E h => ?_) (fun cdv A outer s H vs Q E hr h => ?_)
  · obtain ⟨a, lo, hi, rfl, _⟩ := h; rfl
  · obtain ⟨a, lo, hi, rfl, ⟨p, q, hpq, hp, hq⟩, k⟩ := h
    refine ⟨_, pss_one (ps_ret (pe_callTy call_list_of (by rfl) mt (by decide +kernel) (pa_cons (pe_op op_catT (pe_ix ix_tup (pv 0) pe_int (fun _ _ => rfl)) (pe_ix ix_tup (pv 0) pe_int (fun _ _ => rfl))) pa_nil))), ?_⟩
    refine ⟨_, rfl, a, _, _, _, rfl, rfl, hpq, at0, _, rfl, a, _, _, _, rfl, rfl, hpq, at1, p, q, _, _, rfl, rfl, hp.1, hq.1, (by intro z; cases z), (by show 4 ≤ sizeLine; decide), (fun z => by cases z), fun _ t ht => ?_⟩
    refine ⟨t, _, rfl, .inr (SqT.of upd_same), fun l hl => ?_⟩
    have s1 := same_new (o := .tup ([.int lo.num, .int (lo.den : Int)] ++ [.int hi.num, .int (hi.den : Int)])) ht
    exact k l _ (s1.trans (same_new hl)) (s1.free hl) upd_same
theorem sc_mayBe : FnScope ["contender", "contenders", "left", "other"] ["contender", "contenders", "left"] (defScope s_mayBe) := ⟨rfl, rfl, rfl, by decide +kernel, rfl, by decide +kernel, by decide +kernel⟩
theorem ok_mayBe (G : Glb K mg "may_be_best" s_mayBe ["contender", "contenders", "left"] d) (GL : Glb K mg "left_when_liked" s_leftL ["left", "liked", "other"] dK) (FL : FnOk P w K mg base CX0 4 dK.a dK.fd ["left", "liked", "other"] (spLeftL K CC)) :
    FnOk P w K mg base CX0 5 d.a d.fd ["contender", "contenders", "left"] (spMayBe K CC) := by
  refine G.F.ok sc_mayBe (fun vs H Q E h => ?_) (fun cdv A outer s H vs Q E hr h => ?_)
  · obtain ⟨a, b, l, i, x, ps, cs, lo, hi, rfl, _⟩ := h; rfl
  · obtain ⟨a, b, l, i, x, ps, cs, lo, hi, rfl, ha, ox, hb, hc, oc, hl, k⟩ := h
    refine ⟨_, pss_cons (ps_for PassesOwn.never rfl (pi_list (pv 1)) (pg_name (i := 3) sc_mayBe.nd rfl (Or.inl rfl))
        (pss_cons (ps_set (i := 2) sc_mayBe.nd rfl (.inl rfl) (pe_call FL hr rfl GL.g GL.k GL.b .nil pass0 (pa_cons (pv 2) (pa_cons (pv 0) (pa_cons (pv 3) pa_nil)))))
          (pss_one (ps_if (pt_cmpR op_isN (pv 2) pe_non (nomark _)) (pss_one (ps_ret pe_bl)) pss_nil))))
      (pss_one (ps_ret pe_bl)), ?_⟩
    have hlen := hc.len
    refine ⟨_, rfl, b, rfl, ⟨_, hb⟩, for_list (xs := ps.map V.ref) (fun j σ H1 => ∃ (u : Addr) (v3 : Option V) (lo' hi' : Rat), σ = [some (.ref a), some (.ref b), some (.ref u), v3] ∧ Same H H1 ∧ LeftAt K H1 u lo' hi' ∧ mayR x (cs.map (·.2)) lo hi = mayR x ((cs.drop j).map (·.2)) lo' hi')
      ⟨l, none, lo, hi, rfl, Same.refl H, hl, rfl⟩ (fun j σ H1 _ q => ?_) (fun j v σ H1 hv q => ?_) (fun σ H1 q => ?_)⟩
    · obtain ⟨u, v3, lo', hi', rfl, s1, _⟩ := q
      exact Same.seq s1 hb
    · obtain ⟨u, v3, lo', hi', rfl, s1, hu, em⟩ := q
      obtain ⟨p, hp, rfl⟩ := ref_of hv
      obtain ⟨c, hci, hcp⟩ := hc.get hp
      have jl : j < cs.length := (List.getElem?_eq_some_iff.mp hci).1
      have ed : (cs.drop j).map (·.2) = c.2 :: (cs.drop (j + 1)).map (·.2) := by
        rw [List.drop_eq_getElem_cons jl, (List.getElem?_eq_some_iff.mp hci).2]; rfl
      rw [ed, BW.mayR_step] at em
      refine ⟨_, rfl, _, rfl, _, rfl, u, a, p, lo', hi', i, c.1, x, c.2, rfl, hu, ha.same s1, hcp.same s1, ox, oc c (List.mem_of_getElem? hci), fun en H2 s2 => ?_, fun z ez q H2 s2 hz => ?_⟩
      · rw [en] at em
        refine ⟨_, rfl, rfl, _, rfl, ifT (decide_eq_true rfl) ?_⟩
        have := k H2 (s1.trans s2)
        rw [em] at this; exact this
      · rw [ez] at em
        exact ⟨_, rfl, rfl, _, rfl, ifF (decide_eq_false (by intro z; cases z)) ⟨q, _, z.1, z.2, rfl, s1.trans s2, hz, em⟩⟩
    · obtain ⟨u, v3, lo', hi', rfl, s1, hu, em⟩ := q
      rw [List.length_map, hlen, List.drop_length] at em
      have := k H1 s1
      rw [em] at this; exact this
theorem sc_beats : FnScope ["row", "other", "value", "rival"] ["row", "other"] (defScope s_beats) := ⟨rfl, rfl, rfl, by decide +kernel, rfl, by decide +kernel, by decide +kernel⟩
theorem ok_beats (G : Glb K mg "beats" s_beats ["row", "other"] d) (ma : mg "all" = none) (mz : mg "zip" = none) : FnOk P w K mg base CX0 1 d.a d.fd ["row", "other"] (spBeats K) := by
  refine G.F.ok sc_beats (fun vs H Q E h => ?_) (fun cdv A outer s H vs Q E hr h => ?_)
  · obtain ⟨a, b, ns, ms, rfl, _⟩ := h; rfl
  · obtain ⟨a, b, ns, ms, rfl, h1, h2, hn, k⟩ := h
    refine ⟨_, pss_one (ps_ret (pe_and (pe_cmpR (op_neD hr.units) (pv 0) (pv 1) (nomark _)) (pe_one (pe_callB (cr_all rfl) (by rfl) ma (by decide +kernel) (pa_cons
      (pe_lc (own := [("value", 2), ("rival", 3)]) (g := gTup K 2 (gCons (gName 2) (gCons (gName 3) gNil))) (tt := tYes) rfl sc_beats.nd (pi_zip (by rfl) mz (pa_cons (pv 0) (pa_cons (pv 1) pa_nil))) (blkOk_by (N := ["row", "other", "value", "rival"]) (sc := defScope s_beats) (by decide +kernel))
        (fun _ _ _ _ _ => pg_tup rfl (pgs_cons (pg_name (i := 2) sc_beats.nd rfl (Or.inl rfl)) (pgs_cons (pg_name (i := 3) sc_beats.nd rfl (Or.inl rfl)) pgs_nil))) (fun _ _ _ _ _ => pts_nil)
        (fun _ _ _ _ _ => pe_cmpR op_ge (pv 2) (pv 3) (nomark _))) pa_nil))))), ?_⟩
    have bt : Vaskya.beats ns ms = ((!decide (ns = ms)) && Vaskya.atLeast ns ms) := by
      unfold Vaskya.beats
      rw [Bool.and_comm]
      congr 1
      by_cases c : ns = ms <;> simp [c]
    refine ⟨_, rfl, _, rfl, _, _, .lst h1 (dp_ints ns), .lst h2 (dp_ints ms), shaped_ints ns, shaped_ints ms, _, rfl, ?_⟩
    rw [PyData.eqv, eqv_ints]
    by_cases c : ns = ms
    · refine ifF (by rw [decide_eq_true c]; rfl) ?_
      have := k H (Same.refl H)
      rw [bt, decide_eq_true c] at this; exact this
    refine ifT (by rw [decide_eq_false c]; rfl) ?_
    rw [decide_eq_false c] at bt
    let bl : Nat → List Bool := fun i => ((ns.zip ms).take i).map fun x => decide (x.2 ≤ x.1)
    refine ⟨_, rfl, _, rfl, a, b, ns.map V.int, ms.map V.int, rfl, h1, h2, fun D hD => lc_it (walk_zip (n := min ns.length ms.length) (xs := ns.map V.int) (ys := ms.map V.int) (by rw [List.length_map, List.length_map]))
      (fun i H1 => Same H H1 ∧ H1 D = some (.lst ((bl i).map V.bl))) ⟨same_new hD, upd_same⟩ (fun i H1 _ q => ⟨Same.seq q.1 h1, Same.seq q.1 h2⟩) (fun i v H1 H2 hi q y => ?_) (fun H1 q => ?_)⟩
    · obtain ⟨s1, hD1⟩ := q
      obtain ⟨T, x, y, rfl, hT, rfl, ex, ey⟩ := y
      obtain ⟨n, en, rfl⟩ := int_of ex
      obtain ⟨m, em, rfl⟩ := int_of ey
      have s2 := same_new (o := .tup [.int n, .int m]) hT
      have e1 : (ns.zip ms)[i]? = some (n, m) := by rw [List.getElem?_zip_eq_some]; exact ⟨en, em⟩
      have e2 : bl (i + 1) = bl i ++ [decide (m ≤ n)] := by
        show List.map _ ((ns.zip ms).take (i + 1)) = _
        rw [List.take_succ, e1, List.map_append]; rfl
      have hl : (bl i).length < sizeLine := by
        show (List.map _ ((ns.zip ms).take i)).length < 2 ^ 24
        rw [List.length_map, List.length_take]
        have : i < ns.length := by omega
        omega
      refine ⟨T, _, rfl, SqT.of upd_same, rfl, _, _, rfl, _, _, rfl, rfl, rfl, ?_⟩
      refine ⟨_, rfl, _, rfl, _, _, rfl, rfl, _, s2 _ _ hD1, by rw [List.length_map]; exact hl, fun b' o e => ?_, ?_⟩
      · exact (upd_ne (ne_of_none e hD)).trans ((s1.trans s2) _ _ e)
      · rw [upd_same, e2, List.map_append]; rfl
    · obtain ⟨s1, hD1⟩ := q
      refine ⟨D, bl _, rfl, SqL.of hD1, ?_⟩
      have e : (bl (min ns.length ms.length)).all id = Vaskya.atLeast ns ms := by
        show (List.map _ ((ns.zip ms).take (min ns.length ms.length))).all id = _
        rw [List.take_of_length_le (by rw [List.length_zip]; omega)]
        unfold Vaskya.atLeast
        rw [List.all_map]; rfl
      have := k H1 s1
      rw [bt] at this
      rw [e]; exact this
theorem sc_isUnb : FnScope ["row", "rows", "other"] ["row", "rows"] (defScope s_isUnb) := ⟨rfl, rfl, rfl, by decide +kernel, rfl, by decide +kernel, by decide +kernel⟩
theorem ok_isUnb (G : Glb K mg "is_unbeaten" s_isUnb ["row", "rows"] d) (GB : Glb K mg "beats" s_beats ["row", "other"] dB) (ma : mg "all" = none) (mz : mg "zip" = none) (mn : mg "any" = none) : FnOk P w K mg base CX0 2 d.a d.fd ["row", "rows"] (spUnb K) := by
  have FB : FnOk P w K mg base CX0 1 dB.a dB.fd ["row", "other"] (spBeats K) := ok_beats GB ma mz
  refine G.F.ok sc_isUnb (fun vs H Q E h => ?_) (fun cdv A outer s H vs Q E hr h => ?_)
  · obtain ⟨a, b, ns, ps, nss, rfl, _⟩ := h; rfl
  · obtain ⟨a, b, ns, ps, nss, rfl, h1, h2, h3, hw, hn, k⟩ := h
    refine ⟨_, pss_one (ps_ret (pe_not (pe_callB (cr_any rfl) (by rfl) mn (by decide +kernel) (pa_cons
      (pe_lc (own := [("other", 2)]) (g := gName 2) (tt := tYes) rfl sc_isUnb.nd (pi_list (pv 1)) (blkOk_by (N := ["row", "rows", "other"]) (sc := defScope s_isUnb) (by decide +kernel)) (fun _ _ _ _ _ => pg_name (i := 2) sc_isUnb.nd rfl (Or.inl rfl)) (fun _ _ _ _ _ => pts_nil)
        (fun _ _ _ _ _ => pe_call FB hr rfl GB.g GB.k GB.b .nil pass0 (pa_cons (pv 2) (pa_cons (pv 0) pa_nil)))) pa_nil)))), ?_⟩
    have hlen := h3.len
    let bl : Nat → List Bool := fun i => (nss.take i).map fun o => Vaskya.beats o ns
    refine ⟨_, rfl, b, rfl, ⟨_, h2⟩, fun D hD => lc_list (K := K) (a := b) (xs := ps.map V.ref)
      (fun i H1 => Same H H1 ∧ H1 D = some (.lst ((bl i).map V.bl))) ⟨same_new hD, upd_same⟩ (fun i H1 _ q => Same.seq q.1 h2) (fun i v H1 hv q => ?_) (fun H1 q => ?_)⟩
    · obtain ⟨s1, hD1⟩ := q
      obtain ⟨p, hp, rfl⟩ := ref_of hv
      obtain ⟨ms, em, hm⟩ := h3.get hp
      have e2 : bl (i + 1) = bl i ++ [Vaskya.beats ms ns] := by
        show List.map _ (nss.take (i + 1)) = _
        rw [List.take_succ, em, List.map_append]; rfl
      have il := (List.getElem?_eq_some_iff.mp em).1
      refine ⟨rfl, _, rfl, _, rfl, p, a, ms, ns, rfl, SqL.of (s1 _ _ hm), Same.seq s1 h1, hw ms (List.mem_of_getElem? em), fun H2 s2 => ?_⟩
      refine ⟨_, s2 _ _ hD1, ?_, fun b' o e => ?_, ?_⟩
      · show ((bl i).map V.bl).length < 2 ^ 24
        rw [List.length_map]
        show (List.map _ (nss.take i)).length < 2 ^ 24
        rw [List.length_map, List.length_take]
        omega
      · exact (upd_ne (ne_of_none e hD)).trans (s2 _ _ (s1 _ _ e))
      · rw [upd_same, e2, List.map_append]; rfl
    · obtain ⟨s1, hD1⟩ := q
      refine ⟨D, bl _, rfl, SqL.of hD1, _, rfl, ?_⟩
      have e : (bl (ps.map V.ref).length).any id = nss.any fun o => Vaskya.beats o ns := by
        show (List.map _ (nss.take (ps.map V.ref).length)).any id = _
        rw [List.length_map, hlen, List.take_length, List.any_map]; rfl
      rw [e]
      exact k H1 s1
end
end BWP
namespace BWP
open PySem PySem.Spec PyProof.Rows L2
open LamX (Tabs ExtN TabB)
open BW (Sm Ln LnOk ofRat SheetOk)
/-! ### the widest frame: what a held list and wishes are made of stays -/
def Kp (CS : Addr) (o : HO) : Prop := (∃ xs, o = .lst xs) ∨ (∃ xs, o = .tup xs) ∨ (∃ u xs, o = .frz u (.tup xs)) ∨ ∃ C dx fs, C ≠ CS ∧ o = .ins C dx fs
def Fg (CS : Addr) (H H' : Hp) : Prop := ∀ b o, H b = some o → Kp CS o → H' b = some o
section
variable {K : PySem.W.Frag} {CS C CM CW : Addr} {H H' H'' : Hp}
theorem Kp.tbl {o : HO} (h : Kp CS o) : ∀ ps, o ≠ .tbl ps := by
  rintro ps rfl
  rcases h with ⟨_, h⟩ | ⟨_, h⟩ | ⟨_, _, h⟩ | ⟨_, _, _, _, h⟩ <;> cases h
theorem Kp.ins {o : HO} (h : Kp CS o) : ∀ dx fs, o ≠ .ins CS dx fs := by
  rintro dx fs rfl
  rcases h with ⟨_, h⟩ | ⟨_, h⟩ | ⟨_, _, h⟩ | ⟨_, _, _, n, h⟩
  · cases h
  · cases h
  · cases h
  · cases h; exact n rfl
theorem Kp.frzL {ob : Obj} {xs : List V} (h : Kp CS (.frz ob (.lst xs))) : False := by
  rcases h with ⟨_, h⟩ | ⟨_, h⟩ | ⟨_, _, h⟩ | ⟨_, _, _, _, h⟩ <;> cases h
theorem Fg.refl : Fg CS H H := fun _ _ h _ => h
theorem Fg.trans (a : Fg CS H H') (b : Fg CS H' H'') : Fg CS H H'' := fun c o h n => b c o (a c o h n) n
theorem Fg.ofS (e : Same H H') : Fg CS H H' := fun b o h _ => e b o h
theorem Fg.ofF (e : Fr CS H H') : Fg CS H H' := fun b o h k => e b o h k.tbl k.ins
theorem SqT.fg {a : Addr} {xs : List V} (e : Fg CS H H') (h : SqT K H a xs) : SqT K H' a xs := by
  rcases h with (h | ⟨o, h⟩) | h
  · exact .inl (.inl (e _ _ h (.inr (.inl ⟨_, rfl⟩))))
  · exact .inl (.inr ⟨o, e _ _ h (.inr (.inr (.inl ⟨_, _, rfl⟩)))⟩)
  · exact .inr h
theorem ins_fg {a dx : Addr} {fs : List (Str × V)} (n : C ≠ CS) (e : Fg CS H H') (h : H a = some (.ins C dx fs)) : H' a = some (.ins C dx fs) := e _ _ h (.inr (.inr (.inr ⟨_, _, _, n, rfl⟩)))
theorem lst_fg {a : Addr} {xs : List V} (e : Fg CS H H') (h : H a = some (.lst xs)) : H' a = some (.lst xs) := e _ _ h (.inl ⟨_, rfl⟩)
theorem ShAt.fg {a : Addr} {q : Rat} (e : Fg CS H H') (h : ShAt K H a q) : ShAt K H' a q := ⟨SqT.fg e h.1, h.2⟩
theorem LeftAt.fg {a : Addr} {lo hi : Rat} (e : Fg CS H H') (h : LeftAt K H a lo hi) : LeftAt K H' a lo hi := let ⟨p, q, h1, h2, h3⟩ := h; ⟨p, q, SqT.fg e h1, h2.fg e, h3.fg e⟩
theorem BdsAt.fg (s : Fg CS H H') : ∀ {qs : List Addr} {bs : List (Int × Int)}, BdsAt K H qs bs → BdsAt K H' qs bs
  | [], [], _ => trivial
  | _ :: _, _ :: _, ⟨h1, h2⟩ => ⟨SqT.fg s h1, BdsAt.fg s h2⟩
theorem RowsAt.fg (e : Fg CS H H') : ∀ {ps : List Addr} {vss : List (List Int)}, RowsAt H ps vss → RowsAt H' ps vss
  | [], [], _ => trivial
  | _ :: _, _ :: _, ⟨h1, h2⟩ => ⟨lst_fg e h1, RowsAt.fg e h2⟩
theorem MLAt.fg {p : Addr} {s : Vaskya.Sheet} (n : CM ≠ CS) (e : Fg CS H H') (h : MLAt CM H p s) : MLAt CM H' p s := by
  obtain ⟨dx, wl, rl, ps, h1, h2, h3, h4⟩ := h
  exact ⟨dx, wl, rl, ps, ins_fg n e h1, lst_fg e h2, lst_fg e h3, h4.fg e⟩
theorem TwoAt.fg {w : Vaskyz.Wish} {p l : V} (e : Fg CS H H') (h : TwoAt K H w p l) : TwoAt K H' w p l := ⟨h.1, fun m k q => let ⟨a, b, lo, hi, h1, h2, h3, h4, h5⟩ := h.2 m k q; ⟨a, b, lo, hi, h1, h2, SqT.fg e h3, h4.fg e, h5⟩⟩
theorem WsAt.fg {v : Addr} {w : Vaskyz.Wish} (n : CW ≠ CS) (e : Fg CS H H') (h : WsAt K CW H v w) : WsAt K CW H' v w :=
  let ⟨dx, b, qs, p, l, h1, h2, h3, h4⟩ := h; ⟨dx, b, qs, p, l, ins_fg n e h1, lst_fg e h2, h3.fg e, h4.fg e⟩
/-! ### all but one list -/
theorem fg_del {b b' : Addr} (h : ∀ c o, c ≠ b → H c = some o → Kp CS o → c ≠ b' ∧ H' c = some o) : Fg CS (del H b) (del H' b') := fun c o e k => by
  by_cases z : c = b
  · rw [z, del_same] at e; cases e
  · rw [del_ne z] at e
    obtain ⟨h1, h2⟩ := h c o z e k
    rw [del_ne h1]; exact h2
theorem fg_to {b' : Addr} (h : ∀ c o, H c = some o → Kp CS o → c ≠ b' ∧ H' c = some o) : Fg CS H (del H' b') := fun c o e k => by
  obtain ⟨h1, h2⟩ := h c o e k
  rw [del_ne h1]; exact h2
theorem same_del {b : Addr} : Same (del H b) H := fun c o e => by
  by_cases z : c = b
  · rw [z, del_same] at e; cases e
  · rw [del_ne z] at e; exact e
theorem del_same2 {b : Addr} (s : Same H H') : Same (del H b) (del H' b) := fun c o e => by
  by_cases z : c = b
  · rw [z, del_same] at e; cases e
  · rw [del_ne z] at e ⊢; exact s _ _ e
theorem at_del {b a : Addr} {o u : HO} (h : H a = some o) (hb : H b = some u) (n : u ≠ o) : del H b a = some o := (del_ne fun z => n (by rw [z, hb] at h; exact Option.some.inj h)).trans h
end
/-! ### the wishes before changes, the oldest first -/
def PastAt (K : PySem.W.Frag) (CW : Addr) (H : Hp) : List Addr → List Vaskyz.Wish → Prop
  | [], [] => True
  | v :: vs, w :: ws => WsAt K CW H v w ∧ PastAt K CW H vs ws
  | _, _ => False
section
variable {K : PySem.W.Frag} {CS CW : Addr} {H H' : Hp}
theorem PastAt.fg (n : CW ≠ CS) (e : Fg CS H H') : ∀ {vs : List Addr} {ws : List Vaskyz.Wish}, PastAt K CW H vs ws → PastAt K CW H' vs ws
  | [], [], _ => trivial
  | _ :: _, _ :: _, ⟨h1, h2⟩ => ⟨h1.fg n e, PastAt.fg n e h2⟩
theorem PastAt.len : ∀ {vs : List Addr} {ws : List Vaskyz.Wish}, PastAt K CW H vs ws → vs.length = ws.length
  | [], [], _ => rfl
  | _ :: _, _ :: _, ⟨_, h2⟩ => by rw [List.length_cons, List.length_cons, PastAt.len h2]
theorem PastAt.snoc {v : Addr} {w : Vaskyz.Wish} (h : WsAt K CW H v w) : ∀ {vs : List Addr} {ws : List Vaskyz.Wish}, PastAt K CW H vs ws → PastAt K CW H (vs ++ [v]) (ws ++ [w])
  | [], [], _ => ⟨h, trivial⟩
  | _ :: _, _ :: _, ⟨h1, h2⟩ => ⟨h1, PastAt.snoc h h2⟩
theorem PastAt.drop : ∀ (n : Nat) {vs : List Addr} {ws : List Vaskyz.Wish}, PastAt K CW H vs ws → PastAt K CW H (vs.drop n) (ws.drop n)
  | 0, _, _, h => h
  | _ + 1, [], [], _ => trivial
  | n + 1, _ :: _, _ :: _, ⟨_, h2⟩ => PastAt.drop n h2
theorem PastAt.last {w : Vaskyz.Wish} : ∀ {vs : List Addr} {ws : List Vaskyz.Wish}, PastAt K CW H vs (ws ++ [w]) → ∃ us v, vs = us ++ [v] ∧ PastAt K CW H us ws ∧ WsAt K CW H v w
  | [], [], h => h.elim
  | [], _ :: _, h => h.elim
  | [v], [], ⟨h1, _⟩ => ⟨[], v, rfl, trivial, h1⟩
  | _ :: _ :: _, [], ⟨_, h2⟩ => h2.elim
  | v :: vs, x :: ws, ⟨h1, h2⟩ => by
    obtain ⟨us, u, rfl, h3, h4⟩ := PastAt.last h2
    exact ⟨v :: us, u, rfl, ⟨h1, h3⟩, h4⟩
end
/-- wishes fit the list -/
structure WOk (s : Vaskya.Sheet) (w : Vaskyz.Wish) : Prop where
  len : w.bounds.length = s.ms.length
  two : ∀ m k, w.two = some (m, k) → m < s.ms.length ∧ k < s.ms.length
structure Inv (z : Vaskyz.Held) : Prop where
  s : SheetOk z.s
  w : WOk z.s z.w
  past : ∀ w ∈ z.past, WOk z.s w
  few : z.past.length ≤ 20
theorem Inv.change {z : Vaskyz.Held} {w : Vaskyz.Wish} (h : Inv z) (hw : WOk z.s w) : Inv ⟨z.s, w, (z.w :: z.past).take 20⟩ := by
  refine ⟨h.s, hw, fun u hu => ?_, ?_⟩
  · rcases List.mem_cons.mp (List.mem_of_mem_take hu) with rfl | q
    · exact h.w
    · exact h.past u q
  · show ((z.w :: z.past).take 20).length ≤ 20
    rw [List.length_take]; omega
end BWP
namespace BWP
open PySem PySem.Spec PyProof.Rows L2
open LamX (Tabs ExtN TabB)
open BW (octs IsB SheetOk)
abbrev s_load : Stmt := inClass s_Session 1
/-- Wishes(bounds, pair, left) -/
def spWishI (C : Addr) : Sp := fun vs H Q _ => ∃ (x dx b : Addr) (p l : V), vs = [.ref x, .ref b, p, l] ∧ H x = some (.ins C dx []) ∧ Q .non (upd H x (.ins C dx (wsF b p l)))
theorem flt_code {c p : Int} : (fltF c p).lookup ("code" : Str) = some (.int c) := (lk1 (by decide +kernel)).trans lk0
theorem flt_place {c p : Int} : (fltF c p).lookup ("place" : Str) = some (.int p) := lk0
theorem BdsAt.snoc {K : PySem.W.Frag} {H : Hp} {q : Addr} {b : Int × Int} (h : SqT K H q [.int b.1, .int b.2]) : ∀ {qs : List Addr} {bs : List (Int × Int)}, BdsAt K H qs bs → BdsAt K H (qs ++ [q]) (bs ++ [b])
  | [], [], _ => ⟨h, trivial⟩
  | _ :: _, _ :: _, ⟨h1, h2⟩ => ⟨h1, BdsAt.snoc h h2⟩
theorem SqT.put {K : PySem.W.Frag} {H : Hp} {D q : Addr} {xs : List V} {ys zs : List V} (hD : H D = some (.lst ys)) (h : SqT K H q xs) : SqT K (upd H D (.lst zs)) q xs := by
  rcases h with (h | ⟨o, h⟩) | h
  · exact .inl (.inl ((upd_ne (ne_of h hD (by intro z; cases z))).trans h))
  · exact .inl (.inr ⟨o, (upd_ne (ne_of h hD (by intro z; cases z))).trans h⟩)
  · exact .inr h
theorem BdsAt.put {K : PySem.W.Frag} {H : Hp} {D : Addr} {ys zs : List V} (hD : H D = some (.lst ys)) : ∀ {qs : List Addr} {bs : List (Int × Int)}, BdsAt K H qs bs → BdsAt K (upd H D (.lst zs)) qs bs
  | [], [], _ => trivial
  | _ :: _, _ :: _, ⟨h1, h2⟩ => ⟨SqT.put hD h1, BdsAt.put hD h2⟩
theorem putF_len {f : Str} {v : V} : ∀ {fs : List (Str × V)} {x : V}, fs.lookup f = some x → (putF f v fs).length = fs.length
  | [], x, h => by cases h
  | (g, y) :: r, x, h => by
    unfold putF
    by_cases e : g = f
    · rw [if_pos e]; rfl
    · rw [if_neg e, List.length_cons, List.length_cons]
      rw [lk1 (by simpa using fun z : f = g => e z.symm)] at h
      rw [putF_len h]
/-- the object at x, with its fields -/
def SesF (C : Addr) (H : Hp) (x dx : Addr) (fs : List (Str × V)) (h v : V) : Prop := H x = some (.ins C dx fs) ∧ fs.lookup ("held" : Str) = some h ∧ fs.lookup ("wishes" : Str) = some v ∧ (∀ m ∈ SMETH, fs.lookup m = none) ∧ fs.length < 100
theorem smeth_ne {m : Str} (h : m ∈ SMETH) : m ≠ "held" ∧ m ≠ "wishes" ∧ m ≠ "before" := by
  have : ∀ m ∈ SMETH, m ≠ "held" ∧ m ≠ "wishes" ∧ m ≠ "before" := by decide +kernel
  exact this m h
theorem SesF.held {C : Addr} {H H' : Hp} {x dx : Addr} {fs : List (Str × V)} {h v y : V} (k : SesF C H x dx fs h v) : SesF C (upd H' x (.ins C dx (putF "held" y fs))) x dx (putF "held" y fs) y v := by
  obtain ⟨k1, k2, k3, k4, k5⟩ := k
  refine ⟨upd_same, by rw [lookup_putF, if_pos rfl], ?_, fun m hm => ?_, by rw [putF_len k2]; exact k5⟩
  · rw [lookup_putF, if_neg (by decide +kernel)]; exact k3
  · rw [lookup_putF, if_neg (smeth_ne hm).1]; exact k4 m hm
theorem SesF.wish {C : Addr} {H H' : Hp} {x dx : Addr} {fs : List (Str × V)} {h v y : V} (k : SesF C H x dx fs h v) : SesF C (upd H' x (.ins C dx (putF "wishes" y fs))) x dx (putF "wishes" y fs) h y := by
  obtain ⟨k1, k2, k3, k4, k5⟩ := k
  refine ⟨upd_same, ?_, by rw [lookup_putF, if_pos rfl], fun m hm => ?_, by rw [putF_len k3]; exact k5⟩
  · rw [lookup_putF, if_neg (by decide +kernel)]; exact k2
  · rw [lookup_putF, if_neg (smeth_ne hm).2.1]; exact k4 m hm
theorem SesF.at {C : Addr} {H : Hp} {x dx : Addr} {fs : List (Str × V)} {h v : V} (k : SesF C H x dx fs h v) : SesAt C H x h v := ⟨dx, fs, k.1, k.2.1, k.2.2.1, k.2.2.2.1⟩
/-- the object at x, with the list b of wishes before changes -/
def SesB (C : Addr) (H : Hp) (x dx : Addr) (fs : List (Str × V)) (h v : V) (b : Addr) : Prop := SesF C H x dx fs h v ∧ fs.lookup ("before" : Str) = some (.ref b)
theorem SesB.held {C : Addr} {H H' : Hp} {x dx b : Addr} {fs : List (Str × V)} {h v y : V} (k : SesB C H x dx fs h v b) : SesB C (upd H' x (.ins C dx (putF "held" y fs))) x dx (putF "held" y fs) y v b := ⟨k.1.held, by rw [lookup_putF, if_neg (by decide +kernel)]; exact k.2⟩
theorem SesB.wish {C : Addr} {H H' : Hp} {x dx b : Addr} {fs : List (Str × V)} {h v y : V} (k : SesB C H x dx fs h v b) : SesB C (upd H' x (.ins C dx (putF "wishes" y fs))) x dx (putF "wishes" y fs) h y b := ⟨k.1.wish, by rw [lookup_putF, if_neg (by decide +kernel)]; exact k.2⟩
theorem SesB.bef {C : Addr} {H H' : Hp} {x dx b b' : Addr} {fs : List (Str × V)} {h v : V} (k : SesB C H x dx fs h v b) : SesB C (upd H' x (.ins C dx (putF "before" (.ref b') fs))) x dx (putF "before" (.ref b') fs) h v b' := by
  obtain ⟨⟨k1, k2, k3, k4, k5⟩, k6⟩ := k
  refine ⟨⟨upd_same, ?_, ?_, fun m hm => ?_, by rw [putF_len k6]; exact k5⟩, by rw [lookup_putF, if_pos rfl]⟩
  · rw [lookup_putF, if_neg (by decide +kernel)]; exact k2
  · rw [lookup_putF, if_neg (by decide +kernel)]; exact k3
  · rw [lookup_putF, if_neg (smeth_ne hm).2.2]; exact k4 m hm
theorem SesB.same {C : Addr} {H H' : Hp} {x dx b : Addr} {fs : List (Str × V)} {h v : V} (e : Same H H') (k : SesB C H x dx fs h v b) : SesB C H' x dx fs h v b := ⟨⟨e _ _ k.1.1, k.1.2⟩, k.2⟩
section
variable {P : Program} {w : World} {K : PySem.W.Frag} {mg : Str → Option Value} {base : Heap} {CS CM CW CF : Addr} {d dM dW dR dF : Dn}
theorem sc_WishI : FnScope ["self", "bounds", "pair", "left"] ["self", "bounds", "pair", "left"] (defScope s_WishI) := ⟨rfl, rfl, rfl, by decide +kernel, rfl, by decide +kernel, by decide +kernel⟩
theorem ok_WishI (T : Rec K mg "Wishes" "Wishes.__init__" s_WishI ["self", "bounds", "pair", "left"] ["bounds", "pair", "left"] CW dW) : FnOk P w K mg base CX0 1 dW.a dW.fd ["self", "bounds", "pair", "left"] (spWishI CW) := by
  refine T.F.ok sc_WishI (fun vs H Q E h => ?_) (fun cdv A outer s H vs Q E hr h => ?_)
  · obtain ⟨x, dx, b, p, l, rfl, _⟩ := h; rfl
  · obtain ⟨x, dx, b, p, l, rfl, hx, q⟩ := h
    refine ⟨_, pss_cons (ps_fld (pv 0) (pv 1) rfl) (pss_cons (ps_fld (pv 0) (pv 2) rfl) (pss_one (ps_fld (pv 0) (pv 3) rfl))), ?_⟩
    refine ⟨_, rfl, _, rfl, x, CW, dx, _, rfl, hx, T.cl, T.no _ (by simp), (by show 0 < 1000; decide), ?_⟩
    refine ⟨_, rfl, _, rfl, x, CW, dx, _, rfl, upd_same, T.cl, T.no _ (by simp), (by show 1 < 1000; decide), ?_⟩
    refine ⟨_, rfl, _, rfl, x, CW, dx, _, rfl, upd_same, T.cl, T.no _ (by simp), (by show 2 < 1000; decide), ?_⟩
    rw [upd_upd, upd_upd]; exact q
theorem sc_load : FnScope ["self", "text", "held", "fault", "way"] ["self", "text"] (defScope s_load) := ⟨rfl, rfl, rfl, by decide +kernel, rfl, by decide +kernel, by decide +kernel⟩
def spLoad (K : PySem.W.Frag) (CS CM CW : Addr) : Sp := fun vs H Q _ => ∃ (x t dx b : Addr) (fs : List (Str × V)) (h v : V) (ns : List Int), vs = [.ref x, .ref t] ∧ SesB CS H x dx fs h v b ∧ SqL K H t (ns.map V.int) ∧ (∀ n ∈ ns, IsB n) ∧
  (∀ f, Vaskya.read (octs ns) = .error f → ∀ p H', Same H H' → H p = none → H' p = some (.lst [.int 0, .int f.code, .int f.place]) → Q (.ref p) H') ∧
  (∀ s, Vaskya.read (octs ns) = .ok s → ∀ p H' fs' b', Fr CS H H' → (∀ T, Tabs T H → Tabs T H') → H p = none → H b' = none → (∃ h' v' : Addr, SesB CS H' x dx fs' (.ref h') (.ref v') b' ∧ H' b' = some (.lst []) ∧ MLAt CM (del H' b') h' s ∧ WsAt K CW (del H' b') v' (Vaskyz.free s)) → H' p = some (.lst [.int 1, .int (s.ms.length : Nat), .int (s.items.length : Nat)]) → Q (.ref p) H')
theorem ok_load (G : Mth K CS "load" "Session.load" s_load ["self", "text"] d) (M : SesC K mg CS CM CW dM dW) (GR : Glb K mg "read_list" s_readList ["text"] dR) (FR : FnOk P w K mg base (L2.CX P w) 7 dR.a dR.fd ["text"] (spReadList K CM CF)) (TF : FaultT K mg CF dF) (cL : Cst mg "LOWEST_BOUND" (.int (-1000))) (cH : Cst mg "HIGHEST_BOUND" (.int 1000)) (nM : CM ≠ CS) (nW : CW ≠ CS) :
    FnOk P w K mg base CX0 8 d.a d.fd ["self", "text"] (spLoad K CS CM CW) := by
  have FW : FnOk P w K mg base CX0 1 dW.a dW.fd ["self", "bounds", "pair", "left"] (spWishI CW) := ok_WishI M.WS
  refine G.F.ok sc_load (fun vs H Q E h => ?_) (fun cdv A outer s H vs Q E hr h => ?_)
  · obtain ⟨x, t, dx, b, fs, h, v, ns, rfl, _⟩ := h; rfl
  · obtain ⟨x, t, dx, b0, fs, h, v, ns, rfl, hF, hS, hB, kE, kQ⟩ := h
    have hr2 : Room 2 _ := hr.mono (by decide)
    refine ⟨_, pss_cons (ps_try_as (i := 3) rfl rfl sc_load.nd rfl rfl ⟨rfl, by decide, .inl TF.g⟩ takes0
        (fun W pn xe tk _ => pss_one (ps_set (i := 2) sc_load.nd rfl (.inl rfl) (pe_callS FR hr rfl GR.g GR.k GR.b (fun σ => passAt tk σ) (pa_cons (pv 1) pa_nil))))
        (fun a oe cls d pn hz hf => pss_one (ps_ret (pe_lst (pa_cons pe_int (pa_cons (pe_xf TF.xf TF.nC hz hf (pv 3)) (pa_cons (pe_xf TF.xf TF.nP hz hf (pv 3)) pa_nil)))))))
      (pss_cons (ps_fld (pv 0) (pv 2) rfl)
      (pss_cons (ps_fld (pv 0) (pe_make M.WS.mkr FW hr2 rfl M.WS.g M.WS.b .nil pass0 (pa_cons
          (pe_lc (own := [("way", 4)]) (g := gName 4) (tt := tYes) rfl sc_load.nd (pi_list (pe_fld (pv 2) rfl)) (blkOk_by (N := ["self", "text", "held", "fault", "way"]) (sc := defScope s_load) (by decide +kernel)) (fun _ _ _ _ _ => pg_name (i := 4) sc_load.nd rfl (Or.inl rfl)) (fun _ _ _ _ _ => pts_nil)
            (fun _ _ _ _ _ => pe_tup (pa_cons (pe_cst rfl cL) (pa_cons (pe_cst rfl cH) pa_nil))))
          (pa_cons pe_non (pa_cons pe_non pa_nil)))) rfl)
      (pss_cons (ps_fld (pv 0) (pe_lst pa_nil) rfl)
      (pss_one (ps_ret (pe_lst (pa_cons pe_int (pa_cons (pe_callB call_len_seq (by rfl) M.len PySem.boot_len (pa_cons (pe_fld (pv 2) rfl) pa_nil)) (pa_cons (pe_callB call_len_seq (by rfl) M.len PySem.boot_len (pa_cons (pe_fld (pv 2) rfl) pa_nil)) pa_nil))))))))), ?_⟩
    refine ⟨_, rfl, t, ns, rfl, hS, hB, fun f hf => ?_, fun s hs h' H1 s1 nh hml => ?_⟩
    · intro dd H1 hd s1 hx
      refine ⟨true, TF.te, fun _ a ha => ?_, fun q => Bool.noConfusion q⟩
      refine ⟨_, rfl, rfl, rfl, dd, _, _, rfl, hx, flt_code, _, rfl, rfl, rfl, dd, _, _, rfl, hx, flt_place, (by show 3 ≤ sizeLine; decide), fun p hp => ?_⟩
      exact kE f hf p _ (s1.trans (same_new hp)) (s1.free hp) upd_same
    · obtain ⟨dl, wl, rl, ps, m1, m2, m3, m4⟩ := id hml
      have ok := BW.read_ok hs
      have hF1 : SesB CS H1 x dx fs h v b0 := hF.same s1
      have xh : x ≠ h' := fun z => by rw [← z, hF.1.1] at nh; cases nh
      refine ⟨_, rfl, _, rfl, x, CS, dx, fs, rfl, hF1.1.1, M.cl, M.no _ (by simp), Nat.lt_trans hF1.1.2.2.2.2 (by decide), ?_⟩
      have F2 := hF1.held (H' := H1) (y := .ref h')
      have f2 : Fr CS H1 (upd H1 x (.ins CS dx (putF "held" (.ref h') fs))) := Fr.own hF1.1.1
      have t2 : ∀ T, Tabs T H1 → Tabs T (upd H1 x (.ins CS dx (putF "held" (.ref h') fs))) := fun T t => Tabs.ins t hF1.1.1
      have n2 : ∀ b, upd H1 x (.ins CS dx (putF "held" (.ref h') fs)) b = none → H1 b = none := fun b e => by
        by_cases z : b = x
        · rw [z, upd_same] at e; cases e
        · rw [upd_ne z] at e; exact e
      generalize upd H1 x (.ins CS dx (putF "held" (.ref h') fs)) = H2 at *
      have hml2 := hml.fr nM f2
      obtain ⟨dl, wl, rl, ps, m1, m2, m3, m4⟩ := id hml2
      refine ⟨_, rfl, h', CM, dl, _, _, rfl, m1, M.ML.cl, M.ML.no _ (by simp), ml_w, wl, rfl, ⟨_, SqL.of m2⟩, fun D hD => lc_list (K := K) (a := wl) (xs := (s.ms.map wayI).map V.int)
        (fun i H3 => Same H2 H3 ∧ ∃ qs : List Addr, H3 D = some (.lst (qs.map V.ref)) ∧ BdsAt K H3 qs (List.replicate i (-1000, 1000)) ∧ qs.length = i) ⟨same_new hD, [], upd_same, trivial, rfl⟩ (fun i H3 _ q => SqL.of (q.1 _ _ m2)) (fun i y H3 hy q => ?_) (fun H3 q => ?_)⟩
      · obtain ⟨s3, qs, hD3, hb3, hl3⟩ := q
        refine ⟨rfl, (by show 2 ≤ sizeLine; decide), fun q hq => ⟨_, same_new hq _ _ hD3, ?_, fun b o e => ?_, qs ++ [q], ?_, ?_, ?_⟩⟩
        · have hi : i < 4 := by
            have := (List.getElem?_eq_some_iff.mp hy).1
            rw [List.length_map, List.length_map] at this
            have := ok.m4
            omega
          rw [List.length_map, hl3]
          show i < 2 ^ 24
          omega
        · exact (upd_ne (ne_of_none e hD)).trans (same_new hq _ _ (s3 _ _ e))
        · rw [upd_same, List.map_append]; rfl
        · rw [List.replicate_succ']
          have qD : q ≠ D := fun z => by rw [z, hD3] at hq; cases hq
          refine BdsAt.snoc ?_ (BdsAt.put (same_new hq _ _ hD3) (hb3.same (same_new hq)))
          exact SqT.of ((upd_ne qD).trans upd_same)
        · rw [List.length_append, hl3]; rfl
      · obtain ⟨s3, qs, hD3, hb3, hl3⟩ := q
        rw [List.length_map, List.length_map] at hb3
        intro o dO ho hdO ne
        refine ⟨o, dO, D, .non, .non, rfl, upd_same, rfl, ?_⟩
        rw [upd_upd]
        have s4 : Same H3 (upd (upd H3 dO (.own o)) o (.ins CW dO (wsF D .non .non))) := fun b u e => (upd_ne (ne_of_none e ho)).trans ((upd_ne (ne_of_none e hdO)).trans e)
        have w4 : WsAt K CW (upd (upd H3 dO (.own o)) o (.ins CW dO (wsF D .non .non))) o (Vaskyz.free s) := by
          refine ⟨dO, D, qs, .non, .non, upd_same, s4 _ _ hD3, ?_, fun _ => ⟨rfl, rfl⟩, fun m k e => by cases e⟩
          have e : (Vaskyz.free s).bounds = List.replicate s.ms.length (-1000, 1000) := by
            show s.ms.map (fun _ => (-(Vaskya.SIZE : Int), (Vaskya.SIZE : Int))) = _
            rw [List.map_const']; rfl
          rw [e]; exact hb3.same s4
        generalize upd (upd H3 dO (.own o)) o (.ins CW dO (wsF D .non .non)) = H4 at *
        have s24 := s3.trans s4
        have F4 : SesB CS H4 x dx (putF "held" (.ref h') fs) (.ref h') v b0 := F2.same s24
        refine ⟨_, rfl, x, CS, dx, _, rfl, F4.1.1, M.cl, M.no _ (by simp), Nat.lt_trans F4.1.2.2.2.2 (by decide), ?_⟩
        have F5 := F4.wish (H' := H4) (y := .ref o)
        have f5 : Fr CS H4 (upd H4 x (.ins CS dx (putF "wishes" (.ref o) (putF "held" (.ref h') fs)))) := Fr.own F4.1.1
        have t5 : ∀ T, Tabs T H4 → Tabs T (upd H4 x (.ins CS dx (putF "wishes" (.ref o) (putF "held" (.ref h') fs)))) := fun T t => Tabs.ins t F4.1.1
        have n5 : ∀ b, upd H4 x (.ins CS dx (putF "wishes" (.ref o) (putF "held" (.ref h') fs))) b = none → H4 b = none := fun b e => by
          by_cases z : b = x
          · rw [z, upd_same] at e; cases e
          · rw [upd_ne z] at e; exact e
        generalize upd H4 x (.ins CS dx (putF "wishes" (.ref o) (putF "held" (.ref h') fs))) = H5 at *
        have hml5 := (hml2.same s24).fr nM f5
        have w5 := w4.fr nW f5
        refine ⟨(by show 0 ≤ sizeLine; decide), fun b' hb' => ?_⟩
        have s6 := same_new (o := .lst []) hb'
        have F6 := F5.same s6
        have e6 : upd H5 b' (.lst []) b' = some (.lst []) := upd_same
        generalize upd H5 b' (.lst []) = H6 at *
        refine ⟨_, rfl, x, CS, dx, _, rfl, F6.1.1, M.cl, M.no _ (by simp), Nat.lt_trans F6.1.2.2.2.2 (by decide), ?_⟩
        have F7 := F6.bef (H' := H6) (b' := b')
        have f7 : Fr CS H6 (upd H6 x (.ins CS dx (putF "before" (.ref b') (putF "wishes" (.ref o) (putF "held" (.ref h') fs))))) := Fr.own F6.1.1
        have t7 : ∀ T, Tabs T H6 → Tabs T (upd H6 x (.ins CS dx (putF "before" (.ref b') (putF "wishes" (.ref o) (putF "held" (.ref h') fs))))) := fun T t => Tabs.ins t F6.1.1
        have n7 : ∀ b, upd H6 x (.ins CS dx (putF "before" (.ref b') (putF "wishes" (.ref o) (putF "held" (.ref h') fs)))) b = none → H6 b = none := fun b e => by
          by_cases z : b = x
          · rw [z, upd_same] at e; cases e
          · rw [upd_ne z] at e; exact e
        generalize upd H6 x (.ins CS dx (putF "before" (.ref b') (putF "wishes" (.ref o) (putF "held" (.ref h') fs)))) = H7 at *
        have hml7 := (hml5.same s6).fr nM f7
        obtain ⟨dl', wl', rl', ps', g1, g2, g3, g4⟩ := id hml7
        have hl5 := g4.len
        refine ⟨_, rfl, h', CM, dl', _, _, rfl, g1, M.ML.cl, M.ML.no _ (by simp), ml_w, wl', _, rfl, .inl (SqL.of g2), _, rfl, h', CM, dl', _, _, rfl, g1, M.ML.cl, M.ML.no _ (by simp), ml_r, rl', _, rfl, .inl (SqL.of g3), (by show 3 ≤ sizeLine; decide), fun p hp => ?_⟩
        have sp := same_new (o := .lst [.int 1, .int ((((s.ms.map wayI).map V.int).length : Nat) : Int), .int (((ps'.map V.ref).length : Nat) : Int)]) hp
        have fd : Fg CS H5 (del (upd H7 p (.lst [.int 1, .int ((((s.ms.map wayI).map V.int).length : Nat) : Int), .int (((ps'.map V.ref).length : Nat) : Int)])) b') := fg_to fun c u e kp => ⟨ne_of_none e hb', sp _ _ (f7 _ _ (s6 _ _ e) kp.tbl kp.ins)⟩
        refine kQ s hs p _ _ b' (((Fr.ofS s1).trans f2).trans ((Fr.ofS s24).trans (f5.trans ((Fr.ofS s6).trans (f7.trans (Fr.ofS sp)))))) (fun T t => (t7 T ((t5 T ((t2 T (t.ext s1)).ext s24)).ext s6)).ext sp) (s1.free (n2 _ (s24.free (n5 _ (s6.free (n7 _ hp)))))) (s1.free (n2 _ (s24.free (n5 _ hb'))))
          ⟨h', o, F7.same sp, sp _ _ (f7 _ _ e6 (fun _ z => by cases z) (fun _ _ z => by cases z)), hml5.fg nM fd, w5.fg nW fd⟩ ?_
        rw [upd_same, List.length_map, List.length_map, List.length_map, hl5, List.length_map]
end
end BWP
namespace BWP
open PySem PySem.Spec PyProof.Rows L2
open LamX (Tabs ExtN TabB)
open BW (howMany IsB rowsOf)
open VaskyzNeutral (step asked1)
abbrev s_answers : Stmt := topS 87
abbrev s_ansCall : Stmt := topS 90
abbrev s_SesI : Stmt := inClass s_Session 0
/-- all stays but the tables, the objects of the class CS and what they own -/
def FrO (CS : Addr) (ow : List Addr) (H H' : Hp) : Prop := ∀ b o, H b = some o → (∀ ps, o ≠ .tbl ps) → (∀ dx fs, o ≠ .ins CS dx fs) → b ∉ ow → H' b = some o
theorem FrO.of {CS : Addr} {ow : List Addr} {H H' : Hp} (h : Fr CS H H') : FrO CS ow H H' := fun b o e n m _ => h b o e n m
theorem FrO.trans {CS : Addr} {ow : List Addr} {H H' H'' : Hp} (a : FrO CS ow H H') (b : FrO CS ow H' H'') : FrO CS ow H H'' := fun c o h n m k => b c o (a c o h n m k) n m k
/-- an object of the program that stands for o, and what it owns -/
abbrev RepT := Hp → Addr → List Addr → Vaskyz.Obj → Prop
def spCall (K : PySem.W.Frag) (CS : Addr) (T : List (Addr × Str)) (Rep : RepT) : Sp := fun vs H Q _ => ∃ (x nl : Addr) (ow : List Addr) (o : Vaskyz.Obj) (p : Int) (ns : List Int), vs = [.ref x, .int p, .ref nl] ∧ Rep H x ow o ∧ SqL K H nl (ns.map V.int) ∧ nl ∉ ow ∧ asked1 (rowsOf p ns) = true ∧ Tabs T H ∧
  ∀ a H' ow', FrO CS ow H H' → Tabs T H' → (∀ b ∈ ow', b ∈ ow ∨ NewN H b) → Rep H' x ow' (step o (rowsOf p ns)).1 → H' a = some (.lst ((step o (rowsOf p ns)).2.map V.int)) → NewN H a → Q (.ref a) H'
def spSesI (CS : Addr) (Rep : RepT) : Sp := fun vs H Q _ => ∃ (x dx : Addr), vs = [.ref x] ∧ H x = some (.ins CS dx []) ∧ ∀ H' ow, KB x H H' → (∀ b ∈ ow, H b = none) → Rep H' x ow none → Q .non H'
def spAns (K : PySem.W.Frag) (T : List (Addr × Str)) : Sp := fun vs H Q _ => ∃ (a : Addr) (ns : List Int), vs = [.ref a] ∧ SqL K H a (ns.map V.int) ∧ PyVaskyz.answers_asked ns = true ∧ Tabs T H ∧
  ∀ p H', H' p = some (.lst ((PyVaskyz.answers ns).map V.int)) → Q (.ref p) H'
theorem lst_fro {CS : Addr} {ow : List Addr} {H H' : Hp} {a : Addr} {xs : List V} (e : FrO CS ow H H') (n : a ∉ ow) (h : H a = some (.lst xs)) : H' a = some (.lst xs) := e _ _ h (fun _ z => by cases z) (fun _ _ z => by cases z) n
theorem SqL.fro {K : PySem.W.Frag} {CS : Addr} {ow : List Addr} {H H' : Hp} {a : Addr} {xs : List V} (e : FrO CS ow H H') (n : a ∉ ow) (h : SqL K H a xs) : SqL K H' a xs := by
  rcases h with (h | ⟨o, h⟩) | h
  · exact .inl (.inl (e _ _ h (fun _ z => by cases z) (fun _ _ z => by cases z) n))
  · exact .inl (.inr ⟨o, e _ _ h (fun _ z => by cases z) (fun _ _ z => by cases z) n⟩)
  · exact .inr h
/-- a list or a locked list changes -/
theorem Tabs.chg {T : List (Addr × Str)} {H : Hp} {W : Addr} {o u : HO} (t : Tabs T H) (h : H W = some u) (n1 : ∀ ps, u ≠ .tbl ps) (n2 : ∀ g, u ≠ .ext g) : Tabs T (upd H W o) := fun p hp => by
  obtain ⟨ps, h1, h2, h3⟩ := t p hp
  refine ⟨ps, (upd_ne fun z => ?_).trans h1, h2, fun pos cv hc => ?_⟩
  · rw [z, h] at h1; exact n1 _ (Option.some.inj h1)
  · obtain ⟨c, e1, e2⟩ := h3 pos cv hc
    exact ⟨c, e1, (upd_ne fun z => by rw [z, h] at e2; exact n2 _ (Option.some.inj e2)).trans e2⟩
/-- the list that was handed in: tracked and none of ours, or the program's own -/
def ArgAt (K : PySem.W.Frag) (t a : Addr) (ow : List Addr) (H : Hp) (xs : List V) : Prop := (a ≠ t ∧ a ∉ ow ∧ ((H a = some (.lst xs)) ∨ ∃ o, H a = some (.frz o (.lst xs)))) ∨ ∀ H', SqL K H' a xs
theorem ArgAt.sq {K : PySem.W.Frag} {t a : Addr} {ow : List Addr} {H : Hp} {xs : List V} (h : ArgAt K t a ow H xs) : SqL K H a xs := by
  rcases h with ⟨_, _, h⟩ | h
  · exact .inl h
  · exact h H
/-- whatever stands at t -/
theorem ArgAt.sqU {K : PySem.W.Frag} {t a : Addr} {ow : List Addr} {H : Hp} {xs : List V} {o : HO} (h : ArgAt K t a ow H xs) : SqL K (upd H t o) a xs := by
  rcases h with ⟨n, _, h | ⟨u, h⟩⟩ | h
  · exact .inl (.inl ((upd_ne n).trans h))
  · exact .inl (.inr ⟨u, (upd_ne n).trans h⟩)
  · exact h _
theorem ArgAt.step {K : PySem.W.Frag} {CS t a : Addr} {ow ow' : List Addr} {H HL H3 : Hp} {xs : List V} {o o' : HO} (h : ArgAt K t a ow H xs) (s : Same (upd H t o) HL) (f : FrO CS ow HL H3) (kw : ∀ b ∈ ow', b ∈ ow ∨ NewN HL b) : ArgAt K t a ow' (upd H3 t o') xs := by
  rcases h with ⟨n, m, h⟩ | h
  · refine .inl ⟨n, fun z => ?_, ?_⟩
    · rcases kw a z with q | q
      · exact m q
      · rcases h with h | ⟨u, h⟩
        · obtain ⟨_, e⟩ := q _ (s _ _ ((upd_ne n).trans h)); cases e
        · obtain ⟨_, e⟩ := q _ (s _ _ ((upd_ne n).trans h)); cases e
    · rcases h with h | ⟨u, h⟩
      · exact .inl ((upd_ne n).trans (f _ _ (s _ _ ((upd_ne n).trans h)) (fun _ z => by cases z) (fun _ _ z => by cases z) m))
      · exact .inr ⟨u, (upd_ne n).trans (f _ _ (s _ _ ((upd_ne n).trans h)) (fun _ z => by cases z) (fun _ _ z => by cases z) m)⟩
  · exact .inr h
theorem howm_of {K : PySem.W.Frag} {a : Addr} {ns : List Int} {i cnt : Nat} {p : Int} {H : Hp} {Q : VK} {E : XK} (h : SqL K H a (ns.map V.int)) (g1 : ns[i]? = some p) (g3 : p = 0 → ns[i + 1]? = some (cnt : Int)) (g4 : p ≠ 0 → (1 ≤ p ∧ p ≤ 7) ∧ cnt = howMany p) (q : Q (.int cnt) H) : spHowM K [.ref a, .int i] H Q E :=
  ⟨a, ns, i, p, rfl, h, g1, fun z => ⟨_, g3 z, q⟩, fun z => ⟨(g4 z).1, by rw [← (g4 z).2]; exact q⟩⟩
section
variable {P : Program} {w : World} {K : PySem.W.Frag} {mg : Str → Option Value} {base : Heap} {CS : Addr} {d dI dF dH dA : Dn} {T : List (Addr × Str)} {Rep : RepT}
theorem sc_answers : FnScope ["calls", "session", "told", "place", "first", "behind", "answer"] ["calls"] (defScope s_answers) := ⟨rfl, rfl, rfl, by decide +kernel, rfl, by decide +kernel, by decide +kernel⟩
theorem ok_answers (G : Glb K mg "answers" s_answers ["calls"] d) (TS : Rec K mg "Session" "Session.__init__" s_SesI ["self"] ["held", "wishes", "before"] CS dI) (FI : FnOk P w K mg base CX0 1 dI.a dI.fd ["self"] (spSesI CS Rep))
    (GF : Glb K mg "first_number" s_firstN ["calls", "place"] dF) (FF : FnOk P w K mg base CX0 1 dF.a dF.fd ["calls", "place"] (spFirstN K)) (GH : Glb K mg "how_many_numbers" s_howMany ["calls", "place"] dH) (FH : FnOk P w K mg base CX0 1 dH.a dH.fd ["calls", "place"] (spHowM K))
    (GA : Glb K mg "answer_call" s_ansCall ["session", "call", "numbers"] dA) (FA : FnOk P w K mg base CX0 11 dA.a dA.fd ["session", "call", "numbers"] (spCall K CS T Rep)) (ml : mg "len" = none)
    (hRep : ∀ H H' x ow o, Same H H' → Rep H x ow o → Rep H' x ow o) (hRepU : ∀ H x ow o t od xs od2 ys, H t = some (.frz od (.lst xs)) → Rep H x ow o → Rep (upd H t (.frz od2 (.lst ys))) x ow o) (hRepN : ∀ H x ow o, Rep H x ow o → ∀ b ∈ ow, ∃ xs, H b = some (.lst xs)) :
    FnOk P w K mg base CX0 12 d.a d.fd ["calls"] (spAns K T) := by
  refine G.F.ok sc_answers (fun vs H Q E h => ?_) (fun cdv A outer s H vs Q E hr h => ?_)
  · obtain ⟨a, ns, rfl, _⟩ := h; rfl
  · obtain ⟨a, ns, rfl, hS, hask, hT, kQ⟩ := h
    have hr1 : Room 1 _ := hr.mono (by decide)
    have hr2 : Room 2 _ := hr.mono (by decide)
    refine ⟨_, pss_cons (ps_set (i := 1) sc_answers.nd rfl (.inl rfl) (pe_make0 TS.mkr FI hr2 rfl TS.g TS.b .nil pass0))
      (pss_cons (ps_set (i := 2) sc_answers.nd rfl (.inl rfl) (pe_lst pa_nil))
      (pss_cons (ps_set (i := 3) sc_answers.nd rfl (.inl rfl) pe_int)
      (pss_cons (ps_while PassesOwn.never (pt_cmpR op_lt (pv 3) (pe_callB call_len_seq (by rfl) ml PySem.boot_len (pa_cons (pv 0) pa_nil)) (nomark _))
        (pss_cons (ps_set (i := 4) sc_answers.nd rfl (.inl rfl) (pe_call FF hr1 rfl GF.g GF.k GF.b .nil pass0 (pa_cons (pv 0) (pa_cons (pv 3) pa_nil))))
        (pss_cons (ps_set (i := 5) sc_answers.nd rfl (.inl rfl) (pe_op op_add (pv 4) (pe_call FH hr1 rfl GH.g GH.k GH.b .nil pass0 (pa_cons (pv 0) (pa_cons (pv 3) pa_nil)))))
        (pss_cons (ps_set (i := 6) sc_answers.nd rfl (.inl rfl) (pe_lock (pe_call FA hr rfl GA.g GA.k GA.b .nil pass0 (pa_cons (pv 1) (pa_cons (pe_ix ix_list (pv 0) (pv 3) (fun _ _ => rfl)) (pa_cons (pe_slice sl_list (pv 0) (po_some (pv 4)) (po_some (pv 5))) pa_nil))))))
        (pss_cons (ps_expr (pe_bm PySem.F.plainAttrs_list PySem.F.slot_list_append PySem.F.type_list_append mt_append (pv 2) (pa_cons (pe_callB call_len_seq (by rfl) ml PySem.boot_len (pa_cons (pv 6) pa_nil)) pa_nil)))
        (pss_cons (ps_expr (pe_bm PySem.F.plainAttrs_list PySem.F.slot_list_extend PySem.F.type_list_extend mt_extend (pv 2) (pa_cons (pv 6) pa_nil)))
        (pss_one (ps_set (i := 3) sc_answers.nd rfl (.inl rfl) (pv 5)))))))))
      (pss_one (ps_ret (pv 2)))))), ?_⟩
    obtain ⟨cs, e1, e2, e3, e4, e5⟩ := BW.asked_split hask
    intro x dx hx hdx ne
    refine ⟨x, dx, rfl, upd_same, fun H1 ow k1 kow rep => ⟨rfl, ?_⟩⟩
    have s0 : Same H (upd (upd H dx (.own x)) x (.ins CS dx [])) := fun b u e => (upd_ne (ne_of_none e hx)).trans ((upd_ne (ne_of_none e hdx)).trans e)
    have sH1 : Same H H1 := fun b u e => k1 _ _ (s0 _ _ e) (ne_of_none e hx)
    have aow : ∀ b ∈ ow, H b = none := fun b hb => s0.free (kow b hb)
    refine ⟨(by show 0 ≤ sizeLine; decide), fun t ht => ?_⟩
    -- what holds at each turn
    refine ⟨fun m σ H' => ∃ (i f : Nat) (cs' : List (List (List Int))) (o : Vaskyz.Obj) (ow' : List Addr) (tl : List Int) (v4 v5 v6 : Option V), σ = [some (.ref a), some (.ref x), some (.ref t), some (.int (i : Nat)), v4, v5, v6] ∧ i ≤ ns.length ∧ m = ns.length - i ∧
        PyFlat.calls PyVaskyz.shape f (ns.drop i) = some cs' ∧ (∀ c ∈ cs', asked1 (PyVaskyz.whole c) = true) ∧ PyVaskyz.answers ns = tl ++ PyFlat.told (PyFlat.played step o (cs'.map PyVaskyz.whole)) ∧ H' t = some (.lst (tl.map V.int)) ∧ Tabs T H' ∧ ArgAt K t a ow' H' (ns.map V.int) ∧
        (∀ od xs, Rep (upd H' t (.frz od (.lst xs))) x ow' o),
      ⟨_, 0, ns.length, cs, none, ow, [], none, none, none, rfl, Nat.zero_le _, rfl, e1, e2, e4, upd_same, (hT.ext sH1).ext (same_new ht), ?_, ?_⟩, ?_⟩
    · rcases hS with h | h
      · refine .inl ⟨?_, fun z => ?_, ?_⟩
        · rcases h with h | ⟨u, h⟩
          · exact ne_of_none (sH1 _ _ h) ht
          · exact ne_of_none (sH1 _ _ h) ht
        · rcases h with h | ⟨u, h⟩ <;> rw [aow a z] at h <;> cases h
        · rcases h with h | ⟨u, h⟩
          · exact .inl (same_new ht _ _ (sH1 _ _ h))
          · exact .inr ⟨u, same_new ht _ _ (sH1 _ _ h)⟩
      · exact .inr fun H' => .inr h
    · intro od xs
      rw [upd_upd]
      exact hRep _ _ _ _ _ (same_new ht) rep
    rintro m σ H2 ⟨i, f, cs', o, ow', tl, v4, v5, v6, rfl, hi, hm, c1, c2, c3, ht2, T2, hA, hR⟩
    refine ⟨_, rfl, _, rfl, a, _, rfl, .inl hA.sq, _, _, rfl, rfl, _, rfl, ?_⟩
    rw [List.length_map]
    by_cases hlt : i < ns.length
    · obtain ⟨p, fs, cnt, f', c, cs2, g1, g2, g3, g4, g5, g6, g7, g8⟩ := BW.flat_step hlt c1
      have fsI : (fs : Int) = if p = 0 then (i : Int) + 2 else (i : Int) + 1 := by rw [g2]; split <;> simp
      refine ifT (decide_eq_true (by omega)) ⟨_, fun _ _ z => z, _, rfl, _, rfl, a, ns, i, p, rfl, hA.sq, g1, ?_⟩
      rw [← fsI]
      refine ⟨_, rfl, _, rfl, _, rfl, ?_⟩
      dsimp only [tNil]
      refine howm_of hA.sq g1 g3 g4 ?_
      refine ⟨_, _, rfl, rfl, t, _, ht2, trivial, fun od => ?_⟩
      have sl : cutV (ns.map V.int) (some (fs : Int)) (some ((fs : Int) + (cnt : Int))) = ((ns.drop fs).take cnt).map V.int := by
        have := cutV_ints (ns := ns) (p := fs) (q := fs + cnt) (by omega) (by omega)
        rw [Nat.add_sub_cancel_left] at this
        rw [← this]; rfl
      refine ⟨_, rfl, _, rfl, _, rfl, a, _, _, _, rfl, rfl, hA.sqU, at_int g1, _, rfl, _, rfl, _, rfl, _, rfl, _, rfl, a, _, rfl, hA.sqU, fun nl hnl => ?_⟩
      have R1 := hR od (tl.map V.int)
      have sn := same_new (o := .lst (cutV (ns.map V.int) (some (fs : Int)) (some ((fs : Int) + (cnt : Int))))) hnl
      have nT : nl ∉ ow' := fun z => by
        obtain ⟨xs, e⟩ := hRepN _ _ _ _ R1 nl z
        rw [hnl] at e; cases e
      have tT : t ∉ ow' := fun z => by
        obtain ⟨xs, e⟩ := hRepN _ _ _ _ R1 t z
        rw [upd_same] at e; cases e
      refine ⟨x, nl, ow', o, p, (ns.drop fs).take cnt, rfl, hRep _ _ _ _ _ sn R1, SqL.of (by rw [upd_same, sl]), nT, ?_, LamX.Tabs.ext (Tabs.chg T2 ht2 (fun _ z => by cases z) (fun _ z => by cases z)) sn, fun a2 H3 ow3 fr T3 kow3 rep3 h3 new3 => ?_⟩
      · rw [← g7]; exact c2 c (by rw [g6]; exact List.mem_cons_self)
      have ht3 : H3 t = some (.frz od (.lst (tl.map V.int))) := fr _ _ (sn _ _ upd_same) (fun _ z => by cases z) (fun _ _ z => by cases z) tT
      have at2 : a2 ≠ t := fun z => by
        obtain ⟨_, e⟩ := new3 _ (by rw [z]; exact sn _ _ upd_same)
        cases e
      have hA3 : ∀ o', ArgAt K t a ow3 (upd H3 t o') (ns.map V.int) := fun o' => hA.step sn fr kow3
      have cons : PyVaskyz.answers ns = (tl ++ (((step o (rowsOf p ((ns.drop fs).take cnt))).2.length : Int) :: (step o (rowsOf p ((ns.drop fs).take cnt))).2)) ++ PyFlat.told (PyFlat.played step (step o (rowsOf p ((ns.drop fs).take cnt))).1 (cs2.map PyVaskyz.whole)) := by
        rw [c3, g6, List.map_cons, g7]
        show tl ++ PyFlat.told ((step o (rowsOf p ((ns.drop fs).take cnt))).2 :: PyFlat.played step (step o (rowsOf p ((ns.drop fs).take cnt))).1 (cs2.map PyVaskyz.whole)) = _
        rw [BW.told_cons, List.append_assoc]
      generalize (step o (rowsOf p ((ns.drop fs).take cnt))).1 = o3 at *
      generalize (step o (rowsOf p ((ns.drop fs).take cnt))).2 = an at *
      have len : tl.length + 1 + an.length ≤ 10000000 := by
        have := e5
        rw [cons, List.length_append, List.length_append, List.length_cons] at this
        omega
      refine ⟨ht3, ?_⟩
      have h3a : upd H3 t (.lst (tl.map V.int)) a2 = some (.lst (an.map V.int)) := (upd_ne at2).trans h3
      refine ⟨_, rfl, .inl ⟨rfl, _, SqL.of upd_same⟩, _, rfl, a2, _, rfl, .inl (SqL.of h3a), t, _, _, rfl, rfl, upd_same, ?_, ?_⟩
      · show (tl.map V.int).length < 2 ^ 24
        rw [List.length_map]; omega
      rw [upd_upd]
      refine ⟨_, rfl, .inl ⟨rfl, _, SqL.of upd_same⟩, _, rfl, t, a2, _, _, rfl, rfl, upd_same, (upd_ne at2).trans h3, ?_, ?_⟩
      · show (tl.map V.int ++ [_]).length + (an.map V.int).length ≤ 2 ^ 24
        rw [List.length_append, List.length_map, List.length_map]
        show tl.length + 1 + an.length ≤ 2 ^ 24
        omega
      rw [upd_upd]
      refine ⟨_, rfl, ns.length - (fs + cnt), ?_, fs + cnt, f', cs2, o3, ow3, tl ++ ((an.length : Int) :: an), _, _, _, rfl, g5, rfl, g8, fun c' hc' => c2 c' (by rw [g6]; exact List.mem_cons_of_mem _ hc'), cons, ?_, Tabs.chg T3 ht3 (fun _ z => by cases z) (fun _ z => by cases z), hA3 _, fun od2 xs2 => ?_⟩
      · have : i < fs + cnt := by rw [g2]; split <;> omega
        omega
      · rw [upd_same, List.map_append, List.map_cons, List.append_assoc, List.length_map]; rfl
      · rw [upd_upd]; exact hRepU _ _ _ _ _ _ _ _ _ ht3 rep3
    · have ei : i = ns.length := by omega
      refine ifF (decide_eq_false (by omega)) ⟨_, rfl, kQ t H2 ?_⟩
      rw [ei, List.drop_length] at c1
      rw [BW.calls_nil c1] at c3
      have c3 : PyVaskyz.answers ns = tl ++ [] := c3
      rw [c3, List.append_nil]; exact ht2
end
end BWP
namespace BWP
open PySem PySem.Spec PyProof.Rows L2
open LamX (Tabs ExtN TabB)
open BW (Sm Ln LnOk ofRat SheetOk)
open VaskyzNeutral (encode)
/-! ### the object as it stands for Held -/
def RepS (K : PySem.W.Frag) (CS CM CW : Addr) (H : Hp) (x b : Addr) (z : Vaskyz.Held) : Prop := ∃ (dx : Addr) (fs : List (Str × V)) (h v : Addr) (ps : List Addr), SesB CS H x dx fs (.ref h) (.ref v) b ∧ H b = some (.lst (ps.map V.ref)) ∧
  MLAt CM (del H b) h z.s ∧ WsAt K CW (del H b) v z.w ∧ PastAt K CW (del H b) ps z.past.reverse
def Rep (K : PySem.W.Frag) (CS CM CW : Addr) : RepT := fun H x ow o => match o with
  | none => ∃ dx fs b, ow = [b] ∧ SesB CS H x dx fs .non .non b ∧ H b = some (.lst [])
  | some z => ∃ b, ow = [b] ∧ RepS K CS CM CW H x b z ∧ Inv z
section
variable {K : PySem.W.Frag} {CS CM CW : Addr} {H H' : Hp} {x b : Addr} {z : Vaskyz.Held}
theorem RepS.held (r : RepS K CS CM CW H x b z) : HeldAt K CS CM CW H x z.s z.w := let ⟨_, _, h, v, _, r1, _, r3, r4, _⟩ := r; ⟨h, v, r1.1.at, r3.ext (ExtN.of_same same_del), r4.same same_del⟩
theorem RepS.same (nM : CM ≠ CS) (nW : CW ≠ CS) (s : Same H H') (r : RepS K CS CM CW H x b z) : RepS K CS CM CW H' x b z :=
  let ⟨dx, fs, h, v, ps, r1, r2, r3, r4, r5⟩ := r; ⟨dx, fs, h, v, ps, r1.same s, s _ _ r2, r3.fg nM (Fg.ofS (del_same2 s)), r4.fg nW (Fg.ofS (del_same2 s)), r5.fg nW (Fg.ofS (del_same2 s))⟩
/-- all but tables stays -/
theorem RepS.ext (nM : CM ≠ CS) (nW : CW ≠ CS) (e : ExtN H H') (r : RepS K CS CM CW H x b z) : RepS K CS CM CW H' x b z := by
  obtain ⟨dx, fs, h, v, ps, r1, r2, r3, r4, r5⟩ := r
  have f : Fg CS (del H b) (del H' b) := fg_del fun c o n q k => ⟨n, e _ _ q k.tbl⟩
  exact ⟨dx, fs, h, v, ps, ⟨⟨e _ _ r1.1.1 (fun _ z => by cases z), r1.1.2⟩, r1.2⟩, e _ _ r2 (fun _ z => by cases z), r3.fg nM f, r4.fg nW f, r5.fg nW f⟩
theorem Rep.same {ow : List Addr} {o : Vaskyz.Obj} (nM : CM ≠ CS) (nW : CW ≠ CS) (s : Same H H') (r : Rep K CS CM CW H x ow o) : Rep K CS CM CW H' x ow o := by
  cases o with
  | none => obtain ⟨dx, fs, b, r1, r2, r3⟩ := r; exact ⟨dx, fs, b, r1, r2.same s, s _ _ r3⟩
  | some z => obtain ⟨b, r1, r2, r3⟩ := r; exact ⟨b, r1, r2.same nM nW s, r3⟩
theorem Rep.frz {ow : List Addr} {o : Vaskyz.Obj} {t : Addr} {od od2 : Obj} {xs ys : List V} (nM : CM ≠ CS) (nW : CW ≠ CS) (ht : H t = some (.frz od (.lst xs))) (r : Rep K CS CM CW H x ow o) : Rep K CS CM CW (upd H t (.frz od2 (.lst ys))) x ow o := by
  have ne : ∀ {c : Addr} {u : HO}, H c = some u → u ≠ .frz od (.lst xs) → upd H t (.frz od2 (.lst ys)) c = some u := fun {c u} h n => (upd_ne (ne_of h ht n)).trans h
  have sb : ∀ {dx : Addr} {fs : List (Str × V)} {h v : V} {b : Addr}, SesB CS H x dx fs h v b → SesB CS (upd H t (.frz od2 (.lst ys))) x dx fs h v b := fun r => ⟨⟨ne r.1.1 (by intro z; cases z), r.1.2⟩, r.2⟩
  cases o with
  | none => obtain ⟨dx, fs, b, r1, r2, r3⟩ := r; exact ⟨dx, fs, b, r1, sb r2, ne r3 (by intro z; cases z)⟩
  | some z =>
    obtain ⟨b, r1, ⟨dx, fs, h, v, ps, s1, s2, s3, s4, s5⟩, r3⟩ := r
    have f : Fg CS (del H b) (del (upd H t (.frz od2 (.lst ys))) b) := fg_del fun c o n q k => ⟨n, ne q fun z => by rw [z] at k; exact k.frzL⟩
    exact ⟨b, r1, ⟨dx, fs, h, v, ps, sb s1, ne s2 (by intro z; cases z), s3.fg nM f, s4.fg nW f, s5.fg nW f⟩, r3⟩
theorem Rep.lst {ow : List Addr} {o : Vaskyz.Obj} (r : Rep K CS CM CW H x ow o) : ∀ c ∈ ow, ∃ xs, H c = some (.lst xs) := by
  cases o with
  | none =>
    obtain ⟨dx, fs, b, rfl, _, r3⟩ := r
    intro c hc; rw [List.mem_singleton.mp hc]; exact ⟨_, r3⟩
  | some z =>
    obtain ⟨b, rfl, ⟨dx, fs, h, v, ps, _, s2, _⟩, _⟩ := r
    intro c hc; rw [List.mem_singleton.mp hc]; exact ⟨_, s2⟩
end
/-- what a call asks: its answer, and the object behind it -/
def Post (K : PySem.W.Frag) (CS CM CW : Addr) (T : List (Addr × Str)) (H : Hp) (x : Addr) (ow : List Addr) (o : Vaskyz.Obj) (an : List Int) (Q : VK) : Prop :=
  ∀ a H' ow', FrO CS ow H H' → Tabs T H' → (∀ b ∈ ow', b ∈ ow ∨ NewN H b) → Rep K CS CM CW H' x ow' o → H' a = some (.lst (an.map V.int)) → NewN H a → Q (.ref a) H'
section
variable {K : PySem.W.Frag} {CS CM CW : Addr} {T : List (Addr × Str)} {H H' : Hp} {x b : Addr} {ow : List Addr} {o : Vaskyz.Obj} {an : List Int} {Q : VK} {z : Vaskyz.Held}
/-- the object stays: only tables change -/
theorem Post.stay (nM : CM ≠ CS) (nW : CW ≠ CS) (k : Post K CS CM CW T H x [b] (some z) an Q) (r : RepS K CS CM CW H x b z) (i : Inv z) {a : Addr} (e : ExtN H H') (t : Tabs T H') (n : NewN H a) (h : H' a = some (.lst (an.map V.int))) : Q (.ref a) H' :=
  k a H' [b] (FrO.of (Fr.of e)) t (fun _ q => .inl q) ⟨b, rfl, r.ext nM nW e, i⟩ h n
theorem Post.new (nM : CM ≠ CS) (nW : CW ≠ CS) (k : Post K CS CM CW T H x [b] (some z) an Q) (r : RepS K CS CM CW H x b z) (i : Inv z) (t : Tabs T H) {a : Addr} (s : Same H H') (n : H a = none) (h : H' a = some (.lst (an.map V.int))) : Q (.ref a) H' :=
  k.stay nM nW r i (ExtN.of_same s) (t.ext s) (NewN.of n) h
end
/-- what was no table is there still, and is none -/
def NoT (H H' : Hp) : Prop := ∀ c o, H c = some o → (∀ q, o ≠ .tbl q) → ∃ o', H' c = some o' ∧ ∀ q, o' ≠ .tbl q
theorem NoT.newN {H H' : Hp} {a : Addr} (h : NoT H H') (n : NewN H' a) : NewN H a := fun o e => by
  by_cases z : ∃ q, o = .tbl q
  · exact z
  · obtain ⟨o', e1, e2⟩ := h a o e fun q y => z ⟨q, y⟩
    obtain ⟨q, e3⟩ := n _ e1
    exact absurd e3 (e2 q)
/-- the object behind a change -/
theorem Post.change {K : PySem.W.Frag} {CS CM CW : Addr} {T : List (Addr × Str)} {H H0 H1 H2 : Hp} {x b b' a : Addr} {an : List Int} {Q : VK} {z : Vaskyz.Held} (nM : CM ≠ CS) (nW : CW ≠ CS) (k : Post K CS CM CW T H x [b] (some z) an Q) (s0 : Same H H0) (f : FrO CS [b] H0 H1) (hb : H0 b' = none) (nt : NoT H0 H1) (R : RepS K CS CM CW H1 x b' z) (I : Inv z)
    (e : ExtN H1 H2) (t : Tabs T H2) (n : NewN H1 a) (h : H2 a = some (.lst (an.map V.int))) : Q (.ref a) H2 := by
  refine k a H2 [b'] (fun c o q m1 m2 m3 => e _ _ (f _ _ (s0 _ _ q) m1 m2 m3) m1) t (fun c hc => ?_) ⟨b', rfl, R.ext nM nW e, I⟩ h fun o q => nt.newN n o (s0 _ _ q)
  rw [List.mem_singleton.mp hc]
  exact .inr (NewN.of (s0.free hb))
/-! ### change -/
abbrev s_change : Stmt := inClass s_Session 9
def spChange (K : PySem.W.Frag) (CS CM CW : Addr) : Sp := fun vs H Q _ => ∃ (x b v' : Addr) (z : Vaskyz.Held) (w' : Vaskyz.Wish), vs = [.ref x, .ref v'] ∧ RepS K CS CM CW H x b z ∧ WsAt K CW (del H b) v' w' ∧ z.past.length ≤ 20 ∧
  ∀ H' b', FrO CS [b] H H' → (∀ T, Tabs T H → Tabs T H') → H b' = none → NoT H H' → RepS K CS CM CW H' x b' ⟨z.s, w', (z.w :: z.past).take 20⟩ → Q .non H'
theorem cut_last {xs : List V} : cutV xs (some (-20)) none = xs.drop (xs.length - 20) := by
  have e1 : HT.sIx xs.length 0 (some (-20)) = xs.length - 20 := by
    show (if (-20 : Int) < 0 then (-20 + (xs.length : Int)).toNat else min (-20 : Int).toNat xs.length) = _
    rw [if_pos (by decide)]; omega
  have e2 : HT.sIx xs.length xs.length none = xs.length := rfl
  unfold cutV
  rw [e1, e2, List.take_of_length_le (by rw [List.length_drop]; omega)]
section
variable {P : Program} {w : World} {K : PySem.W.Frag} {mg : Str → Option Value} {base : Heap} {CS CM CW : Addr} {d dM dW dN : Dn}
theorem sc_change : FnScope ["self", "wishes"] ["self", "wishes"] (defScope s_change) := ⟨rfl, rfl, rfl, by decide +kernel, rfl, by decide +kernel, by decide +kernel⟩
theorem ok_change (G : Mth K CS "change" "Session.change" s_change ["self", "wishes"] d) (M : SesC K mg CS CM CW dM dW) (cM : Cst mg "MOST_CHANGES" (.int 20)) (nM : CM ≠ CS) (nW : CW ≠ CS) : FnOk P w K mg base CX0 1 d.a d.fd ["self", "wishes"] (spChange K CS CM CW) := by
  refine G.F.ok sc_change (fun vs H Q E h => ?_) (fun cdv A outer s H vs Q E hr h => ?_)
  · obtain ⟨x, b, v', z, w', rfl, _⟩ := h; rfl
  · obtain ⟨x, b, v', z, w', rfl, ⟨dx, fs, h, v, ps, F, hb, hM, hW, hP⟩, hw', few, k⟩ := h
    refine ⟨_, pss_cons (ps_expr (pe_bm PySem.F.plainAttrs_list PySem.F.slot_list_append PySem.F.type_list_append mt_append (pe_fld (pv 0) rfl) (pa_cons (pe_fld (pv 0) rfl) pa_nil)))
      (pss_cons (ps_fld (pv 0) (pe_slice sl_list (pe_fld (pv 0) rfl) (po_some (pe_un un_neg (pe_cst rfl cM))) po_none) rfl)
      (pss_one (ps_fld (pv 0) (pv 1) rfl))), ?_⟩
    have pl := hP.len
    rw [List.length_reverse] at pl
    refine ⟨_, rfl, x, CS, dx, _, _, rfl, F.1.1, M.cl, M.no _ (by simp), F.2, .inl ⟨rfl, _, SqL.of hb⟩, _, rfl, x, CS, dx, _, _, rfl, F.1.1, M.cl, M.no _ (by simp), F.1.2.2.1, b, _, _, rfl, rfl, hb, ?_, ?_⟩
    · show (ps.map V.ref).length < 2 ^ 24
      rw [List.length_map]; omega
    have xb : x ≠ b := ne_of F.1.1 hb (by intro z; cases z)
    have F1 : SesB CS (upd H b (.lst (ps.map V.ref ++ [.ref v]))) x dx fs (.ref h) (.ref v) b := ⟨⟨(upd_ne xb).trans F.1.1, F.1.2⟩, F.2⟩
    have f1 : ∀ c o, H c = some o → c ≠ b → upd H b (.lst (ps.map V.ref ++ [.ref v])) c = some o := fun c o e n => (upd_ne n).trans e
    have hb1 : upd H b (.lst (ps.map V.ref ++ [.ref v])) b = some (.lst (ps.map V.ref ++ [.ref v])) := upd_same
    have n1 : ∀ c, upd H b (.lst (ps.map V.ref ++ [.ref v])) c = none → H c = none := fun c e => by
      by_cases q : c = b
      · rw [q, upd_same] at e; cases e
      · rw [upd_ne q] at e; exact e
    have t1 : ∀ T, Tabs T H → Tabs T (upd H b (.lst (ps.map V.ref ++ [.ref v]))) := fun T t => Tabs.put t hb
    generalize upd H b (.lst (ps.map V.ref ++ [.ref v])) = H1 at *
    refine ⟨_, rfl, x, CS, dx, _, _, rfl, F1.1.1, M.cl, M.no _ (by simp), F1.2, _, rfl, _, rfl, b, _, rfl, SqL.of hb1, fun b' hb' => ?_⟩
    have s2 := same_new (o := .lst (cutV (ps.map V.ref ++ [V.ref v]) (some (-20)) none)) hb'
    have hb2 : upd H1 b' (.lst (cutV (ps.map V.ref ++ [V.ref v]) (some (-20)) none)) b' = some (.lst (cutV (ps.map V.ref ++ [V.ref v]) (some (-20)) none)) := upd_same
    have F2 := F1.same s2
    generalize upd H1 b' (.lst (cutV (ps.map V.ref ++ [V.ref v]) (some (-20)) none)) = H2 at *
    refine ⟨_, rfl, x, CS, dx, _, rfl, F2.1.1, M.cl, M.no _ (by simp), Nat.lt_trans F2.1.2.2.2.2 (by decide), ?_⟩
    have F3 := F2.bef (H' := H2) (b' := b')
    refine ⟨_, rfl, _, rfl, x, CS, dx, _, rfl, F3.1.1, M.cl, M.no _ (by simp), Nat.lt_trans F3.1.2.2.2.2 (by decide), ?_⟩
    have F4 := F3.wish (H' := upd H2 x (.ins CS dx (putF "before" (.ref b') fs))) (y := .ref v')
    rw [upd_upd] at F4 ⊢
    have xb' : b' ≠ x := fun q => by rw [q, F1.1.1] at hb'; cases hb'
    have keep : ∀ c o, H c = some o → c ≠ b → (∀ dx fs, o ≠ .ins CS dx fs) → upd H2 x (.ins CS dx (putF "wishes" (.ref v') (putF "before" (.ref b') fs))) c = some o := fun c o e n m =>
      (upd_ne fun q => by rw [q, F.1.1] at e; exact m dx fs (Option.some.inj e).symm).trans (s2 _ _ (f1 c o e n))
    have fd : Fg CS (del H b) (del (upd H2 x (.ins CS dx (putF "wishes" (.ref v') (putF "before" (.ref b') fs)))) b') := fg_del fun c o n q kp => ⟨ne_of_none (f1 c o q n) hb', keep c o q n kp.ins⟩
    refine k _ b' (fun c o e _ m n => keep c o e (fun q => n (by rw [q]; exact List.mem_singleton.mpr rfl)) m) (fun T t => Tabs.ins ((t1 T t).ext s2) F2.1.1) (n1 _ hb') (fun c o e no => ?_) ⟨dx, _, h, v', (ps ++ [v]).drop ((ps ++ [v]).length - 20), F4, ?_, hM.fg nM fd, hw'.fg nW fd, ?_⟩
    · by_cases q : c = x
      · rw [q]; exact ⟨_, upd_same, fun _ y => by cases y⟩
      · rw [upd_ne q]
        by_cases q2 : c = b
        · rw [q2]; exact ⟨_, s2 _ _ hb1, fun _ y => by cases y⟩
        · exact ⟨o, s2 _ _ (f1 c o e q2), no⟩
    · rw [upd_ne xb', hb2, cut_last]
      congr 2
      rw [List.map_drop, List.map_append, List.length_append, List.length_append, List.length_map]; rfl
    · have e : ((z.w :: z.past).take 20).reverse = (z.past.reverse ++ [z.w]).drop ((ps ++ [v]).length - 20) := by
        rw [List.reverse_take, List.reverse_cons, List.length_append, pl]; rfl
      show PastAt K CW _ _ ((z.w :: z.past).take 20).reverse
      rw [e]
      exact (PastAt.snoc hW hP).fg nW fd |>.drop _
end
end BWP
namespace BWP
open PySem PySem.Spec PyProof.Rows L2
open LamX (Tabs ExtN TabB)
open BW (Sm Ln LnOk ofRat SheetOk)
open VaskyzNeutral (encode)
abbrev s_bound : Stmt := inClass s_Session 2
abbrev s_begin : Stmt := inClass s_Session 3
abbrev s_undo : Stmt := inClass s_Session 8
/-- a call's promise, its numbers given -/
def spCal (K : PySem.W.Frag) (CS CM CW : Addr) (T : List (Addr × Str)) (c : List Int → Option (Vaskyz.Held → Vaskyz.Obj × VaskyBase.Answer)) : Sp := fun vs H Q _ => ∃ (x b : Addr) (z : Vaskyz.Held) (ns : List Int) (f : Vaskyz.Held → Vaskyz.Obj × VaskyBase.Answer), vs = .ref x :: ns.map V.int ∧ c ns = some f ∧ RepS K CS CM CW H x b z ∧ Inv z ∧ Tabs T H ∧ Post K CS CM CW T H x [b] (f z).1 (encode (f z).2) Q
def cBound : List Int → Option (Vaskyz.Held → Vaskyz.Obj × VaskyBase.Answer) | [m, lo, hi] => some fun z => Vaskyz.boundCall z m lo hi | _ => none
def cBegin : List Int → Option (Vaskyz.Held → Vaskyz.Obj × VaskyBase.Answer) | [m, k] => some fun z => Vaskyz.beginCall z m k | _ => none
def cLike : List Int → Option (Vaskyz.Held → Vaskyz.Obj × VaskyBase.Answer) | [m, k] => some fun z => Vaskyz.likeCall z m k | _ => none
def cUndo : List Int → Option (Vaskyz.Held → Vaskyz.Obj × VaskyBase.Answer) | [] => some fun z => Vaskyz.step (some z) .undo | _ => none
def cStill : List Int → Option (Vaskyz.Held → Vaskyz.Obj × VaskyBase.Answer) | [] => some fun z => Vaskyz.step (some z) .still | _ => none
def cAsk : List Int → Option (Vaskyz.Held → Vaskyz.Obj × VaskyBase.Answer) | [] => some fun z => Vaskyz.step (some z) .ask | _ => none
def cBest : List Int → Option (Vaskyz.Held → Vaskyz.Obj × VaskyBase.Answer) | [] => some fun z => Vaskyz.step (some z) .best | _ => none
theorem c0 {F : Vaskyz.Held → Vaskyz.Obj × VaskyBase.Answer} {c : List Int → Option (Vaskyz.Held → Vaskyz.Obj × VaskyBase.Answer)} (h0 : c [] = some F) (h1 : ∀ n ns, c (n :: ns) = none) {ns : List Int} {f} (h : c ns = some f) : ns = [] ∧ f = F := by
  cases ns with
  | nil => rw [h0] at h; exact ⟨rfl, (Option.some.inj h).symm⟩
  | cons n r => rw [h1] at h; cases h
theorem c2 {F : Int → Int → Vaskyz.Held → Vaskyz.Obj × VaskyBase.Answer} {c : List Int → Option (Vaskyz.Held → Vaskyz.Obj × VaskyBase.Answer)} (h0 : ∀ m k, c [m, k] = some (F m k)) (h1 : c [] = none) (h2 : ∀ m, c [m] = none) (h3 : ∀ a b d r, c (a :: b :: d :: r) = none) {ns : List Int} {f} (h : c ns = some f) : ∃ m k, ns = [m, k] ∧ f = F m k := by
  match ns, h with
  | [], h => rw [h1] at h; cases h
  | [m], h => rw [h2] at h; cases h
  | [m, k], h => rw [h0] at h; exact ⟨m, k, rfl, (Option.some.inj h).symm⟩
  | a :: b :: d :: r, h => rw [h3] at h; cases h
theorem c3 {ns : List Int} {f} (h : cBound ns = some f) : ∃ m lo hi, ns = [m, lo, hi] ∧ f = fun z => Vaskyz.boundCall z m lo hi := by
  match ns, h with
  | [m, lo, hi], h => exact ⟨m, lo, hi, rfl, (Option.some.inj h).symm⟩
theorem index_of {i : Int} {n : Nat} (h : 0 ≤ i ∧ i < (n : Int)) : VaskyBase.index i n = some i.toNat := if_pos h
theorem index_no {i : Int} {n : Nat} (h : ¬ (0 ≤ i ∧ i < (n : Int))) : VaskyBase.index i n = none := if_neg h
theorem BdsAt.set {K : PySem.W.Frag} {H : Hp} {q : Addr} {b : Int × Int} (h : SqT K H q [.int b.1, .int b.2]) : ∀ {qs : List Addr} {bs : List (Int × Int)} (j : Nat), BdsAt K H qs bs → BdsAt K H (qs.set j q) (bs.set j b)
  | [], [], _, _ => trivial
  | _ :: _, _ :: _, 0, ⟨_, h2⟩ => ⟨h, h2⟩
  | _ :: _, _ :: _, j + 1, ⟨h1, h2⟩ => ⟨h1, BdsAt.set h j h2⟩
section
variable {P : Program} {w : World} {K : PySem.W.Frag} {mg : Str → Option Value} {base : Heap} {CS CM CW : Addr} {d dM dW dN dC dH dA dV : Dn} {T : List (Addr × Str)}
theorem sc_undo : FnScope ["self"] ["self"] (defScope s_undo) := ⟨rfl, rfl, rfl, by decide +kernel, rfl, by decide +kernel, by decide +kernel⟩
theorem ok_undo (G : Mth K CS "undo" "Session.undo" s_undo ["self"] d) (M : SesC K mg CS CM CW dM dW) (c8 : Cst mg "NO_CHANGE_HELD" (.int (-8))) (nM : CM ≠ CS) (nW : CW ≠ CS) (GN : Mth K CS "numbers_within" "Session.numbers_within" s_numsW ["self"] dN)
    (FN : FnOk P w K mg base CX0 2 dN.a dN.fd ["self"] (spNumsW K CS CM CW)) : FnOk P w K mg base CX0 3 d.a d.fd ["self"] (spCal K CS CM CW T cUndo) := by
  refine G.F.ok sc_undo (fun vs H Q E h => ?_) (fun cdv A outer s H vs Q E hr h => ?_)
  · obtain ⟨x, b, z, ns, f, rfl, hf, _⟩ := h
    obtain ⟨rfl, _⟩ := c0 (c := cUndo) rfl (fun _ _ => rfl) hf; rfl
  · obtain ⟨x, b, z, ns, f, rfl, hf, hR, hI, hT, k⟩ := h
    obtain ⟨rfl, rfl⟩ := c0 (c := cUndo) rfl (fun _ _ => rfl) hf
    refine ⟨_, pss_cons (ps_if (pt_cmpR op_eq (pe_callB call_len_seq (by rfl) M.len PySem.boot_len (pa_cons (pe_fld (pv 0) rfl) pa_nil)) pe_int (nomark _)) (pss_one (ps_ret (pe_lst (pa_cons (pe_cst rfl c8) pa_nil)))) pss_nil)
      (pss_cons (ps_fld (pv 0) (pe_bm0 PySem.F.plainAttrs_list PySem.F.slot_list_pop PySem.F.type_list_pop mt_pop (pe_fld (pv 0) rfl)) rfl)
      (pss_one (ps_ret (pe_lst (pa_cons (pe_callB call_len_seq (by rfl) M.len PySem.boot_len (pa_cons (pe_meth0 (pv 0) M.cl GN.m FN hr GN.b .nil pass0) pa_nil)) pa_nil))))), ?_⟩
    obtain ⟨dx, fs, h, v, ps, F, hb, hM, hW, hP⟩ := id hR
    have pl := hP.len
    rw [List.length_reverse] at pl
    refine ⟨_, rfl, x, CS, dx, _, _, rfl, F.1.1, M.cl, M.no _ (by simp), F.2, b, _, rfl, .inl (SqL.of hb), rfl, _, rfl, ?_⟩
    rw [List.length_map]
    cases hpast : z.past with
    | nil =>
      rw [hpast] at pl
      refine ifT (decide_eq_true (by rw [pl]; rfl)) ⟨(by show 1 ≤ sizeLine; decide), fun p hp => ?_⟩
      have e : Vaskyz.step (some z) .undo = (some z, VaskyBase.one (-8)) := by
        show (match z.past with
          | [] => (some z, VaskyBase.one (-8))
          | w :: r => (some ⟨z.s, w, r⟩, VaskyBase.one ((Vaskyz.within z.s w).length : Int))) = _
        rw [hpast]
      simp only [e] at k
      exact k.new nM nW hR hI hT (same_new hp) hp upd_same
    | cons w0 r =>
      have e : Vaskyz.step (some z) .undo = (some ⟨z.s, w0, r⟩, VaskyBase.one ((Vaskyz.within z.s w0).length : Int)) := by
        show (match z.past with
          | [] => (some z, VaskyBase.one (-8))
          | w :: r => (some ⟨z.s, w, r⟩, VaskyBase.one ((Vaskyz.within z.s w).length : Int))) = _
        rw [hpast]
      simp only [e] at k
      rw [hpast] at pl
      rw [hpast, List.reverse_cons] at hP
      obtain ⟨us, u, rfl, hP1, hP2⟩ := PastAt.last hP
      refine ifF (decide_eq_false fun q => by have := V.int.inj q; rw [List.length_append] at this; simp at this; omega) ?_
      have hl : ((us ++ [u]).map V.ref)[((us ++ [u]).map V.ref).length - 1]? = some (V.ref u) := by
        rw [List.getElem?_map, List.length_map, List.length_append]
        show Option.map V.ref (us ++ [u])[us.length + 1 - 1]? = _
        rw [Nat.add_sub_cancel, List.getElem?_append_right (Nat.le_refl _), Nat.sub_self]; rfl
      refine ⟨_, rfl, x, CS, dx, _, _, rfl, F.1.1, M.cl, M.no _ (by simp), F.2, .inl ⟨rfl, _, SqL.of hb⟩, b, _, _, rfl, rfl, hb, hl, ?_⟩
      have dl : ((us ++ [u]).map V.ref).dropLast = us.map V.ref := by rw [List.map_append]; exact List.dropLast_concat
      rw [dl]
      have xb : x ≠ b := ne_of F.1.1 hb (by intro z; cases z)
      have F1 : SesB CS (upd H b (.lst (us.map V.ref))) x dx fs (.ref h) (.ref v) b := ⟨⟨(upd_ne xb).trans F.1.1, F.1.2⟩, F.2⟩
      refine ⟨_, rfl, x, CS, dx, _, rfl, F1.1.1, M.cl, M.no _ (by simp), Nat.lt_trans F1.1.2.2.2.2 (by decide), ?_⟩
      have F2 := F1.wish (H' := upd H b (.lst (us.map V.ref))) (y := .ref u)
      have keep : ∀ c o, H c = some o → c ≠ b → (∀ dx fs, o ≠ .ins CS dx fs) → upd (upd H b (.lst (us.map V.ref))) x (.ins CS dx (putF "wishes" (.ref u) fs)) c = some o := fun c o e n m =>
        (upd_ne fun q => by rw [q, F.1.1] at e; exact m dx fs (Option.some.inj e).symm).trans ((upd_ne n).trans e)
      have t2 : Tabs T (upd (upd H b (.lst (us.map V.ref))) x (.ins CS dx (putF "wishes" (.ref u) fs))) := Tabs.ins (Tabs.put hT hb) F1.1.1
      have hb2 : upd (upd H b (.lst (us.map V.ref))) x (.ins CS dx (putF "wishes" (.ref u) fs)) b = some (.lst (us.map V.ref)) := (upd_ne (Ne.symm xb)).trans upd_same
      have n2 : ∀ c, upd (upd H b (.lst (us.map V.ref))) x (.ins CS dx (putF "wishes" (.ref u) fs)) c = none → H c = none := fun c e => by
        by_cases q : c = x
        · rw [q, upd_same] at e; cases e
        · rw [upd_ne q] at e
          by_cases q2 : c = b
          · rw [q2, upd_same] at e; cases e
          · rw [upd_ne q2] at e; exact e
      generalize upd (upd H b (.lst (us.map V.ref))) x (.ins CS dx (putF "wishes" (.ref u) fs)) = H2 at *
      have fd : Fg CS (del H b) (del H2 b) := fg_del fun c o n q kp => ⟨n, keep c o q n kp.ins⟩
      have R2 : RepS K CS CM CW H2 x b ⟨z.s, w0, r⟩ := ⟨dx, _, h, u, us, F2, hb2, hM.fg nM fd, hP2.fg nW fd, hP1.fg nW fd⟩
      have I2 : Inv ⟨z.s, w0, r⟩ := ⟨hI.s, hI.past w0 (by rw [hpast]; exact List.mem_cons_self), fun y hy => hI.past y (by rw [hpast]; exact List.mem_cons_of_mem _ hy), by have := hI.few; rw [hpast, List.length_cons] at this; show r.length ≤ 20; omega⟩
      refine ⟨_, rfl, x, dx, _, rfl, F2.1.1, F2.1.2.2.2.1 _ (by decide +kernel), x, z.s, w0, rfl, R2.held, hI.s, fun p H3 s3 hp hp3 => ⟨p, _, rfl, .inl (SqL.of hp3), (by show 1 ≤ sizeLine; decide), fun a ha => ?_⟩⟩
      have s4 := s3.trans (same_new (o := .lst [.int ((((Vaskyz.nats (Vaskyz.within z.s w0)).map V.int).length : Nat) : Int)]) ha)
      refine k a _ [b] (fun c o e _ m n => s4 _ _ (keep c o e (fun q => n (by rw [q]; exact List.mem_singleton.mpr rfl)) m)) (t2.ext s4) (fun _ q => .inl q) ⟨b, rfl, R2.same nM nW s4, I2⟩ ?_ (NewN.of (n2 _ (s3.free ha)))
      rw [upd_same]
      unfold Vaskyz.nats
      rw [List.length_map, List.length_map]; rfl
end
end BWP
namespace BWP
open PySem PySem.Spec PyProof.Rows L2
open LamX (Tabs ExtN TabB)
open BW (Sm Ln LnOk ofRat SheetOk)
open VaskyzNeutral (encode)
theorem bound3 {z : Vaskyz.Held} {m lo hi : Int} (h : ¬ (0 ≤ m ∧ m < (z.s.ms.length : Int))) : Vaskyz.boundCall z m lo hi = (some z, VaskyBase.one (-3)) := by
  unfold Vaskyz.boundCall; rw [index_no h]
theorem bound4 {z : Vaskyz.Held} {m lo hi : Int} (h : 0 ≤ m ∧ m < (z.s.ms.length : Int)) (c : lo < -1000 ∨ 1000 < hi ∨ hi < lo) : Vaskyz.boundCall z m lo hi = (some z, VaskyBase.one (-4)) := by
  unfold Vaskyz.boundCall; rw [index_of h]; exact if_pos c
def wBound (w : Vaskyz.Wish) (j : Nat) (lo hi : Int) : Vaskyz.Wish := { w with bounds := w.bounds.set j (lo, hi) }
theorem bound1 {z : Vaskyz.Held} {m lo hi : Int} (h : 0 ≤ m ∧ m < (z.s.ms.length : Int)) (c : ¬ (lo < -1000 ∨ 1000 < hi ∨ hi < lo)) : Vaskyz.boundCall z m lo hi = (some ⟨z.s, wBound z.w m.toNat lo hi, (z.w :: z.past).take 20⟩, VaskyBase.one ((Vaskyz.within z.s (wBound z.w m.toNat lo hi)).length : Int)) := by
  unfold Vaskyz.boundCall; rw [index_of h]; exact if_neg c
theorem ixN_of {n : Nat} {i : Int} (h : 0 ≤ i ∧ i < (n : Int)) : ixN n i = some i.toNat := by
  unfold ixN; rw [if_pos h.1, if_pos h.2]
theorem TwoAt.bnd {K : PySem.W.Frag} {H : Hp} {w : Vaskyz.Wish} {p l : V} {j : Nat} {lo hi : Int} (h : TwoAt K H w p l) : TwoAt K H (wBound w j lo hi) p l := h
section
variable {P : Program} {w : World} {K : PySem.W.Frag} {mg : Str → Option Value} {base : Heap} {CS CM CW : Addr} {d dM dW dN dC dH dA dV : Dn} {T : List (Addr × Str)}
theorem sc_bound : FnScope ["self", "measure", "low", "high", "bounds"] ["self", "measure", "low", "high"] (defScope s_bound) := ⟨rfl, rfl, rfl, by decide +kernel, rfl, by decide +kernel, by decide +kernel⟩
theorem ok_bound (G : Mth K CS "bound" "Session.bound" s_bound ["self", "measure", "low", "high"] d) (M : SesC K mg CS CM CW dM dW) (c3' : Cst mg "NO_SUCH_MEASURE" (.int (-3))) (c4 : Cst mg "WRONG_BOUNDS" (.int (-4))) (cL : Cst mg "LOWEST_BOUND" (.int (-1000))) (cH : Cst mg "HIGHEST_BOUND" (.int 1000)) (mt : mg "list" = none) (nM : CM ≠ CS) (nW : CW ≠ CS)
    (GN : Mth K CS "numbers_within" "Session.numbers_within" s_numsW ["self"] dN) (FN : FnOk P w K mg base CX0 2 dN.a dN.fd ["self"] (spNumsW K CS CM CW))
    (GH : Mth K CS "has_measure" "Session.has_measure" s_hasMeas ["self", "measure"] dH) (GC : Mth K CS "change" "Session.change" s_change ["self", "wishes"] dC) (FC : FnOk P w K mg base CX0 1 dC.a dC.fd ["self", "wishes"] (spChange K CS CM CW)) :
    FnOk P w K mg base CX0 3 d.a d.fd ["self", "measure", "low", "high"] (spCal K CS CM CW T cBound) := by
  have FH : FnOk P w K mg base CX0 1 dH.a dH.fd ["self", "measure"] (spHasMeas CS CM) := ok_hasMeas GH M
  have FW : FnOk P w K mg base CX0 1 dW.a dW.fd ["self", "bounds", "pair", "left"] (spWishI CW) := ok_WishI M.WS
  refine G.F.ok sc_bound (fun vs H Q E h => ?_) (fun cdv A outer s H vs Q E hr h => ?_)
  · obtain ⟨x, b, z, ns, f, rfl, hf, _⟩ := h
    obtain ⟨m, lo, hi, rfl, _⟩ := c3 hf; rfl
  · obtain ⟨x, b, z, ns, f, rfl, hf, hR, hI, hT, k⟩ := h
    obtain ⟨m, lo, hi, rfl, rfl⟩ := c3 hf
    have hr1 : Room 1 _ := hr.mono (by decide)
    refine ⟨_, pss_cons (ps_if (pt_not (pt_val (pe_meth (pv 0) M.cl GH.m FH hr1 GH.b .nil pass0 (pa_cons (pv 1) pa_nil)))) (pss_one (ps_ret (pe_lst (pa_cons (pe_cst rfl c3') pa_nil)))) pss_nil)
      (pss_cons (ps_if (PW.pt (pw_or (pt_cmpR op_lt (pv 2) (pe_cst rfl cL) (nomark _)) (pw_or (pt_cmpR op_gt (pv 3) (pe_cst rfl cH) (nomark _)) (pw_or1 (pt_cmpR op_lt (pv 3) (pv 2) (nomark _)))))) (pss_one (ps_ret (pe_lst (pa_cons (pe_cst rfl c4) pa_nil)))) pss_nil)
      (pss_cons (ps_set (i := 4) sc_bound.nd rfl (.inl rfl) (pe_callTy call_list_of (by rfl) mt (by decide +kernel) (pa_cons (pe_fld (pe_fld (pv 0) rfl) rfl) pa_nil)))
      (pss_cons (ps_asg (pe_tup (pa_cons (pv 2) (pa_cons (pv 3) pa_nil))) (pg_sub (pv 4) (pv 1) set_list))
      (pss_cons (ps_expr (pe_meth (pv 0) M.cl GC.m FC hr1 GC.b .nil pass0 (pa_cons (pe_make M.WS.mkr FW hr rfl M.WS.g M.WS.b .nil pass0 (pa_cons (pv 4) (pa_cons (pe_fld (pe_fld (pv 0) rfl) rfl) (pa_cons (pe_fld (pe_fld (pv 0) rfl) rfl) pa_nil)))) pa_nil)))
      (pss_one (ps_ret (pe_lst (pa_cons (pe_callB call_len_seq (by rfl) M.len PySem.boot_len (pa_cons (pe_meth0 (pv 0) M.cl GN.m FN hr GN.b .nil pass0) pa_nil)) pa_nil)))))))), ?_⟩
    obtain ⟨dx, fs, h, v, ps, F, hb, hM, hW, hP⟩ := id hR
    have hMH : MLAt CM H h z.s := hM.ext (ExtN.of_same same_del)
    refine ⟨_, rfl, x, dx, fs, rfl, F.1.1, F.1.2.2.2.1 _ (by decide +kernel), _, rfl, x, h, _, m, z.s, rfl, F.1.at, hMH, _, rfl, ?_⟩
    by_cases c1 : ¬ (0 ≤ m ∧ m < (z.s.ms.length : Int))
    · refine ifT (by rw [decide_eq_false c1]; rfl) ⟨(by show 1 ≤ sizeLine; decide), fun p hp => ?_⟩
      simp only [bound3 c1] at k
      exact k.new nM nW hR hI hT (same_new hp) hp upd_same
    have c1 := Classical.not_not.mp c1
    refine ifF (by rw [decide_eq_true c1]; rfl) ?_
    have kb : (lo < -1000 ∨ 1000 < hi ∨ hi < lo) → ∀ p, H p = none → Q (.ref p) (upd H p (.lst [.int (-4)])) := fun c p hp => by
      simp only [bound4 c1 c] at k
      exact k.new nM nW hR hI hT (same_new hp) hp upd_same
    refine ⟨_, rfl, _, _, rfl, rfl, _, rfl, ?_⟩
    by_cases d1 : lo < -1000
    · exact ifT (decide_eq_true d1) (ifT rfl ⟨(by show 1 ≤ sizeLine; decide), fun p hp => kb (.inl d1) p hp⟩)
    refine ifF (decide_eq_false d1) ⟨_, rfl, _, _, rfl, rfl, _, rfl, ?_⟩
    by_cases d2 : 1000 < hi
    · exact ifT (decide_eq_true d2) (ifT rfl ⟨(by show 1 ≤ sizeLine; decide), fun p hp => kb (.inr (.inl d2)) p hp⟩)
    refine ifF (decide_eq_false d2) ⟨_, rfl, _, rfl, _, _, rfl, rfl, _, rfl, ?_⟩
    by_cases d3 : hi < lo
    · exact ifT (decide_eq_true d3) ⟨(by show 1 ≤ sizeLine; decide), fun p hp => kb (.inr (.inr d3)) p hp⟩
    refine ifF (decide_eq_false d3) ?_
    have cn : ¬ (lo < -1000 ∨ 1000 < hi ∨ hi < lo) := by omega
    simp only [bound1 c1 cn] at k
    obtain ⟨dv, bl, qs, pp, ll, g1, g2, g3, g4⟩ := id hW
    have g1H := same_del _ _ g1
    have g2H := same_del _ _ g2
    have bq := g3.len
    refine ⟨_, rfl, x, CS, dx, _, _, rfl, F.1.1, M.cl, M.no _ (by simp), F.1.2.2.1, v, CW, dv, _, _, rfl, g1H, M.WS.cl, M.WS.no _ (by simp), ws_b, bl, _, rfl, .inl (SqL.of g2H), fun nb hnb => ?_⟩
    have sa := same_new (o := .lst (qs.map V.ref)) hnb
    have ea : upd H nb (.lst (qs.map V.ref)) nb = some (.lst (qs.map V.ref)) := upd_same
    refine ⟨_, rfl, _, rfl, (by show 2 ≤ sizeLine; decide), fun t ht => ?_⟩
    have sb := same_new (o := .tup [.int lo, .int hi]) ht
    have et : upd (upd H nb (.lst (qs.map V.ref))) t (.tup [.int lo, .int hi]) t = some (.tup [.int lo, .int hi]) := upd_same
    have enb : upd (upd H nb (.lst (qs.map V.ref))) t (.tup [.int lo, .int hi]) nb = some (.lst (qs.map V.ref)) := sb _ _ ea
    refine ⟨_, rfl, _, rfl, nb, _, _, m.toNat, rfl, rfl, enb, ixN_of (by rw [List.length_map, bq, hI.w.len]; exact c1), ?_⟩
    have tn : t ≠ nb := fun q => by rw [q, ea] at ht; cases ht
    have sc : Same H (upd (upd (upd H nb (.lst (qs.map V.ref))) t (.tup [.int lo, .int hi])) nb (.lst ((qs.map V.ref).set m.toNat (.ref t)))) := fun c o e => (upd_ne (ne_of_none e hnb)).trans (sb _ _ (sa _ _ e))
    have ec : upd (upd (upd H nb (.lst (qs.map V.ref))) t (.tup [.int lo, .int hi])) nb (.lst ((qs.map V.ref).set m.toNat (.ref t))) nb = some (.lst ((qs.set m.toNat t).map V.ref)) := by rw [upd_same, List.map_set]
    have ec2 : upd (upd (upd H nb (.lst (qs.map V.ref))) t (.tup [.int lo, .int hi])) nb (.lst ((qs.map V.ref).set m.toNat (.ref t))) t = some (.tup [.int lo, .int hi]) := (upd_ne tn).trans et
    generalize upd (upd (upd H nb (.lst (qs.map V.ref))) t (.tup [.int lo, .int hi])) nb (.lst ((qs.map V.ref).set m.toNat (.ref t))) = Hc at *
    refine ⟨_, rfl, x, dx, fs, rfl, sc _ _ F.1.1, F.1.2.2.2.1 _ (by decide +kernel), _, rfl, _, rfl, x, CS, dx, _, _, rfl, sc _ _ F.1.1, M.cl, M.no _ (by simp), F.1.2.2.1, v, CW, dv, _, _, rfl, sc _ _ g1H, M.WS.cl, M.WS.no _ (by simp), ws_p, _, rfl, x, CS, dx, _, _, rfl, sc _ _ F.1.1, M.cl, M.no _ (by simp), F.1.2.2.1, v, CW, dv, _, _, rfl, sc _ _ g1H, M.WS.cl, M.WS.no _ (by simp), ws_l, fun o dO ho hdO ne => ?_⟩
    refine ⟨o, dO, nb, pp, ll, rfl, upd_same, rfl, ?_⟩
    rw [upd_upd]
    have sd : Same Hc (upd (upd Hc dO (.own o)) o (.ins CW dO (wsF nb pp ll))) := fun c u e => (upd_ne (ne_of_none e ho)).trans ((upd_ne (ne_of_none e hdO)).trans e)
    have ed : upd (upd Hc dO (.own o)) o (.ins CW dO (wsF nb pp ll)) o = some (.ins CW dO (wsF nb pp ll)) := upd_same
    generalize upd (upd Hc dO (.own o)) o (.ins CW dO (wsF nb pp ll)) = Hd at *
    have s0 : Same H Hd := sc.trans sd
    have R0 := hR.same nM nW s0
    have hbd : Hd b = some (.lst (ps.map V.ref)) := s0 _ _ hb
    have nbb : nb ≠ b := fun q => by rw [q, hb] at hnb; cases hnb
    have W0 : WsAt K CW (del Hd b) o (wBound z.w m.toNat lo hi) := by
      refine ⟨dO, nb, qs.set m.toNat t, pp, ll, at_del ed hbd (by intro z; cases z), (del_ne nbb).trans (sd _ _ ec), ?_, (g4.ext (ExtN.of_same (del_same2 s0))).bnd⟩
      exact BdsAt.set (b := (lo, hi)) (SqT.of (at_del (sd _ _ ec2) hbd (by intro z; cases z))) m.toNat (g3.same (del_same2 s0))
    refine ⟨x, b, o, z, _, rfl, R0, W0, hI.few, fun H1 b' f1 t1 hb1 nt1 R1 => ?_⟩
    have I1 : Inv ⟨z.s, wBound z.w m.toNat lo hi, (z.w :: z.past).take 20⟩ := hI.change ⟨by show (z.w.bounds.set m.toNat (lo, hi)).length = _; rw [List.length_set]; exact hI.w.len, hI.w.two⟩
    obtain ⟨dx1, fs1, h1, v1, ps1, F1, _⟩ := id R1
    refine ⟨_, rfl, x, dx1, fs1, rfl, F1.1.1, F1.1.2.2.2.1 _ (by decide +kernel), x, z.s, _, rfl, R1.held, hI.s, fun p H3 s3 hp hp3 => ⟨p, _, rfl, .inl (SqL.of hp3), (by show 1 ≤ sizeLine; decide), fun a ha => ?_⟩⟩
    have s4 := s3.trans (same_new (o := .lst [.int ((((Vaskyz.nats (Vaskyz.within z.s (wBound z.w m.toNat lo hi))).map V.int).length : Nat) : Int)]) ha)
    refine k.change nM nW s0 f1 hb1 nt1 R1 I1 (ExtN.of_same s4) ((t1 T (hT.ext s0)).ext s4) (NewN.of (s3.free ha)) ?_
    rw [upd_same]
    unfold Vaskyz.nats
    rw [List.length_map, List.length_map]; rfl
end
end BWP
namespace BWP
open PySem PySem.Spec PyProof.Rows L2
open LamX (Tabs ExtN TabB)
open BW (Sm Ln LnOk ofRat SheetOk)
open VaskyzNeutral (encode)
def wBegin (w : Vaskyz.Wish) (i j : Nat) : Vaskyz.Wish := { w with two := some (i, j), lo := VaskyBase.whole 0, hi := VaskyBase.whole 1 }
theorem begin3 {z : Vaskyz.Held} {m k : Int} (h : ¬ (0 ≤ m ∧ m < (z.s.ms.length : Int)) ∨ ¬ (0 ≤ k ∧ k < (z.s.ms.length : Int)) ∨ m = k) : Vaskyz.beginCall z m k = (some z, VaskyBase.one (-3)) := by
  unfold Vaskyz.beginCall
  rcases h with h | h | h
  · rw [index_no h]
  · rw [index_no h]; split
    · rename_i e; cases e
    · rfl
  · subst h
    by_cases c : 0 ≤ m ∧ m < (z.s.ms.length : Int)
    · rw [index_of c]; exact if_pos rfl
    · rw [index_no c]
theorem begin1 {z : Vaskyz.Held} {m k : Nat} (h1 : m < z.s.ms.length) (h2 : k < z.s.ms.length) (h3 : m ≠ k) : Vaskyz.beginCall z m k = (some ⟨z.s, wBegin z.w m k, (z.w :: z.past).take 20⟩, ⟨1, Vaskyz.nats [(Vaskyz.piecesIn z.s (wBegin z.w m k) m k).length]⟩) := by
  unfold Vaskyz.beginCall
  rw [index_of (by omega), index_of (by omega)]
  show (if ((m : Int).toNat = (k : Int).toNat) then _ else _) = _
  rw [Int.toNat_natCast, Int.toNat_natCast, if_neg h3]; rfl
theorem LeftAt.del {K : PySem.W.Frag} {H : Hp} {b a : Addr} {xs : List V} {lo hi : Rat} (hb : H b = some (.lst xs)) (h : LeftAt K H a lo hi) : LeftAt K (del H b) a lo hi := by
  have one : ∀ {c : Addr} {ys : List V}, SqT K H c ys → SqT K ((L2.del H b)) c ys := fun {c ys} h => by
    rcases h with (h | ⟨o, h⟩) | h
    · exact .inl (.inl (at_del h hb (by intro z; cases z)))
    · exact .inl (.inr ⟨o, at_del h hb (by intro z; cases z)⟩)
    · exact .inr h
  obtain ⟨p, q, h1, h2, h3⟩ := h
  exact ⟨p, q, one h1, ⟨one h2.1, h2.2⟩, ⟨one h3.1, h3.2⟩⟩
theorem fro_del {CS : Addr} {H H' : Hp} {b : Addr} (f : FrO CS [b] H H') : Fg CS (del H b) H' := fun c o e kp => by
  by_cases z : c = b
  · rw [z, del_same] at e; cases e
  · rw [del_ne z] at e
    exact f c o e kp.tbl kp.ins fun q => z (List.mem_singleton.mp q)
section
variable {P : Program} {w : World} {K : PySem.W.Frag} {mg : Str → Option Value} {base : Heap} {CS CM CW : Addr} {d dM dW dN dC dH dA dV : Dn} {T : List (Addr × Str)}
theorem sc_begin : FnScope ["self", "first", "second"] ["self", "first", "second"] (defScope s_begin) := ⟨rfl, rfl, rfl, by decide +kernel, rfl, by decide +kernel, by decide +kernel⟩
theorem ok_begin (G : Mth K CS "begin" "Session.begin" s_begin ["self", "first", "second"] d) (M : SesC K mg CS CM CW dM dW) (c3' : Cst mg "NO_SUCH_MEASURE" (.int (-3))) (nM : CM ≠ CS) (nW : CW ≠ CS)
    (GN : Mth K CS "winners" "Session.winners" s_winners ["self"] dN) (FN : FnOk P w K mg base CX0 6 dN.a dN.fd ["self"] (spWinners K CS CM CW T)) (GA : Glb K mg "all_shares" s_allSh [] dA)
    (GH : Mth K CS "has_measure" "Session.has_measure" s_hasMeas ["self", "measure"] dH) (GC : Mth K CS "change" "Session.change" s_change ["self", "wishes"] dC) (FC : FnOk P w K mg base CX0 1 dC.a dC.fd ["self", "wishes"] (spChange K CS CM CW)) :
    FnOk P w K mg base CX0 7 d.a d.fd ["self", "first", "second"] (spCal K CS CM CW T cBegin) := by
  have FH : FnOk P w K mg base CX0 1 dH.a dH.fd ["self", "measure"] (spHasMeas CS CM) := ok_hasMeas GH M
  have FW : FnOk P w K mg base CX0 1 dW.a dW.fd ["self", "bounds", "pair", "left"] (spWishI CW) := ok_WishI M.WS
  have FA : FnOk P w K mg base CX0 1 dA.a dA.fd [] (spAllSh K) := ok_allSh GA
  refine G.F.ok sc_begin (fun vs H Q E h => ?_) (fun cdv A outer s H vs Q E hr h => ?_)
  · obtain ⟨x, b, z, ns, f, rfl, hf, _⟩ := h
    obtain ⟨m, k, rfl, _⟩ := c2 (c := cBegin) (fun _ _ => rfl) rfl (fun _ => rfl) (fun _ _ _ _ => rfl) hf; rfl
  · obtain ⟨x, b, z, ns, f, rfl, hf, hR, hI, hT, kQ⟩ := h
    obtain ⟨m, k, rfl, rfl⟩ := c2 (c := cBegin) (fun _ _ => rfl) rfl (fun _ => rfl) (fun _ _ _ _ => rfl) hf
    have hr1 : Room 1 _ := hr.mono (by decide)
    have hr2 : Room 2 _ := hr.mono (by decide)
    refine ⟨_, pss_cons (ps_if (PW.pt (pw_or (pt_not (pt_val (pe_meth (pv 0) M.cl GH.m FH hr1 GH.b .nil pass0 (pa_cons (pv 1) pa_nil)))) (pw_or (pt_not (pt_val (pe_meth (pv 0) M.cl GH.m FH hr1 GH.b .nil pass0 (pa_cons (pv 2) pa_nil)))) (pw_or1 (pt_cmpR op_eq (pv 1) (pv 2) (nomark _)))))) (pss_one (ps_ret (pe_lst (pa_cons (pe_cst rfl c3') pa_nil)))) pss_nil)
      (pss_cons (ps_expr (pe_meth (pv 0) M.cl GC.m FC hr1 GC.b .nil pass0 (pa_cons (pe_make M.WS.mkr FW hr2 rfl M.WS.g M.WS.b .nil pass0 (pa_cons (pe_fld (pe_fld (pv 0) rfl) rfl) (pa_cons (pe_tup (pa_cons (pv 1) (pa_cons (pv 2) pa_nil))) (pa_cons (pe_call0 FA hr1 rfl GA.g GA.k GA.b .nil pass0) pa_nil)))) pa_nil)))
      (pss_one (ps_ret (pe_lst (pa_cons pe_int (pa_cons (pe_callB call_len_seq (by rfl) M.len PySem.boot_len (pa_cons (pe_meth0 (pv 0) M.cl GN.m FN hr GN.b .nil pass0) pa_nil)) pa_nil)))))), ?_⟩
    obtain ⟨dx, fs, h, v, ps, F, hb, hM, hW, hP⟩ := id hR
    have hMH : MLAt CM H h z.s := hM.ext (ExtN.of_same same_del)
    have nm : fs.lookup ("has_measure" : Str) = none := F.1.2.2.2.1 _ (by decide +kernel)
    have kb : (¬ (0 ≤ m ∧ m < (z.s.ms.length : Int)) ∨ ¬ (0 ≤ k ∧ k < (z.s.ms.length : Int)) ∨ m = k) → ∀ p, H p = none → Q (.ref p) (upd H p (.lst [.int (-3)])) := fun c p hp => by
      simp only [begin3 c] at kQ
      exact kQ.new nM nW hR hI hT (same_new hp) hp upd_same
    refine ⟨_, rfl, x, dx, fs, rfl, F.1.1, nm, _, rfl, x, h, _, m, z.s, rfl, F.1.at, hMH, _, rfl, ?_⟩
    by_cases e1 : ¬ (0 ≤ m ∧ m < (z.s.ms.length : Int))
    · exact ifT (by rw [decide_eq_false e1]; rfl) (ifT rfl ⟨(by show 1 ≤ sizeLine; decide), fun p hp => kb (.inl e1) p hp⟩)
    have c1 := Classical.not_not.mp e1
    refine ifF (by rw [decide_eq_true c1]; rfl) ⟨_, rfl, x, dx, fs, rfl, F.1.1, nm, _, rfl, x, h, _, k, z.s, rfl, F.1.at, hMH, _, rfl, ?_⟩
    by_cases e2 : ¬ (0 ≤ k ∧ k < (z.s.ms.length : Int))
    · exact ifT (by rw [decide_eq_false e2]; rfl) (ifT rfl ⟨(by show 1 ≤ sizeLine; decide), fun p hp => kb (.inr (.inl e2)) p hp⟩)
    have c2' := Classical.not_not.mp e2
    refine ifF (by rw [decide_eq_true c2']; rfl) ⟨_, rfl, _, rfl, rfl, _, rfl, ?_⟩
    by_cases e3 : m = k
    · exact ifT (decide_eq_true (by rw [e3])) ⟨(by show 1 ≤ sizeLine; decide), fun p hp => kb (.inr (.inr e3)) p hp⟩
    refine ifF (decide_eq_false fun q => e3 (V.int.inj q)) ?_
    obtain ⟨m, rfl⟩ := Int.eq_ofNat_of_zero_le c1.1
    obtain ⟨k, rfl⟩ := Int.eq_ofNat_of_zero_le c2'.1
    have hm : m < z.s.ms.length := by omega
    have hk : k < z.s.ms.length := by omega
    simp only [begin1 (z := z) hm hk (by omega)] at kQ
    obtain ⟨dv, bl, qs, pp, ll, g1, g2, g3, g4⟩ := id hW
    have g1H := same_del _ _ g1
    refine ⟨_, rfl, x, dx, fs, rfl, F.1.1, F.1.2.2.2.1 _ (by decide +kernel), _, rfl, x, CS, dx, _, _, rfl, F.1.1, M.cl, M.no _ (by simp), F.1.2.2.1, v, CW, dv, _, _, rfl, g1H, M.WS.cl, M.WS.no _ (by simp), ws_b, _, rfl, _, rfl, (by show 2 ≤ sizeLine; decide), fun t ht => ?_⟩
    have sa := same_new (o := .tup [.int (m : Int), .int (k : Int)]) ht
    have et : upd H t (.tup [.int (m : Int), .int (k : Int)]) t = some (.tup [.int (m : Int), .int (k : Int)]) := upd_same
    generalize upd H t (.tup [.int (m : Int), .int (k : Int)]) = Ha at *
    refine ⟨rfl, fun la Hb sb hla hL => ?_⟩
    intro o dO ho hdO ne
    refine ⟨o, dO, bl, .ref t, .ref la, rfl, upd_same, rfl, ?_⟩
    rw [upd_upd]
    have sd : Same Hb (upd (upd Hb dO (.own o)) o (.ins CW dO (wsF bl (.ref t) (.ref la)))) := fun c u e => (upd_ne (ne_of_none e ho)).trans ((upd_ne (ne_of_none e hdO)).trans e)
    have ed : upd (upd Hb dO (.own o)) o (.ins CW dO (wsF bl (.ref t) (.ref la))) o = some (.ins CW dO (wsF bl (.ref t) (.ref la))) := upd_same
    generalize upd (upd Hb dO (.own o)) o (.ins CW dO (wsF bl (.ref t) (.ref la))) = Hd at *
    have s0 : Same H Hd := (sa.trans sb).trans sd
    have R0 := hR.same nM nW s0
    have hbd : Hd b = some (.lst (ps.map V.ref)) := s0 _ _ hb
    have W0 : WsAt K CW (del Hd b) o (wBegin z.w m k) := by
      refine ⟨dO, bl, qs, .ref t, .ref la, at_del ed hbd (by intro z; cases z), del_same2 s0 _ _ g2, g3.same (del_same2 s0), (fun q => by cases q), fun m' k' q => ?_⟩
      have q : some (m, k) = some (m', k') := q
      cases q
      exact ⟨t, la, 0, 1, rfl, rfl, SqT.of (at_del ((sb.trans sd) _ _ et) hbd (by intro z; cases z)), (hL.same sd).del hbd, rfl, rfl, by decide, by decide, by decide⟩
    refine ⟨x, b, o, z, _, rfl, R0, W0, hI.few, fun H1 b' f1 t1 hb1 nt1 R1 => ?_⟩
    have I1 : Inv ⟨z.s, wBegin z.w m k, (z.w :: z.past).take 20⟩ := hI.change ⟨hI.w.len, fun m' k' q => by
      have q : some (m, k) = some (m', k') := q
      cases q; exact ⟨hm, hk⟩⟩
    obtain ⟨dx1, fs1, h1, v1, ps1, F1, _⟩ := id R1
    refine ⟨_, rfl, x, dx1, fs1, rfl, F1.1.1, F1.1.2.2.2.1 _ (by decide +kernel), x, m, k, z.s, _, rfl, R1.held, hI.s, rfl, hm, hk, t1 T (hT.ext s0), fun p H3 e3 T3 np hp3 => ⟨p, _, rfl, .inl (SqL.of hp3), (by show 2 ≤ sizeLine; decide), fun a ha => ?_⟩⟩
    have s4 := same_new (o := .lst [.int 1, .int ((((Vaskyz.nats ((Vaskyz.piecesIn z.s (wBegin z.w m k) m k).map (·.i))).map V.int).length : Nat) : Int)]) ha
    refine kQ.change nM nW s0 f1 hb1 nt1 R1 I1 (e3.trans (ExtN.of_same s4)) (T3.ext s4) (NewN.ext e3 ha) ?_
    rw [upd_same]
    unfold Vaskyz.nats
    rw [List.length_map, List.length_map, List.length_map]; rfl
end
end BWP
namespace BWP
open PySem PySem.Spec PyProof.Rows L2
open LamX (Tabs ExtN TabB)
open BW (Sm Ln LnOk ofRat SheetOk likedR)
open VaskyzNeutral (encode)
abbrev s_like : Stmt := inClass s_Session 4
def wLike (w : Vaskyz.Wish) (x : VaskyBase.Frac × VaskyBase.Frac) : Vaskyz.Wish := { w with lo := x.1, hi := x.2 }
theorem like5 {z : Vaskyz.Held} {i j : Int} (h : z.w.two = none) : Vaskyz.likeCall z i j = (some z, VaskyBase.one (-5)) := by
  unfold Vaskyz.likeCall; rw [h]
theorem like2 {z : Vaskyz.Held} {i j : Int} {t : Nat × Nat} (h : z.w.two = some t) (c : ¬ (0 ≤ i ∧ i < (z.s.items.length : Int)) ∨ ¬ (0 ≤ j ∧ j < (z.s.items.length : Int))) : Vaskyz.likeCall z i j = (some z, VaskyBase.one (-2)) := by
  unfold Vaskyz.likeCall; rw [h]
  show (match VaskyBase.index i z.s.items.length, VaskyBase.index j z.s.items.length with | some a, some b => _ | _, _ => _) = _
  rcases c with c | c
  · rw [index_no c]
  · rw [index_no c]; split
    · rename_i e; cases e
    · rfl
theorem like6 {z : Vaskyz.Held} {i j m k : Nat} (h : z.w.two = some (m, k)) (hi : i < z.s.items.length) (hj : j < z.s.items.length) (c : Vaskyz.liked z.w.lo z.w.hi (valOf z.s m k i) (valOf z.s m k j) = none) : Vaskyz.likeCall z i j = (some z, VaskyBase.one (-6)) := by
  unfold Vaskyz.likeCall; rw [h]
  simp only [index_of (show 0 ≤ (i : Int) ∧ (i : Int) < (z.s.items.length : Int) by omega), index_of (show 0 ≤ (j : Int) ∧ (j : Int) < (z.s.items.length : Int) by omega), Int.toNat_natCast]
  have c : Vaskyz.liked z.w.lo z.w.hi (Vaskyz.valueBy m k ((Vaskya.rows z.s).getD i [])) (Vaskyz.valueBy m k ((Vaskya.rows z.s).getD j [])) = none := c
  rw [c]
theorem like1 {z : Vaskyz.Held} {i j m k : Nat} {x} (h : z.w.two = some (m, k)) (hi : i < z.s.items.length) (hj : j < z.s.items.length) (c : Vaskyz.liked z.w.lo z.w.hi (valOf z.s m k i) (valOf z.s m k j) = some x) : Vaskyz.likeCall z i j = (some ⟨z.s, wLike z.w x, (z.w :: z.past).take 20⟩, ⟨1, VaskyBase.fracRow x.1 ++ VaskyBase.fracRow x.2 ++ Vaskyz.nats [(Vaskyz.piecesIn z.s (wLike z.w x) m k).length]⟩) := by
  unfold Vaskyz.likeCall; rw [h]
  simp only [index_of (show 0 ≤ (i : Int) ∧ (i : Int) < (z.s.items.length : Int) by omega), index_of (show 0 ≤ (j : Int) ∧ (j : Int) < (z.s.items.length : Int) by omega), Int.toNat_natCast]
  have c : Vaskyz.liked z.w.lo z.w.hi (Vaskyz.valueBy m k ((Vaskya.rows z.s).getD i [])) (Vaskyz.valueBy m k ((Vaskya.rows z.s).getD j [])) = some x := c
  rw [c]; rfl
section
variable {P : Program} {w : World} {K : PySem.W.Frag} {mg : Str → Option Value} {base : Heap} {CS CM CW CC : Addr} {d dM dW dN dC dH dA dV dK dL dT : Dn} {T : List (Addr × Str)}
theorem sc_like : FnScope ["self", "liked", "other", "left"] ["self", "liked", "other"] (defScope s_like) := ⟨rfl, rfl, rfl, by decide +kernel, rfl, by decide +kernel, by decide +kernel⟩
theorem ok_like (G : Mth K CS "like" "Session.like" s_like ["self", "liked", "other"] d) (M : SesC K mg CS CM CW dM dW) (c5 : Cst mg "NONE_TAKEN" (.int (-5))) (c2' : Cst mg "NO_SUCH_ITEM" (.int (-2))) (c6 : Cst mg "NO_SHARE_LEFT" (.int (-6))) (nM : CM ≠ CS) (nW : CW ≠ CS)
    (GN : Mth K CS "winners" "Session.winners" s_winners ["self"] dN) (FN : FnOk P w K mg base CX0 6 dN.a dN.fd ["self"] (spWinners K CS CM CW T)) (GK : Mth K CS "contender" "Session.contender" s_cont ["self", "item"] dK) (FK : FnOk P w K mg base CX0 3 dK.a dK.fd ["self", "item"] (spCont K CS CM CW CC))
    (GH : Mth K CS "has_item" "Session.has_item" s_hasItem ["self", "item"] dH) (GC : Mth K CS "change" "Session.change" s_change ["self", "wishes"] dC) (FC : FnOk P w K mg base CX0 1 dC.a dC.fd ["self", "wishes"] (spChange K CS CM CW))
    (GL : Glb K mg "left_when_liked" s_leftL ["left", "liked", "other"] dL) (FL : FnOk P w K mg base CX0 4 dL.a dL.fd ["left", "liked", "other"] (spLeftL K CC)) (GT : Glb K mg "told_shares" s_told ["left"] dT) (FT : FnOk P w K mg base CX0 1 dT.a dT.fd ["left"] (spTold K)) :
    FnOk P w K mg base CX0 7 d.a d.fd ["self", "liked", "other"] (spCal K CS CM CW T cLike) := by
  have FH : FnOk P w K mg base CX0 1 dH.a dH.fd ["self", "item"] (spHasItem CS CM) := ok_hasItem GH M
  have FW : FnOk P w K mg base CX0 1 dW.a dW.fd ["self", "bounds", "pair", "left"] (spWishI CW) := ok_WishI M.WS
  refine G.F.ok sc_like (fun vs H Q E h => ?_) (fun cdv A outer s H vs Q E hr h => ?_)
  · obtain ⟨x, b, z, ns, f, rfl, hf, _⟩ := h
    obtain ⟨m, k, rfl, _⟩ := c2 (c := cLike) (fun _ _ => rfl) rfl (fun _ => rfl) (fun _ _ _ _ => rfl) hf; rfl
  · obtain ⟨x, b, z, ns, f, rfl, hf, hR, hI, hT, kQ⟩ := h
    obtain ⟨i, j, rfl, rfl⟩ := c2 (c := cLike) (fun _ _ => rfl) rfl (fun _ => rfl) (fun _ _ _ _ => rfl) hf
    have hr1 : Room 1 _ := hr.mono (by decide)
    have hr2 : Room 2 _ := hr.mono (by decide)
    have hr3 : Room 3 _ := hr.mono (by decide)
    have hr4 : Room 4 _ := hr.mono (by decide)
    refine ⟨_, pss_cons (ps_if (pt_cmpR op_isN (pe_fld (pe_fld (pv 0) rfl) rfl) pe_non (nomark _)) (pss_one (ps_ret (pe_lst (pa_cons (pe_cst rfl c5) pa_nil)))) pss_nil)
      (pss_cons (ps_if (PW.pt (pw_or (pt_not (pt_val (pe_meth (pv 0) M.cl GH.m FH hr1 GH.b .nil pass0 (pa_cons (pv 1) pa_nil)))) (pw_or1 (pt_not (pt_val (pe_meth (pv 0) M.cl GH.m FH hr1 GH.b .nil pass0 (pa_cons (pv 2) pa_nil))))))) (pss_one (ps_ret (pe_lst (pa_cons (pe_cst rfl c2') pa_nil)))) pss_nil)
      (pss_cons (ps_set (i := 3) sc_like.nd rfl (.inl rfl) (pe_call FL hr4 rfl GL.g GL.k GL.b .nil pass0 (pa_cons (pe_fld (pe_fld (pv 0) rfl) rfl) (pa_cons (pe_meth (pv 0) M.cl GK.m FK hr3 GK.b .nil pass0 (pa_cons (pv 1) pa_nil)) (pa_cons (pe_meth (pv 0) M.cl GK.m FK hr3 GK.b .nil pass0 (pa_cons (pv 2) pa_nil)) pa_nil)))))
      (pss_cons (ps_if (pt_cmpR op_isN (pv 3) pe_non (nomark _)) (pss_one (ps_ret (pe_lst (pa_cons (pe_cst rfl c6) pa_nil)))) pss_nil)
      (pss_cons (ps_expr (pe_meth (pv 0) M.cl GC.m FC hr1 GC.b .nil pass0 (pa_cons (pe_make M.WS.mkr FW hr2 rfl M.WS.g M.WS.b .nil pass0 (pa_cons (pe_fld (pe_fld (pv 0) rfl) rfl) (pa_cons (pe_fld (pe_fld (pv 0) rfl) rfl) (pa_cons (pv 3) pa_nil)))) pa_nil)))
      (pss_one (ps_ret (pe_op op_cat (pe_op op_cat (pe_lst (pa_cons pe_int pa_nil)) (pe_call FT hr1 rfl GT.g GT.k GT.b .nil pass0 (pa_cons (pv 3) pa_nil))) (pe_lst (pa_cons (pe_callB call_len_seq (by rfl) M.len PySem.boot_len (pa_cons (pe_meth0 (pv 0) M.cl GN.m FN hr GN.b .nil pass0) pa_nil)) pa_nil))))))))), ?_⟩
    obtain ⟨dx, fs, h, v, ps, F, hb, hM, hW, hP⟩ := id hR
    have hMH : MLAt CM H h z.s := hM.ext (ExtN.of_same same_del)
    have nm : ∀ q ∈ SMETH, fs.lookup q = none := F.1.2.2.2.1
    obtain ⟨dv, bl, qs, pp, ll, g1, g2, g3, g4⟩ := id hW
    have g1H := same_del _ _ g1
    refine ⟨_, rfl, x, CS, dx, _, _, rfl, F.1.1, M.cl, M.no _ (by simp), F.1.2.2.1, v, CW, dv, _, _, rfl, g1H, M.WS.cl, M.WS.no _ (by simp), ws_p, rfl, _, rfl, ?_⟩
    cases htwo : z.w.two with
    | none =>
      refine ifT (decide_eq_true (g4.1 htwo).1) ⟨(by show 1 ≤ sizeLine; decide), fun p hp => ?_⟩
      simp only [like5 htwo] at kQ
      exact kQ.new nM nW hR hI hT (same_new hp) hp upd_same
    | some mk =>
    obtain ⟨m, k⟩ := mk
    obtain ⟨pa, pb, lo, hi, rfl, rfl, u1, u2, u3, u4, u5, u6, u7⟩ := g4.2 m k htwo
    obtain ⟨hm, hk⟩ := hI.w.two m k htwo
    refine ifF (decide_eq_false (by intro q; cases q)) ?_
    have kb : (¬ (0 ≤ i ∧ i < (z.s.items.length : Int)) ∨ ¬ (0 ≤ j ∧ j < (z.s.items.length : Int))) → ∀ p, H p = none → Q (.ref p) (upd H p (.lst [.int (-2)])) := fun c p hp => by
      simp only [like2 htwo c] at kQ
      exact kQ.new nM nW hR hI hT (same_new hp) hp upd_same
    refine ⟨_, rfl, x, dx, fs, rfl, F.1.1, nm _ (by decide +kernel), _, rfl, x, h, _, i, z.s, rfl, F.1.at, hMH, _, rfl, ?_⟩
    by_cases e1 : ¬ (0 ≤ i ∧ i < (z.s.items.length : Int))
    · exact ifT (by rw [decide_eq_false e1]; rfl) (ifT rfl ⟨(by show 1 ≤ sizeLine; decide), fun p hp => kb (.inl e1) p hp⟩)
    have c1 := Classical.not_not.mp e1
    refine ifF (by rw [decide_eq_true c1]; rfl) ⟨_, rfl, x, dx, fs, rfl, F.1.1, nm _ (by decide +kernel), _, rfl, x, h, _, j, z.s, rfl, F.1.at, hMH, _, rfl, ?_⟩
    by_cases e2 : ¬ (0 ≤ j ∧ j < (z.s.items.length : Int))
    · exact ifT (by rw [decide_eq_false e2]; rfl) ⟨(by show 1 ≤ sizeLine; decide), fun p hp => kb (.inr e2) p hp⟩
    have c2'' := Classical.not_not.mp e2
    refine ifF (by rw [decide_eq_true c2'']; rfl) ?_
    obtain ⟨i, rfl⟩ := Int.eq_ofNat_of_zero_le c1.1
    obtain ⟨j, rfl⟩ := Int.eq_ofNat_of_zero_le c2''.1
    have hi' : i < z.s.items.length := by omega
    have hj' : j < z.s.items.length := by omega
    have hH := hR.held
    have u2H := u2.same (same_del (H := H) (b := b))
    have lk := BW.liked_rat u5 u6 u7 (valOf z.s m k i) (valOf z.s m k j)
    rw [← u3, ← u4] at lk
    refine ⟨_, rfl, x, CS, dx, _, _, rfl, F.1.1, M.cl, M.no _ (by simp), F.1.2.2.1, v, CW, dv, _, _, rfl, g1H, M.WS.cl, M.WS.no _ (by simp), ws_l,
      _, rfl, x, dx, fs, rfl, F.1.1, nm _ (by decide +kernel), _, rfl, x, i, m, k, z.s, z.w, rfl, hH, hI.s, htwo, hi', hm, hk, fun ca Ha sa hca cna => ?_⟩
    refine ⟨_, rfl, x, dx, fs, rfl, sa _ _ F.1.1, nm _ (by decide +kernel), _, rfl, x, j, m, k, z.s, z.w, rfl, hH.same sa, hI.s, htwo, hj', hm, hk, fun cb Hb sb hcb cnb => ?_⟩
    have sab := sa.trans sb
    refine ⟨pb, ca, cb, lo, hi, i, j, valOf z.s m k i, valOf z.s m k j, rfl, u2H.same sab, cna.same sb, cnb, valOf_ok hI.s, valOf_ok hI.s, fun en Hc sc => ?_, fun zz ez la Hc sc hL => ?_⟩
    · refine ⟨_, rfl, rfl, _, rfl, ifT (decide_eq_true rfl) ⟨(by show 1 ≤ sizeLine; decide), fun p hp => ?_⟩⟩
      rw [en] at lk
      simp only [like6 htwo hi' hj' lk] at kQ
      have s3 := sab.trans sc
      exact kQ.new nM nW hR hI hT (s3.trans (same_new hp)) (s3.free hp) upd_same
    rw [ez] at lk
    simp only [like1 htwo hi' hj' lk] at kQ
    obtain ⟨l1, l2, l3⟩ := BW.likedR_in u6 ez
    refine ⟨_, rfl, rfl, _, rfl, ifF (decide_eq_false (by intro q; cases q)) ?_⟩
    have s3 := sab.trans sc
    refine ⟨_, rfl, x, dx, fs, rfl, s3 _ _ F.1.1, nm _ (by decide +kernel), _, rfl, x, CS, dx, _, _, rfl, s3 _ _ F.1.1, M.cl, M.no _ (by simp), F.1.2.2.1, v, CW, dv, _, _, rfl, s3 _ _ g1H, M.WS.cl, M.WS.no _ (by simp), ws_b, _, rfl, x, CS, dx, _, _, rfl, s3 _ _ F.1.1, M.cl, M.no _ (by simp), F.1.2.2.1, v, CW, dv, _, _, rfl, s3 _ _ g1H, M.WS.cl, M.WS.no _ (by simp), ws_p, _, rfl, fun o dO ho hdO ne => ?_⟩
    refine ⟨o, dO, bl, .ref pa, .ref la, rfl, upd_same, rfl, ?_⟩
    rw [upd_upd]
    have sd : Same Hc (upd (upd Hc dO (.own o)) o (.ins CW dO (wsF bl (.ref pa) (.ref la)))) := fun c u e => (upd_ne (ne_of_none e ho)).trans ((upd_ne (ne_of_none e hdO)).trans e)
    have ed : upd (upd Hc dO (.own o)) o (.ins CW dO (wsF bl (.ref pa) (.ref la))) o = some (.ins CW dO (wsF bl (.ref pa) (.ref la))) := upd_same
    generalize upd (upd Hc dO (.own o)) o (.ins CW dO (wsF bl (.ref pa) (.ref la))) = Hd at *
    have s0 : Same H Hd := s3.trans sd
    have R0 := hR.same nM nW s0
    have hbd : Hd b = some (.lst (ps.map V.ref)) := s0 _ _ hb
    have hLd : LeftAt K (del Hd b) la zz.1 zz.2 := (hL.same sd).del hbd
    have W0 : WsAt K CW (del Hd b) o (wLike z.w (ofRat zz.1, ofRat zz.2)) := by
      refine ⟨dO, bl, qs, .ref pa, .ref la, at_del ed hbd (by intro z; cases z), del_same2 s0 _ _ g2, g3.same (del_same2 s0), (fun q => ?_), fun m' k' q => ?_⟩
      · have q : z.w.two = none := q
        rw [htwo] at q; cases q
      · have q : z.w.two = some (m', k') := q
        rw [htwo] at q; cases q
        exact ⟨pa, la, zz.1, zz.2, rfl, rfl, sqT_same (del_same2 s0) u1, hLd, rfl, rfl, by grind, l2, by grind⟩
    refine ⟨x, b, o, z, _, rfl, R0, W0, hI.few, fun H1 b' f1 t1 hb1 nt1 R1 => ?_⟩
    have I1 : Inv ⟨z.s, wLike z.w (ofRat zz.1, ofRat zz.2), (z.w :: z.past).take 20⟩ := hI.change ⟨hI.w.len, hI.w.two⟩
    obtain ⟨dx1, fs1, h1, v1, ps1, F1, _⟩ := id R1
    have hL1 : LeftAt K H1 la zz.1 zz.2 := hLd.fg (fro_del f1)
    have T1 := t1 T (hT.ext s0)
    refine ⟨(by show 1 ≤ sizeLine; decide), fun a1 ha1 => ?_⟩
    have s5 := same_new (o := .lst [.int 1]) ha1
    have ea1 : upd H1 a1 (.lst [.int 1]) a1 = some (.lst [.int 1]) := upd_same
    generalize upd H1 a1 (.lst [.int 1]) = H5 at *
    refine ⟨_, rfl, la, zz.1, zz.2, rfl, hL1.same s5, fun a2 H6 s6 ha2 ea2 => ?_⟩
    refine ⟨a1, a2, _, _, rfl, rfl, s6 _ _ ea1, ea2, (by show 5 ≤ sizeLine; decide), fun a3 ha3 => ?_⟩
    have s7 := same_new (o := .lst ([V.int 1] ++ (shL zz.1 zz.2).map V.int)) ha3
    have ea3 : upd H6 a3 (.lst ([V.int 1] ++ (shL zz.1 zz.2).map V.int)) a3 = some (.lst ([V.int 1] ++ (shL zz.1 zz.2).map V.int)) := upd_same
    generalize upd H6 a3 (.lst ([V.int 1] ++ (shL zz.1 zz.2).map V.int)) = H7 at *
    have s17 := (s5.trans s6).trans s7
    refine ⟨_, rfl, x, dx1, fs1, rfl, s17 _ _ F1.1.1, F1.1.2.2.2.1 _ (by decide +kernel), x, m, k, z.s, _, rfl, R1.held.same s17, hI.s, htwo, hm, hk, T1.ext s17, fun p H8 e8 T8 np hp8 => ⟨p, _, rfl, .inl (SqL.of hp8), (by show 1 ≤ sizeLine; decide), fun a4 ha4 => ?_⟩⟩
    have s9 := same_new (o := .lst [.int ((((Vaskyz.nats ((Vaskyz.piecesIn z.s (wLike z.w (ofRat zz.1, ofRat zz.2)) m k).map (·.i))).map V.int).length : Nat) : Int)]) ha4
    have ea4 : upd H8 a4 (.lst [.int ((((Vaskyz.nats ((Vaskyz.piecesIn z.s (wLike z.w (ofRat zz.1, ofRat zz.2)) m k).map (·.i))).map V.int).length : Nat) : Int)]) a4 = some (.lst [.int ((((Vaskyz.nats ((Vaskyz.piecesIn z.s (wLike z.w (ofRat zz.1, ofRat zz.2)) m k).map (·.i))).map V.int).length : Nat) : Int)]) := upd_same
    generalize upd H8 a4 (.lst [.int ((((Vaskyz.nats ((Vaskyz.piecesIn z.s (wLike z.w (ofRat zz.1, ofRat zz.2)) m k).map (·.i))).map V.int).length : Nat) : Int)]) = H9 at *
    have e19 : ExtN H1 H9 := (ExtN.of_same s17).trans (e8.trans (ExtN.of_same s9))
    refine ⟨a3, a4, _, _, rfl, rfl, s9 _ _ (e8 _ _ ea3 (fun _ q => by cases q)), ea4, (by show 6 ≤ sizeLine; decide), fun a5 ha5 => ?_⟩
    have s10 := same_new (o := .lst (([V.int 1] ++ (shL zz.1 zz.2).map V.int) ++ [.int ((((Vaskyz.nats ((Vaskyz.piecesIn z.s (wLike z.w (ofRat zz.1, ofRat zz.2)) m k).map (·.i))).map V.int).length : Nat) : Int)])) ha5
    refine kQ.change nM nW s0 f1 hb1 nt1 R1 I1 (e19.trans (ExtN.of_same s10)) ((T8.ext s9).ext s10) (NewN.ext e19 ha5) ?_
    rw [upd_same]
    unfold Vaskyz.nats
    rw [List.length_map, List.length_map, List.length_map]; rfl
end
end BWP
namespace BWP
open PySem PySem.Spec PyProof.Rows L2
open LamX (Tabs ExtN TabB)
open BW (Sm Ln LnOk ofRat SheetOk likedR mayR askRow unbR)
open VaskyzNeutral (encode)
abbrev s_still : Stmt := inClass s_Session 5
abbrev s_ask : Stmt := inClass s_Session 6
theorem still5 {z : Vaskyz.Held} (h : z.w.two = none) : Vaskyz.step (some z) .still = (some z, VaskyBase.one (-5)) := by
  show (some z, Vaskyz.looked z .still) = _
  unfold Vaskyz.looked Vaskyz.withTwo; simp only [h]
theorem ask5 {z : Vaskyz.Held} (h : z.w.two = none) : Vaskyz.step (some z) .ask = (some z, VaskyBase.one (-5)) := by
  show (some z, Vaskyz.looked z .ask) = _
  unfold Vaskyz.looked Vaskyz.withTwo; simp only [h]
theorem pieces_few {s : Vaskya.Sheet} (ok : SheetOk s) {w : Vaskyz.Wish} {m k : Nat} : (Vaskyz.piecesIn s w m k).length ≤ 1000 := by
  unfold Vaskyz.piecesIn
  simp only [List.length_map]
  have il : (Vaskyz.twoOf s w m k).length ≤ 16 := by
    unfold Vaskyz.twoOf
    rw [List.length_map]
    have := ok.i16
    have := within_len (s := s) (w := w)
    omega
  split
  · split
    · show 1 ≤ 1000; decide
    · show 0 ≤ 1000; decide
  · refine Nat.le_trans (List.length_filterMap_le _ _) (Nat.le_trans (BW.pieces_len _) ?_)
    have := Nat.mul_le_mul il il
    omega
theorem still1 (z : Vaskyz.Held) : Vaskyz.step (some z) .still = (some z, Vaskyz.looked z .still) := rfl
theorem ask1 (z : Vaskyz.Held) : Vaskyz.step (some z) .ask = (some z, Vaskyz.looked z .ask) := rfl
theorem best1 (z : Vaskyz.Held) : Vaskyz.step (some z) .best = (some z, Vaskyz.looked z .best) := rfl
/-- those of the first i contenders that may be best -/
def mayN (is : List Nat) (l : List Ln) (lo hi : Rat) (n : Nat) : List Nat := ((List.range n).filter fun i => mayR (l.getD i (0, 0)) l lo hi).map fun i => is.getD i 0
theorem mayN_succ {is : List Nat} {l : List Ln} {lo hi : Rat} {i j : Nat} {x : Ln} (h1 : is[i]? = some j) (h2 : l[i]? = some x) : mayN is l lo hi (i + 1) = mayN is l lo hi i ++ (if mayR x l lo hi = true then [j] else []) := by
  unfold mayN
  have e1 : l.getD i (0, 0) = x := by rw [List.getD_eq_getElem?_getD, h2]; rfl
  have e2 : is.getD i 0 = j := by rw [List.getD_eq_getElem?_getD, h1]; rfl
  rw [List.range_succ, List.filter_append, List.map_append]
  congr 1
  simp only [List.filter_cons, List.filter_nil, e1]
  split
  · rw [List.map_cons, e2]; rfl
  · rfl
theorem mayN_len {is : List Nat} {l : List Ln} {lo hi : Rat} {n : Nat} : (mayN is l lo hi n).length ≤ n := by
  unfold mayN
  rw [List.length_map]
  have := List.length_filter_le (fun i => mayR (l.getD i (0, 0)) l lo hi) (List.range n)
  rw [List.length_range] at this
  exact this
section
variable {P : Program} {w : World} {K : PySem.W.Frag} {mg : Str → Option Value} {base : Heap} {CS CM CW CC : Addr} {d dM dW dN dC dH dA dV dK dL dT dQ dB dX : Dn} {T : List (Addr × Str)}
theorem sc_ask : FnScope ["self", "winners"] ["self"] (defScope s_ask) := ⟨rfl, rfl, rfl, by decide +kernel, rfl, by decide +kernel, by decide +kernel⟩
theorem ok_ask (G : Mth K CS "ask" "Session.ask" s_ask ["self"] d) (M : SesC K mg CS CM CW dM dW) (c5 : Cst mg "NONE_TAKEN" (.int (-5))) (nM : CM ≠ CS) (nW : CW ≠ CS)
    (GN : Mth K CS "winners" "Session.winners" s_winners ["self"] dN) (FN : FnOk P w K mg base CX0 6 dN.a dN.fd ["self"] (spWinners K CS CM CW T))
    (GQ : Glb K mg "questions_needed" s_qNeeded ["pieces"] dQ) (FQ : FnOk P w K mg base CX0 1 dQ.a dQ.fd ["pieces"] spQ) (GX : Glb K mg "next_question" s_nextQ ["winners"] dX) (FX : FnOk P w K mg base CX0 1 dX.a dX.fd ["winners"] (spNextQ K)) :
    FnOk P w K mg base CX0 7 d.a d.fd ["self"] (spCal K CS CM CW T cAsk) := by
  refine G.F.ok sc_ask (fun vs H Q E h => ?_) (fun cdv A outer s H vs Q E hr h => ?_)
  · obtain ⟨x, b, z, ns, f, rfl, hf, _⟩ := h
    obtain ⟨rfl, _⟩ := c0 (c := cAsk) rfl (fun _ _ => rfl) hf; rfl
  · obtain ⟨x, b, z, ns, f, rfl, hf, hR, hI, hT, kQ⟩ := h
    obtain ⟨rfl, rfl⟩ := c0 (c := cAsk) rfl (fun _ _ => rfl) hf
    have hr1 : Room 1 _ := hr.mono (by decide)
    refine ⟨_, pss_cons (ps_if (pt_cmpR op_isN (pe_fld (pe_fld (pv 0) rfl) rfl) pe_non (nomark _)) (pss_one (ps_ret (pe_lst (pa_cons (pe_cst rfl c5) pa_nil)))) pss_nil)
      (pss_cons (ps_set (i := 1) sc_ask.nd rfl (.inl rfl) (pe_meth0 (pv 0) M.cl GN.m FN hr GN.b .nil pass0))
      (pss_one (ps_ret (pe_op op_cat (pe_lst (pa_cons (pe_call FQ hr1 rfl GQ.g GQ.k GQ.b .nil pass0 (pa_cons (pe_callB call_len_seq (by rfl) M.len PySem.boot_len (pa_cons (pv 1) pa_nil)) pa_nil)) (pa_cons (pe_callB call_len_seq (by rfl) M.len PySem.boot_len (pa_cons (pv 1) pa_nil)) pa_nil))) (pe_call FX hr1 rfl GX.g GX.k GX.b .nil pass0 (pa_cons (pv 1) pa_nil)))))), ?_⟩
    obtain ⟨dx, fs, h, v, ps, F, hb, hM, hW, hP⟩ := id hR
    obtain ⟨dv, bl, qs, pp, ll, g1, g2, g3, g4⟩ := id hW
    have g1H := same_del _ _ g1
    refine ⟨_, rfl, x, CS, dx, _, _, rfl, F.1.1, M.cl, M.no _ (by simp), F.1.2.2.1, v, CW, dv, _, _, rfl, g1H, M.WS.cl, M.WS.no _ (by simp), ws_p, rfl, _, rfl, ?_⟩
    cases htwo : z.w.two with
    | none =>
      refine ifT (decide_eq_true (g4.1 htwo).1) ⟨(by show 1 ≤ sizeLine; decide), fun p hp => ?_⟩
      simp only [ask5 htwo] at kQ
      exact kQ.new nM nW hR hI hT (same_new hp) hp upd_same
    | some mk =>
    obtain ⟨m, k⟩ := mk
    obtain ⟨pa, pb, lo, hi, rfl, rfl, u1, u2, u3, u4, u5, u6, u7⟩ := g4.2 m k htwo
    obtain ⟨hm, hk⟩ := hI.w.two m k htwo
    refine ifF (decide_eq_false (by intro q; cases q)) ?_
    simp only [ask1] at kQ
    have ea := BW.ask_eq htwo (rfl : Vaskyz.piecesIn z.s z.w m k = Vaskyz.piecesIn z.s z.w m k)
    rw [ea] at kQ
    refine ⟨_, rfl, x, dx, fs, rfl, F.1.1, F.1.2.2.2.1 _ (by decide +kernel), x, m, k, z.s, _, rfl, hR.held, hI.s, htwo, hm, hk, hT, fun p H1 e1 T1 np hp1 => ?_⟩
    have al : (Vaskyz.piecesIn z.s z.w m k).length ≤ 1000 := pieces_few hI.s
    generalize Vaskyz.piecesIn z.s z.w m k = pcs at *
    have ln : ((Vaskyz.nats (pcs.map (·.i))).map V.int).length = pcs.length := by unfold Vaskyz.nats; rw [List.length_map, List.length_map, List.length_map]
    refine ⟨_, rfl, p, _, rfl, .inl (SqL.of hp1), pcs.length, by rw [ln]; rfl, by omega, _, rfl, p, _, rfl, .inl (SqL.of hp1), (by show 2 ≤ sizeLine; decide), fun a1 ha1 => ?_⟩
    rw [ln]
    have s2 := same_new (o := .lst [.int ((Vaskyz.questions pcs.length pcs.length : Nat) : Int), .int ((pcs.length : Nat) : Int)]) ha1
    have ea1 : upd H1 a1 (.lst [.int ((Vaskyz.questions pcs.length pcs.length : Nat) : Int), .int ((pcs.length : Nat) : Int)]) a1 = some (.lst [.int ((Vaskyz.questions pcs.length pcs.length : Nat) : Int), .int ((pcs.length : Nat) : Int)]) := upd_same
    generalize upd H1 a1 (.lst [.int ((Vaskyz.questions pcs.length pcs.length : Nat) : Int), .int ((pcs.length : Nat) : Int)]) = H2 at *
    refine ⟨_, rfl, p, pcs.map (·.i), rfl, SqL.of (s2 _ _ hp1), fun a2 ha2 => ?_⟩
    have s3 := same_new (o := .lst ((Vaskyz.nats (askRow (pcs.map (·.i)))).map V.int)) ha2
    have al2 : (askRow (pcs.map (·.i))).length ≤ 1000 := by
      unfold askRow
      split
      · rw [List.length_take]; omega
      · rw [List.length_map]; exact al
    refine ⟨a1, a2, _, _, rfl, rfl, s3 _ _ ea1, upd_same, ?_, fun a3 ha3 => ?_⟩
    · show 2 + ((Vaskyz.nats (askRow (pcs.map (·.i)))).map V.int).length ≤ 2 ^ 24
      unfold Vaskyz.nats
      rw [List.length_map, List.length_map]; omega
    have s4 := same_new (o := .lst ([.int ((Vaskyz.questions pcs.length pcs.length : Nat) : Int), .int ((pcs.length : Nat) : Int)] ++ (Vaskyz.nats (askRow (pcs.map (·.i)))).map V.int)) ha3
    have s14 := (s2.trans s3)
    exact kQ.stay nM nW hR hI (e1.trans (ExtN.of_same (s14.trans s4))) (T1.ext (s14.trans s4)) (NewN.ext (e1.trans (ExtN.of_same s14)) ha3) upd_same
theorem sc_still : FnScope ["self", "left", "contenders", "numbers", "each"] ["self"] (defScope s_still) := ⟨rfl, rfl, rfl, by decide +kernel, rfl, by decide +kernel, by decide +kernel⟩
theorem ok_still (G : Mth K CS "still" "Session.still" s_still ["self"] d) (M : SesC K mg CS CM CW dM dW) (c5 : Cst mg "NONE_TAKEN" (.int (-5))) (nM : CM ≠ CS) (nW : CW ≠ CS) (TC : CnT K mg CC dC)
    (GN : Mth K CS "contenders" "Session.contenders" s_conts ["self"] dN) (FN : FnOk P w K mg base CX0 4 dN.a dN.fd ["self"] (spConts K CS CM CW CC))
    (GB : Glb K mg "may_be_best" s_mayBe ["contender", "contenders", "left"] dB) (FB : FnOk P w K mg base CX0 5 dB.a dB.fd ["contender", "contenders", "left"] (spMayBe K CC)) (GT : Glb K mg "told_shares" s_told ["left"] dT) (FT : FnOk P w K mg base CX0 1 dT.a dT.fd ["left"] (spTold K)) :
    FnOk P w K mg base CX0 6 d.a d.fd ["self"] (spCal K CS CM CW T cStill) := by
  refine G.F.ok sc_still (fun vs H Q E h => ?_) (fun cdv A outer s H vs Q E hr h => ?_)
  · obtain ⟨x, b, z, ns, f, rfl, hf, _⟩ := h
    obtain ⟨rfl, _⟩ := c0 (c := cStill) rfl (fun _ _ => rfl) hf; rfl
  · obtain ⟨x, b, z, ns, f, rfl, hf, hR, hI, hT, kQ⟩ := h
    obtain ⟨rfl, rfl⟩ := c0 (c := cStill) rfl (fun _ _ => rfl) hf
    have hr1 : Room 1 _ := hr.mono (by decide)
    have hr4 : Room 4 _ := hr.mono (by decide)
    refine ⟨_, pss_cons (ps_if (pt_cmpR op_isN (pe_fld (pe_fld (pv 0) rfl) rfl) pe_non (nomark _)) (pss_one (ps_ret (pe_lst (pa_cons (pe_cst rfl c5) pa_nil)))) pss_nil)
      (pss_cons (ps_set (i := 1) sc_still.nd rfl (.inr rfl) (pe_fld (pe_fld (pv 0) rfl) rfl))
      (pss_cons (ps_set (i := 2) sc_still.nd rfl (.inr rfl) (pe_meth0 (pv 0) M.cl GN.m FN hr4 GN.b .nil pass0))
      (pss_cons (ps_setLc (i := 3) (own := [("each", 4)]) (g := gName 4) rfl sc_still.nd rfl rfl (sw_true rfl rfl rfl (by decide +kernel)) (pi_list (pv 2)) (blkOk_by (N := ["self", "left", "contenders", "numbers", "each"]) (sc := defScope s_still) (by decide +kernel)) (fun _ _ _ _ _ => pg_name (i := 4) sc_still.nd rfl (Or.inl rfl))
        (fun _ _ _ _ _ => pts_one (pt_val (pe_call FB hr rfl GB.g GB.k GB.b .nil pass0 (pa_cons (pv 4) (pa_cons (pv 2) (pa_cons (pv 1) pa_nil)))))) (fun _ _ _ _ _ => (show PE _ _ (tFld K (tVar 4) "number") from pe_fld (pv 4) rfl)))
      (pss_one (ps_ret (pe_op op_cat (pe_op op_cat (pe_lst (pa_cons (pe_callB call_len_seq (by rfl) M.len PySem.boot_len (pa_cons (pv 3) pa_nil)) pa_nil)) (pv 3)) (pe_call FT hr1 rfl GT.g GT.k GT.b .nil pass0 (pa_cons (pv 1) pa_nil)))))))), ?_⟩
    obtain ⟨dx, fs, h, v, ps, F, hb, hM, hW, hP⟩ := id hR
    obtain ⟨dv, bl, qs, pp, ll, g1, g2, g3, g4⟩ := id hW
    have g1H := same_del _ _ g1
    refine ⟨_, rfl, x, CS, dx, _, _, rfl, F.1.1, M.cl, M.no _ (by simp), F.1.2.2.1, v, CW, dv, _, _, rfl, g1H, M.WS.cl, M.WS.no _ (by simp), ws_p, rfl, _, rfl, ?_⟩
    cases htwo : z.w.two with
    | none =>
      refine ifT (decide_eq_true (g4.1 htwo).1) ⟨(by show 1 ≤ sizeLine; decide), fun p hp => ?_⟩
      simp only [still5 htwo] at kQ
      exact kQ.new nM nW hR hI hT (same_new hp) hp upd_same
    | some mk =>
    obtain ⟨m, k⟩ := mk
    obtain ⟨pa, pb, lo, hi, rfl, rfl, u1, u2, u3, u4, u5, u6, u7⟩ := g4.2 m k htwo
    obtain ⟨hm, hk⟩ := hI.w.two m k htwo
    refine ifF (decide_eq_false (by intro q; cases q)) ?_
    simp only [still1] at kQ
    rw [BW.still_eq htwo u3 u4, BW.maybe_eq u3 u4 u5 u6 u7] at kQ
    have u2H := u2.same (same_del (H := H) (b := b))
    refine ⟨_, rfl, x, CS, dx, _, _, rfl, F.1.1, M.cl, M.no _ (by simp), F.1.2.2.1, v, CW, dv, _, _, rfl, g1H, M.WS.cl, M.WS.no _ (by simp), ws_l,
      _, rfl, x, dx, fs, rfl, F.1.1, F.1.2.2.2.1 _ (by decide +kernel), x, m, k, z.s, z.w, rfl, hR.held, hI.s, htwo, hm, hk, fun nl H1 cs s1 hnl hn1 hc1 => ?_⟩
    let is := Vaskyz.within z.s z.w
    let l := Vaskyz.twoOf z.s z.w m k
    have ct : (csOf z.s m k is).map (·.2) = l := cs_two
    have hcl := hc1.len
    have il : (csOf z.s m k is).length = is.length := by unfold csOf; rw [List.length_map]
    have i16 : is.length ≤ 16 := by rw [← il]; exact cs_len hI.s
    refine ⟨_, rfl, nl, rfl, ⟨_, SqL.of hn1⟩, fun D hD => lc_list (K := K) (a := nl) (xs := cs.map V.ref)
      (fun i H2 => Same H1 H2 ∧ H2 D = some (.lst ((Vaskyz.nats (mayN is l lo hi i)).map V.int))) ⟨same_new hD, upd_same⟩ (fun i H2 _ q => SqL.of (q.1 _ _ hn1)) (fun i y H2 hy q => ?_) (fun H2 q => ?_)⟩
    · obtain ⟨s2, hD2⟩ := q
      obtain ⟨c, ec, rfl⟩ := ref_of hy
      obtain ⟨c', ec', hc'⟩ := hc1.get ec
      have e2 : l[i]? = some c'.2 := by rw [← ct, List.getElem?_map, ec']; rfl
      obtain ⟨j, ej, ecj⟩ : ∃ j, is[i]? = some j ∧ c' = ((j : Int), valOf z.s m k j) := by
        unfold csOf at ec'
        rw [List.getElem?_map] at ec'
        obtain ⟨j, e3, e4⟩ := Option.map_eq_some_iff.mp ec'
        exact ⟨j, e3, e4.symm⟩
      have i1 : i < is.length := (List.getElem?_eq_some_iff.mp ej).1
      have s12 := s1.trans s2
      refine ⟨rfl, _, rfl, _, rfl, _, rfl, c, nl, pb, c'.1, c'.2, cs, csOf z.s m k is, lo, hi, rfl, hc'.same s2, cs_ok hI.s c' (List.mem_of_getElem? ec'), SqL.of (s2 _ _ hn1), hc1.same s2, cs_ok hI.s, u2H.same s12, fun H3 s3 => ⟨_, rfl, ?_⟩⟩
      have es := mayN_succ (lo := lo) (hi := hi) ej e2
      rw [ct]
      by_cases cc : mayR c'.2 l lo hi = true
      · rw [if_pos cc] at es
        obtain ⟨dc, ecn⟩ := hc'.same (s2.trans s3)
        refine ifT cc ⟨_, rfl, c, CC, dc, _, _, rfl, ecn, TC.cl, TC.no _ (by simp), cn_num, _, s3 _ _ hD2, ?_, fun b' o e => ?_, ?_⟩
        · show ((Vaskyz.nats (mayN is l lo hi i)).map V.int).length < 2 ^ 24
          unfold Vaskyz.nats
          rw [List.length_map, List.length_map]
          have := mayN_len (is := is) (l := l) (lo := lo) (hi := hi) (n := i)
          omega
        · exact (upd_ne (ne_of_none e hD)).trans (s3 _ _ (s2 _ _ e))
        · rw [upd_same, es, ecj]
          unfold Vaskyz.nats
          rw [List.map_append, List.map_append]; rfl
      · rw [if_neg cc, List.append_nil] at es
        refine ifF (by simpa using cc) ⟨s2.trans s3, ?_⟩
        rw [es]; exact s3 _ _ hD2
    · obtain ⟨s2, hD2⟩ := q
      have em : mayN is l lo hi (cs.map V.ref).length = ((List.range is.length).filter fun i => mayR (l.getD i (0, 0)) l lo hi).map fun i => is.getD i 0 := by
        rw [List.length_map, hcl, il]; rfl
      rw [em] at hD2
      have ml : (((List.range is.length).filter fun i => mayR (l.getD i (0, 0)) l lo hi).map fun i => is.getD i 0).length ≤ 16 := Nat.le_trans mayN_len i16
      have kQ : Post K CS CM CW T H x [b] (some z) (((((List.range is.length).filter fun i => mayR (l.getD i (0, 0)) l lo hi).map fun i => is.getD i 0).length : Int) :: (Vaskyz.nats (((List.range is.length).filter fun i => mayR (l.getD i (0, 0)) l lo hi).map fun i => is.getD i 0) ++ [lo.num, (lo.den : Int), hi.num, (hi.den : Int)])) Q := kQ
      generalize (((List.range is.length).filter fun i => mayR (l.getD i (0, 0)) l lo hi).map fun i => is.getD i 0) = nums at *
      have ln : ((Vaskyz.nats nums).map V.int).length = nums.length := by unfold Vaskyz.nats; rw [List.length_map, List.length_map]
      refine ⟨_, rfl, D, _, rfl, .inl (SqL.of hD2), (by show 1 ≤ sizeLine; decide), fun a1 ha1 => ?_⟩
      rw [ln]
      have s3 := same_new (o := .lst [.int ((nums.length : Nat) : Int)]) ha1
      have ea1 : upd H2 a1 (.lst [.int ((nums.length : Nat) : Int)]) a1 = some (.lst [.int ((nums.length : Nat) : Int)]) := upd_same
      generalize upd H2 a1 (.lst [.int ((nums.length : Nat) : Int)]) = H3 at *
      refine ⟨_, rfl, a1, D, _, _, rfl, rfl, ea1, s3 _ _ hD2, ?_, fun a2 ha2 => ?_⟩
      · show 1 + ((Vaskyz.nats nums).map V.int).length ≤ 2 ^ 24
        rw [ln]; omega
      have s4 := same_new (o := .lst ([.int ((nums.length : Nat) : Int)] ++ (Vaskyz.nats nums).map V.int)) ha2
      have ea2 : upd H3 a2 (.lst ([.int ((nums.length : Nat) : Int)] ++ (Vaskyz.nats nums).map V.int)) a2 = some (.lst ([.int ((nums.length : Nat) : Int)] ++ (Vaskyz.nats nums).map V.int)) := upd_same
      generalize upd H3 a2 (.lst ([.int ((nums.length : Nat) : Int)] ++ (Vaskyz.nats nums).map V.int)) = H4 at *
      have s14 := (s1.trans s2).trans (s3.trans s4)
      refine ⟨_, rfl, pb, lo, hi, rfl, u2H.same s14, fun a3 H5 s5 ha3 ea3 => ?_⟩
      refine ⟨a2, a3, _, _, rfl, rfl, s5 _ _ ea2, ea3, ?_, fun a4 ha4 => ?_⟩
      · show ([V.int ((nums.length : Nat) : Int)] ++ (Vaskyz.nats nums).map V.int).length + 4 ≤ 2 ^ 24
        rw [List.length_append, ln]
        show 1 + nums.length + 4 ≤ 2 ^ 24
        omega
      have s15 := s14.trans s5
      refine kQ.new nM nW hR hI hT (s15.trans (same_new ha4)) (s15.free ha4) ?_
      rw [upd_same, List.map_cons, List.map_append]; rfl
end
end BWP
namespace BWP
open PySem PySem.Spec PyProof.Rows L2
open LamX (Tabs ExtN TabB)
open BW (Sm Ln LnOk ofRat SheetOk unbR)
open VaskyzNeutral (encode)
abbrev s_best : Stmt := inClass s_Session 7
def rowOf (s : Vaskya.Sheet) (i : Nat) : List Int := (Vaskya.rows s).getD i []
theorem rowOf_len {s : Vaskya.Sheet} (ok : SheetOk s) {i : Nat} (h : i < s.items.length) : (rowOf s i).length = s.ms.length := by
  unfold rowOf Vaskya.rows
  rw [List.getD_eq_getElem?_getD, List.getElem?_map, List.getElem?_eq_getElem h]
  show (Vaskya.goodOf s.ms s.items[i].vs).length = _
  unfold Vaskya.goodOf
  rw [List.length_map, List.length_zip, ok.row _ (List.getElem_mem h)]
  omega
def spGoodR (CS CM : Addr) : Sp := fun vs H Q _ => ∃ (x h : Addr) (v : V) (i : Nat) (s : Vaskya.Sheet), vs = [.ref x, .int i] ∧ SesAt CS H x (.ref h) v ∧ MLAt CM H h s ∧ SheetOk s ∧ i < s.items.length ∧ ∀ D H', Same H H' → H D = none → H' D = some (.lst ((rowOf s i).map V.int)) → Q (.ref D) H'
theorem del_upd {H : Hp} {b : Addr} {o : HO} : Same (del H b) (del (upd H b o) b) := fun c u e => by
  by_cases z : c = b
  · rw [z, del_same] at e; cases e
  · rw [del_ne z] at e ⊢; rw [upd_ne z]; exact e
theorem RowsAt.snoc' {H : Hp} {p : Addr} {vs : List Int} (h : H p = some (.lst (vs.map V.int))) : ∀ {ps : List Addr} {vss : List (List Int)}, RowsAt H ps vss → RowsAt H (ps ++ [p]) (vss ++ [vs])
  | [], [], _ => ⟨h, trivial⟩
  | _ :: _, _ :: _, ⟨h1, h2⟩ => ⟨h1, RowsAt.snoc' h h2⟩
section
variable {P : Program} {w : World} {K : PySem.W.Frag} {mg : Str → Option Value} {base : Heap} {CS CM CW CC : Addr} {d dM dW dN dC dH dA dV dK dL dT dQ dB dX dR dU : Dn} {T : List (Addr × Str)}
theorem sc_goodR : FnScope ["self", "item", "measure"] ["self", "item"] (defScope s_goodR) := ⟨rfl, rfl, rfl, by decide +kernel, rfl, by decide +kernel, by decide +kernel⟩
theorem ok_goodR (G : Mth K CS "good_row" "Session.good_row" s_goodR ["self", "item"] d) (M : SesC K mg CS CM CW dM dW) (mr : mg "range" = none) (GV : Mth K CS "good_value" "Session.good_value" s_goodV ["self", "item", "measure"] dV) : FnOk P w K mg base CX0 2 d.a d.fd ["self", "item"] (spGoodR CS CM) := by
  have FV : FnOk P w K mg base CX0 1 dV.a dV.fd ["self", "item", "measure"] (spGoodV CS CM) := ok_goodV GV M
  refine G.F.ok sc_goodR (fun vs H Q E h => ?_) (fun cdv A outer s H vs Q E hr h => ?_)
  · obtain ⟨x, h, v, i, s, rfl, _⟩ := h; rfl
  · obtain ⟨x, h, v, i, s, rfl, hS, hM, ok, hi, k⟩ := h
    refine ⟨_, pss_one (ps_ret (pe_lc (own := [("measure", 2)]) (g := gName 2) (tt := tYes) rfl sc_goodR.nd (pi_range1 (by rfl) mr (pa_cons (pe_callB call_len_seq (by rfl) M.len PySem.boot_len (pa_cons (pe_fld (pe_fld (pv 0) rfl) rfl) pa_nil)) pa_nil)) (blkOk_by (N := ["self", "item", "measure"]) (sc := defScope s_goodR) (by decide +kernel)) (fun _ _ _ _ _ => pg_name (i := 2) sc_goodR.nd rfl (Or.inl rfl)) (fun _ _ _ _ _ => pts_nil)
      (fun _ _ _ _ _ => pe_meth (pv 0) M.cl GV.m FV hr GV.b .nil pass0 (pa_cons (pv 1) (pa_cons (pv 2) pa_nil))))), ?_⟩
    obtain ⟨dx, fs, h1, h2, h3, h4⟩ := id hS
    obtain ⟨dl, wl, rl, ps, g1, g2, g3, g4⟩ := id hM
    have ln : ((s.ms.map wayI).map V.int).length = s.ms.length := by rw [List.length_map, List.length_map]
    have m4 := ok.m4
    have rl' := rowOf_len ok hi
    refine ⟨_, rfl, x, CS, dx, _, _, rfl, h1, M.cl, M.no _ (by simp), h2, h, CM, dl, _, _, rfl, g1, M.ML.cl, M.ML.no _ (by simp), ml_w, wl, _, rfl, .inl (SqL.of g2), _, rfl, by omega, by rw [ln]; omega, ?_⟩
    rw [ln]
    refine fun D hD => lc_range (lo := 0) (n := s.ms.length) (fun j H1 => Same H H1 ∧ H1 D = some (.lst (((rowOf s i).take j).map V.int))) ⟨same_new hD, upd_same⟩ (fun j H1 hj q => ?_) (fun H1 q => ?_)
    · obtain ⟨s1, hD1⟩ := q
      have ej : (0 : Int) + (j : Int) = (j : Int) := by omega
      rw [ej]
      refine ⟨rfl, _, rfl, x, dx, fs, rfl, s1 _ _ h1, h4 _ (by decide +kernel), _, rfl, _, rfl, x, h, v, i, j, s, rfl, hS.same s1, hM.ext (ExtN.of_same s1), ok, hi, hj, _, hD1, ?_, fun b' o e => ?_, ?_⟩
      · show (((rowOf s i).take j).map V.int).length < 2 ^ 24
        rw [List.length_map, List.length_take]; omega
      · exact (upd_ne (ne_of_none e hD)).trans (s1 _ _ e)
      · have e2 : (rowOf s i)[j]? = some ((rowOf s i).getD j 0) := by
          rw [List.getD_eq_getElem?_getD, List.getElem?_eq_getElem (by omega)]; rfl
        rw [upd_same, List.take_succ, e2, List.map_append]; rfl
    · obtain ⟨s1, hD1⟩ := q
      rw [List.take_of_length_le (by omega)] at hD1
      exact k D H1 s1 hD hD1
theorem sc_best : FnScope ["self", "within", "rows", "numbers", "item", "row"] ["self"] (defScope s_best) := ⟨rfl, rfl, rfl, by decide +kernel, rfl, by decide +kernel, by decide +kernel⟩
theorem ok_best (G : Mth K CS "best" "Session.best" s_best ["self"] d) (M : SesC K mg CS CM CW dM dW) (mz : mg "zip" = none) (nM : CM ≠ CS) (nW : CW ≠ CS)
    (GN : Mth K CS "numbers_within" "Session.numbers_within" s_numsW ["self"] dN) (FN : FnOk P w K mg base CX0 2 dN.a dN.fd ["self"] (spNumsW K CS CM CW))
    (GR : Mth K CS "good_row" "Session.good_row" s_goodR ["self", "item"] dR) (FR : FnOk P w K mg base CX0 2 dR.a dR.fd ["self", "item"] (spGoodR CS CM))
    (GU : Glb K mg "is_unbeaten" s_isUnb ["row", "rows"] dU) (FU : FnOk P w K mg base CX0 2 dU.a dU.fd ["row", "rows"] (spUnb K)) :
    FnOk P w K mg base CX0 3 d.a d.fd ["self"] (spCal K CS CM CW T cBest) := by
  refine G.F.ok sc_best (fun vs H Q E h => ?_) (fun cdv A outer s H vs Q E hr h => ?_)
  · obtain ⟨x, b, z, ns, f, rfl, hf, _⟩ := h
    obtain ⟨rfl, _⟩ := c0 (c := cBest) rfl (fun _ _ => rfl) hf; rfl
  · obtain ⟨x, b, z, ns, f, rfl, hf, hR, hI, hT, kQ⟩ := h
    obtain ⟨rfl, rfl⟩ := c0 (c := cBest) rfl (fun _ _ => rfl) hf
    refine ⟨_, pss_cons (ps_set (i := 1) sc_best.nd rfl (.inl rfl) (pe_meth0 (pv 0) M.cl GN.m FN hr GN.b .nil pass0))
      (pss_cons (ps_set (i := 2) sc_best.nd rfl (.inr rfl) (pe_lc (own := [("item", 4)]) (g := gName 4) (tt := tYes) rfl sc_best.nd (pi_list (pv 1)) (blkOk_by (N := ["self", "within", "rows", "numbers", "item", "row"]) (sc := defScope s_best) (by decide +kernel)) (fun _ _ _ _ _ => pg_name (i := 4) sc_best.nd rfl (Or.inl rfl)) (fun _ _ _ _ _ => pts_nil)
        (fun _ _ _ _ _ => pe_meth (pv 0) M.cl GR.m FR hr GR.b .nil pass0 (pa_cons (pv 4) pa_nil))))
      (pss_cons (ps_setLc (i := 3) (own := [("item", 4), ("row", 5)]) (g := gTup K 2 (gCons (gName 4) (gCons (gName 5) gNil))) rfl sc_best.nd rfl rfl (sw_true rfl rfl rfl (by decide +kernel)) (pi_zip (by rfl) mz (pa_cons (pv 1) (pa_cons (pv 2) pa_nil))) (blkOk_by (N := ["self", "within", "rows", "numbers", "item", "row"]) (sc := defScope s_best) (by decide +kernel))
        (fun _ _ _ _ _ => pg_tup rfl (pgs_cons (pg_name (i := 4) sc_best.nd rfl (Or.inl rfl)) (pgs_cons (pg_name (i := 5) sc_best.nd rfl (Or.inl rfl)) pgs_nil))) (fun _ _ _ _ _ => pts_one (pt_val (pe_call FU hr rfl GU.g GU.k GU.b .nil pass0 (pa_cons (pv 5) (pa_cons (pv 2) pa_nil))))) (fun _ _ _ _ _ => pv 4))
      (pss_one (ps_ret (pe_op op_cat (pe_lst (pa_cons (pe_callB call_len_seq (by rfl) M.len PySem.boot_len (pa_cons (pv 3) pa_nil)) pa_nil)) (pv 3)))))), ?_⟩
    obtain ⟨dx, fs, h, v, ps, F, hb, hM, hW, hP⟩ := id hR
    have hMH : MLAt CM H h z.s := hM.ext (ExtN.of_same same_del)
    have nm : ∀ q ∈ SMETH, fs.lookup q = none := F.1.2.2.2.1
    simp only [best1] at kQ
    rw [BW.best_eq, BW.unb_eq] at kQ
    let is := Vaskyz.within z.s z.w
    have i16 : is.length ≤ 16 := Nat.le_trans within_len hI.s.i16
    have m4 := hI.s.m4
    refine ⟨_, rfl, x, dx, fs, rfl, F.1.1, nm _ (by decide +kernel), x, z.s, z.w, rfl, hR.held, hI.s, fun nl H1 s1 hnl hn1 => ?_⟩
    have iln : ((Vaskyz.nats is).map V.int).length = is.length := by unfold Vaskyz.nats; rw [List.length_map, List.length_map]
    refine ⟨_, rfl, nl, rfl, ⟨_, SqL.of hn1⟩, fun D hD => lc_list (K := K) (a := nl) (xs := (Vaskyz.nats is).map V.int)
      (fun i H2 => Same H1 H2 ∧ ∃ rs : List Addr, H2 D = some (.lst (rs.map V.ref)) ∧ RowsAt (del H2 D) rs ((is.take i).map (rowOf z.s))) ⟨same_new hD, [], upd_same, (trivial : RowsAt _ [] [])⟩ (fun i H2 _ q => SqL.of (q.1 _ _ hn1)) (fun i y H2 hy q => ?_) (fun H2 q => ?_)⟩
    · obtain ⟨s2, rs, hD2, hr2⟩ := q
      obtain ⟨n, en, rfl⟩ := int_of hy
      unfold Vaskyz.nats at en
      rw [List.getElem?_map] at en
      obtain ⟨j, ej, rfl⟩ := Option.map_eq_some_iff.mp en
      have s12 := s1.trans s2
      have rl := hr2.len
      rw [List.length_map, List.length_take] at rl
      refine ⟨rfl, _, rfl, x, dx, fs, rfl, s12 _ _ F.1.1, nm _ (by decide +kernel), _, rfl, x, h, _, j, z.s, rfl, F.1.at.same s12, hMH.ext (ExtN.of_same s12), hI.s, within_lt (List.mem_of_getElem? ej), fun r H3 s3 hr3 er3 => ?_⟩
      have rD : r ≠ D := fun q => by rw [q, hD2] at hr3; cases hr3
      refine ⟨_, s3 _ _ hD2, ?_, fun b' o e => ?_, rs ++ [r], ?_, ?_⟩
      · show (rs.map V.ref).length < 2 ^ 24
        rw [List.length_map, rl]; omega
      · exact (upd_ne (ne_of_none e hD)).trans (s3 _ _ (s2 _ _ e))
      · rw [upd_same, List.map_append]; rfl
      · rw [List.take_succ, ej, List.map_append]
        exact RowsAt.snoc' ((del_ne rD).trans ((upd_ne rD).trans er3)) (hr2.ext (ExtN.of_same ((del_same2 s3).trans del_upd)))
    obtain ⟨s2, rs, hD2, hr2⟩ := q
    rw [iln, List.take_length] at hr2
    have hr2' : RowsAt H2 rs (is.map (rowOf z.s)) := hr2.ext (ExtN.of_same same_del)
    have rl := hr2'.len
    rw [List.length_map] at rl
    have s12 := s1.trans s2
    have hn2 := s2 _ _ hn1
    let f : Nat → Bool := fun i => unbR (rowOf z.s i) (is.map (rowOf z.s))
    refine ⟨_, rfl, _, rfl, nl, D, (Vaskyz.nats is).map V.int, rs.map V.ref, rfl, SqL.of hn2, SqL.of hD2, fun U hU => lc_it (walk_zip (n := is.length) (xs := (Vaskyz.nats is).map V.int) (ys := rs.map V.ref) (by rw [iln, List.length_map, rl]; omega))
      (fun i H3 => Same H2 H3 ∧ H3 U = some (.lst ((Vaskyz.nats ((is.take i).filter f)).map V.int))) ⟨same_new hU, upd_same⟩ (fun i H3 _ q => ⟨SqL.of (q.1 _ _ hn2), SqL.of (q.1 _ _ hD2)⟩) (fun i y H3 H4 hi q yp => ?_) (fun H3 q => ?_)⟩
    · obtain ⟨s3, hU3⟩ := q
      obtain ⟨Tt, x1, y1, rfl, hTt, rfl, ex, ey⟩ := yp
      obtain ⟨n, en, rfl⟩ := int_of ex
      unfold Vaskyz.nats at en
      rw [List.getElem?_map] at en
      obtain ⟨j, ej, rfl⟩ := Option.map_eq_some_iff.mp en
      obtain ⟨r, er, rfl⟩ := ref_of ey
      obtain ⟨vs, ev, hv⟩ := hr2'.get er
      rw [List.getElem?_map, ej] at ev
      have ev : rowOf z.s j = vs := Option.some.inj ev
      subst ev
      have s4 := same_new (o := .tup [.int (j : Nat), .ref r]) hTt
      have s34 := s3.trans s4
      refine ⟨Tt, _, rfl, SqT.of upd_same, rfl, _, _, rfl, _, _, rfl, rfl, rfl, ?_⟩
      refine ⟨_, rfl, _, rfl, r, D, rowOf z.s j, rs, is.map (rowOf z.s), rfl, SqL.of (s34 _ _ hv), SqL.of (s34 _ _ hD2), hr2'.ext (ExtN.of_same s34), fun q hq => ?_, by rw [List.length_map]; omega, fun H5 s5 => ?_⟩
      · obtain ⟨i', hi', rfl⟩ := List.mem_map.mp hq
        rw [rowOf_len hI.s (within_lt hi')]; omega
      have es : (is.take (i + 1)).filter f = (is.take i).filter f ++ (if f j = true then [j] else []) := by
        rw [List.take_succ, ej, List.filter_append]
        congr 1
        show List.filter f [j] = _
        simp only [List.filter_cons, List.filter_nil]
      have ll : ((is.take i).filter f).length ≤ 16 := Nat.le_trans (List.length_filter_le _ _) (by rw [List.length_take]; omega)
      refine ⟨_, rfl, ?_⟩
      by_cases c : f j = true
      · rw [if_pos c] at es
        refine ifT c ⟨_, rfl, _, s5 _ _ (s4 _ _ hU3), ?_, fun b' o e => ?_, ?_⟩
        · show ((Vaskyz.nats ((is.take i).filter f)).map V.int).length < 2 ^ 24
          unfold Vaskyz.nats
          rw [List.length_map, List.length_map]; omega
        · exact (upd_ne (ne_of_none e hU)).trans (s5 _ _ (s34 _ _ e))
        · rw [upd_same, es]
          unfold Vaskyz.nats
          rw [List.map_append, List.map_append]; rfl
      · rw [if_neg c, List.append_nil] at es
        refine ifF (by simpa using c) ⟨s34.trans s5, ?_⟩
        rw [es]; exact s5 _ _ (s4 _ _ hU3)
    obtain ⟨s3, hU3⟩ := q
    rw [List.take_length] at hU3
    have kQ : Post K CS CM CW T H x [b] (some z) (((is.filter f).length : Int) :: Vaskyz.nats (is.filter f)) Q := kQ
    have ml : (is.filter f).length ≤ 16 := Nat.le_trans (List.length_filter_le _ _) i16
    generalize is.filter f = nums at *
    have ln : ((Vaskyz.nats nums).map V.int).length = nums.length := by unfold Vaskyz.nats; rw [List.length_map, List.length_map]
    refine ⟨_, rfl, U, _, rfl, .inl (SqL.of hU3), (by show 1 ≤ sizeLine; decide), fun a1 ha1 => ?_⟩
    rw [ln]
    have s4 := same_new (o := .lst [.int ((nums.length : Nat) : Int)]) ha1
    refine ⟨_, rfl, a1, U, _, _, rfl, rfl, upd_same, s4 _ _ hU3, ?_, fun a2 ha2 => ?_⟩
    · show 1 + ((Vaskyz.nats nums).map V.int).length ≤ 2 ^ 24
      rw [ln]; omega
    have s14 := (s12.trans s3).trans s4
    exact kQ.new nM nW hR hI hT (s14.trans (same_new ha2)) (s14.free ha2) upd_same
end
end BWP
namespace BWP
open PySem PySem.Spec PyProof.Rows L2
open LamX (Tabs ExtN TabB)
open BW (SheetOk rowsOf octs IsB)
open VaskyzNeutral (encode asked1 step)
theorem asked_cases {p : Int} {ns : List Int} (h : asked1 [p :: ns] = true) : (p = 1 ∧ ∃ a b c, ns = [a, b, c]) ∨ (p = 2 ∧ ∃ a b, ns = [a, b]) ∨ (p = 3 ∧ ∃ a b, ns = [a, b]) ∨ (p = 4 ∧ ns = []) ∨ (p = 5 ∧ ns = []) ∨ (p = 6 ∧ ns = []) ∨ (p = 7 ∧ ns = []) := by
  unfold VaskyzNeutral.asked1 at h
  split at h
  all_goals first | (rename_i e; cases e; done) | skip
  all_goals first | (cases h; done) | skip
  all_goals (rename_i e; simp only [List.cons.injEq, and_true] at e; obtain ⟨e1, e2⟩ := e; simp [e1, e2])
section
variable {P : Program} {w : World} {K : PySem.W.Frag} {mg : Str → Option Value} {base : Heap} {CS CM CW CC : Addr} {d dM dW dI : Dn} {T : List (Addr × Str)}
theorem sc_SesI : FnScope ["self"] ["self"] (defScope s_SesI) := ⟨rfl, rfl, rfl, by decide +kernel, rfl, by decide +kernel, by decide +kernel⟩
theorem ok_SesI (TS : Rec K mg "Session" "Session.__init__" s_SesI ["self"] ["held", "wishes", "before"] CS dI) : FnOk P w K mg base CX0 1 dI.a dI.fd ["self"] (spSesI CS (Rep K CS CM CW)) := by
  refine TS.F.ok sc_SesI (fun vs H Q E h => ?_) (fun cdv A outer s H vs Q E hr h => ?_)
  · obtain ⟨x, dx, rfl, _⟩ := h; rfl
  · obtain ⟨x, dx, rfl, hx, k⟩ := h
    refine ⟨_, pss_cons (ps_fld (pv 0) pe_non rfl) (pss_cons (ps_fld (pv 0) pe_non rfl) (pss_one (ps_fld (pv 0) (pe_lst pa_nil) rfl))), ?_⟩
    refine ⟨_, rfl, x, CS, dx, _, rfl, hx, TS.cl, TS.no _ (by simp), (by show 0 < 1000; decide), ?_⟩
    refine ⟨_, rfl, x, CS, dx, _, rfl, upd_same, TS.cl, TS.no _ (by simp), (by show 1 < 1000; decide), ?_⟩
    rw [upd_upd]
    refine ⟨(by show 0 ≤ sizeLine; decide), fun b hb => ?_⟩
    have xb : x ≠ b := fun q => by rw [← q, upd_same] at hb; cases hb
    refine ⟨_, rfl, x, CS, dx, _, rfl, (upd_ne xb).trans upd_same, TS.cl, TS.no _ (by simp), (by show 2 < 1000; decide), ?_⟩
    have hbH : H b = none := by rw [upd_ne (Ne.symm xb)] at hb; exact hb
    refine k _ [b] (fun c o e n => ?_) (fun c hc => by rw [List.mem_singleton.mp hc]; exact hbH) ⟨dx, [("held", .non), ("wishes", .non), ("before", .ref b)], b, rfl, ⟨⟨upd_same, lk0, (lk1 (by decide +kernel)).trans lk0, fun m hm => ?_, by show 3 < 100; decide⟩, (lk1 (by decide +kernel)).trans ((lk1 (by decide +kernel)).trans lk0)⟩, ?_⟩
    · have cb : c ≠ b := ne_of_none e hbH
      exact (upd_ne n).trans ((upd_ne cb).trans ((upd_ne n).trans e))
    · obtain ⟨n1, n2, n3⟩ := smeth_ne hm
      rw [lk1 (beq_false_of_ne n1), lk1 (beq_false_of_ne n2), lk1 (beq_false_of_ne n3)]; rfl
    · exact (upd_ne (Ne.symm xb)).trans upd_same
/-- what answer_call leans on -/
structure CallM (P : Program) (w : World) (K : PySem.W.Frag) (mg : Str → Option Value) (base : Heap) (CS CM CW : Addr) (T : List (Addr × Str)) (dL dB dG dK dS dA dE dU : Dn) : Prop where
  load : Mth K CS "load" "Session.load" s_load ["self", "text"] dL
  Fload : FnOk P w K mg base CX0 8 dL.a dL.fd ["self", "text"] (spLoad K CS CM CW)
  bound : Mth K CS "bound" "Session.bound" s_bound ["self", "measure", "low", "high"] dB
  Fbound : FnOk P w K mg base CX0 3 dB.a dB.fd ["self", "measure", "low", "high"] (spCal K CS CM CW T cBound)
  begin_ : Mth K CS "begin" "Session.begin" s_begin ["self", "first", "second"] dG
  Fbegin : FnOk P w K mg base CX0 7 dG.a dG.fd ["self", "first", "second"] (spCal K CS CM CW T cBegin)
  like : Mth K CS "like" "Session.like" s_like ["self", "liked", "other"] dK
  Flike : FnOk P w K mg base CX0 7 dK.a dK.fd ["self", "liked", "other"] (spCal K CS CM CW T cLike)
  still : Mth K CS "still" "Session.still" s_still ["self"] dS
  Fstill : FnOk P w K mg base CX0 6 dS.a dS.fd ["self"] (spCal K CS CM CW T cStill)
  ask : Mth K CS "ask" "Session.ask" s_ask ["self"] dA
  Fask : FnOk P w K mg base CX0 7 dA.a dA.fd ["self"] (spCal K CS CM CW T cAsk)
  best : Mth K CS "best" "Session.best" s_best ["self"] dE
  Fbest : FnOk P w K mg base CX0 3 dE.a dE.fd ["self"] (spCal K CS CM CW T cBest)
  undo : Mth K CS "undo" "Session.undo" s_undo ["self"] dU
  Fundo : FnOk P w K mg base CX0 3 dU.a dU.fd ["self"] (spCal K CS CM CW T cUndo)
theorem sc_ansCall : FnScope ["session", "call", "numbers"] ["session", "call", "numbers"] (defScope s_ansCall) := ⟨rfl, rfl, rfl, by decide +kernel, rfl, by decide +kernel, by decide +kernel⟩
theorem no_int {a b : Int} (h : a ≠ b) : decide (V.int a = V.int b) = false := decide_eq_false fun q => h (V.int.inj q)
theorem ok_ansCall {dL dB dG dK dS dA dE dU : Dn} (G : Glb K mg "answer_call" s_ansCall ["session", "call", "numbers"] d) (M : SesC K mg CS CM CW dM dW) (C : CallM P w K mg base CS CM CW T dL dB dG dK dS dA dE dU) (nM : CM ≠ CS) (nW : CW ≠ CS)
    (m0 : Cst mg "LOAD" (.int 0)) (m1 : Cst mg "BOUND" (.int 1)) (m2 : Cst mg "BEGIN" (.int 2)) (m3 : Cst mg "LIKE" (.int 3)) (m4 : Cst mg "STILL" (.int 4)) (m5 : Cst mg "ASK" (.int 5)) (m6 : Cst mg "BEST" (.int 6)) (mN : Cst mg "NO_LIST" (.int (-1))) :
    FnOk P w K mg base CX0 11 d.a d.fd ["session", "call", "numbers"] (spCall K CS T (Rep K CS CM CW)) := by
  refine G.F.ok sc_ansCall (fun vs H Q E h => ?_) (fun cdv A outer s H vs Q E hr h => ?_)
  · obtain ⟨x, nl, ow, o, p, ns, rfl, _⟩ := h; rfl
  · obtain ⟨x, nl, ow, o, p, ns, rfl, hR, hS, hnl, hask, hT, kQ⟩ := h
    have r3 : Room 3 _ := hr.mono (by decide)
    have r6 : Room 6 _ := hr.mono (by decide)
    have r7 : Room 7 _ := hr.mono (by decide)
    have r8 : Room 8 _ := hr.mono (by decide)
    refine ⟨_, pss_cons (ps_if (pt_cmpR op_eq (pv 1) (pe_cst rfl m0) (nomark _)) (pss_one (ps_ret (pe_meth (pv 0) M.cl C.load.m C.Fload r8 C.load.b .nil pass0 (pa_cons (pv 2) pa_nil)))) pss_nil)
      (pss_cons (ps_if (pt_cmpR op_isN (pe_fld (pv 0) rfl) pe_non (nomark _)) (pss_one (ps_ret (pe_lst (pa_cons (pe_cst rfl mN) pa_nil)))) pss_nil)
      (pss_cons (ps_if (pt_cmpR op_eq (pv 1) (pe_cst rfl m1) (nomark _)) (pss_one (ps_ret (pe_meth (pv 0) M.cl C.bound.m C.Fbound r3 C.bound.b .nil pass0 (pa_cons (pe_ix ix_list (pv 2) pe_int (fun _ _ => rfl)) (pa_cons (pe_ix ix_list (pv 2) pe_int (fun _ _ => rfl)) (pa_cons (pe_ix ix_list (pv 2) pe_int (fun _ _ => rfl)) pa_nil)))))) pss_nil)
      (pss_cons (ps_if (pt_cmpR op_eq (pv 1) (pe_cst rfl m2) (nomark _)) (pss_one (ps_ret (pe_meth (pv 0) M.cl C.begin_.m C.Fbegin r7 C.begin_.b .nil pass0 (pa_cons (pe_ix ix_list (pv 2) pe_int (fun _ _ => rfl)) (pa_cons (pe_ix ix_list (pv 2) pe_int (fun _ _ => rfl)) pa_nil))))) pss_nil)
      (pss_cons (ps_if (pt_cmpR op_eq (pv 1) (pe_cst rfl m3) (nomark _)) (pss_one (ps_ret (pe_meth (pv 0) M.cl C.like.m C.Flike r7 C.like.b .nil pass0 (pa_cons (pe_ix ix_list (pv 2) pe_int (fun _ _ => rfl)) (pa_cons (pe_ix ix_list (pv 2) pe_int (fun _ _ => rfl)) pa_nil))))) pss_nil)
      (pss_cons (ps_if (pt_cmpR op_eq (pv 1) (pe_cst rfl m4) (nomark _)) (pss_one (ps_ret (pe_meth0 (pv 0) M.cl C.still.m C.Fstill r6 C.still.b .nil pass0))) pss_nil)
      (pss_cons (ps_if (pt_cmpR op_eq (pv 1) (pe_cst rfl m5) (nomark _)) (pss_one (ps_ret (pe_meth0 (pv 0) M.cl C.ask.m C.Fask r7 C.ask.b .nil pass0))) pss_nil)
      (pss_cons (ps_if (pt_cmpR op_eq (pv 1) (pe_cst rfl m6) (nomark _)) (pss_one (ps_ret (pe_meth0 (pv 0) M.cl C.best.m C.Fbest r3 C.best.b .nil pass0))) pss_nil)
      (pss_one (ps_ret (pe_meth0 (pv 0) M.cl C.undo.m C.Fundo r3 C.undo.b .nil pass0)))))))))), ?_⟩
    refine ⟨_, rfl, rfl, _, rfl, ?_⟩
    by_cases hp : p = 0
    · subst hp
      refine ifT (decide_eq_true rfl) ?_
      have hask : asked1 [[0], ns] = true := hask
      obtain ⟨hB, _⟩ := BW.load_asked hask
      have es : step o (rowsOf 0 ns) = ((Vaskyz.step o (.load (octs ns))).1, encode (Vaskyz.step o (.load (octs ns))).2) := BW.step_load o hB
      rw [es] at kQ
      -- the object, whatever it holds
      obtain ⟨dx, fs, hh, vv, b, hw, F⟩ : ∃ dx fs hh vv b, ow = [b] ∧ SesB CS H x dx fs hh vv b := by
        cases o with
        | none => obtain ⟨dx, fs, b, e1, e2, _⟩ := hR; exact ⟨dx, fs, _, _, b, e1, e2⟩
        | some z => obtain ⟨b, e1, ⟨dx, fs, h, v, ps, e2, _⟩, _⟩ := hR; exact ⟨dx, fs, _, _, b, e1, e2⟩
      subst hw
      refine ⟨_, rfl, x, dx, fs, rfl, F.1.1, F.1.2.2.2.1 _ (by decide +kernel), _, rfl, x, nl, dx, b, fs, hh, vv, ns, rfl, F, hS, hB, fun f hf a H' s1 ha ea => ?_, fun sh hsh a H' fs' b' f1 t1 ha hb' hN ea => ?_⟩
      · have e : Vaskyz.step o (.load (octs ns)) = (o, VaskyBase.faulty f) := by
          simp only [Vaskyz.step, hf]
        rw [e] at kQ
        exact kQ a H' [b] (FrO.of (Fr.ofS s1)) (hT.ext s1) (fun _ q => .inl q) (hR.same nM nW s1) ea (NewN.of ha)
      · have e : Vaskyz.step o (.load (octs ns)) = (some ⟨sh, Vaskyz.free sh, []⟩, ⟨1, Vaskyz.nats [sh.ms.length, sh.items.length]⟩) := by
          simp only [Vaskyz.step, hsh]
        rw [e] at kQ
        obtain ⟨h', v', N1, N2, N3, N4⟩ := hN
        refine kQ a H' [b'] (FrO.of f1) (t1 T hT) (fun c hc => .inr (by rw [List.mem_singleton.mp hc]; exact NewN.of hb')) ⟨b', rfl, ⟨dx, fs', h', v', [], N1, N2, N3, N4, (trivial : PastAt K CW _ [] [])⟩, ⟨BW.read_ok hsh, ⟨?_, fun m k q => by cases q⟩, (fun _ q => by cases q), Nat.zero_le _⟩⟩ ea (NewN.of ha)
        show (sh.ms.map _).length = sh.ms.length
        rw [List.length_map]
    refine ifF (no_int hp) ?_
    have er : rowsOf p ns = [p :: ns] := if_neg hp
    rw [er] at hask kQ
    have hc := asked_cases hask
    cases o with
    | none =>
      obtain ⟨dx, fs, b, rfl, F, hb⟩ := id hR
      refine ⟨_, rfl, x, CS, dx, _, _, rfl, F.1.1, M.cl, M.no _ (by simp), F.1.2.1, rfl, _, rfl, ifT (decide_eq_true rfl) ⟨(by show 1 ≤ sizeLine; decide), fun a ha => ?_⟩⟩
      have e : step none [p :: ns] = (none, [-1]) := by
        rcases hc with ⟨rfl, a, b, c, rfl⟩ | ⟨rfl, a, b, rfl⟩ | ⟨rfl, a, b, rfl⟩ | ⟨rfl, rfl⟩ | ⟨rfl, rfl⟩ | ⟨rfl, rfl⟩ | ⟨rfl, rfl⟩ <;> rfl
      rw [e] at kQ
      have s1 := same_new (o := .lst [.int (-1)]) ha
      exact kQ a _ [b] (FrO.of (Fr.ofS s1)) (hT.ext s1) (fun _ q => .inl q) (Rep.same (o := none) nM nW s1 hR) upd_same (NewN.of ha)
    | some z =>
      obtain ⟨b, rfl, hR1, hI⟩ := hR
      obtain ⟨dx, fs, h, v, ps, F, _⟩ := id hR1
      have nm : ∀ q ∈ SMETH, fs.lookup q = none := F.1.2.2.2.1
      refine ⟨_, rfl, x, CS, dx, _, _, rfl, F.1.1, M.cl, M.no _ (by simp), F.1.2.1, rfl, _, rfl, ifF (decide_eq_false (by intro q; cases q)) ⟨_, rfl, rfl, _, rfl, ?_⟩⟩
      rcases hc with ⟨rfl, a1, a2, a3, rfl⟩ | ⟨rfl, a1, a2, rfl⟩ | ⟨rfl, a1, a2, rfl⟩ | ⟨rfl, rfl⟩ | ⟨rfl, rfl⟩ | ⟨rfl, rfl⟩ | ⟨rfl, rfl⟩
      · exact ifT (decide_eq_true rfl) ⟨_, rfl, x, dx, fs, rfl, F.1.1, nm _ (by decide +kernel), _, rfl, nl, _, _, _, rfl, rfl, hS, (rfl : atI ([a1, a2, a3].map V.int) 0 = some (.int a1)), _, rfl, nl, _, _, _, rfl, rfl, hS, (rfl : atI ([a1, a2, a3].map V.int) 1 = some (.int a2)), _, rfl, nl, _, _, _, rfl, rfl, hS, (rfl : atI ([a1, a2, a3].map V.int) 2 = some (.int a3)), x, b, z, [a1, a2, a3], _, rfl, rfl, hR1, hI, hT, kQ⟩
      · refine ifF (no_int (by decide)) ⟨_, rfl, rfl, _, rfl, ?_⟩
        exact ifT (decide_eq_true rfl) ⟨_, rfl, x, dx, fs, rfl, F.1.1, nm _ (by decide +kernel), _, rfl, nl, _, _, _, rfl, rfl, hS, (rfl : atI ([a1, a2].map V.int) 0 = some (.int a1)), _, rfl, nl, _, _, _, rfl, rfl, hS, (rfl : atI ([a1, a2].map V.int) 1 = some (.int a2)), x, b, z, [a1, a2], _, rfl, rfl, hR1, hI, hT, kQ⟩
      · refine ifF (no_int (by decide)) ⟨_, rfl, rfl, _, rfl, ifF (no_int (by decide)) ⟨_, rfl, rfl, _, rfl, ?_⟩⟩
        exact ifT (decide_eq_true rfl) ⟨_, rfl, x, dx, fs, rfl, F.1.1, nm _ (by decide +kernel), _, rfl, nl, _, _, _, rfl, rfl, hS, (rfl : atI ([a1, a2].map V.int) 0 = some (.int a1)), _, rfl, nl, _, _, _, rfl, rfl, hS, (rfl : atI ([a1, a2].map V.int) 1 = some (.int a2)), x, b, z, [a1, a2], _, rfl, rfl, hR1, hI, hT, kQ⟩
      · refine ifF (no_int (by decide)) ⟨_, rfl, rfl, _, rfl, ifF (no_int (by decide)) ⟨_, rfl, rfl, _, rfl, ifF (no_int (by decide)) ⟨_, rfl, rfl, _, rfl, ?_⟩⟩⟩
        exact ifT (decide_eq_true rfl) ⟨_, rfl, x, dx, fs, rfl, F.1.1, nm _ (by decide +kernel), x, b, z, [], _, rfl, rfl, hR1, hI, hT, kQ⟩
      · refine ifF (no_int (by decide)) ⟨_, rfl, rfl, _, rfl, ifF (no_int (by decide)) ⟨_, rfl, rfl, _, rfl, ifF (no_int (by decide)) ⟨_, rfl, rfl, _, rfl, ifF (no_int (by decide)) ⟨_, rfl, rfl, _, rfl, ?_⟩⟩⟩⟩
        exact ifT (decide_eq_true rfl) ⟨_, rfl, x, dx, fs, rfl, F.1.1, nm _ (by decide +kernel), x, b, z, [], _, rfl, rfl, hR1, hI, hT, kQ⟩
      · refine ifF (no_int (by decide)) ⟨_, rfl, rfl, _, rfl, ifF (no_int (by decide)) ⟨_, rfl, rfl, _, rfl, ifF (no_int (by decide)) ⟨_, rfl, rfl, _, rfl, ifF (no_int (by decide)) ⟨_, rfl, rfl, _, rfl, ifF (no_int (by decide)) ⟨_, rfl, rfl, _, rfl, ?_⟩⟩⟩⟩⟩
        exact ifT (decide_eq_true rfl) ⟨_, rfl, x, dx, fs, rfl, F.1.1, nm _ (by decide +kernel), x, b, z, [], _, rfl, rfl, hR1, hI, hT, kQ⟩
      · refine ifF (no_int (by decide)) ⟨_, rfl, rfl, _, rfl, ifF (no_int (by decide)) ⟨_, rfl, rfl, _, rfl, ifF (no_int (by decide)) ⟨_, rfl, rfl, _, rfl, ifF (no_int (by decide)) ⟨_, rfl, rfl, _, rfl, ifF (no_int (by decide)) ⟨_, rfl, rfl, _, rfl, ifF (no_int (by decide)) ?_⟩⟩⟩⟩⟩
        exact ⟨_, rfl, x, dx, fs, rfl, F.1.1, nm _ (by decide +kernel), x, b, z, [], _, rfl, rfl, hR1, hI, hT, kQ⟩
end
end BWP
namespace BWP
open PySem PySem.Spec PyProof.Rows L2
open LamX (Tabs ExtN TabB)
/-! ### the facts of the program's top, gathered -/
section
variable {K : PySem.W.Frag} {h : Heap} {mg : Str → Option Value} {x n q : Str} {st : Stmt} {ps fs : List Str} {f C a : Addr} {oc kV doc pm cdv ct : Value} {od an : Option Addr} {osl : Array (Option Value)}
theorem glb_mk (X : K.In h) (G : h.Ns mainGlobals mg)
    (a : PySem.W.nsIn K mainGlobals x = some (some (.ref f))) (l : K.lookup f = some ⟨oc, od, .func (PySem.W.fnOf x x (defArgs st) (defBody st) (defScope st) .none kV doc pm an cdv ct), osl⟩) (c : PySem.W.codeIn K cdv x = true) (k : PySem.W.keepIn K (.ref f) = true)
    (hb : ∀ (kV doc pm : Value) (an : Option Addr) (cdv ct : Value) (us : List Value), us.length = ps.length → bindArgs (PySem.W.fnOf x x (defArgs st) (defBody st) (defScope st) .none kV doc pm an cdv ct) ⟨us, []⟩ = pure (ps.zip us)) :
    Glb K mg x st ps ⟨f, PySem.W.fnOf x x (defArgs st) (defBody st) (defScope st) .none kV doc pm an cdv ct⟩ :=
  ⟨PySem.W.mg_of X G a, fun_mk l c k, (fun_mk l c k).binds hb⟩
theorem mth_mk (m : PySem.W.findIn K (.ref C) n = some (some (.ref f))) (fn : PySem.W.isFn K (.ref f) = true) (k : PySem.W.keepIn K (.ref f) = true)
    (l : K.lookup f = some ⟨oc, od, .func (PySem.W.fnOf n q (defArgs st) (defBody st) (defScope st) .none kV doc pm an cdv ct), osl⟩) (c : PySem.W.codeIn K cdv q = true)
    (hb : ∀ (kV doc pm : Value) (an : Option Addr) (cdv ct : Value) (us : List Value), us.length = ps.length → bindArgs (PySem.W.fnOf n q (defArgs st) (defBody st) (defScope st) .none kV doc pm an cdv ct) ⟨us, []⟩ = pure (ps.zip us)) :
    Mth K C n q st ps ⟨f, PySem.W.fnOf n q (defArgs st) (defBody st) (defScope st) .none kV doc pm an cdv ct⟩ :=
  ⟨⟨m, fn, k⟩, fun_mk l c k, (fun_mk l c k).binds hb⟩
theorem rec_mk (X : K.In h) (G : h.Ns mainGlobals mg) (a : PySem.W.nsIn K mainGlobals x = some (some (.ref C))) (cl : Cls K C) (mk : PySem.W.makesIn K C = true) (kc : PySem.W.keepIn K (.ref C) = true)
    (m : PySem.W.findIn K (.ref C) "__init__" = some (some (.ref f))) (fn : PySem.W.isFn K (.ref f) = true) (k : PySem.W.keepIn K (.ref f) = true)
    (l : K.lookup f = some ⟨oc, od, .func (PySem.W.fnOf "__init__" q (defArgs st) (defBody st) (defScope st) .none kV doc pm an cdv ct), osl⟩) (c : PySem.W.codeIn K cdv q = true)
    (hb : ∀ (kV doc pm : Value) (an : Option Addr) (cdv ct : Value) (us : List Value), us.length = ps.length → bindArgs (PySem.W.fnOf "__init__" q (defArgs st) (defBody st) (defScope st) .none kV doc pm an cdv ct) ⟨us, []⟩ = pure (ps.zip us))
    (no : ∀ f ∈ fs, NoAttr K C f) : Rec K mg x q st ps fs C ⟨f, PySem.W.fnOf "__init__" q (defArgs st) (defBody st) (defScope st) .none kV doc pm an cdv ct⟩ :=
  ⟨PySem.W.mg_of X G a, cl, ⟨mk, m, fn, kc⟩, fun_mk l c k, (fun_mk l c k).binds hb, no⟩
theorem mth_of {x0 q0 : Str} {st0 : Stmt} {ps0 fs0 : List Str} {d0 : Dn} (r : Rec K mg x0 q0 st0 ps0 fs0 C d0) (m : PySem.W.findIn K (.ref C) n = some (some (.ref f))) (fn : PySem.W.isFn K (.ref f) = true) (k : PySem.W.keepIn K (.ref f) = true)
    (l : K.lookup f = some ⟨oc, od, .func (PySem.W.fnOf n q (defArgs st) (defBody st) (defScope st) .none kV doc pm an cdv ct), osl⟩) (c : PySem.W.codeIn K cdv q = true)
    (hb : ∀ (kV doc pm : Value) (an : Option Addr) (cdv ct : Value) (us : List Value), us.length = ps.length → bindArgs (PySem.W.fnOf n q (defArgs st) (defBody st) (defScope st) .none kV doc pm an cdv ct) ⟨us, []⟩ = pure (ps.zip us)) :
    Mth K C n q st ps ⟨f, PySem.W.fnOf n q (defArgs st) (defBody st) (defScope st) .none kV doc pm an cdv ct⟩ := mth_mk m fn k l c hb
theorem cst_int {i : Int} {t : Tok} (X : K.In h) (G : h.Ns mainGlobals mg) (a : PySem.W.nsIn K mainGlobals x = some (some (.int i t))) : Cst mg x (.int i) := ⟨_, PySem.W.mg_of X G a, t, rfl⟩
theorem cst_str {i : Str} {t : Tok} (X : K.In h) (G : h.Ns mainGlobals mg) (a : PySem.W.nsIn K mainGlobals x = some (some (.str i t))) : Cst mg x (.str i) := ⟨_, PySem.W.mg_of X G a, t, rfl⟩
theorem cst_ref (X : K.In h) (G : h.Ns mainGlobals mg) (e : PySem.W.nsIn K mainGlobals x = some (some (.ref a))) : Cst mg x (.ref a) := ⟨_, PySem.W.mg_of X G e, rfl⟩
theorem sqT_mk {its : Array Value} {m : Nat} {xs : List V} (l : K.lookup a = some ⟨.type "tuple", od, .seq its m, osl⟩) (hs : its.size ≤ sizeLine) (hv : Vals xs its.toList) : ∀ H, SqT K H a xs := fun H => .inr ⟨_, its, m, l, rfl, rfl, hs, hv⟩
theorem tup_mk {its : Array Value} {m : Nat} {xs : List V} (X : K.In h) (G : h.Ns mainGlobals mg) (e : PySem.W.nsIn K mainGlobals x = some (some (.ref a))) (l : K.lookup a = some ⟨.type "tuple", od, .seq its m, osl⟩) (hs : its.size ≤ sizeLine) (hv : Vals xs its.toList) : Cst mg x (.ref a) ∧ ∀ H, SqT K H a xs := ⟨cst_ref X G e, sqT_mk l hs hv⟩
theorem dict_mk {es : Array DictEntry} {m : Nat} {g : Int → Option V} (X : K.In h) (G : h.Ns mainGlobals mg) (e : PySem.W.nsIn K mainGlobals x = some (some (.ref a))) (l : K.lookup a = some ⟨.type "dict", none, .dict es m, #[]⟩) (h1 : ∀ e ∈ es, ∃ k t, e.key = .int k t ∧ e.hash = hashInt k) (h2 : (a == sysModules) = false) (h3 : ∀ k, RelO (g k) (findBy keyIs es (.inl k))) : Cst mg x (.ref a) ∧ IDict K a g := ⟨cst_ref X G e, es, m, l, h1, h2, h3⟩
theorem tab_mk (X : K.In h) {vs : Array Value} {c P : Addr} {oc' : Value} {od' : Option Addr} {osl' : Array (Option Value)} {fd : FuncData} (e : PySem.W.nsIn K mainGlobals x = some (some (.ref f))) (l : K.lookup f = some ⟨oc, od, .func fd, osl⟩) (hc : fd.code = .ref c) (lc : K.lookup c = some ⟨oc', od', .fields vs, osl'⟩) (hv : vs[11]? = some (.ref P)) : PySem.W.tabIn K x = some (c, P) := by
  unfold PySem.W.tabIn
  rw [e]; simp only []
  rw [l]; simp only [hc]
  rw [lc]; simp only [hv]
/-- the four signs, as the top has them -/
def signE (t1 t2 t3 t4 u1 u2 u3 u4 : Tok) : Array DictEntry := #[{ hash := 44, key := .int 44 t1, val := .str "," u1 }, { hash := 58, key := .int 58 t2, val := .str ":" u2 }, { hash := 59, key := .int 59 t3, val := .str ";" u3 }, { hash := 45, key := .int 45 t4, val := .str "-" u4 }]
theorem sign_keys {t1 t2 t3 t4 u1 u2 u3 u4 : Tok} : ∀ e ∈ signE t1 t2 t3 t4 u1 u2 u3 u4, ∃ k t, e.key = .int k t ∧ e.hash = hashInt k := by
  intro e he
  unfold signE at he
  simp only [List.mem_toArray, List.mem_cons, List.not_mem_nil, or_false] at he
  rcases he with rfl | rfl | rfl | rfl
  · exact ⟨44, t1, rfl, (show (44 : Int) = hashInt 44 by decide +kernel)⟩
  · exact ⟨58, t2, rfl, (show (58 : Int) = hashInt 58 by decide +kernel)⟩
  · exact ⟨59, t3, rfl, (show (59 : Int) = hashInt 59 by decide +kernel)⟩
  · exact ⟨45, t4, rfl, (show (45 : Int) = hashInt 45 by decide +kernel)⟩
theorem sign_find {t1 t2 t3 t4 u1 u2 u3 u4 : Tok} : ∀ k, RelO (sgF k) (findBy keyIs (signE t1 t2 t3 t4 u1 u2 u3 u4) (.inl k)) := by
  intro k
  unfold findBy signE sgF
  simp only [List.find?_toArray, List.find?_cons, keyIs, Value.isInt]
  by_cases a : k = 44
  · subst a; exact ⟨_, rfl⟩
  by_cases b : k = 58
  · subst b; exact ⟨_, rfl⟩
  by_cases c : k = 59
  · subst c; exact ⟨_, rfl⟩
  by_cases d : k = 45
  · subst d; exact ⟨_, rfl⟩
  have n : ∀ i : Int, ¬ k = i → (i == k) = false := fun i h => by simpa using fun z : i = k => h z.symm
  rw [if_neg a, if_neg b, if_neg c, if_neg d]
  simp only [n _ a, n _ b, n _ c, n _ d]
  trivial
theorem exm_mk {S : Addr} (h1 : PySem.W.subIn K (.ref S) (.type "BaseException") = some true) (h2 : PySem.W.isClsIn K S = true) (h3 : PySem.W.typeIn K (.ref S) = some (.type "type")) (h4 : PySem.W.subIn K (.ref S) (.ref S) = some true) : PySem.W.exmOne K (.ref S) (.ref S) = some true := by
  have e2 : ((PySem.W.clsIn K S).isSome && PySem.W.typeIn K (.ref S) == some (.type "type")) = true := by
    rw [h3]
    have h2' : (PySem.W.clsIn K S).isSome = true := h2
    rw [h2']; rfl
  unfold PySem.W.exmOne
  rw [h1]
  simp only [beq_self_eq_true, if_true]
  show (if ((PySem.W.clsIn K S).isSome && PySem.W.typeIn K (.ref S) == some (.type "type")) = true then PySem.W.subIn K (.ref S) (.ref S) else none) = some true
  rw [if_pos e2]
  exact h4
theorem fault_mk {nm qn : Str} {N : Addr} {bs : List Value} {bm : List Value} {sn : List Str} {sub : List Value} {ab : Bool} {col : Option Bool} {dd : Option Addr} {k0 k1 k2 k3 k5 : Option Value} (X : K.In h) (G : h.Ns mainGlobals mg) (a : PySem.W.nsIn K mainGlobals "Fault" = some (some (.ref C)))
    (xL : K.lookup C = some (excClassObj nm qn C N bs bm true sn sub ab col dd k0 k1 k2 k3 k5 "ValueError.__new__")) (rv : PySem.HandSPX.refsVE bm = true) (sa : PySem.W.findIn K (.ref C) "__setattr__" = some (some (.builtin "object.__setattr__")))
    (exC : PySem.W.subIn K (.ref C) (.type "BaseException") = some true) (tyC : PySem.W.typeIn K (.ref C) = some (.type "type")) (kC : PySem.W.keepIn K (.ref C) = true)
    (ga : PySem.W.findIn K (.ref C) "__getattribute__" = some (some (.builtin "BaseException.__getattribute__"))) (gg : PySem.W.findIn K (.ref C) "__getattr__" = some none) (hdC : PySem.W.hasDictIn K C = true)
    (i : PySem.W.findIn K (.ref C) "__init__" = some (some (.ref f))) (t : PySem.W.typeIn K (.ref f) = some (.type "function")) (l : K.lookup f = some ⟨oc, od, .func (PySem.W.fnOf "__init__" "Fault.__init__" (defArgs s_FaultI) (defBody s_FaultI) (defScope s_FaultI) .none kV doc pm an cdv ct), osl⟩)
    (c : PySem.W.codeIn K cdv "Fault.__init__" = true) (kf : PySem.W.keepIn K (.ref f) = true) (nC : PySem.W.findIn K (.ref C) "code" = some none) (nP : PySem.W.findIn K (.ref C) "place" = some none) (ve : PySem.W.nsIn K mainGlobals "ValueError" = some none)
    (vi : PySem.W.findCls K (.type "ValueError") (.type "type") "__init__" = some (.val (.builtin "ValueError.__init__"))) (isC : PySem.W.isClsIn K C = true) (sC : PySem.W.subIn K (.ref C) (.ref C) = some true) :
    FaultT K mg C ⟨f, PySem.W.fnOf "__init__" "Fault.__init__" (defArgs s_FaultI) (defBody s_FaultI) (defScope s_FaultI) .none kV doc pm an cdv ct⟩ :=
  { g := PySem.W.mg_of X G a, ox := ⟨⟨nm, qn, N, bs, bm, sn, sub, ab, col, dd, k0, k1, k2, k3, k5, xL, rv⟩, sa, exC, tyC, kC⟩, xf := ⟨ga, gg, exC, hdC⟩, i := i, t := t, F := fun_mk l c kf, b := (fun_mk l c kf).binds fun _ _ _ _ _ _ us hl => match us, hl with | [_, _, _], _ => rfl,
    nC := nC, nP := nP, ve := PySem.W.mg_none_of X G ve, vi := vi, te := exm_mk exC isC tyC sC }
end
end BWP
namespace BWP
open PySem PySem.Spec PyProof.Rows L2
open LamX (Tabs ExtN TabB)
/-- all that the program's top says -/
structure AllM (K : PySem.W.Frag) (mg : Str → Option Value) (base : Heap) (T : List (Addr × Str)) (CF CT CR CM CC CW CS aB aW aS aH cJ PJ cW PW : Addr)
    (dF dK dSplit dSkip dEnd dAt dName dKind dNum dLet dDig dRI dRS dRT dV dRow dRows dMea dRef dAdd dR dC dI dS dWo dG dL dE dPE dP dJ dLL dAll dMB dBe dUn dQ dNQ dTold dIW dM dWi dSI mLoad mBound mBegin mLike mStill mAsk mBest mUndo mChange mHM mHI mNW mCon mCons mGV mGR mWin dAns dFN dHM dAC : Dn) : Prop where
  MT : TokM K mg CF CT dF dK dSplit dSkip dEnd dAt dName dKind dNum dLet dDig aB aW aS
  ML : LstM K mg CR CT CF dRI dRS dRT dK dF dV dRow dRows dMea dRef dAdd
  gR : Glb K mg "read_list" s_readList ["text"] dR
  cMB : Cst mg "MOST_BYTES" (.int 4096)
  cTL : Cst mg "TOO_LONG" (.int 1)
  SM : ShM K mg CC dC dI dS dWo dG dL dE
  gPE : Glb K mg "piece_end" s_pieceEnd ["contenders", "winner", "last"] dPE
  gPW : Glb K mg "piece_winners" s_pWinners ["contenders", "left"] dP
  gJ : Glb K mg "best_just_above" s_justAbove ["contenders", "share"] dJ
  LJ : LamF mg base T "best_just_above.<locals>.<lambda>" dJ cJ PJ
  LW : LamF mg base T "piece_winners.<locals>.<lambda>" dP cW PW
  gLL : Glb K mg "left_when_liked" s_leftL ["left", "liked", "other"] dLL
  gAll : Glb K mg "all_shares" s_allSh [] dAll
  gMB : Glb K mg "may_be_best" s_mayBe ["contender", "contenders", "left"] dMB
  gBe : Glb K mg "beats" s_beats ["row", "other"] dBe
  gUn : Glb K mg "is_unbeaten" s_isUnb ["row", "rows"] dUn
  gQ : Glb K mg "questions_needed" s_qNeeded ["pieces"] dQ
  gNQ : Glb K mg "next_question" s_nextQ ["winners"] dNQ
  gTold : Glb K mg "told_shares" s_told ["left"] dTold
  gIW : Glb K mg "is_within" s_isWithin ["row", "bounds"] dIW
  M : SesC K mg CS CM CW dM dWi
  TS : Rec K mg "Session" "Session.__init__" s_SesI ["self"] ["held", "wishes", "before"] CS dSI
  load : Mth K CS "load" "Session.load" s_load ["self", "text"] mLoad
  bound : Mth K CS "bound" "Session.bound" s_bound ["self", "measure", "low", "high"] mBound
  begin_ : Mth K CS "begin" "Session.begin" s_begin ["self", "first", "second"] mBegin
  like : Mth K CS "like" "Session.like" s_like ["self", "liked", "other"] mLike
  still : Mth K CS "still" "Session.still" s_still ["self"] mStill
  ask : Mth K CS "ask" "Session.ask" s_ask ["self"] mAsk
  best : Mth K CS "best" "Session.best" s_best ["self"] mBest
  undo : Mth K CS "undo" "Session.undo" s_undo ["self"] mUndo
  change : Mth K CS "change" "Session.change" s_change ["self", "wishes"] mChange
  hm : Mth K CS "has_measure" "Session.has_measure" s_hasMeas ["self", "measure"] mHM
  hi : Mth K CS "has_item" "Session.has_item" s_hasItem ["self", "item"] mHI
  nw : Mth K CS "numbers_within" "Session.numbers_within" s_numsW ["self"] mNW
  con : Mth K CS "contender" "Session.contender" s_cont ["self", "item"] mCon
  cons : Mth K CS "contenders" "Session.contenders" s_conts ["self"] mCons
  gv : Mth K CS "good_value" "Session.good_value" s_goodV ["self", "item", "measure"] mGV
  gr : Mth K CS "good_row" "Session.good_row" s_goodR ["self", "item"] mGR
  win : Mth K CS "winners" "Session.winners" s_winners ["self"] mWin
  gAns : Glb K mg "answers" s_answers ["calls"] dAns
  gFN : Glb K mg "first_number" s_firstN ["calls", "place"] dFN
  gHM : Glb K mg "how_many_numbers" s_howMany ["calls", "place"] dHM
  gAC : Glb K mg "answer_call" s_ansCall ["session", "call", "numbers"] dAC
  tHM : Cst mg "HOW_MANY" (.ref aH) ∧ ∀ H, SqT K H aH HOWM
  c0 : Cst mg "LOAD" (.int 0)
  c1 : Cst mg "BOUND" (.int 1)
  c2 : Cst mg "BEGIN" (.int 2)
  c3 : Cst mg "LIKE" (.int 3)
  c4 : Cst mg "STILL" (.int 4)
  c5 : Cst mg "ASK" (.int 5)
  c6 : Cst mg "BEST" (.int 6)
  cN : Cst mg "NO_LIST" (.int (-1))
  e2 : Cst mg "NO_SUCH_ITEM" (.int (-2))
  e3 : Cst mg "NO_SUCH_MEASURE" (.int (-3))
  e4 : Cst mg "WRONG_BOUNDS" (.int (-4))
  e5 : Cst mg "NONE_TAKEN" (.int (-5))
  e6 : Cst mg "NO_SHARE_LEFT" (.int (-6))
  e8 : Cst mg "NO_CHANGE_HELD" (.int (-8))
  cLo : Cst mg "LOWEST_BOUND" (.int (-1000))
  cHi : Cst mg "HIGHEST_BOUND" (.int 1000)
  cMC : Cst mg "MOST_CHANGES" (.int 20)
  nmax : mg "max" = none
  nall : mg "all" = none
  nany : mg "any" = none
  nzip : mg "zip" = none
  nenum : mg "enumerate" = none
  nlist : mg "list" = none
  nrange : mg "range" = none
  nM : CM ≠ CS
  nW : CW ≠ CS
theorem all_ok {P : Program} {w : World} {K : PySem.W.Frag} {mg : Str → Option Value} {base : Heap} {T : List (Addr × Str)} {CF CT CR CM CC CW CS aB aW aS aH cJ PJ cW PW : Addr}
    {dF dK dSplit dSkip dEnd dAt dName dKind dNum dLet dDig dRI dRS dRT dV dRow dRows dMea dRef dAdd dR dC dI dS dWo dG dL dE dPE dP dJ dLL dAll dMB dBe dUn dQ dNQ dTold dIW dM dWi dSI mLoad mBound mBegin mLike mStill mAsk mBest mUndo mChange mHM mHI mNW mCon mCons mGV mGR mWin dAns dFN dHM dAC : Dn}
    (A : AllM K mg base T CF CT CR CM CC CW CS aB aW aS aH cJ PJ cW PW dF dK dSplit dSkip dEnd dAt dName dKind dNum dLet dDig dRI dRS dRT dV dRow dRows dMea dRef dAdd dR dC dI dS dWo dG dL dE dPE dP dJ dLL dAll dMB dBe dUn dQ dNQ dTold dIW dM dWi dSI mLoad mBound mBegin mLike mStill mAsk mBest mUndo mChange mHM mHI mNW mCon mCons mGV mGR mWin dAns dFN dHM dAC) :
    FnOk P w K mg base CX0 12 dAns.a dAns.fd ["calls"] (spAns K T) := by
  have M := A.M
  have FR : FnOk P w K mg base (L2.CX P w) 7 dR.a dR.fd ["text"] (spReadList K CM CF) := ok_readList A.gR M.ML A.MT A.ML A.cMB A.cTL
  have FL : FnOk P w K mg base CX0 8 mLoad.a mLoad.fd ["self", "text"] (spLoad K CS CM CW) := ok_load A.load M A.gR FR A.MT.F A.cLo A.cHi A.nM A.nW
  have FN : FnOk P w K mg base CX0 2 mNW.a mNW.fd ["self"] (spNumsW K CS CM CW) := ok_numsW A.nw M A.gIW A.nall A.nzip A.nenum
  have FK : FnOk P w K mg base CX0 3 mCon.a mCon.fd ["self", "item"] (spCont K CS CM CW CC) := ok_cont A.con M A.SM.T A.gv
  have FCs : FnOk P w K mg base CX0 4 mCons.a mCons.fd ["self"] (spConts K CS CM CW CC) := ok_conts A.cons M A.nw A.con FN FK
  have FP : FnOk P w K mg base CX0 5 dP.a dP.fd ["contenders", "left"] (spWin K CC T) := ok_pWinners A.gPW A.LW A.gJ A.LJ A.gPE A.SM A.nmax M.len
  have FWn : FnOk P w K mg base CX0 6 mWin.a mWin.fd ["self"] (spWinners K CS CM CW T) := ok_winners A.win M A.cons A.gPW FCs FP
  have FC : FnOk P w K mg base CX0 1 mChange.a mChange.fd ["self", "wishes"] (spChange K CS CM CW) := ok_change A.change M A.cMC A.nM A.nW
  have FLL : FnOk P w K mg base CX0 4 dLL.a dLL.fd ["left", "liked", "other"] (spLeftL K CC) := ok_leftL A.gLL A.SM
  have FMB : FnOk P w K mg base CX0 5 dMB.a dMB.fd ["contender", "contenders", "left"] (spMayBe K CC) := ok_mayBe A.gMB A.gLL FLL
  have FT : FnOk P w K mg base CX0 1 dTold.a dTold.fd ["left"] (spTold K) := ok_told A.gTold A.nlist
  have FQ : FnOk P w K mg base CX0 1 dQ.a dQ.fd ["pieces"] spQ := ok_qNeeded A.gQ
  have FNQ : FnOk P w K mg base CX0 1 dNQ.a dNQ.fd ["winners"] (spNextQ K) := ok_nextQ A.gNQ M.len A.nlist
  have FU : FnOk P w K mg base CX0 2 dUn.a dUn.fd ["row", "rows"] (spUnb K) := ok_isUnb A.gUn A.gBe A.nall A.nzip A.nany
  have FGR : FnOk P w K mg base CX0 2 mGR.a mGR.fd ["self", "item"] (spGoodR CS CM) := ok_goodR A.gr M A.nrange A.gv
  have CMm : CallM P w K mg base CS CM CW T mLoad mBound mBegin mLike mStill mAsk mBest mUndo :=
    { load := A.load, Fload := FL, bound := A.bound, Fbound := ok_bound A.bound M A.e3 A.e4 A.cLo A.cHi A.nlist A.nM A.nW A.nw FN A.hm A.change FC
      begin_ := A.begin_, Fbegin := ok_begin A.begin_ M A.e3 A.nM A.nW A.win FWn A.gAll A.hm A.change FC
      like := A.like, Flike := ok_like A.like M A.e5 A.e2 A.e6 A.nM A.nW A.win FWn A.con FK A.hi A.change FC A.gLL FLL A.gTold FT
      still := A.still, Fstill := ok_still A.still M A.e5 A.nM A.nW A.SM.T A.cons FCs A.gMB FMB A.gTold FT
      ask := A.ask, Fask := ok_ask A.ask M A.e5 A.nM A.nW A.win FWn A.gQ FQ A.gNQ FNQ
      best := A.best, Fbest := ok_best A.best M A.nzip A.nM A.nW A.nw FN A.gr FGR A.gUn FU
      undo := A.undo, Fundo := ok_undo A.undo M A.e8 A.nM A.nW A.nw FN }
  have FAC : FnOk P w K mg base CX0 11 dAC.a dAC.fd ["session", "call", "numbers"] (spCall K CS T (Rep K CS CM CW)) := ok_ansCall A.gAC M CMm A.nM A.nW A.c0 A.c1 A.c2 A.c3 A.c4 A.c5 A.c6 A.cN
  have FSI : FnOk P w K mg base CX0 1 dSI.a dSI.fd ["self"] (spSesI CS (Rep K CS CM CW)) := ok_SesI A.TS
  have FFN : FnOk P w K mg base CX0 1 dFN.a dFN.fd ["calls", "place"] (spFirstN K) := ok_firstN A.gFN A.c0
  have FHM : FnOk P w K mg base CX0 1 dHM.a dHM.fd ["calls", "place"] (spHowM K) := ok_howMany A.gHM A.c0 A.tHM.1 A.tHM.2
  exact ok_answers A.gAns A.TS FSI A.gFN FFN A.gHM FHM A.gAC FAC M.len (fun H H' x ow o s r => Rep.same A.nM A.nW s r) (fun H x ow o t od xs od2 ys ht r => Rep.frz A.nM A.nW ht r) (fun H x ow o r => Rep.lst r)
end BWP
namespace BWP
open PySem PySem.Spec PyProof.Rows L2
open LamX (Tabs ExtN TabB)
open PySem.W (Codec)
abbrev TT (PJ PW : Addr) : List (Addr × Str) := [(PJ, "best_just_above.<locals>.<lambda>"), (PW, "piece_winners.<locals>.<lambda>")]
theorem lam_mk {mg : Str → Option Value} {base : Heap} {PJ PW cJ cW : Addr} {dJ dP : Dn} (ne : PJ ≠ PW) (kJ : dJ.fd.code = .ref cJ) (kW : dP.fd.code = .ref cW) (tJ : TabB base mg cJ PJ) (tW : TabB base mg cW PW) :
    LamF mg base (TT PJ PW) "best_just_above.<locals>.<lambda>" dJ cJ PJ ∧ LamF mg base (TT PJ PW) "piece_winners.<locals>.<lambda>" dP cW PW := by
  refine ⟨⟨tJ, kJ, by simp, fun p hp e => ?_⟩, ⟨tW, kW, by simp, fun p hp e => ?_⟩⟩
  · rcases List.mem_cons.mp hp with rfl | hp
    · rfl
    · rw [List.mem_singleton.mp hp] at e; exact absurd e.symm ne
  · rcases List.mem_cons.mp hp with rfl | hp
    · exact absurd e ne
    · rw [List.mem_singleton.mp hp]
/-- the goal of the end, from all facts -/
theorem fin {w : World} {K : PySem.W.Frag} {mg : Str → Option Value} {h : Heap} {fa : Addr} {PJ PW cJ cW : Addr} {CF CT CR CM CC CW CS aB aW aS aH : Addr}
    {dF dK dSplit dSkip dEnd dAt dName dKind dNum dLet dDig dRI dRS dRT dV dRow dRows dMea dRef dAdd dR dC dI dS dWo dG dL dE dPE dP dJ dLL dAll dMB dBe dUn dQ dNQ dTold dIW dM dWi dSI mLoad mBound mBegin mLike mStill mAsk mBest mUndo mChange mHM mHI mNW mCon mCons mGV mGR mWin dAns dFN dHM dAC : Dn}
    (hmg : mg "answers" = some (.ref fa)) (hbind : ∀ (s : Shared) (us : List Value), us.length = ["calls"].length → BindsTo s dAns.fd ⟨us, []⟩ ((["calls"] : List Str).zip us))
    (A : ∀ base, LamF mg base (TT PJ PW) "best_just_above.<locals>.<lambda>" dJ cJ PJ → LamF mg base (TT PJ PW) "piece_winners.<locals>.<lambda>" dP cW PW → AllM K mg base (TT PJ PW) CF CT CR CM CC CW CS aB aW aS aH cJ PJ cW PW dF dK dSplit dSkip dEnd dAt dName dKind dNum dLet dDig dRI dRS dRT dV dRow dRows dMea dRef dAdd dR dC dI dS dWo dG dL dE dPE dP dJ dLL dAll dMB dBe dUn dQ dNQ dTold dIW dM dWi dSI mLoad mBound mBegin mLike mStill mAsk mBest mUndo mChange mHM mHI mNW mCon mCons mGV mGR mWin dAns dFN dHM dAC)
    (gA : mg "answers" = some (.ref dAns.a)) (ne : PJ ≠ PW) (kJ : dJ.fd.code = .ref cJ) (kW : dP.fd.code = .ref cW) (hJ : PySem.W.CodeHd h cJ PJ ∧ h.get? PJ = some (PySem.W.tabObj #[])) (hW : PySem.W.CodeHd h cW PW ∧ h.get? PW = some (PySem.W.tabObj #[])) (lJ : K.lookup PJ = none) (lW : K.lookup PW = none) :
    ∃ (fd : FuncData) (cs : List (Addr × Addr)) (sp : Sp), (∀ p ∈ cs, h.get? p.2 = some (PySem.W.tabObj #[]) ∧ K.lookup p.2 = none ∧ PySem.W.CodeHd h p.1 p.2) ∧ (∀ (s : Shared) (us : List Value), us.length = ["calls"].length → BindsTo s fd ⟨us, []⟩ ((["calls"] : List Str).zip us)) ∧
        (∀ base : Heap, K.In base → base.Ns mainGlobals mg → (∀ p ∈ cs, TabB base mg p.1 p.2) → FnOk PySem.Challenge.rw_bestwishes_s01_answers.prog w K mg base L2.CX0 12 fa fd ["calls"] sp) ∧
        ∀ (H : Hp) (xs : List V) (a : Codec.denoteAll PySem.Challenge.rw_bestwishes_s01_answers.args), (∀ p ∈ cs, H p.2 = some (.tbl #[])) → Codec.withinAll PySem.Challenge.rw_bestwishes_s01_answers.args a = true → Codec.app PySem.Challenge.rw_bestwishes_s01_answers.args PySem.Challenge.rw_bestwishes_s01_answers.asked a = true → DwAll K H xs (Codec.encAll PySem.Challenge.rw_bestwishes_s01_answers.args a) →
          sp xs H (fun v H' => Dw K H' v (PySem.Challenge.rw_bestwishes_s01_answers.ret.enc (Codec.app PySem.Challenge.rw_bestwishes_s01_answers.args PySem.Challenge.rw_bestwishes_s01_answers.f a))) fun _ _ _ => False := by
  have e : Value.ref fa = .ref dAns.a := Option.some.inj (hmg.symm.trans gA)
  have e : fa = dAns.a := by cases e; rfl
  subst e
  refine ⟨dAns.fd, [(cJ, PJ), (cW, PW)], spAns K (TT PJ PW), fun p hp => ?_, hbind, fun base _ _ tb => ?_, fun H xs a hT hwi hask hx => ?_⟩
  · rcases List.mem_cons.mp hp with rfl | hp
    · exact ⟨hJ.2, lJ, hJ.1⟩
    · rw [List.mem_singleton.mp hp]; exact ⟨hW.2, lW, hW.1⟩
  · obtain ⟨LJ, LW⟩ := lam_mk (dJ := dJ) (dP := dP) ne kJ kW (tb (cJ, PJ) (by simp)) (tb (cW, PW) (by simp))
    exact all_ok (A base LJ LW)
  · have tabs : Tabs (TT PJ PW) H := fun p hp => by
      rcases List.mem_cons.mp hp with rfl | hp
      · exact LamX.TabS.nil (hT (cJ, PJ) (by simp))
      · rw [List.mem_singleton.mp hp]; exact LamX.TabS.nil (hT (cW, PW) (by simp))
    cases hx with
    | cons h1 h2 =>
      cases h2
      cases h1 with
      | lst hs ha =>
        have e := L2.ints_dw a.1 _ ha
        subst e
        exact ⟨_, a.1, rfl, hs, hask, tabs, fun p H' hp => .lst (L2.SqL.of hp) (L2.dw_ints _)⟩
end BWP
open PySem PySem.W PyProof.Rows
set_option maxRecDepth 100000 in
set_option maxHeartbeats 0 in
theorem PySem.Challenge.cw_bestwishes_s01_answers_holds : PySem.Challenge.rw_bestwishes_s01_answers.Holds := by
  w_on; k_headS; (case hw => exact ⟨[.list [.int 4]], by decide +kernel, by decide +kernel⟩)
  k_fillS
  refine BWX.walk_specT (r := PySem.Challenge.rw_bestwishes_s01_answers) (k := 12) (CX := L2.CX0) (ps := ["calls"]) (by decide +kernel) rfl rfl ⟨rfl, by decide, by decide⟩ (fun w h Y => PySem.W.kIn_of Y) ?F (fun _ _ _ _ z => z)
  case F =>
    intro w mg mb fa h mean Y KX TP hmg
    have G := TP.g
    have r_Token := BWP.rec_mk (x := "Token") (q := "Token.__init__") (st := BWP.s_TokenI) (ps := ["self", "kind", "place", "behind", "value"]) (fs := ["kind", "place", "behind", "value"]) KX G (by k_is) ⟨by k_is, by k_is, by k_is, by k_is⟩ (by k_is) (by k_is) (by k_is) (by k_is) (by k_is) (by k_is) (by k_is) (fun _ _ _ _ _ _ us hl => match us, hl with | [_, _, _, _, _], _ => rfl) (List.forall_mem_cons.mpr ⟨show PySem.W.findIn _ (.ref _) "kind" = some none by k_is, (List.forall_mem_cons.mpr ⟨show PySem.W.findIn _ (.ref _) "place" = some none by k_is, (List.forall_mem_cons.mpr ⟨show PySem.W.findIn _ (.ref _) "behind" = some none by k_is, (List.forall_mem_cons.mpr ⟨show PySem.W.findIn _ (.ref _) "value" = some none by k_is, (fun _ z => nomatch z)⟩)⟩)⟩)⟩)
    have g_split_tokens := BWP.glb_mk (x := "split_tokens") (st := BWP.s_split) (ps := ["text"]) KX G (by k_is) (by k_is) (by k_is) (by k_is) (fun _ _ _ _ _ _ us hl => match us, hl with | [_], _ => rfl)
    have g_skip_blanks := BWP.glb_mk (x := "skip_blanks") (st := BWP.s_skip) (ps := ["text", "place"]) KX G (by k_is) (by k_is) (by k_is) (by k_is) (fun _ _ _ _ _ _ us hl => match us, hl with | [_, _], _ => rfl)
    have g_line_end := BWP.glb_mk (x := "line_end") (st := BWP.s_lineEnd) (ps := ["text", "place"]) KX G (by k_is) (by k_is) (by k_is) (by k_is) (fun _ _ _ _ _ _ us hl => match us, hl with | [_, _], _ => rfl)
    have g_token_at := BWP.glb_mk (x := "token_at") (st := BWP.s_tokenAt) (ps := ["text", "place"]) KX G (by k_is) (by k_is) (by k_is) (by k_is) (fun _ _ _ _ _ _ us hl => match us, hl with | [_, _], _ => rfl)
    have g_name_at := BWP.glb_mk (x := "name_at") (st := BWP.s_nameAt) (ps := ["text", "place"]) KX G (by k_is) (by k_is) (by k_is) (by k_is) (fun _ _ _ _ _ _ us hl => match us, hl with | [_, _], _ => rfl)
    have g_kind_of_name := BWP.glb_mk (x := "kind_of_name") (st := BWP.s_kindOf) (ps := ["name"]) KX G (by k_is) (by k_is) (by k_is) (by k_is) (fun _ _ _ _ _ _ us hl => match us, hl with | [_], _ => rfl)
    have g_number_at := BWP.glb_mk (x := "number_at") (st := BWP.s_numberAt) (ps := ["text", "place"]) KX G (by k_is) (by k_is) (by k_is) (by k_is) (fun _ _ _ _ _ _ us hl => match us, hl with | [_, _], _ => rfl)
    have g_is_letter := BWP.glb_mk (x := "is_letter") (st := BWP.s_isLetter) (ps := ["byte"]) KX G (by k_is) (by k_is) (by k_is) (by k_is) (fun _ _ _ _ _ _ us hl => match us, hl with | [_], _ => rfl)
    have g_is_digit := BWP.glb_mk (x := "is_digit") (st := BWP.s_isDigit) (ps := ["byte"]) KX G (by k_is) (by k_is) (by k_is) (by k_is) (fun _ _ _ _ _ _ us hl => match us, hl with | [_], _ => rfl)
    have n_len := PySem.W.mg_none_of (n := "len") KX G (by k_is)
    have n_ord := PySem.W.mg_none_of (n := "ord") KX G (by k_is)
    have c_LINE_END := BWP.cst_int (x := "LINE_END") (i := 10) KX G (by k_is)
    have c_REMARK := BWP.cst_int (x := "REMARK") (i := 35) KX G (by k_is)
    have t_BLANKS := BWP.tup_mk (x := "BLANKS") (xs := [.int 32, .int 9, .int 10]) KX G (by k_is) (by k_is) (by decide) (by repeat (first | exact .nil | refine .cons ⟨_, rfl⟩ ?_))
    have t_WORDS := BWP.tup_mk (x := "WORDS") (xs := [.str "measures", .str "up", .str "down", .str "item"]) KX G (by k_is) (by k_is) (by decide) (by repeat (first | exact .nil | refine .cons ⟨_, rfl⟩ ?_))
    have t_SIGNS := BWP.dict_mk (x := "SIGNS") (g := BWP.sgF) KX G (by k_is) (by k_is) BWP.sign_keys (by decide) BWP.sign_find
    have c_NAME := BWP.cst_str (x := "NAME") (i := "name") KX G (by k_is)
    have c_NUMBER := BWP.cst_str (x := "NUMBER") (i := "number") KX G (by k_is)
    have c_END := BWP.cst_str (x := "END") (i := "end") KX G (by k_is)
    have c_LONGEST_NAME := BWP.cst_int (x := "LONGEST_NAME") (i := 16) KX G (by k_is)
    have c_GREATEST_NUMBER := BWP.cst_int (x := "GREATEST_NUMBER") (i := 1000000000) KX G (by k_is)
    have c_NO_TOKEN := BWP.cst_int (x := "NO_TOKEN") (i := 2) KX G (by k_is)
    have f_Fault := BWP.fault_mk KX G (by k_is) (by k_is) (by decide +kernel) (by k_is) (by k_is) (by k_is) (by k_is) (by k_is) (by k_is) (by k_is) (by k_is) (by k_is) (by k_is) (by k_is) (by k_is) (by k_is) (by k_is) (by k_is) (by k_is) (by k_is) (by first | rfl | k_is)
    have MT := BWP.TokM.mk f_Fault r_Token g_split_tokens g_skip_blanks g_line_end g_token_at g_name_at g_kind_of_name g_number_at g_is_letter g_is_digit n_len n_ord c_LINE_END c_REMARK t_BLANKS.1 t_BLANKS.2 t_WORDS.1 t_WORDS.2 t_SIGNS.1 t_SIGNS.2 c_NAME c_NUMBER c_END c_LONGEST_NAME c_GREATEST_NUMBER c_NO_TOKEN
    have r_Reader := BWP.rec_mk (x := "Reader") (q := "Reader.__init__") (st := BWP.s_ReaderI) (ps := ["self", "tokens"]) (fs := ["tokens", "taken"]) KX G (by k_is) ⟨by k_is, by k_is, by k_is, by k_is⟩ (by k_is) (by k_is) (by k_is) (by k_is) (by k_is) (by k_is) (by k_is) (fun _ _ _ _ _ _ us hl => match us, hl with | [_, _], _ => rfl) (List.forall_mem_cons.mpr ⟨show PySem.W.findIn _ (.ref _) "tokens" = some none by k_is, (List.forall_mem_cons.mpr ⟨show PySem.W.findIn _ (.ref _) "taken" = some none by k_is, (fun _ z => nomatch z)⟩)⟩)
    have m_sees := BWP.mth_of (n := "sees") (q := "Reader.sees") (st := BWP.s_sees) (ps := ["self", "kind"]) r_Reader (by k_is) (by k_is) (by k_is) (by k_is) (by k_is) (fun _ _ _ _ _ _ us hl => match us, hl with | [_, _], _ => rfl)
    have m_take := BWP.mth_of (n := "take") (q := "Reader.take") (st := BWP.s_take) (ps := ["self", "kinds"]) r_Reader (by k_is) (by k_is) (by k_is) (by k_is) (by k_is) (fun _ _ _ _ _ _ us hl => match us, hl with | [_, _], _ => rfl)
    have g_read_value := BWP.glb_mk (x := "read_value") (st := BWP.s_value) (ps := ["reader"]) KX G (by k_is) (by k_is) (by k_is) (by k_is) (fun _ _ _ _ _ _ us hl => match us, hl with | [_], _ => rfl)
    have g_read_row := BWP.glb_mk (x := "read_row") (st := BWP.s_row) (ps := ["reader", "width"]) KX G (by k_is) (by k_is) (by k_is) (by k_is) (fun _ _ _ _ _ _ us hl => match us, hl with | [_, _], _ => rfl)
    have g_read_rows := BWP.glb_mk (x := "read_rows") (st := BWP.s_rows) (ps := ["reader", "width"]) KX G (by k_is) (by k_is) (by k_is) (by k_is) (fun _ _ _ _ _ _ us hl => match us, hl with | [_, _], _ => rfl)
    have g_read_measures := BWP.glb_mk (x := "read_measures") (st := BWP.s_measures) (ps := ["reader"]) KX G (by k_is) (by k_is) (by k_is) (by k_is) (fun _ _ _ _ _ _ us hl => match us, hl with | [_], _ => rfl)
    have g_refuse_too_many := BWP.glb_mk (x := "refuse_too_many") (st := BWP.s_refuse) (ps := ["names", "most", "token"]) KX G (by k_is) (by k_is) (by k_is) (by k_is) (fun _ _ _ _ _ _ us hl => match us, hl with | [_, _, _], _ => rfl)
    have g_add_name := BWP.glb_mk (x := "add_name") (st := BWP.s_addName) (ps := ["names", "token"]) KX G (by k_is) (by k_is) (by k_is) (by k_is) (fun _ _ _ _ _ _ us hl => match us, hl with | [_, _], _ => rfl)
    have c_NOT_ALLOWED := BWP.cst_int (x := "NOT_ALLOWED") (i := 3) KX G (by k_is)
    have c_TOO_MANY := BWP.cst_int (x := "TOO_MANY") (i := 4) KX G (by k_is)
    have c_SAME_NAME := BWP.cst_int (x := "SAME_NAME") (i := 5) KX G (by k_is)
    have c_TOO_GREAT := BWP.cst_int (x := "TOO_GREAT") (i := 7) KX G (by k_is)
    have c_MOST_MEASURES := BWP.cst_int (x := "MOST_MEASURES") (i := 4) KX G (by k_is)
    have c_MOST_ITEMS := BWP.cst_int (x := "MOST_ITEMS") (i := 16) KX G (by k_is)
    have c_GREATEST_VALUE := BWP.cst_int (x := "GREATEST_VALUE") (i := 1000) KX G (by k_is)
    have ML := BWP.LstM.mk (BWP.RdrT.mk r_Reader m_sees.m m_sees.F m_sees.b m_take.m m_take.F m_take.b) r_Token f_Fault g_read_value g_read_row g_read_rows g_read_measures g_refuse_too_many g_add_name n_len c_NOT_ALLOWED c_TOO_MANY c_SAME_NAME c_TOO_GREAT c_NAME c_NUMBER c_END c_MOST_MEASURES c_MOST_ITEMS c_GREATEST_VALUE
    have r_MeasuredList := BWP.rec_mk (x := "MeasuredList") (q := "MeasuredList.__init__") (st := BWP.s_MListI) (ps := ["self", "ways", "rows"]) (fs := ["ways", "rows"]) KX G (by k_is) ⟨by k_is, by k_is, by k_is, by k_is⟩ (by k_is) (by k_is) (by k_is) (by k_is) (by k_is) (by k_is) (by k_is) (fun _ _ _ _ _ _ us hl => match us, hl with | [_, _, _], _ => rfl) (List.forall_mem_cons.mpr ⟨show PySem.W.findIn _ (.ref _) "ways" = some none by k_is, (List.forall_mem_cons.mpr ⟨show PySem.W.findIn _ (.ref _) "rows" = some none by k_is, (fun _ z => nomatch z)⟩)⟩)
    have r_Contender := BWP.rec_mk (x := "Contender") (q := "Contender.__init__") (st := BWP.s_ContI) (ps := ["self", "number", "first", "second"]) (fs := ["number", "first", "second"]) KX G (by k_is) ⟨by k_is, by k_is, by k_is, by k_is⟩ (by k_is) (by k_is) (by k_is) (by k_is) (by k_is) (by k_is) (by k_is) (fun _ _ _ _ _ _ us hl => match us, hl with | [_, _, _, _], _ => rfl) (List.forall_mem_cons.mpr ⟨show PySem.W.findIn _ (.ref _) "number" = some none by k_is, (List.forall_mem_cons.mpr ⟨show PySem.W.findIn _ (.ref _) "first" = some none by k_is, (List.forall_mem_cons.mpr ⟨show PySem.W.findIn _ (.ref _) "second" = some none by k_is, (fun _ z => nomatch z)⟩)⟩)⟩)
    have r_Wishes := BWP.rec_mk (x := "Wishes") (q := "Wishes.__init__") (st := BWP.s_WishI) (ps := ["self", "bounds", "pair", "left"]) (fs := ["bounds", "pair", "left"]) KX G (by k_is) ⟨by k_is, by k_is, by k_is, by k_is⟩ (by k_is) (by k_is) (by k_is) (by k_is) (by k_is) (by k_is) (by k_is) (fun _ _ _ _ _ _ us hl => match us, hl with | [_, _, _, _], _ => rfl) (List.forall_mem_cons.mpr ⟨show PySem.W.findIn _ (.ref _) "bounds" = some none by k_is, (List.forall_mem_cons.mpr ⟨show PySem.W.findIn _ (.ref _) "pair" = some none by k_is, (List.forall_mem_cons.mpr ⟨show PySem.W.findIn _ (.ref _) "left" = some none by k_is, (fun _ z => nomatch z)⟩)⟩)⟩)
    have g_is_less := BWP.glb_mk (x := "is_less") (st := BWP.s_isLess) (ps := ["share", "other"]) KX G (by k_is) (by k_is) (by k_is) (by k_is) (fun _ _ _ _ _ _ us hl => match us, hl with | [_, _], _ => rfl)
    have g_slope := BWP.glb_mk (x := "slope") (st := BWP.s_slope) (ps := ["contender"]) KX G (by k_is) (by k_is) (by k_is) (by k_is) (fun _ _ _ _ _ _ us hl => match us, hl with | [_], _ => rfl)
    have g_worth := BWP.glb_mk (x := "worth") (st := BWP.s_worth) (ps := ["contender", "share"]) KX G (by k_is) (by k_is) (by k_is) (by k_is) (fun _ _ _ _ _ _ us hl => match us, hl with | [_, _], _ => rfl)
    have g_common_divisor := BWP.glb_mk (x := "common_divisor") (st := BWP.s_cdiv) (ps := ["one", "other"]) KX G (by k_is) (by k_is) (by k_is) (by k_is) (fun _ _ _ _ _ _ us hl => match us, hl with | [_, _], _ => rfl)
    have g_lowest_terms := BWP.glb_mk (x := "lowest_terms") (st := BWP.s_lowest) (ps := ["over", "under"]) KX G (by k_is) (by k_is) (by k_is) (by k_is) (fun _ _ _ _ _ _ us hl => match us, hl with | [_, _], _ => rfl)
    have g_even_share := BWP.glb_mk (x := "even_share") (st := BWP.s_even) (ps := ["one", "other"]) KX G (by k_is) (by k_is) (by k_is) (by k_is) (fun _ _ _ _ _ _ us hl => match us, hl with | [_, _], _ => rfl)
    have n_abs := PySem.W.mg_none_of (n := "abs") KX G (by k_is)
    have SM := BWP.ShM.mk r_Contender g_is_less g_slope g_worth g_common_divisor g_lowest_terms g_even_share n_abs
    have g_piece_end := BWP.glb_mk (x := "piece_end") (st := BWP.s_pieceEnd) (ps := ["contenders", "winner", "last"]) KX G (by k_is) (by k_is) (by k_is) (by k_is) (fun _ _ _ _ _ _ us hl => match us, hl with | [_, _, _], _ => rfl)
    have g_piece_winners := BWP.glb_mk (x := "piece_winners") (st := BWP.s_pWinners) (ps := ["contenders", "left"]) KX G (by k_is) (by k_is) (by k_is) (by k_is) (fun _ _ _ _ _ _ us hl => match us, hl with | [_, _], _ => rfl)
    have g_best_just_above := BWP.glb_mk (x := "best_just_above") (st := BWP.s_justAbove) (ps := ["contenders", "share"]) KX G (by k_is) (by k_is) (by k_is) (by k_is) (fun _ _ _ _ _ _ us hl => match us, hl with | [_, _], _ => rfl)
    have g_left_when_liked := BWP.glb_mk (x := "left_when_liked") (st := BWP.s_leftL) (ps := ["left", "liked", "other"]) KX G (by k_is) (by k_is) (by k_is) (by k_is) (fun _ _ _ _ _ _ us hl => match us, hl with | [_, _, _], _ => rfl)
    have g_all_shares := BWP.glb_mk (x := "all_shares") (st := BWP.s_allSh) (ps := []) KX G (by k_is) (by k_is) (by k_is) (by k_is) (fun _ _ _ _ _ _ us hl => match us, hl with | [], _ => rfl)
    have g_may_be_best := BWP.glb_mk (x := "may_be_best") (st := BWP.s_mayBe) (ps := ["contender", "contenders", "left"]) KX G (by k_is) (by k_is) (by k_is) (by k_is) (fun _ _ _ _ _ _ us hl => match us, hl with | [_, _, _], _ => rfl)
    have g_beats := BWP.glb_mk (x := "beats") (st := BWP.s_beats) (ps := ["row", "other"]) KX G (by k_is) (by k_is) (by k_is) (by k_is) (fun _ _ _ _ _ _ us hl => match us, hl with | [_, _], _ => rfl)
    have g_is_unbeaten := BWP.glb_mk (x := "is_unbeaten") (st := BWP.s_isUnb) (ps := ["row", "rows"]) KX G (by k_is) (by k_is) (by k_is) (by k_is) (fun _ _ _ _ _ _ us hl => match us, hl with | [_, _], _ => rfl)
    have g_questions_needed := BWP.glb_mk (x := "questions_needed") (st := BWP.s_qNeeded) (ps := ["pieces"]) KX G (by k_is) (by k_is) (by k_is) (by k_is) (fun _ _ _ _ _ _ us hl => match us, hl with | [_], _ => rfl)
    have g_next_question := BWP.glb_mk (x := "next_question") (st := BWP.s_nextQ) (ps := ["winners"]) KX G (by k_is) (by k_is) (by k_is) (by k_is) (fun _ _ _ _ _ _ us hl => match us, hl with | [_], _ => rfl)
    have g_told_shares := BWP.glb_mk (x := "told_shares") (st := BWP.s_told) (ps := ["left"]) KX G (by k_is) (by k_is) (by k_is) (by k_is) (fun _ _ _ _ _ _ us hl => match us, hl with | [_], _ => rfl)
    have g_is_within := BWP.glb_mk (x := "is_within") (st := BWP.s_isWithin) (ps := ["row", "bounds"]) KX G (by k_is) (by k_is) (by k_is) (by k_is) (fun _ _ _ _ _ _ us hl => match us, hl with | [_, _], _ => rfl)
    have n_max := PySem.W.mg_none_of (n := "max") KX G (by k_is)
    have n_all := PySem.W.mg_none_of (n := "all") KX G (by k_is)
    have n_any := PySem.W.mg_none_of (n := "any") KX G (by k_is)
    have n_zip := PySem.W.mg_none_of (n := "zip") KX G (by k_is)
    have n_enumerate := PySem.W.mg_none_of (n := "enumerate") KX G (by k_is)
    have n_list := PySem.W.mg_none_of (n := "list") KX G (by k_is)
    have n_range := PySem.W.mg_none_of (n := "range") KX G (by k_is)
    have r_Session := BWP.rec_mk (x := "Session") (q := "Session.__init__") (st := BWP.s_SesI) (ps := ["self"]) (fs := ["held", "wishes", "before"]) KX G (by k_is) ⟨by k_is, by k_is, by k_is, by k_is⟩ (by k_is) (by k_is) (by k_is) (by k_is) (by k_is) (by k_is) (by k_is) (fun _ _ _ _ _ _ us hl => match us, hl with | [_], _ => rfl) (List.forall_mem_cons.mpr ⟨show PySem.W.findIn _ (.ref _) "held" = some none by k_is, (List.forall_mem_cons.mpr ⟨show PySem.W.findIn _ (.ref _) "wishes" = some none by k_is, (List.forall_mem_cons.mpr ⟨show PySem.W.findIn _ (.ref _) "before" = some none by k_is, (fun _ z => nomatch z)⟩)⟩)⟩)
    have m_load := BWP.mth_of (n := "load") (q := "Session.load") (st := BWP.s_load) (ps := ["self", "text"]) r_Session (by k_is) (by k_is) (by k_is) (by k_is) (by k_is) (fun _ _ _ _ _ _ us hl => match us, hl with | [_, _], _ => rfl)
    have m_bound := BWP.mth_of (n := "bound") (q := "Session.bound") (st := BWP.s_bound) (ps := ["self", "measure", "low", "high"]) r_Session (by k_is) (by k_is) (by k_is) (by k_is) (by k_is) (fun _ _ _ _ _ _ us hl => match us, hl with | [_, _, _, _], _ => rfl)
    have m_begin := BWP.mth_of (n := "begin") (q := "Session.begin") (st := BWP.s_begin) (ps := ["self", "first", "second"]) r_Session (by k_is) (by k_is) (by k_is) (by k_is) (by k_is) (fun _ _ _ _ _ _ us hl => match us, hl with | [_, _, _], _ => rfl)
    have m_like := BWP.mth_of (n := "like") (q := "Session.like") (st := BWP.s_like) (ps := ["self", "liked", "other"]) r_Session (by k_is) (by k_is) (by k_is) (by k_is) (by k_is) (fun _ _ _ _ _ _ us hl => match us, hl with | [_, _, _], _ => rfl)
    have m_still := BWP.mth_of (n := "still") (q := "Session.still") (st := BWP.s_still) (ps := ["self"]) r_Session (by k_is) (by k_is) (by k_is) (by k_is) (by k_is) (fun _ _ _ _ _ _ us hl => match us, hl with | [_], _ => rfl)
    have m_ask := BWP.mth_of (n := "ask") (q := "Session.ask") (st := BWP.s_ask) (ps := ["self"]) r_Session (by k_is) (by k_is) (by k_is) (by k_is) (by k_is) (fun _ _ _ _ _ _ us hl => match us, hl with | [_], _ => rfl)
    have m_best := BWP.mth_of (n := "best") (q := "Session.best") (st := BWP.s_best) (ps := ["self"]) r_Session (by k_is) (by k_is) (by k_is) (by k_is) (by k_is) (fun _ _ _ _ _ _ us hl => match us, hl with | [_], _ => rfl)
    have m_undo := BWP.mth_of (n := "undo") (q := "Session.undo") (st := BWP.s_undo) (ps := ["self"]) r_Session (by k_is) (by k_is) (by k_is) (by k_is) (by k_is) (fun _ _ _ _ _ _ us hl => match us, hl with | [_], _ => rfl)
    have m_change := BWP.mth_of (n := "change") (q := "Session.change") (st := BWP.s_change) (ps := ["self", "wishes"]) r_Session (by k_is) (by k_is) (by k_is) (by k_is) (by k_is) (fun _ _ _ _ _ _ us hl => match us, hl with | [_, _], _ => rfl)
    have m_has_measure := BWP.mth_of (n := "has_measure") (q := "Session.has_measure") (st := BWP.s_hasMeas) (ps := ["self", "measure"]) r_Session (by k_is) (by k_is) (by k_is) (by k_is) (by k_is) (fun _ _ _ _ _ _ us hl => match us, hl with | [_, _], _ => rfl)
    have m_has_item := BWP.mth_of (n := "has_item") (q := "Session.has_item") (st := BWP.s_hasItem) (ps := ["self", "item"]) r_Session (by k_is) (by k_is) (by k_is) (by k_is) (by k_is) (fun _ _ _ _ _ _ us hl => match us, hl with | [_, _], _ => rfl)
    have m_numbers_within := BWP.mth_of (n := "numbers_within") (q := "Session.numbers_within") (st := BWP.s_numsW) (ps := ["self"]) r_Session (by k_is) (by k_is) (by k_is) (by k_is) (by k_is) (fun _ _ _ _ _ _ us hl => match us, hl with | [_], _ => rfl)
    have m_contender := BWP.mth_of (n := "contender") (q := "Session.contender") (st := BWP.s_cont) (ps := ["self", "item"]) r_Session (by k_is) (by k_is) (by k_is) (by k_is) (by k_is) (fun _ _ _ _ _ _ us hl => match us, hl with | [_, _], _ => rfl)
    have m_contenders := BWP.mth_of (n := "contenders") (q := "Session.contenders") (st := BWP.s_conts) (ps := ["self"]) r_Session (by k_is) (by k_is) (by k_is) (by k_is) (by k_is) (fun _ _ _ _ _ _ us hl => match us, hl with | [_], _ => rfl)
    have m_good_value := BWP.mth_of (n := "good_value") (q := "Session.good_value") (st := BWP.s_goodV) (ps := ["self", "item", "measure"]) r_Session (by k_is) (by k_is) (by k_is) (by k_is) (by k_is) (fun _ _ _ _ _ _ us hl => match us, hl with | [_, _, _], _ => rfl)
    have m_good_row := BWP.mth_of (n := "good_row") (q := "Session.good_row") (st := BWP.s_goodR) (ps := ["self", "item"]) r_Session (by k_is) (by k_is) (by k_is) (by k_is) (by k_is) (fun _ _ _ _ _ _ us hl => match us, hl with | [_, _], _ => rfl)
    have m_winners := BWP.mth_of (n := "winners") (q := "Session.winners") (st := BWP.s_winners) (ps := ["self"]) r_Session (by k_is) (by k_is) (by k_is) (by k_is) (by k_is) (fun _ _ _ _ _ _ us hl => match us, hl with | [_], _ => rfl)
    have M := BWP.SesC.mk r_Session.cl r_Session.no r_MeasuredList r_Wishes n_len
    have g_read_list := BWP.glb_mk (x := "read_list") (st := BWP.s_readList) (ps := ["text"]) KX G (by k_is) (by k_is) (by k_is) (by k_is) (fun _ _ _ _ _ _ us hl => match us, hl with | [_], _ => rfl)
    have g_answers := BWP.glb_mk (x := "answers") (st := BWP.s_answers) (ps := ["calls"]) KX G (by k_is) (by k_is) (by k_is) (by k_is) (fun _ _ _ _ _ _ us hl => match us, hl with | [_], _ => rfl)
    have g_first_number := BWP.glb_mk (x := "first_number") (st := BWP.s_firstN) (ps := ["calls", "place"]) KX G (by k_is) (by k_is) (by k_is) (by k_is) (fun _ _ _ _ _ _ us hl => match us, hl with | [_, _], _ => rfl)
    have g_how_many_numbers := BWP.glb_mk (x := "how_many_numbers") (st := BWP.s_howMany) (ps := ["calls", "place"]) KX G (by k_is) (by k_is) (by k_is) (by k_is) (fun _ _ _ _ _ _ us hl => match us, hl with | [_, _], _ => rfl)
    have g_answer_call := BWP.glb_mk (x := "answer_call") (st := BWP.s_ansCall) (ps := ["session", "call", "numbers"]) KX G (by k_is) (by k_is) (by k_is) (by k_is) (fun _ _ _ _ _ _ us hl => match us, hl with | [_, _, _], _ => rfl)
    have c_MOST_BYTES := BWP.cst_int (x := "MOST_BYTES") (i := 4096) KX G (by k_is)
    have c_TOO_LONG := BWP.cst_int (x := "TOO_LONG") (i := 1) KX G (by k_is)
    have t_HOW_MANY := BWP.tup_mk (x := "HOW_MANY") (xs := [.int 0, .int 3, .int 2, .int 2, .int 0, .int 0, .int 0, .int 0]) KX G (by k_is) (by k_is) (by decide) (by repeat (first | exact .nil | refine .cons ⟨_, rfl⟩ ?_))
    have c_LOAD := BWP.cst_int (x := "LOAD") (i := 0) KX G (by k_is)
    have c_BOUND := BWP.cst_int (x := "BOUND") (i := 1) KX G (by k_is)
    have c_BEGIN := BWP.cst_int (x := "BEGIN") (i := 2) KX G (by k_is)
    have c_LIKE := BWP.cst_int (x := "LIKE") (i := 3) KX G (by k_is)
    have c_STILL := BWP.cst_int (x := "STILL") (i := 4) KX G (by k_is)
    have c_ASK := BWP.cst_int (x := "ASK") (i := 5) KX G (by k_is)
    have c_BEST := BWP.cst_int (x := "BEST") (i := 6) KX G (by k_is)
    have c_NO_LIST := BWP.cst_int (x := "NO_LIST") (i := (-1)) KX G (by k_is)
    have c_NO_SUCH_ITEM := BWP.cst_int (x := "NO_SUCH_ITEM") (i := (-2)) KX G (by k_is)
    have c_NO_SUCH_MEASURE := BWP.cst_int (x := "NO_SUCH_MEASURE") (i := (-3)) KX G (by k_is)
    have c_WRONG_BOUNDS := BWP.cst_int (x := "WRONG_BOUNDS") (i := (-4)) KX G (by k_is)
    have c_NONE_TAKEN := BWP.cst_int (x := "NONE_TAKEN") (i := (-5)) KX G (by k_is)
    have c_NO_SHARE_LEFT := BWP.cst_int (x := "NO_SHARE_LEFT") (i := (-6)) KX G (by k_is)
    have c_NO_CHANGE_HELD := BWP.cst_int (x := "NO_CHANGE_HELD") (i := (-8)) KX G (by k_is)
    have c_LOWEST_BOUND := BWP.cst_int (x := "LOWEST_BOUND") (i := (-1000)) KX G (by k_is)
    have c_HIGHEST_BOUND := BWP.cst_int (x := "HIGHEST_BOUND") (i := 1000) KX G (by k_is)
    have c_MOST_CHANGES := BWP.cst_int (x := "MOST_CHANGES") (i := 20) KX G (by k_is)
    have bJ := BWP.tab_mk (x := "best_just_above") KX (by k_is) (by k_is) rfl (by k_is) rfl
    have bW := BWP.tab_mk (x := "piece_winners") KX (by k_is) (by k_is) rfl (by k_is) rfl
    have hJ := PySem.W.tab_of TP KX rfl bJ
    have hW := PySem.W.tab_of TP KX rfl bW
    exact BWP.fin hmg (fun s us hu => match us, hu with | [_], _ => .of_eq rfl) (fun base LJ LW => BWP.AllM.mk MT ML g_read_list c_MOST_BYTES c_TOO_LONG SM g_piece_end g_piece_winners g_best_just_above LJ LW g_left_when_liked g_all_shares g_may_be_best g_beats g_is_unbeaten g_questions_needed g_next_question g_told_shares g_is_within M r_Session m_load m_bound m_begin m_like m_still m_ask m_best m_undo m_change m_has_measure m_has_item m_numbers_within m_contender m_contenders m_good_value m_good_row m_winners g_answers g_first_number g_how_many_numbers g_answer_call t_HOW_MANY c_LOAD c_BOUND c_BEGIN c_LIKE c_STILL c_ASK c_BEST c_NO_LIST c_NO_SUCH_ITEM c_NO_SUCH_MEASURE c_WRONG_BOUNDS c_NONE_TAKEN c_NO_SHARE_LEFT c_NO_CHANGE_HELD c_LOWEST_BOUND c_HIGHEST_BOUND c_MOST_CHANGES n_max n_all n_any n_zip n_enumerate n_list n_range (by decide) (by decide)) g_answers.g (by decide) rfl rfl hJ hW (by first | k_is | rfl | decide +kernel) (by first | k_is | rfl | decide +kernel)
