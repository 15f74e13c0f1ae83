import PyProof.Rows.All
import Wide.All
import OpenK.AllK
import Wide.FinOn
import HandS.ForMost
import HandS.Evl
import HandS.Steps
import HandS.WideBits
import HandS.SetFor
import HandS.SortInts
import HandS.Strs
import HandS.ClsMeth
import PyProof.TypeEq
import HandS.Exc
import HandS.Flow
import HandS.ExcOwn
import HandS.TryOnly
import HandS.WordsExc
import HandS.HotCalls
import HandS.ExcIs
import PySem.Challenge.RW_sackset_k02_no_sacks
set_option Elab.async false
set_option maxRecDepth 100000
set_option maxHeartbeats 8000000
namespace K
/-! ### bits -/
theorem odd_part : ∀ x : Nat, 0 < x → ∃ t q, x = 2 ^ t * (2 * q + 1) := by
  intro x
  induction x using Nat.strongRecOn with
  | _ x ih =>
    intro h
    by_cases e : x % 2 = 1
    · exact ⟨0, x / 2, by omega⟩
    · obtain ⟨t, q, e2⟩ := ih (x / 2) (by omega) (by omega)
      refine ⟨t + 1, q, ?_⟩
      rw [Nat.pow_succ, Nat.mul_comm (2 ^ t) 2, Nat.mul_assoc, ← e2]
      omega
theorem and_pred (t q : Nat) : (2 ^ t * (2 * q + 1)) &&& (2 ^ t * (2 * q + 1) - 1) = 2 ^ (t + 1) * q := by
  have hp : 0 < 2 ^ t := Nat.two_pow_pos t
  have e1 : 2 ^ t * (2 * q + 1) = 2 ^ (t + 1) * q + 2 ^ t := by
    rw [Nat.mul_add, Nat.mul_one, Nat.pow_succ, Nat.mul_assoc]
  have e2 : 2 ^ t * (2 * q + 1) - 1 = 2 ^ (t + 1) * q + (2 ^ t - 1) := by omega
  rw [e2, e1]
  have b1 : 2 ^ t < 2 ^ (t + 1) := by
    rw [Nat.pow_succ]
    omega
  apply Nat.eq_of_testBit_eq
  intro j
  rw [Nat.testBit_and, Nat.testBit_two_pow_mul_add _ b1, Nat.testBit_two_pow_mul_add _ (show 2 ^ t - 1 < 2 ^ (t + 1) by omega), Nat.testBit_two_pow_mul]
  by_cases h : j < t + 1
  · rw [if_pos h, if_pos h, Nat.testBit_two_pow, Nat.testBit_two_pow_sub_one]
    have : decide (j ≥ t + 1) = false := by
      rw [decide_eq_false_iff_not]
      omega
    rw [this]
    by_cases h2 : t = j
    · subst h2
      simp
    · simp [h2]
  · rw [if_neg h, if_neg h]
    have : decide (j ≥ t + 1) = true := by
      rw [decide_eq_true_iff]
      omega
    rw [this]
    simp
/-- the places of the ones, rising -/
def lowsTo (b n : Nat) : List Nat := (List.range n).filter b.testBit
def lows (b : Nat) : List Nat := lowsTo b 256
theorem lowsTo_succ (b n : Nat) : lowsTo b (n + 1) = lowsTo b n ++ (if b.testBit n then [n] else []) := by
  unfold lowsTo
  rw [List.range_succ, List.filter_append]
  cases h : b.testBit n <;> simp [h]
theorem lowsTo_none (b m : Nat) : ∀ k, (∀ j, m ≤ j → j < m + k → b.testBit j = false) → lowsTo b (m + k) = lowsTo b m
  | 0, _ => rfl
  | k + 1, h => by
    rw [← Nat.add_assoc, lowsTo_succ, h (m + k) (by omega) (by omega), lowsTo_none b m k fun j h1 h2 => h j h1 (by omega)]
    simp
/-- what is left of b from m on -/
def Rest (b m c : Nat) : Prop := ∀ j, c.testBit j = (decide (m ≤ j) && b.testBit j)
theorem Rest.start (b : Nat) : Rest b 0 b := fun j => by simp
theorem Rest.turn {b m t q : Nat} (h : Rest b m (2 ^ t * (2 * q + 1))) (hb : b < 2 ^ 256) : m ≤ t ∧ t < 256 ∧ lowsTo b (t + 1) = lowsTo b m ++ [t] ∧ Rest b (t + 1) (2 ^ (t + 1) * q) := by
  have e1 : 2 ^ t * (2 * q + 1) = 2 ^ (t + 1) * q + 2 ^ t := by
    rw [Nat.mul_add, Nat.mul_one, Nat.pow_succ, Nat.mul_assoc]
  have b1 : 2 ^ t < 2 ^ (t + 1) := by
    have hp : 0 < 2 ^ t := Nat.two_pow_pos t
    rw [Nat.pow_succ]
    omega
  have bit : ∀ j, (2 ^ t * (2 * q + 1)).testBit j = if j < t + 1 then decide (t = j) else q.testBit (j - (t + 1)) := fun j => by
    rw [e1, Nat.testBit_two_pow_mul_add _ b1, Nat.testBit_two_pow]
  have ht := h t
  rw [bit, if_pos (by omega), decide_eq_true rfl] at ht
  have ht' := ht.symm
  rw [Bool.and_eq_true] at ht'
  have hm : m ≤ t := of_decide_eq_true ht'.1
  have hlt : t < 256 := by
    refine Nat.lt_of_not_le fun hge => ?_
    have := Nat.testBit_lt_two_pow (x := b) (i := t) (Nat.lt_of_lt_of_le hb (Nat.pow_le_pow_right (by decide) hge))
    rw [this] at ht'
    exact absurd ht'.2 Bool.false_ne_true
  refine ⟨hm, hlt, ?_, fun j => ?_⟩
  · rw [lowsTo_succ, ht'.2, if_pos rfl]
    have e := lowsTo_none b m (t - m) fun j h1 h2 => by
      have hj := h j
      rw [bit, if_pos (by omega), decide_eq_false (by omega), decide_eq_true h1, Bool.true_and] at hj
      exact hj.symm
    rw [show m + (t - m) = t by omega] at e
    rw [e]
  · have hj := h j
    rw [bit] at hj
    rw [Nat.testBit_two_pow_mul]
    by_cases h2 : j < t + 1
    · rw [decide_eq_false (show ¬ j ≥ t + 1 by omega)]
      rfl
    · rw [if_neg h2] at hj
      rw [hj, decide_eq_true (show j ≥ t + 1 by omega), decide_eq_true (show m ≤ j by omega)]
      rfl
theorem Rest.done {b m : Nat} (h : Rest b m 0) (hm : m ≤ 256) : lowsTo b m = lows b := by
  have e := lowsTo_none b m (256 - m) fun j h1 _ => by
    have hj := h j
    rw [Nat.zero_testBit, decide_eq_true h1, Bool.true_and] at hj
    exact hj.symm
  rw [show m + (256 - m) = 256 by omega] at e
  exact e.symm

/-! ### runs -/
def runsStep (acc : List (Nat × Nat)) (n : Nat) : List (Nat × Nat) := match acc.getLast? with
  | some (f, l) => if l + 1 = n then acc.dropLast ++ [(f, n)] else acc ++ [(n, n)]
  | none => [(n, n)]
def runsOf (ls : List Nat) : List (Nat × Nat) := ls.foldl runsStep []
theorem runsStep_nil (n : Nat) : runsStep [] n = [(n, n)] := rfl
theorem runsStep_snoc (a : List (Nat × Nat)) (f l n : Nat) : runsStep (a ++ [(f, l)]) n = if l + 1 = n then a ++ [(f, n)] else a ++ [(f, l)] ++ [(n, n)] := by
  unfold runsStep
  rw [List.getLast?_concat]
  show (if l + 1 = n then (a ++ [(f, l)]).dropLast ++ [(f, n)] else a ++ [(f, l)] ++ [(n, n)]) = _
  rw [List.dropLast_concat]
theorem foldl_take {α β : Type} (g : β → α → β) (z : β) {ls : List α} {i : Nat} {x : α} (h : ls[i]? = some x) : (ls.take (i + 1)).foldl g z = g ((ls.take i).foldl g z) x := by
  rw [List.take_add_one, h, List.foldl_append]
  rfl
theorem runs_take {ls : List Nat} {i x : Nat} (h : ls[i]? = some x) : runsOf (ls.take (i + 1)) = runsStep (runsOf (ls.take i)) x := foldl_take _ _ h
theorem runsStep_len (a : List (Nat × Nat)) (n : Nat) : (runsStep a n).length ≤ a.length + 1 := by
  rcases List.eq_nil_or_concat a with rfl | ⟨b, ⟨f, l⟩, rfl⟩
  · exact Nat.le_refl _
  · rw [List.concat_eq_append, runsStep_snoc]
    split <;> simp
theorem runs_len (ls : List Nat) : (runsOf ls).length ≤ ls.length := by
  have h : ∀ i, i ≤ ls.length → (runsOf (ls.take i)).length ≤ i := by
    intro i
    induction i with
    | zero => intro _; simp [runsOf]
    | succ i ih =>
      intro hi
      rw [runs_take (List.getElem?_eq_getElem (show i < ls.length by omega))]
      have h1 := runsStep_len (runsOf (ls.take i)) ls[i]
      have h2 := ih (by omega)
      omega
  have := h ls.length (Nat.le_refl _)
  rwa [List.take_length] at this
theorem ris_ext : ∀ {l1 l2 : List Int}, l1.Pairwise (· < ·) → l2.Pairwise (· < ·) → (∀ k, k ∈ l1 ↔ k ∈ l2) → l1 = l2
  | [], [], _, _, _ => rfl
  | [], b :: r, _, _, h => absurd ((h b).mpr List.mem_cons_self) (by simp)
  | a :: r, [], _, _, h => absurd ((h a).mp List.mem_cons_self) (by simp)
  | a :: r, b :: t, h1, h2, h => by
    obtain ⟨p1, q1⟩ := List.pairwise_cons.mp h1
    obtain ⟨p2, q2⟩ := List.pairwise_cons.mp h2
    have e : a = b := by
      rcases List.mem_cons.mp ((h a).mp List.mem_cons_self) with e | m
      · exact e
      · rcases List.mem_cons.mp ((h b).mpr List.mem_cons_self) with e | m2
        · exact e.symm
        · have := p2 a m
          have := p1 b m2
          omega
    subst e
    have hr : r = t := ris_ext q1 q2 fun k => by
      constructor
      · intro m
        rcases List.mem_cons.mp ((h k).mp (List.mem_cons_of_mem _ m)) with e | m2
        · have := p1 k m
          omega
        · exact m2
      · intro m
        rcases List.mem_cons.mp ((h k).mpr (List.mem_cons_of_mem _ m)) with e | m2
        · have := p2 k m
          omega
        · exact m2
    rw [hr]
theorem lowsTo_mem {b n k : Nat} : k ∈ lowsTo b n ↔ k < n ∧ b.testBit k = true := by
  unfold lowsTo
  rw [List.mem_filter, List.mem_range]
theorem lows_mem {b k : Nat} (hb : b < 2 ^ 256) : k ∈ lows b ↔ b.testBit k = true := by
  unfold lows
  rw [lowsTo_mem]
  refine ⟨fun h => h.2, fun h => ⟨?_, h⟩⟩
  refine Nat.lt_of_not_le fun hge => ?_
  have := Nat.testBit_lt_two_pow (x := b) (i := k) (Nat.lt_of_lt_of_le hb (Nat.pow_le_pow_right (by decide) hge))
  rw [this] at h
  exact Bool.false_ne_true h
theorem lows_lt {b k : Nat} (h : k ∈ lows b) : k < 256 := (lowsTo_mem.mp h).1
theorem lows_ris (b : Nat) : (lows b).Pairwise (· < ·) := List.Pairwise.filter _ List.pairwise_lt_range
theorem lows_ne {b : Nat} (hb : b < 2 ^ 256) (h0 : b ≠ 0) : lows b ≠ [] := fun e => by
  refine h0 (Nat.eq_of_testBit_eq fun j => ?_)
  rw [Nat.zero_testBit]
  cases h : b.testBit j with
  | false => rfl
  | true =>
    have := (lows_mem hb).mpr h
    rw [e] at this
    cases this
/-- the turn: the next one is above the last -/
theorem runs_go {rs : List Nat} {i n f l : Nat} {ds : List (Nat × Nat)} (hi : rs[i]? = some n) (h : runsOf (rs.take i) = ds ++ [(f, l)]) : runsOf (rs.take (i + 1)) = if l + 1 = n then ds ++ [(f, n)] else ds ++ [(f, l)] ++ [(n, n)] := by
  rw [runs_take hi, h, runsStep_snoc]
theorem ris_step {rs : List Nat} (h : rs.Pairwise (· < ·)) {i m n : Nat} (h1 : rs[i]? = some m) (h2 : rs[i + 1]? = some n) : m < n := by
  obtain ⟨l1, e1⟩ := List.getElem?_eq_some_iff.mp h1
  obtain ⟨l2, e2⟩ := List.getElem?_eq_some_iff.mp h2
  have := List.pairwise_iff_getElem.mp h i (i + 1) l1 l2 (Nat.lt_succ_self i)
  rw [e1, e2] at this
  exact this
theorem lows_len (b : Nat) : (lows b).length ≤ 256 := by
  unfold lows lowsTo
  have h := List.length_filter_le b.testBit (List.range 256)
  rw [List.length_range] at h
  exact h

/-! ### words -/
def wordAt (b k : Nat) : Nat := b / 2 ^ (64 * k) % 2 ^ 64
theorem word_bit (b k j : Nat) : (wordAt b k).testBit j = (decide (j < 64) && b.testBit (64 * k + j)) := by
  unfold wordAt
  rw [Nat.testBit_mod_two_pow, Nat.testBit_div_two_pow, Nat.add_comm j]
theorem word_or_at (b n : Nat) : wordAt (b ||| 2 ^ n) (n / 64) = wordAt b (n / 64) ||| 2 ^ (n % 64) := by
  apply Nat.eq_of_testBit_eq
  intro j
  rw [word_bit, Nat.testBit_or, Nat.testBit_or, word_bit, Nat.testBit_two_pow, Nat.testBit_two_pow]
  by_cases h : j < 64
  · rw [decide_eq_true h, Bool.true_and, Bool.true_and]
    congr 1
    rw [decide_eq_decide]
    omega
  · rw [decide_eq_false h, Bool.false_and, Bool.false_and, Bool.false_or, decide_eq_false]
    omega
theorem word_or_ne (b n : Nat) {k : Nat} (h : n / 64 ≠ k) : wordAt (b ||| 2 ^ n) k = wordAt b k := by
  apply Nat.eq_of_testBit_eq
  intro j
  rw [word_bit, word_bit, Nat.testBit_or, Nat.testBit_two_pow]
  by_cases hj : j < 64
  · rw [decide_eq_false (show ¬ n = 64 * k + j by omega), Bool.or_false]
  · rw [decide_eq_false hj, Bool.false_and, Bool.false_and]
def bitsOf (ls : List Nat) : Nat := ls.foldl (fun b n => b ||| 2 ^ n) 0
theorem bits_fold (ls : List Nat) : ∀ (b j : Nat), (ls.foldl (fun b n => b ||| 2 ^ n) b).testBit j = (b.testBit j || decide (j ∈ ls)) := by
  induction ls with
  | nil => intro b j; simp
  | cons n r ih =>
    intro b j
    rw [List.foldl_cons, ih, Nat.testBit_or, Nat.testBit_two_pow, Bool.or_assoc]
    congr 1
    by_cases h : n = j
    · subst h
      simp
    · have h2 : ¬ j = n := fun e => h e.symm
      simp [h, h2]
theorem bits_bit (ls : List Nat) (j : Nat) : (bitsOf ls).testBit j = decide (j ∈ ls) := by
  unfold bitsOf
  rw [bits_fold, Nat.zero_testBit, Bool.false_or]
theorem bits_lows {b : Nat} (hb : b < 2 ^ 256) : bitsOf (lows b) = b := by
  apply Nat.eq_of_testBit_eq
  intro j
  rw [bits_bit]
  cases h : b.testBit j with
  | true => exact decide_eq_true ((lows_mem hb).mpr h)
  | false =>
    refine decide_eq_false fun m => ?_
    rw [(lows_mem hb).mp m] at h
    cases h
theorem bits_take {ls : List Nat} {i n : Nat} (h : ls[i]? = some n) : bitsOf (ls.take (i + 1)) = bitsOf (ls.take i) ||| 2 ^ n := foldl_take _ _ h
theorem bits_lt {ls : List Nat} (h : ∀ n ∈ ls, n < 256) : bitsOf ls < 2 ^ 256 := by
  refine Nat.lt_pow_two_of_testBit _ fun j hj => ?_
  rw [bits_bit]
  refine decide_eq_false fun m => ?_
  have := h j m
  omega
end K

/-! my own small rules over the layer -/
namespace K
open PySem PySem.Spec PyProof.Rows L2 Evl
abbrev nV (n : Nat) : V := .int (n : Int)
abbrev natD (n : Nat) : PyData := .int (n : Int)
section
variable {σ : L2.St} {H : Hp} {i : Nat} {v x y z : V} {ta tb te tv tc : TE} {b : Bool} {K : PySem.W.Frag} {t u c : TT} {D : Ends} {ts tr : TS}
theorem v_I0 {g : Int → Int → V} {a b : Int} (ha : Val ta σ H (.int a)) (hb : Val tb σ H (.int b)) : Val (tOp (rI0 g) ta tb) σ H (g a b) :=
  val_op ha hb fun Q q => ⟨a, b, rfl, rfl, q⟩
theorem v_I {C : Int → Int → Prop} {g : Int → Int → V} {a b : Int} (ha : Val ta σ H (.int a)) (hb : Val tb σ H (.int b)) (hc : C a b) : Val (tOp (rI C g) ta tb) σ H (g a b) :=
  val_op ha hb fun Q q => ⟨a, b, rfl, rfl, hc, q⟩
theorem v_un {g : Int → V} {a : Int} (ha : Val ta σ H (.int a)) : Val (tUn (rU g) ta) σ H (g a) := fun Q q => ha _ ⟨a, rfl, q⟩
theorem v_len {p : Addr} {ys : List V} (ha : Val ta σ H (.ref p)) (h : SqL K H p ys ∨ SqT K H p ys) :
    Val (tCB (fun xs H Q => ∃ p ys, xs = [V.ref p] ∧ (SqL K H p ys ∨ SqT K H p ys) ∧ Q (.int ys.length) H) (tCons ta tNil)) σ H (.int ys.length) := fun Q q =>
  ha _ ⟨p, ys, rfl, h, q⟩
theorem v_ixL {p : Addr} {xs : List V} {j : Int} (ha : Val ta σ H (.ref p)) (hb : Val tb σ H (.int j)) (h : SqL K H p xs) (e : atI xs j = some v) : Val (tOp (rIxL K) ta tb) σ H v :=
  val_op ha hb fun Q q => ⟨p, xs, j, v, rfl, rfl, h, e, q⟩
theorem v_ixT {p : Addr} {xs : List V} {j : Int} (ha : Val ta σ H (.ref p)) (hb : Val tb σ H (.int j)) (h : SqT K H p xs) (e : atI xs j = some v) : Val (tOp (rIxT K) ta tb) σ H v :=
  val_op ha hb fun Q q => ⟨p, xs, j, v, rfl, rfl, h, e, q⟩
theorem v_bits {a : Int} (ha : Val ta σ H (.int a)) : Val (tBits ta) σ H (.int (Builtin.Int.intBits a : Nat)) := fun Q q => ha _ ⟨a, rfl, q⟩
theorem rv2 {a b : Int} (ha : Val ta σ H (.int a)) (hb : Val tb σ H (.int b)) : Val (tOp rEq ta tb) σ H (.bl (decide (V.int a = V.int b))) := val_op ha hb fun Q q => ⟨rfl, q⟩
theorem v_eq (h : Val te σ H v) (e : v = z) : Val te σ H z := e ▸ h
theorem a_test {b : Bool} (h : Val te σ H (.bl b)) : Ans (tTest te) σ H b := fun Q q => h _ ⟨b, rfl, q⟩
theorem a_tB {b : Bool} (h : Val te σ H (.bl b)) : Ans (tB te) σ H b := fun Q q => h _ ⟨b, rfl, q⟩
/-- statements, something behind -/
theorem w_asg (h : Val te σ H v) (k : tr D (σ.set i (some v)) H) : tSeq (tAsg te (gName i)) tr D σ H := h _ k
theorem w_if {b : Bool} (h : Ans c σ H b) (h1 : b = true → ts { D with nx := tr D } σ H) (h2 : b = false → tz { D with nx := tr D } σ H) : tSeq (tIfS c ts tz) tr D σ H := by
  refine h _ ?_
  cases b with
  | true => exact h1 rfl
  | false => exact h2 rfl
theorem w_when {b : Bool} (h : Ans c σ H b) (h1 : b = true → ts { D with nx := tr D } σ H) (h2 : b = false → tr D σ H) : tSeq (tIfS c ts tNext) tr D σ H := by
  refine h _ ?_
  cases b with
  | true => exact h1 rfl
  | false => exact h2 rfl
theorem w_aug {f : Int → Int → Int} {a b : Int} (hx : σ[i]? = some (some (.int a))) (h : Val te σ H (.int b)) (k : tr D (σ.set i (some (.int (f a b)))) H) : tSeq (tAug i te (ipI f)) tr D σ H :=
  ⟨.int a, hx, h _ ⟨a, b, rfl, rfl, k⟩⟩
theorem z_aug {f : Int → Int → Int} {a b : Int} (hx : σ[i]? = some (some (.int a))) (h : Val te σ H (.int b)) (k : D.nx (σ.set i (some (.int (f a b)))) H) : tAug i te (ipI f) D σ H :=
  ⟨.int a, hx, h _ ⟨a, b, rfl, rfl, k⟩⟩
theorem z_if {tz : TS} {b : Bool} (h : Ans c σ H b) (h1 : b = true → ts D σ H) (h2 : b = false → tz D σ H) : tIfS c ts tz D σ H := by
  refine h _ ?_
  cases b with
  | true => exact h1 rfl
  | false => exact h2 rfl
end
section
variable {σ : L2.St} {H : Hp} {i : Nat} {v x y z : V} {ta tb te tv tc : TE} {b : Bool} {K : PySem.W.Frag} {t u c : TT} {D : Ends} {tu tw tz : TS}
theorem w_app {l : Addr} {xs : List V} (hl : H l = some (.lst xs)) (ha : Val ta σ H (.ref l)) (h : Val te σ H v) (hz : xs.length < 100000) (k : tz D σ (upd H l (.lst (xs ++ [v])))) :
    tSeq (tDrop (tBM K "list" rAppend ta (tCons te tNil))) tz D σ H := ha _ ⟨Or.inl ⟨rfl, xs, SqL.of hl⟩, h _ ⟨l, xs, v, rfl, rfl, hl, sz_lt hz, k⟩⟩
theorem z_app {l : Addr} {xs : List V} (hl : H l = some (.lst xs)) (ha : Val ta σ H (.ref l)) (h : Val te σ H v) (hz : xs.length < 100000) (k : D.nx σ (upd H l (.lst (xs ++ [v])))) :
    tDrop (tBM K "list" rAppend ta (tCons te tNil)) D σ H := ha _ ⟨Or.inl ⟨rfl, xs, SqL.of hl⟩, h _ ⟨l, xs, v, rfl, rfl, hl, sz_lt hz, k⟩⟩
theorem w_while (W : Nat → L2.St → Hp → Prop) (m0 : Nat) (h0 : W m0 σ H)
    (hs : ∀ m σ' H', W m σ' H' → ∃ b, Ans t σ' H' b ∧ (b = true → tu { D with nx := fun σ2 H2 => ∃ m', m' < m ∧ W m' σ2 H2, ct := fun σ2 H2 => ∃ m', m' < m ∧ W m' σ2 H2, bk := tz D } σ' H') ∧ (b = false → tz D σ' H')) : tSeq (tWhile t tu) tz D σ H :=
  ⟨W, ⟨m0, h0⟩, fun m σ' H' hw => by
    obtain ⟨b, hb, h1, h2⟩ := hs m σ' H' hw
    refine hb _ ?_
    cases b with
    | true => exact ⟨_, fun _ _ n => n, h1 rfl⟩
    | false => exact h2 rfl⟩
theorem w_forLn {a : Addr} {xs : List V} {tl : TE} {j : Nat} (h : Val tl σ H (.ref a)) (hx : SqL K H a xs) (Pv : Nat → L2.St → Hp → Prop) (h0 : Pv 0 σ H) (hl : ∀ i σ' H', i ≤ xs.length → Pv i σ' H' → SqL K H' a xs)
    (hs : ∀ i x σ' H', xs[i]? = some x → Pv i σ' H' → tu { D with nx := Pv (i + 1), ct := Pv (i + 1), bk := tz D } (σ'.set j (some x)) H') (hd : ∀ σ' H', Pv xs.length σ' H' → tz D σ' H') : tSeq (tFor (iList K tl) (gName j) tu) tz D σ H :=
  h _ ⟨a, rfl, ⟨xs, hx⟩, for_list Pv h0 hl hs hd⟩
theorem w_forR1 {ta : TA} {j : Nat} {n : Nat} (h : ∀ Q : List V → Hp → Prop, Q [nV n] H → ta σ H Q) (hn : n ≤ 100000) (Pv : Nat → L2.St → Hp → Prop) (h0 : Pv 0 σ H)
    (hs : ∀ (i : Nat) σ' H', i < n → Pv i σ' H' → tu { D with nx := Pv (i + 1), ct := Pv (i + 1), bk := tz D } (σ'.set j (some (nV i))) H') (hd : ∀ σ' H', Pv n σ' H' → tz D σ' H') : tSeq (tFor (iRng1 ta) (gName j) tu) tz D σ H :=
  h _ ⟨(n : Int), rfl, by omega, by omega, for_range (lo := 0) Pv h0 (fun i σ' H' hi p => by
    have e0 : (0 : Int) + (i : Int) = (i : Int) := Int.zero_add _
    have hi' : i < n := by omega
    show tu { D with nx := Pv (i + 1), ct := Pv (i + 1), bk := tz D } (σ'.set j (some (.int ((0 : Int) + (i : Int))))) H'
    rw [e0]
    exact hs i σ' H' hi' p) hd⟩
theorem w_cut {M : L2.St → Hp → Prop} (h : tu { D with nx := M } σ H) (k : ∀ σ' H', M σ' H' → tz D σ' H') : tCut tu tz D σ H := ⟨M, h, k⟩
/-- a new list, a new tuple at a place that was free -/
theorem w_asgL {ta : TA} {xs : List V} (h : ∀ Q : List V → Hp → Prop, Q xs H → ta σ H Q) (hz : xs.length ≤ 100000) (k : ∀ p, H p = none → tz D (σ.set i (some (.ref p))) (upd H p (.lst xs))) : tSeq (tAsg (tLst ta) (gName i)) tz D σ H :=
  h _ ⟨sz_of hz, fun p hp => k p hp⟩
theorem va_nil {Q : List V → Hp → Prop} (q : Q [] H) : tNil σ H Q := q
end
section
variable {X : Cx}
theorem ip_andI : PIp X .BitAnd (ipI Builtin.bitAnd) := iop_and
theorem ip_orI : PIp X .BitOr (ipI Builtin.bitOr) := iop_or
theorem ip_xorI : PIp X .BitXor (ipI Builtin.bitXor) := iop_xor
end
theorem or_nat (a b : Nat) : Builtin.bitOr (a : Int) (b : Int) = ((a ||| b : Nat) : Int) := bitOr_nn (Int.natCast_nonneg _) (Int.natCast_nonneg _)
theorem and_nat (a b : Nat) : Builtin.bitAnd (a : Int) (b : Int) = ((a &&& b : Nat) : Int) := bitAnd_pp (Int.natCast_nonneg _) (Int.natCast_nonneg _)
/-- x & -x -/
theorem and_neg {x : Nat} (h : 0 < x) : Builtin.bitAnd (x : Int) (-(x : Int)) = ((x - (x &&& (x - 1)) : Nat) : Int) := by
  rw [bitAnd_pn (Int.natCast_nonneg _) (by omega)]
  have e : (Builtin.bitNot (-(x : Int))).toNat = x - 1 := by
    show (-(-(x : Int)) - 1).toNat = x - 1
    omega
  rw [e, Int.toNat_natCast]
  have := Nat.and_le_left (n := x) (m := x - 1)
  omega
theorem bits_pow (t : Nat) : Builtin.Int.intBits ((2 ^ t : Nat) : Int) = t + 1 := by
  have hp : 0 < 2 ^ t := Nat.two_pow_pos t
  unfold Builtin.Int.intBits
  rw [if_neg (show ¬ ((((2 ^ t : Nat) : Int) == 0) = true) by
    rw [beq_iff_eq]
    omega), Int.natAbs_natCast, Nat.log2_two_pow]
/-! ### comprehensions whose element is pure -/
section
variable {σ : L2.St} {H : Hp} {te tl : TE} {K : PySem.W.Frag} {ta : TA} {j : Nat} {vs : List Nat} {Q : VK}
theorem l_lcR1 {n : Nat} (f : Nat → V) (h : ∀ Q : List V → Hp → Prop, Q [nV n] H → ta σ H Q) (hn : n ≤ 100000) (hw : ∀ x, wipe ((wipe σ vs).set j (some x)) vs = wipe σ vs)
    (he : ∀ i, i < n → ∀ p ys, H p = none → Val te ((wipe σ vs).set j (some (nV i))) (upd H p (.lst ys)) (f i)) (q : ∀ p, H p = none → Q (.ref p) (upd H p (.lst ((List.range n).map f)))) :
    tLc (iRng1 ta) (gName j) tYes te vs σ H Q := h _ ⟨(n : Int), rfl, by omega, by omega, fun D hD =>
  lc_range (lo := 0) (n := n) (fun i H' => H' = upd H D (.lst ((List.range i).map f))) rfl (fun i H' hi e => by
    subst e
    have e0 : (0 : Int) + (i : Int) = (i : Int) := Int.zero_add _
    have hi' : i < n := by omega
    refine ⟨hw _, ?_⟩
    show te ((wipe σ vs).set j (some (.int ((0 : Int) + (i : Int))))) (upd H D (.lst ((List.range i).map f))) _
    rw [e0]
    refine he i hi' D _ hD _ ⟨_, upd_same, ?_, ?_⟩
    · rw [List.length_map, List.length_range]
      exact sz_lt (by omega)
    · rw [upd_upd, List.range_succ, List.map_append]
      rfl) (fun H' e => by
    subst e
    exact q D hD)⟩
theorem l_lcL {a : Addr} {xs : List V} (f : V → V) (h : Val tl σ H (.ref a)) (hx : SqL K H a xs) (hn : xs.length ≤ 100000) (hw : ∀ x, wipe ((wipe σ vs).set j (some x)) vs = wipe σ vs)
    (he : ∀ (i : Nat) (x : V), xs[i]? = some x → ∀ p ys, H p = none → Val te ((wipe σ vs).set j (some x)) (upd H p (.lst ys)) (f x)) (q : ∀ p, H p = none → Q (.ref p) (upd H p (.lst (xs.map f)))) :
    tLc (iList K tl) (gName j) tYes te vs σ H Q := h _ ⟨a, rfl, ⟨xs, hx⟩, fun D hD =>
  lc_list (xs := xs) (fun i H' => H' = upd H D (.lst ((xs.take i).map f))) rfl (fun i H' _ e => by
    subst e
    exact ex_l (Ex.new hD) hx) (fun i x H' hi e => by
    subst e
    have hlt := (List.getElem?_eq_some_iff.mp hi).1
    refine ⟨hw _, ?_⟩
    show te ((wipe σ vs).set j (some x)) (upd H D (.lst ((xs.take i).map f))) _
    refine he i x hi D _ hD _ ⟨_, upd_same, ?_, ?_⟩
    · rw [List.length_map, List.length_take]
      exact sz_lt (by omega)
    · rw [upd_upd, List.take_add_one, hi, List.map_append]
      rfl) (fun H' e => by
    subst e
    rw [List.take_length]
    exact q D hD)⟩
end
/-! ### data -/
mutual
theorem dp_ex {K : PySem.W.Frag} {H H' : Hp} (e : Ex H H') : ∀ (d : PyData) (v : V), Dp K H v d → Dp K H' v d
  | .none, _, h => by cases h; exact Dp.non
  | .bool b, _, h => by cases h; exact Dp.bl b
  | .int i, _, h => by cases h; exact Dp.int i
  | .str x, _, h => by cases h; exact Dp.str x
  | .list ds, _, h => by
    cases h with
    | lst hs ha => exact Dp.lst (ex_l e hs) (dpAll_ex e ds _ ha)
  | .tuple ds, _, h => by
    cases h with
    | tup hs ha => exact Dp.tup (ex_t e hs) (dpAll_ex e ds _ ha)
  | .dict _, _, h => by cases h
theorem dpAll_ex {K : PySem.W.Frag} {H H' : Hp} (e : Ex H H') : ∀ (ds : List PyData) (vs : List V), DpAll K H vs ds → DpAll K H' vs ds
  | [], _, h => by cases h; exact DpAll.nil
  | d :: ds, _, h => by
    cases h with
    | cons h1 h2 => exact DpAll.cons (dp_ex e d _ h1) (dpAll_ex e ds _ h2)
end
section
variable {K : PySem.W.Frag} {H H' : Hp}
theorem dpAll_len : ∀ {vs : List V} {ds : List PyData}, DpAll K H vs ds → vs.length = ds.length
  | _, _, .nil => rfl
  | _, _, .cons _ h => congrArg (· + 1) (dpAll_len h)
theorem dpAll_append : ∀ {vs ws : List V} {ds es : List PyData}, DpAll K H vs ds → DpAll K H ws es → DpAll K H (vs ++ ws) (ds ++ es)
  | _, _, _, _, .nil, h => h
  | _, _, _, _, .cons h1 h2, h => .cons h1 (dpAll_append h2 h)
theorem dpAll_get : ∀ {vs : List V} {ds : List PyData} {i : Nat} {d : PyData}, DpAll K H vs ds → ds[i]? = some d → ∃ v, vs[i]? = some v ∧ Dp K H v d
  | _, _, _, _, .nil, e => by simp at e
  | _, _, 0, _, .cons h1 _, e => by simp at e; subst e; exact ⟨_, rfl, h1⟩
  | _, _, i + 1, d, .cons _ h2, e => by
    obtain ⟨v, h3, h4⟩ := dpAll_get (i := i) (d := d) h2 (by simpa using e)
    exact ⟨v, by simpa using h3, h4⟩
theorem dpAll_snoc {vs : List V} {ds : List PyData} {d : PyData} (h : DpAll K H vs (ds ++ [d])) : ∃ us u, vs = us ++ [u] ∧ DpAll K H us ds ∧ Dp K H u d := by
  induction ds generalizing vs with
  | nil =>
    cases h with
    | cons h1 h2 =>
      cases h2
      exact ⟨[], _, rfl, .nil, h1⟩
  | cons e ds ih =>
    cases h with
    | cons h1 h2 =>
      obtain ⟨us, u, rfl, h3, h4⟩ := ih h2
      exact ⟨_ :: us, u, rfl, .cons h1 h3, h4⟩
theorem dpAll_nat : ∀ ns : List Nat, DpAll K H (ns.map nV) (ns.map natD)
  | [] => .nil
  | n :: r => .cons (.int _) (dpAll_nat r)
theorem dpAll_nat_inv : ∀ {ns : List Nat} {vs : List V}, DpAll K H vs (ns.map natD) → vs = ns.map nV
  | [], _, .nil => rfl
  | _ :: _, _, .cons h1 h2 => by
    cases h1
    rw [dpAll_nat_inv h2]
    rfl
end
abbrev pairD (p : Nat × Nat) : PyData := .tuple [natD p.1, natD p.2]
/-- the pair at a place -/
theorem dp_pair {K : PySem.W.Frag} {H : Hp} {v : V} {p : Nat × Nat} (h : Dp K H v (pairD p)) : ∃ a, v = .ref a ∧ SqT K H a [nV p.1, nV p.2] := by
  cases h with
  | tup hs ha =>
    cases ha with
    | cons h1 h2 =>
      cases h1
      cases h2 with
      | cons h3 h4 =>
        cases h3
        cases h4
        exact ⟨_, rfl, hs⟩
theorem pair_dp {K : PySem.W.Frag} {H : Hp} {a : Addr} {p : Nat × Nat} (h : H a = some (.tup [nV p.1, nV p.2])) : Dp K H (.ref a) (pairD p) :=
  .tup (SqT.of h) (.cons (.int _) (.cons (.int _) .nil))
theorem shaped_pairs (ps : List (Nat × Nat)) : SeqAt.shaped (.list (ps.map pairD)) = true ∧ SeqAt.shaped (.tuple (ps.map pairD)) = true := by
  have h : ∀ ps : List (Nat × Nat), PyData.canLayAll0 (ps.map pairD) = true ∧ PyData.depthAll (ps.map pairD) ≤ 1 := by
    intro ps
    induction ps with
    | nil => exact ⟨by simp [PyData.canLayAll0], by simp [PyData.depthAll]⟩
    | cons p r ih =>
      refine ⟨?_, ?_⟩
      · simp [PyData.canLayAll0, PyData.canLay0, ih.1]
      · have := ih.2
        simp [PyData.depthAll, PyData.depth]
        omega
  obtain ⟨h1, h2⟩ := h ps
  unfold SeqAt.shaped
  constructor
  · rw [Bool.and_eq_true]
    exact ⟨by simp [PyData.canLay0, h1], decide_eq_true (by simp [PyData.depth]; omega)⟩
  · rw [Bool.and_eq_true]
    exact ⟨by simp [PyData.canLay0, h1], decide_eq_true (by simp [PyData.depth]; omega)⟩
theorem shaped_nil : SeqAt.shaped (.list []) = true := by
  unfold SeqAt.shaped
  simp [PyData.canLay0, PyData.canLayAll0, PyData.depth, PyData.depthAll]
theorem cut_tail (x : V) (r : List V) : cutV (x :: r) (some 1) none = r := by
  unfold cutV
  rw [show HT.sIx (x :: r).length 0 (some 1) = min 1 (x :: r).length from HT.sIx_nat _ 0 1, HT.sIx_none, List.length_cons, Nat.min_eq_left (Nat.le_add_left 1 _)]
  exact List.take_of_length_le (Nat.le_of_eq (Nat.add_sub_cancel _ _).symm)
theorem ixN_last {α : Type} (xs : List α) (v : α) : ixN (xs ++ [v]).length (-1) = some xs.length := by
  unfold ixN
  rw [List.length_append, List.length_singleton, if_neg (by omega), if_pos (by omega)]
  congr 1
  omega
theorem hu64 {k : Nat} {A : Around} (hr : Room k A) : A.units + 64 < cLine := by
  have := hr.un
  omega
/-! ### what evaluates to data -/
/-- a new list of data | data -/
def RetLD (K : PySem.W.Frag) (ds : List PyData) (H : Hp) (Q : VK) : Prop := ∀ p rs H2, H p = none → Ex H H2 → H2 p = some (.lst rs) → DpAll K H2 rs ds → Q (.ref p) H2
def RetD (K : PySem.W.Frag) (d : PyData) (H : Hp) (Q : VK) : Prop := ∀ v H2, Ex H H2 → Dp K H2 v d → Q v H2
def DV (K : PySem.W.Frag) (te : TE) (σ : L2.St) (H : Hp) (d : PyData) : Prop := ∀ H1, Ex H H1 → ∀ Q : VK, (∀ v H2, Ex H1 H2 → Dp K H2 v d → Q v H2) → te σ H1 Q
def DA (K : PySem.W.Frag) (ta : TA) (σ : L2.St) (H : Hp) (ds : List PyData) : Prop := ∀ H1, Ex H H1 → ∀ Q : List V → Hp → Prop, (∀ vs H2, Ex H1 H2 → DpAll K H2 vs ds → Q vs H2) → ta σ H1 Q
section
variable {σ : L2.St} {H : Hp} {te tl ta0 tb : TE} {K : PySem.W.Frag} {ta : TA} {d : PyData} {ds : List PyData} {v : V}
theorem da_nil : DA K tNil σ H [] := fun H1 _ _ q => q _ _ (Ex.refl H1) .nil
theorem da_cons (h : DV K te σ H d) (hr : DA K ta σ H ds) : DA K (tCons te ta) σ H (d :: ds) := fun H1 e _ q =>
  h H1 e _ fun v H2 e2 h2 => hr H2 (e.trans e2) _ fun vs H3 e3 h3 => q _ _ (e2.trans e3) (.cons (dp_ex e3 _ _ h2) h3)
theorem dv_ev (h : Ev te σ H v) (hd : Dp K H v d) : DV K te σ H d := fun H1 e _ q => h H1 e _ fun H2 e2 => q _ _ e2 (dp_ex (e.trans e2) _ _ hd)
theorem dv_int {i : Int} (h : Ev te σ H (.int i)) : DV K te σ H (.int i) := dv_ev h (.int i)
theorem dv_str {z : Str} : DV K (tC (.str z)) σ H (.str z) := dv_ev ev_c (.str z)
theorem dv_tup (h : DA K ta σ H ds) (hl : ds.length ≤ 100000) : DV K (tTup ta) σ H (.tuple ds) := fun H1 e _ q =>
  h H1 e _ fun vs H2 e2 h2 => ⟨by rw [dpAll_len h2]; exact sz_of hl, fun p hp => q _ _ (e2.trans (Ex.new hp)) (.tup (.inl (.inl upd_same)) (dpAll_ex (Ex.new hp) _ _ h2))⟩
abbrev rTupleOf (K : PySem.W.Frag) : List V → Hp → VK → Prop := fun xs H Q => ∃ p ys, xs = [V.ref p] ∧ ((SqL K H p ys ∧ ∀ l, H l = none → Q (.ref l) (upd H l (.tup ys))) ∨ (SqT K H p ys ∧ Q (.ref p) H))
theorem dv_tupleL {a : Addr} {xs : List V} (h : Ev tl σ H (.ref a)) (hx : SqL K H a xs) (hd : DpAll K H xs ds) : DV K (tCB (rTupleOf K) (tCons tl tNil)) σ H (.tuple ds) := fun H1 e _ q =>
  h H1 e _ fun H2 e2 => ⟨a, xs, rfl, .inl ⟨ex_l (e.trans e2) hx, fun p hp => q _ _ (e2.trans (Ex.new hp)) (.tup (.inl (.inl upd_same)) (dpAll_ex ((e.trans e2).trans (Ex.new hp)) _ _ hd))⟩⟩
/-- tuple(a new list) -/
theorem dv_tupleN (h : ∀ H1, Ex H H1 → ∀ Q : VK, (∀ p xs H2, Ex H1 H2 → H2 p = some (.lst xs) → DpAll K H2 xs ds → Q (.ref p) H2) → tl σ H1 Q) : DV K (tCB (rTupleOf K) (tCons tl tNil)) σ H (.tuple ds) := fun H1 e _ q =>
  h H1 e _ fun p xs H2 e2 hp hd => ⟨p, xs, rfl, .inl ⟨SqL.of hp, fun l hl => q _ _ (e2.trans (Ex.new hl)) (.tup (.inl (.inl upd_same)) (dpAll_ex (Ex.new hl) _ _ hd))⟩⟩
theorem len2 {a b : PyData} : [a, b].length ≤ 100000 := by
  rw [List.length_cons, List.length_cons, List.length_nil]
  decide
theorem shl_nat {i j : Int} {m n : Nat} (hi : i = (m : Int)) (hj : j = (n : Int)) : i * 2 ^ j.toNat = ((m * 2 ^ n : Nat) : Int) := by
  subst hi
  subst hj
  rw [Int.toNat_natCast, two_pow_cast, Int.natCast_mul]
theorem shl1 {j : Int} {n : Nat} (hj : j = (n : Int)) : (1 : Int) * 2 ^ j.toNat = ((2 ^ n : Nat) : Int) := by
  rw [Int.one_mul, hj, Int.toNat_natCast, two_pow_cast]
theorem word_and (b i : Nat) : Builtin.bitAnd ((b : Int) / 2 ^ ((64 : Int) * (i : Int)).toNat) 18446744073709551615 = ((b / 2 ^ (64 * i) % 2 ^ 64 : Nat) : Int) := by
  have e1 : ((64 : Int) * (i : Int)).toNat = 64 * i := by omega
  rw [e1, show (18446744073709551615 : Int) = 2 ^ 64 - 1 by decide, PySem.W.kbt_mask, two_pow_cast]
  rw [Int.natCast_emod, Int.natCast_ediv]
  rfl
theorem s_retD {D : Ends} (h : DV K te σ H d) (k : RetD K d H D.rt) : tRet te D σ H := h H (Ex.refl H) _ fun v H2 e h2 => k v H2 e h2
theorem ev_lenS {p : Addr} {ys : List V} (ha : Ev te σ H (.ref p)) (h : SqL K H p ys ∨ SqT K H p ys) :
    Ev (tCB (fun xs H Q => ∃ p ys, xs = [V.ref p] ∧ (SqL K H p ys ∨ SqT K H p ys) ∧ Q (.int ys.length) H) (tCons te tNil)) σ H (.int (ys.length : Int)) := fun H1 e _ q =>
  ha H1 e _ fun H2 e2 => ⟨p, ys, rfl, h.elim (fun h => .inl (ex_l (e.trans e2) h)) (fun h => .inr (ex_t (e.trans e2) h)), q _ e2⟩
end
/-! data without lists stands whatever becomes of what is no tuple -/
mutual
def noL : PyData → Bool
  | .list _ => false
  | .dict _ => false
  | .tuple ds => noLAll ds
  | _ => true
def noLAll : List PyData → Bool
  | [] => true
  | d :: ds => noL d && noLAll ds
end
/-- all tuples stand -/
def Tups (H H' : Hp) : Prop := ∀ a xs, Rd H a (.tup xs) → Rd H' a (.tup xs)
theorem Tups.refl (H : Hp) : Tups H H := fun _ _ h => h
theorem Tups.trans {H H1 H2 : Hp} (a : Tups H H1) (b : Tups H1 H2) : Tups H H2 := fun c xs h => b c xs (a c xs h)
theorem Tups.ex {H H' : Hp} (e : Ex H H') : Tups H H' := fun _ _ h => ex_rd e h
theorem Tups.upd {H : Hp} {p : Addr} {o o' : HO} (h : H p = some o) (hn : Mut (some o)) : Tups H (upd H p o') := fun a xs r => by
  have ne : a ≠ p := fun e => by
    subst e
    rcases r with r | ⟨ob, r⟩
    · rw [h] at r; cases r; exact hn
    · rw [h] at r; cases r; exact hn
  rcases r with r | ⟨ob, r⟩
  · exact .inl (by rw [upd_ne ne]; exact r)
  · exact .inr ⟨ob, by rw [upd_ne ne]; exact r⟩
theorem Tups.sq {K : PySem.W.Frag} {H H' : Hp} {a : Addr} {xs : List V} (e : Tups H H') (h : SqT K H a xs) : SqT K H' a xs := by
  rcases h with h | h
  · exact .inl (e a xs h)
  · exact .inr h
mutual
theorem dp_tups {K : PySem.W.Frag} {H H' : Hp} (e : Tups H H') : ∀ (d : PyData) (v : V), noL d = true → Dp K H v d → Dp K H' v d
  | .none, _, _, h => by cases h; exact Dp.non
  | .bool b, _, _, h => by cases h; exact Dp.bl b
  | .int i, _, _, h => by cases h; exact Dp.int i
  | .str x, _, _, h => by cases h; exact Dp.str x
  | .list ds, _, n, h => by simp [noL] at n
  | .tuple ds, _, n, h => by
    cases h with
    | tup hs ha => exact Dp.tup (e.sq hs) (dpAll_tups e ds _ (by simpa [noL] using n) ha)
  | .dict _, _, _, h => by cases h
theorem dpAll_tups {K : PySem.W.Frag} {H H' : Hp} (e : Tups H H') : ∀ (ds : List PyData) (vs : List V), noLAll ds = true → DpAll K H vs ds → DpAll K H' vs ds
  | [], _, _, h => by cases h; exact DpAll.nil
  | d :: ds, _, n, h => by
    rw [noLAll, Bool.and_eq_true] at n
    cases h with
    | cons h1 h2 => exact DpAll.cons (dp_tups e d _ n.1 h1) (dpAll_tups e ds _ n.2 h2)
end
theorem noL_pairs : ∀ ps : List (Nat × Nat), noLAll (ps.map pairD) = true
  | [] => by simp [noLAll]
  | p :: r => by
    rw [List.map_cons, noLAll, noL_pairs r]
    simp [noL, noLAll]
local macro_rules | `(tactic| walk_at "side") => `(tactic| first | (show (0:Int) < _; omega) | (show (0:Int) ≤ _; omega) | (show CMul _ _; unfold CMul; omega) | (show CDiv _ _; unfold CDiv; omega) | (show CPow _ _; unfold CPow; omega))
local macro_rules | `(tactic| walk_at "val") => `(tactic| repeat' (first | exact val_c | exact val_var rfl | refine v_I0 ?_ ?_ | refine v_I ?_ ?_ ?_ | refine v_un ?_ | refine v_bits ?_))
end K

/-! the law's own helpers: their promises -/
namespace K
open PySem PySem.Spec PyProof.Rows L2 Evl
def atR (ns : List Int) (k : Nat) : Int := if ns.length = 0 then 0 else ns.getD (k % ns.length) 0
def c1 (ns : List Int) (k : Nat) : Int := (atR ns k * 48271 + 7919 * (k : Int) * (k : Int) + 104729 * (k : Int) + 11) % 2147483647
def c2 (ns : List Int) (k : Nat) : Int := c1 ns k * c1 ns k % 2147483629 * 69621 % 2147483647
def cellI (ns : List Int) (k : Nat) : Int := c2 ns k * c2 ns k % 2147483587 * 2147483647 + c2 ns k
theorem c1_b (ns : List Int) (k : Nat) : 0 ≤ c1 ns k ∧ c1 ns k < 2147483647 := by unfold c1; omega
theorem c2_b (ns : List Int) (k : Nat) : 0 ≤ c2 ns k ∧ c2 ns k < 2147483647 := by unfold c2; omega
theorem cellI_b (ns : List Int) (k : Nat) : 0 ≤ cellI ns k ∧ cellI ns k < 4611686018427387904 := by
  have := c2_b ns k
  unfold cellI
  omega
/-- the great number by a cell and a place -/
def cellAt (ns : List Int) (k : Nat) : Nat := (cellI ns k).toNat
theorem cellAt_i (ns : List Int) (k : Nat) : ((cellAt ns k : Nat) : Int) = cellI ns k := Int.toNat_of_nonneg (cellI_b ns k).1
theorem cellAt_b (ns : List Int) (k : Nat) : cellAt ns k < 4611686018427387904 := by
  have := (cellI_b ns k).2
  have := cellAt_i ns k
  omega
def spCell (K : PySem.W.Frag) : Sp := fun vs H Q _ => ∃ (a : Addr) (ns : List Int) (k : Nat), vs = [.ref a, nV k] ∧ SqL K H a (ns.map V.int) ∧ k ≤ 100000 ∧ Q (nV (cellAt ns k)) H
def spLows : Sp := fun vs H Q _ => ∃ b : Nat, vs = [nV b] ∧ b < 2 ^ 256 ∧ RetL ((lows b).map nV) H Q
def spRuns (K : PySem.W.Frag) : Sp := fun vs H Q _ => ∃ (a : Addr) (ls : List Nat), vs = [.ref a] ∧ SqL K H a (ls.map nV) ∧ ls.length ≤ 1000 ∧ RetLD K ((runsOf ls).map pairD) H Q
/-- some bits; which ones does not matter -/
def spPattern : Sp := fun vs H Q _ => ∃ c : Nat, vs = [nV c] ∧ c < 4611686018427387904 ∧ ∀ (b : Nat) (H2 : Hp), b < 2 ^ 256 → Ex H H2 → Q (nV b) H2
/-! ### the form by counting -/
def rowD (ls : List Nat) : PyData := .tuple [.str "row", .tuple (ls.map natD)]
def runsD (ps : List (Nat × Nat)) : PyData := .tuple [.str "runs", .tuple (ps.map pairD)]
def bitsD (b : Nat) : PyData := .tuple [.str "bits", .tuple ((List.range 4).map fun k => natD (wordAt b k))]
/-- 0: row, 1: runs, 2: bits -/
def kindOf (b : Nat) : Nat := if (lows b).length ≤ 2 * (runsOf (lows b)).length ∧ (lows b).length ≤ 32 then 0 else if 2 * (runsOf (lows b)).length ≤ 32 then 1 else 2
def formD (b : Nat) : PyData := if kindOf b = 0 then rowD (lows b) else if kindOf b = 1 then runsD (runsOf (lows b)) else bitsD b
def weightOf (b : Nat) : Nat := if kindOf b = 0 then (lows b).length else if kindOf b = 1 then 2 * (runsOf (lows b)).length else 32
def spForm (K : PySem.W.Frag) : Sp := fun vs H Q _ => ∃ b : Nat, vs = [nV b] ∧ b < 2 ^ 256 ∧ RetD K (.tuple [formD b, natD (weightOf b)]) H Q
end K

/-! rules that I lacked: set(a list of ints), sorted of a set of any size -/
namespace K
open PySem PySem.Spec PyProof.Rows L2 Evl
/-- an empty set as set() lays it -/
abbrev nullSet (w : World) : Obj := { cls := .type "set", dict := none, data := .set #[] 0 (.fresh 0 0 (!w.params.followText "set-order")) }
section
variable {P : Program} {w : World} {A : Around} {E : Value → Shared → Prop} {s : Shared}
theorem set_of_list {l : Addr} {items : Array Value} (ns : List Int) {Q : Value → Shared → Prop} (hh : A.handled = none) (hl : s.heap.IsList l items) (hit : IntsAre items.toList ns) (hb : ns.length + 1 < scanBound)
    (fin : ∀ (g : Heap) (tk c : Nat), SetR w g s.heap.objs.size (fun j => decide (j ∈ ns)) c → c ≤ ns.length → (∀ b o, s.heap.get? b = some o → g.get? b = some o) → Q (.ref s.heap.objs.size) { s with heap := g, toks := tk }) :
    wpAny (model P w) A (call (.type "set") [.ref l]) Q E s := by
  have sz : items.size = ns.length := by rw [← IntsAre.length hit, Array.length_toList]
  have facts := F.called_set
  obtain ⟨k0, t0, mro0⟩ := facts.mro
  have f1 := facts.made; have f2 := facts.sub; have f3 := facts.notType; have f4 := facts.canCreate
  have f5 := F.typeCall_set_1 (.ref l)
  refine wpAny_call (codeAny_of_tree (show wpAny _ _ (callAny (.type "set") _) _ _ _ from wpAny_pure ⟨Code.quiet_builtin _ (by decide +kernel), codeAny_builtin F.entry_type_call ?_⟩))
  rw [Around.under_plain (weight_type_call_type "set" [.ref l] []) rfl]
  repeat (any_goals (first | assumption | wp_step))
  -- the new empty set stands at the next place
  refine codeAny_mono (code_set_led1 (.ref l) (E := E) (Q₁ := fun v s1 => v = .ref s.heap.objs.size ∧ s1 = { s with heap := s.heap.push (nullSet w) }) ⟨rfl, rfl⟩) fun r s1 hr => ?_
  cases r with
  | error e => exact hr
  | ok fl =>
    cases fl with
    | next => exact hr.elim
    | brk => exact hr.elim
    | cont => exact hr.elim
    | ret v =>
      obtain ⟨rfl, rfl⟩ := hr
      have new : (s.heap.push (nullSet w)).get? s.heap.objs.size = some (nullSet w) := Heap.get?_push_size _ rfl
      have tyS : Shared.TypeIs { s with heap := s.heap.push (nullSet w) } (.ref s.heap.objs.size) "set" := ⟨_, new, rfl⟩
      have g1 := facts.init.lookup; have g2 := facts.init.bind (.ref s.heap.objs.size)
      repeat (any_goals (first | assumption | wp_step))
      refine codeAny_mono (codeAny_call_builtin (R := wants (fun r s2 => r = .none ∧ ∃ g tk c, s2 = { s with heap := g, toks := tk } ∧ SetR w g s.heap.objs.size (fun j => decide (j ∈ ns)) c ∧ c ≤ ns.length ∧ (∀ b o, s.heap.get? b = some o → g.get? b = some o)) E)
        facts.init.plain F.entry_set_init (check_set_init_1 tyS ?_)) fun r2 s2 hr2 => ?_
      · obtain ⟨⟨oc, od, odat, osl⟩, hol, hcl, nl, hdl⟩ := hl
        cases hcl
        cases hdl
        have lt : l < s.heap.objs.size := Heap.lt_size hol
        have isz : (s.heap.push (nullSet w)).objs.size = s.heap.objs.size + 1 := Heap.size_push ..
        have hol2 : (s.heap.push (nullSet w)).get? l = some { cls := .type "list", dict := od, data := .seq items nl, slots := osl } := Heap.get?_push_of_some _ hol
        have isl : (s.heap.push (nullSet w)).IsList l items := ⟨_, hol2, rfl, nl, rfl⟩
        have u1 := F.sub_list_set; have u2 := F.sub_list_frozenset
        have u3 : (Value.type "list" == Value.type "dict") = false := by decide
        unfold Builtin.«set.__init__» noKeywords Builtin.Frozenset.updateFrom
        generalize hpi : pyIter = pit
        wp_walk
        subst hpi
        refine wpAny_pyIter_list isl (wpAny_bind (wpAny_runValue ?_))
        have out0 : A.in1.in1.in1.handled = none := by simp [hh]
        have neI : l ≠ (s.heap.push (nullSet w)).objs.size := by
          rw [isz]
          exact Nat.ne_of_lt (Nat.lt_succ_of_lt lt)
        have notIn : s.heap.objs.size ∉ [(s.heap.push (nullSet w)).objs.size, l] := by
          rw [isz]
          simp only [List.mem_cons, List.not_mem_nil, or_false, not_or]
          exact ⟨Nat.ne_of_lt (Nat.lt_succ_self _), Nat.ne_of_gt lt⟩
        have val : ∀ (i : Nat) (v : Value), items[i]? = some v → ∃ k t, ns[i]? = some k ∧ v = .int k t := fun i v hv => by
          have hi : i < ns.length := by rw [← sz]; exact (Array.getElem?_eq_some_iff.mp hv).1
          obtain ⟨t, e⟩ := IntsAre.int_at hit i v (by rw [Array.getElem?_toList]; exact hv)
          exact ⟨ns[i], t, List.getElem?_eq_getElem hi, by rw [e, List.getD_eq_getElem?_getD, List.getElem?_eq_getElem hi]; rfl⟩
        refine set_update_ints ((Walks.list out0 _ l neI items).toS) s.heap.objs.size notIn ns sz hb val (items.size - 0) 0 _ (by omega) (Nat.zero_le _) ⟨⟨_, Heap.get?_push_size _ rfl, rfl, rfl⟩, isl.push _⟩ ⟨0, Nat.le_refl 0, setR_new_at (Heap.get?_push_of_some _ new)⟩ ?_
        rintro ⟨h', g2, d', tk', os'⟩ c' hm hc' hS'
        obtain rfl : g2 = s.gens := hm.gens
        obtain rfl : d' = s.drawn := hm.drawn
        obtain rfl : os' = s.os := hm.os
        refine wpAny_pure (wpAny_pure ⟨rfl, h', tk', c', rfl, hS', sz ▸ hc', fun b o e => ?_⟩)
        have lb : b < s.heap.objs.size := Heap.lt_size e
        refine hm.heap b o ?_ (Heap.get?_push_of_some _ (Heap.get?_push_of_some _ e))
        rw [isz]
        simp only [List.mem_cons, List.not_mem_nil, or_false, not_or]
        exact ⟨Nat.ne_of_lt lb, Nat.ne_of_lt (Nat.lt_succ_of_lt lb)⟩
      · cases r2 with
        | error e => exact hr2
        | ok fl2 =>
          cases fl2 with
          | next => exact hr2.elim
          | brk => exact hr2.elim
          | cont => exact hr2.elim
          | ret r =>
            obtain ⟨rfl, g, tk, c', rfl, q1, q2, q3⟩ := hr2
            repeat (any_goals (first | assumption | wp_step))
            exact fin _ _ _ q1 q2 q3
end
end K

namespace K
open PySem PySem.Spec PyProof.Rows L2 Evl
section
variable {P : Program} {w : World} {A : Around} {E : Value → Shared → Prop} {s : Shared}
/-- sorted of a set of ints, any number of them -/
theorem sorted_of_set {a : Addr} {S : Int → Bool} {n : Nat} {Q : Value → Shared → Prop} (R : SetR w s.heap a S n) (hh : A.handled = none)
    (fin : ∀ s' p (out : Array Value) (c : Nat) (ns : List Int), (∀ b o, s.heap.get? b = some o → s'.heap.get? b = some o) → s'.gens = s.gens → s'.os = s.os → s.heap.objs.size ≤ p →
      s'.heap.get? p = some (seqObj "list" out c) → IntsAre out.toList ns → ns.Pairwise (· < ·) → (∀ k, k ∈ ns ↔ S k = true) → ns.length = n → Q (.ref p) s') :
    wpAny (model P w) A (call (.builtin "sorted") [.ref a]) Q E s := by
  obtain ⟨o, es, ep, t, ho, hex, hd, good, nodup, mem, small, fits, size0, ris, led⟩ := R
  refine Calls.call_function_entry kind_sorted plain_sorted entry_sorted (args_sorted1 _) ?_
  unfold Builtin.«sorted»
  refine wpAny_bind (m := checkCount "sorted" 1 1 _) (wpAny_pure (wpAny_bind (collect_set (A := A.in1) hh ⟨o, ho, hex.1, hd⟩ fits small ris led fun s1 vs keep1 size1 gens1 os1 perm => ?_)))
  have hI : IntsAre vs (vs.map SrtO.iv) := SrtO.ints_iv fun v hv => by
    obtain ⟨e, he, q⟩ := List.mem_map.mp (perm.mem_iff.mp hv)
    obtain ⟨k, tk, h1, _⟩ := good e he
    exact ⟨k, tk, q ▸ h1⟩
  have len : vs.length ≤ sizeLine := by
    rw [perm.length_eq, List.length_map, Array.length_toList]
    exact Nat.le_of_lt (Nat.lt_of_lt_of_le small (by decide))
  have pk : (vs.map SrtO.iv).Perm (es.toList.map keyOf) := by
    have q := perm.map SrtO.iv
    rw [List.map_map] at q
    exact q
  refine wpAny_bind (wpAny_newList ?_ len)
  have hoL : (s1.heap.push (seqObj "list" vs.toArray 0)).get? s1.heap.objs.size = some (seqObj "list" vs.toArray 0) := Heap.get?_push_size _ rfl
  refine wpAny_bind (wpAny_holding (wpAny_call_entry slot_list_sort ⟨_, hoL, rfl⟩ entry_list_sort (SrtO.list_sort_ord SrtO.swo_int hoL len (fun h2 => SrtO.ints_sortable hI h2) fun out a1 a2 => ⟨_, rfl, ?_⟩) (args_list_sort _)))
  obtain ⟨b1, b2, b3⟩ := SrtO.ints_out hI a1 a2
  obtain ⟨c, hc⟩ := sortedHeap_at (vs := vs) (out := out.toArray) hoL
  have pn : (out.map SrtO.iv).Perm (es.toList.map keyOf) := b2.trans pk
  refine wpAny_pure ⟨_, rfl, fin _ s1.heap.objs.size out.toArray c (out.map SrtO.iv) (fun b u e => ?_) gens1 os1 size1 hc b1 (lt_of_le_nodup _ b3 (pn.nodup_iff.mpr nodup)) (fun k => by rw [pn.mem_iff, ← mem k]) (by rw [pn.length_eq, List.length_map, Array.length_toList]; exact size0)⟩
  have lt := Heap.lt_size (keep1 b u e)
  show (sortedHeap (s1.heap.push (seqObj "list" vs.toArray 0)) s1.heap.objs.size vs out.toArray).get? b = some u
  rw [sortedHeap_old (Nat.ne_of_lt lt) (by rw [size_push']; exact Nat.lt_succ_of_lt lt)]
  exact Heap.get?_push_of_some _ (keep1 b u e)
end
section
variable {X : Cx}
/-- set(xs), xs a list of ints -/
def rSetOf (K : PySem.W.Frag) (w : World) : List V → Hp → VK → Prop := fun xs H Q => ∃ (l : Addr) (ns : List Int), xs = [V.ref l] ∧ SqL K H l (ns.map V.int) ∧ ns.length + 1 < scanBound ∧
  ∀ p n, H p = none → n ≤ ns.length → Q (.ref p) (upd H p (SetO w p (fun j => decide (j ∈ ns)) n))
theorem cr_setL (hc : X.calm = true) : CallR X (.type "set") (rSetOf X.K X.w) := by
  intro pins s σ H xs us Q I r h
  obtain ⟨l, ns, rfl, hs, hb, q⟩ := h
  obtain ⟨its, rv, hl, hz⟩ := I.list hs
  rw [Vals.ref1 r]
  refine set_of_list ns (I.ok.hd hc) hl.isList (by simpa using rv.ints) hb fun g tk c hR hcl keep => ?_
  exact ⟨.ref _, _, I.laid (t' := tk) keep (Nat.le_refl _) (setO_new hR), rfl, q _ c (I.hok.fresh (Nat.le_refl _)) hcl⟩
/-- sorted(a set of ints) -/
def rSortedS (w : World) : List V → Hp → VK → Prop := fun vs H Q => ∃ (a : Addr) (S : Int → Bool) (n : Nat), vs = [V.ref a] ∧ H a = some (SetO w a S n) ∧ n ≤ 10000 ∧
  ∀ (ns : List Int) (p : Addr), ns.Pairwise (· < ·) → (∀ k : Int, k ∈ ns ↔ S k = true) → H p = none → Q (.ref p) (upd H p (.lst (ns.map V.int)))
theorem cr_sortedS2 (hc : X.calm = true) : CallR X (.builtin "sorted") (rSortedS X.w) := by
  intro pins s σ H vs us Q I r h
  obtain ⟨a, S, n, rfl, ha, hn, q⟩ := h
  have R := setO_get I ha
  rw [Vals.ref1 r]
  refine sorted_of_set R (I.ok.hd hc) fun s' p out c ns k g o hp hg hi hs hm hl => ?_
  have len : (ns.map V.int).length ≤ sizeLine := by
    rw [List.length_map, hl]
    exact sz_of (by omega)
  have free := I.hok.fresh hp
  have J : Inv X pins σ (upd H p (.lst (ns.map V.int))) { s with heap := s'.heap, gens := s'.gens, drawn := s'.drawn, toks := s'.toks } :=
    I.call (ch := []) (Un.laid k hp free) (I.hok.laid k hp ⟨len, out.toList, c, vals_of_ints hi, hg⟩) (g ▸ I.bare) (fun _ z => nomatch z)
  obtain ⟨h1, g1, d1, t1, o1⟩ := s'
  obtain rfl : o1 = s.os := o
  exact ⟨.ref p, _, J, rfl, q ns p hs hm free⟩
/-- type(x) == T, T a built-in type -/
def TyM (a : String) : Prop := ∀ s' : Shared, s'.TypeIs (.type a) "type"
theorem op_eqTy : OpR X (compareOp .Eq) (fun x y H Q => ∃ a b, x = .ty a ∧ y = .ty b ∧ TyM a ∧ TyM b ∧ Q (.bl (decide (a = b))) H) := by
  intro pins s σ H x y v u Q I rx ry h
  obtain ⟨a, b, rfl, rfl, ha, hb, q⟩ := h
  cases (show v = Value.type a from rx)
  cases (show u = Value.type b from ry)
  by_cases e : a = b
  · subst e
    exact PySem.TypeEq.eq_type_same ha (fin_bl I q (by simp))
  · exact PySem.TypeEq.eq_type_other ha hb ((ty_beq a b).trans (decide_eq_false e)) (fin_bl I q (by simp [e]))
/-- C.m(e, ..), m a def of the class at C, called with its object by hand -/
def tClsFn (C : Addr) (sp : Sp) (dvs : List V) (E : XK) (ta : TE) (t : TA) : TE := fun σ H Q => ta σ H fun x H1 => x = .ref C ∧ t σ H1 fun vs H2 => sp (vs ++ dvs) H2 Q E
structure ClsFn (K : PySem.W.Frag) (C : Addr) (m : Str) (f : Addr) : Prop where
  rd : ClX.CRead K C (.type "type")
  at_ : PySem.W.findCls K (.ref C) (.type "type") m = some (.val (.ref f))
  kp : PySem.W.keepIn K (.ref f) = true
theorem pe_clsfn {CX : CXT} {k : Nat} {C f : Addr} {fd : FuncData} {ps : List Str} {sp : Sp} {dvs : List V} {ds : List Value} {E : XK} {o e : Expr} {es : List Expr} {m : Str} {pos apos : Pos} {ta : TE} {t : TA} {pl : Sem Bool}
    (he : PE X o ta) (c : ClsFn X.K C m f) (F : FnOk X.prog X.w X.K X.mg X.base CX k f fd ps sp) (hr : Room k X.A) (hb : Binds X.K fd ps ds) (hd : Vals dvs ds) (hx : Passes CX X E) (ha : PA X (e :: es) t)
    (h1 : starEach (e :: es) X.env = (false, eval e X.env) :: starEach es X.env := by rfl) (h2 : (backTo pos (starEach es X.env)).any (·.1) = false := by rfl)
    (h3 : eval (.Call (.Attribute o m apos) (e :: es) [] pos) X.env = (do
      let v ← eval o X.env
      standAt apos.atName
      let (g, first) ← holding [v] (getMethod v m pl)
      callWith pos g first (backTo pos (starEach (e :: es) X.env)) (backToKw pos (keywordEach [] X.env))) := by rfl) :
    PE X (.Call (.Attribute o m apos) (e :: es) [] pos) (tClsFn C sp dvs E ta t) := by
  refine ⟨fun pins s σ H Q I h => ?_⟩
  refine PySem.W.methodCall_KW (pl := pl) (thn (he.run pins s σ H _ I h) fun u s1 ⟨x, H1, I1, rx, ex, q⟩ => ?_) h3
  subst ex
  obtain rfl : u = Value.ref C := rx
  refine PySem.W.method_cls I1.kIn c.rd.ga (PySem.W.cls_value I1.kIn c.rd.rd c.at_ rfl ?_)
  refine PySem.W.callWith_K (first := []) (h₀ := X.base) I.ok.mod.kin c.kp (thn (ha.run pos pins _ σ H1 _ (I1.tok _) q) fun us s2 ⟨vs, H2, I2, r, q2⟩ => ⟨I2.kIn, ?_⟩) h1 h2
  exact run_fn F hr hb hd hx I2 r q2
/-- either reading serves -/
theorem pe_either {e : Expr} {t u : TE} (h1 : PE X e t) (h2 : PE X e u) : PE X e (fun σ H Q => t σ H Q ∨ u σ H Q) :=
  ⟨fun pins s σ H Q I h => h.elim (h1.run pins s σ H Q I) (h2.run pins s σ H Q I)⟩
/-- xs[j], by values, in xs[j] op= e -/
def rGetN (K : PySem.W.Frag) : V → V → Hp → VK → Prop := fun o i H Q => ∃ (p : Addr) (xs : List V) (j : Nat) (v : V), o = .ref p ∧ i = nV j ∧ SqL K H p xs ∧ xs[j]? = some v ∧ Q v H
theorem get_listN : PGet X (rGetN X.K) := by
  intro pins s σ H o i ov iv Q I ro ri h
  obtain ⟨p, xs, j, v, rfl, rfl, hs, hv, q⟩ := h
  cases ro
  obtain ⟨t, rfl⟩ := ri
  obtain ⟨its, r, pl, hz⟩ := I.list hs
  obtain ⟨w, ew, rw'⟩ := r.get hv
  have lt := (List.getElem?_eq_some_iff.mp hv).1
  have n63 := line63
  exact wpAny_getItem_list pl.isList (Int.natCast_nonneg _) (by omega) (by simpa using ew) ⟨v, H, I, rw', q⟩
end
end K

/-! the sacks: what stands where, the promises of their defs -/
namespace K
open PySem PySem.Spec PyProof.Rows L2 Evl
/-- a sack's attributes -/
def sf (k : Str) (t : V) (w : Int) : List (Str × V) := [("_kind", .str k), ("_told", t), ("_weight", .int w)]
theorem lk_here {k : Str} {v : V} {r : List (Str × V)} : List.lookup k ((k, v) :: r) = some v := by
  have e : (k == k) = true := beq_self_eq_true k
  simp only [List.lookup, e]
theorem lk_past {k g : Str} {v : V} {r : List (Str × V)} (h : (k == g) = false) : List.lookup k ((g, v) :: r) = List.lookup k r := by
  simp only [List.lookup, h]
theorem put_past {f g : Str} {v x : V} {r : List (Str × V)} (h : ¬ g = f) : putF f v ((g, x) :: r) = (g, x) :: putF f v r := if_neg h
theorem sf_kind (k : Str) (t : V) (w : Int) : (sf k t w).lookup ("_kind" : Str) = some (.str k) := lk_here
theorem sf_told (k : Str) (t : V) (w : Int) : (sf k t w).lookup ("_told" : Str) = some t := (lk_past (by decide +kernel)).trans lk_here
theorem sf_weight (k : Str) (t : V) (w : Int) : (sf k t w).lookup ("_weight" : Str) = some (.int w) := (lk_past (by decide +kernel)).trans ((lk_past (by decide +kernel)).trans lk_here)
theorem sf_no (k : Str) (t : V) (w : Int) {m : Str} (h1 : (m == "_kind") = false) (h2 : (m == "_told") = false) (h3 : (m == "_weight") = false) : (sf k t w).lookup m = none := (lk_past h1).trans ((lk_past h2).trans ((lk_past h3).trans rfl))
theorem sf_new (k : Str) (t : V) (w : Int) : putF "_weight" (.int w) (putF "_told" t (putF "_kind" (.str k) [])) = sf k t w := by
  have e1 : putF "_told" t (putF "_kind" (.str k) []) = ([(("_kind" : Str), V.str k), (("_told" : Str), t)] : List (Str × V)) := (put_past (by decide +kernel)).trans rfl
  rw [e1]
  exact (put_past (by decide +kernel)).trans (congrArg _ ((put_past (by decide +kernel)).trans rfl))
/-- what the methods of a sack ask of its class -/
structure SackCls (K : PySem.W.Frag) (C : Addr) : Prop where
  cl : Cls K C
  nk : NoAttr K C "_kind"
  nt : NoAttr K C "_told"
  nw : NoAttr K C "_weight"
def spInit (K : PySem.W.Frag) : Sp := fun vs H Q _ => ∃ (p dx C : Addr) (k : Str) (t : V) (w : Int), vs = [.ref p, .str k, t, .int w] ∧ H p = some (.ins C dx []) ∧ SackCls K C ∧ Q .non (upd H p (.ins C dx (sf k t w)))
/-- the three kinds' __init__: C the class, k the word, weight by what is told -/
def spInitK (K : PySem.W.Frag) (C : Addr) (k : Str) (f : List V → Int) : Sp := fun vs H Q _ => ∃ (p dx t : Addr) (xs : List V), vs = [.ref p, .ref t] ∧ H p = some (.ins C dx []) ∧ SackCls K C ∧ SqT K H t xs ∧ xs.length ≤ 1000 ∧
  Q .non (upd H p (.ins C dx (sf k (.ref t) (f xs))))
def rowW (xs : List V) : Int := xs.length
def runsW (xs : List V) : Int := 2 * xs.length
def bitsW (_ : List V) : Int := 32
def spWeight (K : PySem.W.Frag) : Sp := fun vs H Q _ => ∃ (a C dx : Addr) (k : Str) (t : V) (w : Int), vs = [.ref a] ∧ H a = some (.ins C dx (sf k t w)) ∧ SackCls K C ∧ Q (.int w) H
def spKind (K : PySem.W.Frag) : Sp := fun vs H Q _ => ∃ (a C dx : Addr) (k : Str) (t : V) (w : Int), vs = [.ref a] ∧ H a = some (.ins C dx (sf k t w)) ∧ SackCls K C ∧ Q (.str k) H
def spTold (K : PySem.W.Frag) : Sp := fun vs H Q _ => ∃ (a C dx : Addr) (k : Str) (t : V) (w : Int), vs = [.ref a] ∧ H a = some (.ins C dx (sf k t w)) ∧ SackCls K C ∧ ∀ p, H p = none → Q (.ref p) (upd H p (.tup [.str k, t]))
/-! ### lower parts -/
/-- something whose type is a built-in one -/
def Odd (K : PySem.W.Frag) (H : Hp) (x : V) : Prop := ∃ T, TyB K H x T ∧ TyM T
def lowOk : V → Bool
  | .int i => decide (0 ≤ i) && decide (i < 256)
  | _ => false
def spIsLow (K : PySem.W.Frag) : Sp := fun vs H Q _ => ∃ x, vs = [x] ∧ Odd K H x ∧ Q (.bl (lowOk x)) H
/-- rising_lows: refused, or the rising list of the lower parts -/
def spRising (K : PySem.W.Frag) (CN : Addr) : Sp := fun vs H Q E => ∃ (a : Addr) (xs : List V), vs = [.ref a] ∧ SqL K H a xs ∧ xs.length ≤ 2000 ∧ (∀ x ∈ xs, Odd K H x) ∧
  (((xs = [] ∨ ∃ x ∈ xs, lowOk x = false) ∧ E (.ref CN) none H) ∨
  ∃ b : Nat, b < 2 ^ 256 ∧ b ≠ 0 ∧ (∀ x ∈ xs, ∃ k : Nat, x = nV k) ∧ (∀ k : Nat, nV k ∈ xs ↔ b.testBit k = true) ∧ RetL ((lows b).map nV) H Q)
def spPairs (K : PySem.W.Frag) : Sp := fun vs H Q _ => ∃ (a : Addr) (rs : List Nat), vs = [.ref a] ∧ SqL K H a (rs.map nV) ∧ rs ≠ [] ∧ rs.Pairwise (· < ·) ∧ rs.length ≤ 256 ∧
  ∀ p ts H2, Ex H H2 → H p = none → H2 p = some (.tup ts) → DpAll K H2 ts ((runsOf rs).map pairD) → Q (.ref p) H2
def spWords (K : PySem.W.Frag) : Sp := fun vs H Q _ => ∃ (a : Addr) (b : Nat), vs = [.ref a] ∧ SqL K H a ((lows b).map nV) ∧ b < 2 ^ 256 ∧
  ∀ p H2, Ex H H2 → H p = none → H2 p = some (.tup ((List.range 4).map fun k => nV (wordAt b k))) → Q (.ref p) H2
/-! ### a sack that stands -/
def clsOf (cR cU cB : Addr) (b : Nat) : Addr := if kindOf b = 0 then cR else if kindOf b = 1 then cU else cB
def nameOf (b : Nat) : Str := if kindOf b = 0 then "row" else if kindOf b = 1 then "runs" else "bits"
def toldD (b : Nat) : PyData := if kindOf b = 0 then .tuple ((lows b).map natD) else if kindOf b = 1 then .tuple ((runsOf (lows b)).map pairD) else .tuple ((List.range 4).map fun k => natD (wordAt b k))
theorem form_told (b : Nat) : formD b = .tuple [.str (nameOf b), toldD b] := by
  unfold formD nameOf toldD rowD runsD bitsD
  split
  · rfl
  · split <;> rfl
structure SackAt (K : PySem.W.Frag) (cR cU cB : Addr) (H : Hp) (a : Addr) (b : Nat) : Prop where
  ex : ∃ dx t, H a = some (.ins (clsOf cR cU cB b) dx (sf (nameOf b) (.ref t) (weightOf b))) ∧ Dp K H (.ref t) (toldD b)
theorem SackAt.mono {K : PySem.W.Frag} {cR cU cB : Addr} {H H' : Hp} {a : Addr} {b : Nat} (e : Ex H H') (h : SackAt K cR cU cB H a b) : SackAt K cR cU cB H' a b := by
  obtain ⟨dx, t, h1, h2⟩ := h.ex
  exact ⟨dx, t, e a _ h1, dp_ex e _ _ h2⟩
def spSackOf (K : PySem.W.Frag) (CN cR cU cB : Addr) : Sp := fun vs H Q E => ∃ (a : Addr) (xs : List V), vs = [.ref a] ∧ SqL K H a xs ∧ xs.length ≤ 2000 ∧ (∀ x ∈ xs, Odd K H x) ∧
  (((xs = [] ∨ ∃ x ∈ xs, lowOk x = false) ∧ E (.ref CN) none H) ∨
  ∃ b : Nat, b < 2 ^ 256 ∧ b ≠ 0 ∧ (∀ x ∈ xs, ∃ k : Nat, x = nV k) ∧ (∀ k : Nat, nV k ∈ xs ↔ b.testBit k = true) ∧ ∀ p H2, H p = none → Ex H H2 → SackAt K cR cU cB H2 p b → Q (.ref p) H2)
/-- a new sack: its object and its dict, then __init__ -/
theorem new_sack {K : PySem.W.Frag} {C : Addr} {k : Str} {f : List V → Int} {H : Hp} {t : Addr} {xs : List V} {Q : Addr → Hp → Prop} {E : XK} (c : SackCls K C) (ht : SqT K H t xs) (hl : xs.length ≤ 1000)
    (q : ∀ x dx H2, H x = none → Ex H H2 → H2 x = some (.ins C dx (sf k (.ref t) (f xs))) → Q x H2) :
    ∀ x dx, H x = none → H dx = none → dx ≠ x → spInitK K C k f [.ref x, .ref t] (upd (upd H dx (.own x)) x (.ins C dx [])) (fun v H2 => v = .non ∧ Q x H2) E := by
  intro x dx hx hd ne
  have e1 : Ex H (upd H dx (.own x)) := Ex.new hd
  have e2 : Ex H (upd (upd H dx (.own x)) x (.ins C dx [])) := e1.mut hx
  refine ⟨x, dx, t, xs, rfl, upd_same, c, ex_t e2 ht, hl, rfl, ?_⟩
  exact q x dx _ hx (e2.mut hx) upd_same
end K

/-! a caught error handed to a def that asks isinstance of it -/
namespace K
open PySem PySem.Spec PyProof.Rows L2 L2H Evl
/-- a def called with a caught error at p: sp by the error's place and class -/
structure FnE (P : Program) (w : World) (K : PySem.W.Frag) (mg : Str → Option Value) (base : Heap) (k : Nat) (f : Addr) (fd : FuncData) (ps : List Str) (sp : Addr → Addr → Sp) : Prop where
  len : ∀ a D vs H Q E, sp a D vs H Q E → vs.length = ps.length
  run : ∀ (A : Around) (outer : List Env) (s : Shared) (H : Hp) (args : Args) (us : List Value) (vs : List V) (Q : VK) (p : Addr × Obj) (D : Addr), RoomH k A → PinOk outer H s p → Zc (.ref D) none p.2 → (∃ fs, p.2.data = .fields fs) →
    Env0 P w K mg base A outer s H → BindsTo s fd args (ps.zip us) → Vals vs us → sp p.1 D vs H Q E0 → codeAny (model P w) A (.call (.ref f) args) (CR CX0 outer P w H s Q E0) s
section
variable {P : Program} {w : World} {K : PySem.W.Frag} {mg : Str → Option Value} {base : Heap}
theorem fn_ofE {k : Nat} {f : Addr} {name qual : Str} {params : Arguments} {body : List Stmt} {scope : Scope} {dV kV doc pm cdv ct oc : Value} {an od : Option Addr} {osl : Array (Option Value)} {N ps : List Str} {sp : Addr → Addr → Sp}
    (lk : K.lookup f = some ⟨oc, od, .func (PySem.W.fnOf name qual params body scope dV kV doc pm an cdv ct), osl⟩) (hcd : PySem.W.codeIn K cdv qual = true) (S : FnScope N ps scope)
    (len : ∀ a D vs H Q E, sp a D vs H Q E → vs.length = ps.length)
    (hbody : ∀ (A : Around) (outer : List Env) (s : Shared) (H : Hp) (vs : List V) (Q : VK) (p : Addr × Obj) (D : Addr), RoomH k (A.deeper (envOfC qual scope s.heap.objs.size f cdv)) → Zc (.ref D) none p.2 → (∃ fs, p.2.data = .fields fs) → sp p.1 D vs H Q E0 →
      ∃ t, PSs (cxH CX0 P w K mg base N qual scope f cdv A outer s H E0 p) body t ∧ t { nx := fun _ H' => Q .non H', rt := Q } (L2.start N vs) H) :
    FnE P w K mg base (k + 1) f (PySem.W.fnOf name qual params body scope dV kV doc pm an cdv ct) ps sp := by
  refine ⟨len, fun A outer s H args us vs Q p D hr hpin hz hf e0 hb r hsp => ?_⟩
  have hl := len _ _ _ _ _ _ hsp
  have KX : K.In s.heap := e0.mod.kin.keeps fun b o e => (e0.bs b o e).1
  have lim := e0.mod.nolimit.keeps fun b o e => (e0.bs b o e).1
  have kinds : ∀ y ∈ ps.zip us, scope.names.lookup y.1 = some .local ∨ (scope.names.lookup y.1 = some .cell ∧ ((cellsFrom (s.heap.objs.size + 1) scope.names []).lookup y.1).isSome = true) := by
    rintro ⟨n, v⟩ hy
    exact (S.par n (List.of_mem_zip hy).1).imp id fun q => ⟨q, PySem.W.cellsFrom_some _ _ _ (.inl q)⟩
  refine codeAny_call_function hr.depth (KX _ _ lk) rfl S.co S.gen rfl (PySem.W.codeRec_of KX hcd) (hb _ _ _ _ (wpAny_newFunctionEnv_cells S.kind kinds fun env he s1 x => ?_))
  subst he
  refine ⟨lim.keeps x.toInCall.keep, codeAny_func ?_⟩
  obtain ⟨t, ht, hq⟩ := hbody A outer s H vs Q p D (hr.deeper _) hz hf hsp
  refine wpAny_mono (ht.run [] s1 (L2.start N vs) H _ (inv_startH S hpin e0 hl r x) hq) (fun fl s' hs => ?_) fun e s' hs => hs
  cases fl with
  | ret u =>
    obtain ⟨v, σ', H', J, rv, q⟩ := hs
    exact ⟨v, H', J.os, J.bare, J.base, J.hok, rv, q⟩
  | next =>
    obtain ⟨σ', H', J, q⟩ := hs
    exact ⟨V.non, H', J.os, J.bare, J.base, J.hok, rfl, q⟩
  | brk =>
    obtain ⟨_, _, _, q⟩ := hs
    exact q.elim
  | cont =>
    obtain ⟨_, _, _, q⟩ := hs
    exact q.elim
theorem okE {x qual : Str} {st : Stmt} {f : Addr} {fd : FuncData} {N ps : List Str} {k : Nat} {sp : Addr → Addr → Sp} (F : Fun K x qual st f fd) (S : FnScope N ps (defScope st)) (len : ∀ a D vs H Q E, sp a D vs H Q E → vs.length = ps.length)
    (hbody : ∀ (cdv : Value) (A : Around) (outer : List Env) (s : Shared) (H : Hp) (vs : List V) (Q : VK) (p : Addr × Obj) (D : Addr), RoomH k (A.deeper (envOfC qual (defScope st) s.heap.objs.size f cdv)) → Zc (.ref D) none p.2 → (∃ fs, p.2.data = .fields fs) → sp p.1 D vs H Q E0 →
      ∃ t, PSs (cxH CX0 P w K mg base N qual (defScope st) f cdv A outer s H E0 p) (defBody st) t ∧ t { nx := fun _ H' => Q .non H', rt := Q } (L2.start N vs) H) : FnE P w K mg base (k + 1) f fd ps sp := by
  obtain ⟨oc, od, kV, doc, pm, an, cdv, ct, osl, rfl, lk, hcd⟩ := F.ex
  exact fn_ofE lk hcd S len fun A outer s H vs Q p D hr hz hf hsp => hbody cdv A outer s H vs Q p D hr hz hf hsp
end
section
variable {X : Cx}
/-- isinstance(e, c), e the error that is pinned at a -/
def rIsP (K : PySem.W.Frag) (D a : Addr) : List V → Hp → VK → Prop := fun xs H Q => ∃ (c : V) (cv : Value) (b : Bool), xs = [.ref a, c] ∧ (∀ u, RelV c u → u = cv) ∧ ExcC K D ∧ PySem.W.kitOne K (.ref D) cv = some b ∧ Q (.bl b) H
theorem call_isP {p : Addr × Obj} {D : Addr} (hp : p ∈ X.pn) (hz : Zc (.ref D) none p.2) (hf : ∃ fs, p.2.data = .fields fs) : CallR X (.builtin "isinstance") (rIsP X.K D p.1) := by
  intro pins s σ H xs us Q I r h
  obtain ⟨c, cv, b, rfl, hcv, C, e, q⟩ := h
  obtain ⟨u1, u2, rfl, rx, rt⟩ := vals2 r
  cases rx
  cases hcv _ rt
  obtain ⟨hget, _⟩ := I.pin p (List.mem_append_left _ hp)
  obtain ⟨fs, hv⟩ := hf
  have J : PySem.W.InstAt s.heap p.1 p.2 D none := by
    obtain ⟨a, oc, od, oda, osl⟩ := p
    obtain ⟨h1, h2⟩ := hz
    dsimp only at h1 h2 hv
    subst h1 h2 hv
    exact ⟨hget, rfl, rfl, trivial⟩
  exact PySem.W.kia_one (PySem.W.handS_kitx_exc C.hg C.hk C.hs C.hd C.ha C.hn C.ht C.hm) I.kIn J e (fun z => nomatch z) fun tk => ⟨.bl b, H, I.kept (t' := tk) fun _ _ z => z, rfl, q⟩
/-- f(e, ..) within the suite that holds e -/
def tCallP (sp : Addr → Addr → Sp) (a D : Addr) (t : TA) : TE := fun σ H Q => t σ H fun vs H1 => sp a D vs H1 Q E0
theorem pe_callP {p : Addr × Obj} {D : Addr} {k : Nat} {f : Addr} {fd : FuncData} {ps : List Str} {sp : Addr → Addr → Sp} {x : Str} {q pos : Pos} {e : Expr} {es : List Expr} {t : TA} (hp : p ∈ X.pn) (hz : Zc (.ref D) none p.2) (hf : ∃ fs, p.2.data = .fields fs)
    (F : FnE X.prog X.w X.K X.mg X.base k f fd ps sp) (hr : RoomH k X.A) (hg : Gl X x) (hm : X.mg x = some (.ref f)) (hk : PySem.W.keepIn X.K (.ref f) = true) (hb : Binds X.K fd ps []) (ha : PA X (e :: es) t)
    (h0 : (x == ("__debug__" : Str)) = false := by decide) (h1 : starEach (e :: es) X.env = (false, eval e X.env) :: starEach es X.env := by rfl) (h2 : (backTo pos (starEach es X.env)).any (·.1) = false := by rfl) :
    PE X (.Call (.Name x q) (e :: es) [] pos) (tCallP sp p.1 D t) := by
  refine ⟨fun pins s σ H Q I h => ?_⟩
  refine wpAny_Call_Name_kw (ld_glob I hg hm (PySem.W.callWith_K (h₀ := X.base) I.ok.mod.kin hk (thn (ha.run pos pins s σ H _ I h) fun us s1 ⟨vs, H1, I1, r, q⟩ => ⟨I1.kIn, ?_⟩) h1 h2) h0)
  have hl : us.length = ps.length := by rw [← r.length]; exact F.len _ _ _ _ _ _ q
  have b := hb s1 us I1.kIn (by rw [List.append_nil]; exact hl)
  rw [List.append_nil] at b
  have P1 := I1.pin p (List.mem_append_left _ hp)
  have pin : PinOk X.stack H1 s1 p := ⟨P1.1, P1.2.1, fun hm => (List.mem_cons.mp (I1.stkSub p.1 hm)).elim P1.2.2.1 P1.2.2.2.1, P1.2.2.2.2⟩
  refine wpAny_call (codeAny_mono (F.run X.A X.stack s1 H1 ⟨us, []⟩ us vs Q p D hr pin hz hf I1.env0 b r q) fun r s' hq => ?_)
  cases r with
  | error e => exact False.elim hq
  | ok fl =>
    cases fl with
    | ret u => exact I1.after hq
    | next => exact False.elim hq
    | brk => exact False.elim hq
    | cont => exact False.elim hq
/-- the suite, by the class of what is caught -/
theorem pss_exc {sts : List Stmt} {cls : Value} {d : Option Addr} {ts : Addr → TS} (h : ∀ D, cls = .ref D → d = none → PSs X sts (ts D)) : PSs X sts (fun E σ H => ∃ D, cls = .ref D ∧ d = none ∧ ts D E σ H) :=
  ⟨fun pins s σ H E I ⟨D, h1, h2, q⟩ => (h D h1 h2).run pins s σ H E I q⟩
end
/-- what is told of a caught error by isinstance, for four classes -/
def spMarks (K : PySem.W.Frag) (c1 c2 c3 c4 : Addr) : Addr → Addr → Sp := fun a D vs H Q _ => ∃ b1 b2 b3 b4 : Bool, vs = [.ref a] ∧ ExcC K D ∧ PySem.W.kitOne K (.ref D) (.ref c1) = some b1 ∧ PySem.W.kitOne K (.ref D) (.ref c2) = some b2 ∧ PySem.W.kitOne K (.ref D) (.ref c3) = some b3 ∧ PySem.W.kitOne K (.ref D) (.ref c4) = some b4 ∧
  ∀ p, H p = none → Q (.ref p) (upd H p (.lst [.bl b1, .bl b2, .bl b3, .bl b4]))
/-- sack_of asked, and what came of it: the list of the marks, or None -/
def spTold02 (K : PySem.W.Frag) : Sp := fun vs H Q _ => ∃ (a : Addr) (xs : List V), vs = [.ref a] ∧ SqL K H a xs ∧ xs.length ≤ 2000 ∧ (∀ x ∈ xs, Odd K H x) ∧
  (((xs = [] ∨ ∃ x ∈ xs, lowOk x = false) ∧ ∀ p H2, H p = none → Ex H H2 → H2 p = some (.lst [.bl true, .bl false, .bl false, .bl false, .bl true]) → Q (.ref p) H2) ∨
  ∃ b : Nat, b < 2 ^ 256 ∧ b ≠ 0 ∧ (∀ x ∈ xs, ∃ k : Nat, x = nV k) ∧ (∀ k : Nat, nV k ∈ xs ↔ b.testBit k = true) ∧ ∀ H2, Ex H H2 → Q .non H2)
/-! the laws' own bodies -/
/-- the law: a list of ints is handed in, True comes back -/
def spLaw (K : PySem.W.Frag) : Sp := fun vs H Q _ => ∃ (a : Addr) (ns : List Int), vs = [.ref a] ∧ SqL K H a (ns.map V.int) ∧ ns.length ≤ 63 ∧ ∀ H', Q (.bl true) H'
section
variable {σ : L2.St} {H : Hp} {te tl ta tb : TE} {tr : TS} {D : Ends} {i : Nat} {K : PySem.W.Frag}
theorem w_asgP (M : V → Hp → Prop) (h : ∀ Q : VK, (∀ v H1, M v H1 → Q v H1) → te σ H Q) (k : ∀ v H1, M v H1 → tr D (σ.set i (some v)) H1) : tSeq (tAsg te (gName i)) tr D σ H := h _ k
/-- a new list with these items -/
def NL (te : TE) (σ : L2.St) (H : Hp) (xs : List V) : Prop := ∀ H1, Ex H H1 → ∀ Q : VK, (∀ p H2, Ex H1 H2 → H2 p = some (.lst xs) → Q (.ref p) H2) → te σ H1 Q
theorem nl_one {v : V} (h : Ev te σ H v) : NL (tLst (tCons te tNil)) σ H [v] := fun H1 e _ q =>
  h H1 e _ fun H2 e2 => ⟨by show 1 ≤ sizeLine; decide, fun p hp => q _ _ (e2.trans (Ex.new hp)) upd_same⟩
theorem nl_nil : NL (tLst tNil) σ H [] := fun H1 e _ q => ⟨by show 0 ≤ sizeLine; decide, fun p hp => q _ _ (Ex.new hp) upd_same⟩
theorem nl_cat {xs ys : List V} (h1 : NL ta σ H xs) (h2 : NL tb σ H ys) (hl : xs.length + ys.length ≤ 100000) : NL (tOp rCat ta tb) σ H (xs ++ ys) := fun H1 e _ q =>
  h1 H1 e _ fun p H2 e2 hp => h2 H2 (e.trans e2) _ fun p3 H3 e3 hp3 => ⟨p, p3, xs, ys, rfl, rfl, e3 p _ hp, hp3, sz_of hl, fun p4 h4 => q _ _ ((e2.trans e3).trans (Ex.new h4)) upd_same⟩
theorem nl_take {a : Addr} {xs : List V} {m : Nat} (h : Ev te σ H (.ref a)) (hs : SqL K H a xs) (hm : Ev ta σ H (nV m)) : NL (tSl (rSlL K) te tNoPart (tPart ta)) σ H (xs.take m) := fun H1 e _ q =>
  h H1 e _ fun H2 e2 => hm H2 (e.trans e2) _ fun H3 e3 => ⟨_, rfl, a, xs, rfl, ex_l ((e.trans e2).trans e3) hs, fun p hp => q _ _ ((e2.trans e3).trans (Ex.new hp)) (by
    rw [upd_same]
    unfold cutV
    rw [HT.sIx_nat, HT.sIx_none, List.drop_zero, Nat.sub_zero]
    congr 2
    by_cases c : m ≤ xs.length
    · rw [Nat.min_eq_left c]
    · rw [Nat.min_eq_right (by omega), List.take_of_length_le (Nat.le_refl _), List.take_of_length_le (by omega)])⟩
theorem nl_drop {a : Addr} {xs : List V} {m : Nat} (h : Ev te σ H (.ref a)) (hs : SqL K H a xs) (hm : Ev ta σ H (nV m)) : NL (tSl (rSlL K) te (tPart ta) tNoPart) σ H (xs.drop m) := fun H1 e _ q =>
  h H1 e _ fun H2 e2 => hm H2 (e.trans e2) _ fun H3 e3 => ⟨_, rfl, a, xs, rfl, ex_l ((e.trans e2).trans e3) hs, fun p hp => q _ _ ((e2.trans e3).trans (Ex.new hp)) (by
    rw [upd_same]
    unfold cutV
    rw [HT.sIx_nat, HT.sIx_none]
    congr 2
    by_cases c : m ≤ xs.length
    · rw [Nat.min_eq_left c, List.take_of_length_le (by rw [List.length_drop]; omega)]
    · rw [Nat.min_eq_right (by omega), List.drop_eq_nil_of_le (Nat.le_refl _), List.drop_eq_nil_of_le (by omega), List.take_nil])⟩
end
/-- told of a list that sack_of refuses -/
theorem nl_refused {σ : L2.St} {H : Hp} {te : TE} {K : PySem.W.Frag} {xs : List V} (h : NL te σ H xs) (hl : xs.length ≤ 2000) (ho : ∀ H1, Ex H H1 → ∀ x ∈ xs, Odd K H1 x) (hb : xs = [] ∨ ∃ x ∈ xs, lowOk x = false) :
    NL (tCall (spTold02 K) [] E0 (tCons te tNil)) σ H [.bl true, .bl false, .bl false, .bl false, .bl true] := fun H1 e _ q =>
  h H1 e _ fun p H2 e2 hp => ⟨p, xs, rfl, SqL.of hp, hl, ho _ (e.trans e2), .inl ⟨hb, fun p3 H3 _ e3 h3 => q _ _ (e2.trans e3) h3⟩⟩
/-- the marks that a refusal of sack_of must have -/
abbrev refD : PyData := .list [.bool true, .bool false, .bool false, .bool false, .bool true]
theorem refD_shaped : SeqAt.shaped refD = true := by
  unfold SeqAt.shaped
  simp [PyData.canLay0, PyData.canLayAll0, PyData.depth, PyData.depthAll]
theorem eqv_self {d : PyData} (h : SeqAt.shaped d = true) : PyData.eqv d d = true := SeqAt.eqv_refl d (SeqAt.canLay_of_shaped h)
theorem canLay_nats : ∀ ns : List Nat, PyData.canLayAll0 (ns.map natD) = true ∧ PyData.depthAll (ns.map natD) ≤ 1
  | [] => ⟨by simp [PyData.canLayAll0], by simp [PyData.depthAll]⟩
  | n :: r => by
    have := canLay_nats r
    refine ⟨by simp [PyData.canLayAll0, PyData.canLay0, this.1], ?_⟩
    simp [PyData.depthAll, PyData.depth, this.2]
theorem canLay_pairs : ∀ ps : List (Nat × Nat), PyData.canLayAll0 (ps.map pairD) = true ∧ PyData.depthAll (ps.map pairD) ≤ 1
  | [] => ⟨by simp [PyData.canLayAll0], by simp [PyData.depthAll]⟩
  | p :: r => by
    have ih := canLay_pairs r
    refine ⟨by simp [PyData.canLayAll0, PyData.canLay0, ih.1], ?_⟩
    have := ih.2
    simp [PyData.depthAll, PyData.depth]
    omega
theorem shaped_form (b : Nat) : SeqAt.shaped (formD b) = true := by
  have two : ∀ (k : Str) (d : PyData), PyData.strOk k = true → PyData.canLay0 d = true → PyData.depth d ≤ 10 → SeqAt.shaped (.tuple [.str k, d]) = true := by
    intro k d h0 h1 h2
    unfold SeqAt.shaped
    rw [Bool.and_eq_true]
    exact ⟨by simp [PyData.canLay0, PyData.canLayAll0, h0, h1], decide_eq_true (by simp [PyData.depth, PyData.depthAll]; omega)⟩
  have hn : PyData.strOk (nameOf b) = true := by
    unfold nameOf
    split
    · decide +kernel
    · split <;> decide +kernel
  have nats : ∀ ns : List Nat, PyData.canLay0 (.tuple (ns.map natD)) = true ∧ PyData.depth (.tuple (ns.map natD)) ≤ 10 := by
    intro ns
    have := canLay_nats ns
    exact ⟨by simp [PyData.canLay0, this.1], by simp [PyData.depth]; omega⟩
  rw [form_told]
  unfold toldD
  split
  · exact two _ _ hn (nats _).1 (nats _).2
  · split
    · have := (shaped_pairs (runsOf (lows b))).2
      have h1 : PyData.canLay0 (.tuple ((runsOf (lows b)).map pairD)) = true := SeqAt.canLay_of_shaped this
      refine two _ _ hn h1 (by have := (canLay_pairs (runsOf (lows b))).2; simp [PyData.depth]; omega)
    · have := nats ((List.range 4).map (wordAt b))
      rw [List.map_map] at this
      exact two _ _ hn this.1 this.2
/-! from the written part to facts -/
theorem ki_self {K : PySem.W.Frag} {C : Addr} : PySem.W.kitOne K (.ref C) (.ref C) = some true := by
  unfold PySem.W.kitOne
  rw [if_pos (beq_self_eq_true (Value.ref C))]
theorem ki_ref {K : PySem.W.Frag} {D C : Addr} {b : Bool} (h0 : (Value.ref D == Value.ref C) = false) (h1 : PySem.W.isClsIn K C = true) (h2 : PySem.W.typeIn K (.ref C) = some (.type "type")) (h3 : PySem.W.subIn K (.ref D) (.ref C) = some b) :
    PySem.W.kitOne K (.ref D) (.ref C) = some b := by
  unfold PySem.W.kitOne
  rw [h0]
  have h1' : (PySem.W.clsIn K C).isSome = true := h1
  show (if ((PySem.W.clsIn K C).isSome && PySem.W.typeIn K (.ref C) == some (.type "type")) = true then PySem.W.subIn K (.ref D) (.ref C) else none) = some b
  rw [h1', h2]
  exact h3
theorem ki_ty {K : PySem.W.Frag} {D : Addr} {T : String} {b : Bool} (h1 : PySem.W.kitMeta T = true) (h3 : PySem.W.subIn K (.ref D) (.type T) = some b) :
    PySem.W.kitOne K (.ref D) (.type T) = some b := by
  show (if PySem.W.kitMeta T = true then PySem.W.subIn K (.ref D) (.type T) else none) = some b
  rw [h1]
  exact h3
end K

namespace K
open PySem PySem.Spec PyProof.Rows L2 L2H Evl
local macro_rules | `(tactic| walk_at "side") => `(tactic| first | (show (0:Int) < _; omega) | (show (0:Int) ≤ _; omega) | (show CMul _ _; unfold CMul; omega) | (show CDiv _ _; unfold CDiv; omega) | (show CPow _ _; unfold CPow; omega))
local macro_rules | `(tactic| walk_at "val") => `(tactic| repeat' (first | exact val_c | exact val_var rfl | apply v_I0 | apply v_I | apply v_un | apply v_bits | apply v_len))

def topS (i : Nat) : Stmt := PySem.Challenge.pw_sackset_k02_no_sacks.main.body.getD i (.Pass ⟨0, 0, 0, 0⟩)
structure Tx (K : PySem.W.Frag) (mg : Str → Option Value) where
  f_Sack___init__ : Addr
  fd_Sack___init__ : FuncData
  F_Sack___init__ : Fun K "__init__" "Sack.__init__" (inClass (topS 13) 0) f_Sack___init__ fd_Sack___init__
  b_Sack___init__ : Binds K fd_Sack___init__ ["self", "kind", "told", "weight"] []
  f_Sack_form : Addr
  fd_Sack_form : FuncData
  F_Sack_form : Fun K "form" "Sack.form" (inClass (topS 13) 1) f_Sack_form fd_Sack_form
  b_Sack_form : Binds K fd_Sack_form ["self"] []
  f_Sack_weight : Addr
  fd_Sack_weight : FuncData
  F_Sack_weight : Fun K "weight" "Sack.weight" (inClass (topS 13) 3) f_Sack_weight fd_Sack_weight
  b_Sack_weight : Binds K fd_Sack_weight ["self"] []
  f_RowSack___init__ : Addr
  fd_RowSack___init__ : FuncData
  F_RowSack___init__ : Fun K "__init__" "RowSack.__init__" (inClass (topS 14) 0) f_RowSack___init__ fd_RowSack___init__
  b_RowSack___init__ : Binds K fd_RowSack___init__ ["self", "lows"] []
  f_RunsSack___init__ : Addr
  fd_RunsSack___init__ : FuncData
  F_RunsSack___init__ : Fun K "__init__" "RunsSack.__init__" (inClass (topS 15) 0) f_RunsSack___init__ fd_RunsSack___init__
  b_RunsSack___init__ : Binds K fd_RunsSack___init__ ["self", "pairs"] []
  f_BitsSack___init__ : Addr
  fd_BitsSack___init__ : FuncData
  F_BitsSack___init__ : Fun K "__init__" "BitsSack.__init__" (inClass (topS 16) 0) f_BitsSack___init__ fd_BitsSack___init__
  b_BitsSack___init__ : Binds K fd_BitsSack___init__ ["self", "words"] []
  f_sack_of : Addr
  fd_sack_of : FuncData
  F_sack_of : Fun K "sack_of" "sack_of" (topS 17) f_sack_of fd_sack_of
  m_sack_of : mg "sack_of" = some (.ref f_sack_of)
  b_sack_of : Binds K fd_sack_of ["lows"] []
  f_is_low : Addr
  fd_is_low : FuncData
  F_is_low : Fun K "is_low" "is_low" (topS 18) f_is_low fd_is_low
  m_is_low : mg "is_low" = some (.ref f_is_low)
  b_is_low : Binds K fd_is_low ["low"] []
  f_rising_lows : Addr
  fd_rising_lows : FuncData
  F_rising_lows : Fun K "rising_lows" "rising_lows" (topS 19) f_rising_lows fd_rising_lows
  m_rising_lows : mg "rising_lows" = some (.ref f_rising_lows)
  b_rising_lows : Binds K fd_rising_lows ["lows"] []
  f_pairs_of : Addr
  fd_pairs_of : FuncData
  F_pairs_of : Fun K "pairs_of" "pairs_of" (topS 20) f_pairs_of fd_pairs_of
  m_pairs_of : mg "pairs_of" = some (.ref f_pairs_of)
  b_pairs_of : Binds K fd_pairs_of ["rising"] []
  f_words_of : Addr
  fd_words_of : FuncData
  F_words_of : Fun K "words_of" "words_of" (topS 21) f_words_of fd_words_of
  m_words_of : mg "words_of" = some (.ref f_words_of)
  b_words_of : Binds K fd_words_of ["rising"] []
  f__law_cell_at : Addr
  fd__law_cell_at : FuncData
  F__law_cell_at : Fun K "_law_cell_at" "_law_cell_at" (topS 23) f__law_cell_at fd__law_cell_at
  m__law_cell_at : mg "_law_cell_at" = some (.ref f__law_cell_at)
  b__law_cell_at : Binds K fd__law_cell_at ["_law_script", "_law_k"] []
  f__law_lows : Addr
  fd__law_lows : FuncData
  F__law_lows : Fun K "_law_lows" "_law_lows" (topS 24) f__law_lows fd__law_lows
  m__law_lows : mg "_law_lows" = some (.ref f__law_lows)
  b__law_lows : Binds K fd__law_lows ["_law_bits"] []
  f__law_runs : Addr
  fd__law_runs : FuncData
  F__law_runs : Fun K "_law_runs" "_law_runs" (topS 25) f__law_runs fd__law_runs
  m__law_runs : mg "_law_runs" = some (.ref f__law_runs)
  b__law_runs : Binds K fd__law_runs ["_law_lows_here"] []
  f__law_form : Addr
  fd__law_form : FuncData
  F__law_form : Fun K "_law_form" "_law_form" (topS 26) f__law_form fd__law_form
  m__law_form : mg "_law_form" = some (.ref f__law_form)
  b__law_form : Binds K fd__law_form ["_law_bits"] []
  f__law_pattern : Addr
  fd__law_pattern : FuncData
  F__law_pattern : Fun K "_law_pattern" "_law_pattern" (topS 27) f__law_pattern fd__law_pattern
  m__law_pattern : mg "_law_pattern" = some (.ref f__law_pattern)
  b__law_pattern : Binds K fd__law_pattern ["_law_cell"] []
  f__law_marks : Addr
  fd__law_marks : FuncData
  F__law_marks : Fun K "_law_marks" "_law_marks" (topS 28) f__law_marks fd__law_marks
  m__law_marks : mg "_law_marks" = some (.ref f__law_marks)
  b__law_marks : Binds K fd__law_marks ["_law_e"] []
  f__law_told : Addr
  fd__law_told : FuncData
  F__law_told : Fun K "_law_told" "_law_told" (topS 29) f__law_told fd__law_told
  m__law_told : mg "_law_told" = some (.ref f__law_told)
  b__law_told : Binds K fd__law_told ["_law_lows_here"] []
  f_law : Addr
  fd_law : FuncData
  F_law : Fun K "law" "law" (topS 30) f_law fd_law
  m_law : mg "law" = some (.ref f_law)
  b_law : Binds K fd_law ["_law_script"] []
  t_LOWS : Tok
  m_LOWS : mg "LOWS" = some (.int 256 t_LOWS)
  t_WORD_SIZE : Tok
  m_WORD_SIZE : mg "WORD_SIZE" = some (.int 64 t_WORD_SIZE)
  t_WORDS : Tok
  m_WORDS : mg "WORDS" = some (.int 4 t_WORDS)
  t_PAIR_WEIGHT : Tok
  m_PAIR_WEIGHT : mg "PAIR_WEIGHT" = some (.int 2 t_PAIR_WEIGHT)
  t_BITS_WEIGHT : Tok
  m_BITS_WEIGHT : mg "BITS_WEIGHT" = some (.int 32 t_BITS_WEIGHT)
  z_ValueError : mg "ValueError" = none
  z_int : mg "int" = none
  z_isinstance : mg "isinstance" = none
  z_len : mg "len" = none
  z_range : mg "range" = none
  z_set : mg "set" = none
  z_sorted : mg "sorted" = none
  z_tuple : mg "tuple" = none
  z_type : mg "type" = none
  c_SackError : Addr
  m_SackError : mg "SackError" = some (.ref c_SackError)
  c_NoNumber : Addr
  m_NoNumber : mg "NoNumber" = some (.ref c_NoNumber)
  x_NoNumber : PySem.W.excIn K c_NoNumber [.type "ValueError", .type "Exception", .type "BaseException", .type "object"] "ValueError.__new__" = true
  k_NoNumber : PySem.W.keepIn K (.ref c_NoNumber) = true
  b_NoNumber : PySem.W.subIn K (.ref c_NoNumber) (.type "BaseException") = some true
  t_NoNumber : PySem.W.typeIn K (.ref c_NoNumber) = some (.type "type")
  c_NoStretch : Addr
  m_NoStretch : mg "NoStretch" = some (.ref c_NoStretch)
  c_NoRank : Addr
  m_NoRank : mg "NoRank" = some (.ref c_NoRank)
  c_NoText : Addr
  m_NoText : mg "NoText" = some (.ref c_NoText)
  c_Sack : Addr
  m_Sack : mg "Sack" = some (.ref c_Sack)
  c_RowSack : Addr
  m_RowSack : mg "RowSack" = some (.ref c_RowSack)
  cl_RowSack : Cls K c_RowSack
  mk_RowSack : Mk K c_RowSack f_RowSack___init__
  me_RowSack_form : Meth K c_RowSack "form" f_Sack_form
  me_RowSack_weight : Meth K c_RowSack "weight" f_Sack_weight
  na_RowSack__kind : NoAttr K c_RowSack "_kind"
  na_RowSack__told : NoAttr K c_RowSack "_told"
  na_RowSack__weight : NoAttr K c_RowSack "_weight"
  c_RunsSack : Addr
  m_RunsSack : mg "RunsSack" = some (.ref c_RunsSack)
  cl_RunsSack : Cls K c_RunsSack
  mk_RunsSack : Mk K c_RunsSack f_RunsSack___init__
  me_RunsSack_form : Meth K c_RunsSack "form" f_Sack_form
  me_RunsSack_weight : Meth K c_RunsSack "weight" f_Sack_weight
  na_RunsSack__kind : NoAttr K c_RunsSack "_kind"
  na_RunsSack__told : NoAttr K c_RunsSack "_told"
  na_RunsSack__weight : NoAttr K c_RunsSack "_weight"
  c_BitsSack : Addr
  m_BitsSack : mg "BitsSack" = some (.ref c_BitsSack)
  cl_BitsSack : Cls K c_BitsSack
  mk_BitsSack : Mk K c_BitsSack f_BitsSack___init__
  me_BitsSack_form : Meth K c_BitsSack "form" f_Sack_form
  na_BitsSack__kind : NoAttr K c_BitsSack "_kind"
  na_BitsSack__told : NoAttr K c_BitsSack "_told"
  na_BitsSack__weight : NoAttr K c_BitsSack "_weight"
  ec_NoNumber : ExcC K c_NoNumber
  ki_NoNumber_NoNumber : PySem.W.kitOne K (.ref c_NoNumber) (.ref c_NoNumber) = some true
  ki_NoNumber_NoStretch : PySem.W.kitOne K (.ref c_NoNumber) (.ref c_NoStretch) = some false
  ki_NoNumber_NoRank : PySem.W.kitOne K (.ref c_NoNumber) (.ref c_NoRank) = some false
  ki_NoNumber_NoText : PySem.W.kitOne K (.ref c_NoNumber) (.ref c_NoText) = some false
  ki_NoNumber_ValueError : PySem.W.kitOne K (.ref c_NoNumber) (.type "ValueError") = some true
  cf_Sack___init__ : ClsFn K c_Sack "__init__" f_Sack___init__
  exm_NoNumber_SackError : PySem.W.exmOne K (.ref c_NoNumber) (.ref c_SackError) = some true
end K

namespace K
open PySem PySem.Spec PyProof.Rows L2 L2H Evl
local macro_rules | `(tactic| walk_at "side") => `(tactic| first | (show (0:Int) < _; omega) | (show (0:Int) ≤ _; omega) | (show CMul _ _; unfold CMul; omega) | (show CDiv _ _; unfold CDiv; omega) | (show CPow _ _; unfold CPow; omega))
local macro_rules | `(tactic| walk_at "val") => `(tactic| repeat' (first | exact val_c | exact val_var rfl | apply v_I0 | apply v_I | apply v_un | apply v_bits | apply v_len))
section
variable {P : Program} {w : World} {K : PySem.W.Frag} {mg : Str → Option Value} {base : Heap}
theorem sc__law_cell_at : FnScope ["_law_script", "_law_k", "_law_cell", "_law_one", "_law_two"] ["_law_script", "_law_k"] (defScope (topS 23)) := ⟨rfl, rfl, rfl, by decide +kernel, rfl, by decide +kernel, by decide +kernel⟩
theorem ok__law_cell_at (T : Tx K mg) : FnOk P w K mg base CX0 1 T.f__law_cell_at T.fd__law_cell_at ["_law_script", "_law_k"] (spCell K) := by
  refine T.F__law_cell_at.ok sc__law_cell_at (fun vs H Q E h => ?_) (fun cdv A outer s H vs Q E hr h => ?_)
  · obtain ⟨a, ns, k, rfl, _⟩ := h
    rfl
  · obtain ⟨a, ns, k, rfl, hS, hk, q⟩ := h
    refine ⟨_, (pss_cons (ps_set (i := 2) sc__law_cell_at.nd rfl (.inl rfl) pe_int)
 (pss_cut (ps_if (pt_cmpR op_gt (pe_callB call_len_seq (by rfl) T.z_len PySem.boot_len (pa_cons (pv 0) pa_nil)) pe_int (nomark _)) (pss_one (ps_set (i := 2) sc__law_cell_at.nd rfl (.inl rfl) (pe_ix ix_list (pv 0) (pe_op op_mod (pv 1) (pe_callB call_len_seq (by rfl) T.z_len PySem.boot_len (pa_cons (pv 0) pa_nil))) (fun _ _ => rfl)))) pss_nil)
 (pss_cons (ps_set (i := 3) sc__law_cell_at.nd rfl (.inl rfl) (pe_op op_mod (pe_op op_add (pe_op op_add (pe_op op_add (pe_op op_mul (pv 2) pe_int) (pe_op op_mul (pe_op op_mul pe_int (pv 1)) (pv 1))) (pe_op op_mul pe_int (pv 1))) pe_int) pe_int))
 (pss_cons (ps_set (i := 4) sc__law_cell_at.nd rfl (.inl rfl) (pe_op op_mod (pe_op op_mul (pe_op op_mod (pe_op op_mul (pv 3) (pv 3)) pe_int) pe_int) pe_int))
 (pss_one (ps_ret (pe_op op_add (pe_op op_mul (pe_op op_mod (pe_op op_mul (pv 4) (pv 4)) pe_int) pe_int) (pv 4)))))))), ?_⟩
    refine w_asg val_c ?_
    have len : ∀ σ : L2.St, σ[0]? = some (some (V.ref a)) → Val (tCB (fun xs H Q => ∃ p ys, xs = [V.ref p] ∧ (SqL K H p ys ∨ SqT K H p ys) ∧ Q (.int ys.length) H) (tCons (tVar 0) tNil)) σ H (.int (ns.length : Int)) := fun σ e =>
      v_eq (v_len (val_var e) (.inl hS)) (by rw [List.length_map])
    refine w_cut (M := fun σ' H' => H' = H ∧ σ' = [some (.ref a), some (nV k), some (.int (atR ns k)), none, none]) ?_ ?_
    · refine z_if (a_test (v_I0 (len _ rfl) val_c)) (fun hb => ?_) (fun hb => ?_)
      · have h0 := of_decide_eq_true hb
        have hm : k % ns.length < ns.length := Nat.mod_lt _ (by omega)
        refine st_set (v_ixL (v := .int (atR ns k)) (val_var rfl) (v_I (val_var rfl) (len _ rfl) h0) hS ?_) ⟨rfl, rfl⟩
        have e : ((k : Int) % (ns.length : Int)) = ((k % ns.length : Nat) : Int) := by omega
        refine at_of (j := k % ns.length) e ?_
        rw [List.getElem?_map, List.getElem?_eq_getElem hm]
        unfold atR
        rw [if_neg (by omega), List.getD_eq_getElem?_getD, List.getElem?_eq_getElem hm]
        rfl
      · have h0 := of_decide_eq_false hb
        refine ⟨rfl, ?_⟩
        unfold atR
        rw [if_pos (by omega)]
        rfl
    · rintro σ' H' ⟨rfl, rfl⟩
      refine w_asg (v := .int (c1 ns k)) ?_ ?_
      · unfold c1
        walk_at "val"
        all_goals first | (show (0:Int) < _; decide) | (show CMul _ _; unfold CMul; omega)
      · have b1 := c1_b ns k
        refine w_asg (v := .int (c2 ns k)) ?_ ?_
        · unfold c2
          walk_at "val"
          all_goals first | (show (0:Int) < _; decide) | (show CMul _ _; unfold CMul; omega)
        · have b2 := c2_b ns k
          refine st_ret (v := .int (cellI ns k)) ?_ (by rw [← cellAt_i]; exact q)
          unfold cellI
          walk_at "val"
          all_goals first | (show (0:Int) < _; decide) | (show CMul _ _; unfold CMul; omega)

end
end K

namespace K
open PySem PySem.Spec PyProof.Rows L2 L2H Evl
local macro_rules | `(tactic| walk_at "side") => `(tactic| first | (show (0:Int) < _; omega) | (show (0:Int) ≤ _; omega) | (show CMul _ _; unfold CMul; omega) | (show CDiv _ _; unfold CDiv; omega) | (show CPow _ _; unfold CPow; omega))
local macro_rules | `(tactic| walk_at "val") => `(tactic| repeat' (first | exact val_c | exact val_var rfl | apply v_I0 | apply v_I | apply v_un | apply v_bits | apply v_len))
section
variable {P : Program} {w : World} {K : PySem.W.Frag} {mg : Str → Option Value} {base : Heap}
theorem sc__law_lows : FnScope ["_law_bits", "_law_found"] ["_law_bits"] (defScope (topS 24)) := ⟨rfl, rfl, rfl, by decide +kernel, rfl, by decide +kernel, by decide +kernel⟩
theorem ok__law_lows (T : Tx K mg) : FnOk P w K mg base CX0 1 T.f__law_lows T.fd__law_lows ["_law_bits"] spLows := by
  refine T.F__law_lows.ok sc__law_lows (fun vs H Q E h => ?_) (fun cdv A outer s H vs Q E hr h => ?_)
  · obtain ⟨b, rfl, _⟩ := h
    rfl
  · obtain ⟨b, rfl, hb, q⟩ := h
    refine ⟨_, (pss_cons (ps_set (i := 1) sc__law_lows.nd rfl (.inl rfl) (pe_lst pa_nil))
 (pss_cons (ps_while PassesOwn.never (pt_cmpR op_gt (pv 0) pe_int (nomark _)) (pss_cons (ps_expr (pe_bm PySem.F.plainAttrs_list PySem.F.slot_list_append PySem.F.type_list_append mt_append (pv 1) (pa_cons (pe_op op_sub (pe_bits (pe_op op_and (pv 0) (pe_un un_neg (pv 0)))) pe_int) pa_nil)))
 (pss_one (ps_aug (i := 0) sc__law_lows.nd rfl (.inl rfl) (pe_op op_sub (pv 0) pe_int) ip_andI))))
 (pss_one (ps_ret (pv 1))))), ?_⟩
    refine w_asgL (xs := []) (fun _ q => q) (by decide) fun p hp => ?_
    refine w_while (fun n σ' H' => ∃ m c : Nat, n = 256 - m ∧ m ≤ 256 ∧ σ' = [some (nV c), some (.ref p)] ∧ Rest b m c ∧ Ex H H' ∧ H' p = some (.lst ((lowsTo b m).map nV))) 256
      ⟨0, b, rfl, by decide, rfl, Rest.start b, Ex.new hp, upd_same⟩ fun n σ' H' hw => ?_
    obtain ⟨m, c, rfl, hm, rfl, hR, hE, hP⟩ := hw
    refine ⟨decide ((0 : Int) < (c : Int)), a_test (by walk_at "val"), fun h1 => ?_, fun h1 => ?_⟩
    · have hc : 0 < c := by
        have := of_decide_eq_true h1
        omega
      obtain ⟨t, r, rfl⟩ := odd_part c hc
      obtain ⟨hmt, htl, e1, hR2⟩ := hR.turn hb
      have e2 := and_pred t r
      have e3 : 2 ^ t * (2 * r + 1) - 2 ^ (t + 1) * r = 2 ^ t := by
        have e1 : 2 ^ t * (2 * r + 1) = 2 ^ (t + 1) * r + 2 ^ t := by
          rw [Nat.mul_add, Nat.mul_one, Nat.pow_succ, Nat.mul_assoc]
        rw [e1]
        exact Nat.add_sub_cancel_left ..
      refine w_app (xs := (lowsTo b m).map nV) (v := nV t) hP (val_var rfl) ?_ ?_ ?_
      · refine' v_eq ?_ ?_
        walk_at "val"
        rw [and_neg hc, e2, e3, bits_pow]
        show V.int _ = V.int _
        congr 1
        omega
      · rw [List.length_map]
        have : (lowsTo b m).length ≤ m := by
          unfold lowsTo
          have h := List.length_filter_le b.testBit (List.range m)
          rw [List.length_range] at h
          exact h
        omega
      · refine' z_aug rfl ?_ ?_
        rotate_left
        walk_at "val"
        have e4 : Builtin.bitAnd ((2 ^ t * (2 * r + 1) : Nat) : Int) (((2 ^ t * (2 * r + 1) : Nat) : Int) - 1) = ((2 ^ (t + 1) * r : Nat) : Int) := by
          rw [show (((2 ^ t * (2 * r + 1) : Nat) : Int) - 1) = ((2 ^ t * (2 * r + 1) - 1 : Nat) : Int) by omega, and_nat, e2]
        rw [e4]
        refine ⟨256 - (t + 1), by omega, t + 1, _, rfl, by omega, rfl, hR2, hE.mut hp, ?_⟩
        rw [upd_same, e1, List.map_append]
        rfl
    · have hc : c = 0 := by
        have := of_decide_eq_false h1
        omega
      subst hc
      rw [hR.done hm] at hP
      exact st_ret (val_var rfl) (q p H' hp hE hP)

end
end K

namespace K
open PySem PySem.Spec PyProof.Rows L2 L2H Evl
local macro_rules | `(tactic| walk_at "side") => `(tactic| first | (show (0:Int) < _; omega) | (show (0:Int) ≤ _; omega) | (show CMul _ _; unfold CMul; omega) | (show CDiv _ _; unfold CDiv; omega) | (show CPow _ _; unfold CPow; omega))
local macro_rules | `(tactic| walk_at "val") => `(tactic| repeat' (first | exact val_c | exact val_var rfl | apply v_I0 | apply v_I | apply v_un | apply v_bits | apply v_len))
section
variable {P : Program} {w : World} {K : PySem.W.Frag} {mg : Str → Option Value} {base : Heap}
theorem sc_is_low : FnScope ["low"] ["low"] (defScope (topS 18)) := ⟨rfl, rfl, rfl, by decide +kernel, rfl, by decide +kernel, by decide +kernel⟩
theorem tym_int : TyM "int" := PySem.TypeEq.meta_int
theorem ok_is_low (T : Tx K mg) : FnOk P w K mg base CX0 1 T.f_is_low T.fd_is_low ["low"] (spIsLow K) := by
  refine T.F_is_low.ok sc_is_low (fun vs H Q E h => ?_) (fun cdv A outer s H vs Q E hr h => ?_)
  · obtain ⟨x, rfl, _⟩ := h
    rfl
  · obtain ⟨x, rfl, ⟨ty, ht, hm⟩, q⟩ := h
    refine ⟨_, (pss_one (ps_ret (pe_and (pe_cmpR op_eqTy (pe_callTy call_type1 (by rfl) T.z_type (by decide +kernel) (pa_cons (pv 0) pa_nil)) (pe_bltn (v := .ty "int") (u := .type "int") rfl T.z_int (by decide +kernel) rfl) (nomark _)) (pe_one (pe_chain op_le op_lt pe_int (pv 0) (pe_glob (v := .int 256) rfl T.m_LOWS ⟨_, rfl⟩)))))), ?_⟩
    refine ⟨_, rfl, x, ty, rfl, ht, ty, "int", rfl, rfl, hm, tym_int, _, rfl, ?_⟩
    by_cases e : ty = "int"
    · subst e
      obtain ⟨i, rfl⟩ : ∃ i, x = .int i := by
        generalize hg : "int" = ty at ht
        cases ht with
        | int i => exact ⟨i, rfl⟩
        | _ => exact absurd hg (by decide)
      rw [if_pos (decide_eq_true rfl)]
      refine ⟨_, rfl, _, i, rfl, rfl, _, rfl, ?_⟩
      have hq : Q (.bl (decide (0 ≤ i) && decide (i < 256))) H := q
      cases h0 : decide (0 ≤ i) with
      | false =>
        rw [h0] at hq
        exact hq
      | true =>
        rw [h0] at hq
        exact ⟨_, _, rfl, rfl, hq⟩
    · have hx : lowOk x = false := by
        cases ht with
        | int i => exact absurd rfl e
        | _ => rfl
      rw [hx] at q
      rw [if_neg (by rw [decide_eq_false e]; exact Bool.false_ne_true)]
      exact q

end
end K

namespace K
open PySem PySem.Spec PyProof.Rows L2 L2H Evl
local macro_rules | `(tactic| walk_at "side") => `(tactic| first | (show (0:Int) < _; omega) | (show (0:Int) ≤ _; omega) | (show CMul _ _; unfold CMul; omega) | (show CDiv _ _; unfold CDiv; omega) | (show CPow _ _; unfold CPow; omega))
local macro_rules | `(tactic| walk_at "val") => `(tactic| repeat' (first | exact val_c | exact val_var rfl | apply v_I0 | apply v_I | apply v_un | apply v_bits | apply v_len))
section
variable {P : Program} {w : World} {K : PySem.W.Frag} {mg : Str → Option Value} {base : Heap}
theorem sc_rising_lows : FnScope ["lows", "low"] ["lows"] (defScope (topS 19)) := ⟨rfl, rfl, rfl, by decide +kernel, rfl, by decide +kernel, by decide +kernel⟩
theorem ok_rising_lows (T : Tx K mg) : FnOk P w K mg base (L2.CX P w) 2 T.f_rising_lows T.fd_rising_lows ["lows"] (spRising K T.c_NoNumber) := by
  refine T.F_rising_lows.okX sc_rising_lows (fun vs H Q E h => ?_) (fun cdv A outer s H vs Q E hr h => ?_)
  · obtain ⟨a, xs, rfl, _⟩ := h
    rfl
  · obtain ⟨a, xs, rfl, hS, hl, hodd, hq⟩ := h
    have G_is_low := ok_is_low (P := P) (w := w) (base := base) T
    refine ⟨_, (pss_cons (ps_if (pt_not (pt_truth (pv 0) (fun _ => rfl))) (pss_one (ps_raise rfl (takes_of rfl rfl rfl rfl) (pmk_own PySem.F.excBase_ValueError T.x_NoNumber T.m_NoNumber T.k_NoNumber (raises_own T.b_NoNumber T.t_NoNumber) (by exact rfl)))) pss_nil)
 (pss_cons (ps_for (passes_of rfl) rfl (pi_list (pv 0)) (pg_name (i := 1) sc_rising_lows.nd rfl (.inl rfl)) (pss_one (ps_if (pt_not (pt_truth (pe_call G_is_low (hr.mono (by decide)) (by rfl) T.m_is_low T.F_is_low.kp T.b_is_low .nil pass0 (pa_cons (pv 1) pa_nil)) (fun _ => rfl))) (pss_one (ps_raise rfl (takes_of rfl rfl rfl rfl) (pmk_own PySem.F.excBase_ValueError T.x_NoNumber T.m_NoNumber T.k_NoNumber (raises_own T.b_NoNumber T.t_NoNumber) (by exact rfl)))) pss_nil)))
 (pss_one (ps_ret (pe_callB (cr_sortedS2 rfl) (by rfl) T.z_sorted (by decide +kernel) (pa_cons (pe_callTy (cr_setL rfl) (by rfl) T.z_set (by decide +kernel) (pa_cons (pv 0) pa_nil)) pa_nil)))))), ?_⟩
    refine w_when (b := xs.isEmpty) (fun Q' q' => ⟨_, rfl, !xs.isEmpty, .inl ⟨xs, hS, rfl⟩, ?_⟩) (fun h0 => ?_) (fun h0 => ?_)
    · show Q' (!!xs.isEmpty) H
      rw [Bool.not_not]
      exact q'
    · rcases hq with ⟨_, qE⟩ | ⟨b, hb, hb0, hn, hm, _⟩
      · exact qE
      · have e := List.isEmpty_iff.mp h0
        subst e
        refine absurd (Nat.eq_of_testBit_eq fun j => ?_) hb0
        rw [Nat.zero_testBit]
        cases h : b.testBit j with
        | false => rfl
        | true => exact absurd ((hm j).mpr h) (by simp)
    have ne : xs ≠ [] := fun e => by
      subst e
      exact absurd h0 (by simp)
    refine w_forLn (val_var rfl) hS (fun i σ' H' => H' = H ∧ (∃ y, σ' = [some (.ref a), y]) ∧ ∀ x ∈ xs.take i, lowOk x = true) ⟨rfl, ⟨none, rfl⟩, fun x hx => by simp at hx⟩ (fun i σ' H' _ ⟨e, _⟩ => e ▸ hS) ?_ ?_
    · rintro i x σ' H' hx ⟨rfl, ⟨y, rfl⟩, hok⟩
      have hm : x ∈ xs := List.mem_of_getElem? hx
      refine ⟨_, rfl, x, rfl, hodd x hm, lowOk x, rfl, ?_⟩
      cases e : lowOk x with
      | false =>
        rcases hq with ⟨_, qE⟩ | ⟨b, hb, hb0, hn, hmb, _⟩
        · exact qE
        · obtain ⟨k, rfl⟩ := hn x hm
          have hk : b.testBit k = true := (hmb k).mp hm
          have hk2 := lows_lt ((lows_mem hb).mpr hk)
          have : lowOk (nV k) = true := by
            show (decide ((0 : Int) ≤ (k : Int)) && decide ((k : Int) < 256)) = true
            rw [decide_eq_true (Int.natCast_nonneg k), decide_eq_true (by omega)]
            rfl
          rw [this] at e
          cases e
      | true =>
        refine ⟨rfl, ⟨_, rfl⟩, fun z hz => ?_⟩
        rw [List.take_add_one, hx, List.mem_append] at hz
        rcases hz with hz | hz
        · exact hok z hz
        · cases (List.mem_singleton.mp hz)
          exact e
    · rintro σ' H' ⟨rfl, ⟨y, rfl⟩, hok⟩
      rw [List.take_length] at hok
      rcases hq with ⟨hbad, _⟩ | ⟨b, hb, hb0, hn, hm, q⟩
      · rcases hbad with e | ⟨x, hx, e⟩
        · exact absurd e ne
        · rw [hok x hx] at e
          cases e
      · obtain ⟨ns, rfl⟩ : ∃ ns : List Nat, xs = ns.map nV := by
          clear hS hl hodd hm hok ne h0
          induction xs with
          | nil => exact ⟨[], rfl⟩
          | cons x r ih =>
            obtain ⟨k, rfl⟩ := hn x List.mem_cons_self
            obtain ⟨ns, rfl⟩ := ih fun z hz => hn z (List.mem_cons_of_mem _ hz)
            exact ⟨k :: ns, rfl⟩
        have mem : ∀ k : Nat, k ∈ ns ↔ b.testBit k = true := fun k => by
          rw [← hm k, List.mem_map]
          refine ⟨fun h => ⟨k, h, rfl⟩, ?_⟩
          rintro ⟨j, hj, e⟩
          have : j = k := by
            have := V.int.inj e
            omega
          exact this ▸ hj
        have e1 : ns.map nV = (ns.map fun n : Nat => (n : Int)).map V.int := by
          rw [List.map_map]
          rfl
        have hS' := hS
        rw [e1] at hS'
        have hl' : ns.length ≤ 2000 := by rwa [List.length_map] at hl
        refine ⟨_, rfl, a, _, rfl, hS', ?_, fun p n hp hn => ?_⟩
        · rw [List.length_map]
          exact Nat.lt_of_le_of_lt (Nat.succ_le_succ hl') (by decide)
        · rw [List.length_map] at hn
          refine ⟨p, _, n, rfl, upd_same, by omega, fun zs r hz hmem hr => ?_⟩
          have ez : zs = (lows b).map fun n : Nat => (n : Int) := by
            refine ris_ext hz (List.pairwise_map.mpr ((lows_ris b).imp fun h => by omega)) fun k => ?_
            rw [hmem, decide_eq_true_iff, List.mem_map, List.mem_map]
            constructor
            · rintro ⟨j, hj, e⟩
              exact ⟨j, (lows_mem hb).mpr ((mem j).mp hj), e⟩
            · rintro ⟨j, hj, e⟩
              exact ⟨j, (mem j).mpr ((lows_mem hb).mp hj), e⟩
          subst ez
          have e2 : ((lows b).map fun n : Nat => (n : Int)).map V.int = (lows b).map nV := by
            rw [List.map_map]
            rfl
          refine q r _ (fresh_back (Ex.new hp) hr) ((Ex.new hp).trans (Ex.new hr)) ?_
          rw [upd_same, e2]

end
end K

namespace K
open PySem PySem.Spec PyProof.Rows L2 L2H Evl
local macro_rules | `(tactic| walk_at "side") => `(tactic| first | (show (0:Int) < _; omega) | (show (0:Int) ≤ _; omega) | (show CMul _ _; unfold CMul; omega) | (show CDiv _ _; unfold CDiv; omega) | (show CPow _ _; unfold CPow; omega))
local macro_rules | `(tactic| walk_at "val") => `(tactic| repeat' (first | exact val_c | exact val_var rfl | apply v_I0 | apply v_I | apply v_un | apply v_bits | apply v_len))
section
variable {P : Program} {w : World} {K : PySem.W.Frag} {mg : Str → Option Value} {base : Heap}
theorem sc_pairs_of : FnScope ["rising", "pairs", "first", "last", "number"] ["rising"] (defScope (topS 20)) := ⟨rfl, rfl, rfl, by decide +kernel, rfl, by decide +kernel, by decide +kernel⟩
theorem ok_pairs_of (T : Tx K mg) : FnOk P w K mg base CX0 1 T.f_pairs_of T.fd_pairs_of ["rising"] (spPairs K) := by
  refine T.F_pairs_of.ok sc_pairs_of (fun vs H Q E h => ?_) (fun cdv A outer s H vs Q E hr h => ?_)
  · obtain ⟨a, rs, rfl, _⟩ := h
    rfl
  · obtain ⟨a, rs, rfl, hS, hne, hris, hl, q⟩ := h
    refine ⟨_, (pss_cons (ps_set (i := 1) sc_pairs_of.nd rfl (.inl rfl) (pe_lst pa_nil))
 (pss_cons (ps_asg2 (pe_ix ix_list (pv 0) pe_int (fun _ _ => rfl)) (pg_name (i := 2) sc_pairs_of.nd rfl (.inl rfl)) (pg_name (i := 3) sc_pairs_of.nd rfl (.inl rfl)))
 (pss_cons (ps_for PassesOwn.never rfl (pi_list (pe_slice sl_list (pv 0) (po_some pe_int) po_none)) (pg_name (i := 4) sc_pairs_of.nd rfl (.inl rfl)) (pss_cut (ps_if (pt_cmpR op_gt (pv 4) (pe_op op_add (pv 3) pe_int) (nomark _)) (pss_cons (ps_expr (pe_bm PySem.F.plainAttrs_list PySem.F.slot_list_append PySem.F.type_list_append mt_append (pv 1) (pa_cons (pe_tup (pa_cons (pv 2) (pa_cons (pv 3) pa_nil))) pa_nil)))
 (pss_one (ps_set (i := 2) sc_pairs_of.nd rfl (.inl rfl) (pv 4)))) pss_nil)
 (pss_one (ps_set (i := 3) sc_pairs_of.nd rfl (.inl rfl) (pv 4)))))
 (pss_cons (ps_expr (pe_bm PySem.F.plainAttrs_list PySem.F.slot_list_append PySem.F.type_list_append mt_append (pv 1) (pa_cons (pe_tup (pa_cons (pv 2) (pa_cons (pv 3) pa_nil))) pa_nil)))
 (pss_one (ps_ret (pe_callTy call_tuple_of (by rfl) T.z_tuple (by decide +kernel) (pa_cons (pv 1) pa_nil)))))))), ?_⟩
    refine w_asgL (xs := []) (fun _ q => q) (by decide) fun p hp => ?_
    have e0 : Ex H (upd H p (.lst [])) := Ex.new hp
    obtain ⟨r0, rt, rfl⟩ : ∃ r0 rt, rs = r0 :: rt := by
      cases rs with
      | nil => exact absurd rfl hne
      | cons r0 rt => exact ⟨r0, rt, rfl⟩
    -- first = last = rising[0]
    refine v_ixL (v := nV r0) (val_var rfl) val_c (ex_l e0 hS) (atI_nat (j := 0) rfl) _ ?_
    -- a pair is put behind the others
    have put : ∀ (H1 : Hp) (ts : List V) (f l n : Nat) (ds : List (Nat × Nat)) (t : Addr), H1 t = none → Ex H H1 → H1 p = some (.lst ts) → DpAll K H1 ts (ds.map pairD) →
        Ex H (upd (upd H1 t (.tup [nV f, nV l])) p (.lst (ts ++ [.ref t]))) ∧ (∀ c xs, H1 c = some (.lst xs) → p ≠ c → (upd (upd H1 t (.tup [nV f, nV l])) p (.lst (ts ++ [.ref t]))) c = some (.lst xs)) ∧
          DpAll K (upd (upd H1 t (.tup [nV f, nV l])) p (.lst (ts ++ [.ref t]))) (ts ++ [.ref t]) ((ds ++ [(f, l)]).map pairD) := by
      intro H1 ts f l n ds t ht hE hP hD
      have e2 : Ex H1 (upd H1 t (.tup [nV f, nV l])) := Ex.new ht
      have h2 := e2 p _ hP
      have e3 := (Tups.ex e2).trans (Tups.upd (p := p) (o' := .lst (ts ++ [.ref t])) h2 trivial)
      refine ⟨(hE.trans e2).mut hp, fun c xs hc hne => ?_, ?_⟩
      · rw [upd_ne hne.symm]
        exact e2 c _ hc
      · rw [List.map_append]
        refine dpAll_append (dpAll_tups e3 _ _ (noL_pairs _) hD) (.cons (.tup (.inl (.inl ?_)) (.cons (.int _) (.cons (.int _) .nil))) .nil)
        rw [upd_ne (ne_of_none hP ht).symm, upd_same]
    -- the slice
    refine q_forNLn (el_sl (ev_var rfl) (eo_some ev_c) eo_none (ex_l e0 hS)) (fun c i σ' H' => ∃ (ts : List V) (f l : Nat) (y : Option V) (ds : List (Nat × Nat)), σ' = [some (.ref a), some (.ref p), some (nV f), some (nV l), y] ∧ p ≠ c ∧ Ex H H' ∧ H' p = some (.lst ts) ∧ H' c = some (.lst (rt.map nV)) ∧
      DpAll K H' ts (ds.map pairD) ∧ runsOf ((r0 :: rt).take (i + 1)) = ds ++ [(f, l)] ∧ (r0 :: rt)[i]? = some l ∧ ds.length ≤ i) ?_ ?_ ?_ ?_
    · intro c H1 hc e1 h1
      have h1' : H1 p = some (.lst []) := e1 p _ upd_same
      refine ⟨[], r0, r0, none, [], rfl, ne_of_none (o := .lst []) upd_same hc, e0.trans e1, h1', ?_, .nil, rfl, rfl, Nat.zero_le _⟩
      rw [h1, List.map_cons, cut_tail]
    · intro c i σ' H' _ ⟨ts, f, l, y, ds, _, _, _, _, h5, _⟩
      rw [List.map_cons, cut_tail]
      exact SqL.of h5
    · rintro c i x σ' H' hx ⟨ts, f, l, y, ds, rfl, hpc, hE, hP, hC, hD, hR, hL, hlen⟩
      rw [List.map_cons, cut_tail] at hx
      obtain ⟨n, hn, rfl⟩ : ∃ n, rt[i]? = some n ∧ x = nV n := by
        rw [List.getElem?_map] at hx
        cases e : rt[i]? with
        | none => rw [e] at hx; cases hx
        | some n => rw [e] at hx; exact ⟨n, rfl, (Option.some.inj hx).symm⟩
      have hn' : (r0 :: rt)[i + 1]? = some n := hn
      have hlt := ris_step hris hL hn'
      have go := runs_go hn' hR
      have hil : i < rt.length := (List.getElem?_eq_some_iff.mp hn).1
      have hlt2 : ts.length < 100000 := by
        have := dpAll_len hD
        rw [List.length_map] at this
        rw [List.length_cons] at hl
        omega
      refine w_cut (M := fun σ2 H2 => ∃ (ts : List V) (f : Nat) (ds : List (Nat × Nat)), σ2 = [some (.ref a), some (.ref p), some (nV f), some (nV l), some (nV n)] ∧ Ex H H2 ∧ H2 p = some (.lst ts) ∧ H2 c = some (.lst (rt.map nV)) ∧ DpAll K H2 ts (ds.map pairD) ∧ runsOf ((r0 :: rt).take (i + 1 + 1)) = ds ++ [(f, n)] ∧ ds.length ≤ i + 1) ?_ ?_
      · refine z_if (a_test (v_I0 (val_var rfl) (v_I0 (val_var rfl) val_c))) (fun hc => ?_) (fun hc => ?_)
        · have h1 : ¬ l + 1 = n := by
            have := of_decide_eq_true hc
            omega
          rw [if_neg h1] at go
          refine ⟨_, rfl, Or.inl ⟨rfl, ts, SqL.of hP⟩, _, rfl, _, rfl, by show 2 ≤ sizeLine; decide, fun t ht => ?_⟩
          obtain ⟨g1, g2, g3⟩ := put H' ts f l n ds t ht hE hP hD
          refine ⟨p, ts, .ref t, rfl, rfl, (Ex.new ht) p _ hP, sz_lt hlt2, ?_⟩
          exact st_set (val_var rfl) ⟨_, n, ds ++ [(f, l)], rfl, g1, upd_same, g2 c _ hC hpc, g3, go, by rw [List.length_append, List.length_singleton]; omega⟩
        · have h1 : l + 1 = n := by
            have := of_decide_eq_false hc
            omega
          rw [if_pos h1] at go
          exact ⟨ts, f, ds, rfl, hE, hP, hC, hD, go, by omega⟩
      · rintro σ2 H2 ⟨ts, f, ds, rfl, hE, hP, hC, hD, hR, hlen⟩
        exact st_set (val_var rfl) ⟨ts, f, n, _, ds, rfl, hpc, hE, hP, hC, hD, hR, hn', hlen⟩
    · rintro c σ' H' ⟨ts, f, l, y, ds, rfl, hpc, hE, hP, hC, hD, hR, hL, hlen⟩
      rw [List.map_cons, cut_tail, List.length_map] at hR hlen
      rw [show (r0 :: rt).take (rt.length + 1) = r0 :: rt from List.take_of_length_le (Nat.le_refl _)] at hR
      have hlt2 : ts.length < 100000 := by
        have := dpAll_len hD
        rw [List.length_map] at this
        rw [List.length_cons] at hl
        omega
      refine ⟨_, rfl, Or.inl ⟨rfl, ts, SqL.of hP⟩, _, rfl, _, rfl, by show 2 ≤ sizeLine; decide, fun t ht => ?_⟩
      obtain ⟨g1, g2, g3⟩ := put H' ts f l 0 ds t ht hE hP hD
      refine ⟨p, ts, .ref t, rfl, rfl, (Ex.new ht) p _ hP, sz_lt hlt2, ?_⟩
      refine ⟨_, rfl, p, _, rfl, .inl ⟨SqL.of upd_same, fun z hz => ?_⟩⟩
      refine q z _ _ (g1.trans (Ex.new hz)) (fresh_back g1 hz) upd_same ?_
      rw [hR]
      exact dpAll_ex (Ex.new hz) _ _ g3

end
end K

namespace K
open PySem PySem.Spec PyProof.Rows L2 L2H Evl
local macro_rules | `(tactic| walk_at "side") => `(tactic| first | (show (0:Int) < _; omega) | (show (0:Int) ≤ _; omega) | (show CMul _ _; unfold CMul; omega) | (show CDiv _ _; unfold CDiv; omega) | (show CPow _ _; unfold CPow; omega))
local macro_rules | `(tactic| walk_at "val") => `(tactic| repeat' (first | exact val_c | exact val_var rfl | apply v_I0 | apply v_I | apply v_un | apply v_bits | apply v_len))
section
variable {P : Program} {w : World} {K : PySem.W.Frag} {mg : Str → Option Value} {base : Heap}
theorem sc_words_of : FnScope ["rising", "words", "low"] ["rising"] (defScope (topS 21)) := ⟨rfl, rfl, rfl, by decide +kernel, rfl, by decide +kernel, by decide +kernel⟩
theorem ok_words_of (T : Tx K mg) : FnOk P w K mg base CX0 1 T.f_words_of T.fd_words_of ["rising"] (spWords K) := by
  refine T.F_words_of.ok sc_words_of (fun vs H Q E h => ?_) (fun cdv A outer s H vs Q E hr h => ?_)
  · obtain ⟨a, b, rfl, _⟩ := h
    rfl
  · obtain ⟨a, b, rfl, hS, hb, q⟩ := h
    refine ⟨_, (pss_cons (ps_set (i := 1) sc_words_of.nd rfl (.inl rfl) (pe_op op_rep (pe_lst (pa_cons pe_int pa_nil)) (pe_glob (v := .int 4) rfl T.m_WORDS ⟨_, rfl⟩)))
 (pss_cons (ps_for PassesOwn.never rfl (pi_list (pv 0)) (pg_name (i := 2) sc_words_of.nd rfl (.inl rfl)) (pss_one (ps_augS (pv 1) (pe_op op_fdiv (pv 2) (pe_glob (v := .int 64) rfl T.m_WORD_SIZE ⟨_, rfl⟩)) get_listN (pe_op op_shl pe_int (pe_op op_mod (pv 2) (pe_glob (v := .int 64) rfl T.m_WORD_SIZE ⟨_, rfl⟩))) iop_or set_list)))
 (pss_one (ps_ret (pe_callTy call_tuple_of (by rfl) T.z_tuple (by decide +kernel) (pa_cons (pv 1) pa_nil)))))), ?_⟩
    refine ⟨by show 1 ≤ sizeLine; decide, fun z hz => ?_⟩
    refine ⟨z, 4, [nV 0], rfl, rfl, upd_same, by decide, by decide, by show 4 ≤ sizeLine; decide, fun p hp => ?_⟩
    have e0 : Ex H (upd (upd H z (.lst [nV 0])) p (.lst (List.replicate (4 : Int).toNat [nV 0]).flatten)) := (Ex.new hz).trans (Ex.new hp)
    have p0 : H p = none := fresh_back (Ex.new hz) hp
    have w0 : ∀ k, wordAt (bitsOf []) k = 0 := fun k => by
      unfold wordAt bitsOf
      simp
    refine w_forLn (val_var rfl) (ex_l e0 hS) (fun i σ' H' => (∃ y, σ' = [some (.ref a), some (.ref p), y]) ∧ Ex H H' ∧ H' p = some (.lst ((List.range 4).map fun k => nV (wordAt (bitsOf ((lows b).take i)) k)))) ⟨⟨none, rfl⟩, e0, by rw [upd_same, List.take_zero]; simp only [w0]; rfl⟩ (fun i σ' H' _ ⟨_, e, _⟩ => ex_l e hS) ?_ ?_
    · rintro i x σ' H' hx ⟨⟨y, rfl⟩, hE, hP⟩
      obtain ⟨n, hn, rfl⟩ : ∃ n, (lows b)[i]? = some n ∧ x = nV n := by
        rw [List.getElem?_map] at hx
        cases e : (lows b)[i]? with
        | none => rw [e] at hx; cases hx
        | some n => rw [e] at hx; exact ⟨n, rfl, (Option.some.inj hx).symm⟩
      have h256 : n < 256 := lows_lt (List.mem_of_getElem? hn)
      have step := bits_take hn
      have q4 : n / 64 < 4 := by omega
      generalize bitsOf ((lows b).take i) = c at hP step
      have hg : ((List.range 4).map fun k => nV (wordAt c k))[n / 64]? = some (nV (wordAt c (n / 64))) := by
        rw [List.getElem?_map, List.getElem?_range (by omega)]
        rfl
      refine ⟨_, rfl, _, rfl, _, 64, rfl, rfl, ⟨by decide, by decide⟩, p, _, n / 64, _, rfl, rfl, SqL.of hP, hg, ?_⟩
      refine ⟨_, rfl, _, 64, rfl, rfl, show (0 : Int) < 64 by decide, _, _, rfl, rfl, ?_, _, _, rfl, rfl, ?_⟩
      · show CPow _ _
        unfold CPow
        omega
      · refine ⟨p, _, _, n / 64, rfl, rfl, hP, ?_, ⟨_, rfl⟩, hE.mut p0, ?_⟩
        · exact ixN_nat (by rw [List.length_map, List.length_range]; exact q4)
        · rw [upd_same, step]
          congr 2
          have ev : (1 : Int) * 2 ^ ((n : Int) % 64).toNat = ((2 ^ (n % 64) : Nat) : Int) := shl1 (n := n % 64) (by omega)
          show (List.map (fun k => nV (wordAt c k)) (List.range 4)).set (n / 64) (V.int (Builtin.bitOr ((wordAt c (n / 64) : Nat) : Int) ((1 : Int) * 2 ^ ((n : Int) % 64).toNat))) = _
          rw [ev, or_nat]
          refine List.ext_getElem? fun k => ?_
          rw [List.getElem?_set, List.getElem?_map, List.getElem?_map, List.length_map, List.length_range]
          by_cases hk : n / 64 = k
          · subst hk
            rw [if_pos rfl, if_pos (by omega), List.getElem?_range (by omega)]
            show some (V.int _) = some (nV (wordAt (c ||| 2 ^ n) (n / 64)))
            rw [word_or_at]
          · rw [if_neg hk]
            by_cases h4 : k < 4
            · rw [List.getElem?_range h4]
              show some (nV (wordAt c k)) = some (nV (wordAt (c ||| 2 ^ n) k))
              rw [word_or_ne c n hk]
            · rw [List.getElem?_eq_none (by rw [List.length_range]; omega)]
              rfl
    · rintro σ' H' ⟨⟨y, rfl⟩, hE, hP⟩
      rw [List.length_map, List.take_length, bits_lows hb] at hP
      refine ⟨_, rfl, p, _, rfl, .inl ⟨SqL.of hP, fun t ht => ?_⟩⟩
      exact q t _ (hE.trans (Ex.new ht)) (fresh_back hE ht) upd_same

end
end K

namespace K
open PySem PySem.Spec PyProof.Rows L2 L2H Evl
local macro_rules | `(tactic| walk_at "side") => `(tactic| first | (show (0:Int) < _; omega) | (show (0:Int) ≤ _; omega) | (show CMul _ _; unfold CMul; omega) | (show CDiv _ _; unfold CDiv; omega) | (show CPow _ _; unfold CPow; omega))
local macro_rules | `(tactic| walk_at "val") => `(tactic| repeat' (first | exact val_c | exact val_var rfl | apply v_I0 | apply v_I | apply v_un | apply v_bits | apply v_len))
section
variable {P : Program} {w : World} {K : PySem.W.Frag} {mg : Str → Option Value} {base : Heap}
theorem sc_Sack___init__ : FnScope ["self", "kind", "told", "weight"] ["self", "kind", "told", "weight"] (defScope (inClass (topS 13) 0)) := ⟨rfl, rfl, rfl, by decide +kernel, rfl, by decide +kernel, by decide +kernel⟩
theorem ok_Sack___init__ (T : Tx K mg) : FnOk P w K mg base CX0 1 T.f_Sack___init__ T.fd_Sack___init__ ["self", "kind", "told", "weight"] (spInit K) := by
  refine T.F_Sack___init__.ok sc_Sack___init__ (fun vs H Q E h => ?_) (fun cdv A outer s H vs Q E hr h => ?_)
  · obtain ⟨p, dx, C, k, t, w, rfl, _⟩ := h
    rfl
  · obtain ⟨p, dx, C, k, t, w, rfl, hp, c, q⟩ := h
    refine ⟨_, (pss_cons (ps_fld (pv 0) (pv 1) rfl)
 (pss_cons (ps_fld (pv 0) (pv 2) rfl)
 (pss_one (ps_fld (pv 0) (pv 3) rfl)))), ?_⟩
    refine ⟨_, rfl, _, rfl, p, C, dx, [], rfl, hp, c.cl, c.nk, (by show 0 < 1000; decide), ?_⟩
    refine ⟨_, rfl, _, rfl, p, C, dx, _, rfl, upd_same, c.cl, c.nt, (by show 1 < 1000; decide), ?_⟩
    refine ⟨_, rfl, _, rfl, p, C, dx, _, rfl, upd_same, c.cl, c.nw, ?_, ?_⟩
    · show (putF "_told" t ([(("_kind" : Str), V.str k)] : List (Str × V))).length < 1000
      rw [put_past (by decide +kernel)]
      show 2 < 1000
      decide
    · rw [upd_upd, upd_upd, sf_new]
      exact q

end
end K

namespace K
open PySem PySem.Spec PyProof.Rows L2 L2H Evl
local macro_rules | `(tactic| walk_at "side") => `(tactic| first | (show (0:Int) < _; omega) | (show (0:Int) ≤ _; omega) | (show CMul _ _; unfold CMul; omega) | (show CDiv _ _; unfold CDiv; omega) | (show CPow _ _; unfold CPow; omega))
local macro_rules | `(tactic| walk_at "val") => `(tactic| repeat' (first | exact val_c | exact val_var rfl | apply v_I0 | apply v_I | apply v_un | apply v_bits | apply v_len))
section
variable {P : Program} {w : World} {K : PySem.W.Frag} {mg : Str → Option Value} {base : Heap}
theorem sc_RowSack___init__ : FnScope ["self", "lows"] ["self", "lows"] (defScope (inClass (topS 14) 0)) := ⟨rfl, rfl, rfl, by decide +kernel, rfl, by decide +kernel, by decide +kernel⟩
theorem ok_RowSack___init__ (T : Tx K mg) : FnOk P w K mg base CX0 2 T.f_RowSack___init__ T.fd_RowSack___init__ ["self", "lows"] (spInitK K T.c_RowSack "row" rowW) := by
  refine T.F_RowSack___init__.ok sc_RowSack___init__ (fun vs H Q E h => ?_) (fun cdv A outer s H vs Q E hr h => ?_)
  · obtain ⟨p, dx, t, xs, rfl, _⟩ := h
    rfl
  · obtain ⟨p, dx, t, xs, rfl, hp, c, ht, hl, q⟩ := h
    have G_Sack___init__ := ok_Sack___init__ (P := P) (w := w) (base := base) T
    refine ⟨_, (pss_one (ps_expr (pe_clsfn (pe_glob (v := .ref T.c_Sack) rfl T.m_Sack rfl) T.cf_Sack___init__ G_Sack___init__ (hr.mono (by decide)) T.b_Sack___init__ .nil pass0 (pa_cons (pv 0) (pa_cons pe_str (pa_cons (pv 1) (pa_cons (pe_callB call_len_seq (by rfl) T.z_len PySem.boot_len (pa_cons (pv 1) pa_nil)) pa_nil))))))), ?_⟩
    exact ⟨rfl, _, rfl, _, rfl, _, rfl, t, xs, rfl, .inr ht, p, dx, T.c_RowSack, _, _, _, rfl, hp, c, q⟩

end
end K

namespace K
open PySem PySem.Spec PyProof.Rows L2 L2H Evl
local macro_rules | `(tactic| walk_at "side") => `(tactic| first | (show (0:Int) < _; omega) | (show (0:Int) ≤ _; omega) | (show CMul _ _; unfold CMul; omega) | (show CDiv _ _; unfold CDiv; omega) | (show CPow _ _; unfold CPow; omega))
local macro_rules | `(tactic| walk_at "val") => `(tactic| repeat' (first | exact val_c | exact val_var rfl | apply v_I0 | apply v_I | apply v_un | apply v_bits | apply v_len))
section
variable {P : Program} {w : World} {K : PySem.W.Frag} {mg : Str → Option Value} {base : Heap}
theorem sc_RunsSack___init__ : FnScope ["self", "pairs"] ["self", "pairs"] (defScope (inClass (topS 15) 0)) := ⟨rfl, rfl, rfl, by decide +kernel, rfl, by decide +kernel, by decide +kernel⟩
theorem ok_RunsSack___init__ (T : Tx K mg) : FnOk P w K mg base CX0 2 T.f_RunsSack___init__ T.fd_RunsSack___init__ ["self", "pairs"] (spInitK K T.c_RunsSack "runs" runsW) := by
  refine T.F_RunsSack___init__.ok sc_RunsSack___init__ (fun vs H Q E h => ?_) (fun cdv A outer s H vs Q E hr h => ?_)
  · obtain ⟨p, dx, t, xs, rfl, _⟩ := h
    rfl
  · obtain ⟨p, dx, t, xs, rfl, hp, c, ht, hl, q⟩ := h
    have G_Sack___init__ := ok_Sack___init__ (P := P) (w := w) (base := base) T
    refine ⟨_, (pss_one (ps_expr (pe_clsfn (pe_glob (v := .ref T.c_Sack) rfl T.m_Sack rfl) T.cf_Sack___init__ G_Sack___init__ (hr.mono (by decide)) T.b_Sack___init__ .nil pass0 (pa_cons (pv 0) (pa_cons pe_str (pa_cons (pv 1) (pa_cons (pe_op op_mul (pe_glob (v := .int 2) rfl T.m_PAIR_WEIGHT ⟨_, rfl⟩) (pe_callB call_len_seq (by rfl) T.z_len PySem.boot_len (pa_cons (pv 1) pa_nil))) pa_nil))))))), ?_⟩
    refine ⟨rfl, _, rfl, _, rfl, _, rfl, t, xs, rfl, .inr ht, _, _, rfl, rfl, show CMul _ _ by unfold CMul; omega, p, dx, T.c_RunsSack, _, _, _, rfl, hp, c, q⟩

end
end K

namespace K
open PySem PySem.Spec PyProof.Rows L2 L2H Evl
local macro_rules | `(tactic| walk_at "side") => `(tactic| first | (show (0:Int) < _; omega) | (show (0:Int) ≤ _; omega) | (show CMul _ _; unfold CMul; omega) | (show CDiv _ _; unfold CDiv; omega) | (show CPow _ _; unfold CPow; omega))
local macro_rules | `(tactic| walk_at "val") => `(tactic| repeat' (first | exact val_c | exact val_var rfl | apply v_I0 | apply v_I | apply v_un | apply v_bits | apply v_len))
section
variable {P : Program} {w : World} {K : PySem.W.Frag} {mg : Str → Option Value} {base : Heap}
theorem sc_BitsSack___init__ : FnScope ["self", "words"] ["self", "words"] (defScope (inClass (topS 16) 0)) := ⟨rfl, rfl, rfl, by decide +kernel, rfl, by decide +kernel, by decide +kernel⟩
theorem ok_BitsSack___init__ (T : Tx K mg) : FnOk P w K mg base CX0 2 T.f_BitsSack___init__ T.fd_BitsSack___init__ ["self", "words"] (spInitK K T.c_BitsSack "bits" bitsW) := by
  refine T.F_BitsSack___init__.ok sc_BitsSack___init__ (fun vs H Q E h => ?_) (fun cdv A outer s H vs Q E hr h => ?_)
  · obtain ⟨p, dx, t, xs, rfl, _⟩ := h
    rfl
  · obtain ⟨p, dx, t, xs, rfl, hp, c, ht, hl, q⟩ := h
    have G_Sack___init__ := ok_Sack___init__ (P := P) (w := w) (base := base) T
    refine ⟨_, (pss_one (ps_expr (pe_clsfn (pe_glob (v := .ref T.c_Sack) rfl T.m_Sack rfl) T.cf_Sack___init__ G_Sack___init__ (hr.mono (by decide)) T.b_Sack___init__ .nil pass0 (pa_cons (pv 0) (pa_cons pe_str (pa_cons (pv 1) (pa_cons (pe_glob (v := .int 32) rfl T.m_BITS_WEIGHT ⟨_, rfl⟩) pa_nil))))))), ?_⟩
    exact ⟨rfl, _, rfl, _, rfl, p, dx, T.c_BitsSack, _, _, _, rfl, hp, c, q⟩

end
end K

namespace K
open PySem PySem.Spec PyProof.Rows L2 L2H Evl
local macro_rules | `(tactic| walk_at "side") => `(tactic| first | (show (0:Int) < _; omega) | (show (0:Int) ≤ _; omega) | (show CMul _ _; unfold CMul; omega) | (show CDiv _ _; unfold CDiv; omega) | (show CPow _ _; unfold CPow; omega))
local macro_rules | `(tactic| walk_at "val") => `(tactic| repeat' (first | exact val_c | exact val_var rfl | apply v_I0 | apply v_I | apply v_un | apply v_bits | apply v_len))
section
variable {P : Program} {w : World} {K : PySem.W.Frag} {mg : Str → Option Value} {base : Heap}
theorem sc_Sack_weight : FnScope ["self"] ["self"] (defScope (inClass (topS 13) 3)) := ⟨rfl, rfl, rfl, by decide +kernel, rfl, by decide +kernel, by decide +kernel⟩
theorem ok_Sack_weight (T : Tx K mg) : FnOk P w K mg base CX0 1 T.f_Sack_weight T.fd_Sack_weight ["self"] (spWeight K) := by
  refine T.F_Sack_weight.ok sc_Sack_weight (fun vs H Q E h => ?_) (fun cdv A outer s H vs Q E hr h => ?_)
  · obtain ⟨a, C, dx, k, t, w, rfl, _⟩ := h
    rfl
  · obtain ⟨a, C, dx, k, t, w, rfl, ha, c, q⟩ := h
    refine ⟨_, (pss_one (ps_ret (pe_fld (pv 0) rfl))), ?_⟩
    exact ⟨_, rfl, a, C, dx, _, _, rfl, ha, c.cl, c.nw, sf_weight k t w, q⟩

end
end K

namespace K
open PySem PySem.Spec PyProof.Rows L2 L2H Evl
local macro_rules | `(tactic| walk_at "side") => `(tactic| first | (show (0:Int) < _; omega) | (show (0:Int) ≤ _; omega) | (show CMul _ _; unfold CMul; omega) | (show CDiv _ _; unfold CDiv; omega) | (show CPow _ _; unfold CPow; omega))
local macro_rules | `(tactic| walk_at "val") => `(tactic| repeat' (first | exact val_c | exact val_var rfl | apply v_I0 | apply v_I | apply v_un | apply v_bits | apply v_len))
section
variable {P : Program} {w : World} {K : PySem.W.Frag} {mg : Str → Option Value} {base : Heap}
theorem sc_sack_of : FnScope ["lows", "rising", "row", "runs", "lighter"] ["lows"] (defScope (topS 17)) := ⟨rfl, rfl, rfl, by decide +kernel, rfl, by decide +kernel, by decide +kernel⟩
theorem ok_sack_of (T : Tx K mg) : FnOk P w K mg base (L2.CX P w) 4 T.f_sack_of T.fd_sack_of ["lows"] (spSackOf K T.c_NoNumber T.c_RowSack T.c_RunsSack T.c_BitsSack) := by
  refine T.F_sack_of.okX sc_sack_of (fun vs H Q E h => ?_) (fun cdv A outer s H vs Q E hr h => ?_)
  · obtain ⟨a, xs, rfl, _⟩ := h
    rfl
  · obtain ⟨a, xs, rfl, hS, hl, hodd, hq⟩ := h
    have G_rising_lows := ok_rising_lows (P := P) (w := w) (base := base) T
    have G_pairs_of := ok_pairs_of (P := P) (w := w) (base := base) T
    have G_words_of := ok_words_of (P := P) (w := w) (base := base) T
    have G_RowSack___init__ := ok_RowSack___init__ (P := P) (w := w) (base := base) T
    have G_RunsSack___init__ := ok_RunsSack___init__ (P := P) (w := w) (base := base) T
    have G_BitsSack___init__ := ok_BitsSack___init__ (P := P) (w := w) (base := base) T
    have G_Sack_weight := ok_Sack_weight (P := P) (w := w) (base := base) T
    have sR : SackCls K T.c_RowSack := ⟨T.cl_RowSack, T.na_RowSack__kind, T.na_RowSack__told, T.na_RowSack__weight⟩
    have sU : SackCls K T.c_RunsSack := ⟨T.cl_RunsSack, T.na_RunsSack__kind, T.na_RunsSack__told, T.na_RunsSack__weight⟩
    have sB : SackCls K T.c_BitsSack := ⟨T.cl_BitsSack, T.na_BitsSack__kind, T.na_BitsSack__told, T.na_BitsSack__weight⟩
    refine ⟨_, (pss_cons (ps_set (i := 1) sc_sack_of.nd rfl (.inl rfl) (pe_call G_rising_lows (hr.mono (by decide)) (by rfl) T.m_rising_lows T.F_rising_lows.kp T.b_rising_lows .nil (passes_call (takes_of rfl rfl rfl rfl) (fun _ _ _ _ h => h)) (pa_cons (pv 0) pa_nil)))
 (pss_cons (ps_set (i := 2) sc_sack_of.nd rfl (.inl rfl) (pe_make T.mk_RowSack G_RowSack___init__ (hr.mono (by decide)) rfl T.m_RowSack T.b_RowSack___init__ .nil pass0 (pa_cons (pe_callTy call_tuple_of (by rfl) T.z_tuple (by decide +kernel) (pa_cons (pv 1) pa_nil)) pa_nil)))
 (pss_cons (ps_set (i := 3) sc_sack_of.nd rfl (.inl rfl) (pe_make T.mk_RunsSack G_RunsSack___init__ (hr.mono (by decide)) rfl T.m_RunsSack T.b_RunsSack___init__ .nil pass0 (pa_cons (pe_call G_pairs_of (hr.mono (by decide)) (by rfl) T.m_pairs_of T.F_pairs_of.kp T.b_pairs_of .nil pass0 (pa_cons (pv 1) pa_nil)) pa_nil)))
 (pss_cons (ps_set (i := 4) sc_sack_of.nd rfl (.inl rfl) (pe_ifExp (pt_cmpR op_le (pe_meth0 (pv 2) T.cl_RowSack T.me_RowSack_weight G_Sack_weight (hr.mono (by decide)) T.b_Sack_weight .nil pass0) (pe_meth0 (pv 3) T.cl_RunsSack T.me_RunsSack_weight G_Sack_weight (hr.mono (by decide)) T.b_Sack_weight .nil pass0) (nomark _)) (pv 2) (pv 3)))
 (pss_cons (ps_if (pt_cmpR op_le (pe_either (pe_meth0 (pv 4) T.cl_RowSack T.me_RowSack_weight G_Sack_weight (hr.mono (by decide)) T.b_Sack_weight .nil pass0) (pe_meth0 (pv 4) T.cl_RunsSack T.me_RunsSack_weight G_Sack_weight (hr.mono (by decide)) T.b_Sack_weight .nil pass0)) (pe_glob (v := .int 32) rfl T.m_BITS_WEIGHT ⟨_, rfl⟩) (nomark _)) (pss_one (ps_ret (pv 4))) pss_nil)
 (pss_one (ps_ret (pe_make T.mk_BitsSack G_BitsSack___init__ (hr.mono (by decide)) rfl T.m_BitsSack T.b_BitsSack___init__ .nil pass0 (pa_cons (pe_call G_words_of (hr.mono (by decide)) (by rfl) T.m_words_of T.F_words_of.kp T.b_words_of .nil pass0 (pa_cons (pv 1) pa_nil)) pa_nil))))))))), ?_⟩
    refine ⟨_, rfl, a, xs, rfl, hS, hl, hodd, ?_⟩
    rcases hq with h | ⟨b, hb, hb0, hn, hm, q⟩
    · exact .inl h
    refine .inr ⟨b, hb, hb0, hn, hm, fun p H1 hp e1 h1 => ?_⟩
    have hl256 := lows_len b
    have hrl := runs_len (lows b)
    -- row = RowSack(tuple(rising))
    refine ⟨_, rfl, p, _, rfl, .inl ⟨SqL.of h1, fun t ht => ?_⟩⟩
    have e2 : Ex H1 (upd H1 t (.tup ((lows b).map nV))) := Ex.new ht
    refine new_sack (xs := (lows b).map nV) sR (.inl (.inl upd_same)) (by rw [List.length_map]; omega) fun x dx H2 hx e3 h3 => ?_
    -- runs = RunsSack(pairs_of(rising))
    have h2 : H2 p = some (.lst ((lows b).map nV)) := e3 p _ (e2 p _ h1)
    have ht2 : H2 t = some (.tup ((lows b).map nV)) := e3 t _ upd_same
    refine ⟨_, rfl, p, lows b, rfl, SqL.of h2, lows_ne hb hb0, lows_ris b, hl256, fun u ts H3 e4 hu h4 hd => ?_⟩
    have lenT : ts.length = (runsOf (lows b)).length := by
      rw [dpAll_len hd, List.length_map]
    refine new_sack (xs := ts) sU (.inl (.inl h4)) (by omega) fun y dy H4 hy e5 h5 => ?_
    have h3' : H4 x = some (.ins T.c_RowSack dx (sf "row" (.ref t) (rowW ((lows b).map nV)))) := e5 x _ (e4 x _ h3)
    have ew1 : rowW ((lows b).map nV) = ((lows b).length : Int) := by
      show (((lows b).map nV).length : Int) = _
      rw [List.length_map]
    have ew2 : runsW ts = ((2 * (runsOf (lows b)).length : Nat) : Int) := by
      show (2 : Int) * (ts.length : Int) = _
      rw [lenT]
      omega
    rw [ew1] at h3'
    rw [ew2] at h5
    have p0 : H x = none := fresh_back (e1.trans e2) hx
    have y0 : H y = none := fresh_back (((e1.trans e2).trans e3).trans e4) hy
    have eA : Ex H H4 := (((e1.trans e2).trans e3).trans e4).trans e5
    -- the lighter one
    refine ⟨_, rfl, x, dx, _, rfl, h3', sf_no _ _ _ (by decide +kernel) (by decide +kernel) (by decide +kernel), x, _, dx, _, _, _, rfl, h3', sR, _, rfl, y, dy, _, rfl, h5, sf_no _ _ _ (by decide +kernel) (by decide +kernel) (by decide +kernel), y, _, dy, _, _, _, rfl, h5, sU, _, _, rfl, rfl, _, rfl, ?_⟩
    -- the words, where both are too heavy
    have words : kindOf b = 2 → ∀ v : V, tRet (tMake T.c_BitsSack (spInitK K T.c_BitsSack "bits" bitsW) [] E0 (tCons (tCall (spWords K) [] E0 (tCons (tVar 1) tNil)) tNil)) { nx := fun x H' => Q V.non H', rt := Q } [some (.ref a), some (.ref p), some (.ref x), some (.ref y), some v] H4 := by
      intro hk v
      refine ⟨_, rfl, p, b, rfl, SqL.of (e5 p _ (e4 p _ h2)), hb, fun u2 H5 e6 hu2 h6 => ?_⟩
      refine new_sack (xs := (List.range 4).map fun k => nV (wordAt b k)) sB (.inl (.inl h6)) (by rw [List.length_map, List.length_range]; decide) fun z dz H6 hz e7 h7 => ?_
      refine q z H6 (fresh_back (eA.trans e6) hz) ((eA.trans e6).trans e7) ⟨dz, u2, ?_, ?_⟩
      · have c1 : clsOf T.c_RowSack T.c_RunsSack T.c_BitsSack b = T.c_BitsSack := by
          unfold clsOf
          rw [if_neg (by omega), if_neg (by omega)]
        have c2 : nameOf b = "bits" := by
          unfold nameOf
          rw [if_neg (by omega), if_neg (by omega)]
        have c3 : weightOf b = 32 := by
          unfold weightOf
          rw [if_neg (by omega), if_neg (by omega)]
        rw [c1, c2, c3]
        exact h7
      · have c4 : toldD b = .tuple ((List.range 4).map fun k => natD (wordAt b k)) := by
          unfold toldD
          rw [if_neg (by omega), if_neg (by omega)]
        rw [c4]
        refine .tup (.inl (.inl (e7 u2 _ h6))) ?_
        have := dpAll_nat (K := K) (H := H6) ((List.range 4).map (wordAt b))
        rw [List.map_map, List.map_map] at this
        exact this
    by_cases hc : (lows b).length ≤ 2 * (runsOf (lows b)).length
    · rw [decide_eq_true (show ((lows b).length : Int) ≤ ((2 * (runsOf (lows b)).length : Nat) : Int) by omega)]
      refine ⟨_, rfl, ?_⟩
      refine .inl ⟨_, rfl, x, dx, _, rfl, h3', sf_no _ _ _ (by decide +kernel) (by decide +kernel) (by decide +kernel), x, _, dx, _, _, _, rfl, h3', sR, _, _, rfl, rfl, _, rfl, ?_⟩
      by_cases hc2 : (lows b).length ≤ 32
      · rw [decide_eq_true (show ((lows b).length : Int) ≤ 32 by omega)]
        have hk : kindOf b = 0 := by
          unfold kindOf
          rw [if_pos ⟨hc, hc2⟩]
        refine ⟨_, rfl, q x H4 p0 eA ⟨dx, t, ?_, ?_⟩⟩
        · have c1 : clsOf T.c_RowSack T.c_RunsSack T.c_BitsSack b = T.c_RowSack := by
            unfold clsOf
            rw [if_pos hk]
          have c2 : nameOf b = "row" := by
            unfold nameOf
            rw [if_pos hk]
          have c3 : weightOf b = (lows b).length := by
            unfold weightOf
            rw [if_pos hk]
          rw [c1, c2, c3]
          exact h3'
        · have c4 : toldD b = .tuple ((lows b).map natD) := by
            unfold toldD
            rw [if_pos hk]
          rw [c4]
          exact .tup (.inl (.inl (e5 t _ (e4 t _ ht2)))) (dpAll_nat _)
      · rw [decide_eq_false (show ¬ ((lows b).length : Int) ≤ 32 by omega)]
        refine words ?_ (.ref x)
        unfold kindOf
        rw [if_neg (by omega), if_neg (by omega)]
    · rw [decide_eq_false (show ¬ ((lows b).length : Int) ≤ ((2 * (runsOf (lows b)).length : Nat) : Int) by omega)]
      refine ⟨_, rfl, ?_⟩
      refine .inr ⟨_, rfl, y, dy, _, rfl, h5, sf_no _ _ _ (by decide +kernel) (by decide +kernel) (by decide +kernel), y, _, dy, _, _, _, rfl, h5, sU, _, _, rfl, rfl, _, rfl, ?_⟩
      by_cases hc2 : 2 * (runsOf (lows b)).length ≤ 32
      · rw [decide_eq_true (show ((2 * (runsOf (lows b)).length : Nat) : Int) ≤ 32 by omega)]
        have hk : kindOf b = 1 := by
          unfold kindOf
          rw [if_neg (by omega), if_pos hc2]
        refine ⟨_, rfl, q y H4 y0 eA ⟨dy, u, ?_, ?_⟩⟩
        · have c1 : clsOf T.c_RowSack T.c_RunsSack T.c_BitsSack b = T.c_RunsSack := by
            unfold clsOf
            rw [if_neg (by omega), if_pos hk]
          have c2 : nameOf b = "runs" := by
            unfold nameOf
            rw [if_neg (by omega), if_pos hk]
          have c3 : weightOf b = 2 * (runsOf (lows b)).length := by
            unfold weightOf
            rw [if_neg (by omega), if_pos hk]
          rw [c1, c2, c3]
          exact h5
        · have c4 : toldD b = .tuple ((runsOf (lows b)).map pairD) := by
            unfold toldD
            rw [if_neg (by omega), if_pos hk]
          rw [c4]
          exact .tup (.inl (.inl (e5 u _ h4))) (dpAll_ex e5 _ _ hd)
      · rw [decide_eq_false (show ¬ ((2 * (runsOf (lows b)).length : Nat) : Int) ≤ 32 by omega)]
        refine words ?_ (.ref y)
        unfold kindOf
        rw [if_neg (by omega), if_neg (by omega)]

end
end K

namespace K
open PySem PySem.Spec PyProof.Rows L2 L2H Evl
local macro_rules | `(tactic| walk_at "side") => `(tactic| first | (show (0:Int) < _; omega) | (show (0:Int) ≤ _; omega) | (show CMul _ _; unfold CMul; omega) | (show CDiv _ _; unfold CDiv; omega) | (show CPow _ _; unfold CPow; omega))
local macro_rules | `(tactic| walk_at "val") => `(tactic| repeat' (first | exact val_c | exact val_var rfl | apply v_I0 | apply v_I | apply v_un | apply v_bits | apply v_len))
section
variable {P : Program} {w : World} {K : PySem.W.Frag} {mg : Str → Option Value} {base : Heap}
theorem sc__law_marks : FnScope ["_law_e"] ["_law_e"] (defScope (topS 28)) := ⟨rfl, rfl, rfl, by decide +kernel, rfl, by decide +kernel, by decide +kernel⟩
theorem ok__law_marks (T : Tx K mg) : FnE P w K mg base 1 T.f__law_marks T.fd__law_marks ["_law_e"] (spMarks K T.c_NoNumber T.c_NoStretch T.c_NoRank T.c_NoText) := by
  refine okE T.F__law_marks sc__law_marks (fun a D vs H Q E h => ?_) (fun cdv A outer s H vs Q p D hr hz hf h => ?_)
  · obtain ⟨_, _, _, _, rfl, _⟩ := h
    rfl
  · obtain ⟨b1, b2, b3, b4, rfl, hC, k1, k2, k3, k4, q⟩ := h
    refine ⟨_, (pss_one (ps_ret (pe_lst (pa_cons (pe_callB (call_isP List.mem_cons_self hz hf) (by rfl) T.z_isinstance (by decide +kernel) (pa_cons (pv 0) (pa_cons (pe_glob (v := .ref T.c_NoNumber) rfl T.m_NoNumber rfl) pa_nil))) (pa_cons (pe_callB (call_isP List.mem_cons_self hz hf) (by rfl) T.z_isinstance (by decide +kernel) (pa_cons (pv 0) (pa_cons (pe_glob (v := .ref T.c_NoStretch) rfl T.m_NoStretch rfl) pa_nil))) (pa_cons (pe_callB (call_isP List.mem_cons_self hz hf) (by rfl) T.z_isinstance (by decide +kernel) (pa_cons (pv 0) (pa_cons (pe_glob (v := .ref T.c_NoRank) rfl T.m_NoRank rfl) pa_nil))) (pa_cons (pe_callB (call_isP List.mem_cons_self hz hf) (by rfl) T.z_isinstance (by decide +kernel) (pa_cons (pv 0) (pa_cons (pe_glob (v := .ref T.c_NoText) rfl T.m_NoText rfl) pa_nil))) pa_nil))))))), ?_⟩
    have one : ∀ u (c : Addr), RelV (.ref c) u → u = Value.ref c := fun u c r => r
    exact ⟨_, rfl, _, _, b1, rfl, fun u r => r, hC, k1, _, rfl, _, _, b2, rfl, fun u r => r, hC, k2, _, rfl, _, _, b3, rfl, fun u r => r, hC, k3, _, rfl, _, _, b4, rfl, fun u r => r, hC, k4, by show 4 ≤ sizeLine; decide, q⟩

end
end K

namespace K
open PySem PySem.Spec PyProof.Rows L2 L2H Evl
local macro_rules | `(tactic| walk_at "side") => `(tactic| first | (show (0:Int) < _; omega) | (show (0:Int) ≤ _; omega) | (show CMul _ _; unfold CMul; omega) | (show CDiv _ _; unfold CDiv; omega) | (show CPow _ _; unfold CPow; omega))
local macro_rules | `(tactic| walk_at "val") => `(tactic| repeat' (first | exact val_c | exact val_var rfl | apply v_I0 | apply v_I | apply v_un | apply v_bits | apply v_len))
section
variable {P : Program} {w : World} {K : PySem.W.Frag} {mg : Str → Option Value} {base : Heap}
theorem sc__law_told : FnScope ["_law_lows_here", "_law_told_here", "_law_e"] ["_law_lows_here"] (defScope (topS 29)) := ⟨rfl, rfl, rfl, by decide +kernel, rfl, by decide +kernel, by decide +kernel⟩
theorem ok__law_told (T : Tx K mg) : FnOk P w K mg base CX0 5 T.f__law_told T.fd__law_told ["_law_lows_here"] (spTold02 K) := by
  refine T.F__law_told.ok sc__law_told (fun vs H Q E h => ?_) (fun cdv A outer s H vs Q E hr h => ?_)
  · obtain ⟨a, xs, rfl, _⟩ := h
    rfl
  · obtain ⟨a, xs, rfl, hS, hl, hodd, hq⟩ := h
    have G_sack_of := ok_sack_of (P := P) (w := w) (base := base) T
    have G__law_marks := ok__law_marks (P := P) (w := w) (base := base) T
    refine ⟨_, (pss_cons (ps_set (i := 1) sc__law_told.nd rfl (.inl rfl) pe_non)
 (pss_cons (ps_try_as (i := 2) (tb := fun W => tDrop (tCallS (spSackOf K T.c_NoNumber T.c_RowSack T.c_RunsSack T.c_BitsSack) (WE W) (tCons (tVar 0) tNil))) (ts := fun a cls d => fun E σ H => ∃ D, cls = .ref D ∧ d = none ∧ tAsg (tOp rCat (tCallP (spMarks K T.c_NoNumber T.c_NoStretch T.c_NoRank T.c_NoText) a D (tCons (tVar 2) tNil)) (tLst (tCons (tCB (rIsP K D a) (tCons (tVar 2) (tCons (tC (.ty "ValueError")) tNil))) tNil))) (gName 1) E σ H) (Wout := fun _ _ _ _ => False) rfl rfl sc__law_told.nd rfl rfl ⟨rfl, by decide, .inl T.m_SackError⟩ takes0 (fun W pn xe tk _ => pss_one (ps_expr (pe_callS G_sack_of (hr.mono (by decide)) (by rfl) T.m_sack_of T.F_sack_of.kp T.b_sack_of (fun σ => passAt tk σ) (pa_cons (pv 0) pa_nil)))) (fun a oe cls d pn hz hf => pss_exc fun D e1 e2 => by subst e1; subst e2; exact pss_one (ps_set (i := 1) sc__law_told.nd rfl (.inl rfl) (pe_op op_cat (pe_callP (p := (a, oe)) List.mem_cons_self hz hf G__law_marks (by have z := (roomH_of hr).mono (j := 1) (by decide); exact ⟨z.dp, z.un⟩) (by rfl) T.m__law_marks T.F__law_marks.kp T.b__law_marks (pa_cons (pv 2) pa_nil)) (pe_lst (pa_cons (pe_callB (call_isP (p := (a, oe)) List.mem_cons_self hz hf) (by rfl) T.z_isinstance (by decide +kernel) (pa_cons (pv 2) (pa_cons (pe_bltn (v := .ty "ValueError") (u := .type "ValueError") rfl T.z_ValueError (by decide +kernel) rfl) pa_nil))) pa_nil))))))
 (pss_one (ps_ret (pv 1))))), ?_⟩
    refine w_asg val_c ?_
    refine ⟨_, rfl, a, xs, rfl, hS, hl, hodd, ?_⟩
    rcases hq with ⟨hbad, q⟩ | ⟨b, hb, hb0, hn, hm, q⟩
    · refine .inl ⟨hbad, true, T.exm_NoNumber_SackError, fun _ e he => ?_, fun z => nomatch z⟩
      refine ⟨T.c_NoNumber, rfl, rfl, ?_⟩
      refine ⟨_, rfl, true, false, false, false, rfl, T.ec_NoNumber, T.ki_NoNumber_NoNumber, T.ki_NoNumber_NoStretch, T.ki_NoNumber_NoRank, T.ki_NoNumber_NoText, fun p hp => ?_⟩
      refine ⟨_, rfl, _, _, true, rfl, fun u r => r, T.ec_NoNumber, T.ki_NoNumber_ValueError, by show 1 ≤ sizeLine; decide, fun p2 hp2 => ?_⟩
      have h1 : (upd (upd H p (.lst [.bl true, .bl false, .bl false, .bl false])) p2 (.lst [.bl true])) p = some (.lst [.bl true, .bl false, .bl false, .bl false]) := by
        rw [upd_ne (ne_of_none upd_same hp2), upd_same]
      refine ⟨p, p2, _, _, rfl, rfl, h1, upd_same, by show 5 ≤ sizeLine; decide, fun p3 hp3 => ?_⟩
      have e3 := ((Ex.new (o := .lst [.bl true, .bl false, .bl false, .bl false]) hp).trans (Ex.new (o := .lst [.bl true]) hp2)).trans (Ex.new (o := .lst [.bl true, .bl false, .bl false, .bl false, .bl true]) hp3)
      exact ⟨_, rfl, q p3 _ (fresh_back ((Ex.new hp).trans (Ex.new hp2)) hp3) e3 upd_same⟩
    · refine .inr ⟨b, hb, hb0, hn, hm, fun p H2 hp e _ => ?_⟩
      exact ⟨_, rfl, q H2 e⟩

end
end K

namespace K
open PySem PySem.Spec PyProof.Rows L2 L2H Evl
local macro_rules | `(tactic| walk_at "side") => `(tactic| first | (show (0:Int) < _; omega) | (show (0:Int) ≤ _; omega) | (show CMul _ _; unfold CMul; omega) | (show CDiv _ _; unfold CDiv; omega) | (show CPow _ _; unfold CPow; omega))
local macro_rules | `(tactic| walk_at "val") => `(tactic| repeat' (first | exact val_c | exact val_var rfl | apply v_I0 | apply v_I | apply v_un | apply v_bits | apply v_len))
section
variable {P : Program} {w : World} {K : PySem.W.Frag} {mg : Str → Option Value} {base : Heap}
theorem sc__law_pattern : FnScope ["_law_cell", "_law_way", "_law_rest", "_law_found", "_law_size", "_law_far", "_law_k", "_law_first"] ["_law_cell"] (defScope (topS 27)) := ⟨rfl, rfl, rfl, by decide +kernel, rfl, by decide +kernel, by decide +kernel⟩
theorem pat_or {a x : Nat} (ha : a < 2 ^ 256) (hx : x < 2 ^ 256) : a ||| x < 2 ^ 256 := Nat.or_lt_two_pow ha hx
theorem pat_pow {n : Nat} (h : n ≤ 255) : 2 ^ n < 2 ^ 256 := Nat.pow_lt_pow_right (by decide) (by omega)
theorem ok__law_pattern (T : Tx K mg) : FnOk P w K mg base CX0 1 T.f__law_pattern T.fd__law_pattern ["_law_cell"] spPattern := by
  refine T.F__law_pattern.ok sc__law_pattern (fun vs H Q E h => ?_) (fun cdv A outer s H vs Q E hr h => ?_)
  · obtain ⟨c, rfl, _⟩ := h
    rfl
  · obtain ⟨c, rfl, hc, q⟩ := h
    refine ⟨_, (pss_cons (ps_set (i := 1) sc__law_pattern.nd rfl (.inl rfl) (pe_op op_mod (pv 0) pe_int))
 (pss_cons (ps_set (i := 2) sc__law_pattern.nd rfl (.inl rfl) (pe_op op_fdiv (pv 0) pe_int))
 (pss_cons (ps_set (i := 3) sc__law_pattern.nd rfl (.inl rfl) pe_int)
 (pss_cons (ps_if (pt_cmpR op_eq (pv 1) pe_int (nomark _)) (pss_cons (ps_set (i := 4) sc__law_pattern.nd rfl (.inl rfl) (pe_op op_add pe_int (pe_op op_mod (pv 2) pe_int)))
 (pss_cons (ps_set (i := 5) sc__law_pattern.nd rfl (.inl rfl) (pe_op op_add (pe_op op_add (pv 4) pe_int) (pe_op op_mod (pe_op op_fdiv (pv 2) pe_int) pe_int)))
 (pss_cons (ps_for PassesOwn.never rfl (pi_range1 rfl T.z_range (pa_cons (pe_op op_add pe_int (pe_op op_mod (pe_op op_fdiv (pv 2) pe_int) pe_int)) pa_nil)) (pg_name (i := 6) sc__law_pattern.nd rfl (.inl rfl)) (pss_one (ps_if (pt_cmpR op_le (pe_op op_add (pe_op op_mul (pv 5) (pv 6)) (pv 4)) pe_int (nomark _)) (pss_one (ps_aug (i := 3) sc__law_pattern.nd rfl (.inl rfl) (pe_op op_shl (pe_op op_sub (pe_op op_shl pe_int (pv 4)) pe_int) (pe_op op_mul (pv 5) (pv 6))) ip_orI)) pss_nil)))
 (pss_one (ps_ret (pv 3)))))) pss_nil)
 (pss_cons (ps_if (pt_cmpR op_eq (pv 1) pe_int (nomark _)) (pss_cons (ps_set (i := 5) sc__law_pattern.nd rfl (.inl rfl) (pe_op op_add pe_int (pe_op op_mod (pv 2) pe_int)))
 (pss_cons (ps_for PassesOwn.never rfl (pi_range1 rfl T.z_range (pa_cons (pe_op op_add (pe_op op_fdiv (pe_op op_mod (pe_op op_fdiv (pv 2) pe_int) pe_int) (pv 5)) pe_int) pa_nil)) (pg_name (i := 6) sc__law_pattern.nd rfl (.inl rfl)) (pss_one (ps_aug (i := 3) sc__law_pattern.nd rfl (.inl rfl) (pe_op op_shl pe_int (pe_op op_mul (pv 5) (pv 6))) ip_orI)))
 (pss_one (ps_ret (pv 3))))) pss_nil)
 (pss_cons (ps_if (pt_cmpR op_eq (pv 1) pe_int (nomark _)) (pss_one (ps_ret (pe_op op_mod (pe_op op_mul (pe_op op_mul (pe_op op_mul (pv 2) (pe_op op_add (pv 2) pe_int)) (pe_op op_add (pv 2) pe_int)) (pe_op op_add (pv 2) pe_int)) (pe_op op_shl pe_int pe_int)))) pss_nil)
 (pss_cons (ps_if (pt_cmpR op_eq (pv 1) pe_int (nomark _)) (pss_cons (ps_set (i := 7) sc__law_pattern.nd rfl (.inl rfl) (pe_op op_mod (pv 2) pe_int))
 (pss_one (ps_ret (pe_op op_sub (pe_op op_shl pe_int (pe_op op_add (pe_op op_add pe_int (pv 7)) (pe_op op_mod (pe_op op_fdiv (pv 2) pe_int) (pe_op op_sub pe_int (pv 7))))) (pe_op op_shl pe_int (pv 7)))))) pss_nil)
 (pss_cons (ps_for PassesOwn.never rfl (pi_range1 rfl T.z_range (pa_cons (pe_op op_add pe_int (pe_op op_mod (pv 2) pe_int)) pa_nil)) (pg_name (i := 6) sc__law_pattern.nd rfl (.inl rfl)) (pss_one (ps_aug (i := 3) sc__law_pattern.nd rfl (.inl rfl) (pe_op op_shl pe_int (pe_op op_mod (pe_op op_mul (pe_op op_fdiv (pv 2) (pe_op op_add pe_int (pv 6))) (pe_op op_add (pv 6) pe_int)) pe_int)) ip_orI)))
 (pss_one (ps_ret (pe_ix ix_list (pe_lst (pa_cons (pv 3) (pa_cons (pe_op op_sub (pe_op op_sub (pe_op op_shl pe_int pe_int) pe_int) (pv 3)) pa_nil))) (pe_op op_sub (pv 1) pe_int) (fun _ _ => rfl)))))))))))), ?_⟩
    refine w_asg (v := nV (c % 6)) ?_ ?_
    · apply v_eq
      · walk_at "val"
        all_goals walk_at "side"
      · rfl
    refine w_asg (v := nV (c / 6)) ?_ ?_
    · apply v_eq
      · walk_at "val"
        all_goals walk_at "side"
      · rfl
    refine w_asg (v := nV 0) val_c ?_
    generalize hway : c % 6 = way
    generalize hrest : c / 6 = rest
    have hw : way < 6 := by omega
    have hre : rest < 1152921504606846976 := by omega
    -- one more bit, or a few
    have orI : ∀ a x : Nat, ipI Builtin.bitOr = ipI Builtin.bitOr ∧ Builtin.bitOr (a : Int) (x : Int) = ((a ||| x : Nat) : Int) := fun a x => ⟨rfl, or_nat a x⟩
    refine w_when (a_test (rv2 (val_var rfl) val_c)) (fun h0 => ?_) (fun h0 => ?_)
    · -- runs of one length and one gap
      refine w_asg (v := nV (1 + rest % 5)) ?_ ?_
      · apply v_eq
        · walk_at "val"
          all_goals walk_at "side"
        · rfl
      refine w_asg (v := nV (1 + rest % 5 + 1 + rest / 5 % 3)) ?_ ?_
      · apply v_eq
        · walk_at "val"
          all_goals walk_at "side"
        · rfl
      generalize hsz : 1 + rest % 5 = sz
      generalize hfar : sz + 1 + rest / 5 % 3 = far
      have hsz5 : 1 ≤ sz ∧ sz ≤ 5 := by omega
      have hf8 : far ≤ 8 := by omega
      refine w_forR1 (n := 1 + rest / 15 % 20) (fun Q' q' => ?_) (by omega) (fun _ σ' H' => H' = H ∧ ∃ (b : Nat) (y : Option V), b < 2 ^ 256 ∧ σ' = [some (nV c), some (nV way), some (nV rest), some (nV b), some (nV sz), some (nV far), y, none]) ⟨rfl, 0, none, Nat.two_pow_pos _, rfl⟩ ?_ ?_
      · refine (show Val (tOp (rI0 fun i j => V.int (i + j)) _ _) _ _ (nV (1 + rest / 15 % 20)) from ?_) _ q'
        apply v_eq
        · walk_at "val"
          all_goals walk_at "side"
        · rfl
      · rintro i σ' H' hi ⟨rfl, b, y, hb, rfl⟩
        have hfi : far * i ≤ 160 := Nat.le_trans (Nat.mul_le_mul hf8 (show i ≤ 20 by omega)) (by decide)
        have ef : ((far : Int) * (i : Int)) = ((far * i : Nat) : Int) := (Int.natCast_mul _ _).symm
        refine z_if (a_test (v_I0 (v_I0 (v_I (val_var rfl) (val_var rfl) (show CMul _ _ by unfold CMul; omega)) (val_var rfl)) val_c)) (fun h1 => ?_) (fun _ => ⟨rfl, b, _, hb, rfl⟩)
        have h2 : far * i + sz ≤ 256 := by
          have := of_decide_eq_true h1
          rw [ef] at this
          omega
        have hx : (2 ^ sz - 1) * 2 ^ (far * i) < 2 ^ 256 := by
          have h3 : (2 ^ sz - 1) * 2 ^ (far * i) < 2 ^ sz * 2 ^ (far * i) := Nat.mul_lt_mul_of_pos_right (Nat.sub_lt (Nat.two_pow_pos _) (by decide)) (Nat.two_pow_pos _)
          rw [← Nat.pow_add] at h3
          exact Nat.lt_of_lt_of_le h3 (Nat.pow_le_pow_right (by decide) (by omega))
        have es : (1 : Int) * 2 ^ (sz : Int).toNat - 1 = ((2 ^ sz - 1 : Nat) : Int) := by
          rw [shl1 rfl]
          have := Nat.two_pow_pos sz
          omega
        have hs32 : 2 ^ sz ≤ 32 := Nat.pow_le_pow_right (n := 2) (by decide) hsz5.2
        refine z_aug rfl (b := (((2 ^ sz - 1) * 2 ^ (far * i) : Nat) : Int)) ?_ ?_
        · refine v_eq (v_I (v_I0 (v_I val_c (val_var rfl) (show CPow _ _ by unfold CPow; omega)) val_c) (v_I (val_var rfl) (val_var rfl) (show CMul _ _ by unfold CMul; omega)) ?_) ?_
          · rw [es, ef]
            show CPow _ _
            unfold CPow
            omega
          · show V.int _ = V.int _
            congr 1
            exact shl_nat es ef
        · rw [or_nat]
          exact ⟨rfl, _, _, pat_or hb hx, rfl⟩
      · rintro σ' H' ⟨rfl, b, y, hb, rfl⟩
        exact st_ret (val_var rfl) (q b _ hb (Ex.refl _))
    refine w_when (a_test (rv2 (val_var rfl) val_c)) (fun h1 => ?_) (fun h1 => ?_)
    · refine w_asg (v := nV (2 + rest % 6)) ?_ ?_
      · apply v_eq
        · walk_at "val"
          all_goals walk_at "side"
        · rfl
      generalize hfar : 2 + rest % 6 = far
      refine w_forR1 (n := rest / 6 % 256 / far + 1) (fun Q' q' => ?_) (by have := Nat.div_le_self (rest / 6 % 256) far; omega) (fun _ σ' H' => H' = H ∧ ∃ (b : Nat) (y : Option V), b < 2 ^ 256 ∧ σ' = [some (nV c), some (nV way), some (nV rest), some (nV b), none, some (nV far), y, none]) ⟨rfl, 0, none, Nat.two_pow_pos _, rfl⟩ ?_ ?_
      · refine (show Val (tOp (rI0 fun i j => V.int (i + j)) _ _) _ _ (nV (rest / 6 % 256 / far + 1)) from ?_) _ q'
        apply v_eq
        · walk_at "val"
          all_goals walk_at "side"
        · rfl
      · rintro i σ' H' hi ⟨rfl, b, y, hb, rfl⟩
        have hfi : far * i ≤ 255 := by
          have h2 : far * i ≤ far * (rest / 6 % 256 / far) := Nat.mul_le_mul_left _ (by omega)
          have h3 := Nat.mul_div_le (rest / 6 % 256) far
          omega
        have ef : ((far : Int) * (i : Int)) = ((far * i : Nat) : Int) := (Int.natCast_mul _ _).symm
        refine z_aug rfl (b := ((2 ^ (far * i) : Nat) : Int)) ?_ ?_
        · refine v_eq (v_I val_c (v_I (val_var rfl) (val_var rfl) (show CMul _ _ by unfold CMul; omega)) ?_) ?_
          · rw [ef]
            show CPow _ _
            unfold CPow
            omega
          · show V.int _ = V.int _
            congr 1
            exact shl1 ef
        · rw [or_nat]
          exact ⟨rfl, _, _, pat_or hb (pat_pow hfi), rfl⟩
      · rintro σ' H' ⟨rfl, b, y, hb, rfl⟩
        exact st_ret (val_var rfl) (q b _ hb (Ex.refl _))
    refine w_when (a_test (rv2 (val_var rfl) val_c)) (fun h2 => ?_) (fun h2 => ?_)
    · have e256 : (1 : Int) * 2 ^ (256 : Int).toNat = ((2 ^ 256 : Nat) : Int) := shl1 (n := 256) rfl
      refine st_ret (v := nV (rest * (rest + 77777) * (rest + 3) * (rest + 12345) % 2 ^ 256)) ?_ (q _ _ (Nat.mod_lt _ (Nat.two_pow_pos _)) (Ex.refl _))
      apply v_eq
      · walk_at "val"
        all_goals first | walk_at "side" | (show (0 : Int) < _; rw [e256]; decide)
      · rw [e256]
        rfl
    refine w_when (a_test (rv2 (val_var rfl) val_c)) (fun h3 => ?_) (fun h3 => ?_)
    · refine w_asg (v := nV (rest % 256)) ?_ ?_
      · apply v_eq
        · walk_at "val"
          all_goals walk_at "side"
        · rfl
      generalize hfi : rest % 256 = fi
      have hfi2 : fi < 256 := by omega
      have hm : rest / 256 % (256 - fi) < 256 - fi := Nat.mod_lt _ (by omega)
      have hx : 2 ^ (1 + fi + rest / 256 % (256 - fi)) ≤ 2 ^ 256 := Nat.pow_le_pow_right (by decide) (by omega)
      have hy := Nat.two_pow_pos fi
      have hy2 : 2 ^ fi ≤ 2 ^ (1 + fi + rest / 256 % (256 - fi)) := Nat.pow_le_pow_right (by decide) (by omega)
      have em : (1 : Int) + (fi : Int) + (rest : Int) / 256 % (256 - (fi : Int)) = ((1 + fi + rest / 256 % (256 - fi) : Nat) : Int) := by
        rw [show (256 : Int) - (fi : Int) = ((256 - fi : Nat) : Int) by omega]
        rw [Int.natCast_add, Int.natCast_emod, Int.natCast_ediv]
        rfl
      refine st_ret (v := nV (2 ^ (1 + fi + rest / 256 % (256 - fi)) - 2 ^ fi)) ?_ (q _ _ (by omega) (Ex.refl _))
      apply v_eq
      · walk_at "val"
        all_goals first | walk_at "side" | (show CPow _ _; rw [em]; unfold CPow; omega)
      · show V.int _ = V.int _
        congr 1
        rw [shl1 em, shl1 rfl]
        omega
    · refine w_forR1 (n := 1 + rest % 30) (fun Q' q' => ?_) (by omega) (fun _ σ' H' => H' = H ∧ ∃ (b : Nat) (y : Option V), b < 2 ^ 256 ∧ σ' = [some (nV c), some (nV way), some (nV rest), some (nV b), none, none, y, none]) ⟨rfl, 0, none, Nat.two_pow_pos _, rfl⟩ ?_ ?_
      · refine (show Val (tOp (rI0 fun i j => V.int (i + j)) _ _) _ _ (nV (1 + rest % 30)) from ?_) _ q'
        apply v_eq
        · walk_at "val"
          all_goals walk_at "side"
        · rfl
      · rintro i σ' H' hi ⟨rfl, b, y, hb, rfl⟩
        have em : ((rest : Int) / (1 + (i : Int)) * ((i : Int) + 5)) % 256 = ((rest / (1 + i) * (i + 5) % 256 : Nat) : Int) := by
          rw [Int.natCast_emod, Int.natCast_mul, Int.natCast_ediv]
          rfl
        refine z_aug rfl (b := ((2 ^ (rest / (1 + i) * (i + 5) % 256) : Nat) : Int)) ?_ ?_
        · apply v_eq
          · walk_at "val"
            all_goals first | walk_at "side" | (show CPow _ _; rw [em]; unfold CPow; omega)
          · show V.int _ = V.int _
            congr 1
            exact shl1 em
        · rw [or_nat]
          exact ⟨rfl, _, _, pat_or hb (pat_pow (by omega)), rfl⟩
      · rintro σ' H' ⟨rfl, b, y, hb, rfl⟩
        have hway : way = 4 ∨ way = 5 := by
          have g0 : way ≠ 0 := fun z => by subst z; exact absurd h0 (by decide)
          have g1 : way ≠ 1 := fun z => by subst z; exact absurd h1 (by decide)
          have g2 : way ≠ 2 := fun z => by subst z; exact absurd h2 (by decide)
          have g3 : way ≠ 3 := fun z => by subst z; exact absurd h3 (by decide)
          omega
        have e256 : (1 : Int) * 2 ^ (256 : Int).toNat = ((2 ^ 256 : Nat) : Int) := shl1 (n := 256) rfl
        refine ⟨_, rfl, (show Val (tOp (rI0 fun i j => V.int (i - j)) _ _) _ _ (nV (2 ^ 256 - 1 - b)) from ?_) _ ?_⟩
        · apply v_eq
          · walk_at "val"
            all_goals walk_at "side"
          · show V.int _ = V.int _
            congr 1
            rw [e256]
            omega
        · refine ⟨by show 2 ≤ sizeLine; decide, fun l hl => ?_⟩
          rcases hway with rfl | rfl
          · exact ⟨_, rfl, 4, 4, rfl, rfl, l, _, 0, nV b, rfl, rfl, SqL.of upd_same, atI_nat (j := 0) rfl, q _ _ hb (Ex.new hl)⟩
          · exact ⟨_, rfl, 5, 4, rfl, rfl, l, _, 1, _, rfl, rfl, SqL.of upd_same, atI_nat (j := 1) rfl, q _ _ (by omega) (Ex.new hl)⟩

end
end K

namespace K
open PySem PySem.Spec PyProof.Rows L2 L2H Evl
local macro_rules | `(tactic| walk_at "side") => `(tactic| first | (show (0:Int) < _; omega) | (show (0:Int) ≤ _; omega) | (show CMul _ _; unfold CMul; omega) | (show CDiv _ _; unfold CDiv; omega) | (show CPow _ _; unfold CPow; omega))
local macro_rules | `(tactic| walk_at "val") => `(tactic| repeat' (first | exact val_c | exact val_var rfl | apply v_I0 | apply v_I | apply v_un | apply v_bits | apply v_len))
section
variable {P : Program} {w : World} {K : PySem.W.Frag} {mg : Str → Option Value} {base : Heap}
theorem sc__law_runs : FnScope ["_law_lows_here", "_law_found", "_law_low"] ["_law_lows_here"] (defScope (topS 25)) := ⟨rfl, rfl, rfl, by decide +kernel, rfl, by decide +kernel, by decide +kernel⟩
theorem ok__law_runs (T : Tx K mg) : FnOk P w K mg base CX0 1 T.f__law_runs T.fd__law_runs ["_law_lows_here"] (spRuns K) := by
  refine T.F__law_runs.ok sc__law_runs (fun vs H Q E h => ?_) (fun cdv A outer s H vs Q E hr h => ?_)
  · obtain ⟨a, ls, rfl, _⟩ := h
    rfl
  · obtain ⟨a, ls, rfl, hS, hl, q⟩ := h
    refine ⟨_, (pss_cons (ps_set (i := 1) sc__law_runs.nd rfl (.inl rfl) (pe_lst pa_nil))
 (pss_cons (ps_for PassesOwn.never rfl (pi_list (pv 0)) (pg_name (i := 2) sc__law_runs.nd rfl (.inl rfl)) (pss_one (ps_if (PW.pt (pw_and (pt_cmpR (op_neD (hu64 hr)) (pv 1) (pe_lst pa_nil) (nomark _)) (pw_and1 (pt_cmpR op_eq (pe_op op_add (pe_ix ix_tup (pe_ix ix_list (pv 1) (pe_un un_neg pe_int) (fun _ _ => rfl)) pe_int (fun _ _ => rfl)) pe_int) (pv 2) (nomark _))))) (pss_one (ps_asg (pe_tup (pa_cons (pe_ix ix_tup (pe_ix ix_list (pv 1) (pe_un un_neg pe_int) (fun _ _ => rfl)) pe_int (fun _ _ => rfl)) (pa_cons (pv 2) pa_nil))) (pg_sub (pv 1) (pe_un un_neg pe_int) set_list))) (pss_one (ps_expr (pe_bm PySem.F.plainAttrs_list PySem.F.slot_list_append PySem.F.type_list_append mt_append (pv 1) (pa_cons (pe_tup (pa_cons (pv 2) (pa_cons (pv 2) pa_nil))) pa_nil)))))))
 (pss_one (ps_ret (pv 1))))), ?_⟩
    refine w_asgL (xs := []) (fun _ q => q) (by decide) fun p hp => ?_
    have hS1 := ex_l (Ex.new (o := .lst []) hp) hS
    refine w_forLn (val_var rfl) hS1 (fun i σ' H' => ∃ rs y, σ' = [some (.ref a), some (.ref p), y] ∧ Ex H H' ∧ H' p = some (.lst rs) ∧ DpAll K H' rs ((runsOf (ls.take i)).map pairD))
      ⟨[], none, rfl, Ex.new hp, upd_same, .nil⟩ (fun i σ' H' _ ⟨_, _, _, e, _⟩ => ex_l e hS) ?_ ?_
    · rintro i x σ' H' hx ⟨rs, y, rfl, hE, hP, hD⟩
      obtain ⟨n, hn, rfl⟩ : ∃ n, ls[i]? = some n ∧ x = nV n := by
        rw [List.getElem?_map] at hx
        cases e : ls[i]? with
        | none => rw [e] at hx; cases hx
        | some n => rw [e] at hx; exact ⟨n, rfl, (Option.some.inj hx).symm⟩
      have step := runs_take hn
      have hi : i < ls.length := (List.getElem?_eq_some_iff.mp hn).1
      have hlen : rs.length ≤ ls.length := by
        have h1 := dpAll_len hD
        rw [List.length_map] at h1
        have h2 := runs_len (ls.take i)
        rw [List.length_take] at h2
        omega
      -- the list is written at t's tuple
      have fin : ∀ H1 t (rs' : List V) (qs : List (Nat × Nat)) (u v : Nat), Ex H' H1 → H1 t = none → DpAll K H1 rs' (qs.map pairD) → runsOf (ls.take (i + 1)) = qs ++ [(u, v)] →
          ∃ rs y, [some (V.ref a), some (.ref p), some (nV n)] = [some (V.ref a), some (.ref p), y] ∧ Ex H (upd (upd H1 t (.tup [nV u, nV v])) p (.lst (rs' ++ [.ref t]))) ∧ (upd (upd H1 t (.tup [nV u, nV v])) p (.lst (rs' ++ [.ref t]))) p = some (.lst rs) ∧ DpAll K (upd (upd H1 t (.tup [nV u, nV v])) p (.lst (rs' ++ [.ref t]))) rs ((runsOf (ls.take (i + 1))).map pairD) := by
        intro H1 t rs' qs u v e1 ht hd st
        have e2 : Ex H1 (upd H1 t (.tup [nV u, nV v])) := Ex.new ht
        have h2 : (upd H1 t (.tup [nV u, nV v])) p = some (.lst rs) := e2 p _ (e1 p _ hP)
        have e3 := (Tups.ex e2).trans (Tups.upd (p := p) (o' := .lst (rs' ++ [.ref t])) h2 trivial)
        refine ⟨_, _, rfl, ((hE.trans e1).trans e2).mut hp, upd_same, ?_⟩
        rw [st, List.map_append]
        refine dpAll_append (dpAll_tups e3 _ _ (noL_pairs _) hd) (.cons (.tup (.inl (.inl ?_)) (.cons (.int _) (.cons (.int _) .nil))) .nil)
        rw [upd_ne (ne_of_none (e1 p _ hP) ht).symm, upd_same]
      have app : ∀ H1, Ex H' H1 → runsOf (ls.take (i + 1)) = runsOf (ls.take i) ++ [(n, n)] →
          tDrop (tBM K "list" rAppend (tVar 1) (tCons (tTup (tCons (tVar 2) (tCons (tVar 2) tNil))) tNil)) { nx := fun σ' H' => ∃ rs y, σ' = [some (V.ref a), some (.ref p), y] ∧ Ex H H' ∧ H' p = some (.lst rs) ∧ DpAll K H' rs ((runsOf (ls.take (i + 1))).map pairD), ct := fun σ' H' => ∃ rs y, σ' = [some (V.ref a), some (.ref p), y] ∧ Ex H H' ∧ H' p = some (.lst rs) ∧ DpAll K H' rs ((runsOf (ls.take (i + 1))).map pairD), bk := tRet (tVar 1) { nx := fun x H' => Q V.non H', rt := Q }, rt := Q } [some (.ref a), some (.ref p), some (nV n)] H1 := by
        intro H1 e1 st
        refine ⟨_, rfl, Or.inl ⟨rfl, rs, SqL.of (e1 p _ hP)⟩, _, rfl, _, rfl, by show 2 ≤ sizeLine; decide, fun t ht => ?_⟩
        exact ⟨p, rs, .ref t, rfl, rfl, (Ex.new ht) p _ (e1 p _ hP), sz_lt (by omega), fin H1 t rs _ n n e1 ht (dpAll_ex e1 _ _ hD) st⟩
      -- the test
      have ne0 : ∀ Q' : V → Hp → Prop, (∀ H1, Ex H' H1 → Q' (.bl (!(runsOf (ls.take i)).isEmpty)) H1) → tOp (rNeD K) (tVar 1) (tLst tNil) [some (V.ref a), some (.ref p), some (nV n)] H' Q' := by
        intro Q' q'
        refine ⟨_, rfl, Nat.zero_le _, fun z hz => ?_⟩
        have e1 : Ex H' (upd H' z (.lst [])) := Ex.new hz
        refine ⟨_, _, .lst (SqL.of (e1 p _ hP)) (dpAll_ex e1 _ _ hD), .lst (SqL.of upd_same) .nil, (shaped_pairs _).1, shaped_nil, ?_⟩
        have ee : PyData.eqv (.list ((runsOf (ls.take i)).map pairD)) (.list []) = (runsOf (ls.take i)).isEmpty := by
          cases runsOf (ls.take i) <;> simp [PyData.eqv, PyData.eqvAll]
        rw [ee]
        exact q' _ e1
      refine ne0 _ fun H1 e1 => ⟨_, rfl, ?_⟩
      rcases List.eq_nil_or_concat (runsOf (ls.take i)) with h0 | ⟨qs, ⟨f, l⟩, h0⟩
      · rw [h0]
        refine app H1 e1 ?_
        rw [step, h0, runsStep_nil]
        rfl
      · rw [List.concat_eq_append] at h0
        have hb : (!(runsOf (ls.take i)).isEmpty) = true := by
          rw [h0]
          simp
        rw [hb]
        have hD' := hD
        rw [h0, List.map_append] at hD'
        obtain ⟨us, u, rfl, hU, hu⟩ := dpAll_snoc hD'
        obtain ⟨t0, rfl, ht0⟩ := dp_pair hu
        have ht1 := ex_t e1 ht0
        have hP1 := e1 p _ hP
        rw [h0] at step
        rw [runsStep_snoc] at step
        have it : Val (tOp (rIxL K) (tVar 1) (tUn (rU fun i => V.int (-i)) (tC (V.int 1)))) [some (V.ref a), some (.ref p), some (nV n)] H1 (.ref t0) :=
          v_ixL (val_var rfl) (v_un val_c) (SqL.of hP1) (atI_last _ _)
        refine a_test (v_eq (rv2 (v_I0 (v_ixT (v := nV l) it val_c ht1 (atI_nat (j := 1) rfl)) val_c) (val_var rfl)) (v := .bl (decide (V.int ((l : Int) + 1) = nV n))) rfl) _ ?_
        by_cases hc : l + 1 = n
        · rw [if_pos hc] at step
          have hd : decide (V.int ((l : Int) + 1) = nV n) = true := decide_eq_true (by show V.int _ = V.int _; congr 1; omega)
          rw [hd]
          refine v_ixT (v := nV f) it val_c ht1 (atI_nat (j := 0) rfl) _ ?_
          refine ⟨_, rfl, by show 2 ≤ sizeLine; decide, fun t ht => ?_⟩
          refine ⟨_, rfl, 1, rfl, p, us ++ [.ref t0], -1, us.length, rfl, rfl, (Ex.new ht) p _ hP1, ?_, ?_⟩
          · exact ixN_last _ _
          · have es : (us ++ [V.ref t0]).set us.length (.ref t) = us ++ [.ref t] := by simp
            rw [es]
            have hp1 : H1 p = some (.lst (us ++ [.ref t0])) := hP1
            have g := fin H1 t us qs f n e1 ht (dpAll_ex e1 _ _ hU) step
            exact g
        · rw [if_neg hc] at step
          have hd : decide (V.int ((l : Int) + 1) = nV n) = false := decide_eq_false (fun z => hc (by have := V.int.inj z; omega))
          rw [hd]
          exact app H1 e1 (by rw [step, h0])
    · rintro σ' H' ⟨rs, y, rfl, hE, hP, hD⟩
      rw [List.length_map, List.take_length] at hD
      exact st_ret (val_var rfl) (q p rs H' hp hE hP hD)

end
end K

namespace K
open PySem PySem.Spec PyProof.Rows L2 L2H Evl
local macro_rules | `(tactic| walk_at "side") => `(tactic| first | (show (0:Int) < _; omega) | (show (0:Int) ≤ _; omega) | (show CMul _ _; unfold CMul; omega) | (show CDiv _ _; unfold CDiv; omega) | (show CPow _ _; unfold CPow; omega))
local macro_rules | `(tactic| walk_at "val") => `(tactic| repeat' (first | exact val_c | exact val_var rfl | apply v_I0 | apply v_I | apply v_un | apply v_bits | apply v_len))
section
variable {P : Program} {w : World} {K : PySem.W.Frag} {mg : Str → Option Value} {base : Heap}
theorem sc__law_form : FnScope ["_law_bits", "_law_lows_here", "_law_runs_here", "_law_k"] ["_law_bits"] (defScope (topS 26)) := ⟨rfl, rfl, rfl, by decide +kernel, rfl, by decide +kernel, by decide +kernel⟩
theorem ok__law_form (T : Tx K mg) : FnOk P w K mg base CX0 2 T.f__law_form T.fd__law_form ["_law_bits"] (spForm K) := by
  refine T.F__law_form.ok sc__law_form (fun vs H Q E h => ?_) (fun cdv A outer s H vs Q E hr h => ?_)
  · obtain ⟨b, rfl, _⟩ := h
    rfl
  · obtain ⟨b, rfl, hb, q⟩ := h
    have G__law_lows := ok__law_lows (P := P) (w := w) (base := base) T
    have G__law_runs := ok__law_runs (P := P) (w := w) (base := base) T
    refine ⟨_, (pss_cons (ps_set (i := 1) sc__law_form.nd rfl (.inl rfl) (pe_call G__law_lows (hr.mono (by decide)) (by rfl) T.m__law_lows T.F__law_lows.kp T.b__law_lows .nil pass0 (pa_cons (pv 0) pa_nil)))
 (pss_cons (ps_set (i := 2) sc__law_form.nd rfl (.inl rfl) (pe_call G__law_runs (hr.mono (by decide)) (by rfl) T.m__law_runs T.F__law_runs.kp T.b__law_runs .nil pass0 (pa_cons (pv 1) pa_nil)))
 (pss_cons (ps_if (PW.pt (pw_and (pt_cmpR op_le (pe_callB call_len_seq (by rfl) T.z_len PySem.boot_len (pa_cons (pv 1) pa_nil)) (pe_op op_mul pe_int (pe_callB call_len_seq (by rfl) T.z_len PySem.boot_len (pa_cons (pv 2) pa_nil))) (nomark _)) (pw_and1 (pt_cmpR op_le (pe_callB call_len_seq (by rfl) T.z_len PySem.boot_len (pa_cons (pv 1) pa_nil)) pe_int (nomark _))))) (pss_one (ps_ret (pe_tup (pa_cons (pe_tup (pa_cons pe_str (pa_cons (pe_callTy call_tuple_of (by rfl) T.z_tuple (by decide +kernel) (pa_cons (pv 1) pa_nil)) pa_nil))) (pa_cons (pe_callB call_len_seq (by rfl) T.z_len PySem.boot_len (pa_cons (pv 1) pa_nil)) pa_nil))))) pss_nil)
 (pss_cons (ps_if (pt_cmpR op_le (pe_op op_mul pe_int (pe_callB call_len_seq (by rfl) T.z_len PySem.boot_len (pa_cons (pv 2) pa_nil))) pe_int (nomark _)) (pss_one (ps_ret (pe_tup (pa_cons (pe_tup (pa_cons pe_str (pa_cons (pe_callTy call_tuple_of (by rfl) T.z_tuple (by decide +kernel) (pa_cons (pv 2) pa_nil)) pa_nil))) (pa_cons (pe_op op_mul pe_int (pe_callB call_len_seq (by rfl) T.z_len PySem.boot_len (pa_cons (pv 2) pa_nil))) pa_nil))))) pss_nil)
 (pss_one (ps_ret (pe_tup (pa_cons (pe_tup (pa_cons pe_str (pa_cons (pe_callTy call_tuple_of (by rfl) T.z_tuple (by decide +kernel) (pa_cons (pe_lc (own := [("_law_k", 3)]) (g := gName 3) (tt := tYes) rfl sc__law_form.nd (pi_range1 rfl T.z_range (pa_cons pe_int pa_nil)) (blkOk_by (N := ["_law_bits", "_law_lows_here", "_law_runs_here", "_law_k"]) (sc := defScope (topS 26)) (by decide +kernel)) (fun _ _ _ _ _ => (pg_name (i := 3) sc__law_form.nd rfl (.inl rfl))) (fun _ _ _ _ _ => pts_nil) (fun _ _ _ _ _ => (pe_op op_and (pe_op op_shr (pv 0) (pe_op op_mul pe_int (pv 3))) pe_int))) pa_nil)) pa_nil))) (pa_cons pe_int pa_nil))))))))), ?_⟩
    refine ⟨_, rfl, b, rfl, hb, fun p H1 hp e1 h1 => ?_⟩
    refine ⟨_, rfl, p, lows b, rfl, SqL.of h1, Nat.le_trans (lows_len b) (by decide), fun r rs H2 hr2 e2 h2 hd => ?_⟩
    have hP : H2 p = some (.lst ((lows b).map nV)) := e2 p _ h1
    have hl := lows_len b
    have hrl := runs_len (lows b)
    have lenR : rs.length = (runsOf (lows b)).length := by
      rw [dpAll_len hd, List.length_map]
    have L1 : Ev (tCB (fun xs H Q => ∃ p ys, xs = [V.ref p] ∧ (SqL K H p ys ∨ SqT K H p ys) ∧ Q (.int ys.length) H) (tCons (tVar 1) tNil)) [some (nV b), some (.ref p), some (.ref r), none] H2 (nV (lows b).length) :=
      ev_is (ev_lenS (ev_var rfl) (.inl (SqL.of hP))) (by rw [List.length_map])
    have L2 : Ev (tCB (fun xs H Q => ∃ p ys, xs = [V.ref p] ∧ (SqL K H p ys ∨ SqT K H p ys) ∧ Q (.int ys.length) H) (tCons (tVar 2) tNil)) [some (nV b), some (.ref p), some (.ref r), none] H2 (nV (runsOf (lows b)).length) :=
      ev_is (ev_lenS (ev_var rfl) (.inl (SqL.of h2))) (by rw [lenR])
    have L22 : Ev (tOp (rI CMul fun i j => V.int (i * j)) (tC (.int 2)) (tCB (fun xs H Q => ∃ p ys, xs = [V.ref p] ∧ (SqL K H p ys ∨ SqT K H p ys) ∧ Q (.int ys.length) H) (tCons (tVar 2) tNil))) [some (nV b), some (.ref p), some (.ref r), none] H2 (nV (2 * (runsOf (lows b)).length)) :=
      ev_is (ev_op ev_c L2 (rv_I (show CMul _ _ by unfold CMul; omega))) (by show V.int _ = V.int _; congr 1)
    refine q_when (et_and (et_test (ev_op L1 L22 rv_I0)) fun _ => et_test (ev_op L1 ev_c rv_I0)) (fun hc H3 e3 => ?_) (fun hc H3 e3 => ?_)
    · rw [Bool.and_eq_true, decide_eq_true_iff, decide_eq_true_iff] at hc
      have hk : kindOf b = 0 := by
        unfold kindOf
        rw [if_pos ⟨by omega, by omega⟩]
      refine s_retD (d := .tuple [formD b, natD (weightOf b)]) ?_ fun v H4 e4 h4 => q v H4 (((e1.trans e2).trans e3).trans e4) h4
      have ef : formD b = rowD (lows b) := by
        unfold formD
        rw [if_pos hk]
      have ew : weightOf b = (lows b).length := by
        unfold weightOf
        rw [if_pos hk]
      rw [ef, ew]
      exact dv_tup (da_cons (dv_tup (da_cons dv_str (da_cons (dv_tupleL (ev_var rfl) (ex_l e3 (SqL.of hP)) (dpAll_nat _)) da_nil)) len2) (da_cons (dv_int (L1.mono e3)) da_nil)) len2
    · rw [Bool.and_eq_false_iff, decide_eq_false_iff_not, decide_eq_false_iff_not] at hc
      refine q_when (et_test (ev_op (L22.mono e3) ev_c rv_I0)) (fun hc2 H4 e4 => ?_) (fun hc2 H4 e4 => ?_)
      · rw [decide_eq_true_iff] at hc2
        have hk : kindOf b = 1 := by
          unfold kindOf
          rw [if_neg (by omega), if_pos (by omega)]
        refine s_retD (d := .tuple [formD b, natD (weightOf b)]) ?_ fun v H5 e5 h5 => q v H5 ((((e1.trans e2).trans e3).trans e4).trans e5) h5
        have ef : formD b = runsD (runsOf (lows b)) := by
          unfold formD
          rw [if_neg (by omega), if_pos hk]
        have ew : weightOf b = 2 * (runsOf (lows b)).length := by
          unfold weightOf
          rw [if_neg (by omega), if_pos hk]
        rw [ef, ew]
        exact dv_tup (da_cons (dv_tup (da_cons dv_str (da_cons (dv_tupleL (ev_var rfl) (ex_l (e3.trans e4) (SqL.of h2)) (dpAll_ex (e3.trans e4) _ _ hd)) da_nil)) len2) (da_cons (dv_int (L22.mono (e3.trans e4))) da_nil)) len2
      · rw [decide_eq_false_iff_not] at hc2
        have hk : kindOf b = 2 := by
          unfold kindOf
          rw [if_neg (by omega), if_neg (by omega)]
        refine s_retD (d := .tuple [formD b, natD (weightOf b)]) ?_ fun v H5 e5 h5 => q v H5 ((((e1.trans e2).trans e3).trans e4).trans e5) h5
        have ef : formD b = bitsD b := by
          unfold formD
          rw [if_neg (by omega), if_neg (by omega)]
        have ew : weightOf b = 32 := by
          unfold weightOf
          rw [if_neg (by omega), if_neg (by omega)]
        rw [ef, ew]
        refine dv_tup (da_cons (dv_tup (da_cons dv_str (da_cons (dv_tupleN fun H5 e5 Q' q' => ?_) da_nil)) len2) (da_cons (dv_int ev_c) da_nil)) len2
        refine l_lcR1 (n := 4) (fun k => nV (wordAt b k)) (fun _ q => q) (by decide) (fun _ => rfl) (fun i hi l ys hl => ?_) fun l hl => ?_
        · refine v_eq (z := nV (wordAt b i)) (v_I0 (v_I (val_var rfl) (v_I val_c (val_var rfl) (show CMul _ _ by unfold CMul; omega)) (show (0 : Int) ≤ _ by omega)) val_c) ?_
          show V.int _ = V.int _
          congr 1
          exact word_and b i
        · refine q' l _ _ (Ex.new hl) upd_same ?_
          have := dpAll_nat (K := K) (H := upd H5 l (.lst ((List.range 4).map fun k => nV (wordAt b k)))) ((List.range 4).map (wordAt b))
          rw [List.map_map, List.map_map] at this
          exact this

end
end K

namespace K
open PySem PySem.Spec PyProof.Rows L2 L2H Evl
local macro_rules | `(tactic| walk_at "side") => `(tactic| first | (show (0:Int) < _; omega) | (show (0:Int) ≤ _; omega) | (show CMul _ _; unfold CMul; omega) | (show CDiv _ _; unfold CDiv; omega) | (show CPow _ _; unfold CPow; omega))
local macro_rules | `(tactic| walk_at "val") => `(tactic| repeat' (first | exact val_c | exact val_var rfl | apply v_I0 | apply v_I | apply v_un | apply v_bits | apply v_len))
section
variable {P : Program} {w : World} {K : PySem.W.Frag} {mg : Str → Option Value} {base : Heap}
theorem sc_Sack_form : FnScope ["self"] ["self"] (defScope (inClass (topS 13) 1)) := ⟨rfl, rfl, rfl, by decide +kernel, rfl, by decide +kernel, by decide +kernel⟩
theorem ok_Sack_form (T : Tx K mg) : FnOk P w K mg base CX0 1 T.f_Sack_form T.fd_Sack_form ["self"] (spTold K) := by
  refine T.F_Sack_form.ok sc_Sack_form (fun vs H Q E h => ?_) (fun cdv A outer s H vs Q E hr h => ?_)
  · obtain ⟨a, C, dx, k, t, w, rfl, _⟩ := h
    rfl
  · obtain ⟨a, C, dx, k, t, w, rfl, ha, c, q⟩ := h
    refine ⟨_, (pss_one (ps_ret (pe_tup (pa_cons (pe_fld (pv 0) rfl) (pa_cons (pe_fld (pv 0) rfl) pa_nil))))), ?_⟩
    exact ⟨_, rfl, a, C, dx, _, _, rfl, ha, c.cl, c.nk, sf_kind k t w, _, rfl, a, C, dx, _, _, rfl, ha, c.cl, c.nt, sf_told k t w, by show 2 ≤ sizeLine; decide, q⟩

end
end K

namespace K
open PySem PySem.Spec PyProof.Rows L2 L2H Evl
local macro_rules | `(tactic| walk_at "side") => `(tactic| first | (show (0:Int) < _; omega) | (show (0:Int) ≤ _; omega) | (show CMul _ _; unfold CMul; omega) | (show CDiv _ _; unfold CDiv; omega) | (show CPow _ _; unfold CPow; omega))
local macro_rules | `(tactic| walk_at "val") => `(tactic| repeat' (first | exact val_c | exact val_var rfl | apply v_I0 | apply v_I | apply v_un | apply v_bits | apply v_len))
section
variable {P : Program} {w : World} {K : PySem.W.Frag} {mg : Str → Option Value} {base : Heap}
theorem sc_law : FnScope ["_law_script", "_law_lows_here", "_law_cell", "_law_odd", "_law_at", "_law_refused", "_law_bits", "_law_low"] ["_law_script"] (defScope (topS 30)) := ⟨rfl, rfl, rfl, by decide +kernel, rfl, by decide +kernel, by decide +kernel⟩
theorem ok_law (T : Tx K mg) : FnOk P w K mg base CX0 6 T.f_law T.fd_law ["_law_script"] (spLaw K) := by
  refine T.F_law.ok sc_law (fun vs H Q E h => ?_) (fun cdv A outer s H vs Q E hr h => ?_)
  · obtain ⟨a, ns, rfl, _⟩ := h
    rfl
  · obtain ⟨a, ns, rfl, hS, hl, q⟩ := h
    have G__law_cell_at := ok__law_cell_at (P := P) (w := w) (base := base) T
    have G__law_lows := ok__law_lows (P := P) (w := w) (base := base) T
    have G__law_told := ok__law_told (P := P) (w := w) (base := base) T
    have G__law_pattern := ok__law_pattern (P := P) (w := w) (base := base) T
    have G__law_form := ok__law_form (P := P) (w := w) (base := base) T
    have G_sack_of := ok_sack_of (P := P) (w := w) (base := base) T
    have G_Sack_form := ok_Sack_form (P := P) (w := w) (base := base) T
    refine ⟨_, (pss_cons (ps_set (i := 1) sc_law.nd rfl (.inl rfl) (pe_orT (pe_slice sl_list (pe_call G__law_lows (hr.mono (by decide)) (by rfl) T.m__law_lows T.F__law_lows.kp T.b__law_lows .nil pass0 (pa_cons (pe_call G__law_pattern (hr.mono (by decide)) (by rfl) T.m__law_pattern T.F__law_pattern.kp T.b__law_pattern .nil pass0 (pa_cons (pe_call G__law_cell_at (hr.mono (by decide)) (by rfl) T.m__law_cell_at T.F__law_cell_at.kp T.b__law_cell_at .nil pass0 (pa_cons (pv 0) (pa_cons pe_int pa_nil))) pa_nil)) pa_nil)) po_none (po_some pe_int)) (pe_one (pe_lst (pa_cons pe_int pa_nil)))))
 (pss_cons (ps_set (i := 2) sc_law.nd rfl (.inl rfl) (pe_call G__law_cell_at (hr.mono (by decide)) (by rfl) T.m__law_cell_at T.F__law_cell_at.kp T.b__law_cell_at .nil pass0 (pa_cons (pv 0) (pa_cons pe_int pa_nil))))
 (pss_cons (ps_set (i := 3) sc_law.nd rfl (.inl rfl) (pe_ix ix_list (pe_lst (pa_cons (pe_un un_neg pe_int) (pa_cons pe_int (pa_cons pe_bl (pa_cons pe_bl (pa_cons pe_non (pa_cons pe_str (pa_cons (pe_op op_pow pe_int pe_int) (pa_cons (pe_un un_neg (pe_op op_pow pe_int pe_int)) (pa_cons (pe_tup (pa_cons pe_int pa_nil)) (pa_cons (pe_lst (pa_cons pe_int pa_nil)) (pa_cons pe_int (pa_cons pe_str pa_nil))))))))))))) (pe_op op_mod (pv 2) pe_int) (fun _ _ => rfl)))
 (pss_cons (ps_set (i := 4) sc_law.nd rfl (.inl rfl) (pe_op op_mod (pe_op op_fdiv (pv 2) pe_int) (pe_op op_add (pe_callB call_len_seq (by rfl) T.z_len PySem.boot_len (pa_cons (pv 1) pa_nil)) pe_int)))
 (pss_cons (ps_set (i := 5) sc_law.nd rfl (.inl rfl) (pe_lst (pa_cons pe_bl (pa_cons pe_bl (pa_cons pe_bl (pa_cons pe_bl (pa_cons pe_bl pa_nil)))))))
 (pss_cons (ps_if (PW.pt (pw_or (pt_cmpR (op_neD (hu64 hr)) (pe_call G__law_told (hr.mono (by decide)) (by rfl) T.m__law_told T.F__law_told.kp T.b__law_told .nil pass0 (pa_cons (pe_op op_cat (pe_op op_cat (pe_slice sl_list (pv 1) po_none (po_some (pv 4))) (pe_lst (pa_cons (pv 3) pa_nil))) (pe_slice sl_list (pv 1) (po_some (pv 4)) po_none)) pa_nil)) (pv 5) (nomark _)) (pw_or (pt_cmpR (op_neD (hu64 hr)) (pe_call G__law_told (hr.mono (by decide)) (by rfl) T.m__law_told T.F__law_told.kp T.b__law_told .nil pass0 (pa_cons (pe_lst pa_nil) pa_nil)) (pv 5) (nomark _)) (pw_or1 (pt_cmpR (op_neD (hu64 hr)) (pe_call G__law_told (hr.mono (by decide)) (by rfl) T.m__law_told T.F__law_told.kp T.b__law_told .nil pass0 (pa_cons (pe_lst (pa_cons (pv 3) pa_nil)) pa_nil)) (pv 5) (nomark _)))))) (pss_one (ps_ret pe_bl)) pss_nil)
 (pss_cons (ps_set (i := 6) sc_law.nd rfl (.inl rfl) pe_int)
 (pss_cons (ps_for PassesOwn.never rfl (pi_list (pv 1)) (pg_name (i := 7) sc_law.nd rfl (.inl rfl)) (pss_one (ps_aug (i := 6) sc_law.nd rfl (.inl rfl) (pe_op op_shl pe_int (pv 7)) ip_orI)))
 (pss_one (ps_ret (pe_and (pe_cmpR op_isN (pe_call G__law_told (hr.mono (by decide)) (by rfl) T.m__law_told T.F__law_told.kp T.b__law_told .nil pass0 (pa_cons (pv 1) pa_nil)) pe_non (nomark _)) (pe_one (pe_cmpR (op_eqD (hu64 hr)) (pe_either (pe_meth0 (pe_callS G_sack_of (hr.mono (by decide)) (by rfl) T.m_sack_of T.F_sack_of.kp T.b_sack_of (fun σ => passAt takes0 σ) (pa_cons (pv 1) pa_nil)) T.cl_RowSack T.me_RowSack_form G_Sack_form (hr.mono (by decide)) T.b_Sack_form .nil pass0) (pe_either (pe_meth0 (pe_callS G_sack_of (hr.mono (by decide)) (by rfl) T.m_sack_of T.F_sack_of.kp T.b_sack_of (fun σ => passAt takes0 σ) (pa_cons (pv 1) pa_nil)) T.cl_RunsSack T.me_RunsSack_form G_Sack_form (hr.mono (by decide)) T.b_Sack_form .nil pass0) (pe_meth0 (pe_callS G_sack_of (hr.mono (by decide)) (by rfl) T.m_sack_of T.F_sack_of.kp T.b_sack_of (fun σ => passAt takes0 σ) (pa_cons (pv 1) pa_nil)) T.cl_BitsSack T.me_BitsSack_form G_Sack_form (hr.mono (by decide)) T.b_Sack_form .nil pass0))) (pe_ix ix_tup (pe_call G__law_form (hr.mono (by decide)) (by rfl) T.m__law_form T.F__law_form.kp T.b__law_form .nil pass0 (pa_cons (pv 6) pa_nil)) pe_int (fun _ _ => rfl)) (nomark _)))))))))))))), ?_⟩
    -- the lower parts
    apply w_asgP (fun v H1 => ∃ (p : Addr) (ls : List Nat), v = .ref p ∧ Ex H H1 ∧ H1 p = some (.lst (ls.map nV)) ∧ ls ≠ [] ∧ ls.length ≤ 40 ∧ ∀ n ∈ ls, n < 256)
    · intro Q' q'
      refine ⟨.ref a, rfl, a, ns, 0, rfl, hS, by decide, ?_⟩
      refine ⟨cellAt ns 0, rfl, cellAt_b ns 0, fun b H1 hb e1 => ?_⟩
      refine ⟨b, rfl, hb, fun p H2 hp e2 h2 => ?_⟩
      refine ⟨_, rfl, p, _, rfl, SqL.of h2, fun p3 hp3 => ?_⟩
      have ec : cutV ((lows b).map nV) none (some 40) = ((lows b).take 40).map nV := by
        unfold cutV
        rw [show HT.sIx ((lows b).map nV).length ((lows b).map nV).length (some 40) = min 40 ((lows b).map nV).length from HT.sIx_nat _ _ 40, HT.sIx_none, List.drop_zero, Nat.sub_zero, List.map_take]
        by_cases c : 40 ≤ ((lows b).map nV).length
        · rw [Nat.min_eq_left c]
        · rw [Nat.min_eq_right (by omega), List.take_of_length_le (Nat.le_refl _), List.take_of_length_le (by omega)]
      rw [ec]
      have e3 : Ex H (upd H2 p3 (.lst (((lows b).take 40).map nV))) := (e1.trans e2).trans (Ex.new hp3)
      refine ⟨!(((lows b).take 40).map nV).isEmpty, .inl ⟨_, SqL.of upd_same, rfl⟩, ?_⟩
      by_cases hn : (lows b).take 40 = []
      · rw [if_neg (by rw [hn]; decide)]
        refine ⟨by show 1 ≤ sizeLine; decide, fun p4 hp4 => q' _ _ ⟨p4, [7], rfl, e3.trans (Ex.new hp4), upd_same, by decide, by decide, by decide⟩⟩
      · rw [if_pos (by cases h : (lows b).take 40 with | nil => exact absurd h hn | cons x r => rfl)]
        refine q' _ _ ⟨p3, (lows b).take 40, rfl, e3, upd_same, hn, by rw [List.length_take]; omega, fun n h => lows_lt (List.mem_of_mem_take h)⟩
    rintro v H1 ⟨p, ls, rfl, e1, h1, hne, hl40, hlt⟩
    -- the cell
    apply w_asgP (fun v H2 => v = nV (cellAt ns 1) ∧ H2 = H1)
    · intro Q' q'
      exact ⟨.ref a, rfl, a, ns, 1, rfl, ex_l e1 hS, by decide, q' _ _ ⟨rfl, rfl⟩⟩
    rintro v H2 ⟨rfl, rfl⟩
    generalize cellAt ns 1 = c
    -- something odd
    apply w_asgP (fun v H3 => Ex H2 H3 ∧ (∀ H4, Ex H3 H4 → Odd K H4 v) ∧ lowOk v = false)
    · intro Q' q'
      refine ⟨1, rfl, 10, 30, rfl, rfl, ⟨by decide, by decide, by decide⟩, 10, 20, rfl, rfl, ⟨by decide, by decide, by decide⟩, _, rfl, by show 1 ≤ sizeLine; decide, fun pt hpt => ⟨by show 1 ≤ sizeLine; decide, fun pl hpl => ⟨by show 12 ≤ sizeLine; decide, fun px hpx => ?_⟩⟩⟩
      have ec : ((c : Int) % 12) = ((c % 12 : Nat) : Int) := by omega
      have a2 := Ex.new (o := .tup [.int 3]) hpt
      have a3 := Ex.new (o := .lst [.int 4]) hpl
      refine ⟨_, rfl, _, 12, rfl, rfl, (by show (0 : Int) < 12; decide), ?_⟩
      show rIxL _ (V.ref px) (V.int ((c : Int) % 12)) _ Q'
      rw [ec]
      have hj : c % 12 < 12 := Nat.mod_lt _ (by decide)
      generalize c % 12 = j at hj
      suffices hg : ∃ v, [V.int (-1), .int 256, .bl true, .bl false, .non, .str "7", .int (10 ^ (30 : Int).toNat), .int (-(10 ^ (20 : Int).toNat)), .ref pt, .ref pl, .int 257, .str ""][j]? = some v ∧ (∀ H4, Ex (upd (upd H2 pt (.tup [.int 3])) pl (.lst [.int 4])) H4 → Odd K H4 v) ∧ lowOk v = false by
        obtain ⟨v, g1, g2, g3⟩ := hg
        exact ⟨px, _, _, v, rfl, rfl, SqL.of upd_same, atI_nat g1, q' _ _ ⟨(a2.trans a3).trans (Ex.new hpx), fun H4 e4 => g2 H4 ((Ex.new hpx).trans e4), g3⟩⟩
      have oi : ∀ (i : Int) (H4 : Hp), Odd K H4 (.int i) := fun i H4 => ⟨"int", .int i, PySem.TypeEq.meta_int⟩
      have os : ∀ (z : Str) (H4 : Hp), Odd K H4 (.str z) := fun i H4 => ⟨"str", .str i, PySem.TypeEq.meta_str⟩
      have ob : ∀ (z : Bool) (H4 : Hp), Odd K H4 (.bl z) := fun i H4 => ⟨"bool", .bl i, PySem.TypeEq.meta_bool⟩
      match j, hj with
      | 0, _ => exact ⟨_, rfl, fun H4 _ => oi _ H4, by decide +kernel⟩
      | 1, _ => exact ⟨_, rfl, fun H4 _ => oi _ H4, by decide +kernel⟩
      | 2, _ => exact ⟨_, rfl, fun H4 _ => ob _ H4, rfl⟩
      | 3, _ => exact ⟨_, rfl, fun H4 _ => ob _ H4, rfl⟩
      | 4, _ => exact ⟨_, rfl, fun H4 _ => ⟨"NoneType", .non, PySem.TypeEq.meta_NoneType⟩, rfl⟩
      | 5, _ => exact ⟨_, rfl, fun H4 _ => os _ H4, rfl⟩
      | 6, _ => exact ⟨_, rfl, fun H4 _ => oi _ H4, by decide +kernel⟩
      | 7, _ => exact ⟨_, rfl, fun H4 _ => oi _ H4, by decide +kernel⟩
      | 8, _ => exact ⟨_, rfl, fun H4 e4 => ⟨"tuple", .tup (xs := [.int 3]) (SqT.of (e4 pt _ (a3 pt _ upd_same))), PySem.TypeEq.meta_tuple⟩, rfl⟩
      | 9, _ => exact ⟨_, rfl, fun H4 e4 => ⟨"list", .lst (xs := [.int 4]) (SqL.of (e4 pl _ upd_same)), PySem.TypeEq.meta_list⟩, rfl⟩
      | 10, _ => exact ⟨_, rfl, fun H4 _ => oi _ H4, by decide +kernel⟩
      | 11, _ => exact ⟨_, rfl, fun H4 _ => os _ H4, rfl⟩
      | j + 12, h => omega
    rintro v H3 ⟨e3, hodd, hbad⟩
    have h3 := e3 p _ h1
    -- where it is put
    obtain ⟨m, hm, em⟩ : ∃ m : Nat, m ≤ ls.length ∧ (c : Int) / 12 % (((ls.map nV).length : Int) + 1) = (m : Int) := by
      rw [List.length_map]
      refine ⟨c / 12 % (ls.length + 1), Nat.le_of_lt_succ (Nat.mod_lt _ (Nat.succ_pos _)), ?_⟩
      rw [Int.natCast_emod, Int.natCast_ediv]
      rfl
    refine w_asg (v := nV m) ?_ ?_
    · apply v_eq
      · exact v_I (v_I (val_var rfl) val_c (by show CDiv _ _; unfold CDiv; omega)) (v_I0 (v_len (val_var rfl) (.inl (SqL.of h3))) val_c) (by show (0 : Int) < _; omega)
      · exact congrArg V.int em
    -- the marks
    refine w_asgL (xs := [.bl true, .bl false, .bl false, .bl false, .bl true]) (fun Q q => q) (by decide) fun pr hpr => ?_
    have e4 := Ex.new (o := .lst [.bl true, .bl false, .bl false, .bl false, .bl true]) hpr
    have h4r : (upd H3 pr (.lst [.bl true, .bl false, .bl false, .bl false, .bl true])) pr = some (.lst [.bl true, .bl false, .bl false, .bl false, .bl true]) := upd_same
    have h4 := e4 p _ h3
    generalize hH4 : upd H3 pr (.lst [.bl true, .bl false, .bl false, .bl false, .bl true]) = H4 at e4 h4r h4
    have oi : ∀ (i : Int) (H4 : Hp), Odd K H4 (.int i) := fun i H4 => ⟨"int", .int i, PySem.TypeEq.meta_int⟩
    have on : ∀ (H5 : Hp) (x : V), x ∈ ls.map nV → Odd K H5 x := fun H5 x hx => by
      obtain ⟨n, _, rfl⟩ := List.mem_map.mp hx
      exact oi _ _
    have em : (!PyData.eqv refD refD) = false := by rw [eqv_self refD_shaped]; rfl
    have dR : ∀ {p : Addr} {H : Hp}, H p = some (.lst [.bl true, .bl false, .bl false, .bl false, .bl true]) → Dp K H (.ref p) refD := fun h => .lst (SqL.of h) (.cons (.bl _) (.cons (.bl _) (.cons (.bl _) (.cons (.bl _) (.cons (.bl _) .nil)))))
    have one : ∀ {te : TE} {σ : L2.St} {H5 : Hp} {Q : Bool → Hp → Prop}, σ[5]? = some (some (.ref pr)) → NL te σ H5 [.bl true, .bl false, .bl false, .bl false, .bl true] → Ex H4 H5 → (∀ H6, Ex H5 H6 → Q false H6) → tTest (tOp (rNeD K) te (tVar 5)) σ H5 Q := by
      intro te σ H5 Q hσ h e5 q
      refine h H5 (Ex.refl _) _ fun p H6 e6 h6 => ⟨_, hσ, refD, refD, dR h6, dR (e6 pr _ (e5 pr _ h4r)), refD_shaped, refD_shaped, false, ?_, q H6 e6⟩
      rw [em]
    refine one rfl (nl_refused (K := K) (nl_cat (nl_cat (nl_take (ev_var rfl) (SqL.of h4) (ev_var rfl)) (nl_one (ev_var rfl)) (by rw [List.length_take, List.length_map, List.length_singleton]; omega)) (nl_drop (ev_var rfl) (SqL.of h4) (ev_var rfl)) (by rw [List.length_append, List.length_take, List.length_drop, List.length_map, List.length_singleton]; omega)) ?_ (fun H5 e5 x hx => ?_) ?_) (Ex.refl _) fun H5 e5 => ?_
    · rw [List.length_append, List.length_append, List.length_take, List.length_drop, List.length_map, List.length_singleton]
      omega
    · rcases List.mem_append.mp hx with hx | hx
      · rcases List.mem_append.mp hx with hx | hx
        · exact on H5 x (List.mem_of_mem_take hx)
        · cases List.mem_singleton.mp hx
          exact hodd H5 (e4.trans e5)
      · exact on H5 x (List.mem_of_mem_drop hx)
    · exact .inr ⟨v, by simp, hbad⟩
    refine one rfl (nl_refused (K := K) nl_nil (by decide) (fun H6 e6 x hx => by cases hx) (.inl rfl)) e5 fun H6 e6 => ?_
    refine one rfl (nl_refused (K := K) (nl_one (ev_var rfl)) (by show 1 ≤ 2000; decide) (fun H7 e7 x hx => by
      cases List.mem_singleton.mp hx
      exact hodd H7 (((e4.trans e5).trans e6).trans e7)) (.inr ⟨v, List.mem_singleton.mpr rfl, hbad⟩)) (e5.trans e6) fun H7 e7 => ?_
    have h7 := e7 p _ (e6 p _ (e5 p _ h4))
    -- the bits
    refine w_asg val_c ?_
    refine w_forLn (val_var rfl) (SqL.of h7) (fun i σ' H' => H' = H7 ∧ ∃ y, σ' = [some (.ref a), some (.ref p), some (nV c), some v, some (nV m), some (.ref pr), some (nV (bitsOf (ls.take i))), y]) ⟨rfl, none, rfl⟩ (fun i σ' H' _ h => h.1 ▸ SqL.of h7) ?_ ?_
    · rintro i x σ' H' hx ⟨rfl, y, rfl⟩
      rw [List.getElem?_map] at hx
      obtain ⟨n, hn, rfl⟩ := Option.map_eq_some_iff.mp hx
      have hn256 := hlt n (List.mem_of_getElem? hn)
      refine z_aug rfl (v_I val_c (val_var rfl) (by show CPow _ _; unfold CPow; omega)) ⟨rfl, some (nV n), ?_⟩
      rw [bits_take hn, shl1 rfl, or_nat]
      rfl
    rintro σ' H' ⟨rfl, y, rfl⟩
    rw [List.length_map, List.take_length]
    have hb := bits_lt hlt
    have hmem : ∀ k : Nat, nV k ∈ ls.map nV ↔ (bitsOf ls).testBit k = true := fun k => by
      rw [bits_bit, decide_eq_true_iff, List.mem_map]
      refine ⟨fun ⟨j, hj, e⟩ => ?_, fun h => ⟨k, h, rfl⟩⟩
      have := V.int.inj e
      have : j = k := by omega
      exact this ▸ hj
    have hb0 : bitsOf ls ≠ 0 := fun e => by
      cases ls with
      | nil => exact hne rfl
      | cons x r =>
        have := (hmem x).mp (List.mem_cons_self)
        rw [e, Nat.zero_testBit] at this
        cases this
    have hnat : ∀ x ∈ ls.map nV, ∃ k : Nat, x = nV k := fun x hx => by
      obtain ⟨n, _, rfl⟩ := List.mem_map.mp hx
      exact ⟨n, rfl⟩
    have hlen : (ls.map nV).length ≤ 2000 := by rw [List.length_map]; omega
    refine ⟨.ref p, rfl, p, ls.map nV, rfl, SqL.of h7, hlen, on _, .inr ⟨bitsOf ls, hb, hb0, hnat, hmem, fun H8 e8 => ?_⟩⟩
    refine ⟨rfl, true, rfl, ?_⟩
    have h8 := e8 p _ h7
    generalize bitsOf ls = b at hb hb0 hmem
    have sR : SackCls K T.c_RowSack := ⟨T.cl_RowSack, T.na_RowSack__kind, T.na_RowSack__told, T.na_RowSack__weight⟩
    have sU : SackCls K T.c_RunsSack := ⟨T.cl_RunsSack, T.na_RunsSack__kind, T.na_RunsSack__told, T.na_RunsSack__weight⟩
    have sB : SackCls K T.c_BitsSack := ⟨T.cl_BitsSack, T.na_BitsSack__kind, T.na_BitsSack__told, T.na_BitsSack__weight⟩
    -- the form told, the form counted
    have last : ∀ (C x dx t : Addr) (H9 : Hp), clsOf T.c_RowSack T.c_RunsSack T.c_BitsSack b = C → SackCls K C → Ex H8 H9 → H9 x = some (.ins C dx (sf (nameOf b) (.ref t) (weightOf b))) → Dp K H9 (.ref t) (toldD b) →
        spTold K [.ref x] H9 (fun u H10 => tOp (rIxT K) (tCall (spForm K) [] E0 (tCons (tVar 6) tNil)) (tC (.int 0)) [some (.ref a), some (.ref p), some (nV c), some v, some (nV m), some (.ref pr), some (nV b), y] H10 fun z H11 => rEqD K u z H11 Q) E0 := by
      intro C x dx t H9 _ sC e9 hx hd
      refine ⟨x, C, dx, _, _, _, rfl, hx, sC, fun u hu => ?_⟩
      have e10 := Ex.new (o := .tup [.str (nameOf b), .ref t]) hu
      refine ⟨_, rfl, b, rfl, hb, fun z H11 e11 hz => ?_⟩
      cases hz with
      | tup hs ha =>
        cases ha with
        | cons h1 _ =>
          refine ⟨_, _, 0, _, rfl, rfl, hs, atI_nat (j := 0) rfl, formD b, formD b, ?_, h1, shaped_form b, shaped_form b, ?_⟩
          · rw [form_told]
            exact .tup (SqT.of (e11 u _ upd_same)) (.cons (.str _) (.cons (dp_ex (e10.trans e11) _ _ hd) .nil))
          · rw [eqv_self (shaped_form b)]
            exact q _
    by_cases k0 : kindOf b = 0
    · have ec : clsOf T.c_RowSack T.c_RunsSack T.c_BitsSack b = T.c_RowSack := by
        unfold clsOf
        rw [if_pos k0]
      refine .inl ⟨_, rfl, p, ls.map nV, rfl, SqL.of h8, hlen, on _, .inr ⟨b, hb, hb0, hnat, hmem, fun x H9 hx e9 hs => ?_⟩⟩
      obtain ⟨dx, t, hx9, hd⟩ := hs.ex
      rw [ec] at hx9
      exact ⟨x, dx, _, rfl, hx9, sf_no _ _ _ (by decide +kernel) (by decide +kernel) (by decide +kernel), last _ x dx t H9 ec sR e9 hx9 hd⟩
    · by_cases k1 : kindOf b = 1
      · have ec : clsOf T.c_RowSack T.c_RunsSack T.c_BitsSack b = T.c_RunsSack := by
          unfold clsOf
          rw [if_neg k0, if_pos k1]
        refine .inr (.inl ⟨_, rfl, p, ls.map nV, rfl, SqL.of h8, hlen, on _, .inr ⟨b, hb, hb0, hnat, hmem, fun x H9 hx e9 hs => ?_⟩⟩)
        obtain ⟨dx, t, hx9, hd⟩ := hs.ex
        rw [ec] at hx9
        exact ⟨x, dx, _, rfl, hx9, sf_no _ _ _ (by decide +kernel) (by decide +kernel) (by decide +kernel), last _ x dx t H9 ec sU e9 hx9 hd⟩
      · have ec : clsOf T.c_RowSack T.c_RunsSack T.c_BitsSack b = T.c_BitsSack := by
          unfold clsOf
          rw [if_neg k0, if_neg k1]
        refine .inr (.inr ⟨_, rfl, p, ls.map nV, rfl, SqL.of h8, hlen, on _, .inr ⟨b, hb, hb0, hnat, hmem, fun x H9 hx e9 hs => ?_⟩⟩)
        obtain ⟨dx, t, hx9, hd⟩ := hs.ex
        rw [ec] at hx9
        exact ⟨x, dx, _, rfl, hx9, sf_no _ _ _ (by decide +kernel) (by decide +kernel) (by decide +kernel), last _ x dx t H9 ec sB e9 hx9 hd⟩

end
end K

namespace K
open PySem PySem.Spec PyProof.Rows L2 L2H Evl
theorem all_mk {P : Program} {w : World} {K : PySem.W.Frag} {h : Heap} {mg : Str → Option Value} {fa : Addr} (X : K.In h) (G : h.Ns mainGlobals mg) (hfa : mg "law" = some (.ref fa))
    {f_Sack___init__ : Addr} {od_Sack___init__ an_Sack___init__ : Option Addr} {sl_Sack___init__ : Array (Option Value)} {oc_Sack___init__ kV_Sack___init__ dc_Sack___init__ pm_Sack___init__ cd_Sack___init__ ct_Sack___init__ : Value}
    {f_Sack_form : Addr} {od_Sack_form an_Sack_form : Option Addr} {sl_Sack_form : Array (Option Value)} {oc_Sack_form kV_Sack_form dc_Sack_form pm_Sack_form cd_Sack_form ct_Sack_form : Value}
    {f_Sack_weight : Addr} {od_Sack_weight an_Sack_weight : Option Addr} {sl_Sack_weight : Array (Option Value)} {oc_Sack_weight kV_Sack_weight dc_Sack_weight pm_Sack_weight cd_Sack_weight ct_Sack_weight : Value}
    {f_RowSack___init__ : Addr} {od_RowSack___init__ an_RowSack___init__ : Option Addr} {sl_RowSack___init__ : Array (Option Value)} {oc_RowSack___init__ kV_RowSack___init__ dc_RowSack___init__ pm_RowSack___init__ cd_RowSack___init__ ct_RowSack___init__ : Value}
    {f_RunsSack___init__ : Addr} {od_RunsSack___init__ an_RunsSack___init__ : Option Addr} {sl_RunsSack___init__ : Array (Option Value)} {oc_RunsSack___init__ kV_RunsSack___init__ dc_RunsSack___init__ pm_RunsSack___init__ cd_RunsSack___init__ ct_RunsSack___init__ : Value}
    {f_BitsSack___init__ : Addr} {od_BitsSack___init__ an_BitsSack___init__ : Option Addr} {sl_BitsSack___init__ : Array (Option Value)} {oc_BitsSack___init__ kV_BitsSack___init__ dc_BitsSack___init__ pm_BitsSack___init__ cd_BitsSack___init__ ct_BitsSack___init__ : Value}
    {f_sack_of : Addr} {od_sack_of an_sack_of : Option Addr} {sl_sack_of : Array (Option Value)} {oc_sack_of kV_sack_of dc_sack_of pm_sack_of cd_sack_of ct_sack_of : Value}
    {f_is_low : Addr} {od_is_low an_is_low : Option Addr} {sl_is_low : Array (Option Value)} {oc_is_low kV_is_low dc_is_low pm_is_low cd_is_low ct_is_low : Value}
    {f_rising_lows : Addr} {od_rising_lows an_rising_lows : Option Addr} {sl_rising_lows : Array (Option Value)} {oc_rising_lows kV_rising_lows dc_rising_lows pm_rising_lows cd_rising_lows ct_rising_lows : Value}
    {f_pairs_of : Addr} {od_pairs_of an_pairs_of : Option Addr} {sl_pairs_of : Array (Option Value)} {oc_pairs_of kV_pairs_of dc_pairs_of pm_pairs_of cd_pairs_of ct_pairs_of : Value}
    {f_words_of : Addr} {od_words_of an_words_of : Option Addr} {sl_words_of : Array (Option Value)} {oc_words_of kV_words_of dc_words_of pm_words_of cd_words_of ct_words_of : Value}
    {f__law_cell_at : Addr} {od__law_cell_at an__law_cell_at : Option Addr} {sl__law_cell_at : Array (Option Value)} {oc__law_cell_at kV__law_cell_at dc__law_cell_at pm__law_cell_at cd__law_cell_at ct__law_cell_at : Value}
    {f__law_lows : Addr} {od__law_lows an__law_lows : Option Addr} {sl__law_lows : Array (Option Value)} {oc__law_lows kV__law_lows dc__law_lows pm__law_lows cd__law_lows ct__law_lows : Value}
    {f__law_runs : Addr} {od__law_runs an__law_runs : Option Addr} {sl__law_runs : Array (Option Value)} {oc__law_runs kV__law_runs dc__law_runs pm__law_runs cd__law_runs ct__law_runs : Value}
    {f__law_form : Addr} {od__law_form an__law_form : Option Addr} {sl__law_form : Array (Option Value)} {oc__law_form kV__law_form dc__law_form pm__law_form cd__law_form ct__law_form : Value}
    {f__law_pattern : Addr} {od__law_pattern an__law_pattern : Option Addr} {sl__law_pattern : Array (Option Value)} {oc__law_pattern kV__law_pattern dc__law_pattern pm__law_pattern cd__law_pattern ct__law_pattern : Value}
    {f__law_marks : Addr} {od__law_marks an__law_marks : Option Addr} {sl__law_marks : Array (Option Value)} {oc__law_marks kV__law_marks dc__law_marks pm__law_marks cd__law_marks ct__law_marks : Value}
    {f__law_told : Addr} {od__law_told an__law_told : Option Addr} {sl__law_told : Array (Option Value)} {oc__law_told kV__law_told dc__law_told pm__law_told cd__law_told ct__law_told : Value}
    {f_law : Addr} {od_law an_law : Option Addr} {sl_law : Array (Option Value)} {oc_law kV_law dc_law pm_law cd_law ct_law : Value}
    {c_SackError : Addr}
    {c_NoNumber : Addr}
    {c_NoStretch : Addr}
    {c_NoRank : Addr}
    {c_NoText : Addr}
    {c_Sack : Addr}
    {c_RowSack : Addr}
    {c_RunsSack : Addr}
    {c_BitsSack : Addr}
    {t_LOWS : Tok}
    {t_WORD_SIZE : Tok}
    {t_WORDS : Tok}
    {t_PAIR_WEIGHT : Tok}
    {t_BITS_WEIGHT : Tok}
    (a_SackError : PySem.W.nsIn K mainGlobals "SackError" = some (some (.ref c_SackError)))
    (a_NoNumber : PySem.W.nsIn K mainGlobals "NoNumber" = some (some (.ref c_NoNumber)))
    (a_NoStretch : PySem.W.nsIn K mainGlobals "NoStretch" = some (some (.ref c_NoStretch)))
    (a_NoRank : PySem.W.nsIn K mainGlobals "NoRank" = some (some (.ref c_NoRank)))
    (a_NoText : PySem.W.nsIn K mainGlobals "NoText" = some (some (.ref c_NoText)))
    (a_Sack : PySem.W.nsIn K mainGlobals "Sack" = some (some (.ref c_Sack)))
    (a_RowSack : PySem.W.nsIn K mainGlobals "RowSack" = some (some (.ref c_RowSack)))
    (a_RunsSack : PySem.W.nsIn K mainGlobals "RunsSack" = some (some (.ref c_RunsSack)))
    (a_BitsSack : PySem.W.nsIn K mainGlobals "BitsSack" = some (some (.ref c_BitsSack)))
    (i_RowSack : PySem.W.findIn K (.ref c_RowSack) "__init__" = some (some (.ref f_RowSack___init__)))
    (i_me_RowSack_form : PySem.W.findIn K (.ref c_RowSack) "form" = some (some (.ref f_Sack_form)))
    (i_me_RowSack_weight : PySem.W.findIn K (.ref c_RowSack) "weight" = some (some (.ref f_Sack_weight)))
    (i_RunsSack : PySem.W.findIn K (.ref c_RunsSack) "__init__" = some (some (.ref f_RunsSack___init__)))
    (i_me_RunsSack_form : PySem.W.findIn K (.ref c_RunsSack) "form" = some (some (.ref f_Sack_form)))
    (i_me_RunsSack_weight : PySem.W.findIn K (.ref c_RunsSack) "weight" = some (some (.ref f_Sack_weight)))
    (i_BitsSack : PySem.W.findIn K (.ref c_BitsSack) "__init__" = some (some (.ref f_BitsSack___init__)))
    (i_me_BitsSack_form : PySem.W.findIn K (.ref c_BitsSack) "form" = some (some (.ref f_Sack_form)))
    (i0_Sack___init__ : PySem.W.findIn K (.ref c_Sack) "__init__" = some (some (.ref f_Sack___init__)))
    (l_Sack___init__ : K.lookup f_Sack___init__ = some ⟨oc_Sack___init__, od_Sack___init__, .func (PySem.W.fnOf "__init__" "Sack.__init__" (defArgs (inClass (topS 13) 0)) (defBody (inClass (topS 13) 0)) (defScope (inClass (topS 13) 0)) .none kV_Sack___init__ dc_Sack___init__ pm_Sack___init__ an_Sack___init__ cd_Sack___init__ ct_Sack___init__), sl_Sack___init__⟩)
    (cdi_Sack___init__ : PySem.W.codeIn K cd_Sack___init__ "Sack.__init__" = true)
    (kp_Sack___init__ : PySem.W.keepIn K (.ref f_Sack___init__) = true)
    (l_Sack_form : K.lookup f_Sack_form = some ⟨oc_Sack_form, od_Sack_form, .func (PySem.W.fnOf "form" "Sack.form" (defArgs (inClass (topS 13) 1)) (defBody (inClass (topS 13) 1)) (defScope (inClass (topS 13) 1)) .none kV_Sack_form dc_Sack_form pm_Sack_form an_Sack_form cd_Sack_form ct_Sack_form), sl_Sack_form⟩)
    (cdi_Sack_form : PySem.W.codeIn K cd_Sack_form "Sack.form" = true)
    (kp_Sack_form : PySem.W.keepIn K (.ref f_Sack_form) = true)
    (l_Sack_weight : K.lookup f_Sack_weight = some ⟨oc_Sack_weight, od_Sack_weight, .func (PySem.W.fnOf "weight" "Sack.weight" (defArgs (inClass (topS 13) 3)) (defBody (inClass (topS 13) 3)) (defScope (inClass (topS 13) 3)) .none kV_Sack_weight dc_Sack_weight pm_Sack_weight an_Sack_weight cd_Sack_weight ct_Sack_weight), sl_Sack_weight⟩)
    (cdi_Sack_weight : PySem.W.codeIn K cd_Sack_weight "Sack.weight" = true)
    (kp_Sack_weight : PySem.W.keepIn K (.ref f_Sack_weight) = true)
    (l_RowSack___init__ : K.lookup f_RowSack___init__ = some ⟨oc_RowSack___init__, od_RowSack___init__, .func (PySem.W.fnOf "__init__" "RowSack.__init__" (defArgs (inClass (topS 14) 0)) (defBody (inClass (topS 14) 0)) (defScope (inClass (topS 14) 0)) .none kV_RowSack___init__ dc_RowSack___init__ pm_RowSack___init__ an_RowSack___init__ cd_RowSack___init__ ct_RowSack___init__), sl_RowSack___init__⟩)
    (cdi_RowSack___init__ : PySem.W.codeIn K cd_RowSack___init__ "RowSack.__init__" = true)
    (kp_RowSack___init__ : PySem.W.keepIn K (.ref f_RowSack___init__) = true)
    (l_RunsSack___init__ : K.lookup f_RunsSack___init__ = some ⟨oc_RunsSack___init__, od_RunsSack___init__, .func (PySem.W.fnOf "__init__" "RunsSack.__init__" (defArgs (inClass (topS 15) 0)) (defBody (inClass (topS 15) 0)) (defScope (inClass (topS 15) 0)) .none kV_RunsSack___init__ dc_RunsSack___init__ pm_RunsSack___init__ an_RunsSack___init__ cd_RunsSack___init__ ct_RunsSack___init__), sl_RunsSack___init__⟩)
    (cdi_RunsSack___init__ : PySem.W.codeIn K cd_RunsSack___init__ "RunsSack.__init__" = true)
    (kp_RunsSack___init__ : PySem.W.keepIn K (.ref f_RunsSack___init__) = true)
    (l_BitsSack___init__ : K.lookup f_BitsSack___init__ = some ⟨oc_BitsSack___init__, od_BitsSack___init__, .func (PySem.W.fnOf "__init__" "BitsSack.__init__" (defArgs (inClass (topS 16) 0)) (defBody (inClass (topS 16) 0)) (defScope (inClass (topS 16) 0)) .none kV_BitsSack___init__ dc_BitsSack___init__ pm_BitsSack___init__ an_BitsSack___init__ cd_BitsSack___init__ ct_BitsSack___init__), sl_BitsSack___init__⟩)
    (cdi_BitsSack___init__ : PySem.W.codeIn K cd_BitsSack___init__ "BitsSack.__init__" = true)
    (kp_BitsSack___init__ : PySem.W.keepIn K (.ref f_BitsSack___init__) = true)
    (a_sack_of : PySem.W.nsIn K mainGlobals "sack_of" = some (some (.ref f_sack_of)))
    (l_sack_of : K.lookup f_sack_of = some ⟨oc_sack_of, od_sack_of, .func (PySem.W.fnOf "sack_of" "sack_of" (defArgs (topS 17)) (defBody (topS 17)) (defScope (topS 17)) .none kV_sack_of dc_sack_of pm_sack_of an_sack_of cd_sack_of ct_sack_of), sl_sack_of⟩)
    (cdi_sack_of : PySem.W.codeIn K cd_sack_of "sack_of" = true)
    (kp_sack_of : PySem.W.keepIn K (.ref f_sack_of) = true)
    (a_is_low : PySem.W.nsIn K mainGlobals "is_low" = some (some (.ref f_is_low)))
    (l_is_low : K.lookup f_is_low = some ⟨oc_is_low, od_is_low, .func (PySem.W.fnOf "is_low" "is_low" (defArgs (topS 18)) (defBody (topS 18)) (defScope (topS 18)) .none kV_is_low dc_is_low pm_is_low an_is_low cd_is_low ct_is_low), sl_is_low⟩)
    (cdi_is_low : PySem.W.codeIn K cd_is_low "is_low" = true)
    (kp_is_low : PySem.W.keepIn K (.ref f_is_low) = true)
    (a_rising_lows : PySem.W.nsIn K mainGlobals "rising_lows" = some (some (.ref f_rising_lows)))
    (l_rising_lows : K.lookup f_rising_lows = some ⟨oc_rising_lows, od_rising_lows, .func (PySem.W.fnOf "rising_lows" "rising_lows" (defArgs (topS 19)) (defBody (topS 19)) (defScope (topS 19)) .none kV_rising_lows dc_rising_lows pm_rising_lows an_rising_lows cd_rising_lows ct_rising_lows), sl_rising_lows⟩)
    (cdi_rising_lows : PySem.W.codeIn K cd_rising_lows "rising_lows" = true)
    (kp_rising_lows : PySem.W.keepIn K (.ref f_rising_lows) = true)
    (a_pairs_of : PySem.W.nsIn K mainGlobals "pairs_of" = some (some (.ref f_pairs_of)))
    (l_pairs_of : K.lookup f_pairs_of = some ⟨oc_pairs_of, od_pairs_of, .func (PySem.W.fnOf "pairs_of" "pairs_of" (defArgs (topS 20)) (defBody (topS 20)) (defScope (topS 20)) .none kV_pairs_of dc_pairs_of pm_pairs_of an_pairs_of cd_pairs_of ct_pairs_of), sl_pairs_of⟩)
    (cdi_pairs_of : PySem.W.codeIn K cd_pairs_of "pairs_of" = true)
    (kp_pairs_of : PySem.W.keepIn K (.ref f_pairs_of) = true)
    (a_words_of : PySem.W.nsIn K mainGlobals "words_of" = some (some (.ref f_words_of)))
    (l_words_of : K.lookup f_words_of = some ⟨oc_words_of, od_words_of, .func (PySem.W.fnOf "words_of" "words_of" (defArgs (topS 21)) (defBody (topS 21)) (defScope (topS 21)) .none kV_words_of dc_words_of pm_words_of an_words_of cd_words_of ct_words_of), sl_words_of⟩)
    (cdi_words_of : PySem.W.codeIn K cd_words_of "words_of" = true)
    (kp_words_of : PySem.W.keepIn K (.ref f_words_of) = true)
    (a__law_cell_at : PySem.W.nsIn K mainGlobals "_law_cell_at" = some (some (.ref f__law_cell_at)))
    (l__law_cell_at : K.lookup f__law_cell_at = some ⟨oc__law_cell_at, od__law_cell_at, .func (PySem.W.fnOf "_law_cell_at" "_law_cell_at" (defArgs (topS 23)) (defBody (topS 23)) (defScope (topS 23)) .none kV__law_cell_at dc__law_cell_at pm__law_cell_at an__law_cell_at cd__law_cell_at ct__law_cell_at), sl__law_cell_at⟩)
    (cdi__law_cell_at : PySem.W.codeIn K cd__law_cell_at "_law_cell_at" = true)
    (kp__law_cell_at : PySem.W.keepIn K (.ref f__law_cell_at) = true)
    (a__law_lows : PySem.W.nsIn K mainGlobals "_law_lows" = some (some (.ref f__law_lows)))
    (l__law_lows : K.lookup f__law_lows = some ⟨oc__law_lows, od__law_lows, .func (PySem.W.fnOf "_law_lows" "_law_lows" (defArgs (topS 24)) (defBody (topS 24)) (defScope (topS 24)) .none kV__law_lows dc__law_lows pm__law_lows an__law_lows cd__law_lows ct__law_lows), sl__law_lows⟩)
    (cdi__law_lows : PySem.W.codeIn K cd__law_lows "_law_lows" = true)
    (kp__law_lows : PySem.W.keepIn K (.ref f__law_lows) = true)
    (a__law_runs : PySem.W.nsIn K mainGlobals "_law_runs" = some (some (.ref f__law_runs)))
    (l__law_runs : K.lookup f__law_runs = some ⟨oc__law_runs, od__law_runs, .func (PySem.W.fnOf "_law_runs" "_law_runs" (defArgs (topS 25)) (defBody (topS 25)) (defScope (topS 25)) .none kV__law_runs dc__law_runs pm__law_runs an__law_runs cd__law_runs ct__law_runs), sl__law_runs⟩)
    (cdi__law_runs : PySem.W.codeIn K cd__law_runs "_law_runs" = true)
    (kp__law_runs : PySem.W.keepIn K (.ref f__law_runs) = true)
    (a__law_form : PySem.W.nsIn K mainGlobals "_law_form" = some (some (.ref f__law_form)))
    (l__law_form : K.lookup f__law_form = some ⟨oc__law_form, od__law_form, .func (PySem.W.fnOf "_law_form" "_law_form" (defArgs (topS 26)) (defBody (topS 26)) (defScope (topS 26)) .none kV__law_form dc__law_form pm__law_form an__law_form cd__law_form ct__law_form), sl__law_form⟩)
    (cdi__law_form : PySem.W.codeIn K cd__law_form "_law_form" = true)
    (kp__law_form : PySem.W.keepIn K (.ref f__law_form) = true)
    (a__law_pattern : PySem.W.nsIn K mainGlobals "_law_pattern" = some (some (.ref f__law_pattern)))
    (l__law_pattern : K.lookup f__law_pattern = some ⟨oc__law_pattern, od__law_pattern, .func (PySem.W.fnOf "_law_pattern" "_law_pattern" (defArgs (topS 27)) (defBody (topS 27)) (defScope (topS 27)) .none kV__law_pattern dc__law_pattern pm__law_pattern an__law_pattern cd__law_pattern ct__law_pattern), sl__law_pattern⟩)
    (cdi__law_pattern : PySem.W.codeIn K cd__law_pattern "_law_pattern" = true)
    (kp__law_pattern : PySem.W.keepIn K (.ref f__law_pattern) = true)
    (a__law_marks : PySem.W.nsIn K mainGlobals "_law_marks" = some (some (.ref f__law_marks)))
    (l__law_marks : K.lookup f__law_marks = some ⟨oc__law_marks, od__law_marks, .func (PySem.W.fnOf "_law_marks" "_law_marks" (defArgs (topS 28)) (defBody (topS 28)) (defScope (topS 28)) .none kV__law_marks dc__law_marks pm__law_marks an__law_marks cd__law_marks ct__law_marks), sl__law_marks⟩)
    (cdi__law_marks : PySem.W.codeIn K cd__law_marks "_law_marks" = true)
    (kp__law_marks : PySem.W.keepIn K (.ref f__law_marks) = true)
    (a__law_told : PySem.W.nsIn K mainGlobals "_law_told" = some (some (.ref f__law_told)))
    (l__law_told : K.lookup f__law_told = some ⟨oc__law_told, od__law_told, .func (PySem.W.fnOf "_law_told" "_law_told" (defArgs (topS 29)) (defBody (topS 29)) (defScope (topS 29)) .none kV__law_told dc__law_told pm__law_told an__law_told cd__law_told ct__law_told), sl__law_told⟩)
    (cdi__law_told : PySem.W.codeIn K cd__law_told "_law_told" = true)
    (kp__law_told : PySem.W.keepIn K (.ref f__law_told) = true)
    (a_law : PySem.W.nsIn K mainGlobals "law" = some (some (.ref f_law)))
    (l_law : K.lookup f_law = some ⟨oc_law, od_law, .func (PySem.W.fnOf "law" "law" (defArgs (topS 30)) (defBody (topS 30)) (defScope (topS 30)) .none kV_law dc_law pm_law an_law cd_law ct_law), sl_law⟩)
    (cdi_law : PySem.W.codeIn K cd_law "law" = true)
    (kp_law : PySem.W.keepIn K (.ref f_law) = true)
    (a_LOWS : PySem.W.nsIn K mainGlobals "LOWS" = some (some (.int 256 t_LOWS)))
    (a_WORD_SIZE : PySem.W.nsIn K mainGlobals "WORD_SIZE" = some (some (.int 64 t_WORD_SIZE)))
    (a_WORDS : PySem.W.nsIn K mainGlobals "WORDS" = some (some (.int 4 t_WORDS)))
    (a_PAIR_WEIGHT : PySem.W.nsIn K mainGlobals "PAIR_WEIGHT" = some (some (.int 2 t_PAIR_WEIGHT)))
    (a_BITS_WEIGHT : PySem.W.nsIn K mainGlobals "BITS_WEIGHT" = some (some (.int 32 t_BITS_WEIGHT)))
    (a_ValueError : PySem.W.nsIn K mainGlobals "ValueError" = some none)
    (a_int : PySem.W.nsIn K mainGlobals "int" = some none)
    (a_isinstance : PySem.W.nsIn K mainGlobals "isinstance" = some none)
    (a_len : PySem.W.nsIn K mainGlobals "len" = some none)
    (a_range : PySem.W.nsIn K mainGlobals "range" = some none)
    (a_set : PySem.W.nsIn K mainGlobals "set" = some none)
    (a_sorted : PySem.W.nsIn K mainGlobals "sorted" = some none)
    (a_tuple : PySem.W.nsIn K mainGlobals "tuple" = some none)
    (a_type : PySem.W.nsIn K mainGlobals "type" = some none)
    (x_NoNumber : PySem.W.excIn K c_NoNumber [.type "ValueError", .type "Exception", .type "BaseException", .type "object"] "ValueError.__new__" = true)
    (kc_NoNumber : PySem.W.keepIn K (.ref c_NoNumber) = true)
    (be_NoNumber : PySem.W.subIn K (.ref c_NoNumber) (.type "BaseException") = some true)
    (ty_NoNumber : PySem.W.typeIn K (.ref c_NoNumber) = some (.type "type"))
    (pg_RowSack : PySem.W.plainGet K c_RowSack Str.empty = true)
    (hd_RowSack : PySem.W.hasDictIn K c_RowSack = true)
    (po_RowSack : PySem.W.plainOver K c_RowSack = true)
    (sa_RowSack : PySem.W.findIn K (.ref c_RowSack) "__setattr__" = some (some (.builtin "object.__setattr__")))
    (mk_RowSack : PySem.W.makesIn K c_RowSack = true)
    (fn_f_RowSack___init__ : PySem.W.isFn K (.ref f_RowSack___init__) = true)
    (kc_RowSack : PySem.W.keepIn K (.ref c_RowSack) = true)
    (fn_f_Sack_form : PySem.W.isFn K (.ref f_Sack_form) = true)
    (fn_f_Sack_weight : PySem.W.isFn K (.ref f_Sack_weight) = true)
    (na_RowSack__kind : PySem.W.findIn K (.ref c_RowSack) "_kind" = some none)
    (na_RowSack__told : PySem.W.findIn K (.ref c_RowSack) "_told" = some none)
    (na_RowSack__weight : PySem.W.findIn K (.ref c_RowSack) "_weight" = some none)
    (pg_RunsSack : PySem.W.plainGet K c_RunsSack Str.empty = true)
    (hd_RunsSack : PySem.W.hasDictIn K c_RunsSack = true)
    (po_RunsSack : PySem.W.plainOver K c_RunsSack = true)
    (sa_RunsSack : PySem.W.findIn K (.ref c_RunsSack) "__setattr__" = some (some (.builtin "object.__setattr__")))
    (mk_RunsSack : PySem.W.makesIn K c_RunsSack = true)
    (fn_f_RunsSack___init__ : PySem.W.isFn K (.ref f_RunsSack___init__) = true)
    (kc_RunsSack : PySem.W.keepIn K (.ref c_RunsSack) = true)
    (na_RunsSack__kind : PySem.W.findIn K (.ref c_RunsSack) "_kind" = some none)
    (na_RunsSack__told : PySem.W.findIn K (.ref c_RunsSack) "_told" = some none)
    (na_RunsSack__weight : PySem.W.findIn K (.ref c_RunsSack) "_weight" = some none)
    (pg_BitsSack : PySem.W.plainGet K c_BitsSack Str.empty = true)
    (hd_BitsSack : PySem.W.hasDictIn K c_BitsSack = true)
    (po_BitsSack : PySem.W.plainOver K c_BitsSack = true)
    (sa_BitsSack : PySem.W.findIn K (.ref c_BitsSack) "__setattr__" = some (some (.builtin "object.__setattr__")))
    (mk_BitsSack : PySem.W.makesIn K c_BitsSack = true)
    (fn_f_BitsSack___init__ : PySem.W.isFn K (.ref f_BitsSack___init__) = true)
    (kc_BitsSack : PySem.W.keepIn K (.ref c_BitsSack) = true)
    (na_BitsSack__kind : PySem.W.findIn K (.ref c_BitsSack) "_kind" = some none)
    (na_BitsSack__told : PySem.W.findIn K (.ref c_BitsSack) "_told" = some none)
    (na_BitsSack__weight : PySem.W.findIn K (.ref c_BitsSack) "_weight" = some none)
    (eg_NoNumber : PySem.W.findIn K (.ref c_NoNumber) "__getattribute__" = some (some (.builtin "BaseException.__getattribute__")))
    (ek_NoNumber : PySem.W.findIn K (.ref c_NoNumber) "__getattr__" = some none)
    (hd_NoNumber : PySem.W.hasDictIn K c_NoNumber = true)
    (ea_NoNumber : PySem.W.findIn K (.ref c_NoNumber) "__class__" = some (some (.builtin "object.__class__")))
    (en_ : PySem.W.specialIn K (.builtin "object.__class__") "__get__" = some (some (.builtin "getset_descriptor.__get__")))
    (et_ : PySem.W.takesIn K (.builtin "object.__class__") = some true)
    (em_NoNumber : PySem.W.mroIn K c_NoNumber (.type "object") = some true)
    (ne_NoNumber_NoStretch : (Value.ref c_NoNumber == Value.ref c_NoStretch) = false)
    (ic_NoStretch : PySem.W.isClsIn K c_NoStretch = true)
    (ty_NoStretch : PySem.W.typeIn K (.ref c_NoStretch) = some (.type "type"))
    (su_NoNumber_NoStretch : PySem.W.subIn K (.ref c_NoNumber) (.ref c_NoStretch) = some false)
    (ne_NoNumber_NoRank : (Value.ref c_NoNumber == Value.ref c_NoRank) = false)
    (ic_NoRank : PySem.W.isClsIn K c_NoRank = true)
    (ty_NoRank : PySem.W.typeIn K (.ref c_NoRank) = some (.type "type"))
    (su_NoNumber_NoRank : PySem.W.subIn K (.ref c_NoNumber) (.ref c_NoRank) = some false)
    (ne_NoNumber_NoText : (Value.ref c_NoNumber == Value.ref c_NoText) = false)
    (ic_NoText : PySem.W.isClsIn K c_NoText = true)
    (ty_NoText : PySem.W.typeIn K (.ref c_NoText) = some (.type "type"))
    (su_NoNumber_NoText : PySem.W.subIn K (.ref c_NoNumber) (.ref c_NoText) = some false)
    (su_NoNumber_ValueError : PySem.W.subIn K (.ref c_NoNumber) (.type "ValueError") = some true)
    (rd_c_Sack : PySem.W.readsIn K c_Sack (.type "type") = true)
    (ga_c_Sack : PySem.W.specialIn K (.ref c_Sack) "__getattribute__" = some (some (.builtin "type.__getattribute__")))
    (cf_Sack___init__ : PySem.W.findCls K (.ref c_Sack) (.type "type") "__init__" = some (.val (.ref f_Sack___init__)))
    (be_SackError : PySem.W.subIn K (.ref c_SackError) (.type "BaseException") = some true)
    (hd_SackError : PySem.W.hasDictIn K c_SackError = true)
    (ty_SackError : PySem.W.typeIn K (.ref c_SackError) = some (.type "type"))
    (su_NoNumber_SackError : PySem.W.subIn K (.ref c_NoNumber) (.ref c_SackError) = some true)
    : ∃ fd : FuncData, (∀ (s : Shared) (v : Value), BindsTo s fd ⟨[v], []⟩ [("_law_script", v)]) ∧ ∀ base : Heap, K.In base → base.Ns mainGlobals mg → FnOk P w K mg base CX0 6 fa fd ["_law_script"] (spLaw K) := by
  have e := hfa.symm.trans (PySem.W.mg_of X G a_law)
  cases e
  have F_Sack___init__ := fun_mk (st := inClass (topS 13) 0) l_Sack___init__ cdi_Sack___init__ kp_Sack___init__
  have b_Sack___init__ := F_Sack___init__.binds (ps := ["self", "kind", "told", "weight"]) fun _ _ _ _ _ _ us hl => match us, hl with | [_, _, _, _], _ => rfl
  have F_Sack_form := fun_mk (st := inClass (topS 13) 1) l_Sack_form cdi_Sack_form kp_Sack_form
  have b_Sack_form := F_Sack_form.binds (ps := ["self"]) fun _ _ _ _ _ _ us hl => match us, hl with | [_], _ => rfl
  have F_Sack_weight := fun_mk (st := inClass (topS 13) 3) l_Sack_weight cdi_Sack_weight kp_Sack_weight
  have b_Sack_weight := F_Sack_weight.binds (ps := ["self"]) fun _ _ _ _ _ _ us hl => match us, hl with | [_], _ => rfl
  have F_RowSack___init__ := fun_mk (st := inClass (topS 14) 0) l_RowSack___init__ cdi_RowSack___init__ kp_RowSack___init__
  have b_RowSack___init__ := F_RowSack___init__.binds (ps := ["self", "lows"]) fun _ _ _ _ _ _ us hl => match us, hl with | [_, _], _ => rfl
  have F_RunsSack___init__ := fun_mk (st := inClass (topS 15) 0) l_RunsSack___init__ cdi_RunsSack___init__ kp_RunsSack___init__
  have b_RunsSack___init__ := F_RunsSack___init__.binds (ps := ["self", "pairs"]) fun _ _ _ _ _ _ us hl => match us, hl with | [_, _], _ => rfl
  have F_BitsSack___init__ := fun_mk (st := inClass (topS 16) 0) l_BitsSack___init__ cdi_BitsSack___init__ kp_BitsSack___init__
  have b_BitsSack___init__ := F_BitsSack___init__.binds (ps := ["self", "words"]) fun _ _ _ _ _ _ us hl => match us, hl with | [_, _], _ => rfl
  have F_sack_of := fun_mk (st := topS 17) l_sack_of cdi_sack_of kp_sack_of
  have b_sack_of := F_sack_of.binds (ps := ["lows"]) fun _ _ _ _ _ _ us hl => match us, hl with | [_], _ => rfl
  have F_is_low := fun_mk (st := topS 18) l_is_low cdi_is_low kp_is_low
  have b_is_low := F_is_low.binds (ps := ["low"]) fun _ _ _ _ _ _ us hl => match us, hl with | [_], _ => rfl
  have F_rising_lows := fun_mk (st := topS 19) l_rising_lows cdi_rising_lows kp_rising_lows
  have b_rising_lows := F_rising_lows.binds (ps := ["lows"]) fun _ _ _ _ _ _ us hl => match us, hl with | [_], _ => rfl
  have F_pairs_of := fun_mk (st := topS 20) l_pairs_of cdi_pairs_of kp_pairs_of
  have b_pairs_of := F_pairs_of.binds (ps := ["rising"]) fun _ _ _ _ _ _ us hl => match us, hl with | [_], _ => rfl
  have F_words_of := fun_mk (st := topS 21) l_words_of cdi_words_of kp_words_of
  have b_words_of := F_words_of.binds (ps := ["rising"]) fun _ _ _ _ _ _ us hl => match us, hl with | [_], _ => rfl
  have F__law_cell_at := fun_mk (st := topS 23) l__law_cell_at cdi__law_cell_at kp__law_cell_at
  have b__law_cell_at := F__law_cell_at.binds (ps := ["_law_script", "_law_k"]) fun _ _ _ _ _ _ us hl => match us, hl with | [_, _], _ => rfl
  have F__law_lows := fun_mk (st := topS 24) l__law_lows cdi__law_lows kp__law_lows
  have b__law_lows := F__law_lows.binds (ps := ["_law_bits"]) fun _ _ _ _ _ _ us hl => match us, hl with | [_], _ => rfl
  have F__law_runs := fun_mk (st := topS 25) l__law_runs cdi__law_runs kp__law_runs
  have b__law_runs := F__law_runs.binds (ps := ["_law_lows_here"]) fun _ _ _ _ _ _ us hl => match us, hl with | [_], _ => rfl
  have F__law_form := fun_mk (st := topS 26) l__law_form cdi__law_form kp__law_form
  have b__law_form := F__law_form.binds (ps := ["_law_bits"]) fun _ _ _ _ _ _ us hl => match us, hl with | [_], _ => rfl
  have F__law_pattern := fun_mk (st := topS 27) l__law_pattern cdi__law_pattern kp__law_pattern
  have b__law_pattern := F__law_pattern.binds (ps := ["_law_cell"]) fun _ _ _ _ _ _ us hl => match us, hl with | [_], _ => rfl
  have F__law_marks := fun_mk (st := topS 28) l__law_marks cdi__law_marks kp__law_marks
  have b__law_marks := F__law_marks.binds (ps := ["_law_e"]) fun _ _ _ _ _ _ us hl => match us, hl with | [_], _ => rfl
  have F__law_told := fun_mk (st := topS 29) l__law_told cdi__law_told kp__law_told
  have b__law_told := F__law_told.binds (ps := ["_law_lows_here"]) fun _ _ _ _ _ _ us hl => match us, hl with | [_], _ => rfl
  have F_law := fun_mk (st := topS 30) l_law cdi_law kp_law
  have b_law := F_law.binds (ps := ["_law_script"]) fun _ _ _ _ _ _ us hl => match us, hl with | [_], _ => rfl
  let T : Tx K mg := { f_Sack___init__ := f_Sack___init__, fd_Sack___init__ := _, F_Sack___init__ := F_Sack___init__, b_Sack___init__ := b_Sack___init__, f_Sack_form := f_Sack_form, fd_Sack_form := _, F_Sack_form := F_Sack_form, b_Sack_form := b_Sack_form, f_Sack_weight := f_Sack_weight, fd_Sack_weight := _, F_Sack_weight := F_Sack_weight, b_Sack_weight := b_Sack_weight, f_RowSack___init__ := f_RowSack___init__, fd_RowSack___init__ := _, F_RowSack___init__ := F_RowSack___init__, b_RowSack___init__ := b_RowSack___init__, f_RunsSack___init__ := f_RunsSack___init__, fd_RunsSack___init__ := _, F_RunsSack___init__ := F_RunsSack___init__, b_RunsSack___init__ := b_RunsSack___init__, f_BitsSack___init__ := f_BitsSack___init__, fd_BitsSack___init__ := _, F_BitsSack___init__ := F_BitsSack___init__, b_BitsSack___init__ := b_BitsSack___init__, f_sack_of := f_sack_of, fd_sack_of := _, F_sack_of := F_sack_of, m_sack_of := PySem.W.mg_of X G a_sack_of, b_sack_of := b_sack_of, f_is_low := f_is_low, fd_is_low := _, F_is_low := F_is_low, m_is_low := PySem.W.mg_of X G a_is_low, b_is_low := b_is_low, f_rising_lows := f_rising_lows, fd_rising_lows := _, F_rising_lows := F_rising_lows, m_rising_lows := PySem.W.mg_of X G a_rising_lows, b_rising_lows := b_rising_lows, f_pairs_of := f_pairs_of, fd_pairs_of := _, F_pairs_of := F_pairs_of, m_pairs_of := PySem.W.mg_of X G a_pairs_of, b_pairs_of := b_pairs_of, f_words_of := f_words_of, fd_words_of := _, F_words_of := F_words_of, m_words_of := PySem.W.mg_of X G a_words_of, b_words_of := b_words_of, f__law_cell_at := f__law_cell_at, fd__law_cell_at := _, F__law_cell_at := F__law_cell_at, m__law_cell_at := PySem.W.mg_of X G a__law_cell_at, b__law_cell_at := b__law_cell_at, f__law_lows := f__law_lows, fd__law_lows := _, F__law_lows := F__law_lows, m__law_lows := PySem.W.mg_of X G a__law_lows, b__law_lows := b__law_lows, f__law_runs := f__law_runs, fd__law_runs := _, F__law_runs := F__law_runs, m__law_runs := PySem.W.mg_of X G a__law_runs, b__law_runs := b__law_runs, f__law_form := f__law_form, fd__law_form := _, F__law_form := F__law_form, m__law_form := PySem.W.mg_of X G a__law_form, b__law_form := b__law_form, f__law_pattern := f__law_pattern, fd__law_pattern := _, F__law_pattern := F__law_pattern, m__law_pattern := PySem.W.mg_of X G a__law_pattern, b__law_pattern := b__law_pattern, f__law_marks := f__law_marks, fd__law_marks := _, F__law_marks := F__law_marks, m__law_marks := PySem.W.mg_of X G a__law_marks, b__law_marks := b__law_marks, f__law_told := f__law_told, fd__law_told := _, F__law_told := F__law_told, m__law_told := PySem.W.mg_of X G a__law_told, b__law_told := b__law_told, f_law := fa, fd_law := _, F_law := F_law, m_law := PySem.W.mg_of X G a_law, b_law := b_law, t_LOWS := t_LOWS, m_LOWS := PySem.W.mg_of X G a_LOWS, t_WORD_SIZE := t_WORD_SIZE, m_WORD_SIZE := PySem.W.mg_of X G a_WORD_SIZE, t_WORDS := t_WORDS, m_WORDS := PySem.W.mg_of X G a_WORDS, t_PAIR_WEIGHT := t_PAIR_WEIGHT, m_PAIR_WEIGHT := PySem.W.mg_of X G a_PAIR_WEIGHT, t_BITS_WEIGHT := t_BITS_WEIGHT, m_BITS_WEIGHT := PySem.W.mg_of X G a_BITS_WEIGHT, z_ValueError := PySem.W.mg_none_of X G a_ValueError, z_int := PySem.W.mg_none_of X G a_int, z_isinstance := PySem.W.mg_none_of X G a_isinstance, z_len := PySem.W.mg_none_of X G a_len, z_range := PySem.W.mg_none_of X G a_range, z_set := PySem.W.mg_none_of X G a_set, z_sorted := PySem.W.mg_none_of X G a_sorted, z_tuple := PySem.W.mg_none_of X G a_tuple, z_type := PySem.W.mg_none_of X G a_type, c_SackError := c_SackError, m_SackError := PySem.W.mg_of X G a_SackError, c_NoNumber := c_NoNumber, m_NoNumber := PySem.W.mg_of X G a_NoNumber, x_NoNumber := x_NoNumber, k_NoNumber := kc_NoNumber, b_NoNumber := be_NoNumber, t_NoNumber := ty_NoNumber, c_NoStretch := c_NoStretch, m_NoStretch := PySem.W.mg_of X G a_NoStretch, c_NoRank := c_NoRank, m_NoRank := PySem.W.mg_of X G a_NoRank, c_NoText := c_NoText, m_NoText := PySem.W.mg_of X G a_NoText, c_Sack := c_Sack, m_Sack := PySem.W.mg_of X G a_Sack, c_RowSack := c_RowSack, m_RowSack := PySem.W.mg_of X G a_RowSack, cl_RowSack := ⟨pg_RowSack, hd_RowSack, po_RowSack, sa_RowSack⟩, mk_RowSack := ⟨mk_RowSack, i_RowSack, fn_f_RowSack___init__, kc_RowSack⟩, me_RowSack_form := ⟨i_me_RowSack_form, fn_f_Sack_form, kp_Sack_form⟩, me_RowSack_weight := ⟨i_me_RowSack_weight, fn_f_Sack_weight, kp_Sack_weight⟩, na_RowSack__kind := na_RowSack__kind, na_RowSack__told := na_RowSack__told, na_RowSack__weight := na_RowSack__weight, c_RunsSack := c_RunsSack, m_RunsSack := PySem.W.mg_of X G a_RunsSack, cl_RunsSack := ⟨pg_RunsSack, hd_RunsSack, po_RunsSack, sa_RunsSack⟩, mk_RunsSack := ⟨mk_RunsSack, i_RunsSack, fn_f_RunsSack___init__, kc_RunsSack⟩, me_RunsSack_form := ⟨i_me_RunsSack_form, fn_f_Sack_form, kp_Sack_form⟩, me_RunsSack_weight := ⟨i_me_RunsSack_weight, fn_f_Sack_weight, kp_Sack_weight⟩, na_RunsSack__kind := na_RunsSack__kind, na_RunsSack__told := na_RunsSack__told, na_RunsSack__weight := na_RunsSack__weight, c_BitsSack := c_BitsSack, m_BitsSack := PySem.W.mg_of X G a_BitsSack, cl_BitsSack := ⟨pg_BitsSack, hd_BitsSack, po_BitsSack, sa_BitsSack⟩, mk_BitsSack := ⟨mk_BitsSack, i_BitsSack, fn_f_BitsSack___init__, kc_BitsSack⟩, me_BitsSack_form := ⟨i_me_BitsSack_form, fn_f_Sack_form, kp_Sack_form⟩, na_BitsSack__kind := na_BitsSack__kind, na_BitsSack__told := na_BitsSack__told, na_BitsSack__weight := na_BitsSack__weight, ec_NoNumber := ⟨eg_NoNumber, ek_NoNumber, be_NoNumber, hd_NoNumber, ea_NoNumber, en_, et_, em_NoNumber⟩, ki_NoNumber_NoNumber := ki_self, ki_NoNumber_NoStretch := ki_ref ne_NoNumber_NoStretch ic_NoStretch ty_NoStretch su_NoNumber_NoStretch, ki_NoNumber_NoRank := ki_ref ne_NoNumber_NoRank ic_NoRank ty_NoRank su_NoNumber_NoRank, ki_NoNumber_NoText := ki_ref ne_NoNumber_NoText ic_NoText ty_NoText su_NoNumber_NoText, ki_NoNumber_ValueError := ki_ty (by decide +kernel) su_NoNumber_ValueError, cf_Sack___init__ := ⟨⟨rd_c_Sack, ga_c_Sack⟩, cf_Sack___init__, kp_Sack___init__⟩, exm_NoNumber_SackError := PySem.W.exm_ref be_SackError hd_SackError ty_SackError su_NoNumber_SackError }
  exact ⟨T.fd_law, fun s v => .of_eq rfl, fun base _ _ => ok_law (P := P) (w := w) (base := base) T⟩
end K
open PySem PySem.W PyProof.Rows
set_option maxHeartbeats 0 in
theorem PySem.Challenge.cw_sackset_k02_no_sacks_holds : PySem.Challenge.rw_sackset_k02_no_sacks.Holds := by
  w_on; o_law; k_head; (case hw => w_witness2)
  k_fill
  refine L2.walk_of (l := PySem.Challenge.rw_sackset_k02_no_sacks) (n := 63) (k := 6) (x := "_law_script") (CX := fun _ => L2.CX0) (sp := fun w => K.spLaw _) rfl (by decide) rfl ⟨rfl, by decide, by decide⟩ (fun w h Y => PySem.W.kIn_of Y) ?F (fun _ _ a ns hl _ hS => ⟨a, ns, rfl, hS, hl, fun _ => rfl⟩) (fun _ _ _ _ _ h => h)
  case F =>
    intro w mg fa h KX G hmg
    refine' K.all_mk KX G hmg ?a_SackError ?a_NoNumber ?a_NoStretch ?a_NoRank ?a_NoText ?a_Sack ?a_RowSack ?a_RunsSack ?a_BitsSack ?i_RowSack ?i_me_RowSack_form ?i_me_RowSack_weight ?i_RunsSack ?i_me_RunsSack_form ?i_me_RunsSack_weight ?i_BitsSack ?i_me_BitsSack_form ?i0_Sack___init__ ?l_Sack___init__ ?cdi_Sack___init__ ?kp_Sack___init__ ?l_Sack_form ?cdi_Sack_form ?kp_Sack_form ?l_Sack_weight ?cdi_Sack_weight ?kp_Sack_weight ?l_RowSack___init__ ?cdi_RowSack___init__ ?kp_RowSack___init__ ?l_RunsSack___init__ ?cdi_RunsSack___init__ ?kp_RunsSack___init__ ?l_BitsSack___init__ ?cdi_BitsSack___init__ ?kp_BitsSack___init__ ?a_sack_of ?l_sack_of ?cdi_sack_of ?kp_sack_of ?a_is_low ?l_is_low ?cdi_is_low ?kp_is_low ?a_rising_lows ?l_rising_lows ?cdi_rising_lows ?kp_rising_lows ?a_pairs_of ?l_pairs_of ?cdi_pairs_of ?kp_pairs_of ?a_words_of ?l_words_of ?cdi_words_of ?kp_words_of ?a__law_cell_at ?l__law_cell_at ?cdi__law_cell_at ?kp__law_cell_at ?a__law_lows ?l__law_lows ?cdi__law_lows ?kp__law_lows ?a__law_runs ?l__law_runs ?cdi__law_runs ?kp__law_runs ?a__law_form ?l__law_form ?cdi__law_form ?kp__law_form ?a__law_pattern ?l__law_pattern ?cdi__law_pattern ?kp__law_pattern ?a__law_marks ?l__law_marks ?cdi__law_marks ?kp__law_marks ?a__law_told ?l__law_told ?cdi__law_told ?kp__law_told ?a_law ?l_law ?cdi_law ?kp_law ?a_LOWS ?a_WORD_SIZE ?a_WORDS ?a_PAIR_WEIGHT ?a_BITS_WEIGHT ?a_ValueError ?a_int ?a_isinstance ?a_len ?a_range ?a_set ?a_sorted ?a_tuple ?a_type ?x_NoNumber ?kc_NoNumber ?be_NoNumber ?ty_NoNumber ?pg_RowSack ?hd_RowSack ?po_RowSack ?sa_RowSack ?mk_RowSack ?fn_f_RowSack___init__ ?kc_RowSack ?fn_f_Sack_form ?fn_f_Sack_weight ?na_RowSack__kind ?na_RowSack__told ?na_RowSack__weight ?pg_RunsSack ?hd_RunsSack ?po_RunsSack ?sa_RunsSack ?mk_RunsSack ?fn_f_RunsSack___init__ ?kc_RunsSack ?na_RunsSack__kind ?na_RunsSack__told ?na_RunsSack__weight ?pg_BitsSack ?hd_BitsSack ?po_BitsSack ?sa_BitsSack ?mk_BitsSack ?fn_f_BitsSack___init__ ?kc_BitsSack ?na_BitsSack__kind ?na_BitsSack__told ?na_BitsSack__weight ?eg_NoNumber ?ek_NoNumber ?hd_NoNumber ?ea_NoNumber ?en_ ?et_ ?em_NoNumber ?ne_NoNumber_NoStretch ?ic_NoStretch ?ty_NoStretch ?su_NoNumber_NoStretch ?ne_NoNumber_NoRank ?ic_NoRank ?ty_NoRank ?su_NoNumber_NoRank ?ne_NoNumber_NoText ?ic_NoText ?ty_NoText ?su_NoNumber_NoText ?su_NoNumber_ValueError ?rd_c_Sack ?ga_c_Sack ?cf_Sack___init__ ?be_SackError ?hd_SackError ?ty_SackError ?su_NoNumber_SackError
    (case a_SackError => k_is)
    (case a_NoNumber => k_is)
    (case a_NoStretch => k_is)
    (case a_NoRank => k_is)
    (case a_NoText => k_is)
    (case a_Sack => k_is)
    (case a_RowSack => k_is)
    (case a_RunsSack => k_is)
    (case a_BitsSack => k_is)
    (case i_RowSack => k_is)
    (case i_me_RowSack_form => k_is)
    (case i_me_RowSack_weight => k_is)
    (case i_RunsSack => k_is)
    (case i_me_RunsSack_form => k_is)
    (case i_me_RunsSack_weight => k_is)
    (case i_BitsSack => k_is)
    (case i_me_BitsSack_form => k_is)
    (case i0_Sack___init__ => k_is)
    (case l_Sack___init__ => k_is)
    (case cdi_Sack___init__ => k_is)
    (case kp_Sack___init__ => k_is)
    (case l_Sack_form => k_is)
    (case cdi_Sack_form => k_is)
    (case kp_Sack_form => k_is)
    (case l_Sack_weight => k_is)
    (case cdi_Sack_weight => k_is)
    (case kp_Sack_weight => k_is)
    (case l_RowSack___init__ => k_is)
    (case cdi_RowSack___init__ => k_is)
    (case kp_RowSack___init__ => k_is)
    (case l_RunsSack___init__ => k_is)
    (case cdi_RunsSack___init__ => k_is)
    (case kp_RunsSack___init__ => k_is)
    (case l_BitsSack___init__ => k_is)
    (case cdi_BitsSack___init__ => k_is)
    (case kp_BitsSack___init__ => k_is)
    (case a_sack_of => k_is)
    (case l_sack_of => k_is)
    (case cdi_sack_of => k_is)
    (case kp_sack_of => k_is)
    (case a_is_low => k_is)
    (case l_is_low => k_is)
    (case cdi_is_low => k_is)
    (case kp_is_low => k_is)
    (case a_rising_lows => k_is)
    (case l_rising_lows => k_is)
    (case cdi_rising_lows => k_is)
    (case kp_rising_lows => k_is)
    (case a_pairs_of => k_is)
    (case l_pairs_of => k_is)
    (case cdi_pairs_of => k_is)
    (case kp_pairs_of => k_is)
    (case a_words_of => k_is)
    (case l_words_of => k_is)
    (case cdi_words_of => k_is)
    (case kp_words_of => k_is)
    (case a__law_cell_at => k_is)
    (case l__law_cell_at => k_is)
    (case cdi__law_cell_at => k_is)
    (case kp__law_cell_at => k_is)
    (case a__law_lows => k_is)
    (case l__law_lows => k_is)
    (case cdi__law_lows => k_is)
    (case kp__law_lows => k_is)
    (case a__law_runs => k_is)
    (case l__law_runs => k_is)
    (case cdi__law_runs => k_is)
    (case kp__law_runs => k_is)
    (case a__law_form => k_is)
    (case l__law_form => k_is)
    (case cdi__law_form => k_is)
    (case kp__law_form => k_is)
    (case a__law_pattern => k_is)
    (case l__law_pattern => k_is)
    (case cdi__law_pattern => k_is)
    (case kp__law_pattern => k_is)
    (case a__law_marks => k_is)
    (case l__law_marks => k_is)
    (case cdi__law_marks => k_is)
    (case kp__law_marks => k_is)
    (case a__law_told => k_is)
    (case l__law_told => k_is)
    (case cdi__law_told => k_is)
    (case kp__law_told => k_is)
    (case a_law => k_is)
    (case l_law => k_is)
    (case cdi_law => k_is)
    (case kp_law => k_is)
    (case a_LOWS => k_is)
    (case a_WORD_SIZE => k_is)
    (case a_WORDS => k_is)
    (case a_PAIR_WEIGHT => k_is)
    (case a_BITS_WEIGHT => k_is)
    (case a_ValueError => k_is)
    (case a_int => k_is)
    (case a_isinstance => k_is)
    (case a_len => k_is)
    (case a_range => k_is)
    (case a_set => k_is)
    (case a_sorted => k_is)
    (case a_tuple => k_is)
    (case a_type => k_is)
    (case x_NoNumber => k_exc)
    (case kc_NoNumber => k_is)
    (case be_NoNumber => k_is)
    (case ty_NoNumber => k_is)
    (case pg_RowSack => k_is)
    (case hd_RowSack => k_is)
    (case po_RowSack => k_is)
    (case sa_RowSack => k_is)
    (case mk_RowSack => k_is)
    (case fn_f_RowSack___init__ => k_is)
    (case kc_RowSack => k_is)
    (case fn_f_Sack_form => k_is)
    (case fn_f_Sack_weight => k_is)
    (case na_RowSack__kind => k_is)
    (case na_RowSack__told => k_is)
    (case na_RowSack__weight => k_is)
    (case pg_RunsSack => k_is)
    (case hd_RunsSack => k_is)
    (case po_RunsSack => k_is)
    (case sa_RunsSack => k_is)
    (case mk_RunsSack => k_is)
    (case fn_f_RunsSack___init__ => k_is)
    (case kc_RunsSack => k_is)
    (case na_RunsSack__kind => k_is)
    (case na_RunsSack__told => k_is)
    (case na_RunsSack__weight => k_is)
    (case pg_BitsSack => k_is)
    (case hd_BitsSack => k_is)
    (case po_BitsSack => k_is)
    (case sa_BitsSack => k_is)
    (case mk_BitsSack => k_is)
    (case fn_f_BitsSack___init__ => k_is)
    (case kc_BitsSack => k_is)
    (case na_BitsSack__kind => k_is)
    (case na_BitsSack__told => k_is)
    (case na_BitsSack__weight => k_is)
    (case eg_NoNumber => k_is)
    (case ek_NoNumber => k_is)
    (case hd_NoNumber => k_is)
    (case ea_NoNumber => k_is)
    (case en_ => k_is)
    (case et_ => k_is)
    (case em_NoNumber => k_is)
    (case ne_NoNumber_NoStretch => rfl)
    (case ic_NoStretch => k_is)
    (case ty_NoStretch => k_is)
    (case su_NoNumber_NoStretch => k_is)
    (case ne_NoNumber_NoRank => rfl)
    (case ic_NoRank => k_is)
    (case ty_NoRank => k_is)
    (case su_NoNumber_NoRank => k_is)
    (case ne_NoNumber_NoText => rfl)
    (case ic_NoText => k_is)
    (case ty_NoText => k_is)
    (case su_NoNumber_NoText => k_is)
    (case su_NoNumber_ValueError => k_is)
    (case rd_c_Sack => k_is)
    (case ga_c_Sack => k_is)
    (case cf_Sack___init__ => k_is)
    (case be_SackError => k_is)
    (case hd_SackError => k_is)
    (case ty_SackError => k_is)
    (case su_NoNumber_SackError => k_is)
