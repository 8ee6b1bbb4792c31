import PyProof.Rows.All
import Wide.All
import OpenK.AllK
import Wide.FinOn
import PySv02
import PyProof.Rows.BitMore
import PyProof.EqAt
import PyProof.EqKinds
import PyProof.TupleCall
import KE.BitLaws
import Open.SpecLaws
import KE.OsHead
import KE.OsGo
import PySem.Challenge.RW_wholeops_s01_answers
section
set_option linter.all false
namespace Wo
open Sv02

/-! ### registers' numbers stay below 2^64 -/
theorem pow_pos' (k : Nat) : 0 < 2 ^ k := Nat.two_pow_pos k
theorem val_lt (t : Abs) (w r : Nat) : t.val w r < 2 ^ w := Nat.mod_lt _ (pow_pos' w)
theorem uns_lt (w : Nat) (x : Int) : unsigned w x < 2 ^ w := by
  unfold unsigned
  have h1 : (0 : Int) < ((2 ^ w : Nat) : Int) := by have := pow_pos' w; omega
  have h2 := Int.emod_lt_of_pos x h1
  have h3 := Int.emod_nonneg x (Int.ne_of_gt h1)
  omega
theorem init_good : Good Sv02.init := fun r => by show 0 < 2 ^ 64; decide

theorem write_good {t : Abs} {w r x : Nat} (g : Good t) (hw : w = 8 ∨ w = 16 ∨ w = 32 ∨ w = 64) (hx : x < 2 ^ w) : Good (t.write w r x) := by
  intro i
  have gi := g i
  have gr := g r
  unfold Abs.write
  by_cases e : i = r
  · simp only [e, if_true]
    rcases hw with rfl | rfl | rfl | rfl
    · rw [if_pos (by decide)]; omega
    · rw [if_pos (by decide)]; omega
    · rw [if_neg (by decide)]; omega
    · rw [if_neg (by decide)]; omega
  · simp only [e, if_false]; exact gi
theorem good_fl {t : Abs} {f : Flags} (g : Good t) : Good { t with fl := f } := g

theorem mulpow_mod (x k w : Nat) (h : k ≤ w) : x * 2 ^ k % 2 ^ w = x % 2 ^ (w - k) * 2 ^ k := by
  have e : 2 ^ w = 2 ^ (w - k) * 2 ^ k := by rw [← Nat.pow_add]; congr 1; omega
  rw [e, Nat.mul_mod_mul_right]
theorem div_lt_pow {x k w : Nat} (hx : x < 2 ^ w) (h : k ≤ w) : x / 2 ^ (w - k) < 2 ^ k := by
  rw [Nat.div_lt_iff_lt_mul (pow_pos' _)]
  have e : 2 ^ k * 2 ^ (w - k) = 2 ^ w := by rw [← Nat.pow_add]; congr 1; omega
  rw [e]; exact hx
theorem turn_lt {w x k : Nat} (hx : x < 2 ^ w) (h : k ≤ w) : turn w x k < 2 ^ w := by
  unfold turn
  rw [mulpow_mod x k w h]
  have h1 := div_lt_pow hx h
  have h2 : x % 2 ^ (w - k) < 2 ^ (w - k) := Nat.mod_lt _ (pow_pos' _)
  have e : 2 ^ (w - k) * 2 ^ k = 2 ^ w := by rw [← Nat.pow_add]; congr 1; omega
  have h3 : (x % 2 ^ (w - k) + 1) * 2 ^ k ≤ 2 ^ (w - k) * 2 ^ k := Nat.mul_le_mul_right _ h2
  rw [Nat.succ_mul, e] at h3
  omega
theorem turned_lt : ∀ (k x : Nat), turned x k < 256 ^ k
  | 0, x => by show 0 < 1; decide
  | k + 1, x => by
    unfold turned
    have h1 := turned_lt k (x / 256)
    have h2 : x % 256 + 1 ≤ 256 := Nat.mod_lt _ (by decide)
    have h3 : (x % 256 + 1) * 256 ^ k ≤ 256 * 256 ^ k := Nat.mul_le_mul_right _ h2
    rw [Nat.succ_mul] at h3
    rw [Nat.pow_succ]
    omega
theorem lowest_lt (y : Nat) : lowest y < 64 := by
  unfold lowest
  cases e : (List.range 64).find? fun i => y.testBit i with
  | none => decide
  | some i => exact List.mem_range.mp (List.mem_of_find?_eq_some e)
theorem log2_lt' {y w : Nat} (hw : 0 < w) (h : y < 2 ^ w) : y.log2 < w := by
  by_cases h0 : y = 0
  · rw [h0]; simpa using hw
  · exact (Nat.log2_lt h0).mpr h
theorem ones_le (k x : Nat) : ones k x ≤ k := by
  unfold ones
  refine Nat.le_trans (List.length_filter_le _ _) ?_
  rw [List.length_range]; exact Nat.le_refl _
theorem or_pow {x k : Nat} (h : x.testBit k = false) : x + 2 ^ k = x ||| 2 ^ k := by
  have e : x &&& 2 ^ k = 0 := by
    apply Nat.eq_of_testBit_eq
    intro i
    rw [Nat.testBit_and, Nat.zero_testBit, Nat.testBit_two_pow]
    by_cases hi : k = i
    · subst hi; rw [h]; rfl
    · simp [hi]
  rw [Nat.add_comm]
  apply Nat.eq_of_testBit_eq
  intro i
  rw [Nat.testBit_or, Nat.testBit_two_pow]
  by_cases hi : i = k
  · subst hi; rw [Nat.testBit_two_pow_add_eq, h]; simp
  · rcases Nat.lt_or_gt_of_ne hi with hlt | hgt
    · rw [Nat.testBit_two_pow_add_gt hlt]
      simp [Ne.symm hi]
    · have e2 : x = 2 ^ (k + 1) * (x / 2 ^ (k + 1)) + x % 2 ^ (k + 1) := (Nat.div_add_mod _ _).symm
      have hm : x % 2 ^ (k + 1) < 2 ^ k := by
        have hh : x % 2 ^ (k + 1) = x % 2 ^ k + 2 ^ k * (x / 2 ^ k % 2) := by rw [Nat.pow_succ, Nat.mod_mul]
        have h2 : x / 2 ^ k % 2 = 0 := by
          rw [Nat.testBit_eq_decide_div_mod_eq] at h
          have := of_decide_eq_false h
          omega
        rw [hh, h2, Nat.mul_zero, Nat.add_zero]
        exact Nat.mod_lt _ (pow_pos' _)
      have e3 : 2 ^ k + x = 2 ^ (k + 1) * (x / 2 ^ (k + 1)) + (2 ^ k + x % 2 ^ (k + 1)) := by omega
      have l1 : 2 ^ k + x % 2 ^ (k + 1) < 2 ^ (k + 1) := by rw [Nat.pow_succ]; rw [Nat.pow_succ] at hm; omega
      have l2 : x % 2 ^ (k + 1) < 2 ^ (k + 1) := Nat.mod_lt _ (pow_pos' _)
      have a1 : (2 ^ k + x).testBit i = (x / 2 ^ (k + 1)).testBit (i - (k + 1)) := by
        rw [e3, Nat.testBit_two_pow_mul_add _ l1, if_neg (by omega)]
      have a2 : x.testBit i = (x / 2 ^ (k + 1)).testBit (i - (k + 1)) := by
        conv => lhs; rw [e2]
        rw [Nat.testBit_two_pow_mul_add _ l2, if_neg (by omega)]
      rw [a1, a2]; simp [Ne.symm hi]
theorem bit_lt {w x k : Nat} (hx : x < 2 ^ w) (hk : k < w) (b : Bool) : bit x k b < 2 ^ w := by
  unfold bit
  by_cases h : x.testBit k = b
  · rw [if_pos h]; exact hx
  · rw [if_neg h]
    by_cases hb : b = true
    · rw [if_pos hb]
      have h' : x.testBit k = false := by cases e : x.testBit k <;> simp_all
      rw [or_pow h']
      exact Nat.or_lt_two_pow hx (Nat.pow_lt_pow_right (by decide) hk)
    · rw [if_neg hb]
      exact Nat.lt_of_le_of_lt (Nat.sub_le _ _) hx
end Wo
end

section
set_option linter.all false
namespace Wo
open Sv02

theorem sh_lt {op w x k : Nat} (hx : x < 2 ^ w) : (shifted op w x k).1 < 2 ^ w := by
  unfold shifted
  split
  · exact Nat.mod_lt _ (pow_pos' _)
  · split
    · exact Nat.lt_of_le_of_lt (Nat.div_le_self _ _) hx
    · exact uns_lt _ _
theorem sum_lt (w x y k : Nat) : (sum w x y k).1 < 2 ^ w := Nat.mod_lt _ (pow_pos' _)
theorem dif_lt (w x y k : Nat) : (difference w x y k).1 < 2 ^ w := Nat.mod_lt _ (pow_pos' _)

theorem mulhi_lt {x y w : Nat} (hx : x < 2 ^ w) (hy : y < 2 ^ w) : x * y / 2 ^ w < 2 ^ w := by
  rw [Nat.div_lt_iff_lt_mul (pow_pos' _)]
  exact Nat.mul_lt_mul'' hx hy
theorem unshi_lt (w : Nat) (z : Int) : unsigned (2 * w) z / 2 ^ w < 2 ^ w := by
  rw [Nat.div_lt_iff_lt_mul (pow_pos' _), ← Nat.pow_add]
  have := uns_lt (2 * w) z
  rwa [show 2 * w = w + w by omega] at this ⊢

theorem perform_good {t u : Abs} {op size d s : Nat} {n : Int} (g : Good t) (hs : size = 1 ∨ size = 2 ∨ size = 4 ∨ size = 8) (hn : wrong op size n = false) (h : perform t op size d s n = .done u) : Good u := by
  have hw : 8 * size = 8 ∨ 8 * size = 16 ∨ 8 * size = 32 ∨ 8 * size = 64 := by omega
  have k8 : 2 ^ 8 ≤ 2 ^ (8 * size) := Nat.pow_le_pow_right (by decide) (by omega)
  have w64 : 8 * size ≤ 64 := by omega
  have w8 : 8 ≤ 8 * size := by omega
  have vx := val_lt t (8 * size) d
  have vy := val_lt t (8 * size) s
  generalize hW : 8 * size = w at *
  have wr : ∀ {t : Abs} {r x : Nat}, Good t → x < 2 ^ w → Good (t.write w r x) := fun g h => write_good g hw h
  unfold perform at h
  rw [hW] at h
  dsimp only at h
  generalize hk : (u32 n % if size = 8 then 64 else 32) = k at h
  split at h
  all_goals first
    | (injection h with h; subst h; exact wr g vy)
    | (injection h with h; subst h; exact wr g (sum_lt _ _ _ _))
    | (injection h with h; subst h; exact wr g (dif_lt _ _ _ _))
    | (injection h with h; subst h; exact good_fl g)
    | (injection h with h; subst h; exact wr g (Nat.lt_of_le_of_lt Nat.and_le_left vx))
    | (injection h with h; subst h; exact wr g (Nat.or_lt_two_pow vx vy))
    | (injection h with h; subst h; exact wr g (Nat.xor_lt_two_pow vx vy))
    | (injection h with h; subst h; exact wr g (by have := pow_pos' w; omega))
    | (split at h <;> (injection h with h; subst h; first | exact g | exact wr g (sh_lt vx)))
    | (split at h <;> (injection h with h; subst h; first | exact g | exact wr g (turn_lt vx (Nat.le_of_lt (Nat.mod_lt _ (by omega))))))
    | (split at h <;> (injection h with h; subst h; first | exact g | exact wr g (Nat.mod_lt _ (pow_pos' _))))
    | (injection h with h; subst h; exact wr (wr g (Nat.mod_lt _ (pow_pos' _))) (mulhi_lt vx vy))
    | (injection h with h; subst h; exact wr (wr g (Nat.mod_lt _ (pow_pos' _))) (unshi_lt _ _))
    | (injection h with h; subst h; exact wr (wr g vy) vx)
    | (injection h with h; subst h; exact wr (wr g vx) (sum_lt _ _ _ _))
    | (injection h with h; subst h; exact wr g (bit_lt vx (Nat.mod_lt _ (by omega)) _))
    | (injection h with h; subst h; exact wr g (uns_lt _ _))
    | (injection h with h; subst h; exact wr g (Nat.lt_of_le_of_lt (ones_le _ _) (by omega)))
    | (injection h with h; subst h; exact wr g (by have := turned_lt size (t.val w d); rw [show (256 : Nat) = 2 ^ 8 from rfl, ← Nat.pow_mul, hW] at this; exact this))
    | (split at h <;> (injection h with h; subst h; first | exact good_fl g | exact wr g vy | exact g | exact wr g (by have := lowest_lt (t.val w s); omega) | exact wr g (by have := log2_lt' (by omega) vy; omega)))
    | (injection h with h; subst h; exact wr g (by split <;> omega))
    | (injection h with h; subst h; show Good (if _ then _ else _); split; exact wr g vy; exact wr g vx)
    | (split at h
       · cases h
       · injection h with h; subst h; exact wr (wr g (uns_lt _ _)) (uns_lt _ _))
    | (split at h
       · cases h
       · rename_i q
         injection h with h; subst h
         have v1 := val_lt t w n.toNat
         exact wr (wr g (Nat.lt_of_not_le fun z => q (.inr z))) (Nat.lt_trans (Nat.mod_lt _ (Nat.pos_of_ne_zero fun z => q (.inl z))) v1))
    | (injection h with h; subst h; exact wr g (Nat.lt_of_lt_of_le (val_lt _ _ _) (Nat.pow_le_pow_right (by decide) (by simp [wrong] at hn; omega))))
    | (cases h; done)
end Wo
end

section
set_option linter.all false
namespace Wo
open Sv02

theorem idx_some {i : Int} {lim k : Nat} (h : idx i lim = some k) : 0 ≤ i ∧ i < lim ∧ i = (k : Int) ∧ k < lim := by
  unfold idx at h
  by_cases q : 0 ≤ i ∧ i < lim
  · rw [if_pos q] at h
    have e : i.toNat = k := Option.some.inj h
    omega
  · rw [if_neg q] at h; cases h
theorem idx_of {i : Int} {lim : Nat} (h : 0 ≤ i ∧ i < lim) : idx i lim = some i.toNat := by
  unfold idx; rw [if_pos h]
theorem idx_none {i : Int} {lim : Nat} (h : ¬ (0 ≤ i ∧ i < lim)) : idx i lim = none := by
  unfold idx; rw [if_neg h]
theorem idx_nat {k lim : Nat} (h : k < lim) : idx (k : Int) lim = some k := by
  rw [idx_of (by omega)]; rfl
theorem sizes_nat {size : Int} (h : size ∈ sizes) : size.toNat = 1 ∨ size.toNat = 2 ∨ size.toNat = 4 ∨ size.toNat = 8 := by
  simp [sizes] at h
  omega
theorem sizes_cases {size : Int} : size ∈ sizes ↔ size = 1 ∨ size = 2 ∨ size = 4 ∨ size = 8 := by
  simp [sizes]

theorem one_done {t u : Abs} {op size d s n : Int} (h : one t op size d s n = .done u) :
    ∃ o d' s' : Nat, idx op 43 = some o ∧ idx d 16 = some d' ∧ idx s 16 = some s' ∧ size ∈ sizes ∧ wrong o size.toNat n = false ∧ perform t o size.toNat d' s' n = .done u := by
  unfold one at h
  cases e1 : idx op 43 with
  | none => rw [e1] at h; cases h
  | some o =>
  cases e2 : idx d 16 with
  | none => rw [e1, e2] at h; cases h
  | some d' =>
  cases e3 : idx s 16 with
  | none => rw [e1, e2, e3] at h; cases h
  | some s' =>
  rw [e1, e2, e3] at h
  dsimp only at h
  by_cases q : size ∈ sizes ∧ wrong o size.toNat n = false
  · rw [if_pos q] at h
    exact ⟨o, d', s', rfl, rfl, rfl, q.1, q.2, h⟩
  · rw [if_neg q] at h; cases h
theorem one_good {t u : Abs} {op size d s n : Int} (g : Good t) (h : one t op size d s n = .done u) : Good u := by
  obtain ⟨o, d', s', _, _, _, h1, h2, h3⟩ := one_done h
  exact perform_good (op := o) (size := size.toNat) g (sizes_nat h1) h2 h3
theorem run_nil (t : Abs) (k : Nat) : Sv02.run t k [] = (t, k, 0) := rfl
def outK (t : Abs) (k : Nat) (g : Abs → Abs × Nat × Int) : Out → Abs × Nat × Int
  | .done u => g u
  | .trap => (t, k, 1)
  | .refused => (t, k, 2)
theorem run_cons (t : Abs) (k : Nat) (q : List Nat) (r : List (List Nat)) : Sv02.run t k (q :: r) = outK t k (fun u => Sv02.run u (k + 1) r) (Sv02.one t (q.getD 0 0) (q.getD 1 0) (q.getD 2 0) (q.getD 3 0) (q.getD 4 0)) := by
  have e : ∀ o : Out, (match o with | .done u => Sv02.run u (k + 1) r | o => (t, k, o.code)) = outK t k (fun u => Sv02.run u (k + 1) r) o := fun o => by cases o <;> rfl
  rw [← e]
  with_unfolding_all rfl
theorem run_good (rs : List (List Nat)) : ∀ {t : Abs} {k : Nat}, Good t → Good (Sv02.run t k rs).1 := by
  induction rs with
  | nil => intro t k g; rw [run_nil]; exact g
  | cons q r ih =>
    intro t k g
    rw [run_cons]
    generalize e : Sv02.one t _ _ _ _ _ = o
    cases o with
    | done u => exact ih (one_good g e)
    | trap => exact g
    | refused => exact g
theorem spec_good {t : Abs} {q : Sv02.Call} (g : Good t) (hv : ∀ r v, q = .set r v → v < 2 ^ 64) : Good (spec t q).1 := by
  cases q with
  | set r v =>
    unfold spec
    dsimp only
    cases e : idx r 16 with
    | none => exact g
    | some r' =>
      intro i
      show (if i = r' then v else t.reg i) < _
      split
      · exact hv r v rfl
      · exact g i
  | get r =>
    unfold spec
    dsimp only
    cases e : idx r 16 <;> exact g
  | flags => exact g
  | put f => exact g
  | holds k =>
    unfold spec
    dsimp only
    cases e : idx k 16 <;> exact g
  | one op size d s n =>
    show Good ((Sv02.one t op size d s n).state t)
    cases e : Sv02.one t op size d s n with
    | done u => exact one_good g e
    | trap => exact g
    | refused => exact g
  | run b =>
    show Good (if b.length % 5 = 0 then _ else _ : Abs × Ans).1
    split
    · exact run_good _ g
    · exact g

/-! ### the flat list of calls, one call after the other -/
def I32 (z : Int) : Prop := -2147483648 ≤ z ∧ z ≤ 2147483647
/-- l begins with the call q, l' stands behind it -/
def At (l l' : List Int) : Sv02.Call → Prop
  | .set r v => l = 0 :: r :: (v : Int) :: l' ∧ I32 r ∧ v < 2 ^ 64
  | .get r => l = 1 :: r :: l' ∧ I32 r
  | .flags => l = 2 :: l'
  | .put f => l = 3 :: (f : Int) :: l' ∧ f < 2 ^ 32
  | .holds k => l = 4 :: k :: l' ∧ I32 k
  | .one op size d s n => l = 5 :: op :: size :: d :: s :: n :: l' ∧ I32 op ∧ I32 size ∧ I32 d ∧ I32 s ∧ I32 n
  | .run prog => l = 6 :: (prog.length : Int) :: (prog.map Int.ofNat ++ l') ∧ prog.length ≤ 400 ∧ ∀ x ∈ prog, x < 256
/-- an answer's numbers -/
def tell (a : Ans) : List Int := a.code :: (match a.word with | some w => [(w : Int)] | none => [])
def told1 (a : Ans) : List Int := ((tell a).length : Int) :: tell a

theorem whole32_iff {z : Int} (h : Sv02Neutral.whole32 z = true) : I32 z := by
  unfold Sv02Neutral.whole32 at h
  rw [Bool.and_eq_true, decide_eq_true_eq, decide_eq_true_eq] at h
  unfold I32
  omega

structure Rest (l0 l : List Int) (t : Abs) (out : List Int) : Prop where
  good : Good t
  ex : ∃ (f : Nat) (cs : List (List (List Int))), PyFlat.calls PySv02.shape f l = some cs ∧
    ((cs.map PySv02.whole).all fun c => (Sv02Neutral.callOf c).isSome && Sv02Neutral.asked1 c) = true ∧
    PySv02.answers l0 = out ++ PyFlat.told (PyFlat.played Sv02Neutral.step t (cs.map PySv02.whole))

theorem rest_start {l : List Int} (h : PySv02.answers_asked l = true) : Rest l l Sv02.init [] := by
  unfold PySv02.answers_asked at h
  unfold PySv02.calls at h
  refine ⟨init_good, l.length, ?_⟩
  cases e : PyFlat.calls PySv02.shape l.length l with
  | none => rw [e] at h; cases h
  | some cs =>
    rw [e] at h
    dsimp only at h
    rw [Bool.and_eq_true] at h
    have h2 := h.2
    unfold Sv02Neutral.asked at h2
    rw [Bool.and_eq_true] at h2
    refine ⟨cs, rfl, h2.2, ?_⟩
    unfold PySv02.answers PySv02.calls
    rw [e]
    rfl
theorem rest_end {l0 : List Int} {t : Abs} {out : List Int} (r : Rest l0 [] t out) : out = PySv02.answers l0 := by
  obtain ⟨f, cs, h, _, e⟩ := r.ex
  have : cs = [] := by
    cases f <;> exact (Option.some.inj (show some ([] : List (List (List Int))) = some cs from h)).symm
  subst this
  rw [e]
  simp [PyFlat.played, PyFlat.told]

theorem played_cons (t : Abs) (c : List (List Int)) (cs : List (List (List Int))) (q : Sv02.Call) (h : Sv02Neutral.callOf c = some q) :
    PyFlat.told (PyFlat.played Sv02Neutral.step t (c :: cs)) = told1 (spec t q).2 ++ PyFlat.told (PyFlat.played Sv02Neutral.step (spec t q).1 cs) := by
  have e : Sv02Neutral.step t c = ((spec t q).1, tell (spec t q).2) := by
    unfold Sv02Neutral.step
    rw [h]
    rfl
  show PyFlat.told ((Sv02Neutral.step t c).2 :: PyFlat.played Sv02Neutral.step (Sv02Neutral.step t c).1 cs) = _
  rw [e]
  unfold PyFlat.told
  rw [List.flatMap_cons]
  rfl

theorem rest_step {l0 l : List Int} {t : Abs} {out : List Int} (r : Rest l0 l t out) (hl : l ≠ []) :
    ∃ (q : Sv02.Call) (l' : List Int), At l l' q ∧ Rest l0 l' (spec t q).1 (out ++ told1 (spec t q).2) := by
  obtain ⟨f, cs, h, ha, e⟩ := r.ex
  cases l with
  | nil => exact absurd rfl hl
  | cons p l =>
  cases f with
  | zero => cases h
  | succ f =>
  have h' : (match PyFlat.call PySv02.shape (p :: l) with
    | none => none
    | some (c, t) => match PyFlat.calls PySv02.shape f t with
      | none => none
      | some cs => some (c :: cs)) = some cs := h
  cases hc : PyFlat.call PySv02.shape (p :: l) with
  | none => rw [hc] at h'; cases h'
  | some ct =>
  obtain ⟨c, l'⟩ := ct
  rw [hc] at h'
  dsimp only at h'
  cases hr : PyFlat.calls PySv02.shape f l' with
  | none => rw [hr] at h'; cases h'
  | some cs' =>
  rw [hr] at h'
  have e1 : c :: cs' = cs := Option.some.inj h'
  subst e1
  rw [List.map_cons, List.all_cons, Bool.and_eq_true, Bool.and_eq_true] at ha
  obtain ⟨⟨a1, a2⟩, a3⟩ := ha
  -- the call's own form
  have key : ∃ q, Sv02Neutral.callOf (PySv02.whole c) = some q ∧ At (p :: l) l' q := by
    have hc' : (match PySv02.shape p with
      | none => none
      | some (n, k) => if l.length < n then none else match PyFlat.rows k (l.drop n) with
        | none => none
        | some (xs, t) => some ((p :: l.take n) :: xs, t)) = some (c, l') := hc
    unfold PySv02.shape at hc'
    by_cases p0 : p = 0
    · subst p0
      rw [if_pos rfl] at hc'
      dsimp only at hc'
      match l, hc' with
      | [], hc' => cases hc'
      | [x], hc' => cases hc'
      | x :: y :: l2, hc' =>
        rw [if_neg (by simp)] at hc'
        obtain ⟨rfl, rfl⟩ := Prod.mk.inj (Option.some.inj (show some (([[0, x, y]] : List (List Int)), l2) = some (c, l') from hc'))
        have a2' : (Sv02Neutral.whole32 x && (decide (0 ≤ y) && decide (y < 2 ^ 64))) = true := a2
        rw [Bool.and_eq_true, Bool.and_eq_true, decide_eq_true_eq, decide_eq_true_eq] at a2'
        refine ⟨_, rfl, ?_, whole32_iff a2'.1, by omega⟩
        rw [show ((y.toNat : Nat) : Int) = y by omega]
    rw [if_neg p0] at hc'
    by_cases p1 : p = 1
    · subst p1
      rw [if_pos rfl] at hc'
      dsimp only at hc'
      match l, hc' with
      | [], hc' => cases hc'
      | x :: l2, hc' =>
        rw [if_neg (by simp)] at hc'
        obtain ⟨rfl, rfl⟩ := Prod.mk.inj (Option.some.inj (show some (([[1, x]] : List (List Int)), l2) = some (c, l') from hc'))
        have a2' : [1, x].all Sv02Neutral.whole32 = true := a2
        simp only [List.all_cons, Bool.and_eq_true] at a2'
        exact ⟨_, rfl, rfl, whole32_iff a2'.2.1⟩
    rw [if_neg p1] at hc'
    by_cases p2 : p = 2
    · subst p2
      rw [if_pos rfl] at hc'
      dsimp only at hc'
      rw [if_neg (by simp)] at hc'
      obtain ⟨rfl, rfl⟩ := Prod.mk.inj (Option.some.inj (show some (([[2]] : List (List Int)), l) = some (c, l') from hc'))
      exact ⟨_, rfl, rfl⟩
    rw [if_neg p2] at hc'
    by_cases p3 : p = 3
    · subst p3
      rw [if_pos rfl] at hc'
      dsimp only at hc'
      match l, hc' with
      | [], hc' => cases hc'
      | x :: l2, hc' =>
        rw [if_neg (by simp)] at hc'
        obtain ⟨rfl, rfl⟩ := Prod.mk.inj (Option.some.inj (show some (([[3, x]] : List (List Int)), l2) = some (c, l') from hc'))
        have a2' : (decide (0 ≤ x) && decide (x < 2 ^ 32)) = true := a2
        rw [Bool.and_eq_true, decide_eq_true_eq, decide_eq_true_eq] at a2'
        refine ⟨_, rfl, ?_, by omega⟩
        rw [show ((x.toNat : Nat) : Int) = x by omega]
    rw [if_neg p3] at hc'
    by_cases p4 : p = 4
    · subst p4
      rw [if_pos rfl] at hc'
      dsimp only at hc'
      match l, hc' with
      | [], hc' => cases hc'
      | x :: l2, hc' =>
        rw [if_neg (by simp)] at hc'
        obtain ⟨rfl, rfl⟩ := Prod.mk.inj (Option.some.inj (show some (([[4, x]] : List (List Int)), l2) = some (c, l') from hc'))
        have a2' : [4, x].all Sv02Neutral.whole32 = true := a2
        simp only [List.all_cons, Bool.and_eq_true] at a2'
        exact ⟨_, rfl, rfl, whole32_iff a2'.2.1⟩
    rw [if_neg p4] at hc'
    by_cases p5 : p = 5
    · subst p5
      rw [if_pos rfl] at hc'
      dsimp only at hc'
      match l, hc' with
      | [], hc' => cases hc'
      | [_], hc' => cases hc'
      | [_, _], hc' => cases hc'
      | [_, _, _], hc' => cases hc'
      | [_, _, _, _], hc' => cases hc'
      | x1 :: x2 :: x3 :: x4 :: x5 :: l2, hc' =>
        rw [if_neg (by simp)] at hc'
        obtain ⟨rfl, rfl⟩ := Prod.mk.inj (Option.some.inj (show some (([[5, x1, x2, x3, x4, x5]] : List (List Int)), l2) = some (c, l') from hc'))
        have a2' : [5, x1, x2, x3, x4, x5].all Sv02Neutral.whole32 = true := a2
        simp only [List.all_cons, Bool.and_eq_true] at a2'
        exact ⟨_, rfl, rfl, whole32_iff a2'.2.1, whole32_iff a2'.2.2.1, whole32_iff a2'.2.2.2.1, whole32_iff a2'.2.2.2.2.1, whole32_iff a2'.2.2.2.2.2.1⟩
    rw [if_neg p5] at hc'
    by_cases p6 : p = 6
    · subst p6
      rw [if_pos rfl] at hc'
      dsimp only at hc'
      rw [if_neg (by simp)] at hc'
      have hc2 : (match (match PyFlat.row l with
          | none => none
          | some (x, s) => some ([x], s)) with
        | none => none
        | some (xs, t) => some (([6] : List Int) :: xs, t)) = some (c, l') := hc'
      match l, hc2 with
      | [], hc2 => cases hc2
      | n :: l2, hc2 =>
        by_cases q : 0 ≤ n ∧ n.toNat ≤ l2.length
        · have er : PyFlat.row (n :: l2) = some (l2.take n.toNat, l2.drop n.toNat) := by
            show (if 0 ≤ n ∧ n.toNat ≤ l2.length then some (l2.take n.toNat, l2.drop n.toNat) else none) = _
            rw [if_pos q]
          rw [er] at hc2
          obtain ⟨rfl, rfl⟩ := Prod.mk.inj (Option.some.inj (show some (([[6], l2.take n.toNat] : List (List Int)), l2.drop n.toNat) = some (c, l') from hc2))
          have a2' : (((l2.take n.toNat).all fun z => decide (0 ≤ z) && decide (z < 256)) && decide ((l2.take n.toNat).length ≤ 400)) = true := a2
          rw [Bool.and_eq_true, decide_eq_true_eq, List.all_eq_true] at a2'
          have b : ∀ z ∈ l2.take n.toNat, 0 ≤ z ∧ z < 256 := fun z hz => by
            have := a2'.1 z hz
            rw [Bool.and_eq_true, decide_eq_true_eq, decide_eq_true_eq] at this
            exact this
          have hm : ((l2.take n.toNat).map Int.toNat).map Int.ofNat = l2.take n.toNat := by
            rw [List.map_map]
            conv => rhs; rw [← List.map_id (l2.take n.toNat)]
            refine List.map_congr_left fun z hz => ?_
            have := b z hz
            show ((z.toNat : Nat) : Int) = z
            omega
          refine ⟨.run ((l2.take n.toNat).map Int.toNat), rfl, ?_, by rw [List.length_map]; exact a2'.2, fun x hx => ?_⟩
          · rw [hm, List.length_map, List.take_append_drop, List.length_take, show ((min n.toNat l2.length : Nat) : Int) = n by omega]
          · obtain ⟨z, hz, rfl⟩ := List.mem_map.mp hx
            have := b z hz
            omega
        · have er : PyFlat.row (n :: l2) = none := by
            show (if 0 ≤ n ∧ n.toNat ≤ l2.length then some (l2.take n.toNat, l2.drop n.toNat) else none) = _
            rw [if_neg q]
          rw [er] at hc2
          cases hc2
    rw [if_neg p6] at hc'
    cases hc'
  obtain ⟨q, hq, hat⟩ := key
  refine ⟨q, l', hat, spec_good r.good fun r v hv => ?_, f, cs', hr, a3, ?_⟩
  · subst hv; exact hat.2.2
  · rw [e, List.map_cons, played_cons _ _ _ q hq, List.append_assoc]
end Wo
end

section
set_option linter.all false
namespace Wo
open Sv02

/-! ### the flags' number -/
theorem flags_back (f : Flags) : flagsOf f.number = f := by
  obtain ⟨c, p, a, z, s, o⟩ := f
  cases c <;> cases p <;> cases a <;> cases z <;> cases s <;> cases o <;> decide
theorem number_bits (f : Flags) (i : Nat) : f.number.testBit i = (if i = 0 then f.c else if i = 2 then f.p else if i = 4 then f.a else if i = 6 then f.z else if i = 7 then f.s else if i = 11 then f.o else false) := by
  obtain ⟨c, p, a, z, s, o⟩ := f
  have hl : (Flags.mk c p a z s o).number < 2 ^ 12 := by
    cases c <;> cases p <;> cases a <;> cases z <;> cases s <;> cases o <;> decide
  by_cases h : i < 12
  · have : ∀ j : Fin 12, (Flags.mk c p a z s o).number.testBit j.1 = (if j.1 = 0 then c else if j.1 = 2 then p else if j.1 = 4 then a else if j.1 = 6 then z else if j.1 = 7 then s else if j.1 = 11 then o else false) := by
      cases c <;> cases p <;> cases a <;> cases z <;> cases s <;> cases o <;> decide
    exact this ⟨i, h⟩
  · rw [Nat.testBit_lt_two_pow (Nat.lt_of_lt_of_le hl (Nat.pow_le_pow_right (by decide) (by omega)))]
    rw [if_neg (by omega), if_neg (by omega), if_neg (by omega), if_neg (by omega), if_neg (by omega), if_neg (by omega)]
theorem all_bits (i : Nat) : (2261 : Nat).testBit i = (if i = 0 then true else if i = 2 then true else if i = 4 then true else if i = 6 then true else if i = 7 then true else if i = 11 then true else false) := by
  have := number_bits ⟨true, true, true, true, true, true⟩ i
  exact this
theorem put_number (n : Nat) : (flagsOf n).number = n &&& 2261 := by
  apply Nat.eq_of_testBit_eq
  intro i
  rw [number_bits, Nat.testBit_and, all_bits]
  unfold flagsOf
  dsimp only
  by_cases h0 : i = 0
  · subst h0; simp
  by_cases h2 : i = 2
  · subst h2; simp
  by_cases h4 : i = 4
  · subst h4; simp
  by_cases h6 : i = 6
  · subst h6; simp
  by_cases h7 : i = 7
  · subst h7; simp
  by_cases h11 : i = 11
  · subst h11; simp
  rw [if_neg h0, if_neg h2, if_neg h4, if_neg h6, if_neg h7, if_neg h11, if_neg h0, if_neg h2, if_neg h4, if_neg h6, if_neg h7, if_neg h11, Bool.and_false]
theorem number_le (f : Flags) : f.number ≤ 2261 := by
  obtain ⟨c, p, a, z, s, o⟩ := f
  cases c <;> cases p <;> cases a <;> cases z <;> cases s <;> cases o <;> decide

/-! ### bits as arithmetic -/
theorem bit_div (x k : Nat) : x.testBit k = decide (x / 2 ^ k % 2 = 1) := Nat.testBit_eq_decide_div_mod_eq ..
theorem top_ge {w x : Nat} (hw : 0 < w) (hx : x < 2 ^ w) : top w x = decide (2 ^ (w - 1) ≤ x) := by
  unfold top
  rw [bit_div]
  have e : 2 ^ w = 2 ^ (w - 1) * 2 := by rw [← Nat.pow_succ]; congr 1; omega
  have h1 : x / 2 ^ (w - 1) < 2 := by
    rw [Nat.div_lt_iff_lt_mul (pow_pos' _), Nat.mul_comm, ← e]; exact hx
  by_cases h : 2 ^ (w - 1) ≤ x
  · have h2 : 1 ≤ x / 2 ^ (w - 1) := (Nat.le_div_iff_mul_le (pow_pos' _)).mpr (by omega)
    rw [decide_eq_true h, decide_eq_true]; omega
  · have h2 : x / 2 ^ (w - 1) = 0 := Nat.div_eq_of_lt (by omega)
    rw [decide_eq_false h, decide_eq_false]; omega
theorem signed_top {w x : Nat} (hw : 0 < w) (hx : x < 2 ^ w) : signed w x = (x : Int) - (if top w x = true then ((2 ^ w : Nat) : Int) else 0) := by
  unfold signed
  rw [top_ge hw hx]
  by_cases h : x < 2 ^ (w - 1)
  · rw [if_pos h, decide_eq_false (by omega), if_neg (by simp)]; omega
  · rw [if_neg h, decide_eq_true (by omega), if_pos rfl]
theorem two_pow_split {w : Nat} (hw : 0 < w) : 2 ^ w = 2 ^ (w - 1) + 2 ^ (w - 1) := by
  have : 2 ^ w = 2 ^ (w - 1) * 2 := by rw [← Nat.pow_succ]; congr 1; omega
  omega
theorem signed_range {w x : Nat} (hw : 0 < w) (hx : x < 2 ^ w) : -((2 ^ (w - 1) : Nat) : Int) ≤ signed w x ∧ signed w x < ((2 ^ (w - 1) : Nat) : Int) := by
  have e := two_pow_split hw
  unfold signed
  by_cases h : x < 2 ^ (w - 1)
  · rw [if_pos h]; omega
  · rw [if_neg h]; omega
theorem uns_signed {w x : Nat} (hw : 0 < w) (hx : x < 2 ^ w) : unsigned w (signed w x) = x := by
  unfold unsigned signed
  have hp := pow_pos' w
  by_cases h : x < 2 ^ (w - 1)
  · rw [if_pos h, Int.emod_eq_of_lt (by omega) (by omega)]; omega
  · rw [if_neg h, show ((x : Int) - ((2 ^ w : Nat) : Int)) = (x : Int) + ((2 ^ w : Nat) : Int) * (-1) by omega, Int.add_mul_emod_self_left, Int.emod_eq_of_lt (by omega) (by omega)]; omega
theorem uns_nat (w x : Nat) : unsigned w (x : Int) = x % 2 ^ w := by
  unfold unsigned
  rw [← Int.natCast_emod]; rfl
theorem fits_iff {w : Nat} {x : Int} : fits w x = true ↔ -((2 ^ (w - 1) : Nat) : Int) ≤ x ∧ x < ((2 ^ (w - 1) : Nat) : Int) := by
  unfold fits
  rw [Bool.and_eq_true, decide_eq_true_eq, decide_eq_true_eq]
/-- a number fits where it is what its low W bits are worth with a sign -/
theorem fits_signed {w : Nat} (hw : 0 < w) (z : Int) : fits w z = decide (signed w (unsigned w z) = z) := by
  have hu := uns_lt w z
  have hr := signed_range hw hu
  by_cases h : fits w z = true
  · rw [h]
    have hz := fits_iff.mp h
    have e := two_pow_split hw
    symm
    rw [decide_eq_true_eq]
    unfold signed unsigned
    by_cases h0 : 0 ≤ z
    · rw [Int.emod_eq_of_lt h0 (by omega), if_pos (by omega)]; omega
    · have e2 : z % ((2 ^ w : Nat) : Int) = z + ((2 ^ w : Nat) : Int) := by
        rw [← Int.add_mul_emod_self_left z ((2 ^ w : Nat) : Int) 1, Int.emod_eq_of_lt (by omega) (by omega)]; omega
      rw [e2, if_neg (by omega)]; omega
  · have h' : fits w z = false := by cases e : fits w z <;> simp_all
    rw [h']
    symm
    rw [decide_eq_false_iff_not]
    intro e
    apply h
    rw [fits_iff, ← e]
    exact hr
end Wo
end

section
set_option linter.all false
namespace Wo
open Sv02

/-! ### how many ones -/
theorem filter_range_succ (p : Nat → Bool) (k : Nat) : ((List.range (k + 1)).filter p).length = ((List.range k).filter p).length + (if p k = true then 1 else 0) := by
  rw [List.range_succ, List.filter_append, List.length_append]
  congr 1
  by_cases h : p k = true
  · rw [if_pos h]; simp [h]
  · rw [if_neg h]; simp [h]
theorem ones_zero (x : Nat) : ones 0 x = 0 := rfl
theorem ones_high (k x : Nat) : ones (k + 1) x = ones k x + x / 2 ^ k % 2 := by
  unfold ones
  rw [filter_range_succ, bit_div]
  congr 1
  have := Nat.mod_lt (x / 2 ^ k) (show 0 < 2 by decide)
  by_cases h : x / 2 ^ k % 2 = 1
  · rw [if_pos (by simpa using h), h]
  · rw [if_neg (by simpa using h)]; omega
theorem ones_low (k : Nat) : ∀ x : Nat, ones (k + 1) x = x % 2 + ones k (x / 2) := by
  induction k with
  | zero => intro x; rw [ones_high, ones_zero, ones_zero]; simp
  | succ k ih =>
    intro x
    rw [ones_high (k + 1) x, ih x, ones_high k (x / 2), Nat.div_div_eq_div_mul, show 2 * 2 ^ k = 2 ^ (k + 1) by rw [Nat.pow_succ, Nat.mul_comm]]
    omega
theorem ones_nil (k : Nat) : ones k 0 = 0 := by
  induction k with
  | zero => rfl
  | succ k ih => rw [ones_high, ih]; simp
theorem ones_mod (k x : Nat) : ones k (x % 2 ^ k) = ones k x := by
  unfold ones
  congr 1
  apply List.filter_congr
  intro i hi
  have := List.mem_range.mp hi
  rw [Nat.testBit_mod_two_pow]
  simp [this]
theorem ones_more {k x : Nat} (h : x < 2 ^ k) (j : Nat) : ones (k + j) x = ones k x := by
  induction j with
  | zero => rfl
  | succ j ih =>
    rw [← Nat.add_assoc, ones_high, ih, Nat.div_eq_of_lt (Nat.lt_of_lt_of_le h (Nat.pow_le_pow_right (by decide) (Nat.le_add_right _ _)))]; rfl
theorem ones_pos {k x : Nat} (h : x < 2 ^ k) (h0 : x ≠ 0) : 0 < ones k x := by
  rcases Nat.eq_zero_or_pos (ones k x) with e | e
  · exfalso
    apply h0
    apply Nat.eq_of_testBit_eq
    intro i
    rw [Nat.zero_testBit]
    by_cases hi : i < k
    · unfold ones at e
      have := List.length_eq_zero_iff.mp e
      have h2 := List.filter_eq_nil_iff.mp this i (List.mem_range.mpr hi)
      simpa using h2
    · exact Nat.testBit_lt_two_pow (Nat.lt_of_lt_of_le h (Nat.pow_le_pow_right (by decide) (by omega)))
  · exact e

/-! ### the lowest one, the highest one -/
theorem lowest_of {y i : Nat} (hi : i < 64) (h1 : y.testBit i = true) (h2 : ∀ j, j < i → y.testBit j = false) : lowest y = i := by
  unfold lowest
  have : (List.range 64).find? (fun i => y.testBit i) = some i := by
    rw [List.find?_range_eq_some]
    refine ⟨h1, List.mem_range.mpr hi, fun j hj => ?_⟩
    rw [h2 j hj]; rfl
  rw [this]; rfl
theorem log2_of {y i : Nat} (h1 : 2 ^ i ≤ y) (h2 : y < 2 ^ (i + 1)) : y.log2 = i := by
  have h0 : y ≠ 0 := by have := pow_pos' i; omega
  have a := (Nat.log2_lt h0).mpr h2
  have b := (Nat.le_log2 h0).mpr h1
  omega

/-! ### bytes turned round -/
def revB (acc x : Nat) : Nat → Nat
  | 0 => acc
  | k + 1 => revB (acc * 256 + x % 256) (x / 256) k
theorem revB_turned : ∀ (k acc x : Nat), revB acc x k = acc * 256 ^ k + turned x k
  | 0, acc, x => by show acc = acc * 1 + 0; omega
  | k + 1, acc, x => by
    show revB (acc * 256 + x % 256) (x / 256) k = _
    rw [revB_turned k, show turned x (k + 1) = x % 256 * 256 ^ k + turned (x / 256) k from rfl, Nat.add_mul, Nat.mul_assoc, show 256 * 256 ^ k = 256 ^ (k + 1) by rw [Nat.pow_succ, Nat.mul_comm]]
    omega

/-! ### turned, by or -/
theorem or_disj {a b k : Nat} (h : b < 2 ^ k) : a * 2 ^ k ||| b = a * 2 ^ k + b := by
  rw [Nat.mul_comm, ← Nat.two_pow_add_eq_or_of_lt h]
theorem turn_or {w x k : Nat} (hx : x < 2 ^ w) (hk : k ≤ w) : (x * 2 ^ k % 2 ^ w) ||| (x / 2 ^ (w - k)) = turn w x k := by
  unfold turn
  rw [mulpow_mod x k w hk]
  exact or_disj (div_lt_pow hx hk)
theorem turn_or' {w x k : Nat} (hx : x < 2 ^ w) (hk : k ≤ w) : (x * 2 ^ k ||| x / 2 ^ (w - k)) % 2 ^ w = turn w x k := by
  rw [Nat.or_mod_two_pow, ← turn_or hx hk]
  congr 1
  have := div_lt_pow hx hk
  exact Nat.mod_eq_of_lt (Nat.lt_of_lt_of_le this (Nat.pow_le_pow_right (by decide) hk))
theorem turn_add {w x k : Nat} (hx : x < 2 ^ w) (hk : k ≤ w) : (x * 2 ^ k + x / 2 ^ (w - k)) % 2 ^ w = turn w x k := by
  have h1 := turn_lt hx hk
  rw [← Nat.mod_add_mod]
  exact Nat.mod_eq_of_lt h1

/-! ### one bit set, cleared, changed -/
theorem bit_set (x k : Nat) : bit x k true = x ||| 2 ^ k := by
  unfold bit
  by_cases h : x.testBit k = true
  · rw [if_pos h]
    apply Nat.eq_of_testBit_eq
    intro i
    rw [Nat.testBit_or, Nat.testBit_two_pow]
    by_cases e : k = i
    · subst e; rw [h]; rfl
    · simp [e]
  · have h' : x.testBit k = false := by cases e : x.testBit k <;> simp_all
    rw [if_neg h, if_pos rfl, or_pow h']
theorem sub_pow {x k : Nat} (h : x.testBit k = true) : x - 2 ^ k = x ^^^ 2 ^ k := by
  have h2 : (x ^^^ 2 ^ k).testBit k = false := by
    rw [Nat.testBit_xor, h, Nat.testBit_two_pow_self]; rfl
  have h3 := or_pow h2
  have h4 : (x ^^^ 2 ^ k) ||| 2 ^ k = x := by
    apply Nat.eq_of_testBit_eq
    intro i
    rw [Nat.testBit_or, Nat.testBit_xor, Nat.testBit_two_pow]
    by_cases e : k = i
    · subst e; rw [h]; simp
    · simp [e]
  omega
theorem bit_clear (x k : Nat) : bit x k false = x - (x &&& 2 ^ k) := by
  unfold bit
  by_cases h : x.testBit k = false
  · rw [if_pos h]
    have : x &&& 2 ^ k = 0 := by
      apply Nat.eq_of_testBit_eq
      intro i
      rw [Nat.testBit_and, Nat.testBit_two_pow, Nat.zero_testBit]
      by_cases e : k = i
      · subst e; rw [h]; rfl
      · simp [e]
    rw [this]; rfl
  · have h' : x.testBit k = true := by cases e : x.testBit k <;> simp_all
    rw [if_neg h, if_neg (by simp)]
    have : x &&& 2 ^ k = 2 ^ k := by
      apply Nat.eq_of_testBit_eq
      intro i
      rw [Nat.testBit_and, Nat.testBit_two_pow]
      by_cases e : k = i
      · subst e; rw [h']; rfl
      · simp [e]
    rw [this]
theorem bit_change (x k : Nat) : bit x k (!x.testBit k) = x ^^^ 2 ^ k := by
  unfold bit
  rw [if_neg (by cases x.testBit k <;> simp)]
  by_cases h : x.testBit k = true
  · rw [if_neg (by rw [h]; simp), sub_pow h]
  · have h' : x.testBit k = false := by cases e : x.testBit k <;> simp_all
    rw [if_pos (by rw [h']; rfl), or_pow h']
    apply Nat.eq_of_testBit_eq
    intro i
    rw [Nat.testBit_or, Nat.testBit_xor, Nat.testBit_two_pow]
    by_cases e : k = i
    · subst e; rw [h']; simp
    · simp [e]
/-! ### carry and overflow as bits of the result -/
theorem top_sum {w : Nat} (hw : 0 < w) {x y k : Nat} (hx : x < 2 ^ w) (hy : y < 2 ^ w) (hk : k ≤ 1) :
    (!fits w (signed w x + signed w y + (k : Int))) = (top w x == top w y && top w ((x + y + k) % 2 ^ w) != top w x) := by
  have e := two_pow_split hw
  have hr : (x + y + k) % 2 ^ w < 2 ^ w := Nat.mod_lt _ (pow_pos' w)
  rw [top_ge hw hx, top_ge hw hy, top_ge hw hr]
  have hm : (x + y + k) % 2 ^ w = if x + y + k < 2 ^ w then x + y + k else x + y + k - 2 ^ w := by
    split
    · exact Nat.mod_eq_of_lt (by assumption)
    · rw [Nat.mod_eq_sub_mod (by omega), Nat.mod_eq_of_lt (by omega)]
  rw [hm]
  unfold fits signed
  rw [Bool.eq_iff_iff]
  simp only [Bool.not_eq_true', Bool.and_eq_false_iff, decide_eq_false_iff_not, Bool.and_eq_true, beq_iff_eq, bne_iff_ne, ne_eq, decide_eq_decide]
  split <;> split <;> split <;> omega
theorem top_dif {w : Nat} (hw : 0 < w) {x y k : Nat} (hx : x < 2 ^ w) (hy : y < 2 ^ w) (hk : k ≤ 1) :
    (!fits w (signed w x - signed w y - (k : Int))) = (top w x != top w y && top w ((x + 2 ^ w + 2 ^ w - y - k) % 2 ^ w) != top w x) := by
  have e := two_pow_split hw
  have hr : (x + 2 ^ w + 2 ^ w - y - k) % 2 ^ w < 2 ^ w := Nat.mod_lt _ (pow_pos' w)
  rw [top_ge hw hx, top_ge hw hy, top_ge hw hr]
  have hm : (x + 2 ^ w + 2 ^ w - y - k) % 2 ^ w = if x < y + k then x + 2 ^ w - y - k else x - y - k := by
    split
    · rw [Nat.mod_eq_sub_mod (by omega), show x + 2 ^ w + 2 ^ w - y - k - 2 ^ w = x + 2 ^ w - y - k by omega, Nat.mod_eq_of_lt (by omega)]
    · rw [Nat.mod_eq_sub_mod (by omega), Nat.mod_eq_sub_mod (by omega), show x + 2 ^ w + 2 ^ w - y - k - 2 ^ w - 2 ^ w = x - y - k by omega, Nat.mod_eq_of_lt (by omega)]
  rw [hm]
  unfold fits signed
  rw [Bool.eq_iff_iff]
  simp only [Bool.not_eq_true', Bool.and_eq_false_iff, decide_eq_false_iff_not, Bool.and_eq_true, beq_iff_eq, bne_iff_ne, ne_eq, decide_eq_decide]
  split <;> split <;> split <;> omega
/-- the difference as a whole number modulo 2^W -/
theorem dif_int {w x y k : Nat} (hx : x < 2 ^ w) (hy : y < 2 ^ w) (hk : k ≤ 1) : (((x + 2 ^ w + 2 ^ w - y - k) % 2 ^ w : Nat) : Int) = ((x : Int) - y - k) % ((2 ^ w : Nat) : Int) := by
  have hp := pow_pos' w
  rw [Int.natCast_emod, show (((x + 2 ^ w + 2 ^ w - y - k : Nat)) : Int) = ((x : Int) - y - k) + ((2 ^ w : Nat) : Int) * 2 by omega, Int.add_mul_emod_self_left]
theorem sum_int {w x y k : Nat} : (((x + y + k) % 2 ^ w : Nat) : Int) = ((x : Int) + y + k) % ((2 ^ w : Nat) : Int) := by
  rw [Int.natCast_emod]; rfl
end Wo
end

section
set_option linter.all false
/-! The program's plain functions over whole numbers, as they are written, and what they are worth by the specification. -/
namespace Wm
open PySem
def cut (n w : Int) : Int := n % 2 ^ w.toNat
def bit (n p : Int) : Int := n / 2 ^ p.toNat % 2
def highest_bit (n w : Int) : Int := bit n (w - 1)
def signed (n w : Int) : Int := n - highest_bit n w * 2 ^ w.toNat
def ones (n : Int) : Int := ((List.range (Builtin.Int.intBits n)).map fun i : Nat => bit n (0 + (i : Int))).sum
def when (f : Int) (so : Bool) : Int := if so = true then f else 0
def replaced (f which now : Int) : Int := Builtin.bitOr (Builtin.bitAnd f (2261 - which)) now
def flags_of (r w : Int) : Int := when 64 (decide (r = 0)) + when 128 (decide (highest_bit r w = 1)) + when 4 (decide (ones (r % 256) % 2 = 0))
def fits_with_sign (n w : Int) : Bool := decide (signed (cut n w) w = n)
def sum_flags (x y c w : Int) : Int := flags_of (cut (x + y + c) w) w + when 1 (!decide (x + y + c = cut (x + y + c) w)) + when 16 (decide (15 < cut x 4 + cut y 4 + c)) + when 2048 (!fits_with_sign (signed x w + signed y w + c) w)
def difference_flags (x y b w : Int) : Int := flags_of (cut (x - y - b) w) w + when 1 (decide (x - y - b < 0)) + when 16 (decide (cut x 4 - cut y 4 - b < 0)) + when 2048 (!fits_with_sign (signed x w - signed y w - b) w)
end Wm
namespace Wo
open Sv02
theorem pow_cast (k : Nat) : (2 : Int) ^ k = ((2 ^ k : Nat) : Int) := by rw [Int.natCast_pow]; rfl
theorem cut_int (z : Int) (w : Nat) : Wm.cut z (w : Int) = ((unsigned w z : Nat) : Int) := by
  unfold Wm.cut unsigned
  rw [Int.toNat_natCast, pow_cast]
  have := Int.emod_nonneg z (b := ((2 ^ w : Nat) : Int)) (by have := pow_pos' w; omega)
  omega
theorem cut_nat (x w : Nat) : Wm.cut (x : Int) (w : Int) = ((x % 2 ^ w : Nat) : Int) := by rw [cut_int, uns_nat]
theorem bit_nat (x p : Nat) : Wm.bit (x : Int) (p : Int) = if x.testBit p = true then 1 else 0 := by
  unfold Wm.bit
  rw [Int.toNat_natCast, pow_cast, bit_div, ← Int.natCast_ediv]
  by_cases h : x / 2 ^ p % 2 = 1
  · rw [decide_eq_true h, if_pos rfl]; omega
  · rw [decide_eq_false h, if_neg (by simp)]; omega
theorem hb_nat {w : Nat} (hw : 0 < w) (x : Nat) : Wm.highest_bit (x : Int) (w : Int) = if top w x = true then 1 else 0 := by
  unfold Wm.highest_bit
  rw [show ((w : Int) - 1) = ((w - 1 : Nat) : Int) by omega, bit_nat]; rfl
theorem signed_nat {w : Nat} (hw : 0 < w) {x : Nat} (hx : x < 2 ^ w) : Wm.signed (x : Int) (w : Int) = signed w x := by
  unfold Wm.signed
  rw [hb_nat hw, signed_top hw hx, Int.toNat_natCast, pow_cast]
  split <;> omega
theorem intBits_nat (x : Nat) : PySem.Builtin.Int.intBits (x : Int) = if x = 0 then 0 else x.log2 + 1 := by
  unfold PySem.Builtin.Int.intBits
  by_cases h : x = 0
  · subst h; rfl
  · rw [if_neg (by simp; omega), if_neg h, Int.natAbs_natCast]
theorem intBits_le {x k : Nat} (h : x < 2 ^ k) : PySem.Builtin.Int.intBits (x : Int) ≤ k := by
  rw [intBits_nat]
  by_cases h0 : x = 0
  · rw [if_pos h0]; omega
  · rw [if_neg h0]
    exact (Nat.log2_lt h0).mpr h
theorem lt_intBits (x : Nat) : x < 2 ^ PySem.Builtin.Int.intBits (x : Int) := by
  rw [intBits_nat]
  by_cases h0 : x = 0
  · rw [if_pos h0, h0]; decide
  · rw [if_neg h0]; exact Nat.lt_log2_self
theorem sum_bits (x : Nat) : ∀ k : Nat, ((List.range k).map fun i : Nat => Wm.bit (x : Int) (0 + (i : Int))).sum = ((ones k x : Nat) : Int)
  | 0 => rfl
  | k + 1 => by
    rw [List.range_succ, List.map_append, List.sum_append, sum_bits x k, ones_high]
    simp only [List.map_cons, List.map_nil, List.sum_cons, List.sum_nil, Int.zero_add, bit_nat, bit_div]
    have := Nat.mod_lt (x / 2 ^ k) (show 0 < 2 by decide)
    by_cases h : x / 2 ^ k % 2 = 1
    · rw [decide_eq_true h, if_pos rfl]; omega
    · rw [decide_eq_false h, if_neg (by simp)]; omega
theorem ones_nat {k x : Nat} (h : x < 2 ^ k) : Wm.ones (x : Int) = ((ones k x : Nat) : Int) := by
  unfold Wm.ones
  rw [sum_bits]
  have h1 := intBits_le h
  have h2 := lt_intBits x
  rw [show k = PySem.Builtin.Int.intBits (x : Int) + (k - PySem.Builtin.Int.intBits (x : Int)) by omega, ones_more h2]
theorem number_when (f : Flags) : ((f.number : Nat) : Int) = Wm.when 1 f.c + Wm.when 4 f.p + Wm.when 16 f.a + Wm.when 64 f.z + Wm.when 128 f.s + Wm.when 2048 f.o := by
  obtain ⟨c, p, a, z, s, o⟩ := f
  cases c <;> cases p <;> cases a <;> cases z <;> cases s <;> cases o <;> decide
theorem when_false (n : Int) : Wm.when n false = 0 := rfl
theorem dec_b {b : Bool} : decide ((if b = true then (1 : Int) else 0) = 1) = b := by cases b <;> rfl
theorem flags_of_nat {w : Nat} (hw : 0 < w) {r : Nat} (f : Flags) (hf : f.c = false ∧ f.a = false ∧ f.o = false) : Wm.flags_of (r : Int) (w : Int) = (((f.of w r).number : Nat) : Int) := by
  rw [number_when]
  unfold Wm.flags_of Flags.of
  dsimp only
  rw [hf.1, hf.2.1, hf.2.2, hb_nat hw, dec_b, show ((r : Int) % 256) = ((r % 256 : Nat) : Int) by omega, ones_nat (k := 8) (Nat.mod_lt _ (by decide)), ones_mod]
  rw [show decide ((r : Int) = 0) = (r == 0) by
    by_cases h : r = 0
    · subst h; rfl
    · rw [decide_eq_false (by omega), beq_eq_false_iff_ne.mpr h]]
  rw [show decide (((ones 8 r : Nat) : Int) % 2 = 0) = (ones 8 r % 2 == 0) by
    by_cases h : ones 8 r % 2 = 0
    · rw [h, decide_eq_true (by omega)]; rfl
    · rw [decide_eq_false (by omega), beq_eq_false_iff_ne.mpr h]]
  simp only [when_false]
  omega
/-- flags that come to those of a result -/
theorem flags_more {w : Nat} (hw : 0 < w) {r : Nat} (c a o : Bool) : Wm.flags_of (r : Int) (w : Int) + Wm.when 1 c + Wm.when 16 a + Wm.when 2048 o = (((Flags.of { none_ with c := c, a := a, o := o } w r).number : Nat) : Int) := by
  rw [flags_of_nat hw none_ ⟨rfl, rfl, rfl⟩, number_when, number_when]
  show Wm.when 1 false + _ + Wm.when 16 false + _ + _ + Wm.when 2048 false + _ + _ + _ = _
  simp only [when_false]
  show (0 : Int) + Wm.when 4 (ones 8 r % 2 == 0) + 0 + Wm.when 64 (r == 0) + Wm.when 128 (top w r) + 0 + Wm.when 1 c + Wm.when 16 a + Wm.when 2048 o = Wm.when 1 c + Wm.when 4 (ones 8 r % 2 == 0) + Wm.when 16 a + Wm.when 64 (r == 0) + Wm.when 128 (top w r) + Wm.when 2048 o
  omega
theorem fits_mir {w : Nat} (hw : 0 < w) (z : Int) : Wm.fits_with_sign z (w : Int) = fits w z := by
  unfold Wm.fits_with_sign
  rw [cut_int, signed_nat hw (uns_lt w z), fits_signed hw]
theorem dec_iff {p q : Prop} [Decidable p] [Decidable q] (h : p ↔ q) : decide p = decide q := by
  by_cases hp : p
  · rw [decide_eq_true hp, decide_eq_true (h.mp hp)]
  · rw [decide_eq_false hp, decide_eq_false (fun q => hp (h.mpr q))]
theorem sum_flags_nat {w : Nat} (hw : 0 < w) {x y k : Nat} (hx : x < 2 ^ w) (hy : y < 2 ^ w) : Wm.sum_flags (x : Int) (y : Int) (k : Int) (w : Int) = (((sum w x y k).2.number : Nat) : Int) := by
  unfold Wm.sum_flags sum
  dsimp only
  rw [show ((x : Int) + (y : Int) + (k : Int)) = ((x + y + k : Nat) : Int) by omega, cut_nat, fits_mir hw, signed_nat hw hx, signed_nat hw hy,
    show (4 : Int) = ((4 : Nat) : Int) from rfl, cut_nat, cut_nat, ← flags_more hw]
  congr 1
  congr 1
  · congr 1
    congr 1
    rw [show (!decide (((x + y + k : Nat) : Int) = (((x + y + k) % 2 ^ w : Nat) : Int))) = decide (2 ^ w ≤ x + y + k) by
      by_cases h : 2 ^ w ≤ x + y + k
      · have := Nat.mod_lt (x + y + k) (pow_pos' w)
        rw [decide_eq_true h, decide_eq_false (by omega)]; rfl
      · rw [decide_eq_false h, Nat.mod_eq_of_lt (by omega), decide_eq_true rfl]; rfl]
  · congr 1
    exact dec_iff (by show (15 : Int) < _ ↔ 16 ≤ x % 16 + y % 16 + k; have : (2 : Nat) ^ 4 = 16 := rfl; omega)
theorem difference_flags_nat {w : Nat} (hw : 0 < w) {x y k : Nat} (hx : x < 2 ^ w) (hy : y < 2 ^ w) (hk : k ≤ 1) : Wm.difference_flags (x : Int) (y : Int) (k : Int) (w : Int) = (((difference w x y k).2.number : Nat) : Int) := by
  unfold Wm.difference_flags difference
  dsimp only
  have e : Wm.cut ((x : Int) - (y : Int) - (k : Int)) (w : Int) = (((x + 2 ^ w + 2 ^ w - y - k) % 2 ^ w : Nat) : Int) := by
    rw [dif_int hx hy hk]
    unfold Wm.cut
    rw [Int.toNat_natCast, pow_cast]
  rw [e, fits_mir hw, signed_nat hw hx, signed_nat hw hy, show (4 : Int) = ((4 : Nat) : Int) from rfl, cut_nat, cut_nat, ← flags_more hw]
  congr 1
  congr 1
  · congr 1
    congr 1
    exact dec_iff (by omega)
  · congr 1
    exact dec_iff (by have : (2 : Nat) ^ 4 = 16 := rfl; omega)
end Wo
end

section
set_option linter.all false
namespace Wm
open PySem
def enough : List Int := [2048, 1, 64, 65, 128, 4]
def differs (f : Int) : Bool := !decide ((!decide (Builtin.bitAnd f 128 = 0)) = (!decide (Builtin.bitAnd f 2048 = 0)))
def even_condition_holds (f c : Int) : Bool := if decide (c < 12) = true then !decide (Builtin.bitAnd f (enough.getD (c / 2).toNat 0) = 0) else if decide (c = 12) = true then differs f else (differs f || !decide (Builtin.bitAnd f 64 = 0))
def condition_holds (f c : Int) : Bool := !decide (even_condition_holds f (c - c % 2) = decide (c % 2 = 1))
def low_bytes_with_sign (y n : Int) : Int := signed (cut y (8 * n)) (8 * n)
def understood (n w : Int) (b : Bool) : Int := if b = true then signed n w else n
def absI (i : Int) : Int := if i < 0 then -i else i
def quotient_toward_0 (a v : Int) : Int := if decide (decide (a < 0) = decide (v < 0)) = true then absI a / absI v else -(absI a / absI v)
def bit_told (x n f w : Int) : Int := replaced f 1 (bit x (n % w))
def shift_count (n w : Int) : Int := if decide (w = 64) = true then n % 64 else n % 32
def shift_flags (r : Int) (c o : Bool) (w : Int) : Int := flags_of r w + when 1 c + when 2048 o
def turn_flags (f : Int) (c o : Bool) : Int := replaced f (1 + 2048) (when 1 c + when 2048 o)
def two_highest_differ (n w : Int) : Bool := !decide (bit n (w - 1) = bit n (w - 2))
def turned_left (n k w : Int) : Int := cut (Builtin.bitOr (n * 2 ^ k.toNat) (n / 2 ^ (w - k).toNat)) w
def fill_flags (x r c w : Int) : Int := shift_flags r (decide (c = 1)) (!decide (highest_bit r w = highest_bit x w)) w
end Wm
namespace Wo
open Sv02
/-! ### flags replaced, asked -/
def b2n (b : Bool) : Int := if b = true then 1 else 0
theorem rep_c (f : Flags) (b : Bool) : Wm.replaced ((f.number : Nat) : Int) 1 (b2n b) = ((({ f with c := b } : Flags).number : Nat) : Int) := by
  obtain ⟨c, p, a, z, s, o⟩ := f
  revert c p a z s o b
  decide +kernel
theorem rep_z (f : Flags) (b : Bool) : Wm.replaced ((f.number : Nat) : Int) 64 (Wm.when 64 b) = ((({ f with z := b } : Flags).number : Nat) : Int) := by
  obtain ⟨c, p, a, z, s, o⟩ := f
  revert c p a z s o b
  decide +kernel
theorem rep_co (f : Flags) (b e : Bool) : Wm.turn_flags ((f.number : Nat) : Int) b e = ((({ f with c := b, o := e } : Flags).number : Nat) : Int) := by
  obtain ⟨c, p, a, z, s, o⟩ := f
  revert c p a z s o b e
  decide +kernel
theorem num_mod2 (f : Flags) : ((f.number : Nat) : Int) % 2 = b2n f.c := by
  obtain ⟨c, p, a, z, s, o⟩ := f
  revert c p a z s o
  decide +kernel
theorem cond_mir (f : Flags) (k : Fin 16) : Wm.condition_holds ((f.number : Nat) : Int) ((k.1 : Nat) : Int) = condition f k.1 := by
  obtain ⟨c, p, a, z, s, o⟩ := f
  revert c p a z s o k
  decide +kernel
theorem cond_nat (f : Flags) {k : Nat} (h : k < 16) : Wm.condition_holds ((f.number : Nat) : Int) (k : Int) = condition f k := cond_mir f ⟨k, h⟩
theorem put_mir (n : Nat) : PySem.Builtin.bitAnd (n : Int) 2261 = (((flagsOf n).number : Nat) : Int) := by
  rw [put_number, PyProof.Rows.bitAnd_pp (by omega) (by decide)]; rfl
theorem sflags_nat {w : Nat} (hw : 0 < w) (r : Nat) (c o : Bool) : Wm.shift_flags (r : Int) c o (w : Int) = (((Flags.of { none_ with c := c, o := o } w r).number : Nat) : Int) := by
  unfold Wm.shift_flags
  have h := flags_more hw (r := r) c false o
  rw [when_false] at h
  rw [← show ((Flags.of { none_ with c := c, a := false, o := o } w r).number : Int) = ((Flags.of { none_ with c := c, o := o } w r).number : Int) from rfl, ← h]
  omega
theorem bit_b2n (x p : Nat) : Wm.bit (x : Int) (p : Int) = b2n (x.testBit p) := bit_nat x p
theorem hb_b2n {w : Nat} (hw : 0 < w) (x : Nat) : Wm.highest_bit (x : Int) (w : Int) = b2n (top w x) := hb_nat hw x
theorem b2n_1 (b : Bool) : decide (b2n b = 1) = b := by cases b <;> rfl
theorem b2n_ne (a b : Bool) : (!decide (b2n a = b2n b)) = (a != b) := by cases a <;> cases b <;> rfl

/-! ### the results -/
/-- register d gets z, the flags become b -/
def ResI (t : Abs) (w d : Nat) (z b : Int) (out : Out) : Prop := ∃ g : Flags, b = ((g.number : Nat) : Int) ∧ out = .done { (t.write w d (unsigned w z)) with fl := g }
/-- no register is written, the flags become b -/
def ResN (t : Abs) (b : Int) (out : Out) : Prop := ∃ g : Flags, b = ((g.number : Nat) : Int) ∧ out = .done { t with fl := g }
theorem ResI.mk' {t : Abs} {w d : Nat} {z b : Int} {out : Out} (g : Flags) (r : Nat) (hb : b = ((g.number : Nat) : Int)) (hz : unsigned w z = r) (h : out = .done { (t.write w d r) with fl := g }) : ResI t w d z b out := ⟨g, hb, by rw [hz]; exact h⟩
section
variable {t : Abs} {size w d s : Nat} {n : Int}
variable (hs : w = 8 * size) (h0 : 0 < w)
abbrev vx (t : Abs) (w d : Nat) : Int := ((t.val w d : Nat) : Int)
abbrev fn (t : Abs) : Int := ((t.fl.number : Nat) : Int)
theorem uns_val (t : Abs) (w d : Nat) : unsigned w ((t.val w d : Nat) : Int) = t.val w d := by rw [uns_nat]; exact Nat.mod_eq_of_lt (val_lt t w d)
theorem uns_sum3 {w : Nat} (x y k : Nat) : unsigned w ((x : Int) + (y : Int) + (k : Int)) = (x + y + k) % 2 ^ w := by
  rw [show ((x : Int) + (y : Int) + (k : Int)) = ((x + y + k : Nat) : Int) by omega, uns_nat]
theorem uns_sum2 {w : Nat} (x y : Nat) : unsigned w ((x : Int) + (y : Int)) = (x + y + 0) % 2 ^ w := by
  rw [show ((x : Int) + (y : Int)) = ((x + y + 0 : Nat) : Int) by omega, uns_nat]
include hs in
theorem res_move : ResI t w d (vx t w s) (fn t) (perform t 0 size d s n) := by
  subst hs
  exact .mk' t.fl _ rfl (uns_val t _ s) rfl
include hs h0 in
theorem res_add : ResI t w d (vx t w d + vx t w s) (Wm.sum_flags (vx t w d) (vx t w s) 0 w) (perform t 1 size d s n) := by
  subst hs
  exact .mk' _ _ (sum_flags_nat (k := 0) h0 (val_lt ..) (val_lt ..)) (uns_sum2 _ _) rfl
theorem carry_le (t : Abs) : (if t.fl.c = true then 1 else 0 : Nat) ≤ 1 := by split <;> omega
theorem carry_is (t : Abs) : fn t % 2 = ((if t.fl.c = true then 1 else 0 : Nat) : Int) := by
  rw [num_mod2]; unfold b2n; split <;> rfl
include hs h0 in
theorem res_adc : ResI t w d (vx t w d + vx t w s + fn t % 2) (Wm.sum_flags (vx t w d) (vx t w s) (fn t % 2) w) (perform t 2 size d s n) := by
  subst hs
  rw [carry_is]
  exact .mk' _ _ (sum_flags_nat h0 (val_lt ..) (val_lt ..)) (uns_sum3 _ _ _) rfl
theorem uns_dif {w x y k : Nat} (hx : x < 2 ^ w) (hy : y < 2 ^ w) (hk : k ≤ 1) : unsigned w ((x : Int) - (y : Int) - (k : Int)) = (x + 2 ^ w + 2 ^ w - y - k) % 2 ^ w := by
  have e := dif_int hx hy hk
  unfold unsigned
  omega
theorem uns_dif2 {w x y : Nat} (hx : x < 2 ^ w) (hy : y < 2 ^ w) : unsigned w ((x : Int) - (y : Int)) = (x + 2 ^ w + 2 ^ w - y - 0) % 2 ^ w := by
  have := uns_dif hx hy (Nat.zero_le 1)
  rw [← this]; congr 1; omega
include hs h0 in
theorem res_sub : ResI t w d (vx t w d - vx t w s) (Wm.difference_flags (vx t w d) (vx t w s) 0 w) (perform t 3 size d s n) := by
  subst hs
  exact .mk' _ _ (difference_flags_nat (k := 0) h0 (val_lt ..) (val_lt ..) (by omega)) (uns_dif2 (val_lt ..) (val_lt ..)) rfl
include hs h0 in
theorem res_sbb : ResI t w d (vx t w d - vx t w s - fn t % 2) (Wm.difference_flags (vx t w d) (vx t w s) (fn t % 2) w) (perform t 4 size d s n) := by
  subst hs
  rw [carry_is]
  exact .mk' _ _ (difference_flags_nat h0 (val_lt ..) (val_lt ..) (carry_le t)) (uns_dif (val_lt ..) (val_lt ..) (carry_le t)) rfl
include hs h0 in
theorem res_cmp : ResN t (Wm.difference_flags (vx t w d) (vx t w s) 0 w) (perform t 5 size d s n) := by
  subst hs
  exact ⟨_, difference_flags_nat (k := 0) h0 (val_lt ..) (val_lt ..) (by omega), rfl⟩
theorem and_cast (x y : Nat) : PySem.Builtin.bitAnd (x : Int) (y : Int) = ((x &&& y : Nat) : Int) := by rw [PyProof.Rows.bitAnd_pp (by omega) (by omega)]; rfl
theorem or_cast (x y : Nat) : PySem.Builtin.bitOr (x : Int) (y : Int) = ((x ||| y : Nat) : Int) := by
  rw [PyProof.Rows.bitOr_and, and_cast]
  have := PyProof.Rows.nat_or_add_and x y
  omega
theorem nat_xor_and (x y : Nat) : (x ^^^ y) + 2 * (x &&& y) = x + y := by
  have h1 := PyProof.Rows.nat_or_add_and x y
  have h2 := PyProof.Rows.nat_or_add_and (x ^^^ y) (x &&& y)
  have h3 : (x ^^^ y) &&& (x &&& y) = 0 := by
    apply Nat.eq_of_testBit_eq
    intro i
    rw [Nat.testBit_and, Nat.testBit_xor, Nat.testBit_and, Nat.zero_testBit]
    cases x.testBit i <;> cases y.testBit i <;> rfl
  have h4 : (x ^^^ y) ||| (x &&& y) = x ||| y := by
    apply Nat.eq_of_testBit_eq
    intro i
    rw [Nat.testBit_or, Nat.testBit_xor, Nat.testBit_and, Nat.testBit_or]
    cases x.testBit i <;> cases y.testBit i <;> rfl
  rw [h3, h4] at h2
  omega
theorem xor_cast (x y : Nat) : PySem.Builtin.bitXor (x : Int) (y : Int) = ((x ^^^ y : Nat) : Int) := by
  unfold PySem.Builtin.bitXor
  rw [or_cast, and_cast]
  have h1 := PyProof.Rows.nat_or_add_and x y
  have h2 := nat_xor_and x y
  omega
theorem logic_flags {w : Nat} (h0 : 0 < w) (r : Nat) : Wm.flags_of (r : Int) (w : Int) = (((Flags.of none_ w r).number : Nat) : Int) := flags_of_nat h0 none_ ⟨rfl, rfl, rfl⟩
include hs h0 in
theorem res_and : ResI t w d (PySem.Builtin.bitAnd (vx t w d) (vx t w s)) (Wm.flags_of (PySem.Builtin.bitAnd (vx t w d) (vx t w s)) w) (perform t 6 size d s n) := by
  subst hs
  rw [and_cast]
  exact .mk' _ _ (logic_flags h0 _) (by rw [uns_nat, Nat.mod_eq_of_lt (Nat.lt_of_le_of_lt Nat.and_le_left (val_lt ..))]) rfl
include hs h0 in
theorem res_or : ResI t w d (PySem.Builtin.bitOr (vx t w d) (vx t w s)) (Wm.flags_of (PySem.Builtin.bitOr (vx t w d) (vx t w s)) w) (perform t 7 size d s n) := by
  subst hs
  rw [or_cast]
  exact .mk' _ _ (logic_flags h0 _) (by rw [uns_nat, Nat.mod_eq_of_lt (Nat.or_lt_two_pow (val_lt ..) (val_lt ..))]) rfl
include hs h0 in
theorem res_xor : ResI t w d (PySem.Builtin.bitXor (vx t w d) (vx t w s)) (Wm.flags_of (PySem.Builtin.bitXor (vx t w d) (vx t w s)) w) (perform t 8 size d s n) := by
  subst hs
  rw [xor_cast]
  exact .mk' _ _ (logic_flags h0 _) (by rw [uns_nat, Nat.mod_eq_of_lt (Nat.xor_lt_two_pow (val_lt ..) (val_lt ..))]) rfl
include hs h0 in
theorem res_test : ResN t (Wm.flags_of (PySem.Builtin.bitAnd (vx t w d) (vx t w s)) w) (perform t 9 size d s n) := by
  subst hs
  rw [and_cast]
  exact ⟨_, logic_flags h0 _, rfl⟩
theorem one_lt {w : Nat} (h0 : 0 < w) : 1 < 2 ^ w := Nat.one_lt_two_pow (by omega)
include hs h0 in
theorem res_inc : ResI t w d (vx t w d + 1) (Wm.replaced (Wm.sum_flags (vx t w d) 1 0 w) 1 (fn t % 2)) (perform t 10 size d s n) := by
  subst hs
  rw [num_mod2]
  have e := sum_flags_nat (y := 1) (k := 0) h0 (val_lt t (8 * size) d) (one_lt h0)
  exact .mk' _ _ (by rw [show Wm.sum_flags (vx t (8 * size) d) 1 0 ((8 * size : Nat) : Int) = _ from e, rep_c]) (uns_sum2 _ 1) rfl
include hs h0 in
theorem res_dec : ResI t w d (vx t w d - 1) (Wm.replaced (Wm.difference_flags (vx t w d) 1 0 w) 1 (fn t % 2)) (perform t 11 size d s n) := by
  subst hs
  rw [num_mod2]
  have e := difference_flags_nat (y := 1) (k := 0) h0 (val_lt t (8 * size) d) (one_lt h0) (by omega)
  exact .mk' _ _ (by rw [show Wm.difference_flags (vx t (8 * size) d) 1 0 ((8 * size : Nat) : Int) = _ from e, rep_c]) (uns_dif2 (y := 1) (val_lt ..) (one_lt h0)) rfl
include hs h0 in
theorem res_neg : ResI t w d (-(vx t w d)) (Wm.difference_flags 0 (vx t w d) 0 w) (perform t 12 size d s n) := by
  subst hs
  have e := difference_flags_nat (x := 0) (k := 0) h0 (pow_pos' _) (val_lt t (8 * size) d) (by omega)
  exact .mk' _ _ e (by rw [← Int.zero_sub]; exact uns_dif2 (x := 0) (pow_pos' _) (val_lt ..)) rfl
include hs in
theorem res_not : ResI t w d (PySem.Builtin.bitNot (vx t w d)) (fn t) (perform t 13 size d s n) := by
  subst hs
  refine .mk' t.fl (2 ^ (8 * size) - 1 - t.val (8 * size) d) rfl ?_ rfl
  have h := val_lt t (8 * size) d
  have e : PySem.Builtin.bitNot (vx t (8 * size) d) = ((2 ^ (8 * size) - 1 - t.val (8 * size) d : Nat) : Int) + ((2 ^ (8 * size) : Nat) : Int) * (-1) := by
    unfold PySem.Builtin.bitNot; dsimp only [vx]; omega
  unfold unsigned
  rw [e, Int.add_mul_emod_self_left, ← Int.natCast_emod, Nat.mod_eq_of_lt (by omega)]; rfl
end
end Wo
end

section
set_option linter.all false
namespace Wo
open Sv02
/-! ### how far -/
theorem u32_mod (n : Int) {m : Nat} (hm : 0 < m) (h : m ∣ 2 ^ 32) : ((u32 n % m : Nat) : Int) = n % (m : Int) := by
  obtain ⟨q, hq⟩ := h
  unfold u32
  have h1 : (0 : Int) ≤ n % ((2 ^ 32 : Nat) : Int) := Int.emod_nonneg _ (by decide)
  rw [Int.natCast_emod, Int.toNat_of_nonneg h1, hq]
  push_cast
  rw [Int.emod_emod_of_dvd]
  exact ⟨(q : Int), rfl⟩
def kOf (size : Nat) (n : Int) : Nat := u32 n % (if size = 8 then 64 else 32)
theorem kOf_eq {size : Nat} (n : Int) : Wm.shift_count n (((8 * size : Nat)) : Int) = ((kOf size n : Nat) : Int) := by
  unfold Wm.shift_count kOf
  by_cases h : size = 8
  · subst h
    rw [if_pos (by decide), if_pos rfl, u32_mod n (by decide) ⟨67108864, by decide⟩]; rfl
  · rw [if_neg (by simp; omega), if_neg h, u32_mod n (by decide) ⟨134217728, by decide⟩]; rfl
theorem kOf_lt (size : Nat) (n : Int) : kOf size n < 64 := by
  unfold kOf
  split
  · exact Nat.mod_lt _ (by decide)
  · exact Nat.lt_trans (Nat.mod_lt _ (by decide)) (by decide)
theorem shl_cast (x k : Nat) : (x : Int) * 2 ^ ((k : Int)).toNat = ((x * 2 ^ k : Nat) : Int) := by
  rw [Int.toNat_natCast, pow_cast]; omega
theorem shr_cast (x k : Nat) : (x : Int) / 2 ^ ((k : Int)).toNat = ((x / 2 ^ k : Nat) : Int) := by
  rw [Int.toNat_natCast, pow_cast, Int.natCast_ediv]
theorem uns_of_lt {w r : Nat} (h : r < 2 ^ w) : unsigned w (r : Int) = r := by rw [uns_nat]; exact Nat.mod_eq_of_lt h
theorem pow_split {k w : Nat} (h : k ≤ w) : 2 ^ w = 2 ^ (w - k) * 2 ^ k := by rw [← Nat.pow_add]; congr 1; omega
section
variable {t : Abs} {size w d s : Nat} {n : Int} {k : Nat}
variable (hs : w = 8 * size) (h0 : 0 < w) (hk : kOf size n = k) (k0 : k ≠ 0)

theorem shl_bit (w x k : Nat) (hx : x < 2 ^ w) : (x * 2 ^ k).testBit w = (decide (k ≤ w) && x.testBit (w - k)) := by
  rw [Nat.testBit_mul_two_pow]
include hs h0 hk k0 in
theorem res_left : ResI t w d (Wm.cut (vx t w d * 2 ^ ((k : Int)).toNat) w) (Wm.shift_flags (Wm.cut (vx t w d * 2 ^ ((k : Int)).toNat) w) (decide (Wm.bit (vx t w d * 2 ^ ((k : Int)).toNat) w = 1)) (!decide (Wm.highest_bit (Wm.cut (vx t w d * 2 ^ ((k : Int)).toNat) w) w = Wm.bit (vx t w d * 2 ^ ((k : Int)).toNat) w)) w) (perform t 14 size d s n) := by
  subst hs
  rw [shl_cast, cut_nat, bit_b2n, hb_b2n h0, b2n_1, b2n_ne, sflags_nat h0, shl_bit _ _ _ (val_lt ..)]
  refine .mk' _ _ rfl (uns_of_lt (Nat.mod_lt _ (pow_pos' _))) ?_
  show (if kOf size n = 0 then Out.done t else _) = _
  rw [if_neg (by omega)]
  subst hk
  rfl
include hs h0 hk k0 in
theorem res_right : ResI t w d (vx t w d / 2 ^ ((k : Int)).toNat) (Wm.shift_flags (vx t w d / 2 ^ ((k : Int)).toNat) (decide (Wm.bit (vx t w d) ((k : Int) - 1) = 1)) (decide (Wm.highest_bit (vx t w d) w = 1)) w) (perform t 15 size d s n) := by
  subst hs
  rw [shr_cast, show ((k : Int) - 1) = ((k - 1 : Nat) : Int) by omega, bit_b2n, hb_b2n h0, b2n_1, b2n_1, sflags_nat h0]
  refine .mk' _ _ rfl (uns_of_lt (Nat.lt_of_le_of_lt (Nat.div_le_self _ _) (val_lt ..))) ?_
  show (if kOf size n = 0 then Out.done t else _) = _
  rw [if_neg (by omega)]
  subst hk
  rfl
/-- the bit that goes out, of a number with a sign -/
theorem sar_bit {w x j : Nat} (h0 : 0 < w) (hx : x < 2 ^ w) : Wm.bit (signed w x) (j : Int) = b2n (x.testBit (min j (w - 1))) := by
  unfold Wm.bit
  rw [Int.toNat_natCast, pow_cast]
  by_cases hj : j ≤ w - 1
  · rw [Nat.min_eq_left hj, ← bit_b2n]
    unfold Wm.bit
    rw [Int.toNat_natCast, pow_cast]
    unfold signed
    by_cases hx2 : x < 2 ^ (w - 1)
    · rw [if_pos hx2]
    · rw [if_neg hx2]
      have e : ((2 ^ w : Nat) : Int) = ((2 ^ j : Nat) : Int) * (((2 ^ (w - 1 - j) : Nat) : Int) * 2) := by
        have : 2 ^ w = 2 ^ j * (2 ^ (w - 1 - j) * 2) := by
          rw [← Nat.pow_succ, ← Nat.pow_add]; congr 1; omega
        rw [this]; push_cast; rfl
      rw [e, show (x : Int) - ((2 ^ j : Nat) : Int) * (((2 ^ (w - 1 - j) : Nat) : Int) * 2) = (x : Int) + ((2 ^ j : Nat) : Int) * (-(((2 ^ (w - 1 - j) : Nat) : Int) * 2)) by rw [Int.mul_neg]; omega,
        Int.add_mul_ediv_left _ _ (by have := pow_pos' j; omega)]
      omega
  · rw [Nat.min_eq_right (by omega)]
    show _ = b2n (top w x)
    rw [top_ge h0 hx]
    have hp : 2 ^ w ≤ 2 ^ j := Nat.pow_le_pow_right (by decide) (by omega)
    unfold signed
    by_cases hx2 : x < 2 ^ (w - 1)
    · rw [if_pos hx2, decide_eq_false (by omega), Int.ediv_eq_zero_of_lt (by omega) (by omega)]; rfl
    · rw [if_neg hx2, decide_eq_true (by omega)]
      have : ((x : Int) - ((2 ^ w : Nat) : Int)) / ((2 ^ j : Nat) : Int) = -1 := by
        rw [Int.ediv_eq_iff_of_pos (by have := pow_pos' j; omega)]
        omega
      rw [this]; rfl
include hs h0 hk k0 in
theorem res_sar : ResI t w d (Wm.cut (Wm.signed (vx t w d) w / 2 ^ ((k : Int)).toNat) w) (Wm.shift_flags (Wm.cut (Wm.signed (vx t w d) w / 2 ^ ((k : Int)).toNat) w) (decide (Wm.bit (Wm.signed (vx t w d) w) ((k : Int) - 1) = 1)) false w) (perform t 16 size d s n) := by
  subst hs
  rw [signed_nat h0 (val_lt ..), show ((k : Int) - 1) = ((k - 1 : Nat) : Int) by omega, sar_bit h0 (val_lt ..), b2n_1, cut_int, sflags_nat h0, Int.toNat_natCast, pow_cast]
  refine .mk' _ _ rfl (uns_of_lt (uns_lt _ _)) ?_
  show (if kOf size n = 0 then Out.done t else _) = _
  rw [if_neg (by omega)]
  subst hk
  rfl
theorem turned_nat {w x j : Nat} (hx : x < 2 ^ w) (hj : j ≤ w) : Wm.turned_left (x : Int) (j : Int) (w : Int) = ((turn w x j : Nat) : Int) := by
  unfold Wm.turned_left
  rw [shl_cast, show ((w : Int) - (j : Int)) = ((w - j : Nat) : Int) by omega, shr_cast, or_cast, cut_nat, turn_or' hx hj]
include hs h0 hk k0 in
theorem res_rol {r : Int} (hr : r = Wm.turned_left (vx t w d) ((k : Int) % (w : Int)) w) : ResI t w d r (Wm.turn_flags (fn t) (decide (Wm.bit r 0 = 1)) (!decide (Wm.highest_bit r w = Wm.bit r 0))) (perform t 17 size d s n) := by
  have hm := Nat.mod_lt k h0
  have e : r = ((turn w (t.val w d) (k % w) : Nat) : Int) := by
    rw [hr, show ((k : Int) % (w : Int)) = ((k % w : Nat) : Int) by omega, turned_nat (val_lt ..) (by omega)]
  rw [e]
  subst hs
  rw [show (0 : Int) = ((0 : Nat) : Int) from rfl, bit_b2n, hb_b2n h0, b2n_1, b2n_ne, rep_co]
  refine .mk' _ _ rfl (uns_of_lt (turn_lt (val_lt ..) (by omega))) ?_
  show (if kOf size n = 0 then Out.done t else _) = _
  rw [if_neg (by omega)]
  subst hk
  rfl
theorem turn_full {w x : Nat} (hx : x < 2 ^ w) : turn w x w = turn w x 0 := by
  unfold turn
  rw [Nat.mul_mod_left, Nat.sub_self, Nat.pow_zero, Nat.div_one, Nat.mul_one, Nat.sub_zero, Nat.mod_eq_of_lt hx, Nat.div_eq_of_lt hx]; omega
theorem two_differ {w r : Nat} (h2 : 2 ≤ w) : Wm.two_highest_differ (r : Int) (w : Int) = (top w r != r.testBit (w - 2)) := by
  unfold Wm.two_highest_differ
  rw [show ((w : Int) - 1) = ((w - 1 : Nat) : Int) by omega, show ((w : Int) - 2) = ((w - 2 : Nat) : Int) by omega, bit_b2n, bit_b2n, b2n_ne]; rfl
include hs h0 hk k0 in
theorem res_ror {r : Int} (h2 : 2 ≤ w) (hr : r = Wm.turned_left (vx t w d) ((w : Int) - (k : Int) % (w : Int)) w) : ResI t w d r (Wm.turn_flags (fn t) (decide (Wm.highest_bit r w = 1)) (Wm.two_highest_differ r w)) (perform t 18 size d s n) := by
  have hm := Nat.mod_lt k h0
  have e : r = ((turn w (t.val w d) ((w - k % w) % w) : Nat) : Int) := by
    rw [hr, show ((w : Int) - (k : Int) % (w : Int)) = ((w - k % w : Nat) : Int) by omega, turned_nat (val_lt ..) (by omega)]
    by_cases h : k % w = 0
    · rw [h, Nat.sub_zero, Nat.mod_self, turn_full (val_lt ..)]
    · rw [Nat.mod_eq_of_lt (show w - k % w < w by omega)]
  rw [e]
  have hl : (w - k % w) % w ≤ w := Nat.le_of_lt (Nat.mod_lt _ h0)
  subst hs
  rw [hb_b2n h0, b2n_1, two_differ h2, rep_co]
  refine .mk' _ _ rfl (uns_of_lt (turn_lt (val_lt ..) hl)) ?_
  show (if kOf size n = 0 then Out.done t else _) = _
  rw [if_neg (by omega)]
  subst hk
  rfl
/-- the number with C above -/
theorem with_c (t : Abs) (w d : Nat) : vx t w d + fn t % 2 * 2 ^ ((w : Int)).toNat = (((if t.fl.c = true then 1 else 0) * 2 ^ w + t.val w d : Nat) : Int) := by
  rw [carry_is, shl_cast]; dsimp only [vx]; omega
theorem with_c_lt (t : Abs) (w d : Nat) : (if t.fl.c = true then 1 else 0) * 2 ^ w + t.val w d < 2 ^ (w + 1) := by
  have := val_lt t w d
  rw [Nat.pow_succ]
  split <;> omega
include hs hk in
theorem res_rcl0 (hj : k % (w + 1) = 0) : ResN t (fn t) (perform t 19 size d s n) := by
  subst hs hk
  refine ⟨t.fl, rfl, ?_⟩
  show (if kOf size n % (8 * size + 1) = 0 then Out.done t else _) = _
  rw [if_pos hj]
include hs hk in
theorem res_rcr0 (hj : k % (w + 1) = 0) : ResN t (fn t) (perform t 20 size d s n) := by
  subst hs hk
  refine ⟨t.fl, rfl, ?_⟩
  show (if kOf size n % (8 * size + 1) = 0 then Out.done t else _) = _
  rw [if_pos hj]
include hs h0 hk in
theorem res_rcl {r : Int} (hj : k % (w + 1) ≠ 0) (hr : r = Wm.turned_left (vx t w d + fn t % 2 * 2 ^ ((w : Int)).toNat) ((k : Int) % ((w : Int) + 1)) ((w : Int) + 1)) : ResI t w d r (Wm.turn_flags (fn t) (decide (Wm.bit r w = 1)) (!decide (Wm.highest_bit r w = Wm.bit r w))) (perform t 19 size d s n) := by
  have hm := Nat.mod_lt k (show 0 < w + 1 by omega)
  have e : r = ((turn (w + 1) ((if t.fl.c = true then 1 else 0) * 2 ^ w + t.val w d) (k % (w + 1)) : Nat) : Int) := by
    rw [hr, with_c, show ((w : Int) + 1) = ((w + 1 : Nat) : Int) by omega, show ((k : Int) % ((w + 1 : Nat) : Int)) = ((k % (w + 1) : Nat) : Int) by omega, turned_nat (with_c_lt ..) (by omega)]
  rw [e]
  subst hs hk
  rw [bit_b2n, hb_b2n h0, b2n_1, b2n_ne, rep_co]
  refine .mk' _ _ rfl (uns_nat _ _) ?_
  show (if kOf size n % (8 * size + 1) = 0 then Out.done t else _) = _
  rw [if_neg hj]
  rfl
include hs h0 hk in
theorem res_rcr {r : Int} (h2 : 2 ≤ w) (hj : k % (w + 1) ≠ 0) (hr : r = Wm.turned_left (vx t w d + fn t % 2 * 2 ^ ((w : Int)).toNat) ((w : Int) + 1 - (k : Int) % ((w : Int) + 1)) ((w : Int) + 1)) : ResI t w d r (Wm.turn_flags (fn t) (decide (Wm.bit r w = 1)) (Wm.two_highest_differ r w)) (perform t 20 size d s n) := by
  have hm := Nat.mod_lt k (show 0 < w + 1 by omega)
  have e : r = ((turn (w + 1) ((if t.fl.c = true then 1 else 0) * 2 ^ w + t.val w d) (w + 1 - k % (w + 1)) : Nat) : Int) := by
    rw [hr, with_c, show ((w : Int) + 1) = ((w + 1 : Nat) : Int) by omega, show (((w + 1 : Nat) : Int) - (k : Int) % ((w + 1 : Nat) : Int)) = ((w + 1 - k % (w + 1) : Nat) : Int) by omega, turned_nat (with_c_lt ..) (by omega)]
  rw [e]
  subst hs hk
  rw [bit_b2n, b2n_1, two_differ h2, rep_co]
  refine .mk' _ _ rfl (uns_nat _ _) ?_
  show (if kOf size n % (8 * size + 1) = 0 then Out.done t else _) = _
  rw [if_neg hj]
  rfl
theorem fill_nat {w : Nat} (h0 : 0 < w) (x r : Nat) (c : Bool) : Wm.fill_flags (x : Int) (r : Int) (b2n c) (w : Int) = (((Flags.of { none_ with c := c, o := top w r != top w x } w r).number : Nat) : Int) := by
  unfold Wm.fill_flags
  rw [b2n_1, hb_b2n h0, hb_b2n h0, b2n_ne, sflags_nat h0]
include hs h0 hk k0 in
theorem res_shld {r : Int} (kw : k ≤ w) (hr : r = Wm.cut (vx t w d * 2 ^ ((k : Int)).toNat + vx t w s / 2 ^ ((w : Int) - (k : Int)).toNat) w) : ResI t w d r (Wm.fill_flags (vx t w d) r (Wm.bit (vx t w d) ((w : Int) - (k : Int))) w) (perform t 21 size d s n) := by
  have e : r = (((t.val w d * 2 ^ k + t.val w s / 2 ^ (w - k)) % 2 ^ w : Nat) : Int) := by
    rw [hr, shl_cast, show ((w : Int) - (k : Int)) = ((w - k : Nat) : Int) by omega, shr_cast, ← cut_nat]; congr 1
  rw [e, show ((w : Int) - (k : Int)) = ((w - k : Nat) : Int) by omega, bit_b2n, fill_nat h0]
  refine .mk' _ _ rfl (uns_of_lt (Nat.mod_lt _ (pow_pos' _))) ?_
  subst hs hk
  show (if kOf size n = 0 then Out.done t else _) = _
  rw [if_neg k0]
  rfl
include hs h0 hk k0 in
theorem res_shrd {r : Int} (kw : k ≤ w) (hr : r = Wm.cut (vx t w d / 2 ^ ((k : Int)).toNat + vx t w s * 2 ^ ((w : Int) - (k : Int)).toNat) w) : ResI t w d r (Wm.fill_flags (vx t w d) r (Wm.bit (vx t w d) ((k : Int) - 1)) w) (perform t 22 size d s n) := by
  have e : r = (((t.val w d / 2 ^ k + t.val w s * 2 ^ (w - k) % 2 ^ w) % 2 ^ w : Nat) : Int) := by
    rw [hr, shr_cast, show ((w : Int) - (k : Int)) = ((w - k : Nat) : Int) by omega, shl_cast, Nat.add_mod_mod, ← cut_nat]; congr 1
  rw [e, show ((k : Int) - 1) = ((k - 1 : Nat) : Int) by omega, bit_b2n, fill_nat h0]
  refine .mk' _ _ rfl (uns_of_lt (Nat.mod_lt _ (pow_pos' _))) ?_
  subst hs hk
  show (if kOf size n = 0 then Out.done t else _) = _
  rw [if_neg k0]
  rfl
include hs hk in
theorem res_k0 (k0 : k = 0) {op : Nat} (ho : op = 14 ∨ op = 15 ∨ op = 16 ∨ op = 17 ∨ op = 18 ∨ op = 19 ∨ op = 20 ∨ op = 21 ∨ op = 22) : ResN t (fn t) (perform t op size d s n) := by
  subst hs
  have h : kOf size n = 0 := by omega
  have h' : kOf size n % (8 * size + 1) = 0 := by rw [h]; simp
  refine ⟨t.fl, rfl, ?_⟩
  rcases ho with rfl | rfl | rfl | rfl | rfl | rfl | rfl | rfl | rfl
  all_goals first
    | (show (if kOf size n = 0 then Out.done t else _) = _; rw [if_pos h])
    | (show (if kOf size n % (8 * size + 1) = 0 then Out.done t else _) = _; rw [if_pos h'])
end
end Wo
end

section
set_option linter.all false
namespace Wo
open Sv02
/-! ### the lowest one -/
theorem even_and (z : Nat) (h : 0 < z) : (2 * z) &&& (2 * z - 1) = 2 * (z &&& (z - 1)) := by
  apply Nat.eq_of_testBit_eq
  intro i
  cases i with
  | zero =>
    rw [Nat.testBit_and]
    simp
  | succ i =>
    rw [Nat.testBit_and, Nat.testBit_succ, Nat.testBit_succ, Nat.testBit_succ, ← Nat.testBit_and]
    congr 1
    rw [show 2 * z / 2 = z by omega, show (2 * z - 1) / 2 = z - 1 by omega, show 2 * (z &&& (z - 1)) / 2 = z &&& (z - 1) by omega]
theorem odd_and (z : Nat) : (2 * z + 1) &&& (2 * z + 1 - 1) = 2 * z := by
  apply Nat.eq_of_testBit_eq
  intro i
  cases i with
  | zero => rw [Nat.testBit_and]; simp
  | succ i =>
    rw [Nat.testBit_and, Nat.testBit_succ, Nat.testBit_succ, ← Nat.testBit_and]
    rw [show (2 * z + 1) / 2 = z by omega, show (2 * z + 1 - 1) / 2 = z by omega, Nat.and_self, Nat.testBit_succ, show 2 * z / 2 = z by omega]
theorem low_pow : ∀ (y : Nat), 0 < y → ∃ t, y - (y &&& (y - 1)) = 2 ^ t ∧ y.testBit t = true ∧ ∀ j, j < t → y.testBit j = false := by
  intro y
  induction y using Nat.strongRecOn with
  | _ y ih =>
    intro hy
    rcases Nat.mod_two_eq_zero_or_one y with h | h
    · obtain ⟨z, rfl⟩ : ∃ z, y = 2 * z := ⟨y / 2, by omega⟩
      obtain ⟨t, h1, h2, h3⟩ := ih z (by omega) (by omega)
      refine ⟨t + 1, ?_, ?_, ?_⟩
      · rw [even_and z (by omega), Nat.pow_succ, ← h1]; omega
      · rw [Nat.testBit_succ, show 2 * z / 2 = z by omega]; exact h2
      · intro j hj
        cases j with
        | zero => simp
        | succ j => rw [Nat.testBit_succ, show 2 * z / 2 = z by omega]; exact h3 j (by omega)
    · obtain ⟨z, rfl⟩ : ∃ z, y = 2 * z + 1 := ⟨y / 2, by omega⟩
      refine ⟨0, ?_, by simp, fun j hj => absurd hj (Nat.not_lt_zero j)⟩
      rw [odd_and]; omega
theorem lowest_mir {y : Nat} (hy : y ≠ 0) (h64 : y < 2 ^ 64) : ((PySem.Builtin.Int.intBits (PySem.Builtin.bitAnd (y : Int) (-(y : Int))) : Nat) : Int) - 1 = ((lowest y : Nat) : Int) := by
  obtain ⟨t, h1, h2, h3⟩ := low_pow y (by omega)
  have ht : t < 64 := by
    rcases Nat.lt_or_ge t 64 with h | h
    · exact h
    · rw [Nat.testBit_lt_two_pow (Nat.lt_of_lt_of_le h64 (Nat.pow_le_pow_right (by decide) h))] at h2; cases h2
  rw [lowest_of ht h2 h3]
  have e : PySem.Builtin.bitAnd (y : Int) (-(y : Int)) = ((2 ^ t : Nat) : Int) := by
    rw [show -(y : Int) = PySem.Builtin.bitNot ((y - 1 : Nat) : Int) by unfold PySem.Builtin.bitNot; omega, PyProof.Rows.bitAnd_not, and_cast, ← h1]
    have : y &&& (y - 1) ≤ y := Nat.and_le_left
    omega
  rw [e, intBits_nat, if_neg (by have := pow_pos' t; omega), Nat.log2_two_pow]; omega
theorem highest_mir {y : Nat} (hy : y ≠ 0) : ((PySem.Builtin.Int.intBits (y : Int) : Nat) : Int) - 1 = ((y.log2 : Nat) : Int) := by
  rw [intBits_nat, if_neg hy]; omega
section
variable {t : Abs} {size w d s : Nat} {n : Int} {k : Nat}
variable (hs : w = 8 * size) (hw : w = 8 ∨ w = 16 ∨ w = 32 ∨ w = 64)
include hs in
theorem res_bsf0 (h : t.val w s = 0) : ResN t (Wm.replaced (fn t) 64 64) (perform t 27 size d s n) := by
  subst hs
  refine ⟨_, rep_z t.fl true, ?_⟩
  show (if t.val (8 * size) s = 0 then _ else _) = _
  rw [if_pos h]
include hs in
theorem res_bsr0 (h : t.val w s = 0) : ResN t (Wm.replaced (fn t) 64 64) (perform t 28 size d s n) := by
  subst hs
  refine ⟨_, rep_z t.fl true, ?_⟩
  show (if t.val (8 * size) s = 0 then _ else _) = _
  rw [if_pos h]
theorem pow8 {w : Nat} (hw : w = 8 ∨ w = 16 ∨ w = 32 ∨ w = 64) : 64 < 2 ^ w ∧ 2 ^ w ≤ 2 ^ 64 := by
  rcases hw with rfl | rfl | rfl | rfl <;> decide
include hs hw in
theorem res_bsf (h : t.val w s ≠ 0) : ResI t w d (((PySem.Builtin.Int.intBits (PySem.Builtin.bitAnd (vx t w s) (-(vx t w s))) : Nat) : Int) - 1) (Wm.replaced (fn t) 64 0) (perform t 27 size d s n) := by
  have hp := pow8 hw
  rw [lowest_mir h (Nat.lt_of_lt_of_le (val_lt ..) hp.2)]
  refine .mk' _ _ (rep_z t.fl false) (uns_of_lt (Nat.lt_trans (lowest_lt _) hp.1)) ?_
  subst hs
  show (if t.val (8 * size) s = 0 then _ else _) = _
  rw [if_neg h]
include hs hw in
theorem res_bsr (h : t.val w s ≠ 0) : ResI t w d (((PySem.Builtin.Int.intBits (vx t w s) : Nat) : Int) - 1) (Wm.replaced (fn t) 64 0) (perform t 28 size d s n) := by
  have hp := pow8 hw
  rw [highest_mir h]
  refine .mk' _ _ (rep_z t.fl false) (uns_of_lt (Nat.lt_trans (log2_lt' (by omega) (val_lt ..)) (by omega))) ?_
  subst hs
  show (if t.val (8 * size) s = 0 then _ else _) = _
  rw [if_neg h]
include hs hw in
theorem res_popcnt : ResI t w d (Wm.ones (vx t w s)) (Wm.when 64 (decide (vx t w s = 0))) (perform t 29 size d s n) := by
  have hp := pow8 hw
  rw [ones_nat (val_lt t w s)]
  refine .mk' { none_ with z := t.val w s == 0 } _ ?_ (uns_of_lt (Nat.lt_of_le_of_lt (ones_le _ _) (by omega))) ?_
  · rw [number_when]
    show _ = Wm.when 1 false + Wm.when 4 false + Wm.when 16 false + Wm.when 64 (t.val w s == 0) + Wm.when 128 false + Wm.when 2048 false
    simp only [when_false]
    rw [show decide (vx t w s = 0) = (t.val w s == 0) by
      by_cases h : t.val w s = 0
      · rw [decide_eq_true (by dsimp only [vx]; omega), h]; rfl
      · rw [decide_eq_false (by dsimp only [vx]; omega), beq_eq_false_iff_ne.mpr h]]
    omega
  · subst hs; rfl
/-- the loop over the bytes: what stands behind i of them -/
def revI (x : Nat) : Nat → Nat
  | 0 => 0
  | i + 1 => revI x i * 256 + x / 256 ^ i % 256
theorem revI_rev (x : Nat) : ∀ (k i : Nat), revB (revI x i) (x / 256 ^ i) k = revI x (i + k)
  | 0, i => rfl
  | k + 1, i => by
    show revB (revI x i * 256 + x / 256 ^ i % 256) (x / 256 ^ i / 256) k = _
    rw [Nat.div_div_eq_div_mul, ← Nat.pow_succ, show i + (k + 1) = (i + 1) + k by omega, ← revI_rev x k (i + 1)]
    rfl
theorem revI_turned (x k : Nat) : revI x k = turned x k := by
  have h := revI_rev x k 0
  rw [Nat.zero_add] at h
  rw [← h, revB_turned]
  show 0 * 256 ^ k + turned (x / 1) k = _
  rw [Nat.div_one]; omega
include hs hw in
theorem res_bswap : ResI t w d (((revI (t.val w d) size : Nat)) : Int) (fn t) (perform t 30 size d s n) := by
  refine .mk' t.fl (turned (t.val w d) size) rfl ?_ (by subst hs; rfl)
  rw [revI_turned]
  refine uns_of_lt ?_
  have := turned_lt size (t.val w d)
  rw [show (256 : Nat) = 2 ^ 8 from rfl, ← Nat.pow_mul, ← hs] at this
  exact this
include hw in
theorem bitIx (n : Int) : n % (w : Int) = ((u32 n % w : Nat) : Int) := by
  rcases hw with rfl | rfl | rfl | rfl
  · exact (u32_mod n (by decide) ⟨536870912, by decide⟩).symm
  · exact (u32_mod n (by decide) ⟨268435456, by decide⟩).symm
  · exact (u32_mod n (by decide) ⟨134217728, by decide⟩).symm
  · exact (u32_mod n (by decide) ⟨67108864, by decide⟩).symm
include hw in
theorem told_nat (t : Abs) (x : Nat) (n : Int) : Wm.bit_told (x : Int) n (fn t) w = ((({ t.fl with c := x.testBit (u32 n % w) } : Flags).number : Nat) : Int) := by
  unfold Wm.bit_told
  rw [bitIx hw, bit_b2n, rep_c]
include hs hw in
theorem res_bt : ResN t (Wm.bit_told (vx t w d) n (fn t) w) (perform t 31 size d s n) := ⟨_, told_nat hw t _ n, by subst hs; rfl⟩
include hw in
theorem ix_lt (n : Int) : u32 n % w < w := Nat.mod_lt _ (by omega)
theorem one_shl (k : Nat) : (1 : Int) * 2 ^ ((k : Int)).toNat = ((2 ^ k : Nat) : Int) := by rw [Int.toNat_natCast, pow_cast]; omega
theorem pow_toNat (k : Nat) : (2 : Int) ^ ((k : Int)).toNat = ((2 ^ k : Nat) : Int) := by rw [Int.toNat_natCast, pow_cast]
include hs hw in
theorem res_bts : ResI t w d (PySem.Builtin.bitOr (vx t w d) (2 ^ (n % (w : Int)).toNat)) (Wm.bit_told (vx t w d) n (fn t) w) (perform t 32 size d s n) := by
  rw [told_nat hw, bitIx hw, pow_toNat, or_cast, ← bit_set]
  exact .mk' _ _ rfl (uns_of_lt (bit_lt (val_lt ..) (ix_lt hw n) _)) (by subst hs; rfl)
include hs hw in
theorem res_btr : ResI t w d (PySem.Builtin.bitAnd (vx t w d) (PySem.Builtin.bitNot (2 ^ (n % (w : Int)).toNat))) (Wm.bit_told (vx t w d) n (fn t) w) (perform t 33 size d s n) := by
  rw [told_nat hw, bitIx hw, pow_toNat, PyProof.Rows.bitAnd_not, and_cast]
  refine .mk' _ (bit (t.val w d) (u32 n % w) false) rfl ?_ (by subst hs; rfl)
  have h : t.val w d &&& 2 ^ (u32 n % w) ≤ t.val w d := Nat.and_le_left
  rw [show vx t w d - ((t.val w d &&& 2 ^ (u32 n % w) : Nat) : Int) = ((t.val w d - (t.val w d &&& 2 ^ (u32 n % w)) : Nat) : Int) by dsimp only [vx]; omega, ← bit_clear]
  exact uns_of_lt (bit_lt (val_lt ..) (ix_lt hw n) _)
include hs hw in
theorem res_btc : ResI t w d (PySem.Builtin.bitXor (vx t w d) (2 ^ (n % (w : Int)).toNat)) (Wm.bit_told (vx t w d) n (fn t) w) (perform t 34 size d s n) := by
  rw [told_nat hw, bitIx hw, pow_toNat, xor_cast, ← bit_change]
  exact .mk' _ _ rfl (uns_of_lt (bit_lt (val_lt ..) (ix_lt hw n) _)) (by subst hs; rfl)
/-! ### by a condition; widened -/
include hs in
theorem res_cmov (hn : 0 ≤ n ∧ n < 16) (h : Wm.condition_holds (fn t) n = true) : ResI t w d (vx t w s) (fn t) (perform t 35 size d s n) := by
  subst hs
  have e : condition t.fl n.toNat = true := by rw [← cond_nat t.fl (by omega), Int.toNat_of_nonneg hn.1]; exact h
  refine .mk' t.fl _ rfl (uns_val t _ s) ?_
  show (if condition t.fl n.toNat = true then _ else _) = _
  rw [if_pos e]; rfl
include hs in
theorem res_cmov0 (hn : 0 ≤ n ∧ n < 16) (h : Wm.condition_holds (fn t) n = false) : ResN t (fn t) (perform t 35 size d s n) := by
  subst hs
  have e : condition t.fl n.toNat = false := by rw [← cond_nat t.fl (by omega), Int.toNat_of_nonneg hn.1]; exact h
  refine ⟨t.fl, rfl, ?_⟩
  show (if condition t.fl n.toNat = true then _ else _) = _
  rw [if_neg (by rw [e]; simp)]
include hs hw in
theorem res_setcc (hn : 0 ≤ n ∧ n < 16) : ResI t w d (if Wm.condition_holds (fn t) n = true then 1 else 0) (fn t) (perform t 36 size d s n) := by
  have hp := pow8 hw
  have e : Wm.condition_holds (fn t) n = condition t.fl n.toNat := by rw [← cond_nat t.fl (by omega), Int.toNat_of_nonneg hn.1]
  rw [e]
  refine .mk' t.fl (if condition t.fl n.toNat = true then 1 else 0) rfl ?_ (by subst hs; rfl)
  split
  · exact uns_of_lt (r := 1) (by omega)
  · exact uns_of_lt (r := 0) (by omega)
theorem val_val {t : Abs} {w v s : Nat} (h : v ≤ w) : t.val w s % 2 ^ v = t.val v s := by
  unfold Abs.val
  exact Nat.mod_mod_of_dvd _ (Nat.pow_dvd_pow 2 h)
include hs in
theorem cut_low (hn : n = 1 ∨ n = 2 ∨ n = 4) (hl : n < size) : Wm.cut (vx t w s) (8 * n) = ((t.val (8 * n.toNat) s : Nat) : Int) := by
  rw [show 8 * n = ((8 * n.toNat : Nat) : Int) by omega, cut_nat, val_val (by omega)]
include hs in
theorem low_sign (hn : n = 1 ∨ n = 2 ∨ n = 4) (hl : n < size) : Wm.low_bytes_with_sign (vx t w s) n = signed (8 * n.toNat) (t.val (8 * n.toNat) s) := by
  unfold Wm.low_bytes_with_sign
  rw [cut_low hs hn hl, show 8 * n = ((8 * n.toNat : Nat) : Int) by omega, signed_nat (by omega) (val_lt ..)]
include hs in
theorem res_movzx (hn : n = 1 ∨ n = 2 ∨ n = 4) (hl : n < size) : ResI t w d (Wm.cut (vx t w s) (8 * n)) (fn t) (perform t 40 size d s n) := by
  rw [cut_low hs hn hl]
  refine .mk' t.fl _ rfl (uns_of_lt (Nat.lt_of_lt_of_le (val_lt ..) (Nat.pow_le_pow_right (by decide) (by omega)))) (by subst hs; rfl)
include hs in
theorem res_movsx (hn : n = 1 ∨ n = 2 ∨ n = 4) (hl : n < size) : ResI t w d (Wm.low_bytes_with_sign (vx t w s) n) (fn t) (perform t 41 size d s n) := by
  rw [low_sign hs hn hl]
  exact .mk' t.fl _ rfl rfl (by subst hs; rfl)
include hs in
theorem res_movsxf (h0 : 0 < w) (hn : n = 1 ∨ n = 2 ∨ n = 4) (hl : n < size) : ResI t w d (Wm.low_bytes_with_sign (vx t w s) n) (Wm.flags_of (Wm.cut (Wm.low_bytes_with_sign (vx t w s) n) w) w) (perform t 42 size d s n) := by
  rw [low_sign hs hn hl, cut_int, logic_flags h0]
  exact .mk' _ _ rfl rfl (by subst hs; rfl)
end
end Wo
end

section
set_option linter.all false
namespace Wo
open Sv02
/-- two registers get a and b, the flags become f -/
def Res2 (t : Abs) (w d s : Nat) (a b f : Int) (out : Out) : Prop := ∃ g : Flags, f = ((g.number : Nat) : Int) ∧ out = .done { ((t.write w d (unsigned w a)).write w s (unsigned w b)) with fl := g }
theorem Res2.mk' {t : Abs} {w d s : Nat} {a b f : Int} {out : Out} (g : Flags) (x y : Nat) (hf : f = ((g.number : Nat) : Int)) (ha : unsigned w a = x) (hb : unsigned w b = y) (h : out = .done { ((t.write w d x).write w s y) with fl := g }) : Res2 t w d s a b f out := ⟨g, hf, by rw [ha, hb]; exact h⟩
theorem both_flags {w : Nat} (h0 : 0 < w) (r : Nat) (b : Bool) : Wm.flags_of (r : Int) (w : Int) + Wm.when (1 + 2048) b = (((Flags.of { none_ with c := b, o := b } w r).number : Nat) : Int) := by
  rw [← show ((Flags.of { none_ with c := b, a := false, o := b } w r).number : Int) = ((Flags.of { none_ with c := b, o := b } w r).number : Int) from rfl, ← flags_more h0, when_false]
  have : Wm.when (1 + 2048) b = Wm.when 1 b + Wm.when 2048 b := by cases b <;> decide
  omega
theorem uns_uns (w : Nat) (z : Int) : unsigned w ((unsigned w z : Nat) : Int) = unsigned w z := uns_of_lt (uns_lt w z)
theorem uns2_low (w : Nat) (z : Int) : unsigned (2 * w) z % 2 ^ w = unsigned w z := by
  unfold unsigned
  have h1 : (0 : Int) ≤ z % ((2 ^ (2 * w) : Nat) : Int) := Int.emod_nonneg _ (by have := pow_pos' (2 * w); omega)
  have h2 : (0 : Int) ≤ z % ((2 ^ w : Nat) : Int) := Int.emod_nonneg _ (by have := pow_pos' w; omega)
  have e : (((z % ((2 ^ (2 * w) : Nat) : Int)).toNat % 2 ^ w : Nat) : Int) = z % ((2 ^ w : Nat) : Int) := by
    rw [Int.natCast_emod, Int.toNat_of_nonneg h1, Int.emod_emod_of_dvd]
    exact ⟨((2 ^ w : Nat) : Int), by rw [show 2 * w = w + w by omega, Nat.pow_add]; push_cast; rfl⟩
  omega
theorem uns2_high (w : Nat) (z : Int) : unsigned (2 * w) z / 2 ^ w = unsigned w (z / ((2 ^ w : Nat) : Int)) := by
  unfold unsigned
  have hp := pow_pos' w
  have hp2 := pow_pos' (2 * w)
  have e2 : ((2 ^ (2 * w) : Nat) : Int) = ((2 ^ w : Nat) : Int) * ((2 ^ w : Nat) : Int) := by
    rw [show 2 * w = w + w by omega, Nat.pow_add]; push_cast; rfl
  have h1 : (0 : Int) ≤ z % ((2 ^ (2 * w) : Nat) : Int) := Int.emod_nonneg _ (by omega)
  have h2 : (0 : Int) ≤ z / ((2 ^ w : Nat) : Int) % ((2 ^ w : Nat) : Int) := Int.emod_nonneg _ (by omega)
  have e : (((z % ((2 ^ (2 * w) : Nat) : Int)).toNat / 2 ^ w : Nat) : Int) = z / ((2 ^ w : Nat) : Int) % ((2 ^ w : Nat) : Int) := by
    rw [Int.natCast_ediv, Int.toNat_of_nonneg h1, e2]
    have hW : (0 : Int) < ((2 ^ w : Nat) : Int) := by omega
    generalize ((2 ^ w : Nat) : Int) = W at hW
    have d1 := Int.mul_ediv_add_emod z W
    have d2 := Int.mul_ediv_add_emod (z / W) W
    have m1 := Int.emod_nonneg z (show W ≠ 0 by omega)
    have m2 := Int.emod_lt_of_pos z hW
    have m3 := Int.emod_nonneg (z / W) (show W ≠ 0 by omega)
    have m4 := Int.emod_lt_of_pos (z / W) hW
    -- z = W*W*(z/W/W) + (W * (z/W % W) + z % W)
    have key : z % (W * W) = W * (z / W % W) + z % W := by
      have e3 : z = (W * (z / W % W) + z % W) + (W * W) * (z / W / W) := by
        rw [Int.mul_assoc]
        have : W * (z / W) = W * (W * (z / W / W)) + W * (z / W % W) := by rw [← Int.mul_add, d2]
        omega
      conv => lhs; rw [e3]
      rw [Int.add_mul_emod_self_left]
      have b1 : 0 ≤ W * (z / W % W) := Int.mul_nonneg (by omega) m3
      have b2 : W * (z / W % W) ≤ W * (W - 1) := Int.mul_le_mul_of_nonneg_left (by omega) (by omega)
      rw [Int.mul_sub, Int.mul_one] at b2
      exact Int.emod_eq_of_lt (by omega) (by omega)
    rw [key, Int.add_comm, Int.add_mul_ediv_left _ _ (by omega), Int.ediv_eq_zero_of_lt m1 m2]; omega
  omega
section
variable {t : Abs} {size w d s : Nat} {n : Int}
variable (hs : w = 8 * size) (h0 : 0 < w)
include hs h0 in
theorem res_mul {p h : Int} (hp : p = vx t w d * vx t w s) (hh : h = Wm.cut p w) : Res2 t w d s h (p / 2 ^ ((w : Int)).toNat) (Wm.flags_of h w + Wm.when (1 + 2048) (!decide (h = p))) (perform t 23 size d s n) := by
  have ep : p = ((t.val w d * t.val w s : Nat) : Int) := by rw [hp]; push_cast; rfl
  subst hh
  rw [ep, cut_nat, both_flags h0, shr_cast]
  have eb : (!decide ((((t.val w d * t.val w s) % 2 ^ w : Nat) : Int) = ((t.val w d * t.val w s : Nat) : Int))) = decide (2 ^ w ≤ t.val w d * t.val w s) := by
    have hl := Nat.mod_lt (t.val w d * t.val w s) (pow_pos' w)
    by_cases h : 2 ^ w ≤ t.val w d * t.val w s
    · rw [decide_eq_true h, decide_eq_false (by omega)]; rfl
    · rw [decide_eq_false h, Nat.mod_eq_of_lt (by omega), decide_eq_true rfl]; rfl
  rw [eb]
  refine .mk' _ _ _ rfl (uns_of_lt (Nat.mod_lt _ (pow_pos' _))) (uns_of_lt (mulhi_lt (val_lt ..) (val_lt ..))) (by subst hs; rfl)
include hs h0 in
theorem res_imul {p h : Int} (hp : p = Wm.signed (vx t w d) w * Wm.signed (vx t w s) w) (hh : h = Wm.cut p w) : Res2 t w d s h (p / 2 ^ ((w : Int)).toNat) (Wm.flags_of h w + Wm.when (1 + 2048) (!decide (Wm.signed h w = p))) (perform t 24 size d s n) := by
  rw [signed_nat h0 (val_lt ..), signed_nat h0 (val_lt ..)] at hp
  subst hh
  have ef : (!decide (Wm.signed (Wm.cut p w) w = p)) = !fits w p := by rw [← fits_mir h0]; rfl
  rw [ef, cut_int, both_flags h0, pow_toNat]
  refine .mk' _ _ _ rfl (uns_uns w p) rfl ?_
  subst hs
  show Out.done _ = Out.done _
  rw [← hp]
  congr 1
  rw [uns2_low, uns2_high]
/-! ### quotients -/
theorem abs_nat (z : Int) : Wm.absI z = ((z.natAbs : Nat) : Int) := by unfold Wm.absI; split <;> omega
theorem toward_0 (a v : Int) : Wm.quotient_toward_0 a v = a.tdiv v := by
  unfold Wm.quotient_toward_0
  rw [abs_nat, abs_nat, ← Int.natCast_ediv]
  by_cases h1 : a < 0 <;> by_cases h2 : v < 0
  · rw [if_pos (by rw [decide_eq_true h1, decide_eq_true h2]; rfl)]
    obtain ⟨m, rfl⟩ : ∃ m : Nat, a = -(m : Int) := ⟨a.natAbs, by omega⟩
    obtain ⟨k, rfl⟩ : ∃ k : Nat, v = -(k : Int) := ⟨v.natAbs, by omega⟩
    rw [Int.neg_tdiv, Int.tdiv_neg, Int.neg_neg, Int.natAbs_neg, Int.natAbs_neg]; rfl
  · rw [if_neg (by rw [decide_eq_true h1, decide_eq_false h2]; simp)]
    obtain ⟨m, rfl⟩ : ∃ m : Nat, a = -(m : Int) := ⟨a.natAbs, by omega⟩
    obtain ⟨k, rfl⟩ : ∃ k : Nat, v = (k : Int) := ⟨v.natAbs, by omega⟩
    rw [Int.neg_tdiv, Int.natAbs_neg]; rfl
  · rw [if_neg (by rw [decide_eq_false h1, decide_eq_true h2]; simp)]
    obtain ⟨m, rfl⟩ : ∃ m : Nat, a = (m : Int) := ⟨a.natAbs, by omega⟩
    obtain ⟨k, rfl⟩ : ∃ k : Nat, v = -(k : Int) := ⟨v.natAbs, by omega⟩
    rw [Int.tdiv_neg, Int.natAbs_neg]; rfl
  · rw [if_pos (by rw [decide_eq_false h1, decide_eq_false h2]; rfl)]
    obtain ⟨m, rfl⟩ : ∃ m : Nat, a = (m : Int) := ⟨a.natAbs, by omega⟩
    obtain ⟨k, rfl⟩ : ∃ k : Nat, v = (k : Int) := ⟨v.natAbs, by omega⟩
    rfl
theorem rest_mod (a v : Int) : a - a.tdiv v * v = a.tmod v := by
  have := Int.mul_tdiv_add_tmod a v
  rw [Int.mul_comm] at this
  omega
def halves (t : Abs) (w d s : Nat) : Int := vx t w s * 2 ^ ((w : Int)).toNat + vx t w d
theorem halves_nat (t : Abs) (w d s : Nat) : halves t w d s = ((t.val w s * 2 ^ w + t.val w d : Nat) : Int) := by
  unfold halves
  rw [shl_cast]; dsimp only [vx]; omega
theorem halves_lt (t : Abs) (w d s : Nat) : t.val w s * 2 ^ w + t.val w d < 2 ^ (2 * w) := by
  have h1 := val_lt t w d
  have h2 := val_lt t w s
  rw [show 2 * w = w + w by omega, Nat.pow_add]
  have : (t.val w s + 1) * 2 ^ w ≤ 2 ^ w * 2 ^ w := Nat.mul_le_mul_right _ h2
  rw [Nat.succ_mul] at this
  omega
include hs in
theorem div_zero (h : vx t w n.toNat = 0) : perform t 25 size d s n = .trap := by
  subst hs
  show (if t.val (8 * size) n.toNat = 0 ∨ _ then Out.trap else _) = _
  rw [if_pos (.inl (by dsimp only [vx] at h; omega))]
include hs in
theorem div_trap {q : Int} (hv : vx t w n.toNat ≠ 0) (hq : q = Wm.quotient_toward_0 (halves t w d s) (vx t w n.toNat)) (h : Wm.cut q w ≠ q) : perform t 25 size d s n = .trap := by
  rw [toward_0, halves_nat] at hq
  have hq' : q = (((t.val w s * 2 ^ w + t.val w d) / t.val w n.toNat : Nat) : Int) := hq
  subst hs
  show (if t.val (8 * size) n.toNat = 0 ∨ 2 ^ (8 * size) ≤ (t.val (8 * size) s * 2 ^ (8 * size) + t.val (8 * size) d) / t.val (8 * size) n.toNat then Out.trap else _) = _
  have hge : 2 ^ (8 * size) ≤ (t.val (8 * size) s * 2 ^ (8 * size) + t.val (8 * size) d) / t.val (8 * size) n.toNat := by
    rcases Nat.lt_or_ge ((t.val (8 * size) s * 2 ^ (8 * size) + t.val (8 * size) d) / t.val (8 * size) n.toNat) (2 ^ (8 * size)) with hl | hl
    · exact absurd (by rw [hq', cut_nat, Nat.mod_eq_of_lt hl]) h
    · exact hl
  exact if_pos (.inr hge)
include hs in
theorem div_done {q : Int} (hv : vx t w n.toNat ≠ 0) (hq : q = Wm.quotient_toward_0 (halves t w d s) (vx t w n.toNat)) (h : Wm.cut q w = q) :
    perform t 25 size d s n = .done ((t.write w d (unsigned w q)).write w s (unsigned w (halves t w d s - q * vx t w n.toNat))) := by
  rw [toward_0] at hq
  have hr : halves t w d s - q * vx t w n.toNat = (((t.val w s * 2 ^ w + t.val w d) % t.val w n.toNat : Nat) : Int) := by
    rw [hq, rest_mod, halves_nat]; rfl
  rw [hr]
  rw [halves_nat] at hq
  have hq' : q = (((t.val w s * 2 ^ w + t.val w d) / t.val w n.toNat : Nat) : Int) := hq
  have hl : (t.val w s * 2 ^ w + t.val w d) / t.val w n.toNat < 2 ^ w := by
    rw [hq', cut_nat] at h
    have := Nat.mod_lt ((t.val w s * 2 ^ w + t.val w d) / t.val w n.toNat) (pow_pos' w)
    omega
  have hv' : t.val w n.toNat ≠ 0 := by dsimp only [vx] at hv; omega
  rw [hq', uns_of_lt hl, uns_of_lt (Nat.lt_trans (Nat.mod_lt _ (by omega)) (val_lt ..))]
  subst hs
  show (if t.val (8 * size) n.toNat = 0 ∨ 2 ^ (8 * size) ≤ (t.val (8 * size) s * 2 ^ (8 * size) + t.val (8 * size) d) / t.val (8 * size) n.toNat then Out.trap else _) = _
  rw [if_neg (by omega)]
theorem halves_signed (h0 : 0 < w) : Wm.signed (halves t w d s) (2 * (w : Int)) = signed (2 * w) (t.val w s * 2 ^ w + t.val w d) := by
  rw [halves_nat, show (2 * (w : Int)) = ((2 * w : Nat) : Int) by omega, signed_nat (by omega) (halves_lt ..)]
include hs h0 in
theorem idiv_zero (h : Wm.signed (vx t w n.toNat) w = 0) : perform t 26 size d s n = .trap := by
  rw [signed_nat h0 (val_lt ..)] at h
  subst hs
  show (if signed (8 * size) (t.val (8 * size) n.toNat) = 0 ∨ _ then Out.trap else _) = _
  rw [if_pos (.inl h)]
include hs h0 in
theorem idiv_trap {q : Int} (hq : q = Wm.quotient_toward_0 (Wm.signed (halves t w d s) (2 * (w : Int))) (Wm.signed (vx t w n.toNat) w)) (h : Wm.signed (Wm.cut q w) w ≠ q) : perform t 26 size d s n = .trap := by
  rw [toward_0, halves_signed h0, signed_nat h0 (val_lt ..)] at hq
  have hf : fits w q = false := by
    rw [← fits_mir h0]; unfold Wm.fits_with_sign
    exact decide_eq_false h
  subst hs
  show (if signed (8 * size) (t.val (8 * size) n.toNat) = 0 ∨ fits (8 * size) ((signed (2 * (8 * size)) (t.val (8 * size) s * 2 ^ (8 * size) + t.val (8 * size) d)).tdiv (signed (8 * size) (t.val (8 * size) n.toNat))) = false then Out.trap else _) = _
  rw [if_pos (.inr (by rw [← hq]; exact hf))]
include hs h0 in
theorem idiv_done {q : Int} (hv : Wm.signed (vx t w n.toNat) w ≠ 0) (hq : q = Wm.quotient_toward_0 (Wm.signed (halves t w d s) (2 * (w : Int))) (Wm.signed (vx t w n.toNat) w)) (h : Wm.signed (Wm.cut q w) w = q) :
    perform t 26 size d s n = .done ((t.write w d (unsigned w q)).write w s (unsigned w (Wm.signed (halves t w d s) (2 * (w : Int)) - q * Wm.signed (vx t w n.toNat) w))) := by
  rw [toward_0] at hq
  have hf : fits w q = true := by
    rw [← fits_mir h0]; unfold Wm.fits_with_sign
    exact decide_eq_true h
  have hr : Wm.signed (halves t w d s) (2 * (w : Int)) - q * Wm.signed (vx t w n.toNat) w = (signed (2 * w) (t.val w s * 2 ^ w + t.val w d)).tmod (signed w (t.val w n.toNat)) := by
    rw [hq, rest_mod, halves_signed h0, signed_nat h0 (val_lt ..)]
  rw [hr]
  rw [halves_signed h0, signed_nat h0 (val_lt ..)] at hq
  rw [signed_nat h0 (val_lt ..)] at hv
  subst hs
  show (if signed (8 * size) (t.val (8 * size) n.toNat) = 0 ∨ fits (8 * size) ((signed (2 * (8 * size)) (t.val (8 * size) s * 2 ^ (8 * size) + t.val (8 * size) d)).tdiv (signed (8 * size) (t.val (8 * size) n.toNat))) = false then Out.trap else _) = _
  rw [← hq, if_neg (by rw [hf]; simp [hv])]
/-! ### exchanges -/
include hs in
theorem res_xchg : perform t 37 size d s n = .done ((t.write w d (t.val w s)).write w s (t.val w d)) := by subst hs; rfl
include hs h0 in
theorem res_xadd : ∃ g : Flags, Wm.sum_flags (vx t w d) (vx t w s) 0 w = ((g.number : Nat) : Int) ∧ perform t 38 size d s n = .done { ((t.write w s (t.val w d)).write w d (unsigned w (vx t w d + vx t w s))) with fl := g } := by
  subst hs
  refine ⟨_, sum_flags_nat (k := 0) h0 (val_lt ..) (val_lt ..), ?_⟩
  rw [uns_sum2]; rfl
include hs h0 in
theorem res_cmpxchg : ∃ g : Flags, Wm.difference_flags (vx t w 0) (vx t w d) 0 w = ((g.number : Nat) : Int) ∧ perform t 39 size d s n = .done { (if t.val w 0 = t.val w d then t.write w d (t.val w s) else t.write w 0 (t.val w d)) with fl := g } := by
  subst hs
  exact ⟨_, difference_flags_nat (k := 0) h0 (val_lt ..) (val_lt ..) (by omega), rfl⟩
end
end Wo
end

section
set_option linter.all false
namespace Wm
def is_condition (number : Int) : Bool := decide (0 ≤ number) && decide (number < 16)
def is_place (r : Int) : Bool := decide (0 ≤ r) && decide (r < 16)
def is_pair_operation (op : Int) : Bool := (decide (23 ≤ op) && decide (op ≤ 26)) || (decide (37 ≤ op) && decide (op ≤ 39))
def is_refused_by_operation (op size n : Int) : Bool :=
  if (decide (op = 21) || decide (op = 22)) = true then (decide (size = 1) || decide (8 * size < shift_count n (8 * size)))
  else if (decide (op = 25) || decide (op = 26)) = true then !is_place n
  else if decide (op = 30) = true then decide (size < 4)
  else if decide (op = 35) = true then (decide (size = 1) || !is_condition n)
  else if decide (op = 36) = true then ((!decide (size = 1)) || !is_condition n)
  else if decide (40 ≤ op) = true then ((!(decide (n = 1) || (decide (n = 2) || decide (n = 4)))) || decide (size ≤ n))
  else false
def is_refused (op size d s n : Int) : Bool :=
  if ((!(decide (0 ≤ op) && decide (op ≤ 42))) || !(decide (size = 1) || (decide (size = 2) || (decide (size = 4) || decide (size = 8))))) = true then true
  else if ((!is_place d) || !is_place s) = true then true
  else is_refused_by_operation op size n
end Wm
namespace Wo
open Sv02
theorem place_iff {r : Int} : Wm.is_place r = true ↔ 0 ≤ r ∧ r < 16 := by unfold Wm.is_place; simp
theorem cond_iff {r : Int} : Wm.is_condition r = true ↔ 0 ≤ r ∧ r < 16 := by unfold Wm.is_condition; simp
theorem idx_none_eq (n : Int) : (idx n 16).isNone = !Wm.is_place n := by
  by_cases h : 0 ≤ n ∧ n < 16
  · rw [place_iff.mpr h, idx_of (by omega)]; rfl
  · rw [idx_none (by omega)]
    have : Wm.is_place n = false := by
      cases e : Wm.is_place n with
      | false => rfl
      | true => exact absurd (place_iff.mp e) h
    rw [this]; rfl
theorem cond_place (n : Int) : Wm.is_condition n = Wm.is_place n := rfl
theorem wrong_mir {op size : Nat} {n : Int} (ho : op ≤ 42) : Wm.is_refused_by_operation (op : Int) (size : Int) n = wrong op size n := by
  unfold Wm.is_refused_by_operation wrong
  dsimp only
  rw [show (8 * (size : Int)) = ((8 * size : Nat) : Int) by omega, kOf_eq, idx_none_eq, cond_place]
  rw [show (u32 n % if size = 8 then 64 else 32) = kOf size n from rfl]
  have d1 : decide ((size : Int) = 1) = (size == 1) := by
    by_cases h : size = 1
    · rw [h]; rfl
    · rw [decide_eq_false (by omega), beq_eq_false_iff_ne.mpr h]
  have d2 : decide (((8 * size : Nat) : Int) < ((kOf size n : Nat) : Int)) = decide (8 * size < kOf size n) := dec_iff (by omega)
  have d3 : decide ((size : Int) < 4) = decide (size < 4) := dec_iff (by omega)
  rw [d1, d2, d3]
  have hcase : op = 21 ∨ op = 22 ∨ op = 25 ∨ op = 26 ∨ op = 30 ∨ op = 35 ∨ op = 36 ∨ op = 40 ∨ op = 41 ∨ op = 42 ∨ (op < 40 ∧ op ≠ 21 ∧ op ≠ 22 ∧ op ≠ 25 ∧ op ≠ 26 ∧ op ≠ 30 ∧ op ≠ 35 ∧ op ≠ 36) := by omega
  have w1 : ∀ z : Int, ((!(decide (n = 1) || (decide (n = 2) || decide (n = 4)))) || decide ((size : Int) ≤ n)) = !((n == 1 || n == 2 || n == 4) && decide (n < (size : Int))) := by
    intro z
    rw [Bool.eq_iff_iff]
    simp only [Bool.or_eq_true, Bool.not_eq_true', Bool.or_eq_false_iff, decide_eq_false_iff_not, decide_eq_true_eq, Bool.and_eq_false_iff, beq_eq_false_iff_ne]
    omega
  rcases hcase with rfl | rfl | rfl | rfl | rfl | rfl | rfl | rfl | rfl | rfl | h
  · simp
  · simp
  · simp
  · simp
  · simp
  · simp [Bool.or_comm]
  · simp [Bool.or_comm, bne]
  · rw [w1 0]; simp
  · rw [w1 0]; simp
  · rw [w1 0]; simp
  · obtain ⟨h0, h1, h2, h3, h4, h5, h6, h7⟩ := h
    have e (k : Nat) (hk : op ≠ k) : decide ((op : Int) = (k : Int)) = false := decide_eq_false (by omega)
    have b (k : Nat) (hk : op ≠ k) : (op == k) = false := beq_eq_false_iff_ne.mpr hk
    rw [show decide ((op : Int) = 21) = false from e 21 h1, show decide ((op : Int) = 22) = false from e 22 h2, show decide ((op : Int) = 25) = false from e 25 h3, show decide ((op : Int) = 26) = false from e 26 h4, show decide ((op : Int) = 30) = false from e 30 h5,
      show decide ((op : Int) = 35) = false from e 35 h6, show decide ((op : Int) = 36) = false from e 36 h7, show decide ((40 : Int) ≤ (op : Int)) = false from decide_eq_false (by omega)]
    rw [b 21 h1, b 22 h2, b 25 h3, b 26 h4, b 30 h5, b 35 h6, b 36 h7, b 40 (by omega), b 41 (by omega), b 42 (by omega)]
    simp
structure Allowed (op size d s n : Int) : Prop where
  op0 : 0 ≤ op ∧ op ≤ 42
  size0 : size = 1 ∨ size = 2 ∨ size = 4 ∨ size = 8
  d0 : 0 ≤ d ∧ d < 16
  s0 : 0 ≤ s ∧ s < 16
  w0 : wrong op.toNat size.toNat n = false
theorem size_iff {size : Int} : (decide (size = 1) || (decide (size = 2) || (decide (size = 4) || decide (size = 8)))) = true ↔ size ∈ sizes := by
  rw [sizes_cases]; simp
theorem allowed_one {t : Abs} {op size d s n : Int} (A : Allowed op size d s n) : one t op size d s n = perform t op.toNat size.toNat d.toNat s.toNat n := by
  unfold one
  rw [idx_of (by have := A.op0; omega), idx_of (by have := A.d0; omega), idx_of (by have := A.s0; omega)]
  dsimp only
  rw [if_pos ⟨sizes_cases.mpr A.size0, A.w0⟩]
theorem refused_false {op size d s n : Int} (h : Wm.is_refused op size d s n = false) : Allowed op size d s n := by
  unfold Wm.is_refused at h
  split at h
  · cases h
  · rename_i h1
    split at h
    · cases h
    · rename_i h2
      simp only [Bool.or_eq_true, Bool.not_eq_true', not_or, Bool.not_eq_false, Bool.and_eq_true, decide_eq_true_eq] at h1
      simp only [Bool.or_eq_true, Bool.not_eq_true', not_or, Bool.not_eq_false] at h2
      obtain ⟨h3, h4⟩ := h1
      have h5 : size = 1 ∨ size = 2 ∨ size = 4 ∨ size = 8 := by simpa using h4
      refine ⟨h3, h5, place_iff.mp h2.1, place_iff.mp h2.2, ?_⟩
      rw [← wrong_mir (by omega), Int.toNat_of_nonneg h3.1, Int.toNat_of_nonneg (by omega)]
      exact h
theorem refused_true {t : Abs} {op size d s n : Int} (h : Wm.is_refused op size d s n = true) : one t op size d s n = .refused := by
  by_cases h1 : 0 ≤ op ∧ op ≤ 42
  · by_cases h2 : size ∈ sizes
    · by_cases h3 : 0 ≤ d ∧ d < 16
      · by_cases h4 : 0 ≤ s ∧ s < 16
        · unfold Wm.is_refused at h
          rw [if_neg (by rw [size_iff.mpr h2]; simp; omega), if_neg (by rw [place_iff.mpr h3, place_iff.mpr h4]; simp)] at h
          have h5 := sizes_cases.mp h2
          rw [show op = ((op.toNat : Nat) : Int) by omega, show size = ((size.toNat : Nat) : Int) by omega, wrong_mir (by omega)] at h
          unfold one
          rw [idx_of (by omega), idx_of (by omega), idx_of (by omega)]
          dsimp only
          rw [if_neg (by rw [h]; simp)]
        · unfold one
          rw [idx_of (by omega), idx_of (by omega), idx_none (i := s) (by omega)]
      · unfold one
        rw [idx_of (by omega), idx_none (i := d) (by omega)]
    · unfold one
      cases idx op 43 <;> cases idx d 16 <;> cases idx s 16 <;> first | rfl | (dsimp only; rw [if_neg (fun z => h2 z.1)])
  · unfold one
    rw [idx_none (by omega)]
end Wo
end

section
set_option Elab.async false
set_option linter.all false
set_option maxRecDepth 100000
namespace L2
open PySem PySem.Spec PyProof.Rows
/-- a key: an int or a str -/
abbrev Key := Sum Int Str
def keyIs : Key → Value → Bool
  | .inl k, v => Value.isInt k v
  | .inr x, v => Value.isStrOf x v
def keyH (w : World) : Key → Int
  | .inl k => hashInt k
  | .inr x => hashStr w x
theorem keyIs_shape : ∀ {k : Key} {v : Value}, keyIs k v = true → (∃ i t, k = Sum.inl i ∧ v = Value.int i t) ∨ (∃ x t, k = Sum.inr x ∧ v = Value.str x t)
  | .inl i, v, h => by
    obtain ⟨t, e⟩ := Value.isInt_shape (k := i) (v := v) h
    exact .inl ⟨i, t, rfl, e⟩
  | .inr x, v, h => by
    obtain ⟨t, e⟩ := Value.isStrOf_shape (x := x) (v := v) h
    exact .inr ⟨x, t, rfl, e⟩
theorem keyIs_int (i : Int) (t : Tok) : keyIs (.inl i) (.int i t) = true := by simp [keyIs, Value.isInt]
theorem key_ll (a b : Int) : decide ((Sum.inl a : Key) = Sum.inl b) = (a == b) := by
  by_cases e : a = b
  · subst e; simp
  · have h : ¬ (Sum.inl a : Key) = Sum.inl b := fun q => e (Sum.inl.inj q)
    rw [decide_eq_false h]
    exact (beq_eq_false_iff_ne.mpr e).symm
theorem key_rr (a b : Str) : decide ((Sum.inr a : Key) = Sum.inr b) = decide (a = b) := by
  by_cases e : a = b
  · subst e; simp
  · have h : ¬ (Sum.inr a : Key) = Sum.inr b := fun q => e (Sum.inr.inj q)
    rw [decide_eq_false h, decide_eq_false e]
theorem key_lr (a : Int) (b : Str) : decide ((Sum.inl a : Key) = Sum.inr b) = false := decide_eq_false (fun q => nomatch q)
theorem key_rl (a : Str) (b : Int) : decide ((Sum.inr a : Key) = Sum.inl b) = false := decide_eq_false (fun q => nomatch q)
def mixKind (prog : Program) (w : World) : PySem.KeyKind prog w Key where
  is := keyIs
  hash := keyH w
  inj := fun v a b ha hb => by
    rcases keyIs_shape ha with ⟨i, t, rfl, rfl⟩ | ⟨x, t, rfl, rfl⟩
    · rcases keyIs_shape hb with ⟨j, u, rfl, e⟩ | ⟨y, u, rfl, e⟩
      · injection e with e1 _; rw [e1]
      · exact nomatch e
    · rcases keyIs_shape hb with ⟨j, u, rfl, e⟩ | ⟨y, u, rfl, e⟩
      · exact nomatch e
      · injection e with e1 _; rw [e1]
  byValue := fun k v h => by
    rcases keyIs_shape h with ⟨i, t, rfl, rfl⟩ | ⟨x, t, rfl, rfl⟩ <;> rfl
  pyHash := fun hv h => by
    rcases keyIs_shape hv with ⟨i, t, rfl, rfl⟩ | ⟨x, t, rfl, rfl⟩
    · exact wpAny_pyHash_int h
    · exact wpAny_pyHash_str h
  eqBool := fun hu hv h => by
    rcases keyIs_shape hu with ⟨i, t, rfl, rfl⟩ | ⟨x, t, rfl, rfl⟩
    · rcases keyIs_shape hv with ⟨j, u, rfl, rfl⟩ | ⟨y, u, rfl, rfl⟩
      · rw [key_ll] at h; exact wpAny_eqBool_int h
      · rw [key_lr] at h; exact SeqAt.EqAt.int_str i t y u _ _ _ _ h
    · rcases keyIs_shape hv with ⟨j, u, rfl, rfl⟩ | ⟨y, u, rfl, rfl⟩
      · rw [key_rl] at h; exact SeqAt.EqAt.str_int x t j u _ _ _ _ h
      · rw [key_rr] at h; exact wpAny_eqBool_str h
  «strs» := fun k x t v h => by
    rcases keyIs_shape h with ⟨i, u, rfl, e⟩ | ⟨y, u, rfl, e⟩
    · exact nomatch e
    · injection e with e1 _
      subst e1
      cases v <;> rfl
end L2
namespace L2
open PySem PySem.Spec PyProof.Rows
/-- a value, without the heap -/
inductive V where
  | non | bl (b : Bool) | int (i : Int) | str (x : Str) | byt (b : Array UInt8) | flt (b : UInt64) | ref (a : Addr) | ty (n : String)
  deriving DecidableEq
def RelV : V → Value → Prop
  | .non, u => u = Value.none
  | .bl b, u => u = Value.bool b
  | .int i, u => ∃ t, u = Value.int i t
  | .str x, u => ∃ t, u = Value.str x t
  | .byt b, u => ∃ t, u = Value.bytes b t
  | .flt b, u => ∃ t, u = Value.float b t
  | .ref a, u => u = Value.ref a
  | .ty n, u => u = Value.type n
abbrev Vals : List V → List Value → Prop := Paired RelV
theorem Vals.length {xs : List V} {us : List Value} (r : Vals xs us) : xs.length = us.length := Paired.length r
theorem Vals.get : ∀ {xs : List V} {us : List Value} {i : Nat} {x : V}, Vals xs us → xs[i]? = some x → ∃ u, us[i]? = some u ∧ RelV x u
  | _, _, _, _, .nil, e => by simp at e
  | _, _, 0, _, .cons r _, e => by simp at e; subst e; exact ⟨_, rfl, r⟩
  | _, _, i + 1, x, .cons _ t, e => by
    obtain ⟨u, h1, h2⟩ := Vals.get (i := i) (x := x) t (by simpa using e)
    exact ⟨u, by simpa using h1, h2⟩
theorem Vals.set {x : V} {u : Value} (r : RelV x u) : ∀ {xs : List V} {us : List Value} (i : Nat), Vals xs us → Vals (xs.set i x) (us.set i u)
  | _, _, _, .nil => .nil
  | _, _, 0, .cons _ t => .cons r t
  | _, _, i + 1, .cons q t => .cons q (Vals.set r i t)
theorem Vals.append : ∀ {xs ys : List V} {us ws : List Value}, Vals xs us → Vals ys ws → Vals (xs ++ ys) (us ++ ws)
  | _, _, _, _, .nil, s => s
  | _, _, _, _, .cons r t, s => .cons r (Vals.append t s)
theorem Vals.take : ∀ {xs : List V} {us : List Value} (n : Nat), Vals xs us → Vals (xs.take n) (us.take n)
  | _, _, 0, _ => .nil
  | _, _, _ + 1, .nil => .nil
  | _, _, n + 1, .cons r t => .cons r (Vals.take n t)
theorem Vals.drop : ∀ {xs : List V} {us : List Value} (n : Nat), Vals xs us → Vals (xs.drop n) (us.drop n)
  | _, _, 0, r => r
  | _, _, _ + 1, .nil => .nil
  | _, _, n + 1, .cons _ t => Vals.drop n t
theorem Vals.none_of : ∀ {xs : List V} {us : List Value} {i : Nat}, Vals xs us → xs[i]? = none → us[i]? = none := fun {xs us i} r e => by
  have h1 := r.length
  have h2 : xs.length ≤ i := List.getElem?_eq_none_iff.mp e
  exact List.getElem?_eq_none_iff.mpr (by omega)
def RelO : Option V → Option Value → Prop
  | some v, some u => RelV v u
  | none, none => True
  | _, _ => False
def KV {κ : Type} : List (κ × V) → List (κ × Value) → Prop := Paired fun (p : κ × V) (q : κ × Value) => p.1 = q.1 ∧ RelV p.2 q.2
/-- a key of a dict (00_mix): an int or a text -/
def kV : Key → V
  | .inl i => .int i
  | .inr x => .str x
/-- what stands at a tracked address -/
inductive HO where
  /-- a list -/
  | lst (xs : List V)
  /-- a tuple (never changes) -/
  | tup (xs : List V)
  /-- a dict whose keys are ints and texts; one whose keys are tuples of ints and texts (the empty one is both) -/
  | dK (kvs : List (Key × V)) | dT (kvs : List (List Key × V))
  /-- a set of ints: its members, its size -/
  | set (S : Int → Bool) (n : Nat)
  /-- an instance of the class at C, its dict at dx, its attributes -/
  | ins (C dx : Addr) (fs : List (Str × V))
  /-- the dict of the instance at x -/
  | own (x : Addr)
  /-- the dict of an exception -/
  | xd (fs : List (Str × V))
  /-- a bound method, f of x -/
  | met (f x : Addr)
  /-- a range object lo, lo + 1, .. below hi -/
  | rng (lo hi : Int)
  /-- a thing that is known to the object (the script; a dict while a loop walks it): read, never written while it is so -/
  | frz (o : Obj) (u : HO)
  /-- a code object's table -/
  | tbl (ps : Array Value)
  /-- any other thing, by what is true of its one object (a def of one's own: SetO a S n := HO.ext fun h => ..) -/
  | ext (φ : Heap → Prop)
abbrev Hp := Addr → Option HO
def upd (H : Hp) (a : Addr) (o : HO) : Hp := fun b => if b = a then some o else H b
theorem upd_same {H : Hp} {a : Addr} {o : HO} : upd H a o a = some o := by unfold upd; rw [if_pos rfl]
theorem upd_ne {H : Hp} {a b : Addr} {o : HO} (h : b ≠ a) : upd H a o b = H b := by unfold upd; rw [if_neg h]
theorem ne_of_none {H : Hp} {a b : Addr} {o : HO} (h : H a = some o) (h' : H b = none) : a ≠ b := by
  intro e; subst e; rw [h] at h'; cases h'
section
variable (P : Program) (w : World)
def ObjOk (H : Hp) (h : Heap) (a : Addr) : HO → Prop
  | .lst xs => xs.length ≤ sizeLine ∧ ∃ (its : List Value) (n : Nat), Vals xs its ∧ h.get? a = some { cls := .type "list", data := .seq its.toArray n }
  | .tup xs => xs.length ≤ sizeLine ∧ ∃ its : List Value, Vals xs its ∧ IsTup h a its.toArray
  | .dK kvs => kvs.length ≤ sizeLine ∧ (a == sysModules) = false ∧ ∃ vs, KV kvs vs ∧ h.DictOf (mixKind P w) a vs
  | .dT kvs => kvs.length ≤ sizeLine ∧ (a == sysModules) = false ∧ ∃ xs : List (List Key × Addr × Value),
      Paired (fun (p : List Key × V) (q : List Key × Addr × Value) => p.1 = q.1 ∧ H q.2.1 = some (.tup (p.1.map kV)) ∧ RelV p.2 q.2.2) kvs xs ∧
      ∃ o es ep, h.get? a = some o ∧ o.ExactDict ∧ o.data = .dict es ep ∧ es.toList = xs.map (entryOfKey (tupleKind (mixKind P w))) ∧ (xs.map (·.1)).Nodup
  | .set S n => h.SetOf (intKind P w) a S n
  | .ins C dx fs => H dx = some (.own a) ∧ fs.length ≤ 1000 ∧ dx ≠ a ∧ h.get? a = some (PySem.W.instObj C dx) ∧
      ∃ mA, h.Ns1 dx mA ∧ (∀ f, RelO (fs.lookup f) (mA f)) ∧ PySem.Within mA (fs.map (·.1))
  | .own _ => ∃ o, h.get? a = some o
  | .xd fs => ∃ mA, h.Ns1 a mA ∧ ∀ f, RelO (fs.lookup f) (mA f)
  | .rng lo hi => ∃ t u v, h.get? a = some { cls := .type "range", data := .fields #[.int lo t, .int hi u, .int 1 v] }
  | .frz o u => h.get? a = some o ∧ ObjOk H h a u
  | .tbl ps => h.get? a = some { cls := .none, data := .fields ps }
  | .met f x => h.get? a = some (PySem.W.methodObj (.ref f) (.ref x))
  | .ext φ => φ h ∧ (∃ o, h.get? a = some o) ∧ ∀ h1 h2 : Heap, φ h1 → (∀ o, h1.get? a = some o → h2.get? a = some o) → φ h2
/-- the abstract heap is held -/
def HOk (H : Hp) (h : Heap) : Prop := ∀ a o, H a = some o → ObjOk P w H h a o
end
section
variable {P : Program} {w : World} {H H' : Hp} {h h' : Heap} {a : Addr} {o : HO}
theorem ObjOk.lt (x : ObjOk P w H h a o) : a < h.objs.size := by
  cases o with
  | lst xs => obtain ⟨_, _, _, _, e⟩ := x; exact Heap.lt_size e
  | tup xs => obtain ⟨_, _, _, p⟩ := x; exact p.lt
  | dK kvs => obtain ⟨_, _, _, _, o, _, _, e, _⟩ := x; exact Heap.lt_size e
  | dT kvs => obtain ⟨_, _, _, _, o, _, _, e, _⟩ := x; exact Heap.lt_size e
  | set S n => obtain ⟨o, _, _, _, e, _⟩ := x; exact Heap.lt_size e
  | ins C dx fs => obtain ⟨_, _, _, e, _⟩ := x; exact Heap.lt_size e
  | own y => obtain ⟨_, e⟩ := x; exact Heap.lt_size e
  | xd fs => obtain ⟨_, ⟨_, _, _, e, _⟩, _⟩ := x; exact Heap.lt_size e
  | rng lo hi => obtain ⟨_, _, _, e⟩ := x; exact Heap.lt_size e
  | frz ob u => obtain ⟨e, _⟩ := x; exact Heap.lt_size e
  | tbl ps => exact Heap.lt_size (show h.get? a = some _ from x)
  | met f y => exact Heap.lt_size (show h.get? a = some _ from x)
  | ext φ => obtain ⟨_, ⟨_, e⟩, _⟩ := x; exact Heap.lt_size e
theorem Paired.mapP {α β : Type} {F G : α → β → Prop} : ∀ {l₁ : List α} {l₂ : List β}, Paired F l₁ l₂ → (∀ a b, F a b → G a b) → Paired G l₁ l₂
  | _, _, .nil, _ => .nil
  | _, _, .cons r t, f => .cons (f _ _ r) (Paired.mapP t f)
/-- what an object's description leans on: its own object, its own dict, the tuples -/
theorem ObjOk.stay (x : ObjOk P w H h a o) (k : ∀ b u, (b = a ∨ H b = some (.own a)) → h.get? b = some u → h'.get? b = some u)
    (ho : ∀ b, H b = some (.own a) → H' b = some (.own a)) (ht : ∀ b xs, H b = some (.tup xs) → H' b = some (.tup xs)) : ObjOk P w H' h' a o := by
  induction o with
  | lst xs => obtain ⟨z, its, n, r, e⟩ := x; exact ⟨z, its, n, r, k _ _ (.inl rfl) e⟩
  | tup xs => obtain ⟨z, its, r, ob, e, c⟩ := x; exact ⟨z, its, r, ob, k _ _ (.inl rfl) e, c⟩
  | dK kvs => obtain ⟨z, y, vs, r, ob, es, ep, e, c⟩ := x; exact ⟨z, y, vs, r, ob, es, ep, k _ _ (.inl rfl) e, c⟩
  | dT kvs =>
    obtain ⟨z, y, xs, r, ob, es, ep, e, c⟩ := x
    exact ⟨z, y, xs, Paired.mapP r fun p q z => ⟨z.1, ht _ _ z.2.1, z.2.2⟩, ob, es, ep, k _ _ (.inl rfl) e, c⟩
  | set S n => obtain ⟨ob, es, ep, t, e, c⟩ := x; exact ⟨ob, es, ep, t, k _ _ (.inl rfl) e, c⟩
  | ins C dx fs =>
    obtain ⟨d, z, ne, e, mA, ⟨od, es, ep, e2, c⟩, r⟩ := x
    exact ⟨ho _ d, z, ne, k _ _ (.inl rfl) e, mA, ⟨od, es, ep, k _ _ (.inr d) e2, c⟩, r⟩
  | own y => obtain ⟨ob, e⟩ := x; exact ⟨ob, k _ _ (.inl rfl) e⟩
  | xd fs => obtain ⟨mA, ⟨od, es, ep, e, c⟩, r⟩ := x; exact ⟨mA, ⟨od, es, ep, k _ _ (.inl rfl) e, c⟩, r⟩
  | rng lo hi => obtain ⟨t, u, v, e⟩ := x; exact ⟨t, u, v, k _ _ (.inl rfl) e⟩
  | frz ob u ih => obtain ⟨e, q⟩ := x; exact ⟨k _ _ (.inl rfl) e, ih q⟩
  | tbl ps =>
    have e : h.get? a = some { cls := .none, data := .fields ps } := x
    show h'.get? a = some { cls := .none, data := .fields ps }
    exact k a _ (.inl rfl) e
  | met f y =>
    have e : h.get? a = some (PySem.W.methodObj (.ref f) (.ref y)) := x
    show h'.get? a = some (PySem.W.methodObj (.ref f) (.ref y))
    exact k a _ (.inl rfl) e
  | ext φ => obtain ⟨p, ⟨o, e⟩, st⟩ := x; exact ⟨st _ _ p fun o q => k _ _ (.inl rfl) q, ⟨o, k _ _ (.inl rfl) e⟩, st⟩
theorem HOk.lt (x : HOk P w H h) (e : H a = some o) : a < h.objs.size := (x a o e).lt
theorem HOk.fresh (x : HOk P w H h) (e : h.objs.size ≤ a) : H a = none := by
  cases q : H a with
  | none => rfl
  | some u => exact absurd (Nat.lt_of_lt_of_le (x.lt q) e) (Nat.lt_irrefl _)
/-- every object of the heap is kept -/
theorem HOk.kept (x : HOk P w H h) (k : ∀ b u, h.get? b = some u → h'.get? b = some u) : HOk P w H h' := fun a o e =>
  (x a o e).stay (fun b u _ q => k b u q) (fun _ q => q) fun _ _ q => q
/-- a new object is laid and tracked -/
theorem HOk.laid (x : HOk P w H h) (k : ∀ b u, h.get? b = some u → h'.get? b = some u) (hp : h.objs.size ≤ a) (new : ObjOk P w (upd H a o) h' a o) : HOk P w (upd H a o) h' := fun b u e => by
  have hn := x.fresh hp
  by_cases hb : b = a
  · subst hb; rw [upd_same] at e; cases e; exact new
  · rw [upd_ne hb] at e
    exact (x b u e).stay (fun c v _ q => k c v q) (fun c q => by rw [upd_ne (ne_of_none q hn)]; exact q) fun c xs q => by rw [upd_ne (ne_of_none q hn)]; exact q
end
/-- what may be read as u: it is u, or a known u -/
def Rd (H : Hp) (a : Addr) (u : HO) : Prop := H a = some u ∨ ∃ o, H a = some (.frz o u)
theorem Rd.of {H : Hp} {a : Addr} {u : HO} (h : H a = some u) : Rd H a u := .inl h
theorem Rd.ok {P : Program} {w : World} {H : Hp} {h : Heap} {a : Addr} {u : HO} (r : Rd H a u) (x : HOk P w H h) : ObjOk P w H h a u := by
  rcases r with r | ⟨o, r⟩
  · exact x a u r
  · obtain ⟨_, q⟩ := x a _ r
    exact q
/-- what may be written -/
def Mut : Option HO → Prop
  | some (.lst _) => True
  | some (.dK _) => True
  | some (.dT _) => True
  | some (.set _ _) => True
  | some (.ins _ _ _) => True
  | some (.ext _) => True
  | _ => False
section
variable {P : Program} {w : World} {H : Hp} {h h' : Heap} {x e : Addr} {o' : HO}
/-- the object at e is changed: x itself, or the dict of the instance x -/
theorem HOk.write (ok : HOk P w H h) (mu : Mut (H x)) (he : e = x ∨ H e = some (.own x)) (k : ∀ b u, b ≠ e → h.get? b = some u → h'.get? b = some u) (heo : ∃ u, h'.get? e = some u)
    (new : ObjOk P w (upd H x o') h' x o') : HOk P w (upd H x o') h' := fun b u q => by
  have nown : ∀ c y, H c = some (.own y) → c ≠ x := fun c y r z => by subst z; rw [r] at mu; exact mu
  have ntup : ∀ c xs, H c = some (.tup xs) → c ≠ x := fun c xs r z => by subst z; rw [r] at mu; exact mu
  by_cases hb : b = x
  · subst hb; rw [upd_same] at q; cases q; exact new
  · rw [upd_ne hb] at q
    by_cases hbe : b = e
    · have q' : H b = some (.own x) := by
        rcases he with z | z
        · exact absurd (hbe.trans z) hb
        · rw [hbe]; exact z
      rw [q] at q'; cases q'
      obtain ⟨v, hv⟩ := heo
      exact ⟨v, by rw [hbe]; exact hv⟩
    · refine (ok b u q).stay (fun c v hc r => k c v ?_ r) (fun c r => by rw [upd_ne (nown c b r)]; exact r) fun c xs r => by rw [upd_ne (ntup c xs r)]; exact r
      rcases hc with rfl | hc
      · exact hbe
      · rintro rfl
        rcases he with z | z
        · exact nown c b hc z
        · rw [hc] at z; cases z; exact hb rfl
end
structure Un (fs ex : List Addr) (H H' : Hp) (h h' : Heap) : Prop where
  keep : ∀ b o, h.get? b = some o → H b = none → b ∉ fs → b ∉ ex → h'.get? b = some o
  slot : ∀ b o, h.get? b = some o → H b = none → b ∈ fs → b ∉ ex → ∃ sl, h'.get? b = some { o with slots := sl }
  free : ∀ b o, h.get? b = some o → H b = none → b ∉ ex → H' b = none
  there : ∀ b o, h.get? b = some o → b ∉ ex → ∃ o', h'.get? b = some o'
  tups : ∀ b xs, H b = some (.tup xs) → H' b = some (.tup xs)
  frzs : ∀ b o u, H b = some (.frz o u) → H' b = some (.frz o u)
  tbls : ∀ b ps, H b = some (.tbl ps) → ∃ more, H' b = some (.tbl (ps ++ more))
section
variable {fs fs' ex ex' : List Addr} {H H1 H2 : Hp} {h h1 h2 h' : Heap} {a x e : Addr} {o : HO}
theorem Un.any (u : Un fs ex H H1 h h1) {b : Addr} {ob : Obj} (q : h.get? b = some ob) (n : H b = none) (hx : b ∉ ex) : ∃ sl, h1.get? b = some { ob with slots := sl } := by
  by_cases hb : b ∈ fs
  · exact u.slot b ob q n hb hx
  · exact ⟨ob.slots, u.keep b ob q n hb hx⟩
theorem Un.trans (a : Un fs ex H H1 h h1) (b : Un fs ex H1 H2 h1 h2) : Un fs ex H H2 h h2 where
  keep := fun c ob q n hc hx => b.keep c ob (a.keep c ob q n hc hx) (a.free c ob q n hx) hc hx
  slot := fun c ob q n hc hx => by
    obtain ⟨sl, e1⟩ := a.slot c ob q n hc hx
    obtain ⟨sl', e2⟩ := b.slot c _ e1 (a.free c ob q n hx) hc hx
    exact ⟨sl', e2⟩
  free := fun c ob q n hx => by
    obtain ⟨o', e1⟩ := a.there c ob q hx
    exact b.free c o' e1 (a.free c ob q n hx) hx
  there := fun c ob q hx => by
    obtain ⟨o', e1⟩ := a.there c ob q hx
    exact b.there c o' e1 hx
  tups := fun c xs q => b.tups c xs (a.tups c xs q)
  frzs := fun c ob xs q => b.frzs c ob xs (a.frzs c ob xs q)
  tbls := fun c ps q => by
    obtain ⟨m1, e1⟩ := a.tbls c ps q
    obtain ⟨m2, e2⟩ := b.tbls c _ e1
    exact ⟨m1 ++ m2, by rw [e2, Array.append_assoc]⟩
theorem Un.kept (k : ∀ b u, h.get? b = some u → h'.get? b = some u) : Un fs ex H H h h' :=
  ⟨fun b ob q _ _ _ => k b ob q, fun b ob q _ _ _ => ⟨ob.slots, k b ob q⟩, fun _ _ _ n _ => n, fun b ob q _ => ⟨ob, k b ob q⟩, fun _ _ q => q, fun _ _ _ q => q, fun _ ps q => ⟨#[], by rw [q]; simp⟩⟩
theorem Un.refl : Un fs ex H H h h := Un.kept fun _ _ q => q
theorem Un.laid (k : ∀ b u, h.get? b = some u → h'.get? b = some u) (hp : h.objs.size ≤ a) (hn : H a = none) : Un fs ex H (upd H a o) h h' where
  keep := fun b u q _ _ _ => k b u q
  slot := fun b u q _ _ _ => ⟨u.slots, k b u q⟩
  free := fun b u q n _ => by rw [upd_ne (Nat.ne_of_lt (Nat.lt_of_lt_of_le (Heap.lt_size q) hp))]; exact n
  there := fun b u q _ => ⟨u, k b u q⟩
  tups := fun b xs q => by rw [upd_ne (ne_of_none q hn)]; exact q
  frzs := fun b u xs q => by rw [upd_ne (ne_of_none q hn)]; exact q
  tbls := fun b ps q => ⟨#[], by rw [upd_ne (ne_of_none q hn), q]; simp⟩
theorem Un.write (mu : Mut (H x)) (he : e = x ∨ H e = some (.own x)) (k : ∀ b u, b ≠ e → h.get? b = some u → h'.get? b = some u) (heo : ∃ u, h'.get? e = some u) : Un fs ex H (upd H x o) h h' := by
  have hx : ∀ b, H b = none → b ≠ x := fun b n z => by subst z; rw [n] at mu; exact mu
  have hb : ∀ b, H b = none → b ≠ e := fun b n z => by
    subst z
    rcases he with r | r
    · exact hx b n r
    · rw [n] at r; cases r
  have hm : ∀ b u, H b = some u → ¬ Mut (some u) → b ≠ x := fun b u q nm z => by subst z; rw [q] at mu; exact nm mu
  refine ⟨fun b u q n _ _ => k b u (hb b n) q, fun b u q n _ _ => ⟨u.slots, k b u (hb b n) q⟩, fun b u q n _ => by rw [upd_ne (hx b n)]; exact n, fun b u q _ => ?_,
    fun b xs q => by rw [upd_ne (hm b _ q fun z => z)]; exact q, fun b u xs q => by rw [upd_ne (hm b _ q fun z => z)]; exact q, fun b ps q => ⟨#[], by rw [upd_ne (hm b _ q fun z => z), q]; simp⟩⟩
  by_cases hbe : b = e
  · subst hbe; exact heo
  · exact ⟨u, k b u hbe q⟩
theorem Un.mono (u : Un fs ex H H1 h h1) (hs : ∀ b ∈ fs, b ∈ fs') (hx : ∀ b ∈ ex, b ∈ ex') : Un fs' ex' H H1 h h1 :=
  ⟨fun b ob q n hb he => u.keep b ob q n (fun z => hb (hs b z)) fun z => he (hx b z), fun _ _ q n _ he => u.any q n fun z => he (hx _ z), fun b ob q n he => u.free b ob q n fun z => he (hx b z), fun b ob q he => u.there b ob q fun z => he (hx b z), u.tups, u.frzs, u.tbls⟩
end
def trk (h : Heap) (H : Hp) : List Addr := (List.range h.objs.size).filter fun a => (H a).isSome
def hidT (h : Heap) (H : Hp) : Heap := PySem.W.hideAll h (trk h H)
theorem hidT_size (h : Heap) (H : Hp) : (hidT h H).objs.size = h.objs.size := PySem.W.hideAll_size _ _
theorem hidT_get {h : Heap} {H : Hp} {b : Addr} {o : Obj} (e : h.get? b = some o) (n : H b = none) : (hidT h H).get? b = some o :=
  PySem.W.hideAll_get _ e fun hm => by
    have q : (H b).isSome = true := (List.mem_filter.mp hm).2
    rw [n] at q; simp at q
theorem of_hidT {h : Heap} {H : Hp} {b : Addr} {o : Obj} (e : (hidT h H).get? b = some o) : h.get? b = some o ∧ H b = none := by
  have e' : h.get? b = some o := PySem.W.of_hideAll (trk h H) e
  refine ⟨e', ?_⟩
  cases q : H b with
  | none => rfl
  | some x =>
    have hm : b ∈ trk h H := List.mem_filter.mpr ⟨List.mem_range.mpr (Heap.lt_size e'), by simp [q]⟩
    have z : (hidT h H).get? b = none := PySem.W.hideAll_none (trk h H) hm
    rw [z] at e; cases e
def allNews (g h : Heap) (L : Addr) : List (Addr × Obj) := (List.range h.objs.size).filterMap fun a => if a = L ∨ (g.get? a).isSome = true then none else (h.get? a).map fun o => (a, o)
def rest (g h : Heap) (L d : Addr) : List (Addr × Obj) := (allNews g h L).filter fun p => decide (p.1 ≠ d)
end L2
namespace L2
open PySem PySem.Spec PyProof.Rows
/-- the module's facts, over the base: the heap at the law's entry without what is tracked there -/
structure Mod (K : PySem.W.Frag) (mg : Str → Option Value) (base : Heap) : Prop where
  kin : K.In base
  glob : base.Ns mainGlobals mg
  blt : ∃ mb, base.Ns builtinsNs mb ∧ ∀ x : Str, x ≠ "__name__" → mb x = bootBuiltins x
  nolimit : base.NoLimit
/-- the context: a def's body (or a comprehension's block) running. base: fixed through the whole law; s₀, H₀: the entry; outer: the frames whose slots others may change (a def's callers); stack: all frames that run;
   ex: iterators that were made ahead of the entry and are walked here (a comprehension's); fn: the names whose cells were made at the entry (a def: all; a comprehension's block: its own); calm: not within an except suite; pn: pins that every state bears; xe: what is wanted of an exception that leaves the code -/
structure Cx where
  prog : Program
  w : World
  K : PySem.W.Frag
  mg : Str → Option Value
  base : Heap
  A : Around
  N : List Str
  s_0 : Shared
  H_0 : Hp
  env : Env
  outer : List Env
  stack : List Env
  ex : List Addr
  fn : Str → Bool
  calm : Bool
  pn : List (Addr × Obj)
  xe : Value → Shared → Prop
/-- the callers' frames -/
def frs (l : List Env) : List Addr := l.filterMap (·.frame)
abbrev Cx.fs (X : Cx) : List Addr := frs X.outer
def Vis (sc : Scope) (x : Str) : Prop := sc.names.lookup x = some .local ∨ sc.names.lookup x = some .cell ∨ sc.names.lookup x = some .free
def Loc (sc : Scope) (x : Str) : Prop := sc.names.lookup x = some .local ∨ sc.names.lookup x = some .cell
def Look (env : Env) (h : Heap) (m : Str → Option Value) (x : Str) (u : Value) : Prop :=
  (env.kindOf x = some .local ∧ m x = some u) ∨ ((env.kindOf x = some .cell ∨ env.kindOf x = some .free) ∧ ∃ c, env.cells.lookup x = some c ∧ h.IsCell c (some u))
structure Cx.Ok (X : Cx) : Prop where
  mod : Mod X.K X.mg X.base
  kind : X.env.scope.kind = .function
  glob : X.env.globals = mainGlobals
  blt : X.env.builtins = builtinsNs
  above : X.s_0.heap.objs.size ≤ X.env.locals
  inj : ∀ x y c, X.env.cells.lookup x = some c → X.env.cells.lookup y = some c → x = y
  has : ∀ x, (X.env.kindOf x = some .cell ∨ X.env.kindOf x = some .free) → ∃ c, X.env.cells.lookup x = some c
  cab : ∀ x c, X.fn x = true → X.env.cells.lookup x = some c → X.s_0.heap.objs.size ≤ c
  hd : X.calm = true → X.A.handled = none
  frames : X.A.frames = some X.stack
  stk : X.stack = X.outer ∨ (X.stack = X.env :: X.outer ∧ X.env.frame = some X.env.locals)
  exf : ∀ b ∈ X.ex, b ≠ X.env.locals ∧ ∀ x c, X.env.cells.lookup x = some c → c ≠ b
  bs : ∀ b o, X.base.get? b = some o → X.s_0.heap.get? b = some o ∧ X.H_0 b = none
  bsz : X.base.objs.size ≤ X.s_0.heap.objs.size
  noex : ∀ b o, X.base.get? b = some o → b ∉ X.ex
  exfs : ∀ b ∈ X.ex, b ∉ X.fs
  funs : X.s_0.heap.FunFrames X.base X.outer
  frf : ∀ b ∈ X.fs, X.H_0 b = none
structure Inv (X : Cx) (pins : List (Addr × Obj)) (σ : List (Option V)) (H : Hp) (s : Shared) : Prop where
  ok : X.Ok
  os : s.os = X.s_0.os
  bare : AllBare s.gens
  base : Un X.fs X.ex X.H_0 H X.s_0.heap s.heap
  loc : ∃ m, s.heap.Ns X.env.locals m ∧ ∀ (i : Nat) (x : Str) (v : V), X.N[i]? = some x → σ[i]? = some (some v) → Vis X.env.scope x → ∃ u, RelV v u ∧ Look X.env s.heap m x u
  cell : ∀ x c, X.env.cells.lookup x = some c → ∃ v, s.heap.IsCell c v
  free : H X.env.locals = none
  freeC : ∀ x c, X.env.cells.lookup x = some c → H c = none
  pin : ∀ p ∈ X.pn ++ pins, s.heap.get? p.1 = some p.2 ∧ H p.1 = none ∧ p.1 ≠ X.env.locals ∧ p.1 ∉ X.fs ∧ ∀ v, p.2.data ≠ .cell v
  hok : HOk X.prog X.w H s.heap
  len : σ.length = X.N.length
section
variable {X : Cx} {pins : List (Addr × Obj)} {σ : List (Option V)} {H H' : Hp} {s : Shared} {h' : Heap}
theorem Cx.Ok.nofr (ok : X.Ok) {b : Addr} {o : Obj} (e : X.base.get? b = some o) : b ∉ X.fs := fun hb => by
  have := (ok.funs.mem hb).1
  rw [e] at this; cases this
theorem Inv.bs (I : Inv X pins σ H s) : ∀ b o, X.base.get? b = some o → s.heap.get? b = some o ∧ H b = none := fun b o e =>
  ⟨I.base.keep b o (I.ok.bs b o e).1 (I.ok.bs b o e).2 (I.ok.nofr e) (I.ok.noex b o e), I.base.free b o (I.ok.bs b o e).1 (I.ok.bs b o e).2 (I.ok.noex b o e)⟩
theorem Inv.bk (I : Inv X pins σ H s) : ∀ b o, X.base.get? b = some o → s.heap.get? b = some o := fun b o e => (I.bs b o e).1
theorem Inv.mod (I : Inv X pins σ H s) : Mod X.K X.mg X.base := I.ok.mod
theorem Inv.kIn (I : Inv X pins σ H s) : X.K.In s.heap := I.ok.mod.kin.keeps I.bk
theorem Inv.nolimit (I : Inv X pins σ H s) : s.heap.NoLimit := I.ok.mod.nolimit.keeps I.bk
theorem Inv.lt (I : Inv X pins σ H s) : X.env.locals < s.heap.objs.size := let ⟨_, hn, _⟩ := I.loc; hn.lt
theorem Inv.sz (I : Inv X pins σ H s) : X.s_0.heap.objs.size ≤ s.heap.objs.size := Nat.le_trans I.ok.above (Nat.le_of_lt I.lt)
theorem Inv.nofs (I : Inv X pins σ H s) {a : Addr} (h : s.heap.objs.size ≤ a) : a ∉ X.fs := fun hb => by
  obtain ⟨_, o, ho, _⟩ := I.ok.funs.mem hb
  exact absurd (Nat.lt_of_lt_of_le (Heap.lt_size ho) (Nat.le_trans I.sz h)) (Nat.lt_irrefl _)
theorem Inv.cne (I : Inv X pins σ H s) : ∀ x c, X.env.cells.lookup x = some c → c ≠ X.env.locals := fun x c e z => by
  obtain ⟨v, o, ho, hd⟩ := I.cell x c e
  obtain ⟨m, ⟨o', es, ep, ho', hd', _⟩, _⟩ := I.loc
  rw [z, ho'] at ho; cases ho; rw [hd'] at hd; cases hd
theorem Inv.funs (I : Inv X pins σ H s) : s.heap.FunFrames X.base X.outer := by
  have all : ∀ (l : List Env), (∀ b ∈ frs l, b ∈ X.fs) → X.s_0.heap.FunFrames X.base l → s.heap.FunFrames X.base l := by
    intro l
    induction l with
    | nil => intro _ _; trivial
    | cons env r ih =>
      intro hs hl
      obtain ⟨hk, ⟨L, o, hf, hn, ho, hd⟩, hr⟩ := hl
      have hL : L ∈ X.fs := hs L (by unfold frs; rw [List.filterMap_cons, hf]; exact List.mem_cons_self)
      obtain ⟨sl, e⟩ := I.base.slot L o ho (I.ok.frf L hL) hL fun z => I.ok.exfs L z hL
      exact ⟨hk, ⟨L, _, hf, hn, e, hd⟩, ih (fun b hb => hs b (by unfold frs; rw [List.filterMap_cons, hf]; exact List.mem_cons_of_mem _ hb)) hr⟩
  exact all X.outer (fun _ hb => hb) I.ok.funs
/-- the frames that run, for a call -/
theorem Inv.stack (I : Inv X pins σ H s) : s.heap.FunFrames X.base X.stack := by
  rcases I.ok.stk with e | ⟨e, hf⟩
  · rw [e]; exact I.funs
  · rw [e]
    obtain ⟨m, hn, _⟩ := I.loc
    refine .cons (by rw [I.ok.kind]; decide) hf hn ?_ I.funs
    exact Heap.get?_none_of_le (Nat.le_trans I.ok.bsz I.ok.above)
theorem Inv.stkSub (I : Inv X pins σ H s) : ∀ b ∈ frs X.stack, b ∈ X.env.locals :: X.fs := fun b hb => by
  rcases I.ok.stk with e | ⟨e, hf⟩
  · rw [e] at hb; exact List.mem_cons_of_mem _ hb
  · rw [e] at hb
    unfold frs at hb
    rw [List.filterMap_cons, hf] at hb
    exact hb
theorem Inv.stkFree (I : Inv X pins σ H s) : ∀ b ∈ frs X.stack, H b = none := fun b hb => by
  rcases List.mem_cons.mp (I.stkSub b hb) with e | hb
  · rw [e]; exact I.free
  · obtain ⟨_, o, ho, _⟩ := I.ok.funs.mem hb
    exact I.base.free b o ho (I.ok.frf b hb) fun z => I.ok.exfs b z hb
/-- THE STEP: the untracked objects but the frame and the records at ch are kept (the callers' frames up to slots), the frame's map is kept, the new abstract heap is held -/
theorem Inv.step {g' : Array GenState} {t' : Nat} {d' : Drawn} {ch : List Addr} (I : Inv X pins σ H s)
    (hch : ∀ b ∈ ch, (b ∈ X.ex ∨ X.s_0.heap.objs.size ≤ b) ∧ b ≠ X.env.locals ∧ (∀ x c, X.env.cells.lookup x = some c → c ≠ b) ∧ ∀ p ∈ X.pn ++ pins, p.1 ≠ b)
    (keep : ∀ b o, b ≠ X.env.locals → b ∉ X.fs → b ∉ ch → s.heap.get? b = some o → H b = none → h'.get? b = some o)
    (slot : ∀ b o, b ≠ X.env.locals → b ∈ X.fs → b ∉ ch → s.heap.get? b = some o → H b = none → ∃ sl, h'.get? b = some { o with slots := sl }) (free : ∀ b o, b ∉ ch → s.heap.get? b = some o → H b = none → H' b = none)
    (there : ∀ b o, b ∉ ch → s.heap.get? b = some o → ∃ o', h'.get? b = some o')
    (tups : ∀ b xs, H b = some (.tup xs) → H' b = some (.tup xs)) (frzs : ∀ b o u, H b = some (.frz o u) → H' b = some (.frz o u)) (tbls : ∀ b ps, H b = some (.tbl ps) → ∃ more, H' b = some (.tbl (ps ++ more)))
    (ns : ∀ m, s.heap.Ns X.env.locals m → h'.Ns X.env.locals m) (hok : HOk X.prog X.w H' h') (hg : AllBare g') :
    Inv X pins σ H' { s with heap := h', gens := g', drawn := d', toks := t' } := by
  have neL : ∀ b o, X.s_0.heap.get? b = some o → b ≠ X.env.locals := fun b o e => Nat.ne_of_lt (Nat.lt_of_lt_of_le (Heap.lt_size e) I.ok.above)
  have neC : ∀ b o, X.s_0.heap.get? b = some o → b ∉ X.ex → b ∉ ch := fun b o e hx hb => by
    rcases (hch b hb).1 with z | z
    · exact hx z
    · exact absurd (Nat.lt_of_lt_of_le (Heap.lt_size e) z) (Nat.lt_irrefl _)
  have cellK : ∀ x c, X.env.cells.lookup x = some c → ∀ v, s.heap.IsCell c v → h'.IsCell c v := fun x c e v ⟨o, ho, hd⟩ => by
    have nch : c ∉ ch := fun z => (hch c z).2.2.1 x c e rfl
    by_cases hc : c ∈ X.fs
    · obtain ⟨sl, q⟩ := slot c o (I.cne x c e) hc nch ho (I.freeC x c e)
      exact ⟨_, q, hd⟩
    · exact ⟨o, keep c o (I.cne x c e) hc nch ho (I.freeC x c e), hd⟩
  refine ⟨I.ok, I.os, hg, ⟨fun b o e n hb hx => ?_, fun b o e n hb hx => ?_, fun b o e n hx => ?_, fun b o e hx => ?_, fun b xs e => tups b xs (I.base.tups b xs e), fun b o xs e => frzs b o xs (I.base.frzs b o xs e), fun b ps e => ?_⟩, ?_, fun x c e => ?_, ?_, fun x c e => ?_, fun p hp => ?_, hok, I.len⟩
  · exact keep b o (neL b o e) hb (neC b o e hx) (I.base.keep b o e n hb hx) (I.base.free b o e n hx)
  · obtain ⟨sl, e1⟩ := I.base.slot b o e n hb hx
    obtain ⟨sl', e2⟩ := slot b _ (neL b o e) hb (neC b o e hx) e1 (I.base.free b o e n hx)
    exact ⟨sl', e2⟩
  · obtain ⟨o', e1⟩ := I.base.there b o e hx
    exact free b o' (neC b o e hx) e1 (I.base.free b o e n hx)
  · obtain ⟨o', e1⟩ := I.base.there b o e hx
    exact there b o' (neC b o e hx) e1
  · obtain ⟨m1, e1⟩ := I.base.tbls b ps e
    obtain ⟨m2, e2⟩ := tbls b _ e1
    exact ⟨m1 ++ m2, by rw [e2, Array.append_assoc]⟩
  · obtain ⟨m, hn, hl⟩ := I.loc
    refine ⟨m, ns m hn, fun i x v e1 e2 e3 => ?_⟩
    obtain ⟨u, r, l⟩ := hl i x v e1 e2 e3
    refine ⟨u, r, ?_⟩
    rcases l with l | ⟨k, c, e, z⟩
    · exact .inl l
    · exact .inr ⟨k, c, e, cellK x c e _ z⟩
  · obtain ⟨v, z⟩ := I.cell x c e
    exact ⟨v, cellK x c e v z⟩
  · obtain ⟨m, ⟨o, _, _, ho, _⟩, _⟩ := I.loc
    exact free _ o (fun z => (hch _ z).2.1 rfl) ho I.free
  · obtain ⟨v, o, ho, hd⟩ := I.cell x c e
    exact free c o (fun z => (hch c z).2.2.1 x c e rfl) ho (I.freeC x c e)
  · obtain ⟨e, n, ne, nf, d⟩ := I.pin p hp
    have nch : p.1 ∉ ch := fun z => (hch p.1 z).2.2.2 p hp rfl
    exact ⟨keep p.1 p.2 ne nf nch e n, free p.1 p.2 nch e n, ne, nf, d⟩
/-- .. where the frame's own object is kept too -/
theorem Inv.un {t' : Nat} (I : Inv X pins σ H s) (u : Un X.fs [] H H' s.heap h') (hok : HOk X.prog X.w H' h') : Inv X pins σ H' { s with heap := h', toks := t' } := by
  obtain ⟨m, ⟨o, es, ep, ho, r⟩, _⟩ := id I.loc
  obtain ⟨sl, hL⟩ := u.any ho I.free (by simp)
  exact I.step (g' := s.gens) (d' := s.drawn) (ch := []) (fun _ z => nomatch z) (fun b o _ hb _ e n => u.keep b o e n hb (by simp)) (fun b o _ hb _ e n => u.slot b o e n hb (by simp)) (fun b o _ e n => u.free b o e n (by simp)) (fun b o _ e => u.there b o e (by simp)) u.tups u.frzs u.tbls (fun m' hm => by
    obtain ⟨o', es', ep', ho', r'⟩ := hm
    rw [ho] at ho'; cases ho'
    exact ⟨_, es', ep', hL, r'⟩) hok I.bare
/-- behind a call (or a comprehension's block): the slots of this frame may have changed too, the records at ch may have turned -/
theorem Inv.call {g' : Array GenState} {t' : Nat} {d' : Drawn} {ch : List Addr} (I : Inv X pins σ H s) (u : Un (frs X.stack) ch H H' s.heap h') (hok : HOk X.prog X.w H' h') (hg : AllBare g')
    (hch : ∀ b ∈ ch, (b ∈ X.ex ∨ X.s_0.heap.objs.size ≤ b) ∧ b ≠ X.env.locals ∧ (∀ x c, X.env.cells.lookup x = some c → c ≠ b) ∧ ∀ p ∈ X.pn ++ pins, p.1 ≠ b) :
    Inv X pins σ H' { s with heap := h', gens := g', drawn := d', toks := t' } := by
  obtain ⟨m, ⟨o, es, ep, ho, r⟩, _⟩ := id I.loc
  obtain ⟨sl, hL⟩ := u.any ho I.free fun z => (hch _ z).2.1 rfl
  exact I.step (ch := ch) hch (fun b o hL hb hc e n => u.keep b o e n (fun z => (List.mem_cons.mp (I.stkSub b z)).elim hL hb) hc) (fun b o _ _ hc e n => u.any e n hc) (fun b o hc e n => u.free b o e n hc) (fun b o hc e => u.there b o e hc) u.tups u.frzs u.tbls (fun m' hm => by
    obtain ⟨o', es', ep', ho', r'⟩ := hm
    rw [ho] at ho'; cases ho'
    exact ⟨_, es', ep', hL, r'⟩) hok hg
/-- an untracked record of ours (an iterator) has turned -/
theorem Inv.turned {t' : Nat} {it : Addr} (I : Inv X pins σ H s) (k : ∀ b o, b ≠ it → s.heap.get? b = some o → h'.get? b = some o) (hn : H it = none) (hL : it ≠ X.env.locals)
    (h1 : it ∈ X.ex ∨ X.s_0.heap.objs.size ≤ it) (h2 : ∀ x c, X.env.cells.lookup x = some c → c ≠ it) (h3 : ∀ p ∈ X.pn ++ pins, p.1 ≠ it) : Inv X pins σ H { s with heap := h', toks := t' } := by
  have nit : ∀ b u, H b = some u → b ≠ it := fun b u e z => by rw [z, hn] at e; cases e
  refine I.step (g' := s.gens) (d' := s.drawn) (ch := [it]) (fun b hb => ?_) (fun b o _ _ hc e _ => k b o (fun z => hc (by simp [z])) e) (fun b o _ _ hc e _ => ⟨o.slots, k b o (fun z => hc (by simp [z])) e⟩) (fun _ _ _ _ n => n)
    (fun b o hc e => ⟨o, k b o (fun z => hc (by simp [z])) e⟩) (fun _ _ e => e) (fun _ _ _ e => e) (fun b ps e => ⟨#[], by rw [e]; simp⟩) (fun m hm => ?_) (fun b u e => ?_) I.bare
  · have e : b = it := by simpa using hb
    subst e
    exact ⟨h1, hL, h2, h3⟩
  · obtain ⟨o, es, ep, ho, r⟩ := hm
    exact ⟨o, es, ep, k _ o (Ne.symm hL) ho, r⟩
  · refine (I.hok b u e).stay (fun c v hc q => k c v ?_ q) (fun _ q => q) fun _ _ q => q
    rcases hc with z | z
    · rw [z]; exact nit b u e
    · exact nit c _ z
theorem Inv.tok (I : Inv X pins σ H s) (t : Nat) : Inv X pins σ H { s with toks := t } := I.un (h' := s.heap) (t' := t) Un.refl I.hok
/-- all objects kept -/
theorem Inv.kept {t' : Nat} (I : Inv X pins σ H s) (k : ∀ b u, s.heap.get? b = some u → h'.get? b = some u) : Inv X pins σ H { s with heap := h', toks := t' } := I.un (Un.kept k) (I.hok.kept k)
/-- a new object laid and tracked -/
theorem Inv.laid {a : Addr} {o : HO} {t' : Nat} (I : Inv X pins σ H s) (k : ∀ b u, s.heap.get? b = some u → h'.get? b = some u) (hp : s.heap.objs.size ≤ a) (new : ObjOk X.prog X.w (upd H a o) h' a o) :
    Inv X pins σ (upd H a o) { s with heap := h', toks := t' } := I.un (Un.laid k hp (I.hok.fresh hp)) (I.hok.laid k hp new)
/-- an object written -/
theorem Inv.write {x e : Addr} {o : HO} {t' : Nat} (I : Inv X pins σ H s) (mu : Mut (H x)) (he : e = x ∨ H e = some (.own x)) (k : ∀ b u, b ≠ e → s.heap.get? b = some u → h'.get? b = some u) (heo : ∃ u, h'.get? e = some u)
    (new : ObjOk X.prog X.w (upd H x o) h' x o) : Inv X pins σ (upd H x o) { s with heap := h', toks := t' } := I.un (Un.write mu he k heo) (I.hok.write mu he k heo new)
/-- forgetting slots, pins -/
theorem Inv.weak {σ' : List (Option V)} (I : Inv X pins σ H s) (hl : σ'.length = σ.length) (w : ∀ (i : Nat) v, σ'[i]? = some (some v) → σ[i]? = some (some v)) : Inv X pins σ' H s :=
  ⟨I.ok, I.os, I.bare, I.base, let ⟨m, hn, hl'⟩ := I.loc; ⟨m, hn, fun i x v e1 e2 e3 => hl' i x v e1 (w i v e2) e3⟩, I.cell, I.free, I.freeC, I.pin, I.hok, hl.trans I.len⟩
theorem Inv.pins_of {pins' : List (Addr × Obj)} (I : Inv X pins σ H s) (h : ∀ p ∈ pins', s.heap.get? p.1 = some p.2 ∧ H p.1 = none ∧ p.1 ≠ X.env.locals ∧ p.1 ∉ X.fs ∧ ∀ v, p.2.data ≠ .cell v) : Inv X pins' σ H s :=
  ⟨I.ok, I.os, I.bare, I.base, I.loc, I.cell, I.free, I.freeC, fun p hp => (List.mem_append.mp hp).elim (fun z => I.pin p (List.mem_append_left _ z)) (h p), I.hok, I.len⟩
theorem nodup_ix {N : List Str} (hN : N.Nodup) {i j : Nat} {x : Str} (a : N[i]? = some x) (b : N[j]? = some x) : i = j := by
  obtain ⟨h1, e1⟩ := List.getElem?_eq_some_iff.mp a
  obtain ⟨h2, e2⟩ := List.getElem?_eq_some_iff.mp b
  exact (List.getElem_inj hN).mp (e1.trans e2.symm)
/-- a name is stored; what changed -/
theorem store_ok2 {M : Model} {A : Around} {E : Value → Shared → Prop} {i : Nat} {x : Str} {v : V} {u : Value} {Q : Unit → Shared → Prop} (I : Inv X pins σ H s) (hN : X.N.Nodup) (hi : X.N[i]? = some x) (hx : Loc X.env.scope x) (r : RelV v u)
    (h : ∀ s', Inv X pins (σ.set i (some v)) H s' → (∃ a, Heap.SameBut a s.heap s'.heap ∧ (a = X.env.locals ∨ X.env.cells.lookup x = some a)) → Q () s') (hf : X.fn x = true ∨ X.env.scope.names.lookup x = some .local := by first | exact .inl rfl | exact .inr rfl | assumption) : wpAny M A (storeName X.env x u) Q E s := by
  obtain ⟨m, hn, hl⟩ := id I.loc
  have hcls : (X.env.scope.kind == .class || (X.env.scope.kind == .module && X.env.locals != X.env.globals)) = false := by rw [I.ok.kind]; rfl
  have hiσ : i < σ.length := by rw [I.len]; exact (List.getElem?_eq_some_iff.mp hi).1
  have cne := I.cne
  have tracked : ∀ {a : Addr} {h' : Heap}, (∃ o, s.heap.get? a = some o ∧ H a = none) → Heap.SameBut a s.heap h' → HOk X.prog X.w H h' := fun {a h'} ha hs b ob e => by
    obtain ⟨_, _, hfree⟩ := ha
    refine (I.hok b ob e).stay (fun c w' hc q => (hs.2 c ?_).trans q) (fun _ q => q) fun _ _ q => q
    rintro rfl
    rcases hc with rfl | hc
    · rw [hfree] at e; cases e
    · rw [hfree] at hc; cases hc
  rcases hx with hk | hk
  · refine wpAny_storeName_local hk hn (fun h' hn' hs => ?_) hcls
    obtain ⟨oL, _, _, hoL, _⟩ := id hn
    refine h _ ⟨I.ok, I.os, I.bare, ⟨fun b o e n hb hx => ?_, fun b o e n hb hx => ?_, I.base.free, fun b o e hx => ?_, I.base.tups, I.base.frzs, I.base.tbls⟩, ⟨_, hn', fun j y v' e1 e2 e3 => ?_⟩, fun y c e => ?_, I.free, I.freeC, fun p hp => ?_, tracked ⟨oL, hoL, I.free⟩ hs, by simpa using I.len⟩ ⟨_, hs, .inl rfl⟩
    · exact (hs.2 b (Nat.ne_of_lt (Nat.lt_of_lt_of_le (Heap.lt_size e) I.ok.above))).trans (I.base.keep b o e n hb hx)
    · obtain ⟨sl, e1⟩ := I.base.slot b o e n hb hx
      exact ⟨sl, (hs.2 b (Nat.ne_of_lt (Nat.lt_of_lt_of_le (Heap.lt_size e) I.ok.above))).trans e1⟩
    · obtain ⟨o', e1⟩ := I.base.there b o e hx
      exact ⟨o', (hs.2 b (Nat.ne_of_lt (Nat.lt_of_lt_of_le (Heap.lt_size e) I.ok.above))).trans e1⟩
    · by_cases hj : j = i
      · subst hj
        rw [hi] at e1; cases e1
        rw [List.getElem?_set_self hiσ] at e2
        cases e2
        exact ⟨u, r, .inl ⟨hk, by simp⟩⟩
      · rw [List.getElem?_set_ne (Ne.symm hj)] at e2
        obtain ⟨u', r', q⟩ := hl j y v' e1 e2 e3
        refine ⟨u', r', ?_⟩
        rcases q with ⟨k, e⟩ | ⟨k, c, e, z⟩
        · refine .inl ⟨k, ?_⟩
          have : y ≠ x := fun e => hj (nodup_ix hN e1 (e ▸ hi))
          simp [this, e]
        · exact .inr ⟨k, c, e, z.sameBut hs (cne y c e)⟩
    · obtain ⟨w', z⟩ := I.cell y c e
      exact ⟨w', z.sameBut hs (cne y c e)⟩
    · obtain ⟨e, n, ne, nf, d⟩ := I.pin p hp
      exact ⟨(hs.2 p.1 ne).trans e, n, ne, nf, d⟩
  · have hfn : X.fn x = true := by
      rcases hf with z | z
      · exact z
      · rw [z] at hk; cases hk
    obtain ⟨c, hc⟩ := I.ok.has x (.inl hk)
    obtain ⟨w', z⟩ := I.cell x c hc
    refine wpAny_storeName_cell I.ok.kind hk hc z (fun h' hc' hs => ?_)
    obtain ⟨oc, hoc, hocd⟩ := id z
    refine h { s with heap := h' } ⟨I.ok, I.os, I.bare, ⟨fun b o e n hb hx => ?_, fun b o e n hb hx => ?_, I.base.free, fun b o e hx => ?_, I.base.tups, I.base.frzs, I.base.tbls⟩, ⟨m, hn.sameBut hs (Ne.symm (cne x c hc)), fun j y v' e1 e2 e3 => ?_⟩, fun y c' e => ?_, I.free, I.freeC, fun p hp => ?_, tracked ⟨oc, hoc, I.freeC x c hc⟩ hs, by simpa using I.len⟩ ⟨c, hs, .inr hc⟩
    · exact (hs.2 b (Nat.ne_of_lt (Nat.lt_of_lt_of_le (Heap.lt_size e) (I.ok.cab x c hfn hc)))).trans (I.base.keep b o e n hb hx)
    · obtain ⟨sl, e1⟩ := I.base.slot b o e n hb hx
      exact ⟨sl, (hs.2 b (Nat.ne_of_lt (Nat.lt_of_lt_of_le (Heap.lt_size e) (I.ok.cab x c hfn hc)))).trans e1⟩
    · obtain ⟨o', e1⟩ := I.base.there b o e hx
      exact ⟨o', (hs.2 b (Nat.ne_of_lt (Nat.lt_of_lt_of_le (Heap.lt_size e) (I.ok.cab x c hfn hc)))).trans e1⟩
    · by_cases hj : j = i
      · subst hj
        rw [hi] at e1; cases e1
        rw [List.getElem?_set_self hiσ] at e2
        cases e2
        exact ⟨u, r, .inr ⟨.inl hk, c, hc, hc'⟩⟩
      · rw [List.getElem?_set_ne (Ne.symm hj)] at e2
        obtain ⟨u', r', q⟩ := hl j y v' e1 e2 e3
        refine ⟨u', r', ?_⟩
        rcases q with q | ⟨k, c', e, z'⟩
        · exact .inl q
        · refine .inr ⟨k, c', e, z'.sameBut hs ?_⟩
          rintro rfl
          exact hj (nodup_ix hN e1 (I.ok.inj _ _ _ e hc ▸ hi))
    · by_cases hcc : c' = c
      · subst hcc; exact ⟨_, hc'⟩
      · obtain ⟨w2, z2⟩ := I.cell y c' e
        exact ⟨w2, z2.sameBut hs hcc⟩
    · obtain ⟨e, n, ne, nf, d⟩ := I.pin p hp
      refine ⟨(hs.2 p.1 ?_).trans e, n, ne, nf, d⟩
      intro q
      rw [q, hoc] at e
      have q' : oc = p.2 := Option.some.inj e
      exact d w' (by rw [← q']; exact hocd)
theorem store_ok {M : Model} {A : Around} {E : Value → Shared → Prop} {i : Nat} {x : Str} {v : V} {u : Value} {Q : Unit → Shared → Prop} (I : Inv X pins σ H s) (hN : X.N.Nodup) (hi : X.N[i]? = some x) (hx : Loc X.env.scope x) (r : RelV v u)
    (h : ∀ s', Inv X pins (σ.set i (some v)) H s' → Q () s') (hf : X.fn x = true ∨ X.env.scope.names.lookup x = some .local := by first | exact .inl rfl | exact .inr rfl | assumption) : wpAny M A (storeName X.env x u) Q E s :=
  store_ok2 I hN hi hx r (fun s' I' _ => h s' I') hf
/-- behind a call or a block, the state as it is -/
theorem Inv.call' {s' : Shared} {ch : List Addr} (I : Inv X pins σ H s) (ho : s'.os = s.os) (u : Un (frs X.stack) ch H H' s.heap s'.heap) (hok : HOk X.prog X.w H' s'.heap) (hg : AllBare s'.gens)
    (hch : ∀ b ∈ ch, (b ∈ X.ex ∨ X.s_0.heap.objs.size ≤ b) ∧ b ≠ X.env.locals ∧ (∀ x c, X.env.cells.lookup x = some c → c ≠ b) ∧ ∀ p ∈ X.pn ++ pins, p.1 ≠ b) : Inv X pins σ H' s' := by
  obtain ⟨h', g', d', t', o'⟩ := s'
  have e : o' = s.os := ho
  subst e
  exact I.call (g' := g') (t' := t') (d' := d') u hok hg hch
end
/-- an exception: its class, its own dict's address (where it has one), the abstract heap behind it -/
abbrev XK := Value → Option Addr → Hp → Prop
abbrev St := List (Option V)
abbrev VK := V → Hp → Prop
/-- an expression's reading; a test's; an argument list's -/
abbrev TE := St → Hp → VK → Prop
abbrev TT := St → Hp → (Bool → Hp → Prop) → Prop
abbrev TA := St → Hp → (List V → Hp → Prop) → Prop
/-- what is wanted behind a statement -/
structure Ends where
  nx : St → Hp → Prop
  rt : VK
  bk : St → Hp → Prop := fun _ _ => False
  ct : St → Hp → Prop := fun _ _ => False
abbrev TS := Ends → St → Hp → Prop
def EP (X : Cx) (pins : List (Addr × Obj)) (σ : St) (Q : VK) (u : Value) (s' : Shared) : Prop := ∃ v H', Inv X pins σ H' s' ∧ RelV v u ∧ Q v H'
def TP (X : Cx) (pins : List (Addr × Obj)) (σ : St) (Q : Bool → Hp → Prop) (b : Bool) (s' : Shared) : Prop := ∃ H', Inv X pins σ H' s' ∧ Q b H'
def AP (X : Cx) (pins : List (Addr × Obj)) (σ : St) (Q : List V → Hp → Prop) (us : List Value) (s' : Shared) : Prop := ∃ vs H', Inv X pins σ H' s' ∧ Vals vs us ∧ Q vs H'
def SP (X : Cx) (pins : List (Addr × Obj)) (D : Ends) (f : Flow) (s' : Shared) : Prop :=
  match f with
  | .next => ∃ σ' H', Inv X pins σ' H' s' ∧ D.nx σ' H'
  | .brk => ∃ σ' H', Inv X pins σ' H' s' ∧ D.bk σ' H'
  | .cont => ∃ σ' H', Inv X pins σ' H' s' ∧ D.ct σ' H'
  | .ret u => ∃ v σ' H', Inv X pins σ' H' s' ∧ RelV v u ∧ D.rt v H'
def PE (X : Cx) (e : Expr) (t : TE) : Prop :=
  ∀ (pins : List (Addr × Obj)) (s : Shared) (σ : St) (H : Hp) (Q : VK), Inv X pins σ H s → t σ H Q → wpAny (model X.prog X.w) X.A (eval e X.env) (EP X pins σ Q) X.xe s
def PT (X : Cx) (e : Expr) (t : TT) : Prop :=
  ∀ (pins : List (Addr × Obj)) (s : Shared) (σ : St) (H : Hp) (Q : Bool → Hp → Prop), Inv X pins σ H s → t σ H Q → wpAny (model X.prog X.w) X.A (isTrue e X.env (eval e X.env)) (TP X pins σ Q) X.xe s
/-- a test whatever its 'whole' is (and, or) -/
def PW (X : Cx) (e : Expr) (t : TT) : Prop :=
  ∀ (whole : Sem Value) (pins : List (Addr × Obj)) (s : Shared) (σ : St) (H : Hp) (Q : Bool → Hp → Prop), Inv X pins σ H s → t σ H Q → wpAny (model X.prog X.w) X.A (isTrue e X.env whole) (TP X pins σ Q) X.xe s
theorem PW.pt {X : Cx} {e : Expr} {t : TT} (h : PW X e t) : PT X e t := h _
/-- an argument list (no star), from the left -/
def PA (X : Cx) (es : List Expr) (t : TA) : Prop :=
  ∀ (pos : Pos) (pins : List (Addr × Obj)) (s : Shared) (σ : St) (H : Hp) (Q : List V → Hp → Prop), Inv X pins σ H s → t σ H Q → wpAny (model X.prog X.w) X.A (spliced (backTo pos (starEach es X.env))) (AP X pins σ Q) X.xe s
def PS (X : Cx) (st : Stmt) (t : TS) : Prop :=
  ∀ (pins : List (Addr × Obj)) (s : Shared) (σ : St) (H : Hp) (D : Ends), Inv X pins σ H s → t D σ H → wpAny (model X.prog X.w) X.A (exec st X.env) (SP X pins D) X.xe s
def PSs (X : Cx) (st : List Stmt) (t : TS) : Prop :=
  ∀ (pins : List (Addr × Obj)) (s : Shared) (σ : St) (H : Hp) (D : Ends), Inv X pins σ H s → t D σ H → wpAny (model X.prog X.w) X.A (execs st X.env) (SP X pins D) X.xe s
/-- weaken the end -/
theorem thn {α : Type} {t : Sem α} {Q Q' : α → Shared → Prop} {M : Model} {A : Around} {E : Value → Shared → Prop} {s : Shared} (h : wpAny M A t Q E s) (hQ : ∀ a s, Q a s → Q' a s) : wpAny M A t Q' E s := wpAny_mono h hQ fun _ _ x => x
end L2
namespace L2
open PySem PySem.Spec PyProof.Rows
section
variable {X : Cx}
/-- two expressions in a row -/
theorem bin {a b : Expr} {ta tb : TE} (ha : PE X a ta) (hb : PE X b tb) {pins : List (Addr × Obj)} {s : Shared} {σ : St} {H : Hp} {R : V → V → Hp → Prop} (I : Inv X pins σ H s) (h : ta σ H fun x H1 => tb σ H1 fun y H2 => R x y H2)
    {α : Type} {Q : α → Shared → Prop} {f : Value → Value → Sem α}
    (hf : ∀ v u s2 x y H2, Inv X pins σ H2 s2 → RelV x v → RelV y u → R x y H2 → wpAny (model X.prog X.w) X.A (f v u) Q X.xe s2) :
    wpAny (model X.prog X.w) X.A (eval a X.env) (fun v s₁ => wpAny (model X.prog X.w) X.A (eval b X.env) (fun u s₂ => wpAny (model X.prog X.w) X.A (f v u) Q X.xe s₂) X.xe s₁) X.xe s := by
  refine thn (ha pins s σ H _ I h) fun v s1 ⟨x, H1, I1, r1, q1⟩ => ?_
  refine thn (hb pins s1 σ H1 _ I1 q1) fun u s2 ⟨y, H2, I2, r2, q2⟩ => ?_
  exact hf v u s2 x y H2 I2 r1 r2 q2
def tVar (i : Nat) : TE := fun σ H Q => ∃ v, σ[i]? = some (some v) ∧ Q v H
def tC (v : V) : TE := fun _ H Q => Q v H
theorem pe_var {i : Nat} {x : Str} {pos : Pos} (hN : X.N[i]? = some x) (hv : Vis X.env.scope x) (hd : (x == ("__debug__" : Str)) = false := by decide) (hcd : (x == ("__classdict__" : Str)) = false := by decide) : PE X (.Name x pos) (tVar i) := by
  intro pins s σ H Q I h
  obtain ⟨v, e, h⟩ := h
  obtain ⟨m, hn, hl⟩ := I.loc
  obtain ⟨u, r, l⟩ := hl i x v hN e hv
  have fin : EP X pins σ Q u s := ⟨v, H, I, r, h⟩
  rcases l with ⟨hk, hm⟩ | ⟨hk, c, hc, hcell⟩
  · exact wpAny_Name (wpAny_loadName_local I.ok.kind hk hn hm fin) hd
  · rcases hk with hk | hk
    · exact wpAny_Name (wpAny_loadName_cell I.ok.kind hk hc hcell fin) hd
    · exact wpAny_Name (wpAny_loadName_free I.ok.kind hk hc hcell fin hcd) hd
theorem pe_int {i j pos} : PE X (.Constant (.int i) j pos) (tC (.int i)) := fun _ _ _ H _ I h => wpAny_Constant_int ⟨.int i, H, I.tok _, ⟨_, rfl⟩, h⟩
theorem pe_bl {b j pos} : PE X (.Constant (.bool b) j pos) (tC (.bl b)) := fun _ _ _ H _ I h => Constant_bool ⟨.bl b, H, I, rfl, h⟩
theorem pe_non {j pos} : PE X (.Constant .none j pos) (tC .non) := fun _ _ _ H _ I h => Constant_none ⟨.non, H, I, rfl, h⟩
/-- a global name of the def -/
def Gl (X : Cx) (x : Str) : Prop := X.env.kindOf x = some .globalImplicit
theorem ld_glob {E : Value → Shared → Prop} {pins : List (Addr × Obj)} {s : Shared} {σ : St} {H : Hp} {x : Str} {u : Value} {pos : Pos} {Q : Value → Shared → Prop} (I : Inv X pins σ H s) (hg : Gl X x) (hm : X.mg x = some u) (h : Q u s)
    (hd : (x == ("__debug__" : Str)) = false := by decide) : wpAny (model X.prog X.w) X.A (eval (.Name x pos) X.env) Q E s :=
  Calls.Name_function_global I.ok.kind hg (Calls.loadGlobal_global (by rw [I.ok.glob]; exact I.mod.glob.keeps I.bk) hm h) hd
theorem ld_blt {E : Value → Shared → Prop} {pins : List (Addr × Obj)} {s : Shared} {σ : St} {H : Hp} {x : Str} {u : Value} {pos : Pos} {Q : Value → Shared → Prop} (I : Inv X pins σ H s) (hg : Gl X x) (hm : X.mg x = none) (hv : bootBuiltins x = some u) (h : Q u s)
    (hn : x ≠ "__name__" := by decide) (hd : (x == ("__debug__" : Str)) = false := by decide) : wpAny (model X.prog X.w) X.A (eval (.Name x pos) X.env) Q E s := by
  obtain ⟨mb, h1, h2⟩ := I.mod.blt
  exact Calls.Name_function_global I.ok.kind hg (Calls.loadGlobal_builtin (by rw [I.ok.glob]; exact I.mod.glob.keeps I.bk) hm (by rw [I.ok.blt]; exact h1.keeps I.bk) ((h2 x hn).trans hv) h) hd
/-- a module's constant, a class, a function, as a value -/
theorem pe_glob {x : Str} {v : V} {u : Value} {pos : Pos} (hg : Gl X x) (hm : X.mg x = some u) (r : RelV v u) (hd : (x == ("__debug__" : Str)) = false := by decide) : PE X (.Name x pos) (tC v) :=
  fun _ _ _ H _ I h => ld_glob I hg hm ⟨v, H, I, r, h⟩ hd
variable {a b : Expr} {ta tb : TE} {pos : Pos}
def PC (X : Cx) (op : CmpOp) (a b : Expr) (t : TE) : Prop :=
  ∀ (pins : List (Addr × Obj)) (s : Shared) (σ : St) (H : Hp) (Q : VK), Inv X pins σ H s → t σ H Q →
    wpAny (model X.prog X.w) X.A (eval a X.env) (fun v s₁ => wpAny (model X.prog X.w) X.A (eval b X.env) (fun u s₂ => wpAny (model X.prog X.w) X.A (compareOp op v u) (EP X pins σ Q) X.xe s₂) X.xe s₁) X.xe s
theorem nobehind (b : Expr) {op : CmpOp} (h : op ≠ .In) (h2 : op ≠ .NotIn) : behindInMarks op b = false := by
  have e1 : (op == CmpOp.In) = false := by cases op <;> first | rfl | exact absurd rfl h
  have e2 : (op == CmpOp.NotIn) = false := by cases op <;> first | rfl | exact absurd rfl h2
  cases b <;> simp [behindInMarks, e1, e2]
def tNotN (ta : TE) : TE := fun σ H Q => ta σ H fun x H1 => Q (.bl (!decide (x = .non))) H1
theorem RelV.none_iff {x : V} {v : Value} (r : RelV x v) : (v == Value.none) = decide (x = .non) := by
  cases x with
  | non => cases r; rfl
  | bl _ => cases r; rfl
  | int _ => obtain ⟨t, rfl⟩ := r; rfl
  | str _ => obtain ⟨t, rfl⟩ := r; rfl
  | byt _ => obtain ⟨t, rfl⟩ := r; rfl
  | flt _ => obtain ⟨t, rfl⟩ := r; rfl
  | ref _ => cases r; rfl
  | ty _ => cases r; rfl
theorem pc_notN {j pos'} (ha : PE X a ta) : PC X .IsNot a (.Constant .none j pos') (tNotN ta) := by
  intro pins s σ H Q I h
  refine thn (ha pins s σ H _ I h) fun v s1 ⟨x, H1, I1, r1, q1⟩ => ?_
  exact Constant_none (isnot_none_gen ⟨.bl _, H1, I1, by rw [r1.none_iff]; rfl, q1⟩)
/-- a comparison as a value, as a test -/
def tB (t : TE) : TT := fun σ H Q => t σ H fun x H1 => ∃ c, x = .bl c ∧ Q c H1
theorem pt_cmp {op : CmpOp} {t : TE} (h : PC X op a b t) (h1 : behindInMarks op b = false := by first | exact nobehind _ (by decide) (by decide) | rfl) : PT X (.Compare a [op] [b] pos) (tB t) := by
  intro pins s σ H Q I hw
  refine wpAny_isTrue_Compare1 (thn (h pins s σ H _ I hw) fun v s1 h1 => thn h1 fun u s2 h2 => thn h2 fun c s3 ⟨x, H1, I1, r1, q1⟩ => ?_) h1
  obtain ⟨d, rfl, q⟩ := q1
  cases r1
  exact wpAny_truthy_bool ⟨H1, I1, q⟩
variable {tA tB' : TT} {rest : List Expr}
def tOr (t u : TT) : TT := fun σ H Q => t σ H fun c H1 => if c = true then Q true H1 else u σ H1 Q
def tNot (t : TT) : TT := fun σ H Q => t σ H fun c H1 => Q (!c) H1
theorem pw_or1 (ha : PT X a tA) : PW X (.BoolOp .Or [a] pos) tA := by
  intro wh pins s σ H Q I h
  refine isTrue_or (thn (ha pins s σ H Q I h) fun c s1 e => ?_)
  cases c with
  | false => exact isTrue_or_nil e
  | true => exact e
theorem pw_or (ha : PT X a tA) (hb : PW X (.BoolOp .Or (b :: rest) pos) tB') : PW X (.BoolOp .Or (a :: b :: rest) pos) (tOr tA tB') := by
  intro wh pins s σ H Q I h
  refine isTrue_or (thn (ha pins s σ H _ I h) fun c s1 ⟨H1, I1, q1⟩ => ?_)
  cases c with
  | true => exact ⟨H1, I1, q1⟩
  | false => exact hb wh pins s1 σ H1 Q I1 q1
theorem pt_not (ha : PT X a tA) : PT X (.UnaryOp .Not a pos) (tNot tA) := by
  intro pins s σ H Q I h
  exact isTrue_not (ha pins s σ H (fun c H1 => Q (!c) H1) I h)
def tOrV (ta tb : TE) : TE := fun σ H Q => ta σ H fun x H1 => ∃ c, x = .bl c ∧ if c = true then Q (.bl true) H1 else tb σ H1 Q
def tNotV (ta : TE) : TE := fun σ H Q => ta σ H fun x H1 => ∃ c, x = .bl c ∧ Q (.bl (!c)) H1
theorem pe_one {op} {t : TE} (h : PE X a t) : PE X (.BoolOp op [a] pos) t := fun pins s σ H Q I hw => BoolOp_one (h pins s σ H Q I hw)
theorem pe_or (ha : PE X a ta) (hb : PE X (.BoolOp .Or (b :: rest) pos) tb) : PE X (.BoolOp .Or (a :: b :: rest) pos) (tOrV ta tb) := by
  intro pins s σ H Q I h
  refine BoolOp_or (thn (ha pins s σ H _ I h) fun v s1 ⟨x, H1, I1, r1, q1⟩ => ?_)
  obtain ⟨c, rfl, q1⟩ := q1
  cases r1
  refine wpAny_truthy_bool ?_
  cases c with
  | false => exact hb pins s1 σ H1 Q I1 q1
  | true => exact ⟨.bl true, H1, I1, rfl, q1⟩
theorem pe_not (ha : PE X a ta) : PE X (.UnaryOp .Not a pos) (tNotV ta) := by
  intro pins s σ H Q I h
  refine UnaryOp_ (thn (ha pins s σ H _ I h) fun v s1 ⟨x, H1, I1, r1, q1⟩ => ?_)
  obtain ⟨c, rfl, q1⟩ := q1
  cases r1
  exact not_of (wpAny_truthy_bool ⟨.bl (!c), H1, I1, rfl, q1⟩)
/-- a if t else b -/
def tIf (t : TT) (ta tb : TE) : TE := fun σ H Q => t σ H fun c H1 => if c = true then ta σ H1 Q else tb σ H1 Q
theorem pe_ifExp {c : Expr} (hc : PT X c tA) (ha : PE X a ta) (hb : PE X b tb) : PE X (.IfExp c a b pos) (tIf tA ta tb) := by
  intro pins s σ H Q I h
  refine wpAny_IfExp (thn (hc pins s σ H _ I h) fun d s1 ⟨H1, I1, q1⟩ => ?_)
  cases d with
  | true => exact ha pins s1 σ H1 Q I1 q1
  | false => exact hb pins s1 σ H1 Q I1 q1
end
end L2
namespace L2
open PySem PySem.Spec PyProof.Rows
def SqL (K : PySem.W.Frag) (H : Hp) (a : Addr) (xs : List V) : Prop :=
  Rd H a (.lst xs) ∨
    ∃ (o : Obj) (its : Array Value) (n : Nat), K.lookup a = some o ∧ o.cls = .type "list" ∧ o.dict = none ∧ o.data = .seq its n ∧ its.size ≤ sizeLine ∧ Vals xs its.toList
def SqT (K : PySem.W.Frag) (H : Hp) (a : Addr) (xs : List V) : Prop :=
  Rd H a (.tup xs) ∨
    ∃ (o : Obj) (its : Array Value) (n : Nat), K.lookup a = some o ∧ o.cls = .type "tuple" ∧ o.data = .seq its n ∧ its.size ≤ sizeLine ∧ Vals xs its.toList
def absV : Value → Option V
  | .none => some .non
  | .bool b => some (.bl b)
  | .int i _ => some (.int i)
  | .str x _ => some (.str x)
  | .bytes b _ => some (.byt b)
  | .float b _ => some (.flt b)
  | .ref a => some (.ref a)
  | .type n => some (.ty n)
  | _ => none
theorem RelV.abs {x : V} {u : Value} (r : RelV x u) : absV u = some x := by
  cases x with
  | non => cases r; rfl
  | bl _ => cases r; rfl
  | int _ => obtain ⟨t, rfl⟩ := r; rfl
  | str _ => obtain ⟨t, rfl⟩ := r; rfl
  | byt _ => obtain ⟨t, rfl⟩ := r; rfl
  | flt _ => obtain ⟨t, rfl⟩ := r; rfl
  | ref _ => cases r; rfl
  | ty _ => cases r; rfl
theorem RelV.inj {x y : V} {u : Value} (r : RelV x u) (q : RelV y u) : x = y := Option.some.inj (r.abs.symm.trans q.abs)
theorem Vals.inj : ∀ {xs ys : List V} {us : List Value}, Vals xs us → Vals ys us → xs = ys
  | _, _, _, .nil, .nil => rfl
  | _, _, _, .cons r t, .cons r' t' => by rw [r.inj r', Vals.inj t t']
section
variable {X : Cx} {pins : List (Addr × Obj)} {σ : St} {H : Hp} {s : Shared} {a : Addr} {xs ys : List V}
theorem SqL.of {K : PySem.W.Frag} (h : H a = some (.lst xs)) : SqL K H a xs := .inl (.inl h)
theorem SqT.of {K : PySem.W.Frag} (h : H a = some (.tup xs)) : SqT K H a xs := .inl (.inl h)
theorem Inv.list (I : Inv X pins σ H s) (h : SqL X.K H a xs) : ∃ its : List Value, Vals xs its ∧ PlainL s.heap a its.toArray ∧ xs.length ≤ sizeLine := by
  rcases h with h | ⟨o, its, n, hk, hc, hd, hs, hz, r⟩
  · obtain ⟨z, its, n, r, e⟩ := h.ok I.hok
    exact ⟨its, r, ⟨_, n, e, rfl, rfl, rfl⟩, z⟩
  · refine ⟨its.toList, r, ⟨o, n, I.kIn a o hk, hc, hd, by simpa using hs⟩, ?_⟩
    have e := r.length
    simp only [Array.length_toList] at e
    omega
theorem Inv.tuple (I : Inv X pins σ H s) (h : SqT X.K H a xs) : ∃ its : List Value, Vals xs its ∧ IsTup s.heap a its.toArray ∧ xs.length ≤ sizeLine := by
  rcases h with h | ⟨o, its, n, hk, hc, hs, hz, r⟩
  · obtain ⟨z, its, r, p⟩ := h.ok I.hok
    exact ⟨its, r, p, z⟩
  · refine ⟨its.toList, r, ⟨o, I.kIn a o hk, hc, n, by simpa using hs⟩, ?_⟩
    have e := r.length
    simp only [Array.length_toList] at e
    omega
end
abbrev Cx.wish (X : Cx) (E : Value → Shared → Prop) : Cx := { X with xe := E }
/-- no exception leaves -/
abbrev Cx.nox (X : Cx) : Cx := X.wish fun _ _ => False
theorem Cx.Ok.wish {X : Cx} (ok : X.Ok) (E : Value → Shared → Prop) : (X.wish E).Ok :=
  ⟨ok.mod, ok.kind, ok.glob, ok.blt, ok.above, ok.inj, ok.has, ok.cab, ok.hd, ok.frames, ok.stk, ok.exf, ok.bs, ok.bsz, ok.noex, ok.exfs, ok.funs, ok.frf⟩
theorem Cx.Ok.unwish {X : Cx} {E : Value → Shared → Prop} (ok : (X.wish E).Ok) : X.Ok :=
  ⟨ok.mod, ok.kind, ok.glob, ok.blt, ok.above, ok.inj, ok.has, ok.cab, ok.hd, ok.frames, ok.stk, ok.exf, ok.bs, ok.bsz, ok.noex, ok.exfs, ok.funs, ok.frf⟩
section
variable {X : Cx} {pins : List (Addr × Obj)} {σ : St} {H : Hp} {s : Shared} {E : Value → Shared → Prop}
theorem Inv.wish (I : Inv X pins σ H s) (E : Value → Shared → Prop) : Inv (X.wish E) pins σ H s := ⟨I.ok.wish E, I.os, I.bare, I.base, I.loc, I.cell, I.free, I.freeC, I.pin, I.hok, I.len⟩
theorem Inv.unwish (I : Inv (X.wish E) pins σ H s) : Inv X pins σ H s := ⟨I.ok.unwish, I.os, I.bare, I.base, I.loc, I.cell, I.free, I.freeC, I.pin, I.hok, I.len⟩
theorem SP.unwish {D : Ends} {f : Flow} {s' : Shared} (h : SP (X.wish E) pins D f s') : SP X pins D f s' := by
  cases f with
  | next => obtain ⟨σ', H', I, q⟩ := h; exact ⟨σ', H', I.unwish, q⟩
  | brk => obtain ⟨σ', H', I, q⟩ := h; exact ⟨σ', H', I.unwish, q⟩
  | cont => obtain ⟨σ', H', I, q⟩ := h; exact ⟨σ', H', I.unwish, q⟩
  | ret u => obtain ⟨v, σ', H', I, r, q⟩ := h; exact ⟨v, σ', H', I.unwish, r, q⟩
theorem PE.nox {e : Expr} {t : TE} (h : PE X.nox e t) : PE X e t := fun pins s σ H Q I hw =>
  wpAny_mono (h pins s σ H Q (I.wish _) hw) (fun _ _ ⟨v, H', I', r, q⟩ => ⟨v, H', I'.unwish, r, q⟩) fun _ _ z => False.elim z
theorem PT.nox {e : Expr} {t : TT} (h : PT X.nox e t) : PT X e t := fun pins s σ H Q I hw =>
  wpAny_mono (h pins s σ H Q (I.wish _) hw) (fun _ _ ⟨H', I', q⟩ => ⟨H', I'.unwish, q⟩) fun _ _ z => False.elim z
theorem PSs.nox {st : List Stmt} {t : TS} (h : PSs X.nox st t) : PSs X st t := fun pins s σ H D I hw =>
  wpAny_mono (h pins s σ H D (I.wish _) hw) (fun _ _ q => q.unwish) fun _ _ z => False.elim z
end
section
variable {X : Cx} {st : Stmt} {rest : List Stmt} {t u : TS} {e : Expr} {te : TE} {pos : Pos}
def tNext : TS := fun D σ H => D.nx σ H
def tSeq (t u : TS) : TS := fun D σ H => t { D with nx := u D } σ H
theorem pss_nil : PSs X [] tNext := fun _ _ σ H _ I h => wpAny_execs_nil ⟨σ, H, I, h⟩
theorem pss_cons (h1 : PS X st t) (h2 : PSs X rest u) : PSs X (st :: rest) (tSeq t u) := by
  intro pins s σ H D I h
  refine wpAny_execs_cons (thn (h1 pins s σ H { D with nx := u D } I h) fun f s1 q => ?_)
  cases f with
  | next =>
    obtain ⟨σ', H', I', q⟩ := q
    exact h2 pins s1 σ' H' D I' q
  | ret v => exact q
  | brk => exact q
  | cont => exact q
theorem pss_one (h1 : PS X st t) : PSs X [st] t := by
  intro pins s σ H D I h
  refine wpAny_execs_cons (thn (h1 pins s σ H D I h) fun f s1 q => ?_)
  cases f with
  | next => exact wpAny_execs_nil q
  | ret v => exact q
  | brk => exact q
  | cont => exact q
/-- in a def's body nothing is shown -/
theorem Inv.quiet {pins : List (Addr × Obj)} {σ : St} {H : Hp} {s : Shared} (I : Inv X pins σ H s) : interactive X.env = false := by simp [interactive, I.ok.kind]
/-- an expression whose value is dropped -/
def tDrop (te : TE) : TS := fun D σ H => te σ H fun _ H1 => D.nx σ H1
theorem ps_expr (he : PE X e te) (hs : swapsWith e none pos.line X.env = pure false := by rfl) : PS X (.Expr e pos) (tDrop te) := by
  intro pins s σ H D I h
  exact wpAny_Expr_any (thn (he pins s σ H _ I h) fun v s1 ⟨x, H1, I1, r1, q1⟩ => ⟨σ, H1, I1, q1⟩) I.quiet hs
def tRet (te : TE) : TS := fun D σ H => te σ H D.rt
theorem ps_ret (he : PE X e te) : PS X (.Return (some e) pos) (tRet te) := by
  intro pins s σ H D I h
  exact wpAny_Return_some (thn (he pins s σ H _ I h) fun v s1 ⟨x, H1, I1, r1, q1⟩ => ⟨x, σ, H1, I1, r1, q1⟩)
def tIfS (c : TT) (t u : TS) : TS := fun D σ H => c σ H fun b H1 => if b = true then t D σ H1 else u D σ H1
theorem ps_if {c : Expr} {a b : List Stmt} {tc : TT} (hc : PT X c tc) (ha : PSs X a t) (hb : PSs X b u) : PS X (.If c a b pos) (tIfS tc t u) := by
  intro pins s σ H D I h
  refine wpAny_If (thn (hc pins s σ H _ I h) fun d s1 ⟨H1, I1, q1⟩ => ?_)
  cases d with
  | true => exact ha pins s1 σ H1 D I1 q1
  | false => exact hb pins s1 σ H1 D I1 q1
/-- code that the proof never comes to -/
def tNever : TS := fun _ _ _ => False
theorem pss_never {sts : List Stmt} : PSs X sts tNever := fun _ _ _ _ _ _ h => h.elim
end
abbrev TG := V → St → Hp → (St → Hp → Prop) → Prop
def PG (X : Cx) (target : Expr) (t : TG) : Prop :=
  ∀ (pins : List (Addr × Obj)) (s : Shared) (σ : St) (H : Hp) (v : V) (u : Value) (Q : St → Hp → Prop), Inv X pins σ H s → RelV v u → t v σ H Q →
    wpAny (model X.prog X.w) X.A (assign target X.env u) (fun _ s' => ∃ σ' H', Inv X pins σ' H' s' ∧ Q σ' H') X.xe s
/-- o[i] = v, by values -/
abbrev TSet := V → V → V → Hp → (Hp → Prop) → Prop
def PSet (X : Cx) (t : TSet) : Prop :=
  ∀ (pins : List (Addr × Obj)) (s : Shared) (σ : St) (H : Hp) (o i v : V) (ov iv u : Value) (Q : Hp → Prop), Inv X pins σ H s → RelV o ov → RelV i iv → RelV v u → t o i v H Q →
    wpAny (model X.prog X.w) X.A (setItem ov iv u) (fun _ s' => ∃ H', Inv X pins σ H' s' ∧ Q H') X.xe s
/-- a op= b, by values -/
abbrev TIp := V → V → Hp → VK → Prop
def PIp (X : Cx) (op : Operator) (t : TIp) : Prop :=
  ∀ (pins : List (Addr × Obj)) (s : Shared) (σ : St) (H : Hp) (x y : V) (v u : Value) (Q : VK), Inv X pins σ H s → RelV x v → RelV y u → t x y H Q →
    wpAny (model X.prog X.w) X.A (inplaceOp op v u) (EP X pins σ Q) X.xe s
section
variable {X : Cx} {pos : Pos}
def gName (i : Nat) : TG := fun v σ H Q => Q (σ.set i (some v)) H
theorem pg_name {i : Nat} {x : Str} (hN : X.N.Nodup) (hi : X.N[i]? = some x) (hx : Loc X.env.scope x) (hf : X.fn x = true ∨ X.env.scope.names.lookup x = some .local := by first | exact .inl rfl | exact .inr rfl | assumption) : PG X (.Name x pos) (gName i) := by
  intro pins s σ H v u Q I r h
  exact wpAny_assign_Name (store_ok I hN hi hx r (fun s' I' => ⟨_, H, I', h⟩) hf)
/-- o[i] = .. -/
def gSub (to ti : TE) (t : TSet) : TG := fun v σ H Q => to σ H fun o H1 => ti σ H1 fun i H2 => t o i v H2 fun H3 => Q σ H3
theorem pg_sub {o i : Expr} {to ti : TE} {t : TSet} (ho : PE X o to) (hi : PE X i ti) (hs : PSet X t)
    (ha : ∀ v, assign (.Subscript o i pos) X.env v = (do
      let ov ← holding [v] (eval o X.env)
      let iv ← holding [v, ov] (eval i X.env)
      standAt pos
      holding [v, ov, iv] (setItem ov iv v)
      release [v, ov, iv] []) := by intro _; rfl) : PG X (.Subscript o i pos) (gSub to ti t) := by
  intro pins s σ H v u Q I r h
  rw [ha]
  refine wpAny_bind (wpAny_holding (thn (ho pins s σ H _ I h) fun ov s1 ⟨x, H1, I1, r1, q1⟩ => ?_))
  refine wpAny_bind (wpAny_holding (thn (hi pins s1 σ H1 _ I1 q1) fun iv s2 ⟨y, H2, I2, r2, q2⟩ => ?_))
  refine wpAny_bind (wpAny_standAt (wpAny_bind (wpAny_holding (thn (hs pins s2 σ H2 x y v ov iv u _ I2 r1 r2 r q2) fun _ s3 ⟨H3, I3, q3⟩ => ?_))))
  exact wpAny_release ⟨σ, H3, I3, q3⟩
/-- target = value -/
def tAsg (te : TE) (g : TG) : TS := fun D σ H => te σ H fun x H1 => g x σ H1 D.nx
theorem ps_asg {tg e : Expr} {te : TE} {g : TG} (he : PE X e te) (hg : PG X tg g) (hs : swapsWithSole [tg] e pos.line X.env = pure false := by rfl) (hw : swappedStores [tg] e X.env = pure none := by rfl)
    (h1 : (assignEach [tg] X.env).map (·.2) = [assign tg X.env] := by rfl) : PS X (.Assign [tg] e pos) (tAsg te g) := by
  intro pins s σ H D I h
  refine wpAny_Assign_stores (thn (he pins s σ H _ I h) fun v s1 ⟨x, H1, I1, r1, q1⟩ => ?_) hs hw
  rw [h1]
  exact thn (hg pins s1 σ H1 x v _ I1 r1 q1) fun _ s2 q => q
/-- name = value -/
theorem ps_set {i : Nat} {x : Str} {e : Expr} {te : TE} {pos' : Pos} (hN : X.N.Nodup) (hi : X.N[i]? = some x) (hx : Loc X.env.scope x) (he : PE X e te) (hs : swapsWith e (some (.Name x pos')) pos.line X.env = pure false := by rfl) (hf : X.fn x = true ∨ X.env.scope.names.lookup x = some .local := by first | exact .inl rfl | exact .inr rfl | assumption) :
    PS X (.Assign [.Name x pos'] e pos) (tAsg te (gName i)) := by
  intro pins s σ H D I h
  refine wpAny_Assign_Name (thn (he pins s σ H _ I h) fun v s1 ⟨y, H1, I1, r1, q1⟩ => ?_) hs
  exact store_ok I1 hN hi hx r1 (fun s2 I2 => ⟨_, H1, I2, q1⟩) hf
/-- name op= e -/
def tAug (i : Nat) (te : TE) (ti : TIp) : TS := fun D σ H => ∃ x, σ[i]? = some (some x) ∧ te σ H fun y H1 => ti x y H1 fun z H2 => D.nx (σ.set i (some z)) H2
theorem ps_aug {i : Nat} {x : Str} {e : Expr} {te : TE} {op : Operator} {ti : TIp} {pos' : Pos} (hN : X.N.Nodup) (hi : X.N[i]? = some x) (hx : Loc X.env.scope x) (he : PE X e te) (ho : PIp X op ti) (hf : X.fn x = true ∨ X.env.scope.names.lookup x = some .local := by first | exact .inl rfl | exact .inr rfl | assumption) :
    PS X (.AugAssign (.Name x pos') op e pos) (tAug i te ti) := by
  intro pins s σ H D I h
  obtain ⟨v, e1, h⟩ := h
  obtain ⟨m, hn, hl⟩ := I.loc
  have vis : Vis X.env.scope x := by rcases hx with k | k; exact .inl k; exact .inr (.inl k)
  obtain ⟨u, r, l⟩ := hl i x v hi e1 vis
  refine wpAny_AugAssign_Name ?_
  have go : wpAny (model X.prog X.w) X.A (eval e X.env) (fun w s₂ => wpAny (model X.prog X.w) X.A (inplaceOp op u w) (fun r s₃ => wpAny (model X.prog X.w) X.A (storeName X.env x r) (fun _ => SP X pins D .next) X.xe s₃) X.xe s₂) X.xe s := by
    refine thn (he pins s σ H _ I h) fun w s1 ⟨y, H1, I1, r1, q1⟩ => ?_
    refine thn (ho pins s1 σ H1 v y u w _ I1 r r1 q1) fun z s2 ⟨zv, H2, I2, r2, q2⟩ => ?_
    exact store_ok I2 hN hi hx r2 (fun s3 I3 => ⟨_, H2, I3, q2⟩) hf
  rcases l with ⟨hk, hm⟩ | ⟨hk, c, hc, hcell⟩
  · exact wpAny_loadName_local I.ok.kind hk hn hm go
  · rcases hk with hk | hk
    · exact wpAny_loadName_cell I.ok.kind hk hc hcell go
    · rcases hx with k | k
      · have : X.env.scope.names.lookup x = some .free := hk
        rw [k] at this; cases this
      · have : X.env.scope.names.lookup x = some .free := hk
        rw [k] at this; cases this
end
section
variable {X : Cx} {pos : Pos}
/-- the invariant W with its measure -/
def tWhile (c : TT) (tb : TS) : TS := fun D σ H => ∃ W : Nat → St → Hp → Prop, (∃ m, W m σ H) ∧ ∀ m σ H, W m σ H →
  c σ H fun b H1 => if b = true then ∃ N : St → Hp → Prop, (∀ σ' H', N σ' H' → ∃ m', m' < m ∧ W m' σ' H') ∧ tb { D with nx := N, ct := N, bk := D.nx } σ H1 else D.nx σ H1
theorem ps_while {c : Expr} {body : List Stmt} {tc : TT} {tb : TS} (hp : PassesOwn (model X.prog X.w) X.A X.env X.xe) (hc : PT X c tc) (hb : PSs X body tb) : PS X (.While c body [] pos) (tWhile tc tb) := by
  intro pins s σ H D I h
  obtain ⟨W, ⟨m0, w0⟩, turn⟩ := h
  refine wpAny_While (codeAny_whileLoop (fun n s' => ∃ σ' H', Inv X pins σ' H' s' ∧ W n σ' H') ?_ m0 ⟨σ, H, I, w0⟩)
  rintro n s1 ⟨σ1, H1, I1, w1⟩
  refine wpAny_passesOwn hp (thn (hc pins s1 σ1 H1 _ I1 (turn n σ1 H1 w1)) fun b s2 ⟨H2, I2, q2⟩ => ?_)
  cases b with
  | true =>
    obtain ⟨N, hN, q2⟩ := q2
    rw [if_pos rfl]
    refine wpAny_passesOwn hp (thn (hb pins s2 σ1 H2 _ I2 q2) fun f s3 q3 => ?_)
    cases f with
    | next =>
      obtain ⟨σ3, H3, I3, n3⟩ := q3
      obtain ⟨m', hm, w3⟩ := hN σ3 H3 n3
      exact ⟨m', hm, σ3, H3, I3, w3⟩
    | cont =>
      obtain ⟨σ3, H3, I3, n3⟩ := q3
      obtain ⟨m', hm, w3⟩ := hN σ3 H3 n3
      exact ⟨m', hm, σ3, H3, I3, w3⟩
    | brk => exact q3
    | ret v => exact q3
  | false =>
    rw [if_neg Bool.false_ne_true]
    exact wpAny_execs_nil ⟨σ1, H2, I2, q2⟩
end
/-- at turn i: it yields x (the heap may grow), or it stops -/
structure It where
  go : Nat → Hp → Prop
  yld : Nat → Hp → V → Hp → Prop
  stop : Nat → Hp → Prop
/-- the iterator's own objects may turn: they are not the frame's, not pinned, younger than the entry (or a comprehension's own) -/
def FpOk (X : Cx) (pins : List (Addr × Obj)) (H : Hp) (b : Addr) : Prop :=
  H b = none ∧ b ≠ X.env.locals ∧ b ∉ X.fs ∧ (b ∈ X.ex ∨ X.s_0.heap.objs.size ≤ b) ∧ (∀ x c, X.env.cells.lookup x = some c → c ≠ b) ∧ ∀ p ∈ X.pn ++ pins, p.1 ≠ b
theorem Inv.fpOk {X : Cx} {pins : List (Addr × Obj)} {σ : St} {H H' : Hp} {s : Shared} {b : Addr} (I : Inv X pins σ H s) (hb : s.heap.objs.size ≤ b) (hn : H' b = none) : FpOk X pins H' b := by
  refine ⟨hn, Nat.ne_of_gt (Nat.lt_of_lt_of_le I.lt hb), I.nofs hb, .inr (Nat.le_trans I.sz hb), fun x c e z => ?_, fun p hp z => ?_⟩
  · obtain ⟨v, q⟩ := I.cell x c e
    exact absurd (Nat.lt_of_lt_of_le q.lt (by rw [z]; exact hb)) (Nat.lt_irrefl _)
  · exact absurd (Nat.lt_of_lt_of_le (Heap.lt_size (I.pin p hp).1) (by rw [z]; exact hb)) (Nat.lt_irrefl _)
structure Turn (P : Program) (w : World) (K : PySem.W.Frag) (tg : Expr) (J : It) (fp : List Addr) (it : Addr) (tn : Nat → Heap → Prop) : Prop where
  mem : it ∈ fp
  obj : ∀ i h, tn i h → ∀ b ∈ fp, ∃ o, h.get? b = some o ∧ ∀ v, o.data ≠ .cell v
  keep : ∀ i h h', tn i h → (∀ b ∈ fp, ∀ o, h.get? b = some o → h'.get? b = some o) → tn i h'
  item : ∀ (X : Cx), X.prog = P → X.w = w → X.K = K → X.calm = true → ∀ (i : Nat) (pins : List (Addr × Obj)) (s : Shared) (σ : St) (H : Hp) (E : Value → Shared → Prop), Inv X pins σ H s → (∀ b ∈ fp, FpOk X pins H b) → tn i s.heap → J.go i H →
    wpAny (model P w) X.A (pyNext (.ref it)) (fun r s1 => ∃ u, r = some u ∧
      wpAny (model P w) X.A (letOwnedTupleGo tg (.ref it) u) (fun _ s2 => ∃ x H', Inv X pins σ H' s2 ∧ RelV x u ∧ J.yld i H x H' ∧ tn (i + 1) s2.heap ∧ ∀ b ∈ fp, H' b = none) E s1) E s
  done : ∀ (X : Cx), X.prog = P → X.w = w → X.K = K → X.calm = true → ∀ (i : Nat) (pins : List (Addr × Obj)) (s : Shared) (σ : St) (H : Hp) (E : Value → Shared → Prop), Inv X pins σ H s → (∀ b ∈ fp, FpOk X pins H b) → tn i s.heap → J.stop i H →
    wpAny (model P w) X.A (pyNext (.ref it)) (fun r s1 => r = none ∧ Inv X pins σ H s1) E s
  self : ∀ (A : Around) (i : Nat) (s : Shared) (Q : Value → Shared → Prop) (E : Value → Shared → Prop), tn i s.heap → Q (.ref it) s → wpAny (model P w) A (pyIter (.ref it)) Q E s
abbrev TI := St → Hp → (It → Hp → Prop) → Prop
/-- an iterator has come -/
def PIE (X : Cx) (pins : List (Addr × Obj)) (σ : St) (tg : Expr) (R : It → Hp → Prop) (itv : Value) (s2 : Shared) : Prop :=
  ∃ (it : Addr) (fp : List Addr) (tn : Nat → Heap → Prop) (J : It) (H' : Hp), itv = .ref it ∧ Inv X pins σ H' s2 ∧ Turn X.prog X.w X.K tg J fp it tn ∧ tn 0 s2.heap ∧ (∀ b ∈ fp, FpOk X pins H' b) ∧ R J H'
def PI (X : Cx) (tg iter : Expr) (wi : TI) : Prop :=
  ∀ (pins : List (Addr × Obj)) (s : Shared) (σ : St) (H : Hp) (R : It → Hp → Prop), Inv X pins σ H s → wi σ H R →
    wpAny (model X.prog X.w) X.A (eval iter X.env) (fun v s1 => wpAny (model X.prog X.w) X.A (pyIter v) (PIE X pins σ tg R) X.xe s1) X.xe s
/-- the step ahead of the store is nothing for an iterator that keeps no tuple -/
theorem go_of {M : Model} {A : Around} {E : Value → Shared → Prop} {s : Shared} {tg : Expr} {it : Addr} {u : Value} {o : Obj} {n : String} {vs : Array Value} {Q : Unit → Shared → Prop} (ho : s.heap.get? it = some o) (hc : o.cls = .type n) (hd : o.data = .fields vs)
    (hn : ["enumerate", "zip", "dict_itemiterator", "dict_reverseitemiterator", "odict_iterator", "itertools.zip_longest", "itertools.pairwise"].contains n = false) (hQ : Q () s) : wpAny M A (letOwnedTupleGo tg (.ref it) u) Q E s := by
  unfold letOwnedTupleGo
  cases tg <;> first
    | exact wpAny_pure hQ
    | (cases u <;> first
        | exact wpAny_pure hQ
        | (refine wpAny_bind (wpAny_load ho ?_)
           rw [hc, hd]
           show wpAny M A (if (["enumerate", "zip", "dict_itemiterator", "dict_reverseitemiterator", "odict_iterator", "itertools.zip_longest", "itertools.pairwise"].contains n && vs[0]? == some (rawInt _)) = true then _ else _) Q E s
           rw [if_neg (by intro h; rw [hn, Bool.false_and] at h; cases h)]
           exact wpAny_pure hQ))
/-- the list at a, as it stands at each turn (a loop may append to it) -/
def Itl (K : PySem.W.Frag) (a : Addr) : It :=
  ⟨fun i H => ∃ xs x, SqL K H a xs ∧ xs[i]? = some x, fun i H x H' => H' = H ∧ ∀ xs, SqL K H a xs → xs[i]? = some x, fun i H => ∃ xs, SqL K H a xs ∧ xs.length ≤ i⟩
/-- lo, lo + 1, .. (n of them) -/
def Itr (lo : Int) (n : Nat) : It := ⟨fun i _ => i < n, fun i H x H' => H' = H ∧ x = .int (lo + i), fun i _ => n ≤ i⟩
theorem turn_range {P : Program} {w : World} {K : PySem.W.Frag} {tg : Expr} (it : Addr) (lo : Int) (n : Nat) : Turn P w K tg (Itr lo n) [it] it (fun i h => IsRangeIter h it (lo + (i : Nat) * 1) ((n : Int) - (i : Nat)) 1) where
  mem := by simp
  obj := fun i h st b hb => by
    have e : b = it := by simpa using hb
    subst e
    exact ⟨_, st, fun v z => by
      have z' : Data.fields _ = Data.cell v := z
      cases z'⟩
  keep := fun i h h' st k => k it (by simp) _ st
  item := by
    intro X hP hw hK hc i pins s σ H E I hf st hg
    subst hP hw hK
    obtain ⟨f0, f1, f2, f3, f4, f5⟩ := hf it (by simp)
    have W := Walks.range (prog := X.prog) (w := X.w) (I.ok.hd hc) it lo 1 n
    refine W.item i s _ _ hg st fun v h' tk hv st' kk => ?_
    obtain ⟨t, rfl⟩ := hv
    have I1 : Inv X pins σ H { s with heap := h', toks := tk } := I.turned (fun b o hb e => kk b o (by simpa using hb) e) f0 f1 f3 f4 f5
    refine ⟨_, rfl, go_of (s := { s with heap := h', toks := tk }) (n := "range_iterator") st' rfl rfl (by decide) ⟨.int (lo + i), H, I1, ⟨t, ?_⟩, ⟨rfl, rfl⟩, st', fun b hb => (hf b hb).1⟩⟩
    rw [Int.mul_one]
  done := by
    intro X hP hw hK hc i pins s σ H E I hf st hg
    subst hP hw hK
    obtain ⟨f0, f1, f2, f3, f4, f5⟩ := hf it (by simp)
    exact wpAny_pyNext_range_end (I.ok.hd hc) st (by have : n ≤ i := hg; omega) fun h' eb => ⟨rfl, I.turned (t' := s.toks) (fun b o hb e => eb b o hb e) f0 f1 f3 f4 f5⟩
  self := fun _ _ _ _ _ st h => wpAny_pyIter_rangeiter st h
end L2
namespace L2
open PySem PySem.Spec PyProof.Rows
section
variable {X : Cx} {tg : Expr}
/-- a range object just made, walked -/
theorem range_it {pins : List (Addr × Obj)} {σ : St} {H : Hp} {s : Shared} {R : It → Hp → Prop} {E : Value → Shared → Prop} {lo hi : Int} {t u v : Tok} {tk : Nat} (I : Inv X pins σ H s) (h1 : -(2 ^ 62) ≤ lo) (h2 : lo < 2 ^ 62) (h3 : -(2 ^ 62) ≤ hi) (h4 : hi < 2 ^ 62)
    (q : R (Itr lo (hi - lo).toNat) H) : wpAny (model X.prog X.w) X.A (pyIter (.ref s.heap.objs.size)) (PIE X pins σ tg R) E { s with heap := s.heap.push { cls := .type "range", data := .fields #[.int lo t, .int hi u, .int 1 v] }, toks := tk } := by
  refine wpAny_pyIter_range (IsRange.new ..) (small_one h1 h2 h3 h4) ?_
  have I1 : Inv X pins σ H { s with heap := s.heap.push { cls := .type "range", data := .fields #[.int lo t, .int hi u, .int 1 v] }, toks := tk } := I.kept fun b o e => Heap.get?_push_of_some _ e
  refine ⟨(s.heap.push { cls := .type "range", data := .fields #[.int lo t, .int hi u, .int 1 v] }).objs.size, [(s.heap.push { cls := .type "range", data := .fields #[.int lo t, .int hi u, .int 1 v] }).objs.size], _, _, H, rfl,
    I1.kept (t' := tk) fun b o e => Heap.get?_push_of_some _ e, turn_range _ lo (hi - lo).toNat, ?_, fun b hb => ?_, q⟩
  · have e1 : lo + ((0 : Nat) : Int) * 1 = lo := by simp
    have e2 : (((hi - lo).toNat : Nat) : Int) - ((0 : Nat) : Int) = Builtin.Range.rangeSize lo hi 1 := by rw [rangeSize_one]; split <;> omega
    show IsRangeIter _ _ (lo + ((0 : Nat) : Int) * 1) ((((hi - lo).toNat : Nat) : Int) - ((0 : Nat) : Int)) 1
    rw [e1, e2]
    exact Heap.get?_push_size _ rfl
  · have e : b = (s.heap.push { cls := .type "range", data := .fields #[.int lo t, .int hi u, .int 1 v] }).objs.size := by simpa using hb
    subst e
    exact I1.fpOk (Nat.le_refl _) (I1.hok.fresh (Nat.le_refl _))
def iRng1 (ta : TA) : TI := fun σ H R => ta σ H fun vs H1 => ∃ j : Int, vs = [.int j] ∧ -(2 ^ 62) ≤ j ∧ j < 2 ^ 62 ∧ R (Itr 0 j.toNat) H1
theorem pi_range1 {a : Expr} {ta : TA} {p pos : Pos} (hg : Gl X "range") (hm : X.mg "range" = none) (ha : PA X [a] ta) (hs : starEach [a] X.env = [(false, eval a X.env)] := by rfl) : PI X tg (.Call (.Name "range" p) [a] [] pos) (iRng1 ta) := by
  intro pins s σ H R I h
  refine Call_ (ld_blt I hg hm boot_range (PyProof.Rows.callWith_type1 (thn (ha pos pins s σ H _ I h) fun us s1 ⟨vs, H1, I1, r1, q1⟩ => ?_) hs rfl))
  obtain ⟨j, e, q1, q2, q⟩ := q1
  subst e
  cases r1 with
  | cons r rr =>
    cases rr
    obtain ⟨t, rfl⟩ := r
    exact call_range_1 (range_it I1 (by omega) (by omega) q1 q2 (by simpa using q))
/-- W: the invariant by the turn and a measure; N: what the body is to reach -/
def tFor (wi : TI) (g : TG) (tb : TS) : TS := fun D σ H => wi σ H fun J H1 => ∃ W : Nat → Nat → St → Hp → Prop, (∃ m, W 0 m σ H1) ∧ ∀ i m σ H, W i m σ H →
  (J.stop i H ∧ D.nx σ H) ∨ (J.go i H ∧ ∃ N : St → Hp → Prop, (∀ σ' H', N σ' H' → ∃ m', m' < m ∧ W (i + 1) m' σ' H') ∧ ∀ x H', J.yld i H x H' → g x σ H' fun σ2 H2 => tb { D with nx := N, ct := N, bk := D.nx } σ2 H2)
/-- the records at fp as they stand -/
def pinsAt (fp : List Addr) (h : Heap) : List (Addr × Obj) := fp.filterMap fun b => (h.get? b).map fun o => (b, o)
theorem mem_pinsAt {fp : List Addr} {h : Heap} {b : Addr} {o : Obj} (hb : b ∈ fp) (e : h.get? b = some o) : (b, o) ∈ pinsAt fp h := List.mem_filterMap.mpr ⟨b, hb, by rw [e]; rfl⟩
theorem of_pinsAt {fp : List Addr} {h : Heap} {p : Addr × Obj} (hp : p ∈ pinsAt fp h) : p.1 ∈ fp ∧ h.get? p.1 = some p.2 := by
  obtain ⟨b, hb, e⟩ := List.mem_filterMap.mp hp
  cases q : h.get? b with
  | none => rw [q] at e; cases e
  | some o =>
    rw [q] at e
    have e' : (b, o) = p := Option.some.inj e
    subst e'
    exact ⟨hb, q⟩
theorem Inv.pinned {pins : List (Addr × Obj)} {σ : St} {H : Hp} {s : Shared} {fp : List Addr} (I : Inv X pins σ H s) (hf : ∀ b ∈ fp, FpOk X pins H b) (ho : ∀ b ∈ fp, ∃ o, s.heap.get? b = some o ∧ ∀ v, o.data ≠ .cell v) : Inv X (pins ++ pinsAt fp s.heap) σ H s :=
  I.pins_of fun p hp => (List.mem_append.mp hp).elim (fun z => I.pin p (List.mem_append_right _ z)) fun z => by
    obtain ⟨hb, e⟩ := of_pinsAt z
    obtain ⟨f0, f1, f2, _⟩ := hf p.1 hb
    obtain ⟨o, e', d⟩ := ho p.1 hb
    rw [e] at e'; cases e'
    exact ⟨e, f0, f1, f2, d⟩
theorem Inv.unpinned {pins pl : List (Addr × Obj)} {σ : St} {H : Hp} {s : Shared} (I : Inv X (pins ++ pl) σ H s) : Inv X pins σ H s := I.pins_of fun p hp => I.pin p (List.mem_append_right _ (List.mem_append_left _ hp))
theorem ps_for {iter : Expr} {body : List Stmt} {wi : TI} {g : TG} {tb : TS} {pos : Pos} (hp : PassesOwn (model X.prog X.w) X.A X.env X.xe) (hc : X.calm = true) (hi : PI X tg iter wi) (hg : PG X tg g) (hb : PSs X body tb)
    (hs : ∀ x, foldedSetIterable iter X.env x = pure x := by intro _; rfl) : PS X (.For tg iter body [] pos) (tFor wi g tb) := by
  intro pins s σ H D I h
  refine wpAny_For (thn (hi pins s σ H _ I h) fun v s1 h1 => thn h1 fun itv s2 h2 => ?_) hs
  obtain ⟨it, fp, tn, J, H2, e, I2, T, st2, f2, W, ⟨m0, w0⟩, turn⟩ := h2
  subst e
  -- what stays true of the iterator's objects through the loop
  have stat : ∀ {H' : Hp}, (∀ b ∈ fp, H' b = none) → ∀ b ∈ fp, FpOk X pins H' b := fun hn b hb => ⟨hn b hb, (f2 b hb).2⟩
  refine codeAny_forLoop_any (fun n s' => ∃ i σ' H', Inv X pins σ' H' s' ∧ tn i s'.heap ∧ (∀ b ∈ fp, H' b = none) ∧ W i n σ' H') ?_ m0 ⟨0, σ, H2, I2, st2, fun b hb => (f2 b hb).1, w0⟩
  rintro n s3 ⟨i, σ3, H3, I3, st3, fr3, w3⟩
  rcases turn i n σ3 H3 w3 with ⟨stop, qn⟩ | ⟨go, N, hN, step⟩
  · refine wpAny_passesOwn hp (thn (T.done X rfl rfl rfl hc i pins s3 σ3 H3 X.xe I3 (stat fr3) st3 stop) fun r s4 ⟨hr, I4⟩ => ?_)
    subst hr
    exact wpAny_execs_nil ⟨σ3, H3, I4, qn⟩
  · refine wpAny_passesOwn hp (thn (T.item X rfl rfl rfl hc i pins s3 σ3 H3 X.xe I3 (stat fr3) st3 go) fun r s4 ⟨u, hr, h4⟩ => ?_)
    subst hr
    refine wpAny_passesOwn hp (thn h4 fun _ s5 ⟨x, H5, I5, r5, y5, st5, fr5⟩ => ?_)
    have I5' := I5.pinned (stat fr5) (T.obj _ _ st5)
    refine wpAny_passesOwn hp (thn (hg _ s5 σ3 H5 x u _ I5' r5 (step x H5 y5)) fun _ s6 ⟨σ6, H6, I6, q6⟩ => ?_)
    refine wpAny_passesOwn hp (thn (hb _ s6 σ6 H6 _ I6 q6) fun f s7 q7 => ?_)
    have again : ∀ {σ7 : St} {H7 : Hp}, Inv X (pins ++ pinsAt fp s5.heap) σ7 H7 s7 → N σ7 H7 → ∃ m, m < n ∧ ∃ i σ' H', Inv X pins σ' H' s7 ∧ tn i s7.heap ∧ (∀ b ∈ fp, H' b = none) ∧ W i m σ' H' := fun {σ7 H7} I7 n7 => by
      obtain ⟨m', hm, w7⟩ := hN σ7 H7 n7
      refine ⟨m', hm, i + 1, σ7, H7, I7.unpinned, T.keep _ _ _ st5 fun b hb o e => (I7.pin (b, o) (List.mem_append_right _ (List.mem_append_right _ (mem_pinsAt hb e)))).1, fun b hb => ?_, w7⟩
      obtain ⟨o, e, d⟩ := T.obj _ _ st5 b hb
      exact (I7.pin (b, o) (List.mem_append_right _ (List.mem_append_right _ (mem_pinsAt hb e)))).2.1
    cases f with
    | next => obtain ⟨σ7, H7, I7, n7⟩ := q7; exact again I7 n7
    | cont => obtain ⟨σ7, H7, I7, n7⟩ := q7; exact again I7 n7
    | brk => obtain ⟨σ7, H7, I7, q7⟩ := q7; exact ⟨σ7, H7, I7.unpinned, q7⟩
    | ret v => obtain ⟨x7, σ7, H7, I7, r7, q7⟩ := q7; exact ⟨x7, σ7, H7, I7.unpinned, r7, q7⟩
end
/-- over a list that the body leaves as it is -/
theorem for_list {K : PySem.W.Frag} {a : Addr} {xs : List V} {g : TG} {tb : TS} {D : Ends} {σ : St} {H : Hp} (Pv : Nat → St → Hp → Prop) (h0 : Pv 0 σ H) (hl : ∀ i σ H, i ≤ xs.length → Pv i σ H → SqL K H a xs)
    (hs : ∀ i x σ H, xs[i]? = some x → Pv i σ H → g x σ H fun σ2 H2 => tb { D with nx := Pv (i + 1), ct := Pv (i + 1), bk := D.nx } σ2 H2) (hd : ∀ σ H, Pv xs.length σ H → D.nx σ H) :
    ∃ W : Nat → Nat → St → Hp → Prop, (∃ m, W 0 m σ H) ∧ ∀ i m σ H, W i m σ H →
      ((Itl K a).stop i H ∧ D.nx σ H) ∨ ((Itl K a).go i H ∧ ∃ N : St → Hp → Prop, (∀ σ' H', N σ' H' → ∃ m', m' < m ∧ W (i + 1) m' σ' H') ∧ ∀ x H', (Itl K a).yld i H x H' → g x σ H' fun σ2 H2 => tb { D with nx := N, ct := N, bk := D.nx } σ2 H2) := by
  refine ⟨fun i m σ H => m = xs.length - i ∧ i ≤ xs.length ∧ Pv i σ H, ⟨xs.length, by simp, Nat.zero_le _, h0⟩, ?_⟩
  rintro i m σ H ⟨rfl, hi, p⟩
  have q := hl i σ H hi p
  by_cases hlt : i < xs.length
  · refine .inr ⟨⟨xs, xs[i], q, by simp [hlt]⟩, Pv (i + 1), fun σ' H' p' => ⟨xs.length - (i + 1), by omega, rfl, hlt, p'⟩, fun x H' y => ?_⟩
    obtain ⟨e, y⟩ := y
    subst e
    exact hs i x σ _ (y xs q) p
  · have e : i = xs.length := by omega
    subst e
    exact .inl ⟨⟨xs, q, Nat.le_refl _⟩, hd σ H p⟩
theorem for_range {lo : Int} {n : Nat} {g : TG} {tb : TS} {D : Ends} {σ : St} {H : Hp} (Pv : Nat → St → Hp → Prop) (h0 : Pv 0 σ H)
    (hs : ∀ i σ H, i < n → Pv i σ H → g (.int (lo + i)) σ H fun σ2 H2 => tb { D with nx := Pv (i + 1), ct := Pv (i + 1), bk := D.nx } σ2 H2) (hd : ∀ σ H, Pv n σ H → D.nx σ H) :
    ∃ W : Nat → Nat → St → Hp → Prop, (∃ m, W 0 m σ H) ∧ ∀ i m σ H, W i m σ H →
      ((Itr lo n).stop i H ∧ D.nx σ H) ∨ ((Itr lo n).go i H ∧ ∃ N : St → Hp → Prop, (∀ σ' H', N σ' H' → ∃ m', m' < m ∧ W (i + 1) m' σ' H') ∧ ∀ x H', (Itr lo n).yld i H x H' → g x σ H' fun σ2 H2 => tb { D with nx := N, ct := N, bk := D.nx } σ2 H2) := by
  refine ⟨fun i m σ H => m = n - i ∧ i ≤ n ∧ Pv i σ H, ⟨n, by simp, Nat.zero_le _, h0⟩, ?_⟩
  rintro i m σ H ⟨rfl, hi, p⟩
  by_cases hlt : i < n
  · refine .inr ⟨hlt, Pv (i + 1), fun σ' H' p' => ⟨n - (i + 1), by omega, rfl, hlt, p'⟩, fun x H' y => ?_⟩
    obtain ⟨e, y⟩ := y
    subst e y
    exact hs i σ _ hlt p
  · have e : i = n := by omega
    subst e
    exact .inl ⟨Nat.le_refl _, hd σ H p⟩
/-- while, by a word and a measure of the state -/
theorem while_by {c : TT} {tb : TS} {D : Ends} {σ : St} {H : Hp} (Pv : St → Hp → Prop) (μ : St → Hp → Nat) (h0 : Pv σ H)
    (hs : ∀ σ H, Pv σ H → c σ H fun b H1 => if b = true then tb { D with nx := fun σ' H' => Pv σ' H' ∧ μ σ' H' < μ σ H, ct := fun σ' H' => Pv σ' H' ∧ μ σ' H' < μ σ H, bk := D.nx } σ H1 else D.nx σ H1)
    (mono : ∀ σ H Q Q', (∀ b H1, Q b H1 → Q' b H1) → c σ H Q → c σ H Q') : tWhile c tb D σ H := by
  refine ⟨fun m σ H => m = μ σ H ∧ Pv σ H, ⟨_, rfl, h0⟩, ?_⟩
  rintro m σ H ⟨rfl, p⟩
  refine mono σ H _ _ (fun b H1 q => ?_) (hs σ H p)
  cases b with
  | true => exact ⟨_, fun σ' H' ⟨p', l⟩ => ⟨_, l, rfl, p'⟩, q⟩
  | false => exact q
end L2
namespace L2
open PySem PySem.Spec PyProof.Rows
abbrev R2 := V → V → Hp → VK → Prop
/-- a two-place operation on values: f is binaryOp op, inplaceOp op or compareOp op -/
def OpR (X : Cx) (f : Value → Value → Sem Value) (r : R2) : Prop :=
  ∀ (pins : List (Addr × Obj)) (s : Shared) (σ : St) (H : Hp) (x y : V) (v u : Value) (Q : VK), Inv X pins σ H s → RelV x v → RelV y u → r x y H Q →
    wpAny (model X.prog X.w) X.A (f v u) (EP X pins σ Q) X.xe s
/-- a one-place operation -/
def UnR (X : Cx) (f : Value → Sem Value) (r : V → Hp → VK → Prop) : Prop :=
  ∀ (pins : List (Addr × Obj)) (s : Shared) (σ : St) (H : Hp) (x : V) (v : Value) (Q : VK), Inv X pins σ H s → RelV x v → r x H Q →
    wpAny (model X.prog X.w) X.A (f v) (EP X pins σ Q) X.xe s
/-- a call of a value that is known (a builtin, a type) with values -/
def CallR (X : Cx) (f : Value) (r : List V → Hp → VK → Prop) : Prop :=
  ∀ (pins : List (Addr × Obj)) (s : Shared) (σ : St) (H : Hp) (xs : List V) (us : List Value) (Q : VK), Inv X pins σ H s → Vals xs us → r xs H Q →
    wpAny (model X.prog X.w) X.A (call f us) (EP X pins σ Q) X.xe s
/-- a value's truth -/
def TruR (X : Cx) (r : V → Hp → (Bool → Hp → Prop) → Prop) : Prop :=
  ∀ (pins : List (Addr × Obj)) (s : Shared) (σ : St) (H : Hp) (x : V) (v : Value) (Q : Bool → Hp → Prop), Inv X pins σ H s → RelV x v → r x H Q →
    wpAny (model X.prog X.w) X.A (truthy v) (TP X pins σ Q) X.xe s
def tOp (r : R2) (ta tb : TE) : TE := fun σ H Q => ta σ H fun x H1 => tb σ H1 fun y H2 => r x y H2 Q
def tUn (r : V → Hp → VK → Prop) (ta : TE) : TE := fun σ H Q => ta σ H fun x H1 => r x H1 Q
/-- ints in, under C, and a value out -/
def rI (C : Int → Int → Prop) (g : Int → Int → V) : R2 := fun x y H Q => ∃ i j, x = .int i ∧ y = .int j ∧ C i j ∧ Q (g i j) H
def rI0 (g : Int → Int → V) : R2 := fun x y H Q => ∃ i j, x = .int i ∧ y = .int j ∧ Q (g i j) H
def rU (g : Int → V) : V → Hp → VK → Prop := fun x H Q => ∃ i, x = .int i ∧ Q (g i) H
section
variable {X : Cx} {a b c : Expr} {ta tb tc : TE} {pos : Pos}
theorem binT (ha : PE X a ta) (hb : PE X b tb) {pins : List (Addr × Obj)} {s : Shared} {σ : St} {H : Hp} {R : V → V → Hp → Prop} (I : Inv X pins σ H s)
    (h : ta σ H fun x H1 => tb σ H1 fun y H2 => R x y H2) {Q : Value → Shared → Prop} {f : Value → Value → Sem Value}
    (hf : ∀ v u s2 x y H2, Inv X pins σ H2 s2 → RelV x v → RelV y u → R x y H2 → wpAny (model X.prog X.w) X.A (f v u) Q X.xe s2) :
    wpAny (model X.prog X.w) X.A (eval a X.env) (fun v s₁ => wpAny (model X.prog X.w) X.A (eval b X.env) (fun u s₂ => wpAny (model X.prog X.w) X.A (f v u) Q X.xe s₂) X.xe s₁) X.xe s := by
  refine thn (ha pins s σ H _ I h) fun v s1 ⟨x, H1, I1, r1, q1⟩ => ?_
  refine thn (hb pins s1 σ H1 _ I1 q1) fun u s2 ⟨y, H2, I2, r2, q2⟩ => ?_
  exact hf v u s2 x y H2 I2 r1 r2 q2
theorem pe_op {op : Operator} {r : R2} (ho : OpR X (binaryOp op) r) (ha : PE X a ta) (hb : PE X b tb) : PE X (.BinOp a op b pos) (tOp r ta tb) := by
  intro pins s σ H Q I h
  exact wpAny_BinOp (binT ha hb I h fun v u s2 x y H2 I2 rx ry q => ho pins s2 σ H2 x y v u Q I2 rx ry q)
theorem pe_un {op : UnaryOp} {r : V → Hp → VK → Prop} (ho : UnR X (unaryOp op) r) (ha : PE X a ta) : PE X (.UnaryOp op a pos) (tUn r ta) := by
  intro pins s σ H Q I h
  exact UnaryOp_ (thn (ha pins s σ H _ I h) fun v s1 ⟨x, H1, I1, r1, q1⟩ => ho pins s1 σ H1 x v Q I1 r1 q1)
theorem opI {f : Value → Value → Sem Value} {C : Int → Int → Prop} {g : Int → Int → Int}
    (rule : ∀ (i j : Int) (t u : Tok) (s : Shared) (Q : Value → Shared → Prop) (E : Value → Shared → Prop), C i j → Q (.int (g i j) s.toks) { s with toks := s.toks + 1 } → wpAny (model X.prog X.w) X.A (f (.int i t) (.int j u)) Q E s) :
    OpR X f (rI C fun i j => .int (g i j)) := by
  intro pins s σ H x y v u Q I rx ry h
  obtain ⟨i, j, rfl, rfl, hc, q⟩ := h
  obtain ⟨t, rfl⟩ := rx
  obtain ⟨t', rfl⟩ := ry
  exact rule i j t t' s _ _ hc ⟨.int (g i j), H, I.tok _, ⟨_, rfl⟩, q⟩
theorem opI0 {f : Value → Value → Sem Value} {g : Int → Int → Int}
    (rule : ∀ (i j : Int) (t u : Tok) (s : Shared) (Q : Value → Shared → Prop) (E : Value → Shared → Prop), Q (.int (g i j) s.toks) { s with toks := s.toks + 1 } → wpAny (model X.prog X.w) X.A (f (.int i t) (.int j u)) Q E s) :
    OpR X f (rI0 fun i j => .int (g i j)) := by
  intro pins s σ H x y v u Q I rx ry h
  obtain ⟨i, j, rfl, rfl, q⟩ := h
  obtain ⟨t, rfl⟩ := rx
  obtain ⟨t', rfl⟩ := ry
  exact rule i j t t' s _ _ ⟨.int (g i j), H, I.tok _, ⟨_, rfl⟩, q⟩
theorem opB0 {f : Value → Value → Sem Value} {g : Int → Int → Bool}
    (rule : ∀ (i j : Int) (t u : Tok) (s : Shared) (Q : Value → Shared → Prop) (E : Value → Shared → Prop), Q (.bool (g i j)) s → wpAny (model X.prog X.w) X.A (f (.int i t) (.int j u)) Q E s) :
    OpR X f (rI0 fun i j => .bl (g i j)) := by
  intro pins s σ H x y v u Q I rx ry h
  obtain ⟨i, j, rfl, rfl, q⟩ := h
  obtain ⟨t, rfl⟩ := rx
  obtain ⟨t', rfl⟩ := ry
  exact rule i j t t' s _ _ ⟨.bl (g i j), H, I, rfl, q⟩
def CDiv (i j : Int) : Prop := 0 < j ∧ j < 1073741824
def CMul (i j : Int) : Prop := (-(2 ^ 64) < i ∧ i < 2 ^ 64) ∨ (-(2 ^ 64) < j ∧ j < 2 ^ 64)
theorem CMul.ok {i j : Int} (h : CMul i j) : IntMulOk i j := by
  rcases h with ⟨h1, h2⟩ | ⟨h1, h2⟩
  · exact .of_left (intBits_le_64 h1 h2)
  · exact .of_right (intBits_le_64 h1 h2)
theorem two_pow_nn (k : Nat) : (0 : Int) ≤ 2 ^ k := by
  rw [two_pow_cast]
  exact Int.natCast_nonneg _
theorem op_add : OpR X (binaryOp .Add) (rI0 fun i j => .int (i + j)) := opI0 fun _ _ _ _ _ _ _ q => add_int q
theorem op_sub : OpR X (binaryOp .Sub) (rI0 fun i j => .int (i - j)) := opI0 fun _ _ _ _ _ _ _ q => sub_int q
theorem op_mul : OpR X (binaryOp .Mult) (rI CMul fun i j => .int (i * j)) := opI fun _ _ _ _ _ _ _ hc q => mul_int q hc.ok
/-- // by a positive divisor -/
theorem op_fdiv : OpR X (binaryOp .FloorDiv) (rI CDiv fun i j => .int (i / j)) := opI fun i j _ _ _ _ _ hc q => by
  have h1 : (0 : Int) < j := hc.1
  have h2 : j < 1073741824 := hc.2
  exact floordiv_int (by omega) (by rw [Int.fdiv_eq_ediv_of_nonneg i (by omega)]; exact q) (.inl (PyProof.noPylong_small (by omega)))
/-- % by a positive divisor of any size -/
theorem op_mod : OpR X (binaryOp .Mod) (rI (fun _ j => 0 < j) fun i j => .int (i % j)) := opI fun i j _ _ _ _ _ hc q => by
  have h1 : (0 : Int) < j := hc
  exact mod_int' (by omega) (by rw [Int.fmod_eq_emod_of_nonneg i (by omega)]; exact q)
theorem op_shr : OpR X (binaryOp .RShift) (rI (fun _ j => 0 ≤ j) fun i j => .int (i / 2 ^ j.toNat)) := opI fun i j _ _ _ _ _ hc q =>
  rshift_int hc (by rw [Int.fdiv_eq_ediv_of_nonneg i (two_pow_nn _)]; exact q)
theorem op_and : OpR X (binaryOp .BitAnd) (rI0 fun i j => .int (Builtin.bitAnd i j)) := opI0 fun _ _ _ _ _ _ _ q => and_int q
theorem op_or : OpR X (binaryOp .BitOr) (rI0 fun i j => .int (Builtin.bitOr i j)) := opI0 fun _ _ _ _ _ _ _ q => or_int q
theorem op_xor : OpR X (binaryOp .BitXor) (rI0 fun i j => .int (Builtin.bitXor i j)) := opI0 fun _ _ _ _ _ _ _ q => xor_int q
theorem iop_add : OpR X (inplaceOp .Add) (rI0 fun i j => .int (i + j)) := opI0 fun _ _ _ _ _ _ _ q => iadd_int q
theorem unI {f : Value → Sem Value} {g : Int → Int}
    (rule : ∀ (i : Int) (t : Tok) (s : Shared) (Q : Value → Shared → Prop) (E : Value → Shared → Prop), Q (.int (g i) s.toks) { s with toks := s.toks + 1 } → wpAny (model X.prog X.w) X.A (f (.int i t)) Q E s) :
    UnR X f (rU fun i => .int (g i)) := by
  intro pins s σ H x v Q I rx h
  obtain ⟨i, rfl, q⟩ := h
  obtain ⟨t, rfl⟩ := rx
  exact rule i t s _ _ ⟨.int (g i), H, I.tok _, ⟨_, rfl⟩, q⟩
theorem un_neg : UnR X (unaryOp .USub) (rU fun i => .int (-i)) := unI fun _ _ _ _ _ q => neg_int q
theorem un_inv : UnR X (unaryOp .Invert) (rU fun i => .int (Builtin.bitNot i)) := unI fun _ _ _ _ _ q => invert_int q
end
/-- the scalars that == tells apart as data does -/
def scal : V → V → Bool
  | .non, .non => true | .non, .int _ => true | .int _, .non => true | .non, .bl _ => true | .bl _, .non => true | .non, .str _ => true | .str _, .non => true
  | .int _, .int _ => true | .bl _, .bl _ => true | .str _, .str _ => true | .byt _, .byt _ => true
  | .int _, .str _ => true | .str _, .int _ => true | .bl _, .str _ => true | .str _, .bl _ => true
  | _, _ => false
def rEq : R2 := fun x y H Q => scal x y = true ∧ Q (.bl (decide (x = y))) H
def rNe : R2 := fun x y H Q => scal x y = true ∧ Q (.bl (!decide (x = y))) H
theorem dec_int {i j : Int} : decide (V.int i = V.int j) = (i == j) := by
  rw [Bool.eq_iff_iff]
  simp
theorem dec_bl {i j : Bool} : decide (V.bl i = V.bl j) = (i == j) := by
  rw [Bool.eq_iff_iff]
  simp
theorem dec_str {i j : Str} : decide (V.str i = V.str j) = (i == j) := by
  rw [Bool.eq_iff_iff]
  simp
theorem dec_byt {i j : Array UInt8} : decide (V.byt i = V.byt j) = (i.toList == j.toList) := by
  rw [Bool.eq_iff_iff]
  cases i
  cases j
  simp
section
variable {X : Cx} {a b c : Expr} {ta tb tc : TE} {pos : Pos}
theorem fin_bl {pins : List (Addr × Obj)} {σ : St} {H : Hp} {s : Shared} {Q : VK} {k k' : Bool} (I : Inv X pins σ H s) (q : Q (.bl k) H) (e : k = k') : EP X pins σ Q (.bool k') s := by
  subst e
  exact ⟨.bl k, H, I, rfl, q⟩
theorem op_eq : OpR X (compareOp .Eq) rEq := by
  intro pins s σ H x y v u Q I rx ry h
  obtain ⟨hs, q⟩ := h
  cases x with
  | non =>
    cases rx
    cases y with
    | non => cases ry; exact PySem.EqNone.eq_none_none (fin_bl I q (by simp))
    | bl j => cases ry; exact PySem.EqNone.eq_none_bool (fin_bl I q (by simp))
    | int j => obtain ⟨t', rfl⟩ := ry; exact PySem.EqNone.eq_none_int (fin_bl I q (by simp))
    | str j => obtain ⟨t', rfl⟩ := ry; exact PySem.EqNone.eq_none_str (fin_bl I q (by simp))
    | _ => exact absurd (show false = true from hs) Bool.false_ne_true
  | bl i =>
    cases rx
    cases y with
    | non => cases ry; exact PySem.EqNone.eq_bool_none (fin_bl I q (by simp))
    | bl j => cases ry; exact eq_bool (fin_bl I q dec_bl)
    | str j => obtain ⟨t', rfl⟩ := ry; exact PySem.EqMixed.eq_bool_str (fin_bl I q (by simp))
    | _ => exact absurd (show false = true from hs) Bool.false_ne_true
  | int i =>
    obtain ⟨t, rfl⟩ := rx
    cases y with
    | non => cases ry; exact PySem.EqNone.eq_int_none (fin_bl I q (by simp))
    | int j => obtain ⟨t', rfl⟩ := ry; exact eq_int (fin_bl I q dec_int)
    | str j => obtain ⟨t', rfl⟩ := ry; exact PySem.EqMixed.eq_int_str (fin_bl I q (by simp))
    | _ => exact absurd (show false = true from hs) Bool.false_ne_true
  | str i =>
    obtain ⟨t, rfl⟩ := rx
    cases y with
    | non => cases ry; exact PySem.EqNone.eq_str_none (fin_bl I q (by simp))
    | bl j => cases ry; exact PySem.EqMixed.eq_str_bool (fin_bl I q (by simp))
    | int j => obtain ⟨t', rfl⟩ := ry; exact PySem.EqMixed.eq_str_int (fin_bl I q (by simp))
    | str j => obtain ⟨t', rfl⟩ := ry; exact eq_str (fin_bl I q dec_str)
    | _ => exact absurd (show false = true from hs) Bool.false_ne_true
  | byt i =>
    obtain ⟨t, rfl⟩ := rx
    cases y with
    | byt j => obtain ⟨t', rfl⟩ := ry; exact PySem.W.eq_bytes (fin_bl I q dec_byt)
    | _ => exact absurd (show false = true from hs) Bool.false_ne_true
  | _ => cases y <;> exact absurd (show false = true from hs) Bool.false_ne_true
theorem op_ne : OpR X (compareOp .NotEq) rNe := by
  intro pins s σ H x y v u Q I rx ry h
  obtain ⟨hs, q⟩ := h
  cases x with
  | non =>
    cases rx
    cases y with
    | non => cases ry; exact PySem.EqNone.ne_none_none (fin_bl I q (by simp))
    | bl j => cases ry; exact PySem.EqNone.ne_none_bool (fin_bl I q (by simp))
    | int j => obtain ⟨t', rfl⟩ := ry; exact PySem.EqNone.ne_none_int (fin_bl I q (by simp))
    | str j => obtain ⟨t', rfl⟩ := ry; exact PySem.EqNone.ne_none_str (fin_bl I q (by simp))
    | _ => exact absurd (show false = true from hs) Bool.false_ne_true
  | bl i =>
    cases rx
    cases y with
    | non => cases ry; exact PySem.EqNone.ne_bool_none (fin_bl I q (by simp))
    | bl j => cases ry; exact ne_bool (fin_bl I q (congrArg not dec_bl))
    | str j => obtain ⟨t', rfl⟩ := ry; exact PySem.EqMixed.ne_bool_str (fin_bl I q (by simp))
    | _ => exact absurd (show false = true from hs) Bool.false_ne_true
  | int i =>
    obtain ⟨t, rfl⟩ := rx
    cases y with
    | non => cases ry; exact PySem.EqNone.ne_int_none (fin_bl I q (by simp))
    | int j => obtain ⟨t', rfl⟩ := ry; exact ne_int (fin_bl I q (congrArg not dec_int))
    | str j => obtain ⟨t', rfl⟩ := ry; exact PySem.EqMixed.ne_int_str (fin_bl I q (by simp))
    | _ => exact absurd (show false = true from hs) Bool.false_ne_true
  | str i =>
    obtain ⟨t, rfl⟩ := rx
    cases y with
    | non => cases ry; exact PySem.EqNone.ne_str_none (fin_bl I q (by simp))
    | bl j => cases ry; exact PySem.EqMixed.ne_str_bool (fin_bl I q (by simp))
    | int j => obtain ⟨t', rfl⟩ := ry; exact PySem.EqMixed.ne_str_int (fin_bl I q (by simp))
    | str j => obtain ⟨t', rfl⟩ := ry; exact ne_str (fin_bl I q (congrArg not dec_str))
    | _ => exact absurd (show false = true from hs) Bool.false_ne_true
  | byt i =>
    obtain ⟨t, rfl⟩ := rx
    cases y with
    | byt j => obtain ⟨t', rfl⟩ := ry; exact PySem.W.ne_bytes (fin_bl I q (congrArg not dec_byt))
    | _ => exact absurd (show false = true from hs) Bool.false_ne_true
  | _ => cases y <;> exact absurd (show false = true from hs) Bool.false_ne_true
theorem op_lt : OpR X (compareOp .Lt) (rI0 fun i j => .bl (decide (i < j))) := opB0 fun _ _ _ _ _ _ _ q => lt_int q
theorem op_le : OpR X (compareOp .LtE) (rI0 fun i j => .bl (decide (i ≤ j))) := opB0 fun _ _ _ _ _ _ _ q => le_int q
theorem op_gt : OpR X (compareOp .Gt) (rI0 fun i j => .bl (decide (j < i))) := opB0 fun _ _ _ _ _ _ _ q => gt_int q
theorem op_ge : OpR X (compareOp .GtE) (rI0 fun i j => .bl (decide (j ≤ i))) := opB0 fun _ _ _ _ _ _ _ q => ge_int q
/-- two rules for one operation: by cases -/
theorem OpR.or {f : Value → Value → Sem Value} {r r' : R2} (h : OpR X f r) (h' : OpR X f r') : OpR X f (fun x y H Q => r x y H Q ∨ r' x y H Q) := by
  intro pins s σ H x y v u Q I rx ry q
  rcases q with q | q
  · exact h pins s σ H x y v u Q I rx ry q
  · exact h' pins s σ H x y v u Q I rx ry q
theorem nomark (b : Expr) {op : CmpOp} (h : op ≠ .In := by decide) (h2 : op ≠ .NotIn := by decide) : behindInMarks op b = false := by
  have e1 : (op == CmpOp.In) = false := by cases op <;> first | rfl | exact absurd rfl h
  have e2 : (op == CmpOp.NotIn) = false := by cases op <;> first | rfl | exact absurd rfl h2
  cases b <;> simp [behindInMarks, e1, e2]
/-- a comparison as a value; hm: nomark b, or (for in, not in) by with_unfolding_all rfl -/
theorem pe_cmpR {op : CmpOp} {r : R2} (ho : OpR X (compareOp op) r) (ha : PE X a ta) (hb : PE X b tb) (hm : behindInMarks op b = false) : PE X (.Compare a [op] [b] pos) (tOp r ta tb) := by
  intro pins s σ H Q I h
  exact wpAny_Compare1 (binT ha hb I h fun v u s2 x y H2 I2 rx ry q => ho pins s2 σ H2 x y v u Q I2 rx ry q) hm
/-- a reading of a value as a test -/
def tTest (t : TE) : TT := fun σ H Q => t σ H fun x H' => ∃ k, x = .bl k ∧ Q k H'
theorem pt_cmpR {op : CmpOp} {r : R2} (ho : OpR X (compareOp op) r) (ha : PE X a ta) (hb : PE X b tb) (hm : behindInMarks op b = false) : PT X (.Compare a [op] [b] pos) (tTest (tOp r ta tb)) := by
  intro pins s σ H Q I h
  refine wpAny_isTrue_Compare1 (thn (ha pins s σ H _ I h) fun v s1 ⟨x, H1, I1, r1, q1⟩ => thn (hb pins s1 σ H1 _ I1 q1) fun u s2 ⟨y, H2, I2, r2, q2⟩ =>
    thn (ho pins s2 σ H2 x y v u _ I2 r1 r2 q2) fun c s3 ⟨z, H3, I3, r3, k, e, q3⟩ => ?_) hm
  subst e
  cases r3
  exact wpAny_truthy_bool ⟨H3, I3, q3⟩
/-- a op1 b op2 c -/
def tChain (r r' : R2) (ta tb tc : TE) : TE := fun σ H Q => ta σ H fun x H1 => tb σ H1 fun y H2 => r x y H2 fun z H3 => ∃ k, z = .bl k ∧
  (if k = true then tc σ H3 fun w' H4 => r' y w' H4 Q else Q (.bl false) H3)
theorem pe_chain {op op' : CmpOp} {r r' : R2} (ho : OpR X (compareOp op) r) (ho' : OpR X (compareOp op') r') (ha : PE X a ta) (hb : PE X b tb) (hc : PE X c tc)
    (hm : lastMarks [op, op'] [b, c] = false := by with_unfolding_all rfl) : PE X (.Compare a [op, op'] [b, c] pos) (tChain r r' ta tb tc) := by
  intro pins s σ H Q I h
  refine Compare_chain (thn (ha pins s σ H _ I h) fun v s1 ⟨x, H1, I1, r1, q1⟩ => chain_link (thn (hb pins s1 σ H1 _ I1 q1) fun u s2 ⟨y, H2, I2, r2, q2⟩ =>
    thn (ho pins s2 σ H2 x y v u _ I2 r1 r2 q2) fun d s3 ⟨z, H3, I3, r3, k, e, q3⟩ => ?_)) hm
  subst e
  cases r3
  refine wpAny_truthy_bool ?_
  cases k with
  | false => exact ite_ff ⟨.bl false, H3, I3, rfl, q3⟩
  | true => exact ite_tt (chain_last (thn (hc pins s3 σ H3 _ I3 q3) fun w' s4 ⟨z', H4, I4, r4, q4⟩ => ho' pins s4 σ H4 y z' u w' Q I4 r2 r4 q4))
theorem pt_chain {op op' : CmpOp} {r r' : R2} (ho : OpR X (compareOp op) r) (ho' : OpR X (compareOp op') r') (ha : PE X a ta) (hb : PE X b tb) (hc : PE X c tc)
    (hm : lastMarks [op, op'] [b, c] = false := by with_unfolding_all rfl) : PT X (.Compare a [op, op'] [b, c] pos) (tTest (tChain r r' ta tb tc)) := by
  intro pins s σ H Q I h
  refine isTrue_chain (thn (ha pins s σ H _ I h) fun v s1 ⟨x, H1, I1, r1, q1⟩ => test_link (thn (hb pins s1 σ H1 _ I1 q1) fun u s2 ⟨y, H2, I2, r2, q2⟩ =>
    thn (ho pins s2 σ H2 x y v u _ I2 r1 r2 q2) fun d s3 ⟨z, H3, I3, r3, k, e, q3⟩ => ?_)) hm
  subst e
  cases r3
  refine wpAny_truthy_bool ?_
  cases k with
  | false =>
    obtain ⟨k', e', q'⟩ := q3
    cases e'
    exact ite_ff ⟨H3, I3, q'⟩
  | true =>
    refine ite_tt (test_last (thn (hc pins s3 σ H3 _ I3 q3) fun w' s4 ⟨z', H4, I4, r4, q4⟩ => thn (ho' pins s4 σ H4 y z' u w' _ I4 r2 r4 q4) fun d' s5 ⟨z2, H5, I5, r5, k2, e2, q5⟩ => ?_))
    subst e2
    cases r5
    exact wpAny_truthy_bool ⟨H5, I5, q5⟩
/-- a value's truth by the abstract heap -/
def TruV (K : PySem.W.Frag) (x : V) (H : Hp) (k : Bool) : Prop :=
  match x with
  | .non => k = false
  | .bl b => k = b
  | .int i => k = (i != 0)
  | .str y => y.length ≤ sizeLine ∧ k = ((y.length : Int) != 0)
  | .byt y => y.size ≤ sizeLine ∧ k = ((y.size : Int) != 0)
  | .ref p => (∃ xs, SqL K H p xs ∧ k = !xs.isEmpty) ∨ (∃ xs, SqT K H p xs ∧ k = !xs.isEmpty) ∨ ∃ kvs, H p = some (.dK kvs) ∧ k = !kvs.isEmpty
  | _ => False
theorem isEmpty_kv {κ : Type} {kvs : List (κ × V)} {vs : List (κ × Value)} (r : KV kvs vs) : (!vs.isEmpty) = !kvs.isEmpty := by
  cases r <;> rfl
theorem isEmpty_of {xs : List V} {its : List Value} (r : Vals xs its) : (!its.toArray.isEmpty) = !xs.isEmpty := by
  cases r <;> simp
theorem line63 : (sizeLine : Nat) < 2 ^ 63 := by rw [sizeLine_eq]; decide
theorem tru_ok : TruR X (fun x H Q => ∃ k, TruV X.K x H k ∧ Q k H) := by
  intro pins s σ H x v Q I rx h
  obtain ⟨k, e, q⟩ := h
  have hl := line63
  have hs : sizeLine = 16777216 := sizeLine_eq
  cases x with
  | non =>
    cases rx
    have e' : k = false := e
    subst e'
    exact truthy_none ⟨H, I, q⟩
  | bl b =>
    cases rx
    have e' : k = b := e
    subst e'
    exact wpAny_truthy_bool ⟨H, I, q⟩
  | int i =>
    obtain ⟨t, rfl⟩ := rx
    have e' : k = (i != 0) := e
    subst e'
    exact PySem.P.truthy_int ⟨H, I, q⟩
  | str y =>
    obtain ⟨t, rfl⟩ := rx
    obtain ⟨hy, e'⟩ : y.length ≤ sizeLine ∧ k = ((y.length : Int) != 0) := e
    subst e'
    exact PySem.P.truthy_str (by omega) ⟨H, I.tok _, q⟩
  | byt y =>
    obtain ⟨t, rfl⟩ := rx
    obtain ⟨hy, e'⟩ : y.size ≤ sizeLine ∧ k = ((y.size : Int) != 0) := e
    subst e'
    exact PySem.W.truthy_bytes (by omega) ⟨H, I.tok _, q⟩
  | ref p =>
    cases rx
    have e' : (∃ xs, SqL X.K H p xs ∧ k = !xs.isEmpty) ∨ (∃ xs, SqT X.K H p xs ∧ k = !xs.isEmpty) ∨ ∃ kvs, H p = some (.dK kvs) ∧ k = !kvs.isEmpty := e
    rcases e' with ⟨xs, hx, e'⟩ | ⟨xs, hx, e'⟩ | ⟨kvs, hx, e'⟩
    · subst e'
      obtain ⟨its, r, pl, hz⟩ := I.list hx
      have hlen := r.length
      exact wpAny_truthy_list pl.isList (by simp only [List.size_toArray]; omega) ⟨H, I.tok _, by rw [isEmpty_of r]; exact q⟩
    · subst e'
      obtain ⟨its, r, pl, hz⟩ := I.tuple hx
      have hlen := r.length
      exact truthy_tuple pl (by simp only [List.size_toArray]; omega) ⟨H, I.tok _, by rw [isEmpty_of r]; exact q⟩
    · subst e'
      obtain ⟨hz, hS, vs, r, m⟩ : kvs.length ≤ sizeLine ∧ (p == sysModules) = false ∧ ∃ vs, KV kvs vs ∧ s.heap.DictOf (mixKind X.prog X.w) p vs := I.hok p _ hx
      have hlen : kvs.length = vs.length := Paired.length r
      exact wpAny_truthy_dict hS m (by omega) ⟨H, I.tok _, by rw [isEmpty_kv r]; exact q⟩
  | _ => exact (show False from e).elim
/-- any expression whose test is its value's truth (a name, a call, a subscript, a field ..: he by fun _ => rfl) -/
theorem pt_truth (ha : PE X a ta) (he : ∀ whole, isTrue a X.env whole = (do let v ← whole; standAt a.pos; holding [v] (truthy v))) :
    PT X a (fun σ H Q => ta σ H fun x H' => ∃ k, TruV X.K x H' k ∧ Q k H') := by
  intro pins s σ H Q I h
  exact isTrue_plain (thn (ha pins s σ H _ I h) fun v s1 ⟨x, H1, I1, r1, q1⟩ => tru_ok pins s1 σ H1 x v Q I1 r1 q1) (he _)
theorem vals1 {x : V} {us : List Value} (r : Vals [x] us) : ∃ u, us = [u] ∧ RelV x u := by
  cases r with
  | cons r1 r2 => cases r2; exact ⟨_, rfl, r1⟩
theorem call_abs : CallR X (.builtin "abs") (fun xs H Q => ∃ i, xs = [.int i] ∧ Q (.int (if i < 0 then -i else i)) H) := by
  intro pins s σ H xs us Q I r h
  obtain ⟨i, rfl, q⟩ := h
  obtain ⟨u, rfl, t, rfl⟩ := vals1 r
  exact call_abs_int fun u tk => ⟨.int (if i < 0 then -i else i), H, I.tok _, ⟨_, rfl⟩, q⟩
end
end L2
namespace L2
open PySem PySem.Spec PyProof.Rows
structure ObjM (h : Heap) (x dx C : Addr) (mA : Str → Option Value) : Prop where
  obj : h.get? x = some (PySem.W.instObj C dx)
  ns : h.Ns1 dx mA
  ne : dx ≠ x
theorem lookIn_ns {h : Heap} {dx : Addr} {mA : Str → Option Value} (n : h.Ns1 dx mA) : ∃ od, h.get? dx = some od ∧ ∀ name, PySem.W.lookIn name od = some (mA name) := by
  obtain ⟨o, es, ep, ho, hd, hk, _, hm⟩ := n
  refine ⟨o, ho, fun name => ?_⟩
  have e := hm name
  unfold nsFind findBy at e
  rw [← Array.find?_toList] at e
  unfold PySem.W.lookIn
  rw [hd]
  dsimp only
  split
  · rename_i y q
    rw [q] at e
    exact congrArg some e
  · rename_i q
    rw [q] at e
    have a : es.toList.any (·.refKey) = false := by
      rw [List.any_eq_false]
      intro y hy
      obtain ⟨z, t, hkey⟩ := hk y (Array.mem_toList_iff.mp hy)
      simp [DictEntry.refKey, hkey]
    have a' : ¬ es.toList.any (·.refKey) = true := by rw [a]; exact Bool.false_ne_true
    rw [if_neg a']
    exact congrArg some e
theorem ObjM.look {h : Heap} {x dx C : Addr} {mA : Str → Option Value} (I : ObjM h x dx C mA) : ∃ od, PySem.W.InstAt h x (PySem.W.instObj C dx) C (some od) ∧ ∀ name, PySem.W.lookIn name od = some (mA name) :=
  let ⟨od, ho, hl⟩ := lookIn_ns I.ns
  ⟨od, ⟨I.obj, rfl, rfl, ho⟩, hl⟩
section
variable {prog : Program} {w : World} {A : Around} {E : Value → Shared → Prop} {s : Shared} {K : PySem.W.Frag} {x dx C f : Addr} {mA : Str → Option Value} {name : Str} {v : Value}
theorem get_map {expr : Bool} {Q : Value → Shared → Prop} (X : K.In s.heap) (I : ObjM s.heap x dx C mA) (hg : PySem.W.plainGet K C name = true) (hh : PySem.W.hasDictIn K C = true)
    (ha : PySem.W.findIn K (.ref C) name = some none) (hv : mA name = some v) (hv' : PySem.W.handedIn v = true) (h : Q v { s with toks := s.toks + 1 }) :
    wpAny (model prog w) A (getAttr (.ref x) name expr) Q E s := by
  obtain ⟨od, J, hl⟩ := I.look
  exact PySem.W.get_value X J (PySem.W.plainGet_of hg).1 (PySem.W.findObj_own hh ha rfl (by rw [hl, hv])) hv' h
theorem get_meth {pl : Sem Bool} {Q : Value × List Value → Shared → Prop} (X : K.In s.heap) (I : ObjM s.heap x dx C mA) (hg : PySem.W.plainGet K C name = true)
    (hf : PySem.W.findIn K (.ref C) name = some (some (.ref f))) (ht : PySem.W.isFn K (.ref f) = true) (hv : mA name = none) (h : Q (.ref f, [.ref x]) s) :
    wpAny (model prog w) A (getMethod (.ref x) name pl) Q E s := by
  obtain ⟨od, J, hl⟩ := I.look
  exact PySem.W.method_fn X J (PySem.W.plainGet_of hg).1 (PySem.W.plainGet_of hg).2 hf (beq_iff_eq.mp ht) (by show (PySem.W.lookIn name od).map (·.isSome) = some false; rw [hl, hv]; rfl) h
theorem set_map {ns : List Str} {Q : Unit → Shared → Prop} (X : K.In s.heap) (I : ObjM s.heap x dx C mA)
    (hs : PySem.W.findIn K (.ref C) "__setattr__" = some (some (.builtin "object.__setattr__"))) (hp : PySem.W.plainOver K C = true) (ht : PySem.W.takerIn K C name = some none) (hh : PySem.W.hasDictIn K C = true)
    (hw : PySem.Within mA ns) (hsz : ns.length ≤ sizeLine)
    (h : ∀ h', ObjM h' x dx C (fun y => if y = name then some v else mA y) → Heap.SameBut dx s.heap h' → Q () { s with heap := h', toks := s.toks + 2 }) :
    wpAny (model prog w) A (setAttr (.ref x) name v) Q E s := by
  obtain ⟨od, J, hl⟩ := I.look
  refine PySem.W.set_plain X J hs (PySem.W.osa_open (s := { s with toks := s.toks + 1 }) (r := none) X J hp ht fun b => ?_)
  obtain ⟨cd, hc, hd'⟩ := PySem.W.any_some hh
  have hx : s.heap.get? x = some ⟨.ref C, some dx, .plain, #[]⟩ := I.obj
  refine wpAny_bind (wpAny_pure (wpAny_bind (wpAny_bind (wpAny_loadPart hx (wpAny_bind (PySem.W.Looks.here (s := { s with toks := s.toks + 1 }) (PySem.W.looks_clsIn X hc) ?_))))))
  rw [hd']
  refine wpAny_pure (a := some dx) (wpAny_bind (wpAny_pure (wpAny_bind ?_)))
  refine wpAny_nsSet1 (s := { s with toks := s.toks + 1 }) I.ns fun h' hn2 hs2 => ?_
  obtain ⟨oD, esD, epD, hoD, hdD, hcD⟩ := hn2.count (PySem.Within.cons name v hw)
  refine wpAny_bind (wpAny_lookBehind hoD (by rw [hdD]; exact pastItsLine_dict (Nat.le_trans hcD (by rw [List.length_cons]; omega))) ?_)
  exact wpAny_pure (h _ ⟨(hs2.2 _ (Ne.symm I.ne)).trans I.obj, hn2, I.ne⟩ hs2)
/-- C(..): the dict at the heap's end, the instance behind it; then its __init__ -/
theorem make_map {R : Result → Shared → Prop} {vs : List Value} {kw : List (Str × Value)} (X : K.In s.heap) (hm : PySem.W.makesIn K C = true)
    (hi : PySem.W.findIn K (.ref C) "__init__" = some (some (.ref f))) (hf : PySem.W.typeIn K (.ref f) = some (.type "function"))
    (h : codeAny (model prog w) (A.under (.builtin "type.__call__" ⟨.ref C :: vs, kw⟩)) (.call (.ref f) ⟨.ref (s.heap.objs.size + 1) :: vs, kw⟩) (PySem.W.InitBack (s.heap.objs.size + 1) R)
      { s with heap := (s.heap.push PySem.W.emptyDict).push (PySem.W.instObj C s.heap.objs.size) }) :
    codeAny (model prog w) A (.call (.ref C) ⟨vs, kw⟩) R s := by
  obtain ⟨hh, g, d, t, os⟩ := s
  exact PySem.W.make_core (PySem.W.makes_of X hm) (PySem.W.looks_findIn X hi) (fun self => PySem.W.bind_fn X self hf) (.inl rfl) h
end
def putF (f : Str) (v : V) : List (Str × V) → List (Str × V)
  | [] => [(f, v)]
  | (g, x) :: r => if g = f then (g, v) :: r else (g, x) :: putF f v r
theorem lookup_putF (f g : Str) (v : V) : ∀ fs : List (Str × V), (putF f v fs).lookup g = if g = f then some v else fs.lookup g
  | [] => by
    show List.lookup g [(f, v)] = _
    by_cases h : g = f
    · have hb : (g == f) = true := beq_iff_eq.mpr h
      simp only [List.lookup, hb, if_pos h]
    · have hb : (g == f) = false := beq_eq_false_iff_ne.mpr h
      simp only [List.lookup, hb, if_neg h]
  | (k, x) :: r => by
    have ih := lookup_putF f g v r
    rw [show putF f v ((k, x) :: r) = (if k = f then (k, v) :: r else (k, x) :: putF f v r) from rfl]
    by_cases hk : k = f
    · rw [if_pos hk]
      by_cases h : g = k
      · have hb : (g == k) = true := beq_iff_eq.mpr h
        simp only [List.lookup, hb, if_pos (h.trans hk)]
      · have hb : (g == k) = false := beq_eq_false_iff_ne.mpr h
        simp only [List.lookup, hb, if_neg (fun e : g = f => h (e.trans hk.symm))]
    · rw [if_neg hk]
      by_cases h : g = k
      · have hb : (g == k) = true := beq_iff_eq.mpr h
        simp only [List.lookup, hb, if_neg (fun e : g = f => hk (h.symm.trans e))]
      · have hb : (g == k) = false := beq_eq_false_iff_ne.mpr h
        simp only [List.lookup, hb]
        exact ih
theorem keys_putF (f : Str) (v : V) : ∀ fs : List (Str × V), f ∈ (putF f v fs).map (·.1) ∧ ∀ g, g ∈ fs.map (·.1) → g ∈ (putF f v fs).map (·.1)
  | [] => ⟨by simp [putF], fun g h => by simp at h⟩
  | (k, x) :: r => by
    obtain ⟨i1, i2⟩ := keys_putF f v r
    rw [show putF f v ((k, x) :: r) = (if k = f then (k, v) :: r else (k, x) :: putF f v r) from rfl]
    by_cases hk : k = f
    · rw [if_pos hk]
      subst hk
      exact ⟨by simp, fun g h => by simpa using h⟩
    · rw [if_neg hk]
      refine ⟨?_, fun g h => ?_⟩
      · rw [List.map_cons]
        exact List.mem_cons_of_mem _ i1
      · rw [List.map_cons] at h ⊢
        rcases List.mem_cons.mp h with e | e
        · exact List.mem_cons.mpr (.inl e)
        · exact List.mem_cons_of_mem _ (i2 g e)
theorem length_putF (f : Str) (v : V) : ∀ fs : List (Str × V), (putF f v fs).length ≤ fs.length + 1
  | [] => by simp [putF]
  | (k, x) :: r => by
    have ih := length_putF f v r
    rw [show putF f v ((k, x) :: r) = (if k = f then (k, v) :: r else (k, x) :: putF f v r) from rfl]
    by_cases hk : k = f
    · rw [if_pos hk, List.length_cons, List.length_cons]; omega
    · rw [if_neg hk, List.length_cons, List.length_cons]; omega
theorem RelO.some_of {v : V} {o : Option Value} (r : RelO (some v) o) : ∃ u, o = some u ∧ RelV v u := by
  cases o with
  | none => exact (show False from r).elim
  | some u => exact ⟨u, rfl, r⟩
theorem RelO.none_of {o : Option Value} (r : RelO none o) : o = none := by
  cases o with
  | none => rfl
  | some u => exact (show False from r).elim
theorem handed_of {v : V} {u : Value} (r : RelV v u) : PySem.W.handedIn u = true := by
  cases v with
  | non => cases (show u = Value.none from r); rfl
  | bl b => cases (show u = Value.bool b from r); rfl
  | int i => obtain ⟨t, e⟩ := (show ∃ t, u = Value.int i t from r); cases e; rfl
  | str x => obtain ⟨t, e⟩ := (show ∃ t, u = Value.str x t from r); cases e; rfl
  | byt b => obtain ⟨t, e⟩ := (show ∃ t, u = Value.bytes b t from r); cases e; rfl
  | flt b => obtain ⟨t, e⟩ := (show ∃ t, u = Value.float b t from r); cases e; rfl
  | ref a => cases (show u = Value.ref a from r); rfl
  | ty n => cases (show u = Value.type n from r); rfl
section
variable {P : Program} {w : World} {H H' : Hp} {h h' : Heap} {a C dx : Addr} {fs fs' : List (Str × V)}
theorem ins_get (hok : HOk P w H h) (e : H a = some (.ins C dx fs)) : ∃ mA, ObjM h a dx C mA ∧ (∀ f, RelO (fs.lookup f) (mA f)) ∧ PySem.Within mA (fs.map (·.1)) ∧ fs.length ≤ 1000 ∧ H dx = some (.own a) := by
  obtain ⟨d, z, ne, ob, mA, n, r, q⟩ := (show ObjOk P w H h a (.ins C dx fs) from hok a _ e)
  exact ⟨mA, ⟨ob, n, ne⟩, r, q, z, d⟩
end
structure Cls (K : PySem.W.Frag) (C : Addr) : Prop where
  pg : PySem.W.plainGet K C Str.empty = true
  hd : PySem.W.hasDictIn K C = true
  po : PySem.W.plainOver K C = true
  sa : PySem.W.findIn K (.ref C) "__setattr__" = some (some (.builtin "object.__setattr__"))
theorem Cls.get {K : PySem.W.Frag} {C : Addr} (c : Cls K C) (f : Str) : PySem.W.plainGet K C f = true := c.pg
/-- no class of it has the name -/
def NoAttr (K : PySem.W.Frag) (C : Addr) (f : Str) : Prop := PySem.W.findIn K (.ref C) f = some none
theorem NoAttr.taker {K : PySem.W.Frag} {C : Addr} {f : Str} (n : NoAttr K C f) : PySem.W.takerIn K C f = some none := by
  unfold PySem.W.takerIn
  rw [show PySem.W.findIn K (.ref C) f = some none from n]
  rfl
/-- a constant of the class -/
structure Con (K : PySem.W.Frag) (C : Addr) (f : Str) (v : V) (u : Value) : Prop where
  at_ : PySem.W.findIn K (.ref C) f = some (some u)
  rel : RelV v u
  get : PySem.W.specialIn K u "__get__" = some none
  cp : PySem.W.copiedNames.contains f = false
/-- a method: a plain def of the class or of one above it -/
structure Meth (K : PySem.W.Frag) (C : Addr) (m : Str) (f : Addr) : Prop where
  at_ : PySem.W.findIn K (.ref C) m = some (some (.ref f))
  fn : PySem.W.isFn K (.ref f) = true
  kp : PySem.W.keepIn K (.ref f) = true
section
variable {X : Cx} {pins : List (Addr × Obj)} {σ : St} {H : Hp} {s : Shared} {a C dx : Addr} {fs : List (Str × V)} {f : Str} {v : V} {A : Around} {E : Value → Shared → Prop}
theorem getattr_ok {b : Bool} {Q : Value → Shared → Prop} (I : Inv X pins σ H s) (e : H a = some (.ins C dx fs)) (c : Cls X.K C) (n : NoAttr X.K C f) (l : fs.lookup f = some v)
    (h : ∀ u s', Inv X pins σ H s' → RelV v u → Q u s') : wpAny (model X.prog X.w) A (getAttr (.ref a) f b) Q E s := by
  obtain ⟨mA, O, r, _, _, _⟩ := ins_get I.hok e
  obtain ⟨u, hu, ru⟩ := RelO.some_of (v := v) (o := mA f) (by rw [← l]; exact r f)
  exact get_map I.kIn O (c.get f) c.hd n hu (handed_of ru) (h u _ (I.tok _) ru)
theorem getmeth_ok {m : Str} {g : Addr} {pl : Sem Bool} {Q : Value × List Value → Shared → Prop} (I : Inv X pins σ H s) (e : H a = some (.ins C dx fs)) (c : Cls X.K C) (k : Meth X.K C m g) (l : fs.lookup m = none)
    (h : Q (.ref g, [.ref a]) s) : wpAny (model X.prog X.w) A (getMethod (.ref a) m pl) Q E s := by
  obtain ⟨mA, O, r, _, _, _⟩ := ins_get I.hok e
  have hn : mA m = none := RelO.none_of (by rw [← l]; exact r m)
  exact get_meth I.kIn O (c.get m) k.at_ k.fn hn h
theorem setattr_ok {y : V} {u : Value} {Q : Unit → Shared → Prop} (I : Inv X pins σ H s) (e : H a = some (.ins C dx fs)) (c : Cls X.K C) (n : NoAttr X.K C f) (hl : fs.length < 1000) (ry : RelV y u)
    (h : ∀ s', Inv X pins σ (upd H a (.ins C dx (putF f y fs))) s' → Q () s') : wpAny (model X.prog X.w) A (setAttr (.ref a) f u) Q E s := by
  obtain ⟨mA, O, r, wi, _, ho⟩ := ins_get I.hok e
  have hz : (fs.map (·.1)).length ≤ sizeLine := by rw [List.length_map, sizeLine_eq]; omega
  refine set_map I.kIn O c.sa c.po n.taker c.hd wi hz fun h' O' sb => h _ ?_
  have hd : ∃ o, h'.get? dx = some o := let ⟨o, _, _, e', _⟩ := O'.ns; ⟨o, e'⟩
  refine I.write (x := a) (e := dx) (by rw [e]; exact True.intro) (.inr ho) (fun b q hb z => (sb.2 b hb).trans z) hd ?_
  refine ⟨by rw [upd_ne O.ne]; exact ho, ?_, O.ne, O'.obj, _, O'.ns, fun g => ?_, fun g hg => ?_⟩
  · have := length_putF f y fs; omega
  · show RelO ((putF f y fs).lookup g) (if g = f then some u else mA g)
    rw [lookup_putF]
    by_cases q : g = f
    · rw [if_pos q, if_pos q]; exact ry
    · rw [if_neg q, if_neg q]; exact r g
  · by_cases q : g = f
    · rw [q]; exact (keys_putF f y fs).1
    · refine (keys_putF f y fs).2 g (wi g fun z => hg ?_)
      show (if g = f then some u else mA g) = none
      rw [if_neg q]; exact z
/-- a new instance, tracked, without attributes -/
theorem Inv.made (I : Inv X pins σ H s) : Inv X pins σ (upd (upd H s.heap.objs.size (.own (s.heap.objs.size + 1))) (s.heap.objs.size + 1) (.ins C s.heap.objs.size []))
    { s with heap := (s.heap.push PySem.W.emptyDict).push (PySem.W.instObj C s.heap.objs.size) } := by
  have e1 : (s.heap.push PySem.W.emptyDict).get? s.heap.objs.size = some PySem.W.emptyDict := Heap.get?_push_size s.heap rfl
  have e2 : ((s.heap.push PySem.W.emptyDict).push (PySem.W.instObj C s.heap.objs.size)).get? (s.heap.objs.size + 1) = some (PySem.W.instObj C s.heap.objs.size) := by
    have := Heap.get?_push_size (s.heap.push PySem.W.emptyDict) (o := PySem.W.instObj C s.heap.objs.size) rfl
    rwa [Heap.size_push] at this
  have e3 : (s.heap.push PySem.W.emptyDict).Ns s.heap.objs.size (fun _ => none) := ⟨PySem.W.emptyDict, #[], _, e1, rfl, (fun e he => absurd he (by simp)), fun _ => rfl⟩
  have I1 := I.laid (a := s.heap.objs.size) (o := .own (s.heap.objs.size + 1)) (h' := s.heap.push PySem.W.emptyDict) (t' := s.toks) (fun b u q => Heap.get?_push_of_some _ q) (Nat.le_refl _) ⟨_, e1⟩
  refine I1.laid (a := s.heap.objs.size + 1) (o := .ins C s.heap.objs.size []) (t' := s.toks) (fun b u q => Heap.get?_push_of_some _ q) (Nat.le_of_eq (Heap.size_push _ _)) ?_
  have ne : s.heap.objs.size ≠ s.heap.objs.size + 1 := Nat.ne_of_lt (Nat.lt_succ_self _)
  refine ⟨by rw [upd_ne ne, upd_same], Nat.zero_le _, ne, e2, fun _ => none, (Heap.Ns1.of_empty e3).at fun o q => Heap.get?_push_of_some _ q, fun _ => True.intro, fun y hy => absurd rfl hy⟩
/-- e.f where nothing but the object is asked: through attributeBase (super) and the last hold -/
theorem attr_of {prog : Program} {w : World} {env : Env} {e : Expr} {f : Str} {pos : Pos} {s : Shared} {Q : Value → Shared → Prop} (hb : attributeBase e f env (eval e env) = eval e env)
    (h : wpAny (model prog w) A (eval e env) (fun o s₁ => wpAny (model prog w) A (getAttr o f true) Q E s₁) E s) : wpAny (model prog w) A (eval (.Attribute e f pos) env) Q E s :=
  Attribute_any_ h (by rw [arm_eval_Attribute, hb])
end
/-- e.f, an attribute of the instance -/
def tFld (K : PySem.W.Frag) (ta : TE) (f : Str) : TE := fun σ H Q => ta σ H fun x H1 => ∃ a C dx fs v, x = .ref a ∧ H1 a = some (.ins C dx fs) ∧ Cls K C ∧ NoAttr K C f ∧ fs.lookup f = some v ∧ Q v H1
/-- e.f = value -/
def sFld (K : PySem.W.Frag) (ta tv : TE) (f : Str) : TS := fun D σ H => tv σ H fun y H1 => ta σ H1 fun x H2 => ∃ a C dx fs, x = .ref a ∧ H2 a = some (.ins C dx fs) ∧ Cls K C ∧ NoAttr K C f ∧ fs.length < 1000 ∧
  D.nx σ (upd H2 a (.ins C dx (putF f y fs)))
section
variable {X : Cx} {o e value : Expr} {f : Str} {pos pos' tpos : Pos} {ta tv : TE}
theorem pe_fld (he : PE X e ta) (hb : attributeBase e f X.env (eval e X.env) = eval e X.env) : PE X (.Attribute e f pos) (tFld X.K ta f) := by
  intro pins s σ H Q I h
  refine attr_of hb (thn (he pins s σ H _ I h) fun u s1 ⟨x, H1, I1, rx, a, C, dx, fs, v, ex, ea, c, n, l, q⟩ => ?_)
  subst ex
  obtain rfl : u = Value.ref a := rx
  exact getattr_ok I1 ea c n l fun u' s2 I2 ru => ⟨v, H1, I2, ru, q⟩
theorem ps_fld (ha : PE X o ta) (hv : PE X value tv) (hs : swapsWith value (some (.Attribute o f pos')) pos.line X.env = pure false) : PS X (.Assign [.Attribute o f pos'] value pos) (sFld X.K ta tv f) := by
  intro pins s σ H D I h
  refine plainObj_wpAny_Assign_Attribute (thn (hv pins s σ H _ I h) fun u s1 ⟨y, H1, I1, ry, q⟩ => thn (ha pins s1 σ H1 _ I1 q) fun ov s2 ⟨x, H2, I2, rx, a, C, dx, fs, ex, ea, c, n, l, q2⟩ => ?_) hs
  subst ex
  obtain rfl : ov = Value.ref a := rx
  exact setattr_ok I2 ea c n l ry fun s3 I3 => ⟨σ, _, I3, q2⟩
end
section
variable {X : Cx} {pins : List (Addr × Obj)} {σ : St} {H : Hp} {s : Shared} {A : Around} {E : Value → Shared → Prop} {Q : Value → Shared → Prop} {c : Value} {b : Bool}
/-- the type of a value, as the fragment's deciders take it; for an instance its class -/
inductive TyOf (K : PySem.W.Frag) (H : Hp) : V → Value → Prop where
  | non : TyOf K H .non (.type "NoneType")
  | bl (x : Bool) : TyOf K H (.bl x) (.type "bool")
  | int (i : Int) : TyOf K H (.int i) (.type "int")
  | str (x : Str) : TyOf K H (.str x) (.type "str")
  | flt (x : UInt64) : TyOf K H (.flt x) (.type "float")
  | lst {a : Addr} {xs : List V} (e : H a = some (.lst xs)) : TyOf K H (.ref a) (.type "list")
  | frz {a : Addr} {o : Obj} {xs : List V} (e : H a = some (.frz o (.lst xs))) : TyOf K H (.ref a) (.type "list")
  | tup {a : Addr} {xs : List V} (e : H a = some (.tup xs)) : TyOf K H (.ref a) (.type "tuple")
  | dK {a : Addr} {kvs : List (Key × V)} (e : H a = some (.dK kvs)) : TyOf K H (.ref a) (.type "dict")
  | dT {a : Addr} {kvs : List (List Key × V)} (e : H a = some (.dT kvs)) : TyOf K H (.ref a) (.type "dict")
  | ins {a C dx : Addr} {fs : List (Str × V)} (e : H a = some (.ins C dx fs)) (cl : Cls K C) (ha : PySem.W.findIn K (.ref C) "__class__" = some (some (.builtin "object.__class__")))
      (hn : PySem.W.specialIn K (.builtin "object.__class__") "__get__" = some (some (.builtin "getset_descriptor.__get__"))) (htk : PySem.W.takesIn K (.builtin "object.__class__") = some true)
      (hm : PySem.W.mroIn K C (.type "object") = some true) : TyOf K H (.ref a) (.ref C)
end
end L2
namespace L2
open PySem PySem.Spec PyProof.Rows
structure Room (k : Nat) (A : Around) : Prop where
  hd : A.handled = none
  dp : A.depth + 3 * k + 5 < recursionLimit
  un : A.units + 16 * k + 200 < cLine
theorem Room.mono {j k : Nat} {A : Around} (r : Room k A) (h : j ≤ k) : Room j A := ⟨r.hd, by have := r.dp; omega, by have := r.un; omega⟩
theorem Room.deeper {k : Nat} {A : Around} (r : Room (k + 1) A) (env : Env) : Room k (A.deeper env) :=
  ⟨r.hd, by have := r.dp; show A.depth + 1 + 3 * k + 5 < _; omega, by have := r.un; show A.units + 3 + 16 * k + 200 < _; omega⟩
theorem make_depth {A : Around} {C : Addr} {us : List Value} {kw : List (Str × Value)} : (A.under (.builtin "type.__call__" ⟨.ref C :: us, kw⟩)).depth = A.depth + 1 := by
  first | rfl | simp [Around.under, Code.weight, Code.isCreation, Code.isGuard, Code.isCaller, Code.frames, Code.isFrame, guardIds]
theorem make_units {A : Around} {C : Addr} {us : List Value} {kw : List (Str × Value)} : (A.under (.builtin "type.__call__" ⟨.ref C :: us, kw⟩)).units = A.units + 1 := by
  first | rfl | simp [Around.under, Code.cUnits, Code.frames, Code.isFrame]
theorem Room.make {k : Nat} {A : Around} (r : Room (k + 1) A) (C : Addr) (us : List Value) (kw : List (Str × Value)) : Room k (A.under (.builtin "type.__call__" ⟨.ref C :: us, kw⟩)) :=
  ⟨r.hd, by have := r.dp; rw [make_depth]; omega, by have := r.un; rw [make_units]; omega⟩
theorem Room.depth {k : Nat} {A : Around} (r : Room k A) : A.depth < recursionLimit := by have := r.dp; omega
theorem Room.units {k : Nat} {A : Around} (r : Room k A) : A.units + 64 < cLine := by have := r.un; omega
def tNil : TA := fun _ H Q => Q [] H
def tCons (ta : TE) (tr : TA) : TA := fun σ H Q => ta σ H fun x H1 => tr σ H1 fun xs H2 => Q (x :: xs) H2
section
variable {X : Cx} {e : Expr} {es : List Expr} {te : TE} {t : TA} {pos : Pos}
theorem pa_nil : PA X [] tNil := fun _ _ _ _ H Q I h => Calls.spliced_nil ⟨[], H, I, .nil, h⟩
theorem pa_cons (ha : PE X e te) (hr : PA X es t) (hs : starEach (e :: es) X.env = (false, eval e X.env) :: starEach es X.env := by rfl) : PA X (e :: es) (tCons te t) := by
  intro pos pins s σ H Q I h
  rw [hs]
  show wpAny _ _ (spliced ((false, eval e X.env) :: backTo pos (starEach es X.env))) _ _ s
  refine Calls.spliced_cons (thn (ha pins s σ H _ I h) fun u s1 ⟨x, H1, I1, r1, q1⟩ => ?_)
  exact thn (hr pos pins s1 σ H1 _ I1 q1) fun us s2 ⟨xs, H2, I2, r2, q2⟩ => ⟨x :: xs, H2, I2, .cons r1 r2, q2⟩
/-- a tuple, a list of written items -/
def tTup (t : TA) : TE := fun σ H Q => t σ H fun xs H1 => xs.length ≤ sizeLine ∧ ∀ p, H1 p = none → Q (.ref p) (upd H1 p (.tup xs))
def tLst (t : TA) : TE := fun σ H Q => t σ H fun xs H1 => xs.length ≤ sizeLine ∧ ∀ p, H1 p = none → Q (.ref p) (upd H1 p (.lst xs))
theorem pe_tup {x1} (h : PA X es t) : PE X (.Tuple es x1 pos) (tTup t) := by
  intro pins s σ H Q I hq
  refine wpAny_Tuple_spliced (thn (h pos pins s σ H _ I hq) fun us s1 ⟨xs, H1, I1, r, z, q⟩ => ⟨by rw [← r.length]; exact z, ?_⟩)
  have hf : H1 s1.heap.objs.size = none := I1.hok.fresh (Nat.le_refl _)
  refine ⟨.ref s1.heap.objs.size, upd H1 s1.heap.objs.size (.tup xs), I1.laid (t' := s1.toks) (fun b u e => Heap.get?_push_of_some _ e) (Nat.le_refl _) ?_, rfl, q _ hf⟩
  exact ⟨z, us, r, ⟨_, Heap.get?_push_size _ rfl, rfl, _, rfl⟩⟩
theorem pe_lst (h : PA X es t) : PE X (.List es pos) (tLst t) := by
  intro pins s σ H Q I hq
  refine wpAny_List_spliced (thn (h pos pins s σ H _ I hq) fun us s1 ⟨xs, H1, I1, r, z, q⟩ => ⟨by rw [← r.length]; exact z, ?_⟩)
  have hf : H1 s1.heap.objs.size = none := I1.hok.fresh (Nat.le_refl _)
  refine ⟨.ref s1.heap.objs.size, upd H1 s1.heap.objs.size (.lst xs), I1.laid (t' := s1.toks) (fun b u e => Heap.get?_push_of_some _ e) (Nat.le_refl _) ?_, rfl, q _ hf⟩
  exact ⟨z, us, 0, r, Heap.get?_push_size _ rfl⟩
end
/-- a def's promise: the bound arguments in the parameters' order, the heap, the wanted end, the wanted exception -/
abbrev Sp := List V → Hp → VK → XK → Prop
/-- how an exception lies behind a call (file 08 gives it): the callers' frames, abstract heap and state ahead of the call, the wish, the exception, the state -/
abbrev CXT := List Env → Hp → Shared → XK → Value → Shared → Prop
/-- the state at a call -/
structure Env0 (P : Program) (w : World) (K : PySem.W.Frag) (mg : Str → Option Value) (base : Heap) (A : Around) (outer : List Env) (s : Shared) (H : Hp) : Prop where
  frames : A.frames = some outer
  mod : Mod K mg base
  bs : ∀ b o, base.get? b = some o → s.heap.get? b = some o ∧ H b = none
  bsz : base.objs.size ≤ s.heap.objs.size
  funs : s.heap.FunFrames base outer
  frf : ∀ b ∈ frs outer, H b = none
  hok : HOk P w H s.heap
  bare : AllBare s.gens
/-- a call's end -/
def CE (outer : List Env) (P : Program) (w : World) (H : Hp) (s : Shared) (Q : VK) (u : Value) (s' : Shared) : Prop :=
  ∃ v H', s'.os = s.os ∧ AllBare s'.gens ∧ Un (frs outer) [] H H' s.heap s'.heap ∧ HOk P w H' s'.heap ∧ RelV v u ∧ Q v H'
def CR (CX : CXT) (outer : List Env) (P : Program) (w : World) (H : Hp) (s : Shared) (Q : VK) (E : XK) (r : Result) (s' : Shared) : Prop :=
  match r with
  | .ok (.ret u) => CE outer P w H s Q u s'
  | .ok _ => False
  | .error e => CX outer H s E e s'
structure FnOk (P : Program) (w : World) (K : PySem.W.Frag) (mg : Str → Option Value) (base : Heap) (CX : CXT) (k : Nat) (f : Addr) (fd : FuncData) (ps : List Str) (sp : Sp) : Prop where
  len : ∀ vs H Q E, sp vs H Q E → vs.length = ps.length
  run : ∀ (A : Around) (outer : List Env) (s : Shared) (H : Hp) (args : Args) (us : List Value) (vs : List V) (Q : VK) (E : XK), Room k A → Env0 P w K mg base A outer s H → BindsTo s fd args (ps.zip us) → Vals vs us → sp vs H Q E →
    codeAny (model P w) A (.call (.ref f) args) (CR CX outer P w H s Q E) s
theorem FnOk.mono {P : Program} {w : World} {K : PySem.W.Frag} {mg : Str → Option Value} {base : Heap} {CX : CXT} {j k : Nat} {f : Addr} {fd : FuncData} {ps : List Str} {sp : Sp} (F : FnOk P w K mg base CX j f fd ps sp) (h : j ≤ k) :
    FnOk P w K mg base CX k f fd ps sp := ⟨F.len, fun A outer s H args us vs Q E hr => F.run A outer s H args us vs Q E (hr.mono h)⟩
/-- a weaker promise -/
theorem FnOk.imp {P : Program} {w : World} {K : PySem.W.Frag} {mg : Str → Option Value} {base : Heap} {CX : CXT} {k : Nat} {f : Addr} {fd : FuncData} {ps : List Str} {sp sp' : Sp} (F : FnOk P w K mg base CX k f fd ps sp)
    (h : ∀ vs H Q E, sp' vs H Q E → sp vs H Q E) : FnOk P w K mg base CX k f fd ps sp' :=
  ⟨fun vs H Q E q => F.len vs H Q E (h _ _ _ _ q), fun A outer s H args us vs Q E hr he hb hv hs => F.run A outer s H args us vs Q E hr he hb hv (h _ _ _ _ hs)⟩
theorem Env0.make {P : Program} {w : World} {K : PySem.W.Frag} {mg : Str → Option Value} {base : Heap} {A : Around} {outer : List Env} {s : Shared} {H : Hp} (e : Env0 P w K mg base A outer s H) (C : Addr) (us : List Value) (kw : List (Str × Value)) :
    Env0 P w K mg base (A.under (.builtin "type.__call__" ⟨.ref C :: us, kw⟩)) outer s H := ⟨by first | exact e.frames | (simpa [Around.under, Code.envs, Code.isFrame, pushEnvs] using e.frames), e.mod, e.bs, e.bsz, e.funs, e.frf, e.hok, e.bare⟩
section
variable {X : Cx} {pins : List (Addr × Obj)} {σ : St} {H : Hp} {s s' : Shared}
/-- from a body: what a callee wants -/
theorem Inv.env0 (I : Inv X pins σ H s) : Env0 X.prog X.w X.K X.mg X.base X.A X.stack s H :=
  ⟨I.ok.frames, I.ok.mod, I.bs, Nat.le_trans I.ok.bsz I.sz, I.stack, I.stkFree, I.hok, I.bare⟩
/-- behind a call -/
theorem Inv.after {Q : VK} {u : Value} (I : Inv X pins σ H s) (h : CE X.stack X.prog X.w H s Q u s') : EP X pins σ Q u s' := by
  obtain ⟨v, H', os, bare, un, hok, r, q⟩ := h
  obtain ⟨hh, g, d, t, os'⟩ := s'
  obtain rfl : os' = s.os := os
  exact ⟨v, H', I.call (h' := hh) (g' := g) (d' := d) (t' := t) (ch := []) un hok bare (fun b z => absurd z (by simp)), r, q⟩
end
/-- f(..): the written arguments, then the defaults dvs; E: what is wanted of an exception -/
def tCall (sp : Sp) (dvs : List V) (E : XK) (t : TA) : TE := fun σ H Q => t σ H fun vs H1 => sp (vs ++ dvs) H1 Q E
/-- o.m(..) of an instance of the class at C -/
def tMeth (C : Addr) (m : Str) (sp : Sp) (dvs : List V) (E : XK) (ta : TE) (t : TA) : TE := fun σ H Q => ta σ H fun x H1 => ∃ a dx fs, x = .ref a ∧ H1 a = some (.ins C dx fs) ∧ fs.lookup m = none ∧
  t σ H1 fun vs H2 => sp (x :: (vs ++ dvs)) H2 Q E
/-- C(..): a new instance and its dict, then __init__ -/
def tMake (C : Addr) (sp : Sp) (dvs : List V) (E : XK) (t : TA) : TE := fun σ H Q => t σ H fun vs H1 => ∀ x dx, H1 x = none → H1 dx = none → dx ≠ x →
  sp (.ref x :: (vs ++ dvs)) (upd (upd H1 dx (.own x)) x (.ins C dx [])) (fun v H2 => v = .non ∧ Q (.ref x) H2) E
/-- how the parameters are bound: us the positional arguments, kw the keywords' values by name, ds the defaults that fill up -/
def Binds (K : PySem.W.Frag) (fd : FuncData) (ps : List Str) (ds : List Value) : Prop :=
  ∀ (s : Shared) (us : List Value), K.In s.heap → (us ++ ds).length = ps.length → BindsTo s fd ⟨us, []⟩ (ps.zip (us ++ ds))
/-- every parameter is given -/
theorem Binds.all {K : PySem.W.Frag} {fd : FuncData} {ps : List Str} (h : ∀ us : List Value, us.length = ps.length → bindArgs fd ⟨us, []⟩ = pure (ps.zip us)) : Binds K fd ps [] := fun s us _ hl => by
  rw [List.append_nil] at hl ⊢
  exact .of_eq (h us hl)
/-- an exception of a callee reaches what this body wants of exceptions -/
def Passes (CX : CXT) (X : Cx) (E : XK) : Prop := ∀ (pins : List (Addr × Obj)) (σ : St) (H : Hp) (s : Shared) (e : Value) (s' : Shared), Inv X pins σ H s → CX X.stack H s E e s' → X.xe e s'
section
variable {X : Cx} {CX : CXT} {k : Nat} {f C : Addr} {fd : FuncData} {ps : List Str} {sp : Sp} {dvs : List V} {ds : List Value} {E : XK} {x m : Str} {p pos apos : Pos} {e o : Expr} {es : List Expr} {ta : TE} {t : TA}
/-- the callee runs -/
theorem run_fn {pins : List (Addr × Obj)} {σ : St} {H : Hp} {s : Shared} {Q : VK} {us : List Value} {vs : List V} (F : FnOk X.prog X.w X.K X.mg X.base CX k f fd ps sp) (hr : Room k X.A) (hb : Binds X.K fd ps ds) (hd : Vals dvs ds) (hx : Passes CX X E)
    (I : Inv X pins σ H s) (r : Vals vs us) (h : sp (vs ++ dvs) H Q E) : wpAny (model X.prog X.w) X.A (call (.ref f) us) (EP X pins σ Q) X.xe s := by
  have r2 : Vals (vs ++ dvs) (us ++ ds) := r.append hd
  have hl : (us ++ ds).length = ps.length := by rw [← r2.length]; exact F.len _ _ _ _ h
  refine wpAny_call (codeAny_mono (F.run X.A X.stack s H ⟨us, []⟩ (us ++ ds) (vs ++ dvs) Q E hr I.env0 (hb s us I.kIn hl) r2 h) fun r s' hq => ?_)
  cases r with
  | error e => exact hx pins σ H s e s' I hq
  | ok fl =>
    cases fl with
    | ret u => exact I.after hq
    | next => exact False.elim hq
    | brk => exact False.elim hq
    | cont => exact False.elim hq
theorem pe_call (F : FnOk X.prog X.w X.K X.mg X.base CX k f fd ps sp) (hr : Room k X.A) (hg : Gl X x) (hm : X.mg x = some (.ref f)) (hk : PySem.W.keepIn X.K (.ref f) = true) (hb : Binds X.K fd ps ds) (hd : Vals dvs ds) (hx : Passes CX X E)
    (ha : PA X (e :: es) t) (hdb : (x == ("__debug__" : Str)) = false := by decide) (he : starEach (e :: es) X.env = (false, eval e X.env) :: starEach es X.env := by rfl) (hpl : (backTo pos (starEach es X.env)).any (·.1) = false := by rfl) :
    PE X (.Call (.Name x p) (e :: es) [] pos) (tCall sp dvs E t) := by
  intro pins s σ H Q I h
  refine wpAny_Call_Name_kw (ld_glob I hg hm ?_ hdb)
  refine PySem.W.callWith_K (h₀ := X.base) I.ok.mod.kin hk (thn (ha pos pins s σ H _ I h) fun us s1 ⟨vs, H1, I1, r, q⟩ => ⟨I1.kIn, ?_⟩) he hpl
  exact run_fn F hr hb hd hx I1 r q
/-- o.m(e, ..) -/
theorem pe_meth {pl : Sem Bool} (he : PE X o ta) (c : Cls X.K C) (hm : Meth X.K C m f) (F : FnOk X.prog X.w X.K X.mg X.base CX k f fd ps sp) (hr : Room k X.A) (hb : Binds X.K fd ps ds) (hd : Vals dvs ds) (hx : Passes CX X E) (ha : PA X (e :: es) t)
    (hst : starEach (e :: es) X.env = (false, eval e X.env) :: starEach es X.env := by rfl) (hpl : (backTo pos (starEach es X.env)).any (·.1) = false := by rfl)
    (ht : eval (.Call (.Attribute o m apos) (e :: es) [] pos) X.env = (do
      let ov ← eval o X.env
      standAt apos.atName
      let (f, first) ← holding [ov] (getMethod ov m pl)
      callWith pos f first (backTo pos (starEach (e :: es) X.env)) (backToKw pos (keywordEach [] X.env))) := by rfl) :
    PE X (.Call (.Attribute o m apos) (e :: es) [] pos) (tMeth C m sp dvs E ta t) := by
  intro pins s σ H Q I h
  refine PySem.W.methodCall_KW (pl := pl) (thn (he pins s σ H _ I h) fun u s1 ⟨x, H1, I1, rx, a, dx, fs, ex, ea, l, q⟩ => ?_) ht
  subst ex
  obtain rfl : u = Value.ref a := rx
  refine getmeth_ok I1 ea c hm l ?_
  refine PySem.W.callWith_K (first := [.ref a]) (h₀ := X.base) I.ok.mod.kin hm.kp (thn (ha pos pins s1 σ H1 _ I1 q) fun us s2 ⟨vs, H2, I2, r, q2⟩ => ⟨I2.kIn, ?_⟩) hst hpl
  exact run_fn (us := .ref a :: us) (vs := .ref a :: vs) F hr hb hd hx I2 (.cons rfl r) q2
/-- o.m() -/
theorem pe_meth0 {pl : Sem Bool} (he : PE X o ta) (c : Cls X.K C) (hm : Meth X.K C m f) (F : FnOk X.prog X.w X.K X.mg X.base CX k f fd ps sp) (hr : Room k X.A) (hb : Binds X.K fd ps ds) (hd : Vals dvs ds) (hx : Passes CX X E)
    (ht : eval (.Call (.Attribute o m apos) [] [] pos) X.env = (do
      let ov ← eval o X.env
      standAt apos.atName
      let (f, first) ← holding [ov] (getMethod ov m pl)
      callWith pos f first (backTo pos (starEach [] X.env)) (backToKw pos (keywordEach [] X.env))) := by rfl) :
    PE X (.Call (.Attribute o m apos) [] [] pos) (tMeth C m sp dvs E ta tNil) := by
  intro pins s σ H Q I h
  refine PySem.W.methodCall_KW (pl := pl) (thn (he pins s σ H _ I h) fun u s1 ⟨x, H1, I1, rx, a, dx, fs, ex, ea, l, q⟩ => ?_) ht
  subst ex
  obtain rfl : u = Value.ref a := rx
  refine getmeth_ok I1 ea c hm l ?_
  exact PySem.W.callWith_K0 (first := [.ref a]) I1.kIn hm.kp (run_fn (us := [.ref a]) (vs := [.ref a]) F hr hb hd hx I1 (.cons rfl .nil) q)
/-- what a class must have to be made -/
structure Mk (K : PySem.W.Frag) (C f : Addr) : Prop where
  makes : PySem.W.makesIn K C = true
  init : PySem.W.findIn K (.ref C) "__init__" = some (some (.ref f))
  fn : PySem.W.isFn K (.ref f) = true
  kp : PySem.W.keepIn K (.ref C) = true
theorem run_make {pins : List (Addr × Obj)} {σ : St} {H : Hp} {s : Shared} {Q : VK} {us : List Value} {vs : List V} (M : Mk X.K C f) (F : FnOk X.prog X.w X.K X.mg X.base CX k f fd ps sp) (hr : Room (k + 1) X.A) (hb : Binds X.K fd ps ds) (hd : Vals dvs ds)
    (hx : Passes CX X E) (I : Inv X pins σ H s) (r : Vals vs us)
    (h : ∀ x dx, H x = none → H dx = none → dx ≠ x → sp (.ref x :: (vs ++ dvs)) (upd (upd H dx (.own x)) x (.ins C dx [])) (fun v H2 => v = .non ∧ Q (.ref x) H2) E) :
    wpAny (model X.prog X.w) X.A (call (.ref C) us) (EP X pins σ Q) X.xe s := by
  have hq := h (s.heap.objs.size + 1) s.heap.objs.size (I.hok.fresh (Nat.le_succ _)) (I.hok.fresh (Nat.le_refl _)) (Nat.ne_of_lt (Nat.lt_succ_self _))
  have I2 := Inv.made (C := C) I
  have r2 : Vals (V.ref (s.heap.objs.size + 1) :: (vs ++ dvs)) (Value.ref (s.heap.objs.size + 1) :: (us ++ ds)) := .cons rfl (r.append hd)
  have hl : (Value.ref (s.heap.objs.size + 1) :: us ++ ds).length = ps.length := by
    have e := r2.length
    rw [F.len _ _ _ _ hq] at e
    exact e.symm
  refine wpAny_call (make_map (f := f) I.kIn M.makes M.init (beq_iff_eq.mp M.fn) (codeAny_mono (F.run _ X.stack _ _ ⟨Value.ref (s.heap.objs.size + 1) :: us, []⟩ (Value.ref (s.heap.objs.size + 1) :: (us ++ ds)) _ _ E (hr.make C us [])
    (I2.env0.make C us []) (hb _ (Value.ref (s.heap.objs.size + 1) :: us) I2.kIn hl) r2 hq) fun r s' hq' => ?_))
  cases r with
  | error e => exact hx pins σ _ _ e s' I2 hq'
  | ok fl =>
    cases fl with
    | ret u =>
      obtain ⟨v, H', I3, rv, ev, q3⟩ := I2.after hq'
      subst ev
      exact ⟨rv, ⟨V.ref (s.heap.objs.size + 1), H', I3, rfl, q3⟩⟩
    | next => exact False.elim hq'
    | brk => exact False.elim hq'
    | cont => exact False.elim hq'
theorem pe_make (M : Mk X.K C f) (F : FnOk X.prog X.w X.K X.mg X.base CX k f fd ps sp) (hr : Room (k + 1) X.A) (hg : Gl X x) (hm : X.mg x = some (.ref C)) (hb : Binds X.K fd ps ds) (hd : Vals dvs ds) (hx : Passes CX X E)
    (ha : PA X (e :: es) t) (hdb : (x == ("__debug__" : Str)) = false := by decide) (he : starEach (e :: es) X.env = (false, eval e X.env) :: starEach es X.env := by rfl) (hpl : (backTo pos (starEach es X.env)).any (·.1) = false := by rfl) :
    PE X (.Call (.Name x p) (e :: es) [] pos) (tMake C sp dvs E t) := by
  intro pins s σ H Q I h
  refine wpAny_Call_Name_kw (ld_glob I hg hm ?_ hdb)
  refine PySem.W.callWith_K (h₀ := X.base) I.ok.mod.kin M.kp (thn (ha pos pins s σ H _ I h) fun us s1 ⟨vs, H1, I1, r, q⟩ => ⟨I1.kIn, ?_⟩) he hpl
  exact run_make M F hr hb hd hx I1 r q
theorem pe_make0 (M : Mk X.K C f) (F : FnOk X.prog X.w X.K X.mg X.base CX k f fd ps sp) (hr : Room (k + 1) X.A) (hg : Gl X x) (hm : X.mg x = some (.ref C)) (hb : Binds X.K fd ps ds) (hd : Vals dvs ds) (hx : Passes CX X E)
    (hdb : (x == ("__debug__" : Str)) = false := by decide) : PE X (.Call (.Name x p) [] [] pos) (tMake C sp dvs E tNil) := by
  intro pins s σ H Q I h
  refine wpAny_Call_Name_kw (ld_glob I hg hm ?_ hdb)
  exact PySem.W.callWith_K0 I.kIn M.kp (run_make (us := []) M F hr hb hd hx I .nil h)
end
section
variable {X : Cx} {CX : CXT} {k : Nat} {f C : Addr} {fd : FuncData} {ps ks : List Str} {sp : Sp} {E : XK} {x m : Str} {p pos apos kpos : Pos} {e o : Expr} {es : List Expr} {kws : List Keyword} {te ta : TE} {t tk : TA} {nm : Option Str}
/-- how a call with keywords binds: g puts the positional values us and the keywords' values ws (names ks) in the parameters' order, defaults among them -/
structure KBinds (K : PySem.W.Frag) (fd : FuncData) (ps ks : List Str) (g : List Value → List Value → List Value) (gV : List V → List V → List V) : Prop where
  to : ∀ (s : Shared) (us ws : List Value), K.In s.heap → (g us ws).length = ps.length → BindsTo s fd ⟨us, ks.zip ws⟩ (ps.zip (g us ws))
  rel : ∀ {vs : List V} {us : List Value} {zs : List V} {ws : List Value}, Vals vs us → Vals zs ws → Vals (gV vs zs) (g us ws)
variable {g : List Value → List Value → List Value} {gV : List V → List V → List V}
end
/-- names: the parameters first -/
structure FnScope (N P : List Str) (sc : Scope) : Prop where
  kind : sc.kind = .function
  co : sc.isCoroutine = false
  gen : sc.isGenerator = false
  nd : N.Nodup
  pre : N.take P.length = P
  par : ∀ x ∈ P, sc.names.lookup x = some .local ∨ sc.names.lookup x = some .cell
  nofree : ∀ y ∈ sc.names, y.2 ≠ .free
theorem bindL_out {kindOf : Str → Option NameKind} {x : Str} : ∀ {binds : List (Str × Value)} {m : Str → Option Value}, (∀ v, (x, v) ∉ binds) → bindL kindOf binds m x = m x
  | [], _, _ => rfl
  | (n, v) :: r, m, h => by
    unfold bindL
    rw [bindL_out fun w hw => h w (List.mem_cons_of_mem _ hw)]
    split
    · have : x ≠ n := by rintro rfl; exact h v List.mem_cons_self
      simp [this]
    · rfl
theorem bindC_out {kindOf : Str → Option NameKind} {x : Str} : ∀ {binds : List (Str × Value)} {m : Str → Option Value}, (∀ v, (x, v) ∉ binds) → bindC kindOf binds m x = m x
  | [], _, _ => rfl
  | (n, v) :: r, m, h => by
    unfold bindC
    rw [bindC_out fun w hw => h w (List.mem_cons_of_mem _ hw)]
    split
    · rfl
    · have : x ≠ n := by rintro rfl; exact h v List.mem_cons_self
      simp [this]
theorem bindL_get {kindOf : Str → Option NameKind} {x : Str} {v : Value} : ∀ {P : List Str} {vs : List Value} {i : Nat} {m : Str → Option Value}, P.Nodup → P[i]? = some x → vs[i]? = some v → kindOf x = some .local →
    bindL kindOf (P.zip vs) m x = some v
  | [], _, _, _, _, h, _, _ => by simp at h
  | _ :: _, [], _, _, _, _, h, _ => by simp at h
  | p :: P, w :: vs, 0, m, nd, h1, h2, hk => by
    simp at h1 h2; subst h1; subst h2
    show bindL kindOf ((p, w) :: P.zip vs) m p = _
    unfold bindL
    rw [bindL_out fun v hv => (List.nodup_cons.mp nd).1 (List.of_mem_zip hv).1, if_pos hk]
    simp
  | p :: P, w :: vs, i + 1, m, nd, h1, h2, hk => by
    show bindL kindOf ((p, w) :: P.zip vs) m x = _
    unfold bindL
    exact bindL_get (i := i) (List.nodup_cons.mp nd).2 (by simpa using h1) (by simpa using h2) hk
theorem bindC_get {kindOf : Str → Option NameKind} {x : Str} {v : Value} : ∀ {P : List Str} {vs : List Value} {i : Nat} {m : Str → Option Value}, P.Nodup → P[i]? = some x → vs[i]? = some v → kindOf x ≠ some .local →
    bindC kindOf (P.zip vs) m x = some v
  | [], _, _, _, _, h, _, _ => by simp at h
  | _ :: _, [], _, _, _, _, h, _ => by simp at h
  | p :: P, w :: vs, 0, m, nd, h1, h2, hk => by
    simp at h1 h2; subst h1; subst h2
    show bindC kindOf ((p, w) :: P.zip vs) m p = _
    unfold bindC
    rw [bindC_out fun v hv => (List.nodup_cons.mp nd).1 (List.of_mem_zip hv).1, if_neg hk]
    simp
  | p :: P, w :: vs, i + 1, m, nd, h1, h2, hk => by
    show bindC kindOf ((p, w) :: P.zip vs) m x = _
    unfold bindC
    exact bindC_get (i := i) (List.nodup_cons.mp nd).2 (by simpa using h1) (by simpa using h2) hk
/-- the names' values at the entry -/
def start (N : List Str) (vs : List V) : St := vs.map some ++ List.replicate (N.length - vs.length) none
/-- the context of a def's body, at its entry; an exception leaves the frame, then lies as CX says -/
def cxOf (CX : CXT) (P : Program) (w : World) (K : PySem.W.Frag) (mg : Str → Option Value) (base : Heap) (N : List Str) (qual : Str) (scope : Scope) (f : Addr) (cd : Value) (A : Around) (outer : List Env) (s : Shared) (H : Hp) (E : XK) : Cx where
  prog := P
  w := w
  K := K
  mg := mg
  base := base
  A := A.deeper (envOfC qual scope s.heap.objs.size f cd)
  N := N
  s_0 := s
  H_0 := H
  env := envOfC qual scope s.heap.objs.size f cd
  outer := outer
  stack := envOfC qual scope s.heap.objs.size f cd :: outer
  ex := []
  calm := true
  fn := fun _ => true
  pn := []
  xe := fun e s' => wpAny (model P w) (A.deeper (envOfC qual scope s.heap.objs.size f cd)) (leaving (envOfC qual scope s.heap.objs.size f cd) e) (fun _ s'' => CX outer H s E e s'') (fun e' s'' => CX outer H s E e' s'') s'
theorem cell_has {sc : Scope} {n : Nat} {x : Str} (h : sc.names.lookup x = some .cell) : ∃ c, (cellsFrom n sc.names []).lookup x = some c := by
  have q := PySem.W.cellsFrom_some sc.names n [] (.inl h)
  exact Option.isSome_iff_exists.mp q
theorem inv_start {CX : CXT} {P : Program} {w : World} {K : PySem.W.Frag} {mg : Str → Option Value} {base : Heap} {N ps : List Str} {qual : Str} {scope : Scope} {f : Addr} {cd : Value} {A : Around} {outer : List Env} {s s1 : Shared} {H : Hp} {E : XK} {us : List Value} {vs : List V}
    (S : FnScope N ps scope) (hd : A.handled = none) (e0 : Env0 P w K mg base A outer s H) (hl : vs.length = ps.length) (r : Vals vs us)
    (x : InCallC s s.heap.objs.size (bindL (envOfC qual scope s.heap.objs.size f cd).kindOf (ps.zip us) fun _ => none) (cellsFrom (s.heap.objs.size + 1) scope.names []) (bindC (envOfC qual scope s.heap.objs.size f cd).kindOf (ps.zip us) fun _ => none) s1) :
    Inv (cxOf CX P w K mg base N qual scope f cd A outer s H E) [] (start N vs) H s1 := by
  have hpl : ps.length ≤ N.length := by have := congrArg List.length S.pre; rw [List.length_take] at this; omega
  obtain ⟨h1, tk, rfl, hk⟩ := x.done
  have noA : ∀ b : Addr, b ∉ (cxOf CX P w K mg base N qual scope f cd A outer s H E).ex := fun b z => absurd (show b ∈ ([] : List Addr) from z) (by simp)
  refine ⟨⟨e0.mod, S.kind, rfl, rfl, Nat.le_refl _, fun y z c h1 h2 => ?_, fun y hy => ?_, fun y c _ h => ?_, fun _ => hd, Around.frames_deeper e0.frames, .inr ⟨rfl, rfl⟩, fun b z => absurd z (noA b), e0.bs, e0.bsz, fun b _ _ => noA b, fun b z => absurd z (noA b), e0.funs, e0.frf⟩,
    rfl, e0.bare, Un.kept hk, ⟨_, x.toInCall.ns, fun i y v h1 h2 h3 => ?_⟩, fun y c h => ⟨_, x.cell y c h⟩, e0.hok.fresh (Nat.le_refl _), fun y c h => ?_, fun p hp => absurd (show p ∈ ([] : List (Addr × Obj)) from hp) (by simp), e0.hok.kept hk, ?_⟩
  · exact name_of_addr x.apart (PySem.mem_of_lookup h1) (PySem.mem_of_lookup h2)
  · have hy : scope.names.lookup y = some .cell ∨ scope.names.lookup y = some .free := hy
    rcases hy with hy | hy
    · exact cell_has hy
    · exact absurd rfl (S.nofree _ (PySem.mem_of_lookup hy))
  · exact Nat.le_of_lt (x.above y c (PySem.mem_of_lookup h))
  · have hi : i < vs.length := by
      unfold start at h2
      by_cases hi : i < vs.length
      · exact hi
      · rw [List.getElem?_append_right (by simpa using hi)] at h2
        rw [List.getElem?_replicate] at h2
        split at h2 <;> cases h2
    have ha : vs[i]? = some v := by
      unfold start at h2
      rw [List.getElem?_append_left (by simpa using hi), List.getElem?_map] at h2
      cases e : vs[i]? with
      | none => rw [e] at h2; cases h2
      | some a => rw [e] at h2; cases h2; rfl
    obtain ⟨u, hu, rv⟩ := r.get ha
    have hp : ps[i]? = some y := by
      rw [← S.pre, List.getElem?_take_of_lt (by omega)]; exact h1
    have ndP : ps.Nodup := by rw [← S.pre]; exact S.nd.sublist (List.take_sublist _ _)
    refine ⟨u, rv, ?_⟩
    rcases S.par y (List.mem_of_getElem? hp) with k | k
    · exact .inl ⟨k, bindL_get ndP hp hu k⟩
    · obtain ⟨c, e⟩ := cell_has (n := s.heap.objs.size + 1) k
      refine .inr ⟨.inl k, c, e, ?_⟩
      have q := x.cell y c e
      rw [bindC_get ndP hp hu (by show scope.names.lookup y ≠ _; rw [k]; decide)] at q
      exact q
  · exact e0.hok.fresh (Nat.le_of_lt (x.above y c (PySem.mem_of_lookup h)))
  · unfold start
    show _ = N.length
    rw [List.length_append, List.length_map, List.length_replicate]
    omega
/-- THE RULE: a def (or a method) of the text, by its body. The body's reading t is chosen for each entry; it is run at the parameters' values -/
theorem fn_of {CX : CXT} {P : Program} {w : World} {K : PySem.W.Frag} {mg : Str → Option Value} {base : Heap} {k : Nat} {f : Addr} {name qual : Str} {params : Arguments} {body : List Stmt} {scope : Scope} {dV kV doc pm cdv ct oc : Value} {an od : Option Addr}
    {osl : Array (Option Value)} {N ps : List Str} {sp : Sp} (lk : K.lookup f = some ⟨oc, od, .func (PySem.W.fnOf name qual params body scope dV kV doc pm an cdv ct), osl⟩) (hcd : PySem.W.codeIn K cdv qual = true) (S : FnScope N ps scope)
    (len : ∀ vs H Q E, sp vs H Q E → vs.length = ps.length)
    (hbody : ∀ (A : Around) (outer : List Env) (s : Shared) (H : Hp) (vs : List V) (Q : VK) (E : XK), Room k (A.deeper (envOfC qual scope s.heap.objs.size f cdv)) → sp vs H Q E →
      ∃ t, PSs (cxOf CX P w K mg base N qual scope f cdv A outer s H E) body t ∧ t { nx := fun _ H' => Q .non H', rt := Q } (start N vs) H) :
    FnOk P w K mg base CX (k + 1) f (PySem.W.fnOf name qual params body scope dV kV doc pm an cdv ct) ps sp := by
  refine ⟨len, fun A outer s H args us vs Q E hr e0 hb r hsp => ?_⟩
  have hl := len _ _ _ _ hsp
  have KX : K.In s.heap := e0.mod.kin.keeps fun b o e => (e0.bs b o e).1
  have lim : s.heap.NoLimit := e0.mod.nolimit.keeps fun b o e => (e0.bs b o e).1
  have hkind : ∀ y ∈ ps.zip us, scope.names.lookup y.1 = some .local ∨ (scope.names.lookup y.1 = some .cell ∧ ((cellsFrom (s.heap.objs.size + 1) scope.names []).lookup y.1).isSome = true) := fun ⟨n, v⟩ hy => by
    rcases S.par n (List.of_mem_zip hy).1 with q | q
    · exact .inl q
    · exact .inr ⟨q, PySem.W.cellsFrom_some _ _ _ (.inl q)⟩
  refine codeAny_call_function hr.depth (KX _ _ lk) rfl S.co S.gen rfl (PySem.W.codeRec_of KX hcd) (hb _ _ _ _ ?_)
  refine wpAny_newFunctionEnv_cells S.kind hkind fun env he s1 x => ?_
  subst he
  refine ⟨lim.keeps x.toInCall.keep, codeAny_func ?_⟩
  obtain ⟨t, ht, hq⟩ := hbody A outer s H vs Q E (hr.deeper _) hsp
  have I : Inv (cxOf CX P w K mg base N qual scope f cdv A outer s H E) [] (start N vs) H s1 := inv_start S hr.hd e0 hl r x
  refine wpAny_mono (ht [] s1 (start N vs) H _ I hq) (fun fl s' hs => ?_) fun e s' hs => hs
  have fin : ∀ {σ' : St} {H' : Hp} {v : V} {u : Value}, Inv (cxOf CX P w K mg base N qual scope f cdv A outer s H E) [] σ' H' s' → RelV v u → Q v H' → CE outer P w H s Q u s' :=
    fun {σ' H' v u} J rv q => ⟨v, H', J.os, J.bare, J.base, J.hok, rv, q⟩
  cases fl with
  | ret u =>
    obtain ⟨v, σ', H', J, rv, q⟩ := hs
    exact fin J rv q
  | next =>
    obtain ⟨σ', H', J, q⟩ := hs
    exact fin (v := V.non) (u := Value.none) J rfl q
  | brk =>
    obtain ⟨_, _, _, q⟩ := hs
    exact False.elim q
  | cont =>
    obtain ⟨_, _, _, q⟩ := hs
    exact False.elim q
end L2
namespace L2
open PySem PySem.Spec PyProof.Rows
section
variable {X : Cx} {x : Str} {p pos : Pos} {e : Expr} {es : List Expr} {t : TA} {id T : String} {r : List V → Hp → VK → Prop}
def tCB (r : List V → Hp → VK → Prop) (t : TA) : TE := fun σ H Q => t σ H fun vs H1 => r vs H1 Q
/-- f(e, ..), f a built-in function -/
theorem pe_callB (hc : CallR X (.builtin id) r) (hg : Gl X x) (hm : X.mg x = none) (hv : bootBuiltins x = some (.builtin id)) (ha : PA X (e :: es) t) (hn : x ≠ "__name__" := by decide) (hdb : (x == ("__debug__" : Str)) = false := by decide)
    (he : starEach (e :: es) X.env = (false, eval e X.env) :: starEach es X.env := by rfl) (hpl : (backTo pos (starEach es X.env)).any (·.1) = false := by rfl) : PE X (.Call (.Name x p) (e :: es) [] pos) (tCB r t) := by
  intro pins s σ H Q I h
  refine wpAny_Call_Name_kw (ld_blt I hg hm hv ?_ hn hdb)
  exact PyProof.Rows.callWith_builtin1 (thn (ha pos pins s σ H _ I h) fun us s1 ⟨vs, H1, I1, r1, q1⟩ => hc pins s1 σ H1 vs us Q I1 r1 q1) he hpl
end
end L2
namespace HT
open PySem PyProof.Rows
section
open PySem.SeqAt
open PySem.AutoSeq1 (wpAny_loadPart')
open PySem.MeetsSeq PySem.MeetsSeq2 PySem.MeetsSeq3
end
section
variable {prog : Program} {w : World} {A : Around} {E : Value → Shared → Prop} {s : Shared}
/-- a slice's bound as a place among n (d where it is left out) -/
def sIx (n d : Nat) : Option Int → Nat
  | none => d
  | some v => if v < 0 then (v + (n : Int)).toNat else min v.toNat n
end
end HT
namespace L2
open PySem PySem.Spec PyProof.Rows
abbrev TO := St → Hp → (Option Int → Hp → Prop) → Prop
/-- a slice's part (left out, or an int) -/
def PO (X : Cx) (e : Option Expr) (t : TO) : Prop :=
  ∀ (pins : List (Addr × Obj)) (s : Shared) (σ : St) (H : Hp) (Q : Option Int → Hp → Prop), Inv X pins σ H s → t σ H Q →
    wpAny (model X.prog X.w) X.A (evalPart e X.env) (fun u s' => ∃ o H', Inv X pins σ H' s' ∧ IsPart u o ∧ Q o H') X.xe s
def tNoPart : TO := fun _ H Q => Q none H
def tPart (t : TE) : TO := fun σ H Q => t σ H fun x H1 => ∃ i, x = .int i ∧ Q (some i) H1
section
variable {X : Cx} {e : Expr} {te : TE} {lo hi : Option Expr} {tl th : TO} {pos p2 : Pos}
theorem po_none : PO X none tNoPart := by
  intro pins s σ H Q I h
  rw [evalPart_none]
  exact wpAny_pure ⟨none, H, I, .none, h⟩
theorem po_some (h : PE X e te) : PO X (some e) (tPart te) := by
  intro pins s σ H Q I hw
  rw [evalPart_some]
  refine thn (h pins s σ H _ I hw) fun u s1 ⟨x, H1, I1, r1, q1⟩ => ?_
  obtain ⟨i, rfl, q⟩ := q1
  obtain ⟨t, rfl⟩ := r1
  exact ⟨some i, H1, I1, .int i t, q⟩
/-- what a slice of a value is, by values: the slice object stands at sl -/
def SlR (X : Cx) (r : V → Option Int → Option Int → Hp → VK → Prop) : Prop :=
  ∀ (pins : List (Addr × Obj)) (s : Shared) (σ : St) (H : Hp) (x : V) (v vl vu : Value) (lo hi : Option Int) (sl : Addr) (Q : VK), Inv X pins σ H s → RelV x v → s.heap.IsSliceOf sl vl vu .none → IsPart vl lo → IsPart vu hi → r x lo hi H Q →
    ∃ T id, typeLookup (.type T) "__getitem__" = pure (some (.builtin id)) ∧ s.TypeIs v T ∧ wpAny (model X.prog X.w) X.A (getItem v (.ref sl)) (EP X pins σ Q) X.xe s
theorem SlR.or {r r' : V → Option Int → Option Int → Hp → VK → Prop} (h : SlR X r) (h' : SlR X r') : SlR X (fun x lo hi H Q => r x lo hi H Q ∨ r' x lo hi H Q) := by
  intro pins s σ H x v vl vu lo hi sl Q I rx hs pl pu q
  rcases q with q | q
  · exact h pins s σ H x v vl vu lo hi sl Q I rx hs pl pu q
  · exact h' pins s σ H x v vl vu lo hi sl Q I rx hs pl pu q
def tSl (r : V → Option Int → Option Int → Hp → VK → Prop) (te : TE) (tl th : TO) : TE := fun σ H Q => te σ H fun x H1 => tl σ H1 fun l H2 => th σ H2 fun u H3 => r x l u H3 Q
/-- a[lo:hi], any a -/
theorem pe_slice {r : V → Option Int → Option Int → Hp → VK → Prop} (hr : SlR X r) (he : PE X e te) (hl : PO X lo tl) (hu : PO X hi th) : PE X (.Subscript e (.Slice lo hi none p2) pos) (tSl r te tl th) := by
  intro pins s σ H Q I h
  refine Subscript_ (thn (he pins s σ H _ I h) fun v s1 ⟨x, H1, I1, r1, q1⟩ => ?_)
  refine wpAny_Slice (thn (hl pins s1 σ H1 _ I1 q1) fun vl s2 ⟨l, H2, I2, pl, q2⟩ => thn (hu pins s2 σ H2 _ I2 q2) fun vu s3 ⟨u, H3, I3, pu, q3⟩ => ?_)
  rw [evalPart_none]
  refine wpAny_pure ?_
  have I4 : Inv X pins σ H3 { s3 with heap := s3.heap.push { cls := .type "slice", data := .fields #[vl, vu, .none] } } := I3.kept (t' := s3.toks) fun b ob q => Heap.get?_push_of_some _ q
  obtain ⟨T, id, hT, ht, hg⟩ := hr pins { s3 with heap := s3.heap.push { cls := .type "slice", data := .fields #[vl, vu, .none] } } σ H3 x v vl vu l u s3.heap.objs.size Q I4 r1 (Heap.IsSliceOf.new ..) pl pu q3
  show wpAny (model X.prog X.w) X.A (subscriptTail e (.Slice lo hi none p2) v (.ref s3.heap.objs.size)) (EP X pins σ Q) X.xe { s3 with heap := s3.heap.push { cls := .type "slice", data := .fields #[vl, vu, .none] } }
  exact tail_any (ops := [.ref s3.heap.objs.size, v]) ht hT hg (by with_unfolding_all rfl)
/-- the items of xs[lo:hi] -/
def cutV (xs : List V) (lo hi : Option Int) : List V := (xs.drop (HT.sIx xs.length 0 lo)).take (HT.sIx xs.length xs.length hi - HT.sIx xs.length 0 lo)
theorem cutV_length (xs : List V) (lo hi : Option Int) : (cutV xs lo hi).length ≤ xs.length := by
  unfold cutV
  rw [List.length_take, List.length_drop]
  omega
end
end L2
namespace L2
open PySem PySem.Spec PyProof.Rows
/-- the place that an index of any sign means -/
def ixN (n : Nat) (i : Int) : Option Nat := if 0 ≤ i then (if i < n then some i.toNat else none) else if -(n : Int) ≤ i then some (i + n).toNat else none
def atI {α : Type} (xs : List α) (i : Int) : Option α := (ixN xs.length i).bind fun j => xs[j]?
theorem ixN_seq {n : Nat} {i : Int} {j : Nat} (h : ixN n i = some j) : seqIndex? i n = some j ∧ j < n ∧ -(n : Int) ≤ i ∧ i < n := by
  unfold ixN at h
  by_cases h0 : 0 ≤ i
  · rw [if_pos h0] at h
    by_cases h1 : i < n
    · rw [if_pos h1] at h
      have e : i.toNat = j := Option.some.inj h
      exact ⟨by rw [seqIndex_of h0 h1, e], by omega, by omega, h1⟩
    · rw [if_neg h1] at h; cases h
  · rw [if_neg h0] at h
    by_cases h1 : -(n : Int) ≤ i
    · rw [if_pos h1] at h
      have e : (i + n).toNat = j := Option.some.inj h
      exact ⟨by rw [seqIndex_neg (by omega) h1, e], by omega, h1, by omega⟩
    · rw [if_neg h1] at h; cases h
theorem atI_get {α : Type} {xs : List α} {i : Int} {v : α} (h : atI xs i = some v) : ∃ j, seqIndex? i xs.length = some j ∧ xs[j]? = some v ∧ j < xs.length ∧ -(xs.length : Int) ≤ i ∧ i < xs.length := by
  unfold atI at h
  cases e : ixN xs.length i with
  | none => rw [e] at h; cases h
  | some j =>
    rw [e] at h
    obtain ⟨h1, h2, h3, h4⟩ := ixN_seq e
    exact ⟨j, h1, h, h2, h3, h4⟩
theorem atI_nat {α : Type} {xs : List α} {j : Nat} {v : α} (h : xs[j]? = some v) : atI xs (j : Int) = some v := by
  have hj : j < xs.length := (List.getElem?_eq_some_iff.mp h).1
  have e : ixN xs.length (j : Int) = some j := by
    unfold ixN
    rw [if_pos (by omega), if_pos (by omega)]; simp
  unfold atI; rw [e]; exact h
/-- what stands as an index of a plain subscript -/
def PlainIx (b : Expr) : Prop := ∀ o i, subscripted b false o i = operate [o, i] (getItem o i)
/-- a subscript by values -/
def IxR (X : Cx) (r : R2) : Prop :=
  ∀ (value slice : Expr) (pins : List (Addr × Obj)) (s : Shared) (σ : St) (H : Hp) (x y : V) (v u : Value) (Q : VK), Inv X pins σ H s → RelV x v → RelV y u → r x y H Q →
    subscripted slice false v u = operate [v, u] (getItem v u) → wpAny (model X.prog X.w) X.A (subscriptTail value slice v u) (EP X pins σ Q) X.xe s
/-- a call of a builtin's method by values: the receiver, the arguments -/
def MtR (X : Cx) (id : String) (r : V → List V → Hp → VK → Prop) : Prop :=
  ∀ (pins : List (Addr × Obj)) (s : Shared) (σ : St) (H : Hp) (x : V) (xs : List V) (v : Value) (us : List Value) (Q : VK), Inv X pins σ H s → RelV x v → Vals xs us → r x xs H Q →
    wpAny (model X.prog X.w) X.A (call (.builtin id) (v :: us)) (EP X pins σ Q) X.xe s
section
variable {X : Cx} {a b : Expr} {ta tb : TE} {pos : Pos}
theorem IxR.or {r r' : R2} (h : IxR X r) (h' : IxR X r') : IxR X (fun x y H Q => r x y H Q ∨ r' x y H Q) := by
  intro value slice pins s σ H x y v u Q I rx ry q hs
  rcases q with q | q
  · exact h value slice pins s σ H x y v u Q I rx ry q hs
  · exact h' value slice pins s σ H x y v u Q I rx ry q hs
theorem MtR.or {id : String} {r r' : V → List V → Hp → VK → Prop} (h : MtR X id r) (h' : MtR X id r') : MtR X id (fun x xs H Q => r x xs H Q ∨ r' x xs H Q) := by
  intro pins s σ H x xs v us Q I rx rs q
  rcases q with q | q
  · exact h pins s σ H x xs v us Q I rx rs q
  · exact h' pins s σ H x xs v us Q I rx rs q
/-- a[b] -/
theorem pe_ix {r : R2} (hr : IxR X r) (ha : PE X a ta) (hb : PE X b tb) (hs : PlainIx b) : PE X (.Subscript a b pos) (tOp r ta tb) := by
  intro pins s σ H Q I h
  exact Subscript_ (binT ha hb I h fun v u s2 x y H2 I2 rx ry q => hr a b pins s2 σ H2 x y v u Q I2 rx ry q (hs _ _))
def rIxL (K : PySem.W.Frag) : R2 := fun x y H Q => ∃ p xs i v, x = .ref p ∧ y = .int i ∧ SqL K H p xs ∧ atI xs i = some v ∧ Q v H
def rIxT (K : PySem.W.Frag) : R2 := fun x y H Q => ∃ p xs i v, x = .ref p ∧ y = .int i ∧ SqT K H p xs ∧ atI xs i = some v ∧ Q v H
theorem ix_list : IxR X (rIxL X.K) := by
  intro value slice pins s σ H x y v u Q I rx ry h hs
  obtain ⟨p, xs, i, z, rfl, rfl, hq, he, q⟩ := h
  cases rx
  obtain ⟨t, rfl⟩ := ry
  obtain ⟨its, r, pl, hz⟩ := I.list hq
  obtain ⟨j, h1, h2, h3, h4, h5⟩ := atI_get he
  obtain ⟨w, ew, rw'⟩ := r.get h2
  have hl := r.length
  have hn := line63
  have fin : EP X pins σ Q w s := ⟨z, H, I, rw', q⟩
  by_cases h0 : 0 ≤ i
  · have hj : i.toNat = j := by
      rw [seqIndex_of h0 h5] at h1
      exact Option.some.inj h1
    exact item_listR pl.isList h0 (by omega) (by rw [hj]; simpa using ew) fin hs
  · have hj : (i + (its.toArray.size : Int)).toNat = j := by
      rw [seqIndex_neg (by omega) h4] at h1
      rw [List.size_toArray, ← hl]
      exact Option.some.inj h1
    exact subscriptTail_builtinR (x := w) pl.isList.typeIs slot_list_getitem.lookup
      (wpAny_getItem_list_neg (Q := fun r s' => r = w ∧ EP X pins σ Q r s') pl.isList (by omega) (by rw [List.size_toArray] <;> omega) (by omega) (by rw [hj]; simpa using ew) ⟨rfl, fin⟩) hs
theorem ix_tup : IxR X (rIxT X.K) := by
  intro value slice pins s σ H x y v u Q I rx ry h hs
  obtain ⟨p, xs, i, z, rfl, rfl, hq, he, q⟩ := h
  cases rx
  obtain ⟨t, rfl⟩ := ry
  obtain ⟨its, r, pl, hz⟩ := I.tuple hq
  obtain ⟨j, h1, h2, h3, h4, h5⟩ := atI_get he
  obtain ⟨w, ew, rw'⟩ := r.get h2
  have hl := r.length
  have hn := line63
  have fin : EP X pins σ Q w s := ⟨z, H, I, rw', q⟩
  exact subscriptTail_builtinR (x := w) pl.typeIs slot_tuple_getitem.lookup
    (getItem_tuple (j := j) (Q := fun r s' => r = w ∧ EP X pins σ Q r s') pl (by omega) (by omega) (by rw [List.size_toArray, ← hl]; exact h1) (by simpa using ew) ⟨rfl, fin⟩) hs
/-- the list's object behind a store -/
theorem mapSeq_set (its : List Value) (n j : Nat) (u : Value) : Obj.mapSeq (·.setIfInBounds j u) { cls := .type "list", data := .seq its.toArray n } = { cls := .type "list", data := .seq (its.set j u).toArray n } := by
  simp [Obj.mapSeq]
theorem Inv.lst {pins : List (Addr × Obj)} {σ : St} {H : Hp} {s : Shared} {p : Addr} {xs : List V} (I : Inv X pins σ H s) (h : H p = some (.lst xs)) :
    ∃ (its : List Value) (n : Nat), Vals xs its ∧ s.heap.get? p = some { cls := .type "list", data := .seq its.toArray n } ∧ xs.length ≤ sizeLine := by
  obtain ⟨z, its, n, r, e⟩ := I.hok p _ h
  exact ⟨its, n, r, e, z⟩
/-- the list at p is written by an update of its object -/
theorem Inv.lstUpd {pins : List (Addr × Obj)} {σ : St} {H : Hp} {s : Shared} {p : Addr} {xs ys : List V} {its its' : List Value} {n n' : Nat} {f : Obj → Obj} (I : Inv X pins σ H s) (h : H p = some (.lst xs))
    (ho : s.heap.get? p = some { cls := .type "list", data := .seq its.toArray n }) (hf : f { cls := .type "list", data := .seq its.toArray n } = { cls := .type "list", data := .seq its'.toArray n' }) (r : Vals ys its') (hz : ys.length ≤ sizeLine) (t : Nat) :
    Inv X pins σ (upd H p (.lst ys)) { s with heap := s.heap.update p f, toks := t } := by
  have e : (s.heap.update p f).get? p = some { cls := .type "list", data := .seq its'.toArray n' } := by
    rw [Heap.get?_update_self f ho (by rw [hf] <;> rfl), hf]
  refine I.write (x := p) (e := p) (by rw [h]; trivial) (.inl rfl) (fun b u hb q => (Heap.get?_update_other _ _ (Ne.symm hb)).trans q) ⟨_, e⟩ ?_
  exact ⟨hz, its', n', r, e⟩
def rSetL : V → V → V → Hp → (Hp → Prop) → Prop := fun o i v H Q => ∃ p xs k j, o = .ref p ∧ i = .int k ∧ H p = some (.lst xs) ∧ ixN xs.length k = some j ∧ Q (upd H p (.lst (xs.set j v)))
theorem set_list : PSet X rSetL := by
  intro pins s σ H o i v ov iv u Q I ro ri rv h
  obtain ⟨p, xs, k, j, rfl, rfl, hp, hj, q⟩ := h
  cases ro
  obtain ⟨t, rfl⟩ := ri
  obtain ⟨its, n, r, ho, hz⟩ := I.lst hp
  obtain ⟨h1, h2, h3, h4⟩ := ixN_seq hj
  have hl := r.length
  have hn := line63
  have I' : Inv X pins σ (upd H p (.lst (xs.set j v))) { s with heap := s.heap.update p (Obj.mapSeq (·.setIfInBounds j u)) } :=
    I.lstUpd hp ho (mapSeq_set its n j u) (r.set rv j) (by rw [List.length_set]; exact hz) s.toks
  by_cases h0 : 0 ≤ k
  · have hk : k.toNat = j := by
      rw [seqIndex_of h0 h4] at h1
      exact Option.some.inj h1
    exact PySem.W.ki_setAt ho h0 (by omega) (by rw [List.size_toArray, ← hl]; exact h4) (by rw [hk]; exact ⟨_, I', q⟩)
  · have hk : (k + (its.toArray.size : Int)).toNat = j := by
      rw [seqIndex_neg (by omega) h3] at h1
      rw [List.size_toArray, ← hl]
      exact Option.some.inj h1
    exact PySem.W.ki_setBack ho (by omega) (by rw [List.size_toArray, ← hl]; exact h3) (by omega) (by rw [hk]; exact ⟨_, I', q⟩)
theorem slice_bounds (lo hi : Option Int) (n : Nat) : (sliceBounds lo hi none n).1 = ((HT.sIx n 0 lo : Nat) : Int) ∧ (sliceBounds lo hi none n).2.1 = ((HT.sIx n n hi : Nat) : Int) ∧ (sliceBounds lo hi none n).2.2 = 1 := by
  refine ⟨?_, ?_, rfl⟩
  · cases lo with
    | none => simp [sliceBounds, HT.sIx]
    | some i =>
      simp only [sliceBounds, HT.sIx, Option.getD_none, show (1 : Int) > 0 by decide, if_true]
      by_cases h : i < 0
      · simp only [h, if_true] <;> omega
      · simp only [h, if_false] <;> omega
  · cases hi with
    | none => simp [sliceBounds, HT.sIx]
    | some i =>
      simp only [sliceBounds, HT.sIx, Option.getD_none, show (1 : Int) > 0 by decide, if_true]
      by_cases h : i < 0
      · simp only [h, if_true] <;> omega
      · simp only [h, if_false] <;> omega
theorem slicePick_cut (its : List Value) (lo hi : Option Int) : slicePick its.toArray lo hi none = ((its.drop (HT.sIx its.length 0 lo)).take (HT.sIx its.length its.length hi - HT.sIx its.length 0 lo)).toArray := by
  obtain ⟨h1, h2, h3⟩ := slice_bounds lo hi its.toArray.size
  unfold slicePick
  rw [h1, h2, h3]
  simp only [sliceRange_one, pick_run, List.size_toArray] <;> rfl
/-- xs[lo:hi] of a list: a new list -/
def rSlL (K : PySem.W.Frag) : V → Option Int → Option Int → Hp → VK → Prop := fun x lo hi H Q => ∃ a xs, x = .ref a ∧ SqL K H a xs ∧ ∀ p, H p = none → Q (.ref p) (upd H p (.lst (cutV xs lo hi)))
theorem sl_list : SlR X (rSlL X.K) := by
  intro pins s σ H x v vl vu lo hi sl Q I rx hs pl pu h
  obtain ⟨a, xs, rfl, hx, q⟩ := h
  cases rx
  obtain ⟨its, r, ht, hz⟩ := I.list hx
  have hlen := r.length
  refine ⟨"list", _, slot_list_getitem.lookup, ht.isList.typeIs, ?_⟩
  refine wpAny_getItem_list_slice ht.isList hs pl pu .none (by simp) ?_ (by rw [List.size_toArray] <;> omega)
  rw [slicePick_cut, ← hlen]
  refine ⟨.ref s.heap.objs.size, _, I.laid (t' := s.toks) (o := .lst (cutV xs lo hi)) (fun b ob q => Heap.get?_push_of_some _ q) (Nat.le_refl _) ?_, rfl, q _ (I.hok.fresh (Nat.le_refl _))⟩
  exact ⟨Nat.le_trans (cutV_length xs lo hi) hz, _, 0, (r.drop (HT.sIx xs.length 0 lo)).take (HT.sIx xs.length xs.length hi - HT.sIx xs.length 0 lo), Heap.get?_push_size _ rfl⟩
def flatV : V → Bool
  | .non => true
  | .bl _ => true
  | .int _ => true
  | .str _ => true
  | _ => false
/-- == of flat values -/
def eqV : V → V → Bool
  | .non, .non => true
  | .bl a, .bl b => a == b
  | .bl a, .int b => (if a then 1 else 0) == b
  | .int a, .bl b => a == (if b then 1 else 0)
  | .int a, .int b => a == b
  | .str a, .str b => a == b
  | _, _ => false
theorem eqAt_V {A : Around} {s : Shared} {y x : V} {u v : Value} (ry : RelV y u) (rx : RelV x v) (fy : flatV y = true) (fx : flatV x = true) : SeqAt.EqAt A s u v (eqV y x) := by
  cases y with
  | non =>
    cases ry
    cases x with
    | non => cases rx; exact SeqAt.EqAt.same _
    | bl b => cases rx; exact SeqAt.EqAt.none_bool b
    | int b => obtain ⟨t, rfl⟩ := rx; exact SeqAt.EqAt.none_int b t
    | str b => obtain ⟨t, rfl⟩ := rx; exact SeqAt.EqAt.none_str b t
    | _ => exact absurd (show false = true from fx) Bool.false_ne_true
  | bl a =>
    cases ry
    cases x with
    | non => cases rx; exact SeqAt.EqAt.bool_none a
    | bl b => cases rx; exact SeqAt.EqAt.bool_bool a b
    | int b => obtain ⟨t, rfl⟩ := rx; exact SeqAt.EqAt.bool_int a b t
    | str b => obtain ⟨t, rfl⟩ := rx; exact SeqAt.EqAt.bool_str a b t
    | _ => exact absurd (show false = true from fx) Bool.false_ne_true
  | int a =>
    obtain ⟨t', rfl⟩ := ry
    cases x with
    | non => cases rx; exact SeqAt.EqAt.int_none a t'
    | bl b => cases rx; exact SeqAt.EqAt.int_bool a t' b
    | int b => obtain ⟨t, rfl⟩ := rx; exact SeqAt.EqAt.int_int a t' b t
    | str b => obtain ⟨t, rfl⟩ := rx; exact SeqAt.EqAt.int_str a t' b t
    | _ => exact absurd (show false = true from fx) Bool.false_ne_true
  | str a =>
    obtain ⟨t', rfl⟩ := ry
    cases x with
    | non => cases rx; exact SeqAt.EqAt.str_none a t'
    | bl b => cases rx; exact SeqAt.EqAt.str_bool a t' b
    | int b => obtain ⟨t, rfl⟩ := rx; exact SeqAt.EqAt.str_int a t' b t
    | str b => obtain ⟨t, rfl⟩ := rx; exact SeqAt.EqAt.str_str a t' b t
    | _ => exact absurd (show false = true from fx) Bool.false_ne_true
  | _ => exact absurd (show false = true from fy) Bool.false_ne_true
/-- the items' answers, read off the values (a value's own answer does not lean on its token) -/
def eqU (x : V) (u : Value) : Bool := match u with
  | .none => eqV .non x
  | .bool b => eqV (.bl b) x
  | .int i _ => eqV (.int i) x
  | .str z _ => eqV (.str z) x
  | _ => false
theorem eqU_of {x y : V} {u : Value} (r : RelV y u) (f : flatV y = true) : eqU x u = eqV y x := by
  cases y with
  | non => cases r; rfl
  | bl b => cases r; rfl
  | int i => obtain ⟨t, rfl⟩ := r; rfl
  | str z => obtain ⟨t, rfl⟩ := r; rfl
  | _ => exact absurd (show false = true from f) Bool.false_ne_true
theorem any_eqU {x : V} : ∀ {xs : List V} {us : List Value}, Vals xs us → xs.all flatV = true → us.any (eqU x) = xs.any fun y => eqV y x
  | _, _, .nil, _ => rfl
  | y :: xs, u :: us, .cons r t, f => by
    rw [List.all_cons, Bool.and_eq_true] at f
    rw [List.any_cons, List.any_cons, eqU_of r f.1, any_eqU t f.2]
theorem mem_eqAt {A : Around} {s : Shared} {x : V} {v : Value} (rx : RelV x v) (fx : flatV x = true) : ∀ {xs : List V} {us : List Value}, Vals xs us → xs.all flatV = true → ∀ u ∈ us, SeqAt.EqAt A s u v (eqU x u)
  | _, _, .nil, _ => fun u hu => by cases hu
  | y :: xs, u :: us, .cons r t, f => fun u' hu => by
    rw [List.all_cons, Bool.and_eq_true] at f
    rcases List.mem_cons.mp hu with rfl | hu
    · rw [eqU_of r f.1]; exact eqAt_V r rx f.1 fx
    · exact mem_eqAt rx fx t f.2 u' hu
def inV (x : V) (xs : List V) : Bool := xs.any fun y => eqV y x
/-- x in a list or tuple of flat items -/
def rIn (K : PySem.W.Frag) (neg : Bool) : R2 := fun x y H Q => ∃ p xs, y = .ref p ∧ (SqL K H p xs ∨ SqT K H p xs) ∧ flatV x = true ∧ xs.all flatV = true ∧ Q (.bl (if neg then !inV x xs else inV x xs)) H
theorem op_notIn_seq : OpR X (compareOp .NotIn) (rIn X.K true) := by
  intro pins s σ H x y v u Q I rx ry h
  obtain ⟨p, xs, rfl, hq, fx, fs, q⟩ := h
  cases ry
  rcases hq with hq | hq
  · obtain ⟨its, r, pl, hz⟩ := I.list hq
    refine SeqAt.notIn_listAt (eqU x) pl.isList (fun w hw => mem_eqAt rx fx r fs w (by simpa using hw)) ⟨.bl _, H, I, rfl, ?_⟩
    rw [show its.toArray.any (eqU x) = its.any (eqU x) by simp, any_eqU r fs]
    exact q
  · obtain ⟨its, r, pl, hz⟩ := I.tuple hq
    refine SeqAt.notIn_tupleAt (eqU x) pl (fun w hw => mem_eqAt rx fx r fs w (by simpa using hw)) ⟨.bl _, H, I, rfl, ?_⟩
    rw [show its.toArray.any (eqU x) = its.any (eqU x) by simp, any_eqU r fs]
    exact q
theorem call_len_seq : CallR X (.builtin "len") (fun xs H Q => ∃ p ys, xs = [.ref p] ∧ (SqL X.K H p ys ∨ SqT X.K H p ys) ∧ Q (.int ys.length) H) := by
  intro pins s σ H xs us Q I r h
  obtain ⟨p, ys, rfl, hq, q⟩ := h
  obtain ⟨u, rfl, rx⟩ := vals1 r
  cases rx
  have hn := line63
  rcases hq with hq | hq
  · obtain ⟨its, r', pl, hz⟩ := I.list hq
    have hlen := r'.length
    exact Calls.call_len_list pl.isList (by simp only [List.size_toArray] <;> omega) ⟨.int ys.length, H, I.tok _, ⟨s.toks + 1, by rw [List.size_toArray, hlen]⟩, q⟩
  · obtain ⟨its, r', pl, hz⟩ := I.tuple hq
    have hlen := r'.length
    exact len_tuple pl (by simp only [List.size_toArray] <;> omega) ⟨.int ys.length, H, I.tok _, ⟨s.toks + 1, by rw [List.size_toArray, hlen]⟩, q⟩
theorem CallR.or {f : Value} {r r' : List V → Hp → VK → Prop} (h : CallR X f r) (h' : CallR X f r') : CallR X f (fun xs H Q => r xs H Q ∨ r' xs H Q) := by
  intro pins s σ H xs us Q I rs q
  rcases q with q | q
  · exact h pins s σ H xs us Q I rs q
  · exact h' pins s σ H xs us Q I rs q
/-- the value is of that builtin type -/
def tyV (K : PySem.W.Frag) (T : String) (x : V) (H : Hp) : Prop := match x with
  | .str _ => T = "str"
  | .int _ => T = "int"
  | .ref p => (T = "list" ∧ ∃ xs, SqL K H p xs) ∨ (T = "tuple" ∧ ∃ o, K.lookup p = some o ∧ o.cls = .type "tuple" ∧ o.dict = none) ∨
      (T = "dict" ∧ ((∃ kvs, H p = some (.dK kvs)) ∨ ∃ kvs, H p = some (.dT kvs))) ∨ (T = "set" ∧ ∃ S n, H p = some (.set S n))
  | _ => False
theorem tyV_is {pins : List (Addr × Obj)} {σ : St} {H : Hp} {s : Shared} {T : String} {x : V} {v : Value} (I : Inv X pins σ H s) (r : RelV x v) (ty : tyV X.K T x H) :
    s.TypeIs v T ∧ ∀ a, v = .ref a → ∃ ob, s.heap.get? a = some ob ∧ ob.dict = none := by
  cases x with
  | str z =>
    obtain ⟨t, rfl⟩ := r
    cases (show T = "str" from ty)
    exact ⟨typeIs_str s z t, fun _ e => nomatch e⟩
  | int i =>
    obtain ⟨t, rfl⟩ := r
    cases (show T = "int" from ty)
    exact ⟨typeIs_int s i t, fun _ e => nomatch e⟩
  | ref p =>
    cases r
    rcases ty with ⟨rfl, xs, hq⟩ | ⟨rfl, o, hk, hc, hd⟩ | ⟨rfl, hk⟩ | ⟨rfl, S, n, hk⟩
    · obtain ⟨its, _, pl, _⟩ := I.list hq
      refine ⟨pl.isList.typeIs, fun a e => ?_⟩
      cases e
      obtain ⟨o, n, e, c, hd, _⟩ := pl
      exact ⟨o, e, hd⟩
    · refine ⟨⟨o, I.kIn p o hk, hc⟩, fun a e => ?_⟩
      cases e
      exact ⟨o, I.kIn _ o hk, hd⟩
    · have z : ∃ o, s.heap.get? p = some o ∧ o.ExactDict := by
        rcases hk with ⟨kvs, hk⟩ | ⟨kvs, hk⟩
        · obtain ⟨_, _, _, _, o, _, _, e, ex, _⟩ := I.hok p _ hk
          exact ⟨o, e, ex⟩
        · obtain ⟨_, _, _, _, o, _, _, e, ex, _⟩ := I.hok p _ hk
          exact ⟨o, e, ex⟩
      obtain ⟨o, e, ex⟩ := z
      refine ⟨⟨o, e, ex.1⟩, fun a e2 => ?_⟩
      cases e2
      exact ⟨o, e, ex.2.1⟩
    · obtain ⟨o, _, _, _, e, ex, _⟩ := I.hok p _ hk
      refine ⟨⟨o, e, ex.1⟩, fun a e2 => ?_⟩
      cases e2
      exact ⟨o, e, ex.2.1⟩
  | _ => exact False.elim ty
def tBM0 (K : PySem.W.Frag) (T : String) (r : V → List V → Hp → VK → Prop) (to : TE) : TE := fun σ H Q => to σ H fun x H1 => tyV K T x H1 ∧ r x [] H1 Q
def tBM (K : PySem.W.Frag) (T : String) (r : V → List V → Hp → VK → Prop) (to : TE) (t : TA) : TE := fun σ H Q => to σ H fun x H1 => tyV K T x H1 ∧ t σ H1 fun xs H2 => r x xs H2 Q
variable {o e : Expr} {es : List Expr} {to : TE} {t : TA} {name : Str} {apos cpos : Pos} {T id : String} {r : V → List V → Hp → VK → Prop}
theorem pe_bm0 (pa : PlainAttrs T) (slot : Slot T name id) (hty : typeOf (.builtin id) = pure (.type "method_descriptor")) (hm : MtR X id r) (ho : PE X o to)
    (hbase : attributeBase o name X.env (eval o X.env) = eval o X.env := by rfl) (hline : (apos.endLine == cpos.line) = true := by rfl) : PE X (.Call (.Attribute o name apos) [] [] cpos) (tBM0 X.K T r to) := by
  intro pins s σ H Q I h
  refine wpAny_Call_method0_late hbase hline (thn (ho pins s σ H _ I h) fun v s1 ⟨x, H1, I1, r1, ty, q1⟩ => ?_)
  obtain ⟨h1, h2⟩ := tyV_is I1 r1 ty
  exact ⟨T, id, pa, slot, hty, h1, h2, Calls.callWith_builtin rfl (PySem.evalArgs_none (hm pins s1 σ H1 x [] v [] Q I1 r1 .nil q1))⟩
theorem pe_bm (pa : PlainAttrs T) (slot : Slot T name id) (hty : typeOf (.builtin id) = pure (.type "method_descriptor")) (hm : MtR X id r) (ho : PE X o to) (ha : PA X (e :: es) t)
    (hbase : attributeBase o name X.env (eval o X.env) = eval o X.env := by rfl)
    (hfew : ((backTo cpos (starEach (e :: es) X.env)).all (fun x => !x.1) && (backToKw cpos (keywordEach [] X.env)).all (fun x => x.1.isSome)
      && decide ((e :: es).length + ([] : List Keyword).length + (if ([] : List Keyword).isEmpty then 0 else 1) < 30)) = true := by rfl)
    (hline : (apos.endLine == cpos.line) = true := by rfl) (hs : starEach (e :: es) X.env = (false, eval e X.env) :: starEach es X.env := by rfl) (hplain : (backTo cpos (starEach es X.env)).any (·.1) = false := by rfl) :
    PE X (.Call (.Attribute o name apos) (e :: es) [] cpos) (tBM X.K T r to t) := by
  intro pins s σ H Q I h
  refine wpAny_Call_method_late hbase hfew hline rfl (thn (ho pins s σ H _ I h) fun v s1 ⟨x, H1, I1, r1, ty, q1⟩ => ?_)
  obtain ⟨h1, h2⟩ := tyV_is I1 r1 ty
  refine ⟨T, id, pa, slot, hty, h1, h2, ?_⟩
  have hA := ha cpos pins s1 σ H1 _ I1 q1
  rw [hs] at hA ⊢
  refine Calls.callWith_builtin (by show (false || (backTo cpos (starEach es X.env)).any (·.1)) = false; rw [hplain] <;> rfl) (Calls.evalArgs_plain ?_)
  exact thn hA fun us s2 ⟨vs, H2, I2, r2, q2⟩ => hm pins s2 σ H2 x vs v us Q I2 r1 r2 q2
end
end L2
namespace L2
open PySem PySem.Spec PyProof.Rows
def MtM (X : Cx) (id : String) (r : V → List V → Hp → VK → Prop) : Prop :=
  ∀ (pins : List (Addr × Obj)) (s : Shared) (σ : St) (H : Hp) (x : V) (xs : List V) (v : Value) (us : List Value) (Q : VK), Inv X pins σ H s → RelV x v → Vals xs us → r x xs H Q →
    wpAny (model X.prog X.w) X.A (call (.builtin id) (v :: us)) (EP X pins σ Q) X.xe s
theorem Vals.one : ∀ {x : V} {us : List Value}, Vals [x] us → ∃ u, us = [u] ∧ RelV x u
  | _, _, .cons r .nil => ⟨_, rfl, r⟩
theorem Vals.two : ∀ {x y : V} {us : List Value}, Vals [x, y] us → ∃ u v, us = [u, v] ∧ RelV x u ∧ RelV y v
  | _, _, _, .cons r (.cons q .nil) => ⟨_, _, rfl, r, q⟩
theorem Vals.zero : ∀ {us : List Value}, Vals [] us → us = []
  | _, .nil => rfl
theorem Vals.rep {xs : List V} {us : List Value} (h : Vals xs us) : ∀ k : Nat, Vals (List.replicate k xs).flatten (List.replicate k us).flatten
  | 0 => .nil
  | k + 1 => by
    rw [List.replicate_succ, List.replicate_succ, List.flatten_cons, List.flatten_cons]
    exact Vals.append h (Vals.rep h k)
theorem foldl_rep (its : List Value) : ∀ (k : Nat) (acc : List Value),
    List.foldl (fun x1 x2 => x1 ++ x2) acc.toArray (List.replicate k its.toArray) = (acc ++ (List.replicate k its).flatten).toArray
  | 0, acc => by simp
  | k + 1, acc => by
    have e : acc.toArray ++ its.toArray = (acc ++ its).toArray := by simp
    have e2 : (acc ++ its) ++ (List.replicate k its).flatten = acc ++ (List.replicate (k + 1) its).flatten := by
      rw [List.replicate_succ, List.flatten_cons, List.append_assoc]
    rw [← e2, ← foldl_rep its k (acc ++ its), ← e, List.replicate_succ, List.foldl_cons]
section
variable {X : Cx} {pins : List (Addr × Obj)} {σ : St} {H : Hp} {s : Shared} {l b : Addr} {xs ys zs : List V}
theorem Inv.lset {its its' : List Value} {n : Nat} {f : Array Value → Array Value} {t' : Nat} (I : Inv X pins σ H s) (hH : H l = some (.lst xs))
    (e : s.heap.get? l = some { cls := .type "list", data := .seq its.toArray n }) (hf : f its.toArray = its'.toArray) (hv : Vals ys its') (hz : ys.length ≤ sizeLine) :
    Inv X pins σ (upd H l (.lst ys)) { s with heap := s.heap.update l (Obj.mapSeq f), toks := t' } := by
  have q := PySem.IsL.update e f
  rw [hf] at q
  refine I.write (x := l) (e := l) (by rw [hH]; exact trivial) (.inl rfl) (fun b' u hb hu => (Heap.get?_update_other s.heap (Obj.mapSeq f) (Ne.symm hb)).trans hu) ⟨_, q⟩ ?_
  exact ⟨hz, its', _, hv, q⟩
theorem Inv.lnew {its : List Value} {t' : Nat} (I : Inv X pins σ H s) (hv : Vals ys its) (hz : ys.length ≤ sizeLine) :
    Inv X pins σ (upd H s.heap.objs.size (.lst ys)) { s with heap := s.heap.push { cls := .type "list", data := .seq its.toArray }, toks := t' } :=
  I.laid (fun _ _ q => Heap.get?_push_of_some _ q) (Nat.le_refl _) ⟨hz, its, 0, hv, Heap.get?_push_size _ rfl⟩
theorem Inv.fresh (I : Inv X pins σ H s) : H s.heap.objs.size = none := I.hok.fresh (Nat.le_refl _)
theorem Inv.lstM (I : Inv X pins σ H s) (hH : H l = some (.lst xs)) : xs.length ≤ sizeLine ∧ ∃ (its : List Value) (n : Nat), Vals xs its ∧ xs.length = its.length ∧ s.heap.get? l = some { cls := .type "list", data := .seq its.toArray n } := by
  obtain ⟨z, its, n, r, e⟩ := I.hok l _ hH
  exact ⟨z, its, n, r, r.length, e⟩
theorem notLongL {n : Nat} (h : n ≤ sizeLine) : Builtin.List.listTooLong n = false := by
  unfold Builtin.List.listTooLong
  exact decide_eq_false (by omega)
end
section
variable {X : Cx}
def rAppend : V → List V → Hp → VK → Prop := fun x vs H Q => ∃ l xs y, x = .ref l ∧ vs = [y] ∧ H l = some (.lst xs) ∧ xs.length < sizeLine ∧ Q .non (upd H l (.lst (xs ++ [y])))
theorem mt_append : MtM X "list.append" rAppend := by
  intro pins s σ H x vs v us Q I rx rv h
  obtain ⟨l, xs, y, rfl, rfl, hH, hz, q⟩ := h
  cases rx
  obtain ⟨u, rfl, ru⟩ := rv.one
  obtain ⟨z, its, n, r, hl, e⟩ := I.lstM hH
  refine call_meets F.slot_list_append ⟨_, e, rfl⟩ F.entry_list_append (F.args_list_append_2 _ _) (PySem.list_append l its.toArray n u (by rw [List.size_toArray]; omega)) ⟨e, ?_⟩
  refine ⟨.non, _, I.lset (its' := its ++ [u]) hH e (by simp) (r.append (.cons ru .nil)) ?_, rfl, q⟩
  rw [List.length_append, List.length_singleton]
  omega
def rExtend : V → List V → Hp → VK → Prop := fun x vs H Q => ∃ l b xs zs, x = .ref l ∧ vs = [.ref b] ∧ H l = some (.lst xs) ∧ H b = some (.lst zs) ∧ xs.length + zs.length ≤ sizeLine ∧ Q .non (upd H l (.lst (xs ++ zs)))
theorem mt_extend : MtM X "list.extend" rExtend := by
  intro pins s σ H x vs v us Q I rx rv h
  obtain ⟨l, b, xs, zs, rfl, rfl, hH, hB, hz, q⟩ := h
  cases rx
  obtain ⟨u, rfl, ru⟩ := rv.one
  cases ru
  obtain ⟨z, its, n, r, hl, e⟩ := I.lstM hH
  obtain ⟨z2, its2, n2, r2, hl2, e2⟩ := I.lstM hB
  have hsz : its.toArray.size + its2.toArray.size ≤ sizeLine := by rw [List.size_toArray, List.size_toArray]; omega
  have hlong : ¬ (!its.toArray.isEmpty && Builtin.List.listTooLong (its.toArray.size + its2.toArray.size)) = true := by
    rw [notLongL hsz, Bool.and_false]
    exact Bool.false_ne_true
  refine call_meets F.slot_list_extend ⟨_, e, rfl⟩ F.entry_list_extend (F.args_list_extend_2 _ _)
    (AutoSeq1.list_extend_list_list_0 l its.toArray n b its2.toArray n2 hlong (by rw [List.size_toArray]; omega) (by omega)) ⟨e, e2, ?_⟩
  refine ⟨.non, _, I.lset (its' := its ++ its2) hH e (by simp) (r.append r2) ?_, rfl, q⟩
  rw [List.length_append]
  omega
def rCat : R2 := fun x y H Q => ∃ l b xs zs, x = .ref l ∧ y = .ref b ∧ H l = some (.lst xs) ∧ H b = some (.lst zs) ∧ xs.length + zs.length ≤ sizeLine ∧ ∀ p, H p = none → Q (.ref p) (upd H p (.lst (xs ++ zs)))
theorem op_cat : OpR X (binaryOp .Add) rCat := by
  intro pins s σ H x y v u Q I rx ry h
  obtain ⟨l, b, xs, zs, rfl, rfl, hH, hB, hz, q⟩ := h
  cases rx
  cases ry
  obtain ⟨z, its, n, r, hl, e⟩ := I.lstM hH
  obtain ⟨z2, its2, n2, r2, hl2, e2⟩ := I.lstM hB
  refine PySem.P.add_list e e2 ?_ (by rw [List.size_toArray, List.size_toArray]; omega)
  have ea : its.toArray ++ its2.toArray = (its ++ its2).toArray := by simp
  rw [ea]
  exact ⟨.ref _, _, I.lnew (t' := s.toks) (r.append r2) (by rw [List.length_append]; omega), rfl, q _ I.fresh⟩
/-- a list times an int (a negative one is nothing) -/
def rRep : R2 := fun x y H Q => ∃ l k xs, x = .ref l ∧ y = .int k ∧ H l = some (.lst xs) ∧ -(2 ^ 63) ≤ k ∧ k < 2 ^ 63 ∧ xs.length * k.toNat ≤ sizeLine ∧
  ∀ p, H p = none → Q (.ref p) (upd H p (.lst (List.replicate k.toNat xs).flatten))
theorem len_rep {α : Type} (xs : List α) (k : Nat) : (List.replicate k xs).flatten.length = k * xs.length := by
  induction k with
  | zero => simp
  | succ k ih => rw [List.replicate_succ, List.flatten_cons, List.length_append, ih, Nat.succ_mul, Nat.add_comm]
theorem op_rep : OpR X (binaryOp .Mult) rRep := by
  intro pins s σ H x y v u Q I rx ry h
  obtain ⟨l, k, xs, rfl, rfl, hH, h1, h2, hz, q⟩ := h
  cases rx
  obtain ⟨t, rfl⟩ := ry
  obtain ⟨z, its, n, r, hl, e⟩ := I.lstM hH
  have hlen : its.toArray.size * k.toNat ≤ sizeLine := by rw [List.size_toArray, ← hl]; exact hz
  have hcap : ¬ its.toArray.size * k.toNat > (2 ^ 63 - 1) / 8 := by
    have : (sizeLine : Nat) ≤ (2 ^ 63 - 1) / 8 := by decide
    omega
  have hfit : ¬ (!Builtin.List.listFitsIndex k) = true := by
    rw [fitsIndex_both h1 h2]
    exact Bool.false_ne_true
  have hlong : ¬ Builtin.List.listTooLong (its.toArray.size * k.toNat) = true := by
    rw [notLongL hlen]
    exact Bool.false_ne_true
  have hnew : List.foldl (fun x1 x2 => x1 ++ x2) #[] (List.replicate (if its.toArray.isEmpty = true then 0 else k.toNat) its.toArray) = (List.replicate k.toNat its).flatten.toArray := by
    have f0 : ∀ m : Nat, List.foldl (fun x1 x2 => x1 ++ x2) #[] (List.replicate m its.toArray) = (List.replicate m its).flatten.toArray := fun m => by
      have := foldl_rep its m []
      rw [List.nil_append] at this
      exact this
    rw [f0]
    cases its with
    | nil => simp
    | cons a r' => rw [if_neg (by simp)]
  refine wpAny_binaryOp_repeat_ref (T := "list") (U := "int") (by decide) ⟨_, e, rfl⟩ (fun s' => typeIs_int s' k t) noFill_list_mul F.fills_int_mul F.slot_int_rmul repeat_list F.slot_int_index.lookup
    (call_meets F.slot_int_rmul (typeIs_int s k t) F.entry_int_rmul (F.args_int_rmul_2 _ _) (int___rmul___int_list k t l its.toArray n)
      ⟨e, rfl, ⟨_, e, rfl⟩, call_meets F.slot_list_mul ⟨_, e, rfl⟩ F.entry_list_mul (F.args_list_mul_2 _ _) (AutoListH.list___mul___list_int_3 l its.toArray n k t hfit hcap hlong) ⟨e, ?_⟩⟩)
  rw [hnew]
  exact ⟨.ref _, _, I.lnew (t' := s.toks) (r.rep k.toNat) (by rw [len_rep, Nat.mul_comm]; exact hz), rfl, q _ I.fresh⟩
end
section
variable {prog : Program} {w : World} {A : Around} {E : Value → Shared → Prop} {s : Shared}
set_option maxRecDepth 100000 in
end
section
variable {X : Cx}
end
end L2
namespace L2
open PySem PySem.Spec PyProof.Rows
theorem Vals.ints : ∀ {ns : List Int} {us : List Value}, Vals (ns.map V.int) us → IntsAre us ns
  | [], us, h => by
    rw [List.map_nil] at h
    cases h
    exact IntsAre.nil
  | n :: ns, us, h => by
    rw [List.map_cons] at h
    cases h with
    | cons r t =>
      obtain ⟨k, rfl⟩ := r
      exact IntsAre.cons n k (Vals.ints t)
theorem Vals.strs : ∀ {xs : List Str} {us : List Value}, Vals (xs.map V.str) us → StrsAre us xs
  | [], us, h => by
    rw [List.map_nil] at h
    cases h
    exact StrsAre.nil
  | x :: xs, us, h => by
    rw [List.map_cons] at h
    cases h with
    | cons r t =>
      obtain ⟨k, rfl⟩ := r
      exact StrsAre.cons x k (Vals.strs t)
theorem Vals.ref1 {a : Addr} {us : List Value} (r : Vals [V.ref a] us) : us = [Value.ref a] := by
  cases r with
  | cons r t =>
    cases t
    cases r
    rfl
section
variable {prog : Program} {w : World} {A : Around} {E : Value → Shared → Prop} {s : Shared} {l : Addr} {its : List Value} {ns : List Int} {Q : Value → Shared → Prop}
theorem sum_raw (hh : A.handled = none) (hl : s.heap.IsList l its.toArray) (hi : IntsAre its ns)
    (h : ∀ h' tk t', (∀ b o, s.heap.get? b = some o → h'.get? b = some o) → Q (.int ns.sum t') { s with heap := h', toks := tk }) : wpAny (model prog w) A (call (.builtin "sum") [.ref l]) Q E s := by
  obtain ⟨xs, e⟩ := hi.allInts.items
  have hn : numsOf (intItems xs).toList = ns := by rw [← e]; exact hi.numsOf
  rw [nums_intItems] at hn
  rw [e] at hl
  refine PySem.sum_intListG hh hl fun h' tk t' hk => ?_
  have := h h' tk t' hk
  rw [preSum_eq, List.take_of_length_le (by simp), hn]; exact this
end
section
variable {X : Cx}
/-- sum(xs) of a list of ints -/
def rSum (K : PySem.W.Frag) : List V → Hp → VK → Prop := fun vs H Q => ∃ (a : Addr) (ns : List Int), vs = [V.ref a] ∧ SqL K H a (ns.map V.int) ∧ Q (.int ns.sum) H
theorem cr_sum (hc : X.calm = true) : CallR X (.builtin "sum") (rSum X.K) := by
  intro pins s σ H vs us Q I r h
  obtain ⟨a, ns, rfl, hs, q⟩ := h
  obtain ⟨its, rv, hl, _⟩ := I.list hs
  rw [Vals.ref1 r]
  exact sum_raw (I.ok.hd hc) hl.isList rv.ints fun h' tk t' hk => ⟨.int _, H, I.kept hk, ⟨_, rfl⟩, q⟩
end
section
variable {X : Cx}
end
section
variable {X : Cx}
end
section
variable {X : Cx}
end
mutual
inductive Dp (K : PySem.W.Frag) (H : Hp) : V → PyData → Prop
  | non : Dp K H .non .none
  | bl (b : Bool) : Dp K H (.bl b) (.bool b)
  | int (i : Int) : Dp K H (.int i) (.int i)
  | str (x : Str) : Dp K H (.str x) (.str x)
  | lst {a : Addr} {xs : List V} {ds : List PyData} : SqL K H a xs → DpAll K H xs ds → Dp K H (.ref a) (.list ds)
  | tup {a : Addr} {xs : List V} {ds : List PyData} : SqT K H a xs → DpAll K H xs ds → Dp K H (.ref a) (.tuple ds)
inductive DpAll (K : PySem.W.Frag) (H : Hp) : List V → List PyData → Prop
  | nil : DpAll K H [] []
  | cons {v : V} {vs : List V} {d : PyData} {ds : List PyData} : Dp K H v d → DpAll K H vs ds → DpAll K H (v :: vs) (d :: ds)
end
section
variable {X : Cx} {pins : List (Addr × Obj)} {σ : St} {H : Hp} {s : Shared}
mutual
theorem Dp.reads (I : Inv X pins σ H s) : ∀ (d : PyData) (v : V) (u : Value), Dp X.K H v d → RelV v u → ∃ as, Reads s.heap u d as
  | .none, _, _, h, r => by
    cases h
    cases r
    exact ⟨_, Reads.none⟩
  | .bool b, _, _, h, r => by
    cases h
    cases r
    exact ⟨_, Reads.bool b⟩
  | .int i, _, _, h, r => by
    cases h
    obtain ⟨t, rfl⟩ := r
    exact ⟨_, Reads.int i t⟩
  | .str x, _, _, h, r => by
    cases h
    obtain ⟨t, rfl⟩ := r
    exact ⟨_, Reads.str x t⟩
  | .list ds, _, _, h, r => by
    cases h with
    | lst hs ha =>
      cases r
      obtain ⟨its, rv, ⟨o, n, ho, hc, _, hd⟩, _⟩ := I.list hs
      obtain ⟨as, hr⟩ := Dp.readsAll I ds _ its ha rv
      exact ⟨_, Reads.list ho hc hd hr⟩
  | .tuple ds, _, _, h, r => by
    cases h with
    | tup hs ha =>
      cases r
      obtain ⟨its, rv, ⟨o, ho, hc, n, hd⟩, _⟩ := I.tuple hs
      obtain ⟨as, hr⟩ := Dp.readsAll I ds _ its ha rv
      exact ⟨_, Reads.tuple ho hc hd hr⟩
  | .dict _, _, _, h, _ => by cases h
theorem Dp.readsAll (I : Inv X pins σ H s) : ∀ (ds : List PyData) (vs : List V) (us : List Value), DpAll X.K H vs ds → Vals vs us → ∃ as, ReadsAll s.heap us ds as
  | [], _, _, h, r => by
    cases h
    cases r
    exact ⟨_, ReadsAll.nil⟩
  | d :: ds, _, _, h, r => by
    cases h with
    | cons h1 h2 =>
      cases r with
      | cons r1 r2 =>
        obtain ⟨as, q1⟩ := Dp.reads I d _ _ h1 r1
        obtain ⟨bs, q2⟩ := Dp.readsAll I ds _ _ h2 r2
        exact ⟨_, ReadsAll.cons q1 q2⟩
end
end
section
variable {X : Cx}
end
end L2
namespace L2
open PySem PySem.Spec PyProof.Rows
abbrev CellAt (h : Heap) (c : Addr) (v : Option Value) : Prop := h.IsCell c v
def relS (scope sc : Scope) : Scope :=
  { scope with names := scope.names.map fun (n, k) => if (k == .free && sc.kind == .function && sc.names.lookup n == some .cell) then (n, .cell) else (n, k) }
def cloFrom (cells : List (Str × Addr)) : List (Str × NameKind) → List (Str × Addr) → List (Str × Addr)
  | [], acc => acc
  | (n, k) :: r, acc => if k == .free then cloFrom cells r ((n, (cells.lookup n).getD 0) :: acc) else cloFrom cells r acc
theorem closure_loop (env : Env) (f : Str × NameKind → List (Str × Addr) → Sem (ForInStep (List (Str × Addr))))
    (hf : ∀ n k c, f (n, k) c = if k == .free then (do let a ← cellOf env n; pure (.yield ((n, a) :: c))) else pure (.yield c)) :
    ∀ (names : List (Str × NameKind)) (acc : List (Str × Addr)), (∀ y ∈ names, y.2 = .free → ∃ c, env.cells.lookup y.1 = some c) → forIn names acc f = pure (cloFrom env.cells names acc)
  | [], acc, _ => by rw [List.forIn_nil]; rfl
  | (n, k) :: r, acc, h => by
    rw [List.forIn_cons, hf]
    have ih := fun acc => closure_loop env f hf r acc fun y hy => h y (List.mem_cons_of_mem _ hy)
    unfold cloFrom
    by_cases hk : (k == NameKind.free) = true
    · rw [if_pos hk, if_pos hk]
      obtain ⟨c, hc⟩ := h (n, k) List.mem_cons_self (by simpa using hk)
      have e : cellOf env n = pure c := by unfold cellOf; rw [hc]
      rw [e]
      have e2 : (env.cells.lookup n).getD 0 = c := by rw [hc]; rfl
      rw [e2]
      exact ih _
    · rw [if_neg hk, if_neg hk]
      exact ih _
theorem closure_ok {scope : Scope} {env : Env} (h : ∀ y ∈ scope.names, y.2 = .free → ∃ c, env.cells.lookup y.1 = some c) : closureFor scope env = pure (cloFrom env.cells scope.names []) := by
  simp only [closureFor]
  rw [closure_loop env _ (fun n k c => rfl) scope.names [] h]
  rfl
theorem mem_lookup {α : Type} : ∀ {l : List (Str × α)} {n : Str} {c : α}, (n, c) ∈ l → ∃ c', l.lookup n = some c'
  | (k, v) :: r, n, c, h => by
    rw [List.lookup_cons]
    cases hb : n == k with
    | true => exact ⟨_, rfl⟩
    | false =>
      rcases List.mem_cons.mp h with e | h
      · cases e; simp at hb
      · exact mem_lookup h
theorem cloFrom_mem {cells : List (Str × Addr)} : ∀ {names : List (Str × NameKind)} {acc : List (Str × Addr)} {n : Str} {c : Addr}, (n, c) ∈ cloFrom cells names acc → (n, c) ∈ acc ∨ ((n, .free) ∈ names ∧ c = (cells.lookup n).getD 0)
  | [], _, _, _, h => .inl h
  | (m, k) :: r, acc, n, c, h => by
    unfold cloFrom at h
    split at h
    · rename_i hk
      have hk : k = .free := by simpa using hk
      rcases cloFrom_mem h with h | ⟨h1, h2⟩
      · rcases List.mem_cons.mp h with e | h
        · cases e; exact .inr ⟨hk ▸ List.mem_cons_self, rfl⟩
        · exact .inl h
      · exact .inr ⟨List.mem_cons_of_mem _ h1, h2⟩
    · rcases cloFrom_mem h with h | ⟨h1, h2⟩
      · exact .inl h
      · exact .inr ⟨List.mem_cons_of_mem _ h1, h2⟩
theorem cloFrom_acc {cells : List (Str × Addr)} : ∀ {names : List (Str × NameKind)} {acc : List (Str × Addr)} {p : Str × Addr}, p ∈ acc → p ∈ cloFrom cells names acc
  | [], _, _, h => h
  | (m, k) :: r, acc, p, h => by
    unfold cloFrom
    split
    · exact cloFrom_acc (List.mem_cons_of_mem _ h)
    · exact cloFrom_acc h
theorem cloFrom_has {cells : List (Str × Addr)} : ∀ {names : List (Str × NameKind)} {acc : List (Str × Addr)} {n : Str}, (n, .free) ∈ names → (n, (cells.lookup n).getD 0) ∈ cloFrom cells names acc
  | (m, k) :: r, acc, n, h => by
    unfold cloFrom
    rcases List.mem_cons.mp h with e | h
    · cases e
      exact cloFrom_acc List.mem_cons_self
    · split
      · exact cloFrom_has h
      · exact cloFrom_has h
theorem cells_mem : ∀ {names : List (Str × NameKind)} {h : Heap} {acc : List (Str × Addr)} {x : Str} {c : Addr}, (x, c) ∈ cellsFrom h.objs.size names acc →
    (x, c) ∈ acc ∨ ((x, .cell) ∈ names ∧ h.objs.size ≤ c ∧ CellAt (pushCells h names) c none)
  | [], _, _, _, _, h => .inl h
  | (n, k) :: r, h, acc, x, c, hm => by
    unfold cellsFrom at hm
    unfold pushCells
    split at hm
    · rename_i hk
      rw [if_pos hk]
      have hk : k = .cell := by simpa using hk
      rw [← Heap.size_push h { cls := .type "cell", data := .cell none }] at hm
      rcases cells_mem hm with hm | ⟨h1, h2, h3⟩
      · rcases List.mem_cons.mp hm with e | hm
        · cases e
          exact .inr ⟨hk ▸ List.mem_cons_self, Nat.le_refl _, _, pushCells_keeps r _ _ _ (Heap.get?_push_size _ rfl), rfl⟩
        · exact .inl hm
      · rw [Heap.size_push] at h2
        exact .inr ⟨List.mem_cons_of_mem _ h1, Nat.le_of_succ_le h2, h3⟩
    · rename_i hk
      rw [if_neg hk]
      rcases cells_mem hm with hm | ⟨h1, h2, h3⟩
      · exact .inl hm
      · exact .inr ⟨List.mem_cons_of_mem _ h1, h2, h3⟩
theorem cells_acc : ∀ {names : List (Str × NameKind)} {n : Nat} {acc : List (Str × Addr)} {p : Str × Addr}, p ∈ acc → p ∈ cellsFrom n names acc
  | [], _, _, _, h => h
  | (m, k) :: r, n, acc, p, h => by
    unfold cellsFrom
    split
    · exact cells_acc (List.mem_cons_of_mem _ h)
    · exact cells_acc h
theorem cells_has : ∀ {names : List (Str × NameKind)} {n : Nat} {acc : List (Str × Addr)} {x : Str}, (x, .cell) ∈ names → ∃ c, (x, c) ∈ cellsFrom n names acc
  | (m, k) :: r, n, acc, x, h => by
    unfold cellsFrom
    rcases List.mem_cons.mp h with e | h
    · cases e
      exact ⟨n, cells_acc List.mem_cons_self⟩
    · split
      · exact cells_has h
      · exact cells_has h
theorem cells_inj : ∀ {names : List (Str × NameKind)} {h : Heap} {acc : List (Str × Addr)} {x y : Str} {c : Addr}, (∀ p ∈ acc, p.2 < h.objs.size) → (∀ x y c, (x, c) ∈ acc → (y, c) ∈ acc → x = y) →
    (x, c) ∈ cellsFrom h.objs.size names acc → (y, c) ∈ cellsFrom h.objs.size names acc → x = y
  | [], _, _, _, _, _, _, hi, h1, h2 => hi _ _ _ h1 h2
  | (n, k) :: r, h, acc, x, y, c, hl, hi, h1, h2 => by
    unfold cellsFrom at h1 h2
    split at h1
    · rename_i hk
      rw [if_pos hk] at h2
      rw [← Heap.size_push h { cls := .type "cell", data := .cell none }] at h1 h2
      refine cells_inj (h := h.push _) (fun p hp => ?_) (fun x y c a b => ?_) h1 h2
      · rw [Heap.size_push]
        rcases List.mem_cons.mp hp with rfl | hp
        · exact Nat.lt_succ_self _
        · exact Nat.lt_succ_of_lt (hl p hp)
      · rcases List.mem_cons.mp a with e | a <;> rcases List.mem_cons.mp b with e' | b
        · cases e; cases e'; rfl
        · cases e; exact absurd (hl _ b) (Nat.lt_irrefl _)
        · cases e'; exact absurd (hl _ a) (Nat.lt_irrefl _)
        · exact hi _ _ _ a b
    · rename_i hk
      rw [if_neg hk] at h2
      exact cells_inj hl hi h1 h2
theorem newEnv_comp {M : Model} {A : Around} {E : Value → Shared → Prop} {s : Shared} {scope : Scope} {globals : Addr} {closure : List (Str × Addr)} {qual : Str} {func : Option Addr} {code : Value} {around : Env} {builtins : Addr} {Q : Env → Shared → Prop}
    (h : Q (newEnv scope s.heap.objs.size globals (cellsFrom (s.heap.objs.size + 1) scope.names closure) qual func code (some around) builtins)
      { s with heap := pushCells (s.heap.push { cls := .type "dict", data := .dict #[] }) scope.names }) :
    wpAny M A (newFunctionEnv scope globals closure [] qual func code (some around) builtins) Q E s := by
  simp only [newFunctionEnv, Option.isSome_some, if_true]
  refine wpAny_bind (wpAny_alloc ?_)
  refine wpAny_bind (wpAny_layCells _ (fun n k c => rfl) scope.names closure _ _ ?_)
  rw [show ({ s with heap := s.heap.push { cls := .type "dict", data := .dict #[] } } : Shared).heap.objs.size = s.heap.objs.size + 1 from Heap.size_push ..]
  rw [List.forIn_nil]
  exact wpAny_bind (wpAny_pure (wpAny_pure h))
/-- every name of the written scope, in the scope that runs -/
theorem lookup_relS {sc : Scope} : ∀ {names : List (Str × NameKind)} {x : Str} {k : NameKind},
    (names.map fun (n, k) => if (k == NameKind.free && sc.kind == .function && sc.names.lookup n == some .cell) then (n, NameKind.cell) else (n, k)).lookup x = some k →
    ∃ k', names.lookup x = some k' ∧ (k = k' ∨ (k' = .free ∧ k = .cell))
  | [], _, _, h => by simp at h
  | (n, k₀) :: r, x, k, h => by
    have ih := @lookup_relS sc r x k
    have h' : List.lookup x ((if (k₀ == NameKind.free && sc.kind == .function && sc.names.lookup n == some .cell) = true then (n, NameKind.cell) else (n, k₀)) :: (r.map _)) = some k := h
    cases hx : x == n with
    | true =>
      simp only [List.lookup_cons, hx]
      by_cases hc : (k₀ == NameKind.free && sc.kind == .function && sc.names.lookup n == some .cell) = true
      · rw [if_pos hc] at h'
        simp only [List.lookup_cons, hx] at h'
        cases h'
        simp only [Bool.and_eq_true, beq_iff_eq] at hc
        exact ⟨k₀, rfl, .inr ⟨hc.1.1, rfl⟩⟩
      · rw [if_neg hc] at h'
        simp only [List.lookup_cons, hx] at h'
        cases h'
        exact ⟨_, rfl, .inl rfl⟩
    | false =>
      simp only [List.lookup_cons, hx]
      by_cases hc : (k₀ == NameKind.free && sc.kind == .function && sc.names.lookup n == some .cell) = true
      · rw [if_pos hc] at h'
        simp only [List.lookup_cons, hx] at h'
        exact ih h'
      · rw [if_neg hc] at h'
        simp only [List.lookup_cons, hx] at h'
        exact ih h'
/-- the names of a comprehension's block: its own (with their places in N), or captured -/
structure BlkOk (N : List Str) (sc scope : Scope) (own : List (Str × Nat)) : Prop where
  kind : scope.kind = .function
  uniq : ∀ y ∈ scope.names, scope.names.lookup y.1 = some y.2
  ix : ∀ p ∈ own, N[p.2]? = some p.1
  free : ∀ y ∈ scope.names, y.2 = .free → sc.names.lookup y.1 = some .cell ∨ sc.names.lookup y.1 = some .free
  own : ∀ y ∈ scope.names, y.2 = .local ∨ y.2 = .cell → y.1 ∈ own.map (·.1) ∨ y.1 ∉ N
/-- the slots of the block's own names forgotten -/
def wipe (σ : St) : List Nat → St
  | [] => σ
  | v :: vs => (wipe σ vs).set v none
theorem wipe_length (σ : St) : ∀ vs : List Nat, (wipe σ vs).length = σ.length
  | [] => rfl
  | v :: vs => by unfold wipe; rw [List.length_set, wipe_length σ vs]
theorem wipe_some {σ : St} {i : Nat} {x : V} : ∀ {vs : List Nat}, (wipe σ vs)[i]? = some (some x) → σ[i]? = some (some x) ∧ i ∉ vs
  | [], h => ⟨h, by simp⟩
  | v :: vs, h => by
    unfold wipe at h
    by_cases hi : v = i
    · subst hi
      by_cases hv : v < (wipe σ vs).length
      · rw [List.getElem?_set_self hv] at h; cases h
      · rw [List.getElem?_eq_none (by simpa using hv)] at h; cases h
    · rw [List.getElem?_set_ne hi] at h
      obtain ⟨h1, h2⟩ := wipe_some h
      exact ⟨h1, by simp only [List.mem_cons, not_or]; exact ⟨fun e => hi e.symm, h2⟩⟩
/-- the context of a block that starts at s, its iterator's objects at fp -/
abbrev Cx.blk (X : Cx) (s : Shared) (H : Hp) (scope : Scope) (cenv : Env) (fp : List Addr) : Cx := { X with s_0 := s, H_0 := H, env := cenv, outer := X.stack, ex := fp, fn := fun x => scope.names.lookup x == some .cell, pn := [], xe := fun _ _ => False }
section
variable {X : Cx} {pins : List (Addr × Obj)} {σ : St} {H : Hp} {s : Shared}
theorem block_start {scope : Scope} {own : List (Str × Nat)} {fp : List Addr} (I : Inv X pins σ H s) (ok : BlkOk X.N X.env.scope scope own) (hN : X.N.Nodup) (hfp : ∀ b ∈ fp, FpOk X pins H b ∧ b < s.heap.objs.size) :
    Inv (X.blk s H scope (compEnvC scope (cellsFrom (s.heap.objs.size + 1) scope.names (cloFrom X.env.cells scope.names [])) s.heap.objs.size X.env) fp) [] (wipe σ (own.map (·.2))) H { s with heap := pushCells (s.heap.push { cls := .type "dict", data := .dict #[] }) scope.names } := by
  have hfree : ∀ y ∈ scope.names, y.2 = .free → ∃ c, X.env.cells.lookup y.1 = some c := fun y hy e => by
    rcases ok.free y hy e with k | k
    · exact I.ok.has _ (.inl k)
    · exact I.ok.has _ (.inr k)
  generalize hcenv : compEnvC scope (cellsFrom (s.heap.objs.size + 1) scope.names (cloFrom X.env.cells scope.names [])) s.heap.objs.size X.env = cenv
  have kp : ∀ b o, s.heap.get? b = some o → (pushCells (s.heap.push { cls := .type "dict", data := .dict #[] }) scope.names).get? b = some o := fun b o e => pushCells_keeps _ _ _ _ (Heap.get?_push_of_some _ e)
  have hL : cenv.locals = s.heap.objs.size := by rw [← hcenv]; rfl
  have hcl : cenv.cells = cellsFrom (s.heap.objs.size + 1) scope.names (cloFrom X.env.cells scope.names []) := by rw [← hcenv]; rfl
  have hsc : cenv.scope = relS scope X.env.scope := by rw [← hcenv]; rfl
  rw [← Heap.size_push s.heap { cls := .type "dict", data := .dict #[] }] at hcl
  have cm : ∀ {y c}, (y, c) ∈ cloFrom X.env.cells scope.names [] → X.env.cells.lookup y = some c ∧ c < s.heap.objs.size := fun {y c} hm => by
    rcases cloFrom_mem hm with hm | ⟨h1, rfl⟩
    · cases hm
    · obtain ⟨c, hc⟩ := hfree _ h1 rfl
      rw [hc]
      obtain ⟨w, z⟩ := I.cell _ _ hc
      exact ⟨rfl, z.lt⟩
  have mem : ∀ {y c}, cenv.cells.lookup y = some c → (X.env.cells.lookup y = some c ∧ c < s.heap.objs.size) ∨ (s.heap.objs.size + 1 ≤ c ∧ CellAt (pushCells (s.heap.push { cls := .type "dict", data := .dict #[] }) scope.names) c none) := fun {y c} e => by
    rw [hcl] at e
    rcases cells_mem (PySem.mem_of_lookup e) with hm | ⟨_, h2, h3⟩
    · exact .inl (cm hm)
    · rw [Heap.size_push] at h2; exact .inr ⟨h2, h3⟩
  have look : ∀ {y}, scope.names.lookup y = some .free → ∃ c, cenv.cells.lookup y = some c ∧ X.env.cells.lookup y = some c := fun {y} hl => by
    have hy : (y, NameKind.free) ∈ scope.names := PySem.mem_of_lookup hl
    obtain ⟨c', e'⟩ := mem_lookup (cells_acc (names := scope.names) (n := (s.heap.push { cls := .type "dict", data := .dict #[] }).objs.size) (cloFrom_has (cells := X.env.cells) (acc := []) hy))
    rw [← hcl] at e'
    refine ⟨c', e', ?_⟩
    rw [hcl] at e'
    rcases cells_mem (PySem.mem_of_lookup e') with hm | ⟨h1, _, _⟩
    · exact (cm hm).1
    · have := ok.uniq _ h1
      rw [hl] at this; cases this
  have okB : (X.blk s H scope cenv fp).Ok := by
    refine ⟨I.ok.mod, by show cenv.scope.kind = _; rw [hsc]; exact ok.kind, by show cenv.globals = _; rw [← hcenv]; exact I.ok.glob, by show cenv.builtins = _; rw [← hcenv]; exact I.ok.blt, by show s.heap.objs.size ≤ cenv.locals; rw [hL]; exact Nat.le_refl _,
      fun y z c e1 e2 => ?_, fun y hy => ?_, fun y c z e => ?_, I.ok.hd, I.ok.frames, .inl rfl, fun b hb => ⟨?_, fun y c e z => ?_⟩, I.bs, Nat.le_trans I.ok.bsz I.sz, fun b o e hb => ?_, fun b hb z => ?_, I.stack, I.stkFree⟩
    · have e1 : cenv.cells.lookup y = some c := e1
      have e2 : cenv.cells.lookup z = some c := e2
      rw [hcl] at e1 e2
      refine cells_inj (fun p hp => ?_) (fun y z c a b => I.ok.inj y z c (cm a).1 (cm b).1) (PySem.mem_of_lookup e1) (PySem.mem_of_lookup e2)
      rw [Heap.size_push]
      exact Nat.lt_succ_of_lt (cm (y := p.1) (c := p.2) hp).2
    · show ∃ c, cenv.cells.lookup y = some c
      have key : ∀ k, cenv.kindOf y = some k → (k = .cell ∨ k = .free) → ∃ c, cenv.cells.lookup y = some c := fun k hk hk' => by
        unfold Env.kindOf at hk
        rw [hsc] at hk
        obtain ⟨k', e, r⟩ := lookup_relS hk
        have : k' = .cell ∨ k' = .free := by
          rcases r with rfl | ⟨rfl, _⟩
          · exact hk'
          · exact .inr rfl
        rcases this with rfl | rfl
        · obtain ⟨c, hm⟩ := cells_has (n := (s.heap.push { cls := .type "dict", data := .dict #[] }).objs.size) (acc := cloFrom X.env.cells scope.names []) (PySem.mem_of_lookup e)
          obtain ⟨c', e'⟩ := mem_lookup hm
          exact ⟨c', by rw [hcl]; exact e'⟩
        · obtain ⟨c, h1, _⟩ := look e
          exact ⟨c, h1⟩
      rcases hy with hy | hy
      · exact key _ hy (.inl rfl)
      · exact key _ hy (.inr rfl)
    · have z : (scope.names.lookup y == some NameKind.cell) = true := z
      have z : scope.names.lookup y = some .cell := by simpa using z
      have e : cenv.cells.lookup y = some c := e
      rw [hcl] at e
      rcases cells_mem (PySem.mem_of_lookup e) with hm | ⟨_, h2, _⟩
      · rcases cloFrom_mem hm with hm | ⟨h1, _⟩
        · cases hm
        · have q := ok.uniq _ h1
          rw [z] at q; cases q
      · rw [Heap.size_push] at h2
        exact Nat.le_of_succ_le h2
    · show b ≠ cenv.locals
      rw [hL]; exact Nat.ne_of_lt (hfp b hb).2
    · have e : cenv.cells.lookup y = some c := e
      rcases mem e with ⟨h1, _⟩ | ⟨h1, _⟩
      · exact (hfp b hb).1.2.2.2.2.1 y c h1 z
      · have h2 : s.heap.objs.size + 1 ≤ b := by rw [← z]; exact h1
        exact absurd (Nat.lt_of_lt_of_le (hfp b hb).2 (Nat.le_of_succ_le h2)) (Nat.lt_irrefl _)
    · rcases (hfp b hb).1.2.2.2.1 with z | z
      · exact I.ok.noex b o e z
      · exact absurd (Nat.lt_of_lt_of_le (Heap.lt_size e) (Nat.le_trans I.ok.bsz z)) (Nat.lt_irrefl _)
    · rcases List.mem_cons.mp (I.stkSub b z) with z | z
      · exact (hfp b hb).1.2.1 z
      · exact (hfp b hb).1.2.2.1 z
  refine ⟨okB, rfl, I.bare, Un.kept kp, ⟨fun _ => none, ?_, fun i y av e1 e2 e3 => ?_⟩, fun y c e => ?_, ?_, fun y c e => ?_, fun p hp => ?_, I.hok.kept kp, by rw [wipe_length]; exact I.len⟩
  · show Heap.Ns _ cenv.locals _
    rw [hL]
    exact Heap.Ns.keeps (Heap.Ns.new ..) fun b o e => pushCells_keeps _ _ _ _ e
  · obtain ⟨e2, hne⟩ := wipe_some e2
    have hfr : scope.names.lookup y = some .free ∧ (cenv.kindOf y = some .cell ∨ cenv.kindOf y = some .free) := by
      have key : ∀ k, cenv.scope.names.lookup y = some k → k = .local ∨ k = .cell ∨ k = .free → scope.names.lookup y = some .free ∧ (cenv.kindOf y = some .cell ∨ cenv.kindOf y = some .free) := fun k hk hk' => by
        have hk0 := hk
        rw [hsc] at hk
        obtain ⟨k', e, r⟩ := lookup_relS hk
        have no : ¬ (k' = .local ∨ k' = .cell) := fun hh => by
          rcases ok.own _ (PySem.mem_of_lookup e) hh with e' | e'
          · obtain ⟨p, hp, hpy⟩ := List.mem_map.mp e'
            have e3 := ok.ix p hp
            have : p.1 = y := hpy
            rw [this] at e3
            exact hne (List.mem_map.mpr ⟨p, hp, nodup_ix hN e3 e1⟩)
          · exact e' (List.mem_of_getElem? e1)
        rcases r with rfl | ⟨rfl, rfl⟩
        · rcases hk' with rfl | rfl | rfl
          · exact absurd (.inl rfl) no
          · exact absurd (.inr rfl) no
          · exact ⟨e, .inr hk0⟩
        · exact ⟨e, .inl hk0⟩
      have e3 : Vis cenv.scope y := e3
      rcases e3 with e3 | e3 | e3
      · exact key _ e3 (.inl rfl)
      · exact key _ e3 (.inr (.inl rfl))
      · exact key _ e3 (.inr (.inr rfl))
    obtain ⟨m, hn, hl⟩ := I.loc
    have hvis : Vis X.env.scope y := (ok.free _ (PySem.mem_of_lookup hfr.1) rfl).elim (fun k => .inr (.inl k)) (fun k => .inr (.inr k))
    obtain ⟨w, r, q⟩ := hl i y av e1 e2 hvis
    refine ⟨w, r, .inr ⟨hfr.2, ?_⟩⟩
    obtain ⟨c, h1, h2⟩ := look hfr.1
    rcases q with ⟨k, _⟩ | ⟨_, c', e', z⟩
    · have k : X.env.scope.names.lookup y = some .local := k
      rcases ok.free _ (PySem.mem_of_lookup hfr.1) rfl with k' | k' <;> rw [show X.env.scope.names.lookup y = _ from k'] at k <;> cases k
    · rw [h2] at e'; cases e'
      exact ⟨c, h1, z.keeps kp⟩
  · have e : cenv.cells.lookup y = some c := e
    rcases mem e with ⟨h1, _⟩ | ⟨_, z⟩
    · obtain ⟨w, z⟩ := I.cell y c h1
      exact ⟨w, z.keeps kp⟩
    · exact ⟨_, z⟩
  · show H cenv.locals = none
    rw [hL]; exact I.hok.fresh (Nat.le_refl _)
  · have e : cenv.cells.lookup y = some c := e
    rcases mem e with ⟨h1, _⟩ | ⟨h1, _⟩
    · exact I.freeC y c h1
    · exact I.hok.fresh (Nat.le_of_succ_le h1)
  · exact absurd (show p ∈ ([] : List (Addr × Obj)) ++ [] from hp) (by simp)
/-- an item appended to a tracked list -/
theorem app_ok {E : Value → Shared → Prop} {D : Addr} {xs : List V} {y : V} {v : Value} {Q : Value → Shared → Prop} (I : Inv X pins σ H s) (hD : H D = some (.lst xs)) (hz : xs.length < sizeLine) (r : RelV y v)
    (h : ∀ s', Inv X pins σ (upd H D (.lst (xs ++ [y]))) s' → Q .none s') : wpAny (model X.prog X.w) X.A (call (.builtin "list.append") [.ref D, v]) Q E s := by
  obtain ⟨hz', its, n, ri, e⟩ := I.hok D _ hD
  have hl := ri.length
  refine append_at (hsz := by rw [List.size_toArray]; omega) e fun h' sb ho' => ?_
  refine h { s with heap := h' } (I.write (t' := s.toks) (by rw [hD]; trivial) (.inl rfl) (fun b u hb q => (sb.2 b hb).trans q) ⟨_, ho'⟩ ⟨by rw [List.length_append]; exact hz, its ++ [v], n + 1, ri.append (.cons r .nil), ?_⟩)
  rw [ho']
  simp
/-- a clause's tests -/
def PTs (X : Cx) (ifs : List Expr) (t : TT) : Prop :=
  ∀ (pins : List (Addr × Obj)) (s : Shared) (σ : St) (H : Hp) (Q : Bool → Hp → Prop), Inv X pins σ H s → t σ H Q →
    wpAny (model X.prog X.w) X.A (forIn ifs true fun c r => if r = true then do let ok ← isTrue c X.env (eval c X.env); pure (ForInStep.yield ok) else pure (ForInStep.yield r)) (TP X pins σ Q) X.xe s
def tYes : TT := fun _ H Q => Q true H
theorem pts_nil : PTs X [] tYes := fun _ _ _ H _ I h => wpAny_tests_nil ⟨H, I, h⟩
end
theorem thnF {α : Type} {t : Sem α} {Q Q' : α → Shared → Prop} {M : Model} {A : Around} {E : Value → Shared → Prop} {s : Shared} (h : wpAny M A t Q (fun _ _ => False) s) (hQ : ∀ a s, Q a s → Q' a s) : wpAny M A t Q' E s := wpAny_mono h hQ fun _ _ z => False.elim z
/-- the loop of a list comprehension's block, the target of any form (codeAny_compLoop_tests asks a target that no tuple goes to; statement and proof follow it, PyProof/CompMap.lean:41-61, with the step letOwnedTupleGo kept) -/
theorem compLoop_any {prog : Program} {w : World} {A : Around} {R : Result → Shared → Prop} {s : Shared} {elt target iter : Expr} {ifs : List Expr} {scope : Scope} {pos : Pos} {it acc : Value} {env : Env} (I : Nat → Shared → Prop)
    (turn : ∀ n s, I n s → wpAny (model prog w) A (pyNext it) (fun r s₁ => match r with
      | none => R (.ok .next) s₁
      | some v => wpAny (model prog w) A (letOwnedTupleGo target it v) (fun _ s₁' => wpAny (model prog w) A (assign target env v) (fun _ s₂ =>
          wpAny (model prog w) A (forIn ifs true fun c r => if r = true then do let ok ← isTrue c env (eval c env); pure (ForInStep.yield ok) else pure (ForInStep.yield r)) (fun ok s₃ =>
            if ok = true then wpAny (model prog w) A (eval elt env) (fun x s₄ =>
              wpAny (model prog w) A (call (.builtin "list.append") [acc, x]) (fun _ s₅ => ∃ m, m < n ∧ I m s₅) (notedBy (model prog w) A env fun e s' => R (.error e) s') s₄) (notedBy (model prog w) A env fun e s' => R (.error e) s') s₃
            else ∃ m, m < n ∧ I m s₃) (notedBy (model prog w) A env fun e s' => R (.error e) s') s₂) (notedBy (model prog w) A env fun e s' => R (.error e) s') s₁') (notedBy (model prog w) A env fun e s' => R (.error e) s') s₁) (notedBy (model prog w) A env fun e s' => R (.error e) s') s)
    (n : Nat) (h : I n s) :
    codeAny (model prog w) A (.compLoop (.ListComp elt [⟨target, iter, ifs, 0⟩] scope pos) 0 it acc env) R s := by
  refine codeAny_loop rfl I (fun n s hI => ?_) n h
  show wpAny _ A ((compTurn (.ListComp elt [⟨target, iter, ifs, 0⟩] scope pos) 0 it acc env).onRaise (fun x => do noteFrame x env; theTreesLotGoes x)) _ _ s
  refine wpAny_noted ?_
  rw [compTurn_list]
  refine wpAny_bind (wpAny_standAt (wpAny_bind (wpAny_mono (turn n s hI) (fun r s₁ h₁ => ?_) fun _ _ h' => h')))
  cases r with
  | none => exact wpAny_pure h₁
  | some v =>
    refine wpAny_bind (wpAny_mono h₁ (fun _ s₁' h₁' => ?_) fun _ _ h' => h')
    refine wpAny_bind (wpAny_mono h₁' (fun _ s₂ h₂ => wpAny_bind (wpAny_mono h₂ (fun ok s₃ h₃ => ?_) fun _ _ h' => h')) fun _ _ h' => h')
    cases ok with
    | false => exact wpAny_pure ⟨rfl, h₃⟩
    | true =>
      exact wpAny_bind (wpAny_bind (wpAny_mono h₃ (fun x s₄ h₄ => wpAny_bind (wpAny_mono h₄ (fun _ s₅ h₅ => wpAny_pure (wpAny_pure ⟨rfl, h₅⟩)) fun _ _ h' => h')) fun _ _ h' => h'))
section
variable {X : Cx}
/-- [elt for target in iter if ..]: D the new list; W by the turn and a measure, Nx what a turn is to reach -/
def tLc (wi : TI) (g : TG) (tt : TT) (te : TE) (vs : List Nat) : TE := fun σ H Q => wi σ H fun J H1 => ∀ D, H1 D = none → ∃ W : Nat → Nat → Hp → Prop, (∃ m, W 0 m (upd H1 D (.lst []))) ∧ ∀ i m H, W i m H →
  (J.stop i H ∧ Q (.ref D) H) ∨ (J.go i H ∧ ∃ Nx : Hp → Prop, (∀ H', Nx H' → ∃ m', m' < m ∧ W (i + 1) m' H') ∧ ∀ x H', J.yld i H x H' → g x (wipe σ vs) H' fun σ2 H2 => wipe σ2 vs = wipe σ vs ∧ tt σ2 H2 fun b H3 =>
    if b = true then te σ2 H3 fun y H4 => ∃ acc, H4 D = some (.lst acc) ∧ acc.length < sizeLine ∧ Nx (upd H4 D (.lst (acc ++ [y]))) else Nx H3)
theorem lc_core {pins : List (Addr × Obj)} {s : Shared} {σ : St} {H : Hp} {Q : VK} {elt tg iter : Expr} {ifs : List Expr} {scope : Scope} {own : List (Str × Nat)} {pos pos' : Pos} {wi : TI} {g : TG} {tt : TT} {te : TE} {use : Option (Value → Sem Unit)} {Qf : Value → Shared → Prop}
    (hc : X.calm = true) (hN : X.N.Nodup) (I : Inv X pins σ H s) (hi : PI X tg iter wi) (ok : BlkOk X.N X.env.scope scope own)
    (hg : ∀ (s : Shared) (H : Hp) (C : Addr) (cl : List (Str × Addr)) (fp : List Addr), PG (X.blk s H scope (compEnvC scope cl C X.env) fp) tg g) (ht : ∀ (s : Shared) (H : Hp) (C : Addr) (cl : List (Str × Addr)) (fp : List Addr), PTs (X.blk s H scope (compEnvC scope cl C X.env) fp) ifs tt)
    (he : ∀ (s : Shared) (H : Hp) (C : Addr) (cl : List (Str × Addr)) (fp : List Addr), PE (X.blk s H scope (compEnvC scope cl C X.env) fp) elt te) (hs : ∀ x, foldedSetIterable iter X.env x = pure x)
    (h : tLc wi g tt te (own.map (·.2)) σ H Q)
    (hRR : ∀ D C s' m H', Inv X pins σ H' s' → Q (.ref D) H' → s'.heap.Ns C m → FpOk X pins H' C → compPost (model X.prog X.w) X.A X.xe use Qf (.ref D) C (.ok .next) s') :
    wpAny (model X.prog X.w) X.A (comprehension (.ListComp elt [⟨tg, iter, ifs, 0⟩] scope pos) scope X.env pos' (newList []) false (eval iter X.env) use) Qf X.xe s := by
  have hfree : ∀ y ∈ scope.names, y.2 = .free → ∃ c, X.env.cells.lookup y.1 = some c := fun y hy e => by
    rcases ok.free y hy e with k | k
    · exact I.ok.has _ (.inl k)
    · exact I.ok.has _ (.inr k)
  refine wpAny_comprehension_free (use := use) rfl hs (closure_ok hfree) ok.kind (fun y hy e => by rw [ok.uniq y hy, e])
    (thn (hi pins s σ H _ I h) fun xv s1 hx => thn hx fun itv s2 h2 => ?_)
  obtain ⟨it, fp, tn, J, H2, e, I2, T, st2, f2, q⟩ := h2
  subst e
  refine wpAny_newObj_type (newEnv_comp ?_) (by show 0 ≤ sizeLine; decide)
  generalize hD : s2.heap.objs.size = D
  have hDn : H2 D = none := I2.hok.fresh (Nat.le_of_eq hD)
  obtain ⟨W, ⟨m0, w0⟩, turn⟩ := q D hDn
  -- the new list
  generalize hs3 : ({ s2 with heap := s2.heap.push { cls := .type "list", data := .seq ([] : List Value).toArray } } : Shared) = s3
  have I3 : Inv X pins σ (upd H2 D (.lst [])) s3 := by
    rw [← hs3]
    refine I2.laid (t' := s2.toks) (fun b o e => Heap.get?_push_of_some _ e) (Nat.le_of_eq hD) ⟨Nat.zero_le _, [], 0, .nil, ?_⟩
    rw [← hD]
    exact Heap.get?_push_size _ rfl
  have h3 : s3.heap = s2.heap.push { cls := .type "list", data := .seq ([] : List Value).toArray } := by rw [← hs3]
  have sz : ∀ b ∈ fp, b < s2.heap.objs.size := fun b hb => by
    obtain ⟨o, e, _⟩ := T.obj _ _ st2 b hb
    exact Heap.lt_size e
  have f3 : ∀ b ∈ fp, FpOk X pins (upd H2 D (.lst [])) b ∧ b < s3.heap.objs.size := fun b hb => by
    have hlt := sz b hb
    refine ⟨⟨?_, (f2 b hb).2⟩, by rw [h3, Heap.size_push]; exact Nat.lt_succ_of_lt hlt⟩
    rw [upd_ne (by rw [← hD]; exact Nat.ne_of_lt hlt)]
    exact (f2 b hb).1
  have st3 : tn 0 s3.heap := T.keep _ _ _ st2 fun b _ o e => by rw [h3]; exact Heap.get?_push_of_some _ e
  have I4 := block_start I3 ok hN f3
  have pg := hg s3 (upd H2 D (.lst [])) s3.heap.objs.size (cellsFrom (s3.heap.objs.size + 1) scope.names (cloFrom X.env.cells scope.names [])) fp
  have pt := ht s3 (upd H2 D (.lst [])) s3.heap.objs.size (cellsFrom (s3.heap.objs.size + 1) scope.names (cloFrom X.env.cells scope.names [])) fp
  have pe := he s3 (upd H2 D (.lst [])) s3.heap.objs.size (cellsFrom (s3.heap.objs.size + 1) scope.names (cloFrom X.env.cells scope.names [])) fp
  show codeAny _ _ (.compStart (.ListComp elt [⟨tg, iter, ifs, 0⟩] scope pos) 0 (.ref it) (.ref D) (compEnvC scope (cellsFrom (s3.heap.objs.size + 1) scope.names (cloFrom X.env.cells scope.names [])) s3.heap.objs.size X.env)) (compPost (model X.prog X.w) X.A X.xe use Qf (.ref D) s3.heap.objs.size) { s3 with heap := pushCells (s3.heap.push { cls := .type "dict", data := .dict #[] }) scope.names }
  have nfp : ∀ b ∈ fp, (upd H2 D (.lst [])) b = none := fun b hb => (f3 b hb).1.1
  generalize hce : compEnvC scope (cellsFrom (s3.heap.objs.size + 1) scope.names (cloFrom X.env.cells scope.names [])) s3.heap.objs.size X.env = ce at I4 pg pt pe ⊢
  have cL : ce.locals = s3.heap.objs.size := by subst hce; rfl
  generalize hH3 : upd H2 D (.lst []) = H3 at I3 I4 pg pt pe w0 nfp f3
  generalize hs4 : ({ s3 with heap := pushCells (s3.heap.push { cls := .type "dict", data := .dict #[] }) scope.names } : Shared) = s4 at I4 ⊢
  have st4 : tn 0 s4.heap := T.keep _ _ _ st3 fun b _ o e => by rw [← hs4]; exact pushCells_keeps _ _ _ _ (Heap.get?_push_of_some _ e)
  have stat : ∀ {σ' : St} {H' : Hp} {s' : Shared}, Inv (X.blk s3 H3 scope ce fp) [] σ' H' s' → (∀ b ∈ fp, H' b = none) → ∀ b ∈ fp, FpOk (X.blk s3 H3 scope ce fp) [] H' b := fun {σ' H' s'} I' hn b hb =>
    ⟨hn b hb, (I'.ok.exf b hb).1, I'.ok.exfs b hb, .inl hb, fun x c e => (I'.ok.exf b hb).2 x c e, fun p hp => absurd (show p ∈ ([] : List (Addr × Obj)) ++ [] from hp) (by simp)⟩
  have loop : codeAny (model X.prog X.w) X.A (.compLoop (.ListComp elt [⟨tg, iter, ifs, 0⟩] scope pos) 0 (.ref it) (.ref D) ce) (compPost (model X.prog X.w) X.A X.xe use Qf (.ref D) s3.heap.objs.size) s4 := by
    refine compLoop_any (fun n s' => ∃ i H', Inv (X.blk s3 H3 scope ce fp) [] (wipe σ (own.map (·.2))) H' s' ∧ tn i s'.heap ∧ (∀ b ∈ fp, H' b = none) ∧ W i n H') ?_ m0 ⟨0, H3, I4, st4, nfp, w0⟩
    rintro n s5 ⟨i, H5, I5, st5, n5, w5⟩
    rcases turn i n H5 w5 with ⟨stop, qq⟩ | ⟨go, Nx, hNx, step⟩
    · have td := T.done (X.blk s3 H3 scope ce fp) rfl rfl rfl hc i [] s5 _ H5 (fun _ _ => False) I5 (stat I5 n5) st5 stop
      refine thnF td fun r s6 ⟨hr, I6⟩ => ?_
      subst hr
      -- back in the def's context
      have I7 : Inv X pins σ H5 s6 := I3.call' (ch := fp) I6.os I6.base I6.hok I6.bare fun b hb => ⟨(f3 b hb).1.2.2.2.1, (f3 b hb).1.2.1, (f3 b hb).1.2.2.2.2.1, (f3 b hb).1.2.2.2.2.2⟩
      have nC : H5 s3.heap.objs.size = none := by
        have z : H5 ce.locals = none := I6.free
        rw [cL] at z
        exact z
      obtain ⟨m, hn, _⟩ := I6.loc
      have hn : s6.heap.Ns ce.locals m := hn
      rw [cL] at hn
      exact hRR D s3.heap.objs.size s6 m H5 I7 qq hn (I3.fpOk (Nat.le_refl _) nC)
    · have ti := T.item (X.blk s3 H3 scope ce fp) rfl rfl rfl hc i [] s5 _ H5 (fun _ _ => False) I5 (stat I5 n5) st5 go
      refine thnF ti fun r s6 ⟨u, hr, h6⟩ => ?_
      subst hr
      refine thnF h6 fun _ s7 ⟨x, H7, I7, r7, y7, st7, n7⟩ => ?_
      have I7' := I7.pinned (stat I7 n7) (T.obj _ _ st7)
      refine thnF (pg _ s7 _ H7 x u _ I7' r7 (step x H7 y7)) fun _ s8 ⟨σ8, H8, I8, hw8, q8⟩ => ?_
      refine thnF (pt _ s8 σ8 H8 _ I8 q8) fun b s9 ⟨H9, I9, q9⟩ => ?_
      -- the turn's end
      have fin : ∀ {s' : Shared} {H' : Hp}, Inv (X.blk s3 H3 scope ce fp) ([] ++ pinsAt fp s7.heap) σ8 H' s' → Nx H' → ∃ m, m < n ∧ ∃ i H', Inv (X.blk s3 H3 scope ce fp) [] (wipe σ (own.map (·.2))) H' s' ∧ tn i s'.heap ∧ (∀ b ∈ fp, H' b = none) ∧ W i m H' := fun {s' H'} I' nx => by
        obtain ⟨m', hm, w'⟩ := hNx H' nx
        have pin' : ∀ b ∈ fp, ∀ o, s7.heap.get? b = some o → s'.heap.get? b = some o ∧ H' b = none := fun b hb o e =>
          let z := I'.pin (b, o) (List.mem_append_right _ (List.mem_append_right _ (mem_pinsAt hb e)))
          ⟨z.1, z.2.1⟩
        have hl : (wipe σ (own.map (·.2))).length = σ8.length := by rw [← hw8, wipe_length]
        refine ⟨m', hm, i + 1, H', (I'.unpinned (pins := [])).weak hl (fun j v e => ?_), T.keep _ _ _ st7 fun b hb o e => (pin' b hb o e).1, fun b hb => ?_, w'⟩
        · rw [← hw8] at e
          exact (wipe_some e).1
        · obtain ⟨o, e, _⟩ := T.obj _ _ st7 b hb
          exact (pin' b hb o e).2
      cases b with
      | false =>
        simp only [Bool.false_eq_true, if_false] at q9 ⊢
        exact fin I9 q9
      | true =>
        simp only [if_true] at q9 ⊢
        refine thnF (pe _ s9 σ8 H9 _ I9 q9) fun z s10 ⟨yv, H10, I10, r10, acc, hD10, hz10, nx⟩ => ?_
        exact app_ok (X := X.blk s3 H3 scope ce fp) I10 hD10 hz10 r10 fun s11 I11 => fin I11 nx
  exact codeAny_compStart_list loop (T.self X.A 0 _ _ _ st4 loop)
/-- as a value -/
theorem pe_lc {elt tg iter : Expr} {ifs : List Expr} {scope : Scope} {own : List (Str × Nat)} {pos : Pos} {wi : TI} {g : TG} {tt : TT} {te : TE} (hc : X.calm = true) (hN : X.N.Nodup) (hi : PI X tg iter wi) (ok : BlkOk X.N X.env.scope scope own)
    (hg : ∀ (s : Shared) (H : Hp) (C : Addr) (cl : List (Str × Addr)) (fp : List Addr), PG (X.blk s H scope (compEnvC scope cl C X.env) fp) tg g) (ht : ∀ (s : Shared) (H : Hp) (C : Addr) (cl : List (Str × Addr)) (fp : List Addr), PTs (X.blk s H scope (compEnvC scope cl C X.env) fp) ifs tt)
    (he : ∀ (s : Shared) (H : Hp) (C : Addr) (cl : List (Str × Addr)) (fp : List Addr), PE (X.blk s H scope (compEnvC scope cl C X.env) fp) elt te) (hs : ∀ x, foldedSetIterable iter X.env x = pure x := by intro _; rfl) :
    PE X (.ListComp elt [⟨tg, iter, ifs, 0⟩] scope pos) (tLc wi g tt te (own.map (·.2))) := by
  intro pins s σ H Q I h
  rw [eval_ListComp]
  refine lc_core hc hN I hi ok hg ht he hs h fun D C s' m H' I' q hn f => ⟨m, hn, fun h'' sb => ?_⟩
  obtain ⟨f0, f1, f2, f3, f4, f5⟩ := f
  exact ⟨.ref D, H', I'.turned (t' := s'.toks) (fun b o hb e => (sb.2 b hb).trans e) f0 f1 f3 f4 f5, rfl, q⟩
end
/-- over a range: Pv by the turn and the heap (the new list at D within) -/
theorem lc_range {lo : Int} {n : Nat} {g : TG} {tt : TT} {te : TE} {vs : List Nat} {σ : St} {H1 : Hp} {D : Addr} {Qd : Hp → Prop} (Pv : Nat → Hp → Prop) (h0 : Pv 0 (upd H1 D (.lst [])))
    (hs : ∀ i H, i < n → Pv i H → g (.int (lo + i)) (wipe σ vs) H fun σ2 H2 => wipe σ2 vs = wipe σ vs ∧ tt σ2 H2 fun b H3 =>
      if b = true then te σ2 H3 fun y H4 => ∃ acc, H4 D = some (.lst acc) ∧ acc.length < sizeLine ∧ Pv (i + 1) (upd H4 D (.lst (acc ++ [y]))) else Pv (i + 1) H3) (hd : ∀ H, Pv n H → Qd H) :
    ∃ W : Nat → Nat → Hp → Prop, (∃ m, W 0 m (upd H1 D (.lst []))) ∧ ∀ i m H, W i m H →
      ((Itr lo n).stop i H ∧ Qd H) ∨ ((Itr lo n).go i H ∧ ∃ Nx : Hp → Prop, (∀ H', Nx H' → ∃ m', m' < m ∧ W (i + 1) m' H') ∧ ∀ x H', (Itr lo n).yld i H x H' → g x (wipe σ vs) H' fun σ2 H2 => wipe σ2 vs = wipe σ vs ∧ tt σ2 H2 fun b H3 =>
        if b = true then te σ2 H3 fun y H4 => ∃ acc, H4 D = some (.lst acc) ∧ acc.length < sizeLine ∧ Nx (upd H4 D (.lst (acc ++ [y]))) else Nx H3) := by
  refine ⟨fun i m H => m = n - i ∧ i ≤ n ∧ Pv i H, ⟨n, by simp, Nat.zero_le _, h0⟩, ?_⟩
  rintro i m H ⟨rfl, hi, p⟩
  by_cases hlt : i < n
  · refine .inr ⟨hlt, Pv (i + 1), fun H' p' => ⟨n - (i + 1), by omega, rfl, hlt, p'⟩, fun x H' y => ?_⟩
    obtain ⟨e, y⟩ := y
    subst e y
    exact hs i _ hlt p
  · have e : i = n := by omega
    subst e
    exact .inl ⟨Nat.le_refl _, hd H p⟩
def blkC (N : List Str) (sc scope : Scope) (own : List (Str × Nat)) : Bool :=
  (match scope.kind with | .function => true | _ => false) && (scope.names.all fun y => decide (scope.names.lookup y.1 = some y.2)) && (own.all fun p => decide (N[p.2]? = some p.1)) &&
    (scope.names.all fun y => match y.2 with
      | .free => (match sc.names.lookup y.1 with | some .cell => true | some .free => true | _ => false)
      | .local => decide (y.1 ∈ own.map (·.1)) || decide (y.1 ∉ N)
      | .cell => decide (y.1 ∈ own.map (·.1)) || decide (y.1 ∉ N)
      | _ => true)
theorem blkOk_by {N : List Str} {sc scope : Scope} {own : List (Str × Nat)} (h : blkC N sc scope own = true) : BlkOk N sc scope own := by
  unfold blkC at h
  simp only [Bool.and_eq_true, List.all_eq_true, decide_eq_true_eq] at h
  obtain ⟨⟨⟨h1, h2⟩, h3⟩, h4⟩ := h
  refine ⟨?_, h2, h3, fun y hy e => ?_, fun y hy e => ?_⟩
  · split at h1
    · assumption
    · cases h1
  · have q := h4 y hy
    simp only [e] at q
    split at q <;> first | exact .inl (by assumption) | exact .inr (by assumption) | cases q
  · have q := h4 y hy
    rcases e with e | e <;> (simp only [e, Bool.or_eq_true, decide_eq_true_eq] at q; exact q)
end L2
namespace L2
open PySem PySem.Spec PyProof.Rows
section
variable {prog : Program} {w : World} {A : Around} {R : Result → Shared → Prop} {s : Shared} {elt t0 i0 t1 i1 : Expr} {ifs0 ifs1 : List Expr} {scope : Scope} {pos : Pos} {it acc : Value} {env : Env}
end
section
variable {X : Cx}
end
end L2
namespace L2
open PySem PySem.Spec PyProof.Rows
section
variable {κ : Type} [DecidableEq κ]
def valV (kvs : List (κ × V)) (k : κ) : Option V := (kvs.find? fun kv => decide (kv.1 = k)).map (·.2)
/-- in its place, or at the end -/
def putK (kvs : List (κ × V)) (k : κ) (v : V) : List (κ × V) :=
  if (kvs.any fun kv => decide (kv.1 = k)) = true then kvs.map (fun kv => if kv.1 = k then (kv.1, v) else kv) else kvs ++ [(k, v)]
def dropK (kvs : List (κ × V)) (k : κ) : List (κ × V) := kvs.filter fun kv => decide (kv.1 ≠ k)
theorem RelO.getD {o : Option V} {u : Option Value} {d : V} {d' : Value} (r : RelO o u) (rd : RelV d d') : RelV (o.getD d) (u.getD d') := by
  cases o with
  | none => cases u with
    | none => exact rd
    | some _ => exact (show False from r).elim
  | some _ => cases u with
    | none => exact (show False from r).elim
    | some _ => exact r
theorem KV.any {kvs : List (κ × V)} {vs : List (κ × Value)} (r : KV kvs vs) (k : κ) : (kvs.any fun kv => decide (kv.1 = k)) = vs.any fun kv => decide (kv.1 = k) := by
  unfold KV at r
  induction r with
  | nil => rfl
  | cons h t ih => rw [List.any_cons, List.any_cons, ih, h.1]
theorem KV.drop {kvs : List (κ × V)} {vs : List (κ × Value)} (r : KV kvs vs) (k : κ) : KV (dropK kvs k) (without vs k) := by
  unfold KV at r ⊢
  unfold dropK without
  induction r with
  | nil => exact .nil
  | @cons p q ps qs h t ih =>
    obtain ⟨h1, h2⟩ := h
    rw [List.filter_cons, List.filter_cons]
    by_cases e : p.1 = k
    · have a : ¬ decide (p.1 ≠ k) = true := by simp [e]
      have b : ¬ decide (q.1 ≠ k) = true := by simp [h1.symm.trans e]
      rw [if_neg a, if_neg b]; exact ih
    · have e' : ¬ q.1 = k := fun z => e (h1.trans z)
      have a : decide (p.1 ≠ k) = true := by simp [e]
      have b : decide (q.1 ≠ k) = true := by simp [e']
      rw [if_pos a, if_pos b]; exact .cons ⟨h1, h2⟩ ih
theorem KV.keys {kvs : List (κ × V)} {vs : List (κ × Value)} (r : KV kvs vs) : kvs.map (·.1) = vs.map (·.1) := by
  unfold KV at r
  induction r with
  | nil => rfl
  | cons h t ih => rw [List.map_cons, List.map_cons, ih, h.1]
theorem KV.length {kvs : List (κ × V)} {vs : List (κ × Value)} (r : KV kvs vs) : kvs.length = vs.length := Paired.length r
end
/-- raw entries of a dict with tuple keys -/
abbrev KT (H : Hp) : List (List Key × V) → List (List Key × Addr × Value) → Prop := Paired fun p q => p.1 = q.1 ∧ H q.2.1 = some (.tup (p.1.map kV)) ∧ RelV p.2 q.2.2
theorem KT.keeps {H H' : Hp} {kvs : List (List Key × V)} {xs : List (List Key × Addr × Value)} (r : KT H kvs xs) (ht : ∀ b ys, H b = some (.tup ys) → H' b = some (.tup ys)) : KT H' kvs xs :=
  Paired.mapP r fun _ _ z => ⟨z.1, ht _ _ z.2.1, z.2.2⟩
section
variable {P : Program} {w : World} {H : Hp} {h : Heap} {a : Addr}
theorem rd_of {u : HO} (ok : HOk P w H h) (e : Rd H a u) : ObjOk P w H h a u := e.ok ok
theorem dk_rd {kvs : List (Key × V)} (ok : HOk P w H h) (e : Rd H a (.dK kvs)) : kvs.length ≤ sizeLine ∧ (a == sysModules) = false ∧ ∃ vs, KV kvs vs ∧ h.DictOf (mixKind P w) a vs :=
  show ObjOk P w H h a (.dK kvs) from rd_of ok e
end
/-- what the dict at a holds at the key y -/
def DGet (H : Hp) (a : Addr) (y : V) (r : Option V) : Prop :=
  (∃ kvs k, Rd H a (.dK kvs) ∧ y = kV k ∧ r = valV kvs k) ∨ ∃ kvs k b, Rd H a (.dT kvs) ∧ y = .ref b ∧ H b = some (.tup (k.map kV)) ∧ r = valV kvs k
/-- the heap behind a[y] = v -/
def DPut (H : Hp) (a : Addr) (y v : V) (H' : Hp) : Prop :=
  (∃ kvs k, H a = some (.dK kvs) ∧ y = kV k ∧ kvs.length < sizeLine ∧ H' = upd H a (.dK (putK kvs k v))) ∨
  ∃ kvs k b, H a = some (.dT kvs) ∧ y = .ref b ∧ H b = some (.tup (k.map kV)) ∧ kvs.length < sizeLine ∧ H' = upd H a (.dT (putK kvs k v))
theorem DGet.k {H : Hp} {a : Addr} {kvs : List (Key × V)} {k : Key} (e : H a = some (.dK kvs)) : DGet H a (kV k) (valV kvs k) := .inl ⟨kvs, k, .inl e, rfl, rfl⟩
theorem DGet.t {H : Hp} {a b : Addr} {kvs : List (List Key × V)} {k : List Key} (e : H a = some (.dT kvs)) (eb : H b = some (.tup (k.map kV))) : DGet H a (.ref b) (valV kvs k) := .inr ⟨kvs, k, b, .inl e, rfl, eb, rfl⟩
theorem DPut.k {H : Hp} {a : Addr} {kvs : List (Key × V)} {k : Key} {v : V} (e : H a = some (.dK kvs)) (hl : kvs.length < sizeLine) : DPut H a (kV k) v (upd H a (.dK (putK kvs k v))) := .inl ⟨kvs, k, e, rfl, hl, rfl⟩
theorem DPut.t {H : Hp} {a b : Addr} {kvs : List (List Key × V)} {k : List Key} {v : V} (e : H a = some (.dT kvs)) (eb : H b = some (.tup (k.map kV))) (hl : kvs.length < sizeLine) :
    DPut H a (.ref b) v (upd H a (.dT (putK kvs k v))) := .inr ⟨kvs, k, b, e, rfl, eb, hl, rfl⟩
section
variable {X : Cx} {pins : List (Addr × Obj)} {σ : St} {H : Hp} {s : Shared} {a : Addr} {y v : V} {u r : Value} {o : Option V} {A : Around} {E : Value → Shared → Prop}
/-- a dict's object is replaced -/
theorem d_write {h' : Heap} {t' : Nat} {ob : HO} (I : Inv X pins σ H s) (mu : Mut (H a)) (hs : Heap.SameBut a s.heap h') (he : ∃ q, h'.get? a = some q) (new : ObjOk X.prog X.w (upd H a ob) h' a ob) :
    Inv X pins σ (upd H a ob) { s with heap := h', toks := t' } :=
  I.write (x := a) (e := a) mu (.inl rfl) (fun b q hb z => (hs.2 b hb).trans z) he new
end
section
variable {X : Cx} {pins : List (Addr × Obj)} {σ : St} {H : Hp} {s : Shared} {a : Addr} {kvs : List (Key × V)} {k : Key} {u : Value} {A : Around} {E : Value → Shared → Prop}
/-- if d -/
theorem d_truth {Q : Bool → Shared → Prop} (I : Inv X pins σ H s) (e : Rd H a (.dK kvs)) (h : ∀ s', Inv X pins σ H s' → Q (!kvs.isEmpty) s') : wpAny (model X.prog X.w) A (truthy (.ref a)) Q E s := by
  obtain ⟨z, hd, vs, rel, dd⟩ := dk_rd I.hok e
  refine wpAny_truthy_dict hd dd (by rw [← rel.length]; rw [sizeLine_eq] at z; omega) ?_
  have q : kvs.isEmpty = vs.isEmpty := by cases rel <;> rfl
  rw [← q]
  exact h _ (I.tok _)
end
/-- the element of a subscription, not a slice -/
def NoSl (i : Expr) : Prop := ∀ ov iv, subscripted i false ov iv = operate [ov, iv] (getItem ov iv)
theorem subD_of {prog : Program} {w : World} {A : Around} {E : Value → Shared → Prop} {s : Shared} {env : Env} {value slice : Expr} {pos : Pos} {T id : String} {Q : Value → Shared → Prop}
    (hl : typeLookup (.type T) "__getitem__" = pure (some (.builtin id))) (hs : NoSl slice)
    (h : wpAny (model prog w) A (eval value env) (fun o s₁ => wpAny (model prog w) A (eval slice env) (fun i s₂ => s₂.TypeIs o T ∧ wpAny (model prog w) A (getItem o i) Q E s₂) E s₁) E s) :
    wpAny (model prog w) A (eval (.Subscript value slice pos) env) Q E s := by
  refine Subscript_ (wpAny_mono h (fun o s₁ h₁ => wpAny_mono h₁ (fun i s₂ h₂ => ?_) fun _ _ x => x) fun _ _ x => x)
  obtain ⟨hT, h₂⟩ := h₂
  unfold subscriptTail
  refine wpAny_bind ?_
  rw [getitemInPython_of_ne hT.not_modules]
  refine wpAny_bind (wpAny_specialOf hT hl ?_)
  have fin : wpAny (model prog w) A (subscripted slice false o i) (fun r s₃ => wpAny (model prog w) A (letTemporaryGo value o r >>= fun _ => pure r) Q E s₃) E s₂ := by
    rw [hs o i]
    exact wpAny_operating (wpAny_mono h₂ (fun r s₃ h₃ => wpAny_bind (wpAny_letTemporaryGo (wpAny_pure h₃))) fun _ _ x => x)
  first
    | exact wpAny_pure (wpAny_bind fin)
    | exact wpAny_bind (wpAny_pure (wpAny_bind fin))
    | exact wpAny_bind fin
section
variable {X : Cx} {o i e value : Expr} {pos pos' tpos : Pos} {td ty tv : TE}
end
section
variable {X : Cx} {pos : Pos}
end
/-- a method call o.m(e) of a built-in, with one argument: what must be seen of the text -/
structure M1 (X : Cx) (o : Expr) (m : Str) (apos : Pos) (e : Expr) (cpos : Pos) : Prop where
  base : attributeBase o m X.env (eval o X.env) = eval o X.env
  few : ((backTo cpos (starEach [e] X.env)).all (fun x => !x.1) && (backToKw cpos (keywordEach [] X.env)).all (fun x => x.1.isSome)
    && decide (([e] : List Expr).length + ([] : List Keyword).length + (if ([] : List Keyword).isEmpty then 0 else 1) < 30)) = true
  line : (apos.endLine == cpos.line) = true
  trees : backTo cpos (starEach [e] X.env) = [(false, eval e X.env)]
structure M2 (X : Cx) (o : Expr) (m : Str) (apos : Pos) (e f : Expr) (cpos : Pos) : Prop where
  base : attributeBase o m X.env (eval o X.env) = eval o X.env
  few : ((backTo cpos (starEach [e, f] X.env)).all (fun x => !x.1) && (backToKw cpos (keywordEach [] X.env)).all (fun x => x.1.isSome)
    && decide (([e, f] : List Expr).length + ([] : List Keyword).length + (if ([] : List Keyword).isEmpty then 0 else 1) < 30)) = true
  line : (apos.endLine == cpos.line) = true
  trees : backTo cpos (starEach [e, f] X.env) = [(false, eval e X.env), (false, eval f X.env)]
section
variable {X : Cx} {pins : List (Addr × Obj)} {σ : St} {H : Hp} {s : Shared} {a : Addr} {y d : V} {u r : Value} {o : Option V} {A : Around} {E : Value → Shared → Prop}
end
section
variable {X : Cx} {o e f : Expr} {apos cpos : Pos} {td ty tx : TE}
end
section
variable {X : Cx} {pins : List (Addr × Obj)} {σ : St} {H : Hp} {s : Shared} {a : Addr} {kvs : List (Key × V)} {A : Around} {E : Value → Shared → Prop}
end
section
variable {X : Cx} {pins : List (Addr × Obj)} {σ : St} {H : Hp} {s : Shared} {a : Addr} {y : V} {u : Value} {A : Around} {E : Value → Shared → Prop}
end
end L2
namespace L2
open PySem PySem.Spec PyProof.Rows
section
variable {prog : Program} {w : World} {A : Around} {E : Value → Shared → Prop}
end
section
variable {X : Cx}
end
end L2
namespace L2
open PySem PySem.Spec PyProof.Rows
section
variable {X : Cx} {pins : List (Addr × Obj)} {σ : St} {H : Hp} {s : Shared} {h' : Heap}
end
section
variable {X : Cx}
theorem pi_one {tg : Expr} {pins : List (Addr × Obj)} {σ : St} {H : Hp} {s : Shared} {R : It → Hp → Prop} {J : It} {tn : Nat → Heap → Prop} {tk : Nat} (I : Inv X pins σ H s) (o : Obj)
    (T : Turn X.prog X.w X.K tg J [s.heap.objs.size] s.heap.objs.size tn) (st : tn 0 (s.heap.push o)) (q : R J H) : PIE X pins σ tg R (.ref s.heap.objs.size) { s with heap := s.heap.push o, toks := tk } := by
  refine ⟨s.heap.objs.size, [s.heap.objs.size], tn, J, H, rfl, I.kept fun b ob e => Heap.get?_push_of_some _ e, T, st, fun b hb => ?_, q⟩
  have e : b = s.heap.objs.size := by simpa using hb
  subst e
  exact I.fpOk (Nat.le_refl _) (I.hok.fresh (Nat.le_refl _))
end
/-- lo, lo + c, .. (n of them) -/
def Itc (lo c : Int) (n : Nat) : It := ⟨fun i _ => i < n, fun i H x H' => H' = H ∧ x = .int (lo + (i : Nat) * c), fun i _ => n ≤ i⟩
theorem turn_rangeC {P : Program} {w : World} {K : PySem.W.Frag} {tg : Expr} (it : Addr) (lo c : Int) (n : Nat) : Turn P w K tg (Itc lo c n) [it] it (fun i h => IsRangeIter h it (lo + (i : Nat) * c) ((n : Int) - (i : Nat)) c) where
  mem := by simp
  obj := fun i h st b hb => by
    have e : b = it := by simpa using hb
    subst e
    exact ⟨_, st, fun v z => nomatch z⟩
  keep := fun i h h' st k => k it (by simp) _ st
  item := by
    intro X hP hw hK hc i pins s σ H E I hf st hg
    subst hP hw hK
    obtain ⟨f0, f1, f2, f3, f4, f5⟩ := hf it (by simp)
    have W := Walks.range (prog := X.prog) (w := X.w) (I.ok.hd hc) it lo c n
    refine W.item i s _ _ hg st fun v h' tk hv st' kk => ?_
    obtain ⟨t, rfl⟩ := hv
    have I1 : Inv X pins σ H { s with heap := h', toks := tk } := I.turned (fun b o hb e => kk b o (by simpa using hb) e) f0 f1 f3 f4 f5
    exact ⟨_, rfl, go_of (s := { s with heap := h', toks := tk }) (n := "range_iterator") st' rfl rfl (by decide) ⟨.int (lo + (i : Nat) * c), H, I1, ⟨t, rfl⟩, ⟨rfl, rfl⟩, st', fun b hb => (hf b hb).1⟩⟩
  done := by
    intro X hP hw hK hc i pins s σ H E I hf st hg
    subst hP hw hK
    obtain ⟨f0, f1, f2, f3, f4, f5⟩ := hf it (by simp)
    exact wpAny_pyNext_range_end (I.ok.hd hc) st (by have : n ≤ i := hg; omega) fun h' eb => ⟨rfl, I.turned (t' := s.toks) (fun b o hb e => eb b o hb e) f0 f1 f3 f4 f5⟩
  self := fun A i s Q E st h => wpAny_pyIter_rangeiter st h
/-- range(i, j, c): small bounds, n items -/
def RgC (i j c : Int) (n : Nat) : Prop := c ≠ 0 ∧ c.natAbs < 1073741824 ∧ Builtin.Range.small i j c = true ∧ Builtin.Range.rangeSize i j c = n
theorem RgC.neg {i j : Int} (ha : -(2 ^ 62) ≤ i) (ha' : i < 2 ^ 62) (hb : -(2 ^ 62) ≤ j) (hb' : j < 2 ^ 62) : RgC i j (-1) (i - j).toNat :=
  ⟨by decide, by decide, PySem.W.small_down ha ha' hb hb', PySem.W.rangeSize_downNat i j⟩
def iRng3 (ta : TA) : TI := fun σ H R => ta σ H fun vs H1 => ∃ (i j c : Int) (n : Nat), vs = [.int i, .int j, .int c] ∧ RgC i j c n ∧ R (Itc i c n) H1
section
variable {X : Cx} {tg : Expr}
theorem pi_range3 {a b c : Expr} {ta : TA} {p pos : Pos} (hg : Gl X "range") (hm : X.mg "range" = none) (ha : PA X [a, b, c] ta)
    (hs : starEach [a, b, c] X.env = (false, eval a X.env) :: starEach [b, c] X.env := by rfl) (hpl : (backTo pos (starEach [b, c] X.env)).any (·.1) = false := by rfl) :
    PI X tg (.Call (.Name "range" p) [a, b, c] [] pos) (iRng3 ta) := by
  intro pins s σ H R I h
  refine Call_ (ld_blt I hg hm boot_range (PyProof.Rows.callWith_type1 (thn (ha pos pins s σ H _ I h) fun us s1 ⟨vs, H1, I1, r1, q1⟩ => ?_) hs hpl))
  obtain ⟨i, j, k, n, e, ⟨c0, c1, c2, c3⟩, q⟩ := q1
  subst e
  cases r1 with
  | cons r rr =>
    cases rr with
    | cons r' rr =>
      cases rr with
      | cons r'' rr =>
        cases rr
        obtain ⟨t, rfl⟩ := r
        obtain ⟨t', rfl⟩ := r'
        obtain ⟨t'', rfl⟩ := r''
        refine call_range_3 c0 ?_ (.inl (PyProof.noPylong_small c1))
        refine wpAny_pyIter_range (IsRange.new ..) c2 ?_
        have I2 : Inv X pins σ H1 { s1 with heap := s1.heap.push { cls := .type "range", data := .fields #[.int i t, .int j t', .int k t''] } } := I1.kept (t' := s1.toks) fun b o e => Heap.get?_push_of_some _ e
        refine pi_one (tk := s1.toks) I2 _ (turn_rangeC _ i k n) ?_ q
        have e1 : i + ((0 : Nat) : Int) * k = i := by simp
        have e2 : (n : Int) - ((0 : Nat) : Int) = Builtin.Range.rangeSize i j k := by rw [c3]; simp
        show IsRangeIter _ _ (i + ((0 : Nat) : Int) * k) ((n : Int) - ((0 : Nat) : Int)) k
        rw [e1, e2]
        exact Heap.get?_push_size _ rfl
end
/-- the turns of a step range, for the for loop -/
theorem for_rangeC {lo c : Int} {n : Nat} {g : TG} {tb : TS} {D : Ends} {σ : St} {H : Hp} (Pv : Nat → St → Hp → Prop) (h0 : Pv 0 σ H)
    (hs : ∀ i σ H, i < n → Pv i σ H → g (.int (lo + (i : Nat) * c)) σ H fun σ2 H2 => tb { D with nx := Pv (i + 1), ct := Pv (i + 1), bk := D.nx } σ2 H2) (hd : ∀ σ H, Pv n σ H → D.nx σ H) :
    ∃ W : Nat → Nat → St → Hp → Prop, (∃ m, W 0 m σ H) ∧ ∀ i m σ H, W i m σ H →
      ((Itc lo c n).stop i H ∧ D.nx σ H) ∨ ((Itc lo c n).go i H ∧ ∃ N : St → Hp → Prop, (∀ σ' H', N σ' H' → ∃ m', m' < m ∧ W (i + 1) m' σ' H') ∧ ∀ x H', (Itc lo c n).yld i H x H' → g x σ H' fun σ2 H2 => tb { D with nx := N, ct := N, bk := D.nx } σ2 H2) := by
  refine ⟨fun i m σ H => m = n - i ∧ i ≤ n ∧ Pv i σ H, ⟨n, by simp, Nat.zero_le _, h0⟩, ?_⟩
  rintro i m σ H ⟨rfl, hi, p⟩
  by_cases hlt : i < n
  · refine .inr ⟨hlt, Pv (i + 1), fun σ' H' p' => ⟨n - (i + 1), by omega, rfl, hlt, p'⟩, fun x H' y => ?_⟩
    obtain ⟨e, y⟩ := y
    subst e y
    exact hs i σ _ hlt p
  · have e : i = n := by omega
    subst e
    exact .inl ⟨Nat.le_refl _, hd σ H p⟩
section
variable {X : Cx} {tg : Expr}
end
section
variable {prog : Program} {w : World} {A : Around} {E : Value → Shared → Prop} {s : Shared}
end
section
variable {X : Cx} {pins : List (Addr × Obj)} {σ : St} {H : Hp} {s : Shared} {d : Addr} {o : Obj}
end
section
variable {P : Program} {w : World} {K : PySem.W.Frag} {tg : Expr} {d : Addr} {o : Obj} {es : Array DictEntry} {ep : Nat}
end
section
variable {X : Cx} {tg e : Expr} {td : TE} {apos cpos : Pos}
end
end L2
section 
namespace Bits
open PySem PyProof.Rows
end Bits
end 
section 
namespace TL
open PySem PySem.Builtin PySem.Builtin.Str PySem.StrLaws
abbrev tl (x : Str) : List Nat := x.cps.toList
/-- S stands at the head of l -/
def pre (S l : List Nat) : Bool := l.take S.length == S
/-- what stands before the first S, and behind it -/
def par (S : List Nat) : List Nat → List Nat → Option (List Nat × List Nat)
  | _, [] => none
  | acc, c :: r => if pre S (c :: r) = true then some (acc, (c :: r).drop S.length) else par S (acc ++ [c]) r
theorem pre_of_head {s c : Nat} (S r : List Nat) (h : c ≠ s) : pre (s :: S) (c :: r) = false := by
  cases hp : pre (s :: S) (c :: r) with
  | false => rfl
  | true =>
    have e : (c :: r).take (s :: S).length = s :: S := eq_of_beq hp
    rw [List.length_cons, List.take_succ_cons] at e
    injection e with e1 e2
    exact absurd e1 h
/-- the separator's first sign is not in the part -/
theorem free_of {s : Nat} {S p q : List Nat} (h : s ∉ p) : ∀ i, i < p.length → pre (s :: S) ((p ++ q).drop i) = false := fun i hi => by
  have hlt : i < (p ++ q).length := by rw [List.length_append]; omega
  have e : (p ++ q).drop i = (p ++ q)[i] :: (p ++ q).drop (i + 1) := List.drop_eq_getElem_cons hlt
  rw [e]
  refine pre_of_head _ _ fun z => h ?_
  have e1 : (p ++ q)[i] = p[i] := List.getElem_append_left hi
  rw [← z, e1]
  exact List.getElem_mem hi
end TL
end 
namespace L2
open PySem PySem.Spec PyProof.Rows
section
variable {X : Cx} {pins : List (Addr × Obj)} {σ : St} {H : Hp} {s : Shared} {Q : VK}
end
section
variable {X : Cx}
end
section
variable {X : Cx} {o e : Expr} {to te : TE}
end
end L2
namespace L2
open PySem PySem.Spec PyProof.Rows
section
variable {X : Cx}
end
theorem IsPart.raw {v : Value} {o : Option Int} (p : IsPart v o) : ∃ l : Option (Int × Tok), v = partValue l ∧ l.map (·.1) = o := by
  cases p with
  | none => exact ⟨none, rfl, rfl⟩
  | int i t => exact ⟨some (i, t), rfl, rfl⟩
end L2
namespace Att
open PySem PySem.W PySem.Calls PyProof.Rows
section
variable {prog : Program} {w : World} {A : Around} {E : Value → Shared → Prop} {s : Shared} {K : Frag}
end
end Att
namespace L2
open PySem PySem.Spec PyProof.Rows
end L2
namespace L2
open PySem PySem.Spec PyProof.Rows
end L2
namespace L2
open PySem PySem.Spec PyProof.Rows
/-- the j-th statement of a class's body -/
def inClass (s : Stmt) (j : Nat) : Stmt := match s with
  | .ClassDef _ _ _ body _ _ _ _ _ _ _ => body.getD j (.Pass ⟨0, 0, 0, 0⟩)
  | _ => .Pass ⟨0, 0, 0, 0⟩
def defArgs (s : Stmt) : Arguments := match s with
  | .FunctionDef _ a _ _ _ _ _ _ _ _ => a
  | _ => { posonlyargs := [], args := [], vararg := none, kwonlyargs := [], kw_defaults := [], kwarg := none, defaults := [] }
def defBody (s : Stmt) : List Stmt := match s with
  | .FunctionDef _ _ b _ _ _ _ _ _ _ => b
  | _ => []
def defScope (s : Stmt) : Scope := match s with
  | .FunctionDef _ _ _ _ _ _ sc _ _ _ => sc
  | _ => { kind := .function, names := [], isGenerator := false, isCoroutine := false }
abbrev CX0 : CXT := fun _ _ _ _ _ _ => False
abbrev E0 : XK := fun _ _ _ => False
theorem pass0 {X : Cx} : Passes CX0 X E0 := fun _ _ _ _ _ _ _ h => h.elim
structure Fun (K : PySem.W.Frag) (x qual : Str) (st : Stmt) (f : Addr) (fd : FuncData) : Prop where
  ex : ∃ (oc : Value) (od : Option Addr) (kV doc pm : Value) (an : Option Addr) (cdv ct : Value) (osl : Array (Option Value)),
    fd = PySem.W.fnOf x qual (defArgs st) (defBody st) (defScope st) .none kV doc pm an cdv ct ∧ K.lookup f = some ⟨oc, od, .func fd, osl⟩ ∧ PySem.W.codeIn K cdv qual = true
  kp : PySem.W.keepIn K (.ref f) = true
section
variable {P : Program} {w : World} {K : PySem.W.Frag} {mg : Str → Option Value} {base : Heap}
/-- THE RULE for a def: its body as a term of rules, and the reading of that term -/
theorem Fun.ok {x qual : Str} {st : Stmt} {f : Addr} {fd : FuncData} {N ps : List Str} {k : Nat} {sp : Sp} (F : Fun K x qual st f fd) (S : FnScope N ps (defScope st)) (len : ∀ vs H Q E, sp vs H Q E → vs.length = ps.length)
    (hbody : ∀ (cdv : Value) (A : Around) (outer : List Env) (s : Shared) (H : Hp) (vs : List V) (Q : VK) (E : XK), Room k (A.deeper (envOfC qual (defScope st) s.heap.objs.size f cdv)) → sp vs H Q E →
      ∃ t, PSs (cxOf CX0 P w K mg base N qual (defScope st) f cdv A outer s H E).nox (defBody st) t ∧ t { nx := fun _ H' => Q .non H', rt := Q } (start N vs) H) : FnOk P w K mg base CX0 (k + 1) f fd ps sp := by
  obtain ⟨oc, od, kV, doc, pm, an, cdv, ct, osl, rfl, lk, hcd⟩ := F.ex
  refine fn_of lk hcd S len fun A outer s H vs Q E hr hsp => ?_
  obtain ⟨t, h, q⟩ := hbody cdv A outer s H vs Q E hr hsp
  exact ⟨t, h.nox, q⟩
/-- how its arguments bind (no defaults): h is «fun _ _ _ _ _ _ us hl => match us, hl with | [_, _], _ => rfl», one _ a parameter -/
theorem Fun.binds {x qual : Str} {st : Stmt} {f : Addr} {fd : FuncData} {ps : List Str} (F : Fun K x qual st f fd)
    (h : ∀ (kV doc pm : Value) (an : Option Addr) (cdv ct : Value) (us : List Value), us.length = ps.length → bindArgs (PySem.W.fnOf x qual (defArgs st) (defBody st) (defScope st) .none kV doc pm an cdv ct) ⟨us, []⟩ = pure (ps.zip us)) : Binds K fd ps [] := by
  obtain ⟨oc, od, kV, doc, pm, an, cdv, ct, osl, rfl, lk, hcd⟩ := F.ex
  exact .all (h kV doc pm an cdv ct)
theorem fun_mk {x qual : Str} {st : Stmt} {f : Addr} {oc : Value} {od an : Option Addr} {osl : Array (Option Value)} {kV doc pm cdv ct : Value} (l : K.lookup f = some ⟨oc, od, .func (PySem.W.fnOf x qual (defArgs st) (defBody st) (defScope st) .none kV doc pm an cdv ct), osl⟩)
    (c : PySem.W.codeIn K cdv qual = true) (k : PySem.W.keepIn K (.ref f) = true) : Fun K x qual st f (PySem.W.fnOf x qual (defArgs st) (defBody st) (defScope st) .none kV doc pm an cdv ct) := ⟨⟨oc, od, kV, doc, pm, an, cdv, ct, osl, rfl, l, c⟩, k⟩
end
section
variable {X : Cx}
theorem pv (i : Nat) {x : Str} {pos : Pos} (hN : X.N[i]? = some x := by rfl) (hv : Vis X.env.scope x := by first | exact Or.inl rfl | exact Or.inr (Or.inl rfl) | exact Or.inr (Or.inr rfl)) (hd : (x == ("__debug__" : Str)) = false := by decide)
    (hcd : (x == ("__classdict__" : Str)) = false := by decide) : PE X (.Name x pos) (tVar i) := pe_var hN hv hd hcd
end
theorem iteF {A B : Prop} (h : B) : if false = true then A else B := by
  rw [if_neg Bool.false_ne_true]
  exact h
theorem iteT {A B : Prop} (h : A) : if true = true then A else B := by
  rw [if_pos rfl]
  exact h
/-- all that was tracked is as it was -/
def Same (H H' : Hp) : Prop := ∀ b o, H b = some o → H' b = some o
theorem Same.refl (H : Hp) : Same H H := fun _ _ h => h
theorem Same.trans {H H1 H2 : Hp} (a : Same H H1) (b : Same H1 H2) : Same H H2 := fun c o h => b c o (a c o h)
theorem Same.free {H H' : Hp} (e : Same H H') {l : Addr} (h : H' l = Option.none) : H l = Option.none := by
  cases q : H l with
  | none => rfl
  | some o =>
    rw [e l o q] at h
    cases h
theorem Same.seq {K : PySem.W.Frag} {H H' : Hp} {a : Addr} {xs : List V} (e : Same H H') (h : SqL K H a xs) : SqL K H' a xs := by
  rcases h with (h | ⟨o, h⟩) | h
  · exact .inl (.inl (e _ _ h))
  · exact .inl (.inr ⟨o, e _ _ h⟩)
  · exact .inr h
section
variable {κ : Type} [DecidableEq κ]
end
theorem at_of {xs : List V} {z : Int} {j : Nat} {v : V} (e : z = (j : Int)) (h : xs[j]? = some v) : atI xs z = some v := by
  rw [e]
  exact atI_nat h
theorem nd_ix {α : Type} {l : List α} (hN : l.Nodup) {i j : Nat} {x : α} (a : l[i]? = some x) (b : l[j]? = some x) : i = j := by
  obtain ⟨h1, e1⟩ := List.getElem?_eq_some_iff.mp a
  obtain ⟨h2, e2⟩ := List.getElem?_eq_some_iff.mp b
  exact (List.getElem_inj hN).mp (e1.trans e2.symm)
/-- a new instance and its __init__ leave all that was tracked as it was -/
theorem Same.made {H H1 : Hp} {x dx C : Addr} (nx : H x = Option.none) (nd : H dx = Option.none) (k : ∀ b o, (upd (upd H dx (.own x)) x (.ins C dx [])) b = some o → b ≠ x → H1 b = some o) : Same H H1 := fun b o e =>
  k b o (by rw [upd_ne (ne_of_none e nx), upd_ne (ne_of_none e nd)]; exact e) (ne_of_none e nx)
end L2
section
set_option Elab.async false
set_option linter.all false
set_option maxRecDepth 100000
set_option maxHeartbeats 2000000
namespace L2
open PySem PySem.Spec PyProof.Rows
open PySem.W (WData Codec OpenSpec Well WellAll ReadsW ReadsAllW)
mutual
/-- x stands for the datum d, lists and tuples all the way -/
inductive Dw (K : PySem.W.Frag) (H : Hp) : V → WData → Prop
  | non : Dw K H .non .none
  | bl (b : Bool) : Dw K H (.bl b) (.bool b)
  | int (i : Int) : Dw K H (.int i) (.int i)
  | str (x : Str) : Dw K H (.str x) (.str x)
  | byt (b : Array UInt8) : Dw K H (.byt b) (.bytes b.toList)
  | lst {a : Addr} {xs : List V} {ds : List WData} : SqL K H a xs → DwAll K H xs ds → Dw K H (.ref a) (.list ds)
  | tup {a : Addr} {xs : List V} {ds : List WData} : SqT K H a xs → DwAll K H xs ds → Dw K H (.ref a) (.tuple ds)
inductive DwAll (K : PySem.W.Frag) (H : Hp) : List V → List WData → Prop
  | nil : DwAll K H [] []
  | cons {v : V} {vs : List V} {d : WData} {ds : List WData} : Dw K H v d → DwAll K H vs ds → DwAll K H (v :: vs) (d :: ds)
end
theorem dw_ints {K : PySem.W.Frag} {H : Hp} : ∀ ns : List Int, DwAll K H (ns.map V.int) (ns.map WData.int)
  | [] => .nil
  | n :: r => .cons (.int n) (dw_ints r)
theorem ints_dw {K : PySem.W.Frag} {H : Hp} : ∀ (ns : List Int) (xs : List V), DwAll K H xs (ns.map WData.int) → xs = ns.map V.int
  | [], xs, h => by
    cases h
    rfl
  | n :: r, xs, h => by
    cases h with
    | cons h1 h2 =>
      cases h1
      rw [ints_dw r _ h2] <;> rfl
section
variable {P : Program} {w : World} {K : PySem.W.Frag} {H : Hp} {h : Heap} {R : PySem.W.WRecords} {cl : Str → Option Addr}
theorem sqL_at {a : Addr} {xs : List V} (hok : HOk P w H h) (KX : K.In h) (q : SqL K H a xs) : ∃ (its : List Value) (o : Obj) (n : Nat), Vals xs its ∧ h.get? a = some o ∧ o.cls = .type "list" ∧ o.data = .seq its.toArray n := by
  rcases q with q | ⟨o, its, n, e, hc, _, hd, _, hv⟩
  · obtain ⟨_, its, n, hv, e⟩ := (show ObjOk P w H h a (.lst xs) from q.ok hok)
    exact ⟨its, _, n, hv, e, rfl, rfl⟩
  · exact ⟨its.toList, o, n, hv, KX _ _ e, hc, by simp [hd]⟩
theorem sqT_at {a : Addr} {xs : List V} (hok : HOk P w H h) (KX : K.In h) (q : SqT K H a xs) : ∃ (its : List Value) (o : Obj) (n : Nat), Vals xs its ∧ h.get? a = some o ∧ o.cls = .type "tuple" ∧ o.data = .seq its.toArray n := by
  rcases q with q | ⟨o, its, n, e, hc, hd, _, hv⟩
  · obtain ⟨_, its, hv, o, e, hc, n, hd⟩ := (show ObjOk P w H h a (.tup xs) from q.ok hok)
    exact ⟨its, o, n, hv, e, hc, hd⟩
  · exact ⟨its.toList, o, n, hv, KX _ _ e, hc, by simp [hd]⟩
mutual
theorem Dw.reads (hok : HOk P w H h) (KX : K.In h) : ∀ (d : WData) (v : V) (u : Value), Dw K H v d → RelV v u → ∃ as, ReadsW R cl h u d as
  | .none, _, _, x, r => by
    cases x
    cases r
    exact ⟨_, ReadsW.none⟩
  | .bool b, _, _, x, r => by
    cases x
    cases r
    exact ⟨_, ReadsW.bool b⟩
  | .int i, _, _, x, r => by
    cases x
    obtain ⟨t, rfl⟩ := r
    exact ⟨_, ReadsW.int i t⟩
  | .str s, _, _, x, r => by
    cases x
    obtain ⟨t, rfl⟩ := r
    exact ⟨_, ReadsW.str s t⟩
  | .bytes b, _, _, x, r => by
    cases x
    obtain ⟨t, rfl⟩ := r
    exact ⟨_, ReadsW.bytes _ t⟩
  | .list ds, _, _, x, r => by
    cases x with
    | lst hs ha =>
      cases r
      obtain ⟨its, o, n, rv, ho, hc, hd⟩ := sqL_at hok KX hs
      obtain ⟨as, hr⟩ := Dw.readsAll hok KX ds _ its ha rv
      exact ⟨_, ReadsW.list ho hc hd hr⟩
  | .tuple ds, _, _, x, r => by
    cases x with
    | tup hs ha =>
      cases r
      obtain ⟨its, o, n, rv, ho, hc, hd⟩ := sqT_at hok KX hs
      obtain ⟨as, hr⟩ := Dw.readsAll hok KX ds _ its ha rv
      exact ⟨_, ReadsW.tuple ho hc hd hr⟩
  | .float _, _, _, x, _ => by cases x
  | .dict _, _, _, x, _ => by cases x
  | .bytearray _, _, _, x, _ => by cases x
  | .set _, _, _, x, _ => by cases x
  | .frozenset _, _, _, x, _ => by cases x
  | .obj _ _, _, _, x, _ => by cases x
theorem Dw.readsAll (hok : HOk P w H h) (KX : K.In h) : ∀ (ds : List WData) (vs : List V) (us : List Value), DwAll K H vs ds → Vals vs us → ∃ as, ReadsAllW R cl h us ds as
  | [], _, _, x, r => by
    cases x
    cases r
    exact ⟨_, ReadsAllW.nil⟩
  | d :: ds, _, _, x, r => by
    cases x with
    | cons h1 h2 =>
      cases r with
      | cons r1 r2 =>
        obtain ⟨as, q1⟩ := Dw.reads hok KX d _ _ h1 r1
        obtain ⟨bs, q2⟩ := Dw.readsAll hok KX ds _ _ h2 r2
        exact ⟨_, ReadsAllW.cons q1 q2⟩
end
end
mutual
/-- data that a codec tells -/
def plW : WData → Bool
  | .none => true
  | .bool _ => true
  | .int _ => true
  | .str _ => true
  | .bytes _ => true
  | .list xs => plWs xs
  | .tuple xs => plWs xs
  | _ => false
def plWs : List WData → Bool
  | [] => true
  | x :: r => plW x && plWs r
end
theorem plWs_map {α : Type} {f : α → WData} (h : ∀ a, plW (f a) = true) : ∀ l : List α, plWs (l.map f) = true
  | [] => rfl
  | x :: r => by
    show (plW (f x) && plWs (r.map f)) = true
    rw [h x, plWs_map h r] <;> rfl
theorem pl_enc : ∀ (c : Codec) (a : c.denote), plW (c.enc a) = true
  | .unit, _ => rfl
  | .bool, _ => rfl
  | .int _ _, _ => rfl
  | .nat _ _, _ => rfl
  | .u8, _ => rfl
  | .bytes _ _, _ => rfl
  | .text _ _ _ _, _ => rfl
  | .list _ _ c, a => plWs_map (fun x => pl_enc c x) a
  | .pair c d, a => by
    show (plW (c.enc a.1) && (plW (d.enc a.2) && true)) = true
    rw [pl_enc c a.1, pl_enc d a.2] <;> rfl
  | .triple c d e, a => by
    show (plW (c.enc a.1) && (plW (d.enc a.2.1) && (plW (e.enc a.2.2) && true))) = true
    rw [pl_enc c a.1, pl_enc d a.2.1, pl_enc e a.2.2] <;> rfl
  | .option c, none => rfl
  | .option c, some x => pl_enc c x
theorem pl_encAll : ∀ (cs : List Codec) (a : Codec.denoteAll cs), plWs (Codec.encAll cs a) = true
  | [], _ => rfl
  | c :: cs, a => by
    show (plW (c.enc a.1) && plWs (Codec.encAll cs a.2)) = true
    rw [pl_enc c a.1, pl_encAll cs a.2] <;> rfl
theorem weight_mem : ∀ {xs : List WData} {d : WData}, d ∈ xs → d.weight ≤ WData.weightAll xs
  | [], d, h => absurd h (by simp)
  | x :: r, d, h => by
    show d.weight ≤ x.weight + 1 + WData.weightAll r
    rcases List.mem_cons.mp h with e | m
    · rw [e]
      omega
    · have z := weight_mem m
      omega
def toV : Value → V
  | .none => .non
  | .bool b => .bl b
  | .int i _ => .int i
  | .str x _ => .str x
  | .bytes b _ => .byt b
  | .ref a => .ref a
  | _ => .non
/-- a value of the arguments, its objects among A -/
def OkU (A : List Addr) : Value → Prop
  | .none => True
  | .bool _ => True
  | .int _ _ => True
  | .str _ _ => True
  | .bytes _ _ => True
  | .ref a => a ∈ A
  | _ => False
theorem OkU.mono {A B : List Addr} (h : ∀ a ∈ A, a ∈ B) : ∀ {u : Value}, OkU A u → OkU B u := fun {u} x => by
  cases u with
  | ref a => exact h a x
  | none => trivial
  | bool b => trivial
  | int i t => trivial
  | str s t => trivial
  | bytes b t => trivial
  | _ => exact False.elim x
theorem relV_toV {A : List Addr} {u : Value} (x : OkU A u) : RelV (toV u) u := by
  cases u with
  | ref a => rfl
  | none => rfl
  | bool b => rfl
  | int i t => exact ⟨t, rfl⟩
  | str s t => exact ⟨t, rfl⟩
  | bytes b t => exact ⟨t, rfl⟩
  | _ => exact False.elim x
theorem vals_toV {A : List Addr} : ∀ {vs : List Value}, (∀ u ∈ vs, OkU A u) → Vals (vs.map toV) vs
  | [], _ => .nil
  | u :: r, h => .cons (relV_toV (h u (List.mem_cons_self ..))) (vals_toV fun x hx => h x (List.mem_cons_of_mem _ hx))
/-- an object of the arguments -/
def ArgOb (h : Heap) (A : List Addr) (a : Addr) : Prop := ∃ vs : List Value, vs.length ≤ sizeLine ∧ (∀ u ∈ vs, OkU A u) ∧
  (h.get? a = some { cls := .type "list", data := .seq vs.toArray } ∨ h.get? a = some { cls := .type "tuple", data := .seq vs.toArray })
theorem ArgOb.mono {h : Heap} {A B : List Addr} {a : Addr} (k : ∀ a ∈ A, a ∈ B) (x : ArgOb h A a) : ArgOb h B a := by
  obtain ⟨vs, h1, h2, h3⟩ := x
  exact ⟨vs, h1, fun u hu => (h2 u hu).mono k, h3⟩
theorem wellAll_len {P : Params} {h : Heap} : ∀ {vs : List Value} {ds : List WData}, WellAll P h vs ds → vs.length = ds.length
  | _, _, .nil => rfl
  | _, _, .cons _ b => by
    show _ + 1 = _ + 1
    rw [wellAll_len b]
theorem well_list {P : Params} {h : Heap} {v : Value} {ds : List WData} (x : Well P h v (.list ds)) : ∃ (a : Addr) (vs : List Value), v = .ref a ∧ h.get? a = some { cls := .type "list", data := .seq vs.toArray } ∧ WellAll P h vs ds := by
  cases x with
  | list ho hall => exact ⟨_, _, rfl, ho, hall⟩
theorem well_tuple {P : Params} {h : Heap} {v : Value} {ds : List WData} (x : Well P h v (.tuple ds)) : ∃ (a : Addr) (vs : List Value), v = .ref a ∧ h.get? a = some { cls := .type "tuple", data := .seq vs.toArray } ∧ WellAll P h vs ds := by
  cases x with
  | tuple ho hall => exact ⟨_, _, rfl, ho, hall⟩
theorem well_cons {P : Params} {h : Heap} {us : List Value} {d : WData} {ds : List WData} (x : WellAll P h us (d :: ds)) : ∃ (v : Value) (vs : List Value), us = v :: vs ∧ Well P h v d ∧ WellAll P h vs ds := by
  cases x with
  | cons a b => exact ⟨_, _, rfl, a, b⟩
theorem line_of {n : Nat} (h : n ≤ 1048576) : n ≤ sizeLine := Nat.le_trans h (by decide)
section
variable {P : Params} {h : Heap}
mutual
theorem area_one : ∀ (d : WData) (v : Value), Well P h v d → plW d = true → d.weight ≤ 1048576 → ∃ A : List Addr, OkU A v ∧ ∀ a ∈ A, ArgOb h A a
  | .none, _, x, _, _ => by
    cases x
    exact ⟨[], trivial, fun a m => absurd m (by simp)⟩
  | .bool b, _, x, _, _ => by
    cases x
    exact ⟨[], trivial, fun a m => absurd m (by simp)⟩
  | .int i, _, x, _, _ => by
    cases x
    exact ⟨[], trivial, fun a m => absurd m (by simp)⟩
  | .str s, _, x, _, _ => by
    cases x
    exact ⟨[], trivial, fun a m => absurd m (by simp)⟩
  | .bytes b, _, x, _, _ => by
    cases x
    exact ⟨[], trivial, fun a m => absurd m (by simp)⟩
  | .list ds, _, x, p, z => by
    obtain ⟨a, vs, rfl, ho, hall⟩ := well_list x
    have z2 : WData.weightAll ds ≤ 1048576 := z
    obtain ⟨A, h1, h2⟩ := area_all ds _ hall p fun d hd => Nat.le_trans (weight_mem hd) z2
    have k : ∀ b ∈ A, b ∈ a :: A := fun b hb => List.mem_cons_of_mem _ hb
    refine ⟨a :: A, List.mem_cons_self .., fun b hb => ?_⟩
    rcases List.mem_cons.mp hb with e | m
    · rw [e]
      exact ⟨vs, line_of (by rw [wellAll_len hall]; exact Nat.le_trans (PySem.W.length_le_weightAllW ds) z2), fun u hu => (h1 u hu).mono k, .inl ho⟩
    · exact (h2 b m).mono k
  | .tuple ds, _, x, p, z => by
    obtain ⟨a, vs, rfl, ho, hall⟩ := well_tuple x
    have z2 : WData.weightAll ds ≤ 1048576 := z
    obtain ⟨A, h1, h2⟩ := area_all ds _ hall p fun d hd => Nat.le_trans (weight_mem hd) z2
    have k : ∀ b ∈ A, b ∈ a :: A := fun b hb => List.mem_cons_of_mem _ hb
    refine ⟨a :: A, List.mem_cons_self .., fun b hb => ?_⟩
    rcases List.mem_cons.mp hb with e | m
    · rw [e]
      exact ⟨vs, line_of (by rw [wellAll_len hall]; exact Nat.le_trans (PySem.W.length_le_weightAllW ds) z2), fun u hu => (h1 u hu).mono k, .inr ho⟩
    · exact (h2 b m).mono k
  | .float _, _, _, p, _ => Bool.noConfusion (show false = true from p)
  | .dict _, _, _, p, _ => Bool.noConfusion (show false = true from p)
  | .bytearray _, _, _, p, _ => Bool.noConfusion (show false = true from p)
  | .set _, _, _, p, _ => Bool.noConfusion (show false = true from p)
  | .frozenset _, _, _, p, _ => Bool.noConfusion (show false = true from p)
  | .obj _ _, _, _, p, _ => Bool.noConfusion (show false = true from p)
theorem area_all : ∀ (ds : List WData) (vs : List Value), WellAll P h vs ds → plWs ds = true → (∀ d ∈ ds, d.weight ≤ 1048576) → ∃ A : List Addr, (∀ u ∈ vs, OkU A u) ∧ ∀ a ∈ A, ArgOb h A a
  | [], _, x, _, _ => by
    cases x
    exact ⟨[], fun u m => absurd m (by simp), fun a m => absurd m (by simp)⟩
  | d :: ds, _, x, p, z => by
    obtain ⟨v, vs, rfl, x1, x2⟩ := well_cons x
    have q : plW d = true ∧ plWs ds = true := Bool.and_eq_true_iff.mp p
    obtain ⟨A, a1, a2⟩ := area_one d v x1 q.1 (z d (List.mem_cons_self ..))
    obtain ⟨B, b1, b2⟩ := area_all ds vs x2 q.2 fun e he => z e (List.mem_cons_of_mem _ he)
    have kA : ∀ b ∈ A, b ∈ A ++ B := fun b hb => List.mem_append.mpr (.inl hb)
    have kB : ∀ b ∈ B, b ∈ A ++ B := fun b hb => List.mem_append.mpr (.inr hb)
    refine ⟨A ++ B, fun u hu => ?_, fun b hb => ?_⟩
    · rcases List.mem_cons.mp hu with e | m
      · rw [e]
        exact a1.mono kA
      · exact (b1 u m).mono kB
    · rcases List.mem_append.mp hb with m | m
      · exact (a2 b m).mono kA
      · exact (b2 b m).mono kB
end
end
/-- what is tracked of an argument's object -/
def hoOf (o : Obj) : Option HO := match o.data with
  | .seq vs _ => if (o.cls == Value.type "list") = true then some (.frz o (.lst (vs.toList.map toV))) else some (.frz o (.tup (vs.toList.map toV)))
  | _ => none
def argH (K : PySem.W.Frag) (h : Heap) (A : List Addr) : Hp := fun b => if b ∈ A then (if (K.lookup b).isNone = true then (h.get? b).bind hoOf else none) else none
/-- nothing is tracked but what is known to the object -/
def OnlyF (H : Hp) : Prop := ∀ b, H b = none ∨ ∃ o u, H b = some (.frz o u)
theorem hoOf_lst (vs : List Value) : hoOf { cls := .type "list", data := .seq vs.toArray } = some (.frz { cls := .type "list", data := .seq vs.toArray } (.lst (vs.map toV))) := by
  show (if (Value.type "list" == Value.type "list") = true then some (HO.frz { cls := .type "list", data := .seq vs.toArray } (.lst (vs.toArray.toList.map toV))) else some (HO.frz { cls := .type "list", data := .seq vs.toArray } (.tup (vs.toArray.toList.map toV)))) = _
  rw [if_pos (beq_self_eq_true _)]
theorem hoOf_tup (vs : List Value) : hoOf { cls := .type "tuple", data := .seq vs.toArray } = some (.frz { cls := .type "tuple", data := .seq vs.toArray } (.tup (vs.map toV))) := by
  show (if (Value.type "tuple" == Value.type "list") = true then some (HO.frz { cls := .type "tuple", data := .seq vs.toArray } (.lst (vs.toArray.toList.map toV))) else some (HO.frz { cls := .type "tuple", data := .seq vs.toArray } (.tup (vs.toArray.toList.map toV)))) = _
  rw [if_neg (by decide)]
section
variable {P : Program} {w : World} {K : PySem.W.Frag} {h : Heap} {A : List Addr}
theorem argH_at {b : Addr} {o : Obj} (hb : b ∈ A) (hk : K.lookup b = none) (e : h.get? b = some o) : argH K h A b = hoOf o := by
  unfold argH
  rw [if_pos hb, hk, if_pos (show (none : Option Obj).isNone = true from rfl), e] <;> rfl
theorem of_argH {b : Addr} {u : HO} (q : argH K h A b = some u) : b ∈ A ∧ K.lookup b = none := by
  unfold argH at q
  by_cases hb : b ∈ A
  · rw [if_pos hb] at q
    cases hk : K.lookup b with
    | none => exact ⟨hb, rfl⟩
    | some o =>
      rw [hk, if_neg (by simp)] at q
      cases q
  · rw [if_neg hb] at q
    cases q
/-- what stands tracked -/
theorem argH_is (ar : ∀ a ∈ A, ArgOb h A a) {b : Addr} {u : HO} (q : argH K h A b = some u) : K.lookup b = none ∧ ∃ vs : List Value, vs.length ≤ sizeLine ∧ (∀ u ∈ vs, OkU A u) ∧
    ((h.get? b = some { cls := .type "list", data := .seq vs.toArray } ∧ u = .frz { cls := .type "list", data := .seq vs.toArray } (.lst (vs.map toV))) ∨
     (h.get? b = some { cls := .type "tuple", data := .seq vs.toArray } ∧ u = .frz { cls := .type "tuple", data := .seq vs.toArray } (.tup (vs.map toV)))) := by
  obtain ⟨hb, hk⟩ := of_argH q
  obtain ⟨vs, h1, h2, h3⟩ := ar b hb
  refine ⟨hk, vs, h1, h2, ?_⟩
  rcases h3 with e | e
  · rw [argH_at hb hk e, hoOf_lst] at q
    exact .inl ⟨e, (Option.some.inj q).symm⟩
  · rw [argH_at hb hk e, hoOf_tup] at q
    exact .inr ⟨e, (Option.some.inj q).symm⟩
theorem argH_only (ar : ∀ a ∈ A, ArgOb h A a) : OnlyF (argH K h A) := fun b => by
  cases q : argH K h A b with
  | none => exact .inl rfl
  | some u =>
    obtain ⟨_, vs, _, _, ⟨_, e⟩ | ⟨_, e⟩⟩ := argH_is ar q
    · exact .inr ⟨_, _, by rw [e]⟩
    · exact .inr ⟨_, _, by rw [e]⟩
theorem argH_ok (ar : ∀ a ∈ A, ArgOb h A a) : HOk P w (argH K h A) h := fun b u q => by
  obtain ⟨_, vs, h1, h2, ⟨e, rfl⟩ | ⟨e, rfl⟩⟩ := argH_is ar q
  · exact ⟨e, by rw [List.length_map]; exact h1, vs, _, vals_toV h2, e⟩
  · exact ⟨e, by rw [List.length_map]; exact h1, vs, vals_toV h2, _, e, rfl, _, rfl⟩
theorem seq_inj {c c' : Value} {vs us : List Value} (e : (some { cls := c, data := .seq vs.toArray } : Option Obj) = some { cls := c', data := .seq us.toArray }) : c = c' ∧ vs = us := by
  have e1 := Option.some.inj e
  have e2 : c = c' := congrArg Obj.cls e1
  have e3 : Data.seq vs.toArray = Data.seq us.toArray := congrArg Obj.data e1
  injection e3 with e4
  refine ⟨e2, ?_⟩
  have e5 := congrArg Array.toList e4
  simpa using e5
/-- a list argument -/
theorem argL (KX : K.In h) (ar : ∀ a ∈ A, ArgOb h A a) {a : Addr} {vs : List Value} (ha : a ∈ A) (e : h.get? a = some { cls := .type "list", data := .seq vs.toArray }) : (∀ u ∈ vs, OkU A u) ∧ SqL K (argH K h A) a (vs.map toV) := by
  obtain ⟨us, h1, h2, h3⟩ := ar a ha
  have hu : us = vs := by
    rcases h3 with q | q
    · rw [e] at q
      exact (seq_inj q).2.symm
    · rw [e] at q
      exact absurd (Value.type.inj (seq_inj q).1) (by decide)
  subst hu
  refine ⟨h2, ?_⟩
  cases hk : K.lookup a with
  | none => exact .inl (.inr ⟨_, by rw [argH_at ha hk e, hoOf_lst]⟩)
  | some o =>
    have e2 := KX a o hk
    rw [e] at e2
    obtain rfl := Option.some.inj e2
    exact .inr ⟨_, us.toArray, _, hk, rfl, rfl, rfl, by rw [List.size_toArray]; exact h1, by simpa using vals_toV h2⟩
theorem argT (KX : K.In h) (ar : ∀ a ∈ A, ArgOb h A a) {a : Addr} {vs : List Value} (ha : a ∈ A) (e : h.get? a = some { cls := .type "tuple", data := .seq vs.toArray }) : (∀ u ∈ vs, OkU A u) ∧ SqT K (argH K h A) a (vs.map toV) := by
  obtain ⟨us, h1, h2, h3⟩ := ar a ha
  have hu : us = vs := by
    rcases h3 with q | q
    · rw [e] at q
      exact absurd (Value.type.inj (seq_inj q).1) (by decide)
    · rw [e] at q
      exact (seq_inj q).2.symm
  subst hu
  refine ⟨h2, ?_⟩
  cases hk : K.lookup a with
  | none => exact .inl (.inr ⟨_, by rw [argH_at ha hk e, hoOf_tup]⟩)
  | some o =>
    have e2 := KX a o hk
    rw [e] at e2
    obtain rfl := Option.some.inj e2
    exact .inr ⟨_, us.toArray, _, hk, rfl, rfl, by rw [List.size_toArray]; exact h1, by simpa using vals_toV h2⟩
mutual
theorem dw_one {Pm : Params} (KX : K.In h) (ar : ∀ a ∈ A, ArgOb h A a) : ∀ (d : WData) (v : Value), Well Pm h v d → plW d = true → OkU A v → Dw K (argH K h A) (toV v) d
  | .none, _, x, _, _ => by
    cases x
    exact .non
  | .bool b, _, x, _, _ => by
    cases x
    exact .bl b
  | .int i, _, x, _, _ => by
    cases x
    exact .int i
  | .str s, _, x, _, _ => by
    cases x
    exact .str s
  | .bytes b, _, x, _, _ => by
    cases x
    have z := Dw.byt (K := K) (H := argH K h A) b.toArray
    exact z
  | .list ds, _, x, p, hu => by
    obtain ⟨a, vs, rfl, ho, hall⟩ := well_list x
    obtain ⟨h2, hs⟩ := argL KX ar hu ho
    exact .lst hs (dw_all KX ar ds _ hall p h2)
  | .tuple ds, _, x, p, hu => by
    obtain ⟨a, vs, rfl, ho, hall⟩ := well_tuple x
    obtain ⟨h2, hs⟩ := argT KX ar hu ho
    exact .tup hs (dw_all KX ar ds _ hall p h2)
  | .float _, _, _, p, _ => Bool.noConfusion (show false = true from p)
  | .dict _, _, _, p, _ => Bool.noConfusion (show false = true from p)
  | .bytearray _, _, _, p, _ => Bool.noConfusion (show false = true from p)
  | .set _, _, _, p, _ => Bool.noConfusion (show false = true from p)
  | .frozenset _, _, _, p, _ => Bool.noConfusion (show false = true from p)
  | .obj _ _, _, _, p, _ => Bool.noConfusion (show false = true from p)
theorem dw_all {Pm : Params} (KX : K.In h) (ar : ∀ a ∈ A, ArgOb h A a) : ∀ (ds : List WData) (vs : List Value), WellAll Pm h vs ds → plWs ds = true → (∀ u ∈ vs, OkU A u) → DwAll K (argH K h A) (vs.map toV) ds
  | [], _, x, _, _ => by
    cases x
    exact .nil
  | d :: ds, _, x, p, hu => by
    obtain ⟨v, vs, rfl, x1, x2⟩ := well_cons x
    have q : plW d = true ∧ plWs ds = true := Bool.and_eq_true_iff.mp p
    exact .cons (dw_one KX ar d v x1 q.1 (hu _ (List.mem_cons_self ..))) (dw_all KX ar ds vs x2 q.2 fun u m => hu u (List.mem_cons_of_mem _ m))
end
end
theorem spec_call {P : Program} {w : World} {K : PySem.W.Frag} {mg mb : Str → Option Value} {CX : CXT} {k : Nat} {fa : Addr} {fd : FuncData} {ps : List Str} {sp : Sp} {s₁ : Shared} {vals : List Value} {ds : List WData} {R : PySem.W.WRecords} {cl : Str → Option Addr} {d0 : WData}
    (KX : K.In s₁.heap) (hns : s₁.heap.Ns mainGlobals mg) (hb : s₁.heap.Ns builtinsNs mb) (hbb : ∀ x : Str, x ≠ "__name__" → mb x = bootBuiltins x) (hlim : s₁.heap.NoLimit) (hg : s₁.gens = #[])
    (hwl : WellAll w.params s₁.heap vals ds) (hpl : plWs ds = true) (hwt : ∀ d ∈ ds, d.weight ≤ 1048576) (hr : Room k callerA)
    (F : ∀ base : Heap, K.In base → base.Ns mainGlobals mg → FnOk P w K mg base CX k fa fd ps sp) (hbind : ∀ (s : Shared) (us : List Value), us.length = ps.length → BindsTo s fd ⟨us, []⟩ (ps.zip us)) (hlen : ds.length = ps.length)
    (hsp : ∀ (H : Hp) (xs : List V), OnlyF H → DwAll K H xs ds → sp xs H (fun v H' => Dw K H' v d0) fun _ _ _ => False)
    (hCX : ∀ H e s', CX [] H s₁ (fun _ _ _ => False) e s' → False) :
    codeAny (model P w) callerA (.call (.ref fa) ⟨vals, []⟩) (fun r s' => ∃ u as, r = .ok (.ret u) ∧ ReadsW R cl s'.heap u d0 as ∧ OldK s₁.heap s'.heap ∧ s'.os = s₁.os ∧ AllBare s'.gens) s₁ := by
  obtain ⟨A, ho, ar⟩ := area_all ds vals hwl hpl hwt
  have hO : OnlyF (argH K s₁.heap A) := argH_only ar
  have hok : HOk P w (argH K s₁.heap A) s₁.heap := argH_ok ar
  have hS := dw_all KX ar ds vals hwl hpl ho
  have hV := vals_toV ho
  have hK : ∀ b u, argH K s₁.heap A b = some u → K.lookup b = none := fun b u q => (argH_is ar q).1
  have noA : ∀ {b : Addr} {o : Obj} {es : Array DictEntry} {ep : Nat}, s₁.heap.get? b = some o → o.data = .dict es ep → argH K s₁.heap A b = none := fun {b o es ep} e d => by
    cases q : argH K s₁.heap A b with
    | none => rfl
    | some u =>
      obtain ⟨_, vs, _, _, ⟨e2, _⟩ | ⟨e2, _⟩⟩ := argH_is ar q
      · rw [e2] at e
        cases e
        have d' : Data.seq vs.toArray _ = Data.dict es ep := d
        cases d'
      · rw [e2] at e
        cases e
        have d' : Data.seq vs.toArray _ = Data.dict es ep := d
        cases d'
  generalize argH K s₁.heap A = H at hO hok hS hK noA
  have base_of : ∀ {b : Addr} {o : Obj}, s₁.heap.get? b = some o → H b = none → (hidT s₁.heap H).get? b = some o := fun e n => hidT_get e n
  have nsK : ∀ {b : Addr} {m : Str → Option Value}, s₁.heap.Ns b m → (hidT s₁.heap H).Ns b m := fun {b m} ⟨o, es, ep, e, d, r⟩ => ⟨o, es, ep, base_of e (noA e d), d, r⟩
  have nK : ∀ b o, K.lookup b = some o → H b = none := fun b o e => by
    cases q : H b with
    | none => rfl
    | some u =>
      rw [hK b u q] at e
      cases e
  have hKb : K.In (hidT s₁.heap H) := fun b o e => base_of (KX b o e) (nK b o e)
  have hM : Mod K mg (hidT s₁.heap H) := ⟨hKb, nsK hns, ⟨mb, nsK hb, hbb⟩, let ⟨mc, h1, h2⟩ := hlim; ⟨mc, nsK h1, h2⟩⟩
  have e0 : Env0 P w K mg (hidT s₁.heap H) callerA [] s₁ H := ⟨rfl, hM, fun b o e => of_hidT e, Nat.le_of_eq (hidT_size _ _), trivial, fun b hb => absurd (show b ∈ ([] : List Addr) from hb) (by simp), hok, .of_eq hg⟩
  have hl : vals.length = ps.length := by rw [wellAll_len hwl]; exact hlen
  refine codeAny_mono ((F _ hKb (nsK hns)).run callerA [] s₁ H ⟨vals, []⟩ vals (vals.map toV) _ _ hr e0 (hbind s₁ vals hl) hV (hsp H _ hO hS)) fun r s' x => ?_
  cases r with
  | error e => exact (hCX H e s' x).elim
  | ok fl =>
    cases fl with
    | next => exact False.elim x
    | brk => exact False.elim x
    | cont => exact False.elim x
    | ret u =>
      obtain ⟨v, H', os, bare, un, hok', r', q⟩ := x
      have kept : ∀ b o, s₁.heap.get? b = some o → s'.heap.get? b = some o := fun b o e => by
        cases q2 : H b with
        | none => exact un.keep b o e q2 (by intro z; exact absurd (show b ∈ ([] : List Addr) from z) (by simp)) (by simp)
        | some u2 =>
          rcases hO b with z | ⟨ob, u3, z⟩
          · rw [q2] at z
            cases z
          · have z2 := un.frzs b ob _ z
            obtain ⟨e1, _⟩ := hok b _ z
            obtain ⟨e2, _⟩ := hok' b _ z2
            rw [e] at e1
            cases e1
            exact e2
      have KX' : K.In s'.heap := fun b o e => kept b o (KX b o e)
      obtain ⟨as, hrd⟩ := Dw.reads (R := R) (cl := cl) hok' KX' d0 v u q r'
      exact ⟨u, as, rfl, hrd, OldK.of_keep kept, os, bare⟩
theorem layable_weight {ds : List WData} (h : WData.layableAll ds = true) : ∀ d ∈ ds, d.weight ≤ 1048576 := fun d hd =>
  (PySem.W.layableW_iff.mp (List.all_eq_true.mp h d hd)).2.2
theorem encAll_len : ∀ (cs : List Codec) (a : Codec.denoteAll cs), (Codec.encAll cs a).length = cs.length
  | [], _ => rfl
  | c :: cs, a => by
    show (Codec.encAll cs a.2).length + 1 = cs.length + 1
    rw [encAll_len cs a.2]
/-- the goal that k_headS leaves (case hc), from the promise of the row's def: whatever the arguments that the codecs let and the row asks for, the def gives what stands for enc (f ..) -/
theorem walk_spec {r : OpenSpec} {k : Nat} {q : Program} {loose : List Str} {XP : (Str → Option Value) → Heap → Prop} {YP : World → Heap → Prop} {d : DefRec} {K : Params → PySem.W.Frag} {CX : World → CXT} {ps : List Str} {sp : World → Sp}
    (hwell : r.wellSaid = true) (hdf : d.params.defaults = []) (hlen : r.args.length = ps.length) (hr : Room k callerA)
    (hY : ∀ (w : World) (h : Heap), YP w h → (K w.params).In h)
    (F : ∀ (w : World) (mg : Str → Option Value) (fa : Addr) (h : Heap), YP w h → (K w.params).In h → h.Ns mainGlobals mg → mg d.name = some (.ref fa) →
      ∃ fd : FuncData, (∀ (s : Shared) (us : List Value), us.length = ps.length → BindsTo s fd ⟨us, []⟩ (ps.zip us)) ∧
        ∀ base : Heap, (K w.params).In base → base.Ns mainGlobals mg → FnOk r.prog w (K w.params) mg base (CX w) k fa fd ps (sp w))
    (hsp : ∀ (w : World) (H : Hp) (xs : List V) (a : Codec.denoteAll r.args), OnlyF H → Codec.withinAll r.args a = true → Codec.app r.args r.asked a = true → DwAll (K w.params) H xs (Codec.encAll r.args a) →
      sp w xs H (fun v H' => Dw (K w.params) H' v (r.ret.enc (Codec.app r.args r.f a))) fun _ _ _ => False)
    (hCX : ∀ (w : World) (H : Hp) (s : Shared) (e : Value) (s' : Shared), CX w [] H s (fun _ _ _ => False) e s' → False) :
    PySem.W.WalkOS q loose XP YP r d [] (fun f vs => PySem.call f vs) := by
  intro w s_0 s₁ mg mb G Y fa o pm cd doc dV kV ho hd hcd hD hmg hg args vals as hpre hlay hrd hwl hlo
  obtain ⟨a, e1, e2⟩ := PySem.W.os_pre_some hpre
  obtain ⟨e3, hwi⟩ := Codec.encAll_of_decAll r.args args a e1
  subst e3
  have KX := hY w _ Y
  obtain ⟨fd, hb, hF⟩ := F w mg fa _ Y KX G.T.g hmg
  refine PySem.W.enter_call (codeAny_mono (spec_call (R := []) (cl := classAt s_0.heap) (d0 := r.ret.enc (Codec.app r.args r.f a)) KX G.T.g G.T.b G.T.builtins G.T.nolimit hg hwl (pl_encAll _ _) (layable_weight hlay) hr hF hb (by rw [encAll_len]; exact hlen)
    (fun H xs hO hS => hsp w H xs a hO hwi e2 hS) fun H e s' => hCX w H s₁ e s') fun r' s' hq => ?_)
  obtain ⟨u, as', rfl, h1, h2, h3, h4⟩ := hq
  exact ⟨.inl ⟨u, _, as', rfl, fun _ => rfl, h1, (OpenSpec.post_iff hwell hwi _ _).mpr rfl, fun z => Bool.noConfusion (show false = true from z)⟩, h2, h3, h4⟩
/-- the same where the promise hangs on the written part alone -/
theorem walk_specK {r : OpenSpec} {k : Nat} {q : Program} {loose : List Str} {XP : (Str → Option Value) → Heap → Prop} {YP : World → Heap → Prop} {d : DefRec} {K : Params → PySem.W.Frag} {CX : CXT} {ps : List Str} {sp : PySem.W.Frag → Sp}
    (hwell : r.wellSaid = true) (hdf : d.params.defaults = []) (hlen : r.args.length = ps.length) (hr : Room k callerA)
    (hY : ∀ (w : World) (h : Heap), YP w h → (K w.params).In h)
    (F : ∀ (w : World) (mg : Str → Option Value) (fa : Addr) (h : Heap), YP w h → (K w.params).In h → h.Ns mainGlobals mg → mg d.name = some (.ref fa) →
      ∃ fd : FuncData, (∀ (s : Shared) (us : List Value), us.length = ps.length → BindsTo s fd ⟨us, []⟩ (ps.zip us)) ∧
        ∀ base : Heap, (K w.params).In base → base.Ns mainGlobals mg → FnOk r.prog w (K w.params) mg base CX k fa fd ps (sp (K w.params)))
    (hsp : ∀ (K : PySem.W.Frag) (H : Hp) (xs : List V) (a : Codec.denoteAll r.args), OnlyF H → Codec.withinAll r.args a = true → Codec.app r.args r.asked a = true → DwAll K H xs (Codec.encAll r.args a) →
      sp K xs H (fun v H' => Dw K H' v (r.ret.enc (Codec.app r.args r.f a))) fun _ _ _ => False)
    (hCX : ∀ (H : Hp) (s : Shared) (e : Value) (s' : Shared), CX [] H s (fun _ _ _ => False) e s' → False) :
    PySem.W.WalkOS q loose XP YP r d [] (fun f vs => PySem.call f vs) :=
  walk_spec (K := K) (CX := fun _ => CX) (sp := fun w => sp (K w.params)) hwell hdf hlen hr hY F (fun w H xs a h1 h2 h3 h4 => hsp (K w.params) H xs a h1 h2 h3 h4) fun _ H s e s' => hCX H s e s'
end L2
end
end

section
set_option Elab.async false
set_option linter.all false
set_option maxRecDepth 100000
set_option maxHeartbeats 2000000
/-! Expressions by their values: Pe X st H e v says that e, where the names are st and the heap is H or more, comes to v and leaves all that was tracked as it was. -/
namespace We
open PySem PySem.Spec PyProof.Rows L2
abbrev St := L2.St
theorem same_refl (H : Hp) : Same H H := fun _ _ e => e
theorem same_new {H : Hp} {p : Addr} {o : HO} (h : H p = none) : Same H (upd H p o) := fun b u e => by rw [upd_ne (ne_of_none e h)]; exact e
theorem PE.imp {X : Cx} {e : Expr} {t t' : TE} (h : PE X e t) (i : ∀ st H Q, t' st H Q → t st H Q) : PE X e t' := fun pins s st H Q I q => h pins s st H Q I (i st H Q q)
theorem PT.imp {X : Cx} {e : Expr} {t t' : TT} (h : PT X e t) (i : ∀ st H Q, t' st H Q → t st H Q) : PT X e t' := fun pins s st H Q I q => h pins s st H Q I (i st H Q q)
theorem PW.imp {X : Cx} {e : Expr} {t t' : TT} (h : PW X e t) (i : ∀ st H Q, t' st H Q → t st H Q) : PW X e t' := fun wh pins s st H Q I q => h wh pins s st H Q I (i st H Q q)
theorem PA.imp {X : Cx} {es : List Expr} {t t' : TA} (h : PA X es t) (i : ∀ st H Q, t' st H Q → t st H Q) : PA X es t' := fun pos pins s st H Q I q => h pos pins s st H Q I (i st H Q q)
def tP (st0 : St) (H0 : Hp) (v : V) : TE := fun st H Q => st = st0 ∧ Same H0 H ∧ ∀ H', Same H H' → Q v H'
def tPT (st0 : St) (H0 : Hp) (c : Bool) : TT := fun st H Q => st = st0 ∧ Same H0 H ∧ ∀ H', Same H H' → Q c H'
def tPA (st0 : St) (H0 : Hp) (vs : List V) : TA := fun st H Q => st = st0 ∧ Same H0 H ∧ ∀ H', Same H H' → Q vs H'
def Pe (X : Cx) (st : St) (H : Hp) (e : Expr) (v : V) : Prop := PE X e (tP st H v)
def Pt (X : Cx) (st : St) (H : Hp) (e : Expr) (c : Bool) : Prop := PT X e (tPT st H c)
def Pw (X : Cx) (st : St) (H : Hp) (e : Expr) (c : Bool) : Prop := PW X e (tPT st H c)
def Pas (X : Cx) (st : St) (H : Hp) (es : List Expr) (vs : List V) : Prop := PA X es (tPA st H vs)
/-- the value is told when it is read -/
def tEv (X : Cx) (e : Expr) : TE := fun st H Q => ∃ v, Pe X st H e v ∧ ∀ H', Same H H' → Q v H'
def tEvT (X : Cx) (e : Expr) : TT := fun st H Q => ∃ c, Pt X st H e c ∧ ∀ H', Same H H' → Q c H'
def tEvA (X : Cx) (es : List Expr) : TA := fun st H Q => ∃ vs, Pas X st H es vs ∧ ∀ H', Same H H' → Q vs H'
theorem pe_ev {X : Cx} {e : Expr} : PE X e (tEv X e) := fun pins s st H Q I ⟨v, p, q⟩ => p pins s st H Q I ⟨rfl, same_refl H, q⟩
theorem pt_ev {X : Cx} {e : Expr} : PT X e (tEvT X e) := fun pins s st H Q I ⟨v, p, q⟩ => p pins s st H Q I ⟨rfl, same_refl H, q⟩
theorem pa_ev {X : Cx} {es : List Expr} : PA X es (tEvA X es) := fun pos pins s st H Q I ⟨v, p, q⟩ => p pos pins s st H Q I ⟨rfl, same_refl H, q⟩
/-- two-place operations by values -/
def BinOk (X : Cx) (op : Operator) (x y z : V) : Prop := ∃ r, OpR X (binaryOp op) r ∧ ∀ H Q, Q z H → r x y H Q
def UnOk (X : Cx) (op : UnaryOp) (x z : V) : Prop := ∃ r, UnR X (unaryOp op) r ∧ ∀ H Q, Q z H → r x H Q
def CmpOk (X : Cx) (H0 : Hp) (op : CmpOp) (x y : V) (c : Bool) : Prop := ∃ r, OpR X (compareOp op) r ∧ ∀ H Q, Same H0 H → Q (.bl c) H → r x y H Q
section
variable {X : Cx} {st : St} {H : Hp} {a b c : Expr} {x y z v : V} {i j : Int} {pos : Pos} {p q : Bool}
theorem Pe.mono {H1 : Hp} (h : Pe X st H a v) (s : Same H H1) : Pe X st H1 a v := PE.imp h fun st' H' Q ⟨e, s', q⟩ => ⟨e, s.trans s', q⟩
theorem Pe.eqv {v' : V} (h : Pe X st H a v) (e : v = v') : Pe X st H a v' := e ▸ h
/-! ### names and constants -/
theorem Pe.var (i : Nat) {n : Str} (hs : st[i]? = some (some v)) (hN : X.N[i]? = some n := by rfl) (hv : Vis X.env.scope n := by first | exact Or.inl rfl | exact Or.inr (Or.inl rfl) | exact Or.inr (Or.inr rfl)) (hd : (n == ("__debug__" : Str)) = false := by decide)
    (hcd : (n == ("__classdict__" : Str)) = false := by decide) : Pe X st H (.Name n pos) v :=
  PE.imp (pe_var (i := i) hN hv hd hcd) fun st' H' Q ⟨e, s, q⟩ => ⟨v, by rw [e]; exact hs, q H' (same_refl _)⟩
theorem Pe.int {k : Nat} : Pe X st H (.Constant (.int i) k pos) (.int i) := PE.imp pe_int fun st' H' Q ⟨e, s, q⟩ => q H' (same_refl _)
theorem Pe.bl {k : Nat} : Pe X st H (.Constant (.bool p) k pos) (.bl p) := PE.imp pe_bl fun st' H' Q ⟨e, s, q⟩ => q H' (same_refl _)
theorem Pe.non {k : Nat} : Pe X st H (.Constant .none k pos) .non := PE.imp pe_non fun st' H' Q ⟨e, s, q⟩ => q H' (same_refl _)
theorem Pe.glob {n : Str} (h : ∃ u, X.mg n = some u ∧ RelV v u) (hg : Gl X n := by rfl) (hd : (n == ("__debug__" : Str)) = false := by decide) : Pe X st H (.Name n pos) v :=
  PE.imp (pe_glob hg h.choose_spec.1 h.choose_spec.2 hd) fun st' H' Q ⟨e, s, q⟩ => q H' (same_refl _)
/-! ### operations -/
theorem Pe.bin {op : Operator} (ha : Pe X st H a x) (hb : Pe X st H b y) (ho : BinOk X op x y z) : Pe X st H (.BinOp a op b pos) z := by
  obtain ⟨r, h1, h2⟩ := ho
  refine PE.imp (pe_op h1 ha hb) fun st' H1 Q ⟨e, s, q⟩ => ?_
  exact ⟨e, s, fun H2 s2 => ⟨e, s.trans s2, fun H3 s3 => h2 H3 Q (q H3 (s2.trans s3))⟩⟩
theorem Pe.un {op : UnaryOp} (ha : Pe X st H a x) (ho : UnOk X op x z) : Pe X st H (.UnaryOp op a pos) z := by
  obtain ⟨r, h1, h2⟩ := ho
  exact PE.imp (pe_un h1 ha) fun st' H1 Q ⟨e, s, q⟩ => ⟨e, s, fun H2 s2 => h2 H2 Q (q H2 s2)⟩
theorem Pe.cmp {op : CmpOp} (ha : Pe X st H a x) (hb : Pe X st H b y) (ho : CmpOk X H op x y p) (hm : behindInMarks op b = false) : Pe X st H (.Compare a [op] [b] pos) (.bl p) := by
  obtain ⟨r, h1, h2⟩ := ho
  refine PE.imp (pe_cmpR h1 ha hb hm) fun st' H1 Q ⟨e, s, q⟩ => ?_
  exact ⟨e, s, fun H2 s2 => ⟨e, s.trans s2, fun H3 s3 => h2 H3 Q ((s.trans s2).trans s3) (q H3 (s2.trans s3))⟩⟩
theorem Pt.cmp {op : CmpOp} (ha : Pe X st H a x) (hb : Pe X st H b y) (ho : CmpOk X H op x y p) (hm : behindInMarks op b = false) : Pt X st H (.Compare a [op] [b] pos) p := by
  obtain ⟨r, h1, h2⟩ := ho
  refine PT.imp (pt_cmpR h1 ha hb hm) fun st' H1 Q ⟨e, s, q⟩ => ?_
  exact ⟨e, s, fun H2 s2 => ⟨e, s.trans s2, fun H3 s3 => h2 H3 _ ((s.trans s2).trans s3) ⟨p, rfl, q H3 (s2.trans s3)⟩⟩⟩
theorem Pe.chain {op op' : CmpOp} (ha : Pe X st H a x) (hb : Pe X st H b y) (hc : Pe X st H c z) (ho : CmpOk X H op x y p) (ho' : CmpOk X H op' y z q) (hm : lastMarks [op, op'] [b, c] = false := by with_unfolding_all rfl) :
    Pe X st H (.Compare a [op, op'] [b, c] pos) (.bl (p && q)) := by
  obtain ⟨r, h1, h2⟩ := ho
  obtain ⟨r', h1', h2'⟩ := ho'
  refine PE.imp (pe_chain h1 h1' ha hb hc hm) fun st' H1 Q ⟨e, s, k⟩ => ?_
  refine ⟨e, s, fun H2 s2 => ⟨e, s.trans s2, fun H3 s3 => h2 H3 _ ((s.trans s2).trans s3) ⟨p, rfl, ?_⟩⟩⟩
  cases p with
  | true => exact ⟨e, (s.trans s2).trans s3, fun H4 s4 => h2' H4 Q (((s.trans s2).trans s3).trans s4) (k H4 ((s2.trans s3).trans s4))⟩
  | false => exact k H3 (s2.trans s3)
theorem Pt.chain {op op' : CmpOp} (ha : Pe X st H a x) (hb : Pe X st H b y) (hc : Pe X st H c z) (ho : CmpOk X H op x y p) (ho' : CmpOk X H op' y z q) (hm : lastMarks [op, op'] [b, c] = false := by with_unfolding_all rfl) :
    Pt X st H (.Compare a [op, op'] [b, c] pos) (p && q) := by
  obtain ⟨r, h1, h2⟩ := ho
  obtain ⟨r', h1', h2'⟩ := ho'
  refine PT.imp (pt_chain h1 h1' ha hb hc hm) fun st' H1 Q ⟨e, s, k⟩ => ?_
  refine ⟨e, s, fun H2 s2 => ⟨e, s.trans s2, fun H3 s3 => h2 H3 _ ((s.trans s2).trans s3) ⟨p, rfl, ?_⟩⟩⟩
  cases p with
  | true => exact ⟨e, (s.trans s2).trans s3, fun H4 s4 => h2' H4 _ (((s.trans s2).trans s3).trans s4) ⟨q, rfl, k H4 ((s2.trans s3).trans s4)⟩⟩
  | false => exact ⟨false, rfl, k H3 (s2.trans s3)⟩
/-! ### truth -/
theorem Pe.not (ha : Pe X st H a (.bl p)) : Pe X st H (.UnaryOp .Not a pos) (.bl (!p)) := PE.imp (pe_not ha) fun st' H1 Q ⟨e, s, k⟩ => ⟨e, s, fun H2 s2 => ⟨p, rfl, k H2 s2⟩⟩
theorem Pe.one {op} (ha : Pe X st H a v) : Pe X st H (.BoolOp op [a] pos) v := pe_one ha
theorem Pe.or {rest : List Expr} (ha : Pe X st H a (.bl p)) (hb : p = false → Pe X st H (.BoolOp .Or (b :: rest) pos) (.bl q)) : Pe X st H (.BoolOp .Or (a :: b :: rest) pos) (.bl (p || q)) := by
  cases p with
  | true =>
    refine PE.imp (pe_or ha (tb := fun _ _ _ => False) fun _ _ _ _ _ _ z => z.elim) fun st' H1 Q ⟨e, s, k⟩ => ⟨e, s, fun H2 s2 => ⟨true, rfl, ?_⟩⟩
    exact k H2 s2
  | false =>
    refine PE.imp (pe_or ha (hb rfl)) fun st' H1 Q ⟨e, s, k⟩ => ⟨e, s, fun H2 s2 => ⟨false, rfl, ?_⟩⟩
    exact ⟨e, s.trans s2, fun H3 s3 => k H3 (s2.trans s3)⟩
theorem Pt.truth (ha : Pe X st H a (.bl p)) (he : ∀ whole, isTrue a X.env whole = (do let v ← whole; standAt a.pos; holding [v] (truthy v)) := by intro _; rfl) : Pt X st H a p :=
  PT.imp (pt_truth ha he) fun st' H1 Q ⟨e, s, k⟩ => ⟨e, s, fun H2 s2 => ⟨p, rfl, k H2 s2⟩⟩
theorem Pt.not (ha : Pt X st H a p) : Pt X st H (.UnaryOp .Not a pos) (!p) := PT.imp (pt_not ha) fun st' H1 Q ⟨e, s, k⟩ => ⟨e, s, fun H2 s2 => k H2 s2⟩
theorem Pw.or1 (ha : Pt X st H a p) : Pw X st H (.BoolOp .Or [a] pos) p := pw_or1 ha
theorem Pw.or {rest : List Expr} (ha : Pt X st H a p) (hb : p = false → Pw X st H (.BoolOp .Or (b :: rest) pos) q) : Pw X st H (.BoolOp .Or (a :: b :: rest) pos) (p || q) := by
  cases p with
  | true =>
    refine PW.imp (pw_or ha (tB' := fun _ _ _ => False) fun _ _ _ _ _ _ _ z => z.elim) fun st' H1 Q ⟨e, s, k⟩ => ⟨e, s, fun H2 s2 => ?_⟩
    exact k H2 s2
  | false =>
    refine PW.imp (pw_or ha (hb rfl)) fun st' H1 Q ⟨e, s, k⟩ => ⟨e, s, fun H2 s2 => ?_⟩
    exact ⟨e, s.trans s2, fun H3 s3 => k H3 (s2.trans s3)⟩
theorem Pw.pt (h : Pw X st H a p) : Pt X st H a p := L2.PW.pt h
theorem Pe.ifExp (hc : Pt X st H c p) (ha : p = true → Pe X st H a x) (hb : p = false → Pe X st H b y) : Pe X st H (.IfExp c a b pos) (if p = true then x else y) := by
  cases p with
  | true =>
    refine PE.imp (pe_ifExp hc (ha rfl) (tb := fun _ _ _ => False) fun _ _ _ _ _ _ z => z.elim) fun st' H1 Q ⟨e, s, k⟩ => ⟨e, s, fun H2 s2 => ?_⟩
    exact ⟨e, s.trans s2, fun H3 s3 => k H3 (s2.trans s3)⟩
  | false =>
    refine PE.imp (pe_ifExp hc (ta := fun _ _ _ => False) (fun _ _ _ _ _ _ z => z.elim) (hb rfl)) fun st' H1 Q ⟨e, s, k⟩ => ⟨e, s, fun H2 s2 => ?_⟩
    exact ⟨e, s.trans s2, fun H3 s3 => k H3 (s2.trans s3)⟩
theorem Pe.ifInt (hc : Pt X st H c p) (ha : p = true → Pe X st H a (.int i)) (hb : p = false → Pe X st H b (.int j)) : Pe X st H (.IfExp c a b pos) (.int (if p = true then i else j)) := by
  refine (Pe.ifExp hc ha hb).eqv ?_
  cases p <;> rfl
/-! ### arguments -/
theorem Pas.nil : Pas X st H [] [] := PA.imp pa_nil fun st' H1 Q ⟨e, s, k⟩ => k H1 (same_refl _)
theorem Pas.cons {es : List Expr} {vs : List V} (ha : Pe X st H a v) (hr : Pas X st H es vs) (hs : starEach (a :: es) X.env = (false, eval a X.env) :: starEach es X.env := by rfl) : Pas X st H (a :: es) (v :: vs) :=
  PA.imp (pa_cons ha hr hs) fun st' H1 Q ⟨e, s, k⟩ => ⟨e, s, fun H2 s2 => ⟨e, s.trans s2, fun H3 s3 => k H3 (s2.trans s3)⟩⟩
end
/-! ### the operations on whole numbers -/
section
variable {X : Cx} {H0 : Hp} {i j : Int}
theorem b_add : BinOk X .Add (.int i) (.int j) (.int (i + j)) := ⟨_, op_add, fun _ _ q => ⟨i, j, rfl, rfl, q⟩⟩
theorem b_sub : BinOk X .Sub (.int i) (.int j) (.int (i - j)) := ⟨_, op_sub, fun _ _ q => ⟨i, j, rfl, rfl, q⟩⟩
theorem b_mul (h : (-(2 ^ 64) < i ∧ i < 2 ^ 64) ∨ (-(2 ^ 64) < j ∧ j < 2 ^ 64)) : BinOk X .Mult (.int i) (.int j) (.int (i * j)) := ⟨_, op_mul, fun _ _ q => ⟨i, j, rfl, rfl, h, q⟩⟩
theorem b_mod (h : 0 < j) : BinOk X .Mod (.int i) (.int j) (.int (i % j)) := ⟨_, op_mod, fun _ _ q => ⟨i, j, rfl, rfl, h, q⟩⟩
theorem b_and : BinOk X .BitAnd (.int i) (.int j) (.int (Builtin.bitAnd i j)) := ⟨_, op_and, fun _ _ q => ⟨i, j, rfl, rfl, q⟩⟩
theorem b_or : BinOk X .BitOr (.int i) (.int j) (.int (Builtin.bitOr i j)) := ⟨_, op_or, fun _ _ q => ⟨i, j, rfl, rfl, q⟩⟩
theorem b_xor : BinOk X .BitXor (.int i) (.int j) (.int (Builtin.bitXor i j)) := ⟨_, op_xor, fun _ _ q => ⟨i, j, rfl, rfl, q⟩⟩
theorem b_and1 : BinOk X .BitAnd (.int i) (.int 1) (.int (i % 2)) := bitAnd_m1 i ▸ b_and
theorem b_and255 : BinOk X .BitAnd (.int i) (.int 255) (.int (i % 256)) := bitAnd_m8 i ▸ b_and
theorem b_shr (h : 0 ≤ j) : BinOk X .RShift (.int i) (.int j) (.int (i / 2 ^ j.toNat)) := ⟨_, op_shr, fun _ _ q => ⟨i, j, rfl, rfl, h, q⟩⟩
theorem b_fdiv (h : 0 < j ∧ j < 1073741824) : BinOk X .FloorDiv (.int i) (.int j) (.int (i / j)) := ⟨_, op_fdiv, fun _ _ q => ⟨i, j, rfl, rfl, h, q⟩⟩
theorem op_fdivW : OpR X (binaryOp .FloorDiv) (rI (fun _ j => 0 < j ∧ j < 2 ^ 200) fun i j => .int (i / j)) := opI fun i j _ _ _ _ _ hc q => by
  have h1 : (0 : Int) < j := hc.1
  have h2 : j < 2 ^ 200 := hc.2
  have h3 : j.natAbs < 2 ^ 200 := by omega
  have h4 : j.natAbs.log2 < 200 := (Nat.log2_lt (by omega)).mpr h3
  exact floordiv_int (by omega) (by rw [Int.fdiv_eq_ediv_of_nonneg i (by omega)]; exact q) (.inl (PyProof.noPylong_of_log2 (by omega)))
theorem b_fdivW (h : 0 < j ∧ j < 2 ^ 200) : BinOk X .FloorDiv (.int i) (.int j) (.int (i / j)) := ⟨_, op_fdivW, fun _ _ q => ⟨i, j, rfl, rfl, h, q⟩⟩
theorem bits_lt (h : i.natAbs < 2 ^ 100) : Builtin.Int.intBits i ≤ 100 := by
  unfold Builtin.Int.intBits
  by_cases h0 : i = 0
  · subst h0; decide
  · rw [if_neg (by simpa using h0)]
    have : i.natAbs.log2 < 100 := (Nat.log2_lt (by omega)).mpr h
    omega
theorem op_shlW : OpR X (binaryOp .LShift) (rI (fun i j => 0 ≤ j ∧ j ≤ 1000 ∧ i.natAbs < 2 ^ 100) fun i j => .int (i * 2 ^ j.toNat)) := opI fun i j _ _ _ _ _ hc q => by
  have h := bits_lt hc.2.2
  have h2 := hc.2.1
  exact lshift_int hc.1 (by omega) q
theorem b_shl (h0 : 0 ≤ j) (h1 : j ≤ 1000) (h2 : i.natAbs < 2 ^ 100) : BinOk X .LShift (.int i) (.int j) (.int (i * 2 ^ j.toNat)) := ⟨_, op_shlW, fun _ _ q => ⟨i, j, rfl, rfl, ⟨h0, h1, h2⟩, q⟩⟩
theorem b_pow2 (h0 : 0 ≤ j) (h1 : j ≤ 1000) : BinOk X .LShift (.int 1) (.int j) (.int (2 ^ j.toNat)) := by
  have h := b_shl (X := X) (i := 1) h0 h1 (by decide)
  rw [Int.one_mul] at h
  exact h
theorem u_neg : UnOk X .USub (.int i) (.int (-i)) := ⟨_, un_neg, fun _ _ q => ⟨i, rfl, q⟩⟩
theorem u_inv : UnOk X .Invert (.int i) (.int (Builtin.bitNot i)) := ⟨_, un_inv, fun _ _ q => ⟨i, rfl, q⟩⟩
theorem c_lt : CmpOk X H0 .Lt (.int i) (.int j) (decide (i < j)) := ⟨_, op_lt, fun _ _ _ q => ⟨i, j, rfl, rfl, q⟩⟩
theorem c_le : CmpOk X H0 .LtE (.int i) (.int j) (decide (i ≤ j)) := ⟨_, op_le, fun _ _ _ q => ⟨i, j, rfl, rfl, q⟩⟩
theorem c_gt : CmpOk X H0 .Gt (.int i) (.int j) (decide (j < i)) := ⟨_, op_gt, fun _ _ _ q => ⟨i, j, rfl, rfl, q⟩⟩
theorem c_ge : CmpOk X H0 .GtE (.int i) (.int j) (decide (j ≤ i)) := ⟨_, op_ge, fun _ _ _ q => ⟨i, j, rfl, rfl, q⟩⟩
theorem dec_int (i j : Int) : decide (V.int i = V.int j) = decide (i = j) := by
  by_cases h : i = j
  · subst h; simp
  · rw [decide_eq_false h, decide_eq_false fun e => h (V.int.inj e)]
theorem dec_bl (i j : Bool) : decide (V.bl i = V.bl j) = decide (i = j) := by
  by_cases h : i = j
  · subst h; simp
  · rw [decide_eq_false h, decide_eq_false fun e => h (V.bl.inj e)]
theorem c_eq : CmpOk X H0 .Eq (.int i) (.int j) (decide (i = j)) := ⟨_, op_eq, fun _ _ _ q => ⟨rfl, by rw [dec_int]; exact q⟩⟩
theorem c_ne : CmpOk X H0 .NotEq (.int i) (.int j) (!decide (i = j)) := ⟨_, op_ne, fun _ _ _ q => ⟨rfl, by rw [dec_int]; exact q⟩⟩
theorem c_eqB {i j : Bool} : CmpOk X H0 .Eq (.bl i) (.bl j) (decide (i = j)) := ⟨_, op_eq, fun _ _ _ q => ⟨rfl, by rw [dec_bl]; exact q⟩⟩
theorem c_neB {i j : Bool} : CmpOk X H0 .NotEq (.bl i) (.bl j) (!decide (i = j)) := ⟨_, op_ne, fun _ _ _ q => ⟨rfl, by rw [dec_bl]; exact q⟩⟩
end
/-! ### calls -/
/-- a def of the text: its promise, its place, how it binds -/
structure DefOk (P : Program) (w : World) (K : PySem.W.Frag) (mg : Str → Option Value) (base : Heap) (n : Str) (ps : List Str) (k : Nat) (sp : Sp) : Prop where
  ex : ∃ f fd, FnOk P w K mg base CX0 k f fd ps sp ∧ mg n = some (.ref f) ∧ PySem.W.keepIn K (.ref f) = true ∧ Binds K fd ps []
/-- a method of the class at C -/
structure MethOk (P : Program) (w : World) (K : PySem.W.Frag) (mg : Str → Option Value) (base : Heap) (C : Addr) (m : Str) (ps : List Str) (k : Nat) (sp : Sp) : Prop where
  ex : ∃ f fd, FnOk P w K mg base CX0 k f fd ps sp ∧ Meth K C m f ∧ Binds K fd ps []
/-- what a def that only reads promises: R at the heap, the arguments and the value -/
def spR (R : Hp → List V → V → Prop) : Sp := fun vs H Q _ => ∃ v, R H vs v ∧ ∀ H', Same H H' → Q v H'
/-- one that gives a new pair back -/
def spO (R : List V → V → V → Prop) : Sp := fun vs H Q _ => ∃ a b, R vs a b ∧ ∀ H' p, Same H H' → H' p = some (.tup [a, b]) → Q (.ref p) H'
section
variable {X : Cx} {st : St} {H : Hp} {n : Str} {ps : List Str} {k : Nat} {sp : Sp} {e : Expr} {es : List Expr} {vs : List V} {v : V} {p pos : Pos} {t : TA}
theorem pe_def (D : DefOk X.prog X.w X.K X.mg X.base n ps k sp) (hr : Room k X.A) (ha : PA X (e :: es) t) (hg : Gl X n := by rfl) (hdb : (n == ("__debug__" : Str)) = false := by decide)
    (he : starEach (e :: es) X.env = (false, eval e X.env) :: starEach es X.env := by rfl) (hpl : (backTo pos (starEach es X.env)).any (·.1) = false := by rfl) :
    PE X (.Call (.Name n p) (e :: es) [] pos) (tCall sp [] E0 t) := by
  obtain ⟨f, fd, F, hm, hk, hb⟩ := D.ex
  exact pe_call F hr hg hm hk hb .nil pass0 ha hdb he hpl
theorem Pe.call {R : Hp → List V → V → Prop} (D : DefOk X.prog X.w X.K X.mg X.base n ps k (spR R)) (hr : Room k X.A) (ha : Pas X st H (e :: es) vs) (hR : ∀ H', Same H H' → R H' vs v) (hg : Gl X n := by rfl) (hdb : (n == ("__debug__" : Str)) = false := by decide)
    (he : starEach (e :: es) X.env = (false, eval e X.env) :: starEach es X.env := by rfl) (hpl : (backTo pos (starEach es X.env)).any (·.1) = false := by rfl) :
    Pe X st H (.Call (.Name n p) (e :: es) [] pos) v := by
  refine PE.imp (pe_def D hr ha hg hdb he hpl) fun st' H1 Q ⟨e, s, q⟩ => ⟨e, s, fun H2 s2 => ?_⟩
  show spR R (vs ++ []) H2 Q E0
  rw [List.append_nil]
  exact ⟨v, hR H2 (s.trans s2), fun H3 s3 => q H3 (s2.trans s3)⟩
theorem pe_mth {C : Addr} {o : Expr} {m : Str} {apos : Pos} {to : TE} {pl : Sem Bool} (he : PE X o to) (c : Cls X.K C) (D : MethOk X.prog X.w X.K X.mg X.base C m ps k sp) (hr : Room k X.A) (ha : PA X (e :: es) t)
    (hst : starEach (e :: es) X.env = (false, eval e X.env) :: starEach es X.env := by rfl) (hpl : (backTo pos (starEach es X.env)).any (·.1) = false := by rfl)
    (ht : eval (.Call (.Attribute o m apos) (e :: es) [] pos) X.env = (do
      let ov ← eval o X.env
      standAt apos.atName
      let (f, first) ← holding [ov] (getMethod ov m pl)
      callWith pos f first (backTo pos (starEach (e :: es) X.env)) (backToKw pos (keywordEach [] X.env))) := by rfl) :
    PE X (.Call (.Attribute o m apos) (e :: es) [] pos) (tMeth C m sp [] E0 to t) := by
  obtain ⟨f, fd, F, hm, hb⟩ := D.ex
  exact pe_meth he c hm F hr hb .nil pass0 ha hst hpl ht
theorem Pe.meth {R : Hp → List V → V → Prop} {C : Addr} {o : Expr} {m : Str} {apos : Pos} {pl : Sem Bool} {a dx : Addr} {fs : List (Str × V)} (ho : Pe X st H o (.ref a)) (c : Cls X.K C) (D : MethOk X.prog X.w X.K X.mg X.base C m ps k (spR R)) (hr : Room k X.A)
    (ha : Pas X st H (e :: es) vs) (hp : H a = some (.ins C dx fs)) (hl : fs.lookup m = none) (hR : ∀ H', Same H H' → R H' (.ref a :: vs) v)
    (hst : starEach (e :: es) X.env = (false, eval e X.env) :: starEach es X.env := by rfl) (hpl : (backTo pos (starEach es X.env)).any (·.1) = false := by rfl)
    (ht : eval (.Call (.Attribute o m apos) (e :: es) [] pos) X.env = (do
      let ov ← eval o X.env
      standAt apos.atName
      let (f, first) ← holding [ov] (getMethod ov m pl)
      callWith pos f first (backTo pos (starEach (e :: es) X.env)) (backToKw pos (keywordEach [] X.env))) := by rfl) :
    Pe X st H (.Call (.Attribute o m apos) (e :: es) [] pos) v := by
  refine PE.imp (pe_mth ho c D hr ha hst hpl ht) fun st' H1 Q ⟨e, s, q⟩ => ⟨e, s, fun H2 s2 => ⟨a, dx, fs, rfl, (s.trans s2) _ _ hp, hl, e, s.trans s2, fun H3 s3 => ?_⟩⟩
  show spR R (.ref a :: (vs ++ [])) H3 Q E0
  rw [List.append_nil]
  exact ⟨v, hR H3 ((s.trans s2).trans s3), fun H4 s4 => q H4 ((s2.trans s3).trans s4)⟩
/-! ### fields, items -/
theorem Pe.fld {o : Expr} {f : Str} {a C dx : Addr} {fs : List (Str × V)} (ho : Pe X st H o (.ref a)) (hp : H a = some (.ins C dx fs)) (c : Cls X.K C) (nf : NoAttr X.K C f) (hl : fs.lookup f = some v)
    (hb : attributeBase o f X.env (eval o X.env) = eval o X.env := by rfl) : Pe X st H (.Attribute o f pos) v :=
  PE.imp (pe_fld ho hb) fun st' H1 Q ⟨e, s, q⟩ => ⟨e, s, fun H2 s2 => ⟨a, C, dx, fs, v, rfl, (s.trans s2) _ _ hp, c, nf, hl, q H2 s2⟩⟩
theorem Same.seqT {K : PySem.W.Frag} {H H' : Hp} {a : Addr} {xs : List V} (e : Same H H') (h : SqT K H a xs) : SqT K H' a xs := by
  rcases h with (h | ⟨o, h⟩) | h
  · exact .inl (.inl (e _ _ h))
  · exact .inl (.inr ⟨o, e _ _ h⟩)
  · exact .inr h
theorem Pe.item {o i : Expr} {a : Addr} {xs : List V} {z : Int} (ho : Pe X st H o (.ref a)) (hi : Pe X st H i (.int z)) (hq : SqL X.K H a xs) (hv : atI xs z = some v) (hs : PlainIx i := by intro _ _; rfl) : Pe X st H (.Subscript o i pos) v :=
  PE.imp (pe_ix ix_list ho hi hs) fun st' H1 Q ⟨e, s, q⟩ => ⟨e, s, fun H2 s2 => ⟨e, s.trans s2, fun H3 s3 => ⟨a, xs, z, v, rfl, rfl, ((s.trans s2).trans s3).seq hq, hv, q H3 (s2.trans s3)⟩⟩⟩
theorem Pe.itemT {o i : Expr} {a : Addr} {xs : List V} {z : Int} (ho : Pe X st H o (.ref a)) (hi : Pe X st H i (.int z)) (hq : SqT X.K H a xs) (hv : atI xs z = some v) (hs : PlainIx i := by intro _ _; rfl) : Pe X st H (.Subscript o i pos) v :=
  PE.imp (pe_ix ix_tup ho hi hs) fun st' H1 Q ⟨e, s, q⟩ => ⟨e, s, fun H2 s2 => ⟨e, s.trans s2, fun H3 s3 => ⟨a, xs, z, v, rfl, rfl, Same.seqT ((s.trans s2).trans s3) hq, hv, q H3 (s2.trans s3)⟩⟩⟩
theorem Pe.len {o : Expr} {a : Addr} {xs : List V} (hm : X.mg "len" = none) (ho : Pe X st H o (.ref a)) (hq : SqL X.K H a xs) (hg : Gl X "len" := by rfl)
    (he : starEach [o] X.env = (false, eval o X.env) :: starEach [] X.env := by rfl) (hpl : (backTo pos (starEach [] X.env)).any (·.1) = false := by rfl) : Pe X st H (.Call (.Name "len" p) [o] [] pos) (.int xs.length) :=
  PE.imp (pe_callB call_len_seq hg hm PySem.boot_len (Pas.cons ho Pas.nil he) (he := he) (hpl := hpl)) fun st' H1 Q ⟨e, s, q⟩ => ⟨e, s, fun H2 s2 => ⟨a, xs, rfl, .inl ((s.trans s2).seq hq), q H2 s2⟩⟩
theorem Pe.abs {o : Expr} {z : Int} (hm : X.mg "abs" = none) (ho : Pe X st H o (.int z)) (hg : Gl X "abs" := by rfl)
    (he : starEach [o] X.env = (false, eval o X.env) :: starEach [] X.env := by rfl) (hpl : (backTo pos (starEach [] X.env)).any (·.1) = false := by rfl) : Pe X st H (.Call (.Name "abs" p) [o] [] pos) (.int (if z < 0 then -z else z)) :=
  PE.imp (pe_callB call_abs hg hm PyProof.Rows.boot_abs (Pas.cons ho Pas.nil he) (he := he) (hpl := hpl)) fun st' H1 Q ⟨e, s, q⟩ => ⟨e, s, fun H2 s2 => ⟨z, rfl, q H2 s2⟩⟩
theorem mt_bitlen : MtR X "int.bit_length" (fun x xs H Q => ∃ i, x = .int i ∧ xs = [] ∧ Q (.int ((Builtin.Int.intBits i : Nat) : Int)) H) := by
  intro pins s st H x xs v us Q I rx rs h
  obtain ⟨i, rfl, rfl, q⟩ := h
  obtain ⟨t, rfl⟩ := rx
  cases rs
  exact call_int_bit_length ⟨.int ((Builtin.Int.intBits i : Nat) : Int), H, I.tok _, ⟨_, rfl⟩, q⟩
theorem Pe.bitlen {o : Expr} {z : Int} {apos cpos : Pos} (ho : Pe X st H o (.int z)) (hbase : attributeBase o "bit_length" X.env (eval o X.env) = eval o X.env := by rfl) (hline : (apos.endLine == cpos.line) = true := by rfl) :
    Pe X st H (.Call (.Attribute o "bit_length" apos) [] [] cpos) (.int ((Builtin.Int.intBits z : Nat) : Int)) :=
  PE.imp (pe_bm0 PySem.F.plainAttrs_int PySem.F.slot_int_bit_length PySem.F.type_int_bit_length mt_bitlen ho hbase hline) fun st' H1 Q ⟨e, s, q⟩ => ⟨e, s, fun H2 s2 => ⟨rfl, z, rfl, rfl, q H2 s2⟩⟩
/-! ### in -/
theorem c_notIn {a : Addr} {xs : List V} {z : Int} (hq : SqT X.K H a xs) (hf : xs.all flatV = true) : CmpOk X H .NotIn (.int z) (.ref a) (!inV (.int z) xs) :=
  ⟨_, op_notIn_seq, fun H' Q s q => ⟨a, xs, rfl, .inr (Same.seqT s hq), rfl, hf, q⟩⟩
theorem Pe.notInT {o : Expr} {z : Int} {ys : List V} {kk : Nat} {pos' : Pos} (ho : Pe X st H o (.int z)) (hes : Pas X st H es ys) (hf : ys.all flatV = true) (hl : ys.length ≤ sizeLine) (hm : behindInMarks .NotIn (.Tuple es kk pos') = false := by with_unfolding_all rfl) :
    Pe X st H (.Compare o [.NotIn] [.Tuple es kk pos'] pos) (.bl (!inV (.int z) ys)) :=
  PE.imp (pe_cmpR op_notIn_seq ho (pe_tup hes) hm) fun st' H1 Q ⟨e, s, q⟩ => ⟨e, s, fun H2 s2 => ⟨e, s.trans s2, fun H3 s3 => ⟨hl, fun p hp => ⟨p, ys, rfl, .inr (SqT.of upd_same), rfl, hf, q _ ((s2.trans s3).trans (same_new hp))⟩⟩⟩⟩
/-! ### a dict of the module, defs by whole numbers -/
inductive Ents : List DictEntry → List (Int × Addr) → Prop
  | nil : Ents [] []
  | cons {h k : Int} {t : Tok} {f : Addr} {es : List DictEntry} {kvs : List (Int × Addr)} : h = hashInt k → Ents es kvs → Ents (⟨h, .int k t, .ref f⟩ :: es) ((k, f) :: kvs)
structure KDict (K : PySem.W.Frag) (a : Addr) (kvs : List (Int × Addr)) : Prop where
  ex : ∃ es ep, K.lookup a = some ⟨.type "dict", none, .dict es ep, #[]⟩ ∧ Ents es.toList kvs ∧ (kvs.map (·.1)).Nodup
def kvOf (kvs : List (Int × Addr)) : List (Key × Value) := kvs.map fun p => (Sum.inl p.1, Value.ref p.2)
theorem Ents.pairs {P : Program} {w : World} : ∀ {es : List DictEntry} {kvs : List (Int × Addr)}, Ents es kvs → Pairs (mixKind P w) es (kvOf kvs)
  | _, _, .nil => .nil
  | _, _, .cons (k := k) (t := t) e r => .cons (keyIs_int k t) rfl (Ents.pairs r)
theorem Ents.keys {P : Program} {w : World} : ∀ {es : List DictEntry} {kvs : List (Int × Addr)}, Ents es kvs → ∀ e ∈ es, ∃ k, (mixKind P w).is k e.key = true ∧ e.hash = (mixKind P w).hash k
  | _, _, .nil => fun e he => by cases he
  | _, _, .cons (k := k) (t := t) q r => fun e he => by
    rcases List.mem_cons.mp he with rfl | he
    · exact ⟨Sum.inl k, keyIs_int k t, q⟩
    · exact Ents.keys r e he
theorem KDict.dictOf {K : PySem.W.Frag} {a : Addr} {kvs : List (Int × Addr)} {h : Heap} {P : Program} {w : World} (D : KDict K a kvs) (KX : K.In h) : h.DictOf (mixKind P w) a (kvOf kvs) := by
  obtain ⟨es, ep, lk, en, nd⟩ := D.ex
  refine ⟨_, es, ep, KX _ _ lk, ⟨rfl, rfl, rfl⟩, rfl, fun e he => en.keys e (by simpa using he), en.pairs, ?_⟩
  unfold kvOf
  rw [List.map_map]
  have e : ((fun x : Key × Value => x.1) ∘ fun p : Int × Addr => (Sum.inl p.1, Value.ref p.2)) = (fun z : Int => (Sum.inl z : Key)) ∘ (fun p : Int × Addr => p.1) := rfl
  rw [e, ← List.map_map]
  refine List.pairwise_map.mpr (nd.imp ?_)
  intro x y hxy h
  exact hxy (Sum.inl.inj h)
theorem kv_at {kvs : List (Int × Addr)} {k : Int} {f : Addr} (h : kvs.lookup k = some f) : valueAt (kvOf kvs) (Sum.inl k : Key) = some (.ref f) := by
  induction kvs with
  | nil => cases h
  | cons p r ih =>
    obtain ⟨z, g⟩ := p
    unfold valueAt kvOf
    rw [List.map_cons, List.find?_cons]
    rw [List.lookup_cons] at h
    by_cases e : k = z
    · subst e
      rw [beq_self_eq_true] at h
      have h' : g = f := Option.some.inj h
      subst h'
      simp
    · rw [beq_eq_false_iff_ne.mpr e] at h
      rw [show decide ((Sum.inl z : Key) = Sum.inl k) = false from decide_eq_false fun q => e (Sum.inl.inj q).symm]
      exact ih h
theorem Pe.dget {o i : Expr} {a f : Addr} {z : Int} {kvs : List (Int × Addr)} (ho : Pe X st H o (.ref a)) (hi : Pe X st H i (.int z)) (D : KDict X.K a kvs) (hl : kvs.lookup z = some f) (hs : NoSl i := by intro _ _; rfl) : Pe X st H (.Subscript o i pos) (.ref f) := by
  intro pins s st' H1 Q I ⟨e, s1, q⟩
  refine subD_of PySem.F.slot_dict_getitem.lookup hs (thn (ho pins s st' H1 (fun x H2 => x = .ref a ∧ Same H1 H2) I ⟨e, s1, fun H2 s2 => ⟨rfl, s2⟩⟩) fun u s2 ⟨x, H2, I2, rx, ex, sm2⟩ =>
    thn (hi pins s2 st' H2 (fun y H3 => y = .int z ∧ Same H2 H3) I2 ⟨e, s1.trans sm2, fun H3 s3 => ⟨rfl, s3⟩⟩) fun iv s3 ⟨y, H3, I3, ry, ey, sm3⟩ => ?_)
  subst ex ey
  obtain rfl : u = Value.ref a := rx
  obtain ⟨t, rfl⟩ := ry
  have dd : s3.heap.DictOf (mixKind X.prog X.w) a (kvOf kvs) := D.dictOf I3.kIn
  exact ⟨dd.typeIs, wpAny_getItem_of (knd := mixKind X.prog X.w) (k := Sum.inl z) (show (mixKind X.prog X.w).is (Sum.inl z) (Value.int z t) = true from keyIs_int z t) dd.mapOf (kv_at hl) ⟨.ref f, H3, I3.tok _, rfl, q H3 (sm2.trans sm3)⟩⟩
/-- fe(e, ..), where fe comes to a def -/
theorem pe_callV {fe : Expr} {tf : TE} {f : Addr} {fd : FuncData} (hf : PE X fe tf) (F : FnOk X.prog X.w X.K X.mg X.base CX0 k f fd ps sp) (hr : Room k X.A) (hk : PySem.W.keepIn X.K (.ref f) = true) (hb : Binds X.K fd ps []) (ha : PA X (e :: es) t)
    (he : starEach (e :: es) X.env = (false, eval e X.env) :: starEach es X.env := by rfl) (hpl : (backTo pos (starEach es X.env)).any (·.1) = false := by rfl)
    (hev : eval (.Call fe (e :: es) [] pos) X.env = (do callWith pos (← eval fe X.env) [] (backTo pos (starEach (e :: es) X.env)) (backToKw pos (keywordEach [] X.env))) := by rfl) :
    PE X (.Call fe (e :: es) [] pos) (fun st H Q => tf st H fun x H1 => x = .ref f ∧ t st H1 fun vs H2 => sp (vs ++ []) H2 Q E0) := by
  intro pins s st H Q I h
  refine Call_ (thn (hf pins s st H _ I h) fun u s1 ⟨x, H1, I1, rx, ex, q1⟩ => ?_) hev
  subst ex
  obtain rfl : u = Value.ref f := rx
  refine PySem.W.callWith_K (h₀ := X.base) I.ok.mod.kin hk (thn (ha pos pins s1 st H1 _ I1 q1) fun us s2 ⟨vs, H2, I2, r, q⟩ => ⟨I2.kIn, ?_⟩) he hpl
  exact run_fn F hr hb .nil pass0 I2 r q
end
theorem iteT {c : Bool} {A B : Prop} (h : c = true) (a : A) : if c = true then A else B := by rw [if_pos h]; exact a
theorem iteF {c : Bool} {A B : Prop} (h : c = false) (b : B) : if c = true then A else B := by rw [if_neg (by rw [h]; exact Bool.false_ne_true)]; exact b
section
variable {P : Program} {w : World} {K : PySem.W.Frag} {mg : Str → Option Value} {base : Heap}
/-- how a def's arguments bind -/
def BindsAll (n qual : Str) (st : Stmt) (ps : List Str) : Prop := ∀ (kV doc pm : Value) (an : Option Addr) (cdv ct : Value) (us : List Value), us.length = ps.length → bindArgs (PySem.W.fnOf n qual (defArgs st) (defBody st) (defScope st) .none kV doc pm an cdv ct) ⟨us, []⟩ = pure (ps.zip us)
/-- a def of the text as it stands behind the top -/
structure DefT (K : PySem.W.Frag) (mg : Str → Option Value) (n qual : Str) (st : Stmt) (ps : List Str) : Prop where
  ex : ∃ f fd, Fun K n qual st f fd ∧ Binds K fd ps [] ∧ mg n = some (.ref f)
structure MethT (K : PySem.W.Frag) (C : Addr) (n qual : Str) (st : Stmt) (ps : List Str) : Prop where
  ex : ∃ f fd, Fun K n qual st f fd ∧ Binds K fd ps [] ∧ Meth K C n f
structure InitT (K : PySem.W.Frag) (C : Addr) (qual : Str) (st : Stmt) (ps : List Str) : Prop where
  ex : ∃ f fd, Fun K "__init__" qual st f fd ∧ Binds K fd ps [] ∧ Mk K C f
/-- a dict of the module at which the whole number z holds the def n -/
def DictAt (K : PySem.W.Frag) (mg : Str → Option Value) (a : Addr) (kvs : List (Int × Addr)) (z : Int) (n : Str) : Prop := ∃ f, kvs.lookup z = some f ∧ mg n = some (.ref f)
theorem mk_def {h : Heap} {n qual : Str} {st : Stmt} {ps : List Str} {f : Addr} {oc : Value} {od an : Option Addr} {osl : Array (Option Value)} {kV doc pm cdv ct : Value} (X : K.In h) (G : h.Ns mainGlobals mg) (b : BindsAll n qual st ps)
    (hn : PySem.W.nsIn K mainGlobals n = some (some (.ref f))) (l : K.lookup f = some ⟨oc, od, .func (PySem.W.fnOf n qual (defArgs st) (defBody st) (defScope st) .none kV doc pm an cdv ct), osl⟩)
    (c : PySem.W.codeIn K cdv qual = true) (k : PySem.W.keepIn K (.ref f) = true) : DefT K mg n qual st ps :=
  have F := fun_mk (st := st) l c k
  ⟨f, _, F, F.binds b, PySem.W.mg_of X G hn⟩
theorem mk_meth {C : Addr} {n qual : Str} {st : Stmt} {ps : List Str} {f : Addr} {oc : Value} {od an : Option Addr} {osl : Array (Option Value)} {kV doc pm cdv ct : Value} (b : BindsAll n qual st ps)
    (a : PySem.W.findIn K (.ref C) n = some (some (.ref f))) (i : PySem.W.isFn K (.ref f) = true) (l : K.lookup f = some ⟨oc, od, .func (PySem.W.fnOf n qual (defArgs st) (defBody st) (defScope st) .none kV doc pm an cdv ct), osl⟩)
    (c : PySem.W.codeIn K cdv qual = true) (k : PySem.W.keepIn K (.ref f) = true) : MethT K C n qual st ps :=
  have F := fun_mk (st := st) l c k
  ⟨f, _, F, F.binds b, ⟨a, i, k⟩⟩
theorem mk_init {C : Addr} {qual : Str} {st : Stmt} {ps : List Str} {f : Addr} {oc : Value} {od an : Option Addr} {osl : Array (Option Value)} {kV doc pm cdv ct : Value} (b : BindsAll "__init__" qual st ps)
    (a : PySem.W.findIn K (.ref C) "__init__" = some (some (.ref f))) (i : PySem.W.isFn K (.ref f) = true) (l : K.lookup f = some ⟨oc, od, .func (PySem.W.fnOf "__init__" qual (defArgs st) (defBody st) (defScope st) .none kV doc pm an cdv ct), osl⟩)
    (c : PySem.W.codeIn K cdv qual = true) (k : PySem.W.keepIn K (.ref f) = true) (mk : PySem.W.makesIn K C = true) (kc : PySem.W.keepIn K (.ref C) = true) : InitT K C qual st ps :=
  have F := fun_mk (st := st) l c k
  ⟨f, _, F, F.binds b, ⟨mk, a, i, kc⟩⟩
theorem def_ok {n qual : Str} {st : Stmt} {N ps : List Str} {k : Nat} {sp : Sp} (D : DefT K mg n qual st ps) (S : FnScope N ps (defScope st)) (len : ∀ vs H Q E, sp vs H Q E → vs.length = ps.length)
    (hbody : ∀ (f : Addr) (cdv : Value) (A : Around) (outer : List Env) (s : Shared) (H : Hp) (vs : List V) (Q : VK) (E : XK), Room k (A.deeper (envOfC qual (defScope st) s.heap.objs.size f cdv)) → sp vs H Q E →
      ∃ t, PSs (cxOf CX0 P w K mg base N qual (defScope st) f cdv A outer s H E).nox (defBody st) t ∧ t { nx := fun _ H' => Q .non H', rt := Q } (start N vs) H) : DefOk P w K mg base n ps (k + 1) sp := by
  obtain ⟨f, fd, F, b, m⟩ := D.ex
  exact ⟨f, fd, F.ok S len (hbody f), m, F.kp, b⟩
theorem meth_ok {n qual : Str} {C : Addr} {st : Stmt} {N ps : List Str} {k : Nat} {sp : Sp} (D : MethT K C n qual st ps) (S : FnScope N ps (defScope st)) (len : ∀ vs H Q E, sp vs H Q E → vs.length = ps.length)
    (hbody : ∀ (f : Addr) (cdv : Value) (A : Around) (outer : List Env) (s : Shared) (H : Hp) (vs : List V) (Q : VK) (E : XK), Room k (A.deeper (envOfC qual (defScope st) s.heap.objs.size f cdv)) → sp vs H Q E →
      ∃ t, PSs (cxOf CX0 P w K mg base N qual (defScope st) f cdv A outer s H E).nox (defBody st) t ∧ t { nx := fun _ H' => Q .non H', rt := Q } (start N vs) H) : MethOk P w K mg base C n ps (k + 1) sp := by
  obtain ⟨f, fd, F, b, m⟩ := D.ex
  exact ⟨f, fd, F.ok S len (hbody f), m, b⟩
end
theorem hb_small (n w : Int) : (Wm.highest_bit n w).natAbs < 2 ^ 100 := by
  unfold Wm.highest_bit Wm.bit
  have h1 := Int.emod_nonneg (n / 2 ^ (w - 1).toNat) (show (2 : Int) ≠ 0 by decide)
  have h2 := Int.emod_lt_of_pos (n / 2 ^ (w - 1).toNat) (show (0 : Int) < 2 by decide)
  have : (2 : Nat) ≤ 2 ^ 100 := by decide
  omega
theorem pow_pos (k : Nat) : (0 : Int) < 2 ^ k := by rw [Wo.pow_cast]; have := Wo.pow_pos' k; omega
theorem pow_le {w : Int} (h : w ≤ 64) : (2 : Int) ^ w.toNat ≤ 2 ^ 64 := by
  rw [Wo.pow_cast, Wo.pow_cast]
  have := Nat.pow_le_pow_right (show 0 < 2 by decide) (show w.toNat ≤ 64 by omega)
  omega
end We
end

section
set_option Elab.async false
set_option linter.all false
set_option maxRecDepth 100000
set_option maxHeartbeats 4000000
namespace We
open PySem PySem.Spec PyProof.Rows L2
def tp (i : Nat) : Stmt := PySem.Challenge.pw_wholeops_s01_answers.main.body.getD i (.Pass ⟨0, 0, 0, 0⟩)
abbrev s_cut : Stmt := tp 8
theorem sc_cut : FnScope ["number", "width"] ["number", "width"] (defScope s_cut) := ⟨rfl, rfl, rfl, by decide +kernel, rfl, by decide +kernel, by decide +kernel⟩
abbrev s_bit : Stmt := tp 9
theorem sc_bit : FnScope ["number", "place"] ["number", "place"] (defScope s_bit) := ⟨rfl, rfl, rfl, by decide +kernel, rfl, by decide +kernel, by decide +kernel⟩
abbrev s_highest_bit : Stmt := tp 10
theorem sc_highest_bit : FnScope ["number", "width"] ["number", "width"] (defScope s_highest_bit) := ⟨rfl, rfl, rfl, by decide +kernel, rfl, by decide +kernel, by decide +kernel⟩
abbrev s_signed : Stmt := tp 11
theorem sc_signed : FnScope ["number", "width"] ["number", "width"] (defScope s_signed) := ⟨rfl, rfl, rfl, by decide +kernel, rfl, by decide +kernel, by decide +kernel⟩
abbrev s_ones : Stmt := tp 12
theorem sc_ones : FnScope ["number", "place"] ["number"] (defScope s_ones) := ⟨rfl, rfl, rfl, by decide +kernel, rfl, by decide +kernel, by decide +kernel⟩
abbrev s_when : Stmt := tp 13
theorem sc_when : FnScope ["flags", "so"] ["flags", "so"] (defScope s_when) := ⟨rfl, rfl, rfl, by decide +kernel, rfl, by decide +kernel, by decide +kernel⟩
abbrev s_replaced : Stmt := tp 14
theorem sc_replaced : FnScope ["flags", "which", "now"] ["flags", "which", "now"] (defScope s_replaced) := ⟨rfl, rfl, rfl, by decide +kernel, rfl, by decide +kernel, by decide +kernel⟩
abbrev s_flags_of : Stmt := tp 15
theorem sc_flags_of : FnScope ["result", "width"] ["result", "width"] (defScope s_flags_of) := ⟨rfl, rfl, rfl, by decide +kernel, rfl, by decide +kernel, by decide +kernel⟩
abbrev s_is_condition : Stmt := tp 19
theorem sc_is_condition : FnScope ["number"] ["number"] (defScope s_is_condition) := ⟨rfl, rfl, rfl, by decide +kernel, rfl, by decide +kernel, by decide +kernel⟩
abbrev s_even_condition_holds : Stmt := tp 20
theorem sc_even_condition_holds : FnScope ["flags", "condition", "differs"] ["flags", "condition"] (defScope s_even_condition_holds) := ⟨rfl, rfl, rfl, by decide +kernel, rfl, by decide +kernel, by decide +kernel⟩
abbrev s_condition_holds : Stmt := tp 21
theorem sc_condition_holds : FnScope ["flags", "condition", "opposite"] ["flags", "condition"] (defScope s_condition_holds) := ⟨rfl, rfl, rfl, by decide +kernel, rfl, by decide +kernel, by decide +kernel⟩
abbrev s_fits_with_sign : Stmt := tp 23
theorem sc_fits_with_sign : FnScope ["number", "width"] ["number", "width"] (defScope s_fits_with_sign) := ⟨rfl, rfl, rfl, by decide +kernel, rfl, by decide +kernel, by decide +kernel⟩
abbrev s_sum_flags : Stmt := tp 24
theorem sc_sum_flags : FnScope ["x", "y", "carry", "width", "total", "signed_total"] ["x", "y", "carry", "width"] (defScope s_sum_flags) := ⟨rfl, rfl, rfl, by decide +kernel, rfl, by decide +kernel, by decide +kernel⟩
abbrev s_difference_flags : Stmt := tp 25
theorem sc_difference_flags : FnScope ["x", "y", "borrow", "width", "rest", "signed_rest"] ["x", "y", "borrow", "width"] (defScope s_difference_flags) := ⟨rfl, rfl, rfl, by decide +kernel, rfl, by decide +kernel, by decide +kernel⟩
abbrev s_move : Stmt := tp 26
theorem sc_move : FnScope ["x", "y", "flags", "width"] ["x", "y", "flags", "width"] (defScope s_move) := ⟨rfl, rfl, rfl, by decide +kernel, rfl, by decide +kernel, by decide +kernel⟩
abbrev s_add : Stmt := tp 27
theorem sc_add : FnScope ["x", "y", "flags", "width"] ["x", "y", "flags", "width"] (defScope s_add) := ⟨rfl, rfl, rfl, by decide +kernel, rfl, by decide +kernel, by decide +kernel⟩
abbrev s_add_with_carry : Stmt := tp 28
theorem sc_add_with_carry : FnScope ["x", "y", "flags", "width", "carry"] ["x", "y", "flags", "width"] (defScope s_add_with_carry) := ⟨rfl, rfl, rfl, by decide +kernel, rfl, by decide +kernel, by decide +kernel⟩
abbrev s_subtract : Stmt := tp 29
theorem sc_subtract : FnScope ["x", "y", "flags", "width"] ["x", "y", "flags", "width"] (defScope s_subtract) := ⟨rfl, rfl, rfl, by decide +kernel, rfl, by decide +kernel, by decide +kernel⟩
abbrev s_subtract_with_borrow : Stmt := tp 30
theorem sc_subtract_with_borrow : FnScope ["x", "y", "flags", "width", "borrow"] ["x", "y", "flags", "width"] (defScope s_subtract_with_borrow) := ⟨rfl, rfl, rfl, by decide +kernel, rfl, by decide +kernel, by decide +kernel⟩
abbrev s_compare : Stmt := tp 31
theorem sc_compare : FnScope ["x", "y", "flags", "width"] ["x", "y", "flags", "width"] (defScope s_compare) := ⟨rfl, rfl, rfl, by decide +kernel, rfl, by decide +kernel, by decide +kernel⟩
abbrev s_bits_of_both : Stmt := tp 32
theorem sc_bits_of_both : FnScope ["x", "y", "flags", "width"] ["x", "y", "flags", "width"] (defScope s_bits_of_both) := ⟨rfl, rfl, rfl, by decide +kernel, rfl, by decide +kernel, by decide +kernel⟩
abbrev s_bits_of_either : Stmt := tp 33
theorem sc_bits_of_either : FnScope ["x", "y", "flags", "width"] ["x", "y", "flags", "width"] (defScope s_bits_of_either) := ⟨rfl, rfl, rfl, by decide +kernel, rfl, by decide +kernel, by decide +kernel⟩
abbrev s_bits_of_one_alone : Stmt := tp 34
theorem sc_bits_of_one_alone : FnScope ["x", "y", "flags", "width"] ["x", "y", "flags", "width"] (defScope s_bits_of_one_alone) := ⟨rfl, rfl, rfl, by decide +kernel, rfl, by decide +kernel, by decide +kernel⟩
abbrev s_bits_of_both_asked : Stmt := tp 35
theorem sc_bits_of_both_asked : FnScope ["x", "y", "flags", "width"] ["x", "y", "flags", "width"] (defScope s_bits_of_both_asked) := ⟨rfl, rfl, rfl, by decide +kernel, rfl, by decide +kernel, by decide +kernel⟩
abbrev s_one_more : Stmt := tp 36
theorem sc_one_more : FnScope ["x", "y", "flags", "width"] ["x", "y", "flags", "width"] (defScope s_one_more) := ⟨rfl, rfl, rfl, by decide +kernel, rfl, by decide +kernel, by decide +kernel⟩
abbrev s_one_less : Stmt := tp 37
theorem sc_one_less : FnScope ["x", "y", "flags", "width"] ["x", "y", "flags", "width"] (defScope s_one_less) := ⟨rfl, rfl, rfl, by decide +kernel, rfl, by decide +kernel, by decide +kernel⟩
abbrev s_negate : Stmt := tp 38
theorem sc_negate : FnScope ["x", "y", "flags", "width"] ["x", "y", "flags", "width"] (defScope s_negate) := ⟨rfl, rfl, rfl, by decide +kernel, rfl, by decide +kernel, by decide +kernel⟩
abbrev s_opposite_bits : Stmt := tp 39
theorem sc_opposite_bits : FnScope ["x", "y", "flags", "width"] ["x", "y", "flags", "width"] (defScope s_opposite_bits) := ⟨rfl, rfl, rfl, by decide +kernel, rfl, by decide +kernel, by decide +kernel⟩
abbrev s_computed : Stmt := tp 41
theorem sc_computed : FnScope ["op", "x", "y", "flags", "width"] ["op", "x", "y", "flags", "width"] (defScope s_computed) := ⟨rfl, rfl, rfl, by decide +kernel, rfl, by decide +kernel, by decide +kernel⟩
abbrev s_move_if : Stmt := tp 43
theorem sc_move_if : FnScope ["y", "n", "flags", "width"] ["y", "n", "flags", "width"] (defScope s_move_if) := ⟨rfl, rfl, rfl, by decide +kernel, rfl, by decide +kernel, by decide +kernel⟩
abbrev s_truth : Stmt := tp 44
theorem sc_truth : FnScope ["y", "n", "flags", "width"] ["y", "n", "flags", "width"] (defScope s_truth) := ⟨rfl, rfl, rfl, by decide +kernel, rfl, by decide +kernel, by decide +kernel⟩
abbrev s_low_bytes_with_sign : Stmt := tp 45
theorem sc_low_bytes_with_sign : FnScope ["y", "n"] ["y", "n"] (defScope s_low_bytes_with_sign) := ⟨rfl, rfl, rfl, by decide +kernel, rfl, by decide +kernel, by decide +kernel⟩
abbrev s_widened : Stmt := tp 46
theorem sc_widened : FnScope ["y", "n", "flags", "width"] ["y", "n", "flags", "width"] (defScope s_widened) := ⟨rfl, rfl, rfl, by decide +kernel, rfl, by decide +kernel, by decide +kernel⟩
abbrev s_widened_with_sign : Stmt := tp 47
theorem sc_widened_with_sign : FnScope ["y", "n", "flags", "width"] ["y", "n", "flags", "width"] (defScope s_widened_with_sign) := ⟨rfl, rfl, rfl, by decide +kernel, rfl, by decide +kernel, by decide +kernel⟩
abbrev s_widened_with_flags : Stmt := tp 48
theorem sc_widened_with_flags : FnScope ["y", "n", "flags", "width", "result"] ["y", "n", "flags", "width"] (defScope s_widened_with_flags) := ⟨rfl, rfl, rfl, by decide +kernel, rfl, by decide +kernel, by decide +kernel⟩
abbrev s_moved : Stmt := tp 50
theorem sc_moved : FnScope ["op", "y", "n", "flags", "width"] ["op", "y", "n", "flags", "width"] (defScope s_moved) := ⟨rfl, rfl, rfl, by decide +kernel, rfl, by decide +kernel, by decide +kernel⟩
abbrev s_is_pair_operation : Stmt := tp 59
theorem sc_is_pair_operation : FnScope ["op"] ["op"] (defScope s_is_pair_operation) := ⟨rfl, rfl, rfl, by decide +kernel, rfl, by decide +kernel, by decide +kernel⟩
abbrev s_understood : Stmt := tp 60
theorem sc_understood : FnScope ["number", "width", "with_sign"] ["number", "width", "with_sign"] (defScope s_understood) := ⟨rfl, rfl, rfl, by decide +kernel, rfl, by decide +kernel, by decide +kernel⟩
abbrev s_multiply : Stmt := tp 61
theorem sc_multiply : FnScope ["processor", "with_sign", "width", "d", "s", "x", "y", "product", "half", "too_long"] ["processor", "with_sign", "width", "d", "s"] (defScope s_multiply) := ⟨rfl, rfl, rfl, by decide +kernel, rfl, by decide +kernel, by decide +kernel⟩
abbrev s_quotient_toward_0 : Stmt := tp 62
theorem sc_quotient_toward_0 : FnScope ["number", "divisor", "quotient"] ["number", "divisor"] (defScope s_quotient_toward_0) := ⟨rfl, rfl, rfl, by decide +kernel, rfl, by decide +kernel, by decide +kernel⟩
abbrev s_divide : Stmt := tp 63
theorem sc_divide : FnScope ["processor", "with_sign", "width", "d", "s", "n", "halves", "number", "divisor", "quotient"] ["processor", "with_sign", "width", "d", "s", "n"] (defScope s_divide) := ⟨rfl, rfl, rfl, by decide +kernel, rfl, by decide +kernel, by decide +kernel⟩
abbrev s_exchange : Stmt := tp 64
theorem sc_exchange : FnScope ["processor", "width", "d", "s", "x"] ["processor", "width", "d", "s"] (defScope s_exchange) := ⟨rfl, rfl, rfl, by decide +kernel, rfl, by decide +kernel, by decide +kernel⟩
abbrev s_exchange_and_add : Stmt := tp 65
theorem sc_exchange_and_add : FnScope ["processor", "width", "d", "s", "x", "y"] ["processor", "width", "d", "s"] (defScope s_exchange_and_add) := ⟨rfl, rfl, rfl, by decide +kernel, rfl, by decide +kernel, by decide +kernel⟩
abbrev s_compare_and_exchange : Stmt := tp 66
theorem sc_compare_and_exchange : FnScope ["processor", "width", "d", "s", "x", "z"] ["processor", "width", "d", "s"] (defScope s_compare_and_exchange) := ⟨rfl, rfl, rfl, by decide +kernel, rfl, by decide +kernel, by decide +kernel⟩
abbrev s_perform_pair : Stmt := tp 67
theorem sc_perform_pair : FnScope ["processor", "op", "width", "d", "s", "n"] ["processor", "op", "width", "d", "s", "n"] (defScope s_perform_pair) := ⟨rfl, rfl, rfl, by decide +kernel, rfl, by decide +kernel, by decide +kernel⟩
abbrev s_lowest_one : Stmt := tp 69
theorem sc_lowest_one : FnScope ["x", "y", "n", "flags", "width"] ["x", "y", "n", "flags", "width"] (defScope s_lowest_one) := ⟨rfl, rfl, rfl, by decide +kernel, rfl, by decide +kernel, by decide +kernel⟩
abbrev s_highest_one : Stmt := tp 70
theorem sc_highest_one : FnScope ["x", "y", "n", "flags", "width"] ["x", "y", "n", "flags", "width"] (defScope s_highest_one) := ⟨rfl, rfl, rfl, by decide +kernel, rfl, by decide +kernel, by decide +kernel⟩
abbrev s_number_of_ones : Stmt := tp 71
theorem sc_number_of_ones : FnScope ["x", "y", "n", "flags", "width"] ["x", "y", "n", "flags", "width"] (defScope s_number_of_ones) := ⟨rfl, rfl, rfl, by decide +kernel, rfl, by decide +kernel, by decide +kernel⟩
abbrev s_bytes_turned_round : Stmt := tp 72
theorem sc_bytes_turned_round : FnScope ["x", "y", "n", "flags", "width", "result", "place"] ["x", "y", "n", "flags", "width"] (defScope s_bytes_turned_round) := ⟨rfl, rfl, rfl, by decide +kernel, rfl, by decide +kernel, by decide +kernel⟩
abbrev s_bit_told : Stmt := tp 73
theorem sc_bit_told : FnScope ["x", "n", "flags", "width"] ["x", "n", "flags", "width"] (defScope s_bit_told) := ⟨rfl, rfl, rfl, by decide +kernel, rfl, by decide +kernel, by decide +kernel⟩
abbrev s_bit_asked : Stmt := tp 74
theorem sc_bit_asked : FnScope ["x", "y", "n", "flags", "width"] ["x", "y", "n", "flags", "width"] (defScope s_bit_asked) := ⟨rfl, rfl, rfl, by decide +kernel, rfl, by decide +kernel, by decide +kernel⟩
abbrev s_bit_set : Stmt := tp 75
theorem sc_bit_set : FnScope ["x", "y", "n", "flags", "width"] ["x", "y", "n", "flags", "width"] (defScope s_bit_set) := ⟨rfl, rfl, rfl, by decide +kernel, rfl, by decide +kernel, by decide +kernel⟩
abbrev s_bit_cleared : Stmt := tp 76
theorem sc_bit_cleared : FnScope ["x", "y", "n", "flags", "width"] ["x", "y", "n", "flags", "width"] (defScope s_bit_cleared) := ⟨rfl, rfl, rfl, by decide +kernel, rfl, by decide +kernel, by decide +kernel⟩
abbrev s_bit_changed : Stmt := tp 77
theorem sc_bit_changed : FnScope ["x", "y", "n", "flags", "width"] ["x", "y", "n", "flags", "width"] (defScope s_bit_changed) := ⟨rfl, rfl, rfl, by decide +kernel, rfl, by decide +kernel, by decide +kernel⟩
abbrev s_placed : Stmt := tp 79
theorem sc_placed : FnScope ["op", "x", "y", "n", "flags", "width"] ["op", "x", "y", "n", "flags", "width"] (defScope s_placed) := ⟨rfl, rfl, rfl, by decide +kernel, rfl, by decide +kernel, by decide +kernel⟩
abbrev s_shift_count : Stmt := tp 81
theorem sc_shift_count : FnScope ["n", "width"] ["n", "width"] (defScope s_shift_count) := ⟨rfl, rfl, rfl, by decide +kernel, rfl, by decide +kernel, by decide +kernel⟩
abbrev s_shift_flags : Stmt := tp 82
theorem sc_shift_flags : FnScope ["result", "carry", "overflow", "width"] ["result", "carry", "overflow", "width"] (defScope s_shift_flags) := ⟨rfl, rfl, rfl, by decide +kernel, rfl, by decide +kernel, by decide +kernel⟩
abbrev s_turn_flags : Stmt := tp 83
theorem sc_turn_flags : FnScope ["flags", "carry", "overflow"] ["flags", "carry", "overflow"] (defScope s_turn_flags) := ⟨rfl, rfl, rfl, by decide +kernel, rfl, by decide +kernel, by decide +kernel⟩
abbrev s_two_highest_differ : Stmt := tp 84
theorem sc_two_highest_differ : FnScope ["number", "width"] ["number", "width"] (defScope s_two_highest_differ) := ⟨rfl, rfl, rfl, by decide +kernel, rfl, by decide +kernel, by decide +kernel⟩
abbrev s_turned_left : Stmt := tp 85
theorem sc_turned_left : FnScope ["number", "k", "width"] ["number", "k", "width"] (defScope s_turned_left) := ⟨rfl, rfl, rfl, by decide +kernel, rfl, by decide +kernel, by decide +kernel⟩
abbrev s_left : Stmt := tp 86
theorem sc_left : FnScope ["x", "y", "k", "flags", "width", "result", "carry"] ["x", "y", "k", "flags", "width"] (defScope s_left) := ⟨rfl, rfl, rfl, by decide +kernel, rfl, by decide +kernel, by decide +kernel⟩
abbrev s_right : Stmt := tp 87
theorem sc_right : FnScope ["x", "y", "k", "flags", "width", "result"] ["x", "y", "k", "flags", "width"] (defScope s_right) := ⟨rfl, rfl, rfl, by decide +kernel, rfl, by decide +kernel, by decide +kernel⟩
abbrev s_right_with_sign : Stmt := tp 88
theorem sc_right_with_sign : FnScope ["x", "y", "k", "flags", "width", "number", "result"] ["x", "y", "k", "flags", "width"] (defScope s_right_with_sign) := ⟨rfl, rfl, rfl, by decide +kernel, rfl, by decide +kernel, by decide +kernel⟩
abbrev s_turn_left : Stmt := tp 89
theorem sc_turn_left : FnScope ["x", "y", "k", "flags", "width", "result", "carry"] ["x", "y", "k", "flags", "width"] (defScope s_turn_left) := ⟨rfl, rfl, rfl, by decide +kernel, rfl, by decide +kernel, by decide +kernel⟩
abbrev s_turn_right : Stmt := tp 90
theorem sc_turn_right : FnScope ["x", "y", "k", "flags", "width", "result"] ["x", "y", "k", "flags", "width"] (defScope s_turn_right) := ⟨rfl, rfl, rfl, by decide +kernel, rfl, by decide +kernel, by decide +kernel⟩
abbrev s_turn_left_through_carry : Stmt := tp 91
theorem sc_turn_left_through_carry : FnScope ["x", "y", "k", "flags", "width", "j", "turned", "carry"] ["x", "y", "k", "flags", "width"] (defScope s_turn_left_through_carry) := ⟨rfl, rfl, rfl, by decide +kernel, rfl, by decide +kernel, by decide +kernel⟩
abbrev s_turn_right_through_carry : Stmt := tp 92
theorem sc_turn_right_through_carry : FnScope ["x", "y", "k", "flags", "width", "j", "turned"] ["x", "y", "k", "flags", "width"] (defScope s_turn_right_through_carry) := ⟨rfl, rfl, rfl, by decide +kernel, rfl, by decide +kernel, by decide +kernel⟩
abbrev s_fill_flags : Stmt := tp 93
theorem sc_fill_flags : FnScope ["x", "result", "carry", "width", "changed"] ["x", "result", "carry", "width"] (defScope s_fill_flags) := ⟨rfl, rfl, rfl, by decide +kernel, rfl, by decide +kernel, by decide +kernel⟩
abbrev s_left_filled : Stmt := tp 94
theorem sc_left_filled : FnScope ["x", "y", "k", "flags", "width", "result"] ["x", "y", "k", "flags", "width"] (defScope s_left_filled) := ⟨rfl, rfl, rfl, by decide +kernel, rfl, by decide +kernel, by decide +kernel⟩
abbrev s_right_filled : Stmt := tp 95
theorem sc_right_filled : FnScope ["x", "y", "k", "flags", "width", "result"] ["x", "y", "k", "flags", "width"] (defScope s_right_filled) := ⟨rfl, rfl, rfl, by decide +kernel, rfl, by decide +kernel, by decide +kernel⟩
abbrev s_shifted : Stmt := tp 97
theorem sc_shifted : FnScope ["op", "x", "y", "n", "flags", "width", "k"] ["op", "x", "y", "n", "flags", "width"] (defScope s_shifted) := ⟨rfl, rfl, rfl, by decide +kernel, rfl, by decide +kernel, by decide +kernel⟩
abbrev s_outcome : Stmt := tp 102
theorem sc_outcome : FnScope ["op", "x", "y", "n", "flags", "width"] ["op", "x", "y", "n", "flags", "width"] (defScope s_outcome) := ⟨rfl, rfl, rfl, by decide +kernel, rfl, by decide +kernel, by decide +kernel⟩
abbrev s_perform : Stmt := tp 103
theorem sc_perform : FnScope ["processor", "op", "width", "d", "s", "n", "result"] ["processor", "op", "width", "d", "s", "n"] (defScope s_perform) := ⟨rfl, rfl, rfl, by decide +kernel, rfl, by decide +kernel, by decide +kernel⟩
abbrev s_is_place : Stmt := tp 114
theorem sc_is_place : FnScope ["r"] ["r"] (defScope s_is_place) := ⟨rfl, rfl, rfl, by decide +kernel, rfl, by decide +kernel, by decide +kernel⟩
abbrev s_is_refused_by_operation : Stmt := tp 115
theorem sc_is_refused_by_operation : FnScope ["op", "size", "n"] ["op", "size", "n"] (defScope s_is_refused_by_operation) := ⟨rfl, rfl, rfl, by decide +kernel, rfl, by decide +kernel, by decide +kernel⟩
abbrev s_is_refused : Stmt := tp 116
theorem sc_is_refused : FnScope ["op", "size", "d", "s", "n"] ["op", "size", "d", "s", "n"] (defScope s_is_refused) := ⟨rfl, rfl, rfl, by decide +kernel, rfl, by decide +kernel, by decide +kernel⟩
abbrev s_init_Processor : Stmt := inClass (tp 131) 0
theorem sc_init_Processor : FnScope ["self"] ["self"] (defScope s_init_Processor) := ⟨rfl, rfl, rfl, by decide +kernel, rfl, by decide +kernel, by decide +kernel⟩
abbrev s_low : Stmt := inClass (tp 131) 1
theorem sc_low : FnScope ["self", "r", "width"] ["self", "r", "width"] (defScope s_low) := ⟨rfl, rfl, rfl, by decide +kernel, rfl, by decide +kernel, by decide +kernel⟩
abbrev s_write : Stmt := inClass (tp 131) 2
theorem sc_write : FnScope ["self", "r", "width", "number", "others"] ["self", "r", "width", "number"] (defScope s_write) := ⟨rfl, rfl, rfl, by decide +kernel, rfl, by decide +kernel, by decide +kernel⟩
abbrev s_operate : Stmt := inClass (tp 131) 3
theorem sc_operate : FnScope ["self", "op", "size", "d", "s", "n"] ["self", "op", "size", "d", "s", "n"] (defScope s_operate) := ⟨rfl, rfl, rfl, by decide +kernel, rfl, by decide +kernel, by decide +kernel⟩
abbrev s_answer_set : Stmt := tp 132
theorem sc_answer_set : FnScope ["processor", "r", "v"] ["processor", "r", "v"] (defScope s_answer_set) := ⟨rfl, rfl, rfl, by decide +kernel, rfl, by decide +kernel, by decide +kernel⟩
abbrev s_answer_get : Stmt := tp 133
theorem sc_answer_get : FnScope ["processor", "r"] ["processor", "r"] (defScope s_answer_get) := ⟨rfl, rfl, rfl, by decide +kernel, rfl, by decide +kernel, by decide +kernel⟩
abbrev s_answer_put : Stmt := tp 134
theorem sc_answer_put : FnScope ["processor", "number"] ["processor", "number"] (defScope s_answer_put) := ⟨rfl, rfl, rfl, by decide +kernel, rfl, by decide +kernel, by decide +kernel⟩
abbrev s_answer_holds : Stmt := tp 135
theorem sc_answer_holds : FnScope ["processor", "condition"] ["processor", "condition"] (defScope s_answer_holds) := ⟨rfl, rfl, rfl, by decide +kernel, rfl, by decide +kernel, by decide +kernel⟩
abbrev s_answer_run : Stmt := tp 136
theorem sc_answer_run : FnScope ["processor", "prog", "done", "at", "answer"] ["processor", "prog"] (defScope s_answer_run) := ⟨rfl, rfl, rfl, by decide +kernel, rfl, by decide +kernel, by decide +kernel⟩
abbrev s_answer_call : Stmt := tp 137
theorem sc_answer_call : FnScope ["processor", "call", "given"] ["processor", "call", "given"] (defScope s_answer_call) := ⟨rfl, rfl, rfl, by decide +kernel, rfl, by decide +kernel, by decide +kernel⟩
abbrev s_call_end : Stmt := tp 138
theorem sc_call_end : FnScope ["calls", "at", "end"] ["calls", "at"] (defScope s_call_end) := ⟨rfl, rfl, rfl, by decide +kernel, rfl, by decide +kernel, by decide +kernel⟩
abbrev s_answers : Stmt := tp 139
theorem sc_answers : FnScope ["calls", "processor", "result", "at", "end", "answer"] ["calls"] (defScope s_answers) := ⟨rfl, rfl, rfl, by decide +kernel, rfl, by decide +kernel, by decide +kernel⟩
theorem bd_cut : BindsAll "cut" "cut" s_cut ["number", "width"] := fun _ _ _ _ _ _ us hl => match us, hl with | [_, _], _ => rfl
theorem bd_bit : BindsAll "bit" "bit" s_bit ["number", "place"] := fun _ _ _ _ _ _ us hl => match us, hl with | [_, _], _ => rfl
theorem bd_highest_bit : BindsAll "highest_bit" "highest_bit" s_highest_bit ["number", "width"] := fun _ _ _ _ _ _ us hl => match us, hl with | [_, _], _ => rfl
theorem bd_signed : BindsAll "signed" "signed" s_signed ["number", "width"] := fun _ _ _ _ _ _ us hl => match us, hl with | [_, _], _ => rfl
theorem bd_ones : BindsAll "ones" "ones" s_ones ["number"] := fun _ _ _ _ _ _ us hl => match us, hl with | [_], _ => rfl
theorem bd_when : BindsAll "when" "when" s_when ["flags", "so"] := fun _ _ _ _ _ _ us hl => match us, hl with | [_, _], _ => rfl
theorem bd_replaced : BindsAll "replaced" "replaced" s_replaced ["flags", "which", "now"] := fun _ _ _ _ _ _ us hl => match us, hl with | [_, _, _], _ => rfl
theorem bd_flags_of : BindsAll "flags_of" "flags_of" s_flags_of ["result", "width"] := fun _ _ _ _ _ _ us hl => match us, hl with | [_, _], _ => rfl
theorem bd_is_condition : BindsAll "is_condition" "is_condition" s_is_condition ["number"] := fun _ _ _ _ _ _ us hl => match us, hl with | [_], _ => rfl
theorem bd_even_condition_holds : BindsAll "even_condition_holds" "even_condition_holds" s_even_condition_holds ["flags", "condition"] := fun _ _ _ _ _ _ us hl => match us, hl with | [_, _], _ => rfl
theorem bd_condition_holds : BindsAll "condition_holds" "condition_holds" s_condition_holds ["flags", "condition"] := fun _ _ _ _ _ _ us hl => match us, hl with | [_, _], _ => rfl
theorem bd_fits_with_sign : BindsAll "fits_with_sign" "fits_with_sign" s_fits_with_sign ["number", "width"] := fun _ _ _ _ _ _ us hl => match us, hl with | [_, _], _ => rfl
theorem bd_sum_flags : BindsAll "sum_flags" "sum_flags" s_sum_flags ["x", "y", "carry", "width"] := fun _ _ _ _ _ _ us hl => match us, hl with | [_, _, _, _], _ => rfl
theorem bd_difference_flags : BindsAll "difference_flags" "difference_flags" s_difference_flags ["x", "y", "borrow", "width"] := fun _ _ _ _ _ _ us hl => match us, hl with | [_, _, _, _], _ => rfl
theorem bd_move : BindsAll "move" "move" s_move ["x", "y", "flags", "width"] := fun _ _ _ _ _ _ us hl => match us, hl with | [_, _, _, _], _ => rfl
theorem bd_add : BindsAll "add" "add" s_add ["x", "y", "flags", "width"] := fun _ _ _ _ _ _ us hl => match us, hl with | [_, _, _, _], _ => rfl
theorem bd_add_with_carry : BindsAll "add_with_carry" "add_with_carry" s_add_with_carry ["x", "y", "flags", "width"] := fun _ _ _ _ _ _ us hl => match us, hl with | [_, _, _, _], _ => rfl
theorem bd_subtract : BindsAll "subtract" "subtract" s_subtract ["x", "y", "flags", "width"] := fun _ _ _ _ _ _ us hl => match us, hl with | [_, _, _, _], _ => rfl
theorem bd_subtract_with_borrow : BindsAll "subtract_with_borrow" "subtract_with_borrow" s_subtract_with_borrow ["x", "y", "flags", "width"] := fun _ _ _ _ _ _ us hl => match us, hl with | [_, _, _, _], _ => rfl
theorem bd_compare : BindsAll "compare" "compare" s_compare ["x", "y", "flags", "width"] := fun _ _ _ _ _ _ us hl => match us, hl with | [_, _, _, _], _ => rfl
theorem bd_bits_of_both : BindsAll "bits_of_both" "bits_of_both" s_bits_of_both ["x", "y", "flags", "width"] := fun _ _ _ _ _ _ us hl => match us, hl with | [_, _, _, _], _ => rfl
theorem bd_bits_of_either : BindsAll "bits_of_either" "bits_of_either" s_bits_of_either ["x", "y", "flags", "width"] := fun _ _ _ _ _ _ us hl => match us, hl with | [_, _, _, _], _ => rfl
theorem bd_bits_of_one_alone : BindsAll "bits_of_one_alone" "bits_of_one_alone" s_bits_of_one_alone ["x", "y", "flags", "width"] := fun _ _ _ _ _ _ us hl => match us, hl with | [_, _, _, _], _ => rfl
theorem bd_bits_of_both_asked : BindsAll "bits_of_both_asked" "bits_of_both_asked" s_bits_of_both_asked ["x", "y", "flags", "width"] := fun _ _ _ _ _ _ us hl => match us, hl with | [_, _, _, _], _ => rfl
theorem bd_one_more : BindsAll "one_more" "one_more" s_one_more ["x", "y", "flags", "width"] := fun _ _ _ _ _ _ us hl => match us, hl with | [_, _, _, _], _ => rfl
theorem bd_one_less : BindsAll "one_less" "one_less" s_one_less ["x", "y", "flags", "width"] := fun _ _ _ _ _ _ us hl => match us, hl with | [_, _, _, _], _ => rfl
theorem bd_negate : BindsAll "negate" "negate" s_negate ["x", "y", "flags", "width"] := fun _ _ _ _ _ _ us hl => match us, hl with | [_, _, _, _], _ => rfl
theorem bd_opposite_bits : BindsAll "opposite_bits" "opposite_bits" s_opposite_bits ["x", "y", "flags", "width"] := fun _ _ _ _ _ _ us hl => match us, hl with | [_, _, _, _], _ => rfl
theorem bd_computed : BindsAll "computed" "computed" s_computed ["op", "x", "y", "flags", "width"] := fun _ _ _ _ _ _ us hl => match us, hl with | [_, _, _, _, _], _ => rfl
theorem bd_move_if : BindsAll "move_if" "move_if" s_move_if ["y", "n", "flags", "width"] := fun _ _ _ _ _ _ us hl => match us, hl with | [_, _, _, _], _ => rfl
theorem bd_truth : BindsAll "truth" "truth" s_truth ["y", "n", "flags", "width"] := fun _ _ _ _ _ _ us hl => match us, hl with | [_, _, _, _], _ => rfl
theorem bd_low_bytes_with_sign : BindsAll "low_bytes_with_sign" "low_bytes_with_sign" s_low_bytes_with_sign ["y", "n"] := fun _ _ _ _ _ _ us hl => match us, hl with | [_, _], _ => rfl
theorem bd_widened : BindsAll "widened" "widened" s_widened ["y", "n", "flags", "width"] := fun _ _ _ _ _ _ us hl => match us, hl with | [_, _, _, _], _ => rfl
theorem bd_widened_with_sign : BindsAll "widened_with_sign" "widened_with_sign" s_widened_with_sign ["y", "n", "flags", "width"] := fun _ _ _ _ _ _ us hl => match us, hl with | [_, _, _, _], _ => rfl
theorem bd_widened_with_flags : BindsAll "widened_with_flags" "widened_with_flags" s_widened_with_flags ["y", "n", "flags", "width"] := fun _ _ _ _ _ _ us hl => match us, hl with | [_, _, _, _], _ => rfl
theorem bd_moved : BindsAll "moved" "moved" s_moved ["op", "y", "n", "flags", "width"] := fun _ _ _ _ _ _ us hl => match us, hl with | [_, _, _, _, _], _ => rfl
theorem bd_is_pair_operation : BindsAll "is_pair_operation" "is_pair_operation" s_is_pair_operation ["op"] := fun _ _ _ _ _ _ us hl => match us, hl with | [_], _ => rfl
theorem bd_understood : BindsAll "understood" "understood" s_understood ["number", "width", "with_sign"] := fun _ _ _ _ _ _ us hl => match us, hl with | [_, _, _], _ => rfl
theorem bd_multiply : BindsAll "multiply" "multiply" s_multiply ["processor", "with_sign", "width", "d", "s"] := fun _ _ _ _ _ _ us hl => match us, hl with | [_, _, _, _, _], _ => rfl
theorem bd_quotient_toward_0 : BindsAll "quotient_toward_0" "quotient_toward_0" s_quotient_toward_0 ["number", "divisor"] := fun _ _ _ _ _ _ us hl => match us, hl with | [_, _], _ => rfl
theorem bd_divide : BindsAll "divide" "divide" s_divide ["processor", "with_sign", "width", "d", "s", "n"] := fun _ _ _ _ _ _ us hl => match us, hl with | [_, _, _, _, _, _], _ => rfl
theorem bd_exchange : BindsAll "exchange" "exchange" s_exchange ["processor", "width", "d", "s"] := fun _ _ _ _ _ _ us hl => match us, hl with | [_, _, _, _], _ => rfl
theorem bd_exchange_and_add : BindsAll "exchange_and_add" "exchange_and_add" s_exchange_and_add ["processor", "width", "d", "s"] := fun _ _ _ _ _ _ us hl => match us, hl with | [_, _, _, _], _ => rfl
theorem bd_compare_and_exchange : BindsAll "compare_and_exchange" "compare_and_exchange" s_compare_and_exchange ["processor", "width", "d", "s"] := fun _ _ _ _ _ _ us hl => match us, hl with | [_, _, _, _], _ => rfl
theorem bd_perform_pair : BindsAll "perform_pair" "perform_pair" s_perform_pair ["processor", "op", "width", "d", "s", "n"] := fun _ _ _ _ _ _ us hl => match us, hl with | [_, _, _, _, _, _], _ => rfl
theorem bd_lowest_one : BindsAll "lowest_one" "lowest_one" s_lowest_one ["x", "y", "n", "flags", "width"] := fun _ _ _ _ _ _ us hl => match us, hl with | [_, _, _, _, _], _ => rfl
theorem bd_highest_one : BindsAll "highest_one" "highest_one" s_highest_one ["x", "y", "n", "flags", "width"] := fun _ _ _ _ _ _ us hl => match us, hl with | [_, _, _, _, _], _ => rfl
theorem bd_number_of_ones : BindsAll "number_of_ones" "number_of_ones" s_number_of_ones ["x", "y", "n", "flags", "width"] := fun _ _ _ _ _ _ us hl => match us, hl with | [_, _, _, _, _], _ => rfl
theorem bd_bytes_turned_round : BindsAll "bytes_turned_round" "bytes_turned_round" s_bytes_turned_round ["x", "y", "n", "flags", "width"] := fun _ _ _ _ _ _ us hl => match us, hl with | [_, _, _, _, _], _ => rfl
theorem bd_bit_told : BindsAll "bit_told" "bit_told" s_bit_told ["x", "n", "flags", "width"] := fun _ _ _ _ _ _ us hl => match us, hl with | [_, _, _, _], _ => rfl
theorem bd_bit_asked : BindsAll "bit_asked" "bit_asked" s_bit_asked ["x", "y", "n", "flags", "width"] := fun _ _ _ _ _ _ us hl => match us, hl with | [_, _, _, _, _], _ => rfl
theorem bd_bit_set : BindsAll "bit_set" "bit_set" s_bit_set ["x", "y", "n", "flags", "width"] := fun _ _ _ _ _ _ us hl => match us, hl with | [_, _, _, _, _], _ => rfl
theorem bd_bit_cleared : BindsAll "bit_cleared" "bit_cleared" s_bit_cleared ["x", "y", "n", "flags", "width"] := fun _ _ _ _ _ _ us hl => match us, hl with | [_, _, _, _, _], _ => rfl
theorem bd_bit_changed : BindsAll "bit_changed" "bit_changed" s_bit_changed ["x", "y", "n", "flags", "width"] := fun _ _ _ _ _ _ us hl => match us, hl with | [_, _, _, _, _], _ => rfl
theorem bd_placed : BindsAll "placed" "placed" s_placed ["op", "x", "y", "n", "flags", "width"] := fun _ _ _ _ _ _ us hl => match us, hl with | [_, _, _, _, _, _], _ => rfl
theorem bd_shift_count : BindsAll "shift_count" "shift_count" s_shift_count ["n", "width"] := fun _ _ _ _ _ _ us hl => match us, hl with | [_, _], _ => rfl
theorem bd_shift_flags : BindsAll "shift_flags" "shift_flags" s_shift_flags ["result", "carry", "overflow", "width"] := fun _ _ _ _ _ _ us hl => match us, hl with | [_, _, _, _], _ => rfl
theorem bd_turn_flags : BindsAll "turn_flags" "turn_flags" s_turn_flags ["flags", "carry", "overflow"] := fun _ _ _ _ _ _ us hl => match us, hl with | [_, _, _], _ => rfl
theorem bd_two_highest_differ : BindsAll "two_highest_differ" "two_highest_differ" s_two_highest_differ ["number", "width"] := fun _ _ _ _ _ _ us hl => match us, hl with | [_, _], _ => rfl
theorem bd_turned_left : BindsAll "turned_left" "turned_left" s_turned_left ["number", "k", "width"] := fun _ _ _ _ _ _ us hl => match us, hl with | [_, _, _], _ => rfl
theorem bd_left : BindsAll "left" "left" s_left ["x", "y", "k", "flags", "width"] := fun _ _ _ _ _ _ us hl => match us, hl with | [_, _, _, _, _], _ => rfl
theorem bd_right : BindsAll "right" "right" s_right ["x", "y", "k", "flags", "width"] := fun _ _ _ _ _ _ us hl => match us, hl with | [_, _, _, _, _], _ => rfl
theorem bd_right_with_sign : BindsAll "right_with_sign" "right_with_sign" s_right_with_sign ["x", "y", "k", "flags", "width"] := fun _ _ _ _ _ _ us hl => match us, hl with | [_, _, _, _, _], _ => rfl
theorem bd_turn_left : BindsAll "turn_left" "turn_left" s_turn_left ["x", "y", "k", "flags", "width"] := fun _ _ _ _ _ _ us hl => match us, hl with | [_, _, _, _, _], _ => rfl
theorem bd_turn_right : BindsAll "turn_right" "turn_right" s_turn_right ["x", "y", "k", "flags", "width"] := fun _ _ _ _ _ _ us hl => match us, hl with | [_, _, _, _, _], _ => rfl
theorem bd_turn_left_through_carry : BindsAll "turn_left_through_carry" "turn_left_through_carry" s_turn_left_through_carry ["x", "y", "k", "flags", "width"] := fun _ _ _ _ _ _ us hl => match us, hl with | [_, _, _, _, _], _ => rfl
theorem bd_turn_right_through_carry : BindsAll "turn_right_through_carry" "turn_right_through_carry" s_turn_right_through_carry ["x", "y", "k", "flags", "width"] := fun _ _ _ _ _ _ us hl => match us, hl with | [_, _, _, _, _], _ => rfl
theorem bd_fill_flags : BindsAll "fill_flags" "fill_flags" s_fill_flags ["x", "result", "carry", "width"] := fun _ _ _ _ _ _ us hl => match us, hl with | [_, _, _, _], _ => rfl
theorem bd_left_filled : BindsAll "left_filled" "left_filled" s_left_filled ["x", "y", "k", "flags", "width"] := fun _ _ _ _ _ _ us hl => match us, hl with | [_, _, _, _, _], _ => rfl
theorem bd_right_filled : BindsAll "right_filled" "right_filled" s_right_filled ["x", "y", "k", "flags", "width"] := fun _ _ _ _ _ _ us hl => match us, hl with | [_, _, _, _, _], _ => rfl
theorem bd_shifted : BindsAll "shifted" "shifted" s_shifted ["op", "x", "y", "n", "flags", "width"] := fun _ _ _ _ _ _ us hl => match us, hl with | [_, _, _, _, _, _], _ => rfl
theorem bd_outcome : BindsAll "outcome" "outcome" s_outcome ["op", "x", "y", "n", "flags", "width"] := fun _ _ _ _ _ _ us hl => match us, hl with | [_, _, _, _, _, _], _ => rfl
theorem bd_perform : BindsAll "perform" "perform" s_perform ["processor", "op", "width", "d", "s", "n"] := fun _ _ _ _ _ _ us hl => match us, hl with | [_, _, _, _, _, _], _ => rfl
theorem bd_is_place : BindsAll "is_place" "is_place" s_is_place ["r"] := fun _ _ _ _ _ _ us hl => match us, hl with | [_], _ => rfl
theorem bd_is_refused_by_operation : BindsAll "is_refused_by_operation" "is_refused_by_operation" s_is_refused_by_operation ["op", "size", "n"] := fun _ _ _ _ _ _ us hl => match us, hl with | [_, _, _], _ => rfl
theorem bd_is_refused : BindsAll "is_refused" "is_refused" s_is_refused ["op", "size", "d", "s", "n"] := fun _ _ _ _ _ _ us hl => match us, hl with | [_, _, _, _, _], _ => rfl
theorem bd_init_Processor : BindsAll "__init__" "Processor.__init__" s_init_Processor ["self"] := fun _ _ _ _ _ _ us hl => match us, hl with | [_], _ => rfl
theorem bd_low : BindsAll "low" "Processor.low" s_low ["self", "r", "width"] := fun _ _ _ _ _ _ us hl => match us, hl with | [_, _, _], _ => rfl
theorem bd_write : BindsAll "write" "Processor.write" s_write ["self", "r", "width", "number"] := fun _ _ _ _ _ _ us hl => match us, hl with | [_, _, _, _], _ => rfl
theorem bd_operate : BindsAll "operate" "Processor.operate" s_operate ["self", "op", "size", "d", "s", "n"] := fun _ _ _ _ _ _ us hl => match us, hl with | [_, _, _, _, _, _], _ => rfl
theorem bd_answer_set : BindsAll "answer_set" "answer_set" s_answer_set ["processor", "r", "v"] := fun _ _ _ _ _ _ us hl => match us, hl with | [_, _, _], _ => rfl
theorem bd_answer_get : BindsAll "answer_get" "answer_get" s_answer_get ["processor", "r"] := fun _ _ _ _ _ _ us hl => match us, hl with | [_, _], _ => rfl
theorem bd_answer_put : BindsAll "answer_put" "answer_put" s_answer_put ["processor", "number"] := fun _ _ _ _ _ _ us hl => match us, hl with | [_, _], _ => rfl
theorem bd_answer_holds : BindsAll "answer_holds" "answer_holds" s_answer_holds ["processor", "condition"] := fun _ _ _ _ _ _ us hl => match us, hl with | [_, _], _ => rfl
theorem bd_answer_run : BindsAll "answer_run" "answer_run" s_answer_run ["processor", "prog"] := fun _ _ _ _ _ _ us hl => match us, hl with | [_, _], _ => rfl
theorem bd_answer_call : BindsAll "answer_call" "answer_call" s_answer_call ["processor", "call", "given"] := fun _ _ _ _ _ _ us hl => match us, hl with | [_, _, _], _ => rfl
theorem bd_call_end : BindsAll "call_end" "call_end" s_call_end ["calls", "at"] := fun _ _ _ _ _ _ us hl => match us, hl with | [_, _], _ => rfl
theorem bd_answers : BindsAll "answers" "answers" s_answers ["calls"] := fun _ _ _ _ _ _ us hl => match us, hl with | [_], _ => rfl
structure Txt (K : PySem.W.Frag) (mg : Str → Option Value) (C : Addr) : Prop where
  g_CARRY : ∃ u, mg "CARRY" = some u ∧ RelV (.int (1)) u
  g_PARITY : ∃ u, mg "PARITY" = some u ∧ RelV (.int (4)) u
  g_HALF_CARRY : ∃ u, mg "HALF_CARRY" = some u ∧ RelV (.int (16)) u
  g_ZERO : ∃ u, mg "ZERO" = some u ∧ RelV (.int (64)) u
  g_SIGN : ∃ u, mg "SIGN" = some u ∧ RelV (.int (128)) u
  g_OVERFLOW : ∃ u, mg "OVERFLOW" = some u ∧ RelV (.int (2048)) u
  g_ALL_FLAGS : ∃ u, mg "ALL_FLAGS" = some u ∧ RelV (.int (2261)) u
  g_CONDITIONS : ∃ u, mg "CONDITIONS" = some u ∧ RelV (.int (16)) u
  q_ENOUGH : ∃ a, mg "ENOUGH" = some (.ref a) ∧ ∀ H, SqT K H a [.int (2048), .int (1), .int (64), .int (65), .int (128), .int (4)]
  q_ARITHMETIC : ∃ a kvs, mg "ARITHMETIC" = some (.ref a) ∧ KDict K a kvs ∧ DictAt K mg a kvs 0 "move" ∧ DictAt K mg a kvs 1 "add" ∧ DictAt K mg a kvs 2 "add_with_carry" ∧ DictAt K mg a kvs 3 "subtract" ∧ DictAt K mg a kvs 4 "subtract_with_borrow" ∧ DictAt K mg a kvs 5 "compare" ∧ DictAt K mg a kvs 6 "bits_of_both" ∧ DictAt K mg a kvs 7 "bits_of_either" ∧ DictAt K mg a kvs 8 "bits_of_one_alone" ∧ DictAt K mg a kvs 9 "bits_of_both_asked" ∧ DictAt K mg a kvs 10 "one_more" ∧ DictAt K mg a kvs 11 "one_less" ∧ DictAt K mg a kvs 12 "negate" ∧ DictAt K mg a kvs 13 "opposite_bits"
  q_MOVES : ∃ a kvs, mg "MOVES" = some (.ref a) ∧ KDict K a kvs ∧ DictAt K mg a kvs 35 "move_if" ∧ DictAt K mg a kvs 36 "truth" ∧ DictAt K mg a kvs 40 "widened" ∧ DictAt K mg a kvs 41 "widened_with_sign" ∧ DictAt K mg a kvs 42 "widened_with_flags"
  g_PRODUCT : ∃ u, mg "PRODUCT" = some u ∧ RelV (.int (23)) u
  g_SIGNED_PRODUCT : ∃ u, mg "SIGNED_PRODUCT" = some u ∧ RelV (.int (24)) u
  g_QUOTIENT : ∃ u, mg "QUOTIENT" = some u ∧ RelV (.int (25)) u
  g_SIGNED_QUOTIENT : ∃ u, mg "SIGNED_QUOTIENT" = some u ∧ RelV (.int (26)) u
  g_EXCHANGE : ∃ u, mg "EXCHANGE" = some u ∧ RelV (.int (37)) u
  g_EXCHANGE_AND_ADD : ∃ u, mg "EXCHANGE_AND_ADD" = some u ∧ RelV (.int (38)) u
  g_COMPARE_AND_EXCHANGE : ∃ u, mg "COMPARE_AND_EXCHANGE" = some u ∧ RelV (.int (39)) u
  q_PLACES : ∃ a kvs, mg "PLACES" = some (.ref a) ∧ KDict K a kvs ∧ DictAt K mg a kvs 27 "lowest_one" ∧ DictAt K mg a kvs 28 "highest_one" ∧ DictAt K mg a kvs 29 "number_of_ones" ∧ DictAt K mg a kvs 30 "bytes_turned_round" ∧ DictAt K mg a kvs 31 "bit_asked" ∧ DictAt K mg a kvs 32 "bit_set" ∧ DictAt K mg a kvs 33 "bit_cleared" ∧ DictAt K mg a kvs 34 "bit_changed"
  q_SHIFTS : ∃ a kvs, mg "SHIFTS" = some (.ref a) ∧ KDict K a kvs ∧ DictAt K mg a kvs 14 "left" ∧ DictAt K mg a kvs 15 "right" ∧ DictAt K mg a kvs 16 "right_with_sign" ∧ DictAt K mg a kvs 17 "turn_left" ∧ DictAt K mg a kvs 18 "turn_right" ∧ DictAt K mg a kvs 19 "turn_left_through_carry" ∧ DictAt K mg a kvs 20 "turn_right_through_carry" ∧ DictAt K mg a kvs 21 "left_filled" ∧ DictAt K mg a kvs 22 "right_filled"
  g_LAST_ARITHMETIC : ∃ u, mg "LAST_ARITHMETIC" = some u ∧ RelV (.int (13)) u
  g_LAST_SHIFT : ∃ u, mg "LAST_SHIFT" = some u ∧ RelV (.int (22)) u
  g_LAST_PLACE : ∃ u, mg "LAST_PLACE" = some u ∧ RelV (.int (34)) u
  g_REGISTERS : ∃ u, mg "REGISTERS" = some u ∧ RelV (.int (16)) u
  g_LAST_OPERATION : ∃ u, mg "LAST_OPERATION" = some u ∧ RelV (.int (42)) u
  q_SIZES : ∃ a, mg "SIZES" = some (.ref a) ∧ ∀ H, SqT K H a [.int (1), .int (2), .int (4), .int (8)]
  g_LEFT_FILLED : ∃ u, mg "LEFT_FILLED" = some u ∧ RelV (.int (21)) u
  g_RIGHT_FILLED : ∃ u, mg "RIGHT_FILLED" = some u ∧ RelV (.int (22)) u
  g_BYTES_TURNED_ROUND : ∃ u, mg "BYTES_TURNED_ROUND" = some u ∧ RelV (.int (30)) u
  g_MOVE_IF : ∃ u, mg "MOVE_IF" = some u ∧ RelV (.int (35)) u
  g_TRUTH : ∃ u, mg "TRUTH" = some u ∧ RelV (.int (36)) u
  g_WIDENED : ∃ u, mg "WIDENED" = some u ∧ RelV (.int (40)) u
  g_SET : ∃ u, mg "SET" = some u ∧ RelV (.int (0)) u
  g_GET : ∃ u, mg "GET" = some u ∧ RelV (.int (1)) u
  g_FLAGS : ∃ u, mg "FLAGS" = some u ∧ RelV (.int (2)) u
  g_PUT : ∃ u, mg "PUT" = some u ∧ RelV (.int (3)) u
  g_HOLDS : ∃ u, mg "HOLDS" = some u ∧ RelV (.int (4)) u
  g_DO : ∃ u, mg "DO" = some u ∧ RelV (.int (5)) u
  g_RUN : ∃ u, mg "RUN" = some u ∧ RelV (.int (6)) u
  q_ARGUMENTS : ∃ a, mg "ARGUMENTS" = some (.ref a) ∧ ∀ H, SqT K H a [.int (2), .int (1), .int (0), .int (1), .int (1), .int (5), .int (1)]
  g_DONE : ∃ u, mg "DONE" = some u ∧ RelV (.int (0)) u
  g_TRAPPED : ∃ u, mg "TRAPPED" = some u ∧ RelV (.int (1)) u
  g_REFUSED : ∃ u, mg "REFUSED" = some u ∧ RelV (.int (2)) u
  g_NOT_RECORDS : ∃ u, mg "NOT_RECORDS" = some u ∧ RelV (.int (3)) u
  g_RECORD : ∃ u, mg "RECORD" = some u ∧ RelV (.int (5)) u
  m_Processor : mg "Processor" = some (.ref C)
  cl : Cls K C
  nf_registers : NoAttr K C "registers"
  nf_flags : NoAttr K C "flags"
  d_cut : DefT K mg "cut" "cut" s_cut ["number", "width"]
  d_bit : DefT K mg "bit" "bit" s_bit ["number", "place"]
  d_highest_bit : DefT K mg "highest_bit" "highest_bit" s_highest_bit ["number", "width"]
  d_signed : DefT K mg "signed" "signed" s_signed ["number", "width"]
  d_ones : DefT K mg "ones" "ones" s_ones ["number"]
  d_when : DefT K mg "when" "when" s_when ["flags", "so"]
  d_replaced : DefT K mg "replaced" "replaced" s_replaced ["flags", "which", "now"]
  d_flags_of : DefT K mg "flags_of" "flags_of" s_flags_of ["result", "width"]
  d_is_condition : DefT K mg "is_condition" "is_condition" s_is_condition ["number"]
  d_even_condition_holds : DefT K mg "even_condition_holds" "even_condition_holds" s_even_condition_holds ["flags", "condition"]
  d_condition_holds : DefT K mg "condition_holds" "condition_holds" s_condition_holds ["flags", "condition"]
  d_fits_with_sign : DefT K mg "fits_with_sign" "fits_with_sign" s_fits_with_sign ["number", "width"]
  d_sum_flags : DefT K mg "sum_flags" "sum_flags" s_sum_flags ["x", "y", "carry", "width"]
  d_difference_flags : DefT K mg "difference_flags" "difference_flags" s_difference_flags ["x", "y", "borrow", "width"]
  d_move : DefT K mg "move" "move" s_move ["x", "y", "flags", "width"]
  d_add : DefT K mg "add" "add" s_add ["x", "y", "flags", "width"]
  d_add_with_carry : DefT K mg "add_with_carry" "add_with_carry" s_add_with_carry ["x", "y", "flags", "width"]
  d_subtract : DefT K mg "subtract" "subtract" s_subtract ["x", "y", "flags", "width"]
  d_subtract_with_borrow : DefT K mg "subtract_with_borrow" "subtract_with_borrow" s_subtract_with_borrow ["x", "y", "flags", "width"]
  d_compare : DefT K mg "compare" "compare" s_compare ["x", "y", "flags", "width"]
  d_bits_of_both : DefT K mg "bits_of_both" "bits_of_both" s_bits_of_both ["x", "y", "flags", "width"]
  d_bits_of_either : DefT K mg "bits_of_either" "bits_of_either" s_bits_of_either ["x", "y", "flags", "width"]
  d_bits_of_one_alone : DefT K mg "bits_of_one_alone" "bits_of_one_alone" s_bits_of_one_alone ["x", "y", "flags", "width"]
  d_bits_of_both_asked : DefT K mg "bits_of_both_asked" "bits_of_both_asked" s_bits_of_both_asked ["x", "y", "flags", "width"]
  d_one_more : DefT K mg "one_more" "one_more" s_one_more ["x", "y", "flags", "width"]
  d_one_less : DefT K mg "one_less" "one_less" s_one_less ["x", "y", "flags", "width"]
  d_negate : DefT K mg "negate" "negate" s_negate ["x", "y", "flags", "width"]
  d_opposite_bits : DefT K mg "opposite_bits" "opposite_bits" s_opposite_bits ["x", "y", "flags", "width"]
  d_computed : DefT K mg "computed" "computed" s_computed ["op", "x", "y", "flags", "width"]
  d_move_if : DefT K mg "move_if" "move_if" s_move_if ["y", "n", "flags", "width"]
  d_truth : DefT K mg "truth" "truth" s_truth ["y", "n", "flags", "width"]
  d_low_bytes_with_sign : DefT K mg "low_bytes_with_sign" "low_bytes_with_sign" s_low_bytes_with_sign ["y", "n"]
  d_widened : DefT K mg "widened" "widened" s_widened ["y", "n", "flags", "width"]
  d_widened_with_sign : DefT K mg "widened_with_sign" "widened_with_sign" s_widened_with_sign ["y", "n", "flags", "width"]
  d_widened_with_flags : DefT K mg "widened_with_flags" "widened_with_flags" s_widened_with_flags ["y", "n", "flags", "width"]
  d_moved : DefT K mg "moved" "moved" s_moved ["op", "y", "n", "flags", "width"]
  d_is_pair_operation : DefT K mg "is_pair_operation" "is_pair_operation" s_is_pair_operation ["op"]
  d_understood : DefT K mg "understood" "understood" s_understood ["number", "width", "with_sign"]
  d_multiply : DefT K mg "multiply" "multiply" s_multiply ["processor", "with_sign", "width", "d", "s"]
  d_quotient_toward_0 : DefT K mg "quotient_toward_0" "quotient_toward_0" s_quotient_toward_0 ["number", "divisor"]
  d_divide : DefT K mg "divide" "divide" s_divide ["processor", "with_sign", "width", "d", "s", "n"]
  d_exchange : DefT K mg "exchange" "exchange" s_exchange ["processor", "width", "d", "s"]
  d_exchange_and_add : DefT K mg "exchange_and_add" "exchange_and_add" s_exchange_and_add ["processor", "width", "d", "s"]
  d_compare_and_exchange : DefT K mg "compare_and_exchange" "compare_and_exchange" s_compare_and_exchange ["processor", "width", "d", "s"]
  d_perform_pair : DefT K mg "perform_pair" "perform_pair" s_perform_pair ["processor", "op", "width", "d", "s", "n"]
  d_lowest_one : DefT K mg "lowest_one" "lowest_one" s_lowest_one ["x", "y", "n", "flags", "width"]
  d_highest_one : DefT K mg "highest_one" "highest_one" s_highest_one ["x", "y", "n", "flags", "width"]
  d_number_of_ones : DefT K mg "number_of_ones" "number_of_ones" s_number_of_ones ["x", "y", "n", "flags", "width"]
  d_bytes_turned_round : DefT K mg "bytes_turned_round" "bytes_turned_round" s_bytes_turned_round ["x", "y", "n", "flags", "width"]
  d_bit_told : DefT K mg "bit_told" "bit_told" s_bit_told ["x", "n", "flags", "width"]
  d_bit_asked : DefT K mg "bit_asked" "bit_asked" s_bit_asked ["x", "y", "n", "flags", "width"]
  d_bit_set : DefT K mg "bit_set" "bit_set" s_bit_set ["x", "y", "n", "flags", "width"]
  d_bit_cleared : DefT K mg "bit_cleared" "bit_cleared" s_bit_cleared ["x", "y", "n", "flags", "width"]
  d_bit_changed : DefT K mg "bit_changed" "bit_changed" s_bit_changed ["x", "y", "n", "flags", "width"]
  d_placed : DefT K mg "placed" "placed" s_placed ["op", "x", "y", "n", "flags", "width"]
  d_shift_count : DefT K mg "shift_count" "shift_count" s_shift_count ["n", "width"]
  d_shift_flags : DefT K mg "shift_flags" "shift_flags" s_shift_flags ["result", "carry", "overflow", "width"]
  d_turn_flags : DefT K mg "turn_flags" "turn_flags" s_turn_flags ["flags", "carry", "overflow"]
  d_two_highest_differ : DefT K mg "two_highest_differ" "two_highest_differ" s_two_highest_differ ["number", "width"]
  d_turned_left : DefT K mg "turned_left" "turned_left" s_turned_left ["number", "k", "width"]
  d_left : DefT K mg "left" "left" s_left ["x", "y", "k", "flags", "width"]
  d_right : DefT K mg "right" "right" s_right ["x", "y", "k", "flags", "width"]
  d_right_with_sign : DefT K mg "right_with_sign" "right_with_sign" s_right_with_sign ["x", "y", "k", "flags", "width"]
  d_turn_left : DefT K mg "turn_left" "turn_left" s_turn_left ["x", "y", "k", "flags", "width"]
  d_turn_right : DefT K mg "turn_right" "turn_right" s_turn_right ["x", "y", "k", "flags", "width"]
  d_turn_left_through_carry : DefT K mg "turn_left_through_carry" "turn_left_through_carry" s_turn_left_through_carry ["x", "y", "k", "flags", "width"]
  d_turn_right_through_carry : DefT K mg "turn_right_through_carry" "turn_right_through_carry" s_turn_right_through_carry ["x", "y", "k", "flags", "width"]
  d_fill_flags : DefT K mg "fill_flags" "fill_flags" s_fill_flags ["x", "result", "carry", "width"]
  d_left_filled : DefT K mg "left_filled" "left_filled" s_left_filled ["x", "y", "k", "flags", "width"]
  d_right_filled : DefT K mg "right_filled" "right_filled" s_right_filled ["x", "y", "k", "flags", "width"]
  d_shifted : DefT K mg "shifted" "shifted" s_shifted ["op", "x", "y", "n", "flags", "width"]
  d_outcome : DefT K mg "outcome" "outcome" s_outcome ["op", "x", "y", "n", "flags", "width"]
  d_perform : DefT K mg "perform" "perform" s_perform ["processor", "op", "width", "d", "s", "n"]
  d_is_place : DefT K mg "is_place" "is_place" s_is_place ["r"]
  d_is_refused_by_operation : DefT K mg "is_refused_by_operation" "is_refused_by_operation" s_is_refused_by_operation ["op", "size", "n"]
  d_is_refused : DefT K mg "is_refused" "is_refused" s_is_refused ["op", "size", "d", "s", "n"]
  d_init_Processor : InitT K C "Processor.__init__" s_init_Processor ["self"]
  d_low : MethT K C "low" "Processor.low" s_low ["self", "r", "width"]
  d_write : MethT K C "write" "Processor.write" s_write ["self", "r", "width", "number"]
  d_operate : MethT K C "operate" "Processor.operate" s_operate ["self", "op", "size", "d", "s", "n"]
  d_answer_set : DefT K mg "answer_set" "answer_set" s_answer_set ["processor", "r", "v"]
  d_answer_get : DefT K mg "answer_get" "answer_get" s_answer_get ["processor", "r"]
  d_answer_put : DefT K mg "answer_put" "answer_put" s_answer_put ["processor", "number"]
  d_answer_holds : DefT K mg "answer_holds" "answer_holds" s_answer_holds ["processor", "condition"]
  d_answer_run : DefT K mg "answer_run" "answer_run" s_answer_run ["processor", "prog"]
  d_answer_call : DefT K mg "answer_call" "answer_call" s_answer_call ["processor", "call", "given"]
  d_call_end : DefT K mg "call_end" "call_end" s_call_end ["calls", "at"]
  d_answers : DefT K mg "answers" "answers" s_answers ["calls"]
  nb_len : mg "len" = none
  nb_range : mg "range" = none
  nb_abs : mg "abs" = none
  nb_sum : mg "sum" = none
section
variable {K : PySem.W.Frag} {mg : Str → Option Value} {h : Heap}
theorem mk_int {n : Str} {i : Int} {t : Tok} (X : K.In h) (G : h.Ns mainGlobals mg) (e : PySem.W.nsIn K mainGlobals n = some (some (.int i t))) : ∃ u, mg n = some u ∧ RelV (.int i) u := ⟨_, PySem.W.mg_of X G e, ⟨t, rfl⟩⟩
theorem mk_tup {n : Str} {a : Addr} {od : Option Addr} {its : Array Value} {m : Nat} {sl : Array (Option Value)} {xs : List V} (X : K.In h) (G : h.Ns mainGlobals mg) (e : PySem.W.nsIn K mainGlobals n = some (some (.ref a)))
    (l : K.lookup a = some ⟨.type "tuple", od, .seq its m, sl⟩) (r : Vals xs its.toList) (hz : its.size ≤ sizeLine) : ∃ a, mg n = some (.ref a) ∧ ∀ H, SqT K H a xs := ⟨a, PySem.W.mg_of X G e, fun H => .inr ⟨_, its, m, l, rfl, rfl, hz, r⟩⟩
theorem mk_dict {n : Str} {a : Addr} {es : Array DictEntry} {m : Nat} {kvs : List (Int × Addr)} {R : Addr → List (Int × Addr) → Prop} (X : K.In h) (G : h.Ns mainGlobals mg) (e : PySem.W.nsIn K mainGlobals n = some (some (.ref a)))
    (l : K.lookup a = some ⟨.type "dict", none, .dict es m, #[]⟩) (r : Ents es.toList kvs) (nd : (kvs.map (·.1)).Nodup) (q : R a kvs) : ∃ a kvs, mg n = some (.ref a) ∧ KDict K a kvs ∧ R a kvs := ⟨a, kvs, PySem.W.mg_of X G e, ⟨es, m, l, r, nd⟩, q⟩
end
end We
end

section
set_option Elab.async false
set_option linter.all false
set_option maxRecDepth 100000
set_option maxHeartbeats 4000000
namespace We
open PySem PySem.Spec PyProof.Rows L2
local macro_rules | `(tactic| walk_at "w") => `(tactic| first | omega | assumption | exact hb_small _ _ | exact pow_pos _ | (refine ⟨by omega, ?_⟩; omega))
inductive R_cut : List V → V → Prop
  | mk {number : Int} {width : Int} (hpre : 0 ≤ width ∧ width ≤ 1000) : R_cut [.int number, .int width] (.int (Wm.cut number width))
inductive R_bit : List V → V → Prop
  | mk {number : Int} {place : Int} (hpre : 0 ≤ place) : R_bit [.int number, .int place] (.int (Wm.bit number place))
inductive R_highest_bit : List V → V → Prop
  | mk {number : Int} {width : Int} (hpre : 1 ≤ width) : R_highest_bit [.int number, .int width] (.int (Wm.highest_bit number width))
inductive R_signed : List V → V → Prop
  | mk {number : Int} {width : Int} (hpre : 1 ≤ width ∧ width ≤ 1000) : R_signed [.int number, .int width] (.int (Wm.signed number width))
inductive R_ones : List V → V → Prop
  | mk {number : Int} (hpre : 0 ≤ number ∧ number < 2 ^ 64) : R_ones [.int number] (.int (Wm.ones number))
inductive R_when : List V → V → Prop
  | mk {flags : Int} {so : Bool} : R_when [.int flags, .bl so] (.int (Wm.when flags so))
inductive R_replaced : List V → V → Prop
  | mk {flags : Int} {which : Int} {now : Int} : R_replaced [.int flags, .int which, .int now] (.int (Wm.replaced flags which now))
inductive R_flags_of : List V → V → Prop
  | mk {result : Int} {width : Int} (hpre : 1 ≤ width ∧ width ≤ 1000) : R_flags_of [.int result, .int width] (.int (Wm.flags_of result width))
inductive R_is_condition : List V → V → Prop
  | mk {number : Int} : R_is_condition [.int number] (.bl (Wm.is_condition number))
inductive R_even_condition_holds : List V → V → Prop
  | mk {flags condition : Int} (hpre : 0 ≤ condition ∧ condition ≤ 14) : R_even_condition_holds [.int flags, .int condition] (.bl (Wm.even_condition_holds flags condition))
inductive R_condition_holds : List V → V → Prop
  | mk {flags : Int} {condition : Int} (hpre : 0 ≤ condition ∧ condition ≤ 15) : R_condition_holds [.int flags, .int condition] (.bl (Wm.condition_holds flags condition))
inductive R_fits_with_sign : List V → V → Prop
  | mk {number : Int} {width : Int} (hpre : 1 ≤ width ∧ width ≤ 1000) : R_fits_with_sign [.int number, .int width] (.bl (Wm.fits_with_sign number width))
inductive R_sum_flags : List V → V → Prop
  | mk {x : Int} {y : Int} {carry : Int} {width : Int} (hpre : 1 ≤ width ∧ width ≤ 1000) : R_sum_flags [.int x, .int y, .int carry, .int width] (.int (Wm.sum_flags x y carry width))
inductive R_difference_flags : List V → V → Prop
  | mk {x : Int} {y : Int} {borrow : Int} {width : Int} (hpre : 1 ≤ width ∧ width ≤ 1000) : R_difference_flags [.int x, .int y, .int borrow, .int width] (.int (Wm.difference_flags x y borrow width))
section
variable {P : Program} {w : World} {K : PySem.W.Frag} {mg : Str → Option Value} {base : Heap} {C : Addr}
theorem ok_cut (T : Txt K mg C) : DefOk P w K mg base "cut" ["number", "width"] 1 (spR fun _ => R_cut) := by
  refine def_ok T.d_cut sc_cut (fun vs H Q E h => ?_) (fun f cdv A outer s H vs Q E hr h => ?_)
  · obtain ⟨v, hR, _⟩ := h; cases hR <;> rfl
  · obtain ⟨v, hR, k⟩ := h
    cases hR with
    | mk hpre =>
      refine ⟨_, (pss_one (ps_ret pe_ev)), ?_⟩
      exact ⟨_, (Pe.bin (Pe.var 0 rfl) (Pe.bin Pe.int (Pe.var 1 rfl) (b_pow2 (by walk_at "w") (by walk_at "w"))) (b_mod (by walk_at "w"))), fun Hz sz => k Hz sz⟩
theorem ok_bit (T : Txt K mg C) : DefOk P w K mg base "bit" ["number", "place"] 1 (spR fun _ => R_bit) := by
  refine def_ok T.d_bit sc_bit (fun vs H Q E h => ?_) (fun f cdv A outer s H vs Q E hr h => ?_)
  · obtain ⟨v, hR, _⟩ := h; cases hR <;> rfl
  · obtain ⟨v, hR, k⟩ := h
    cases hR with
    | mk hpre =>
      refine ⟨_, (pss_one (ps_ret pe_ev)), ?_⟩
      exact ⟨_, (Pe.bin (Pe.bin (Pe.var 0 rfl) (Pe.var 1 rfl) (b_shr (by walk_at "w"))) Pe.int b_and1), fun Hz sz => k Hz sz⟩
theorem ok_highest_bit (T : Txt K mg C) : DefOk P w K mg base "highest_bit" ["number", "width"] 2 (spR fun _ => R_highest_bit) := by
  refine def_ok T.d_highest_bit sc_highest_bit (fun vs H Q E h => ?_) (fun f cdv A outer s H vs Q E hr h => ?_)
  · obtain ⟨v, hR, _⟩ := h; cases hR <;> rfl
  · obtain ⟨v, hR, k⟩ := h
    cases hR with
    | mk hpre =>
      refine ⟨_, (pss_one (ps_ret pe_ev)), ?_⟩
      exact ⟨_, (Pe.call (ok_bit T) (hr.mono (by decide)) (Pas.cons (Pe.var 0 rfl) (Pas.cons (Pe.bin (Pe.var 1 rfl) Pe.int b_sub) Pas.nil)) (fun _ _ => R_bit.mk (by walk_at "w"))), fun Hz sz => k Hz sz⟩
theorem ok_signed (T : Txt K mg C) : DefOk P w K mg base "signed" ["number", "width"] 3 (spR fun _ => R_signed) := by
  refine def_ok T.d_signed sc_signed (fun vs H Q E h => ?_) (fun f cdv A outer s H vs Q E hr h => ?_)
  · obtain ⟨v, hR, _⟩ := h; cases hR <;> rfl
  · obtain ⟨v, hR, k⟩ := h
    cases hR with
    | mk hpre =>
      refine ⟨_, (pss_one (ps_ret pe_ev)), ?_⟩
      exact ⟨_, (Pe.bin (Pe.var 0 rfl) (Pe.bin (Pe.call (ok_highest_bit T) (hr.mono (by decide)) (Pas.cons (Pe.var 0 rfl) (Pas.cons (Pe.var 1 rfl) Pas.nil)) (fun _ _ => R_highest_bit.mk (by walk_at "w"))) (Pe.var 1 rfl) (b_shl (by walk_at "w") (by walk_at "w") (by walk_at "w"))) b_sub), fun Hz sz => k Hz sz⟩
theorem ok_when (T : Txt K mg C) : DefOk P w K mg base "when" ["flags", "so"] 1 (spR fun _ => R_when) := by
  refine def_ok T.d_when sc_when (fun vs H Q E h => ?_) (fun f cdv A outer s H vs Q E hr h => ?_)
  · obtain ⟨v, hR, _⟩ := h; cases hR <;> rfl
  · obtain ⟨v, hR, k⟩ := h
    cases hR with
    | mk =>
      refine ⟨_, (pss_one (ps_ret pe_ev)), ?_⟩
      exact ⟨_, (Pe.ifInt (Pt.truth (Pe.var 1 rfl)) (fun hif => (Pe.var 0 rfl)) (fun hif => Pe.int)), fun Hz sz => k Hz sz⟩
theorem ok_replaced (T : Txt K mg C) : DefOk P w K mg base "replaced" ["flags", "which", "now"] 1 (spR fun _ => R_replaced) := by
  refine def_ok T.d_replaced sc_replaced (fun vs H Q E h => ?_) (fun f cdv A outer s H vs Q E hr h => ?_)
  · obtain ⟨v, hR, _⟩ := h; cases hR <;> rfl
  · obtain ⟨v, hR, k⟩ := h
    cases hR with
    | mk =>
      refine ⟨_, (pss_one (ps_ret pe_ev)), ?_⟩
      exact ⟨_, (Pe.bin (Pe.bin (Pe.var 0 rfl) (Pe.bin (Pe.glob T.g_ALL_FLAGS) (Pe.var 1 rfl) b_sub) b_and) (Pe.var 2 rfl) b_or), fun Hz sz => k Hz sz⟩
theorem ok_is_condition (T : Txt K mg C) : DefOk P w K mg base "is_condition" ["number"] 1 (spR fun _ => R_is_condition) := by
  refine def_ok T.d_is_condition sc_is_condition (fun vs H Q E h => ?_) (fun f cdv A outer s H vs Q E hr h => ?_)
  · obtain ⟨v, hR, _⟩ := h; cases hR <;> rfl
  · obtain ⟨v, hR, k⟩ := h
    cases hR with
    | mk =>
      refine ⟨_, (pss_one (ps_ret pe_ev)), ?_⟩
      exact ⟨_, (Pe.chain Pe.int (Pe.var 0 rfl) (Pe.glob T.g_CONDITIONS) c_le c_lt), fun Hz sz => k Hz sz⟩
theorem free_of {H H1 : Hp} {D : Addr} (s : Same H H1) (h : H1 D = none) : H D = none := s.free h
theorem ok_ones (T : Txt K mg C) : DefOk P w K mg base "ones" ["number"] 2 (spR fun _ => R_ones) := by
  obtain ⟨fb, fdb, Fb, mb, kb, bb⟩ := (ok_bit (P := P) (w := w) (base := base) T).ex
  refine def_ok T.d_ones sc_ones (fun vs H Q E h => ?_) (fun f cdv A outer s H vs Q E hr h => ?_)
  · obtain ⟨v, hR, _⟩ := h; cases hR <;> rfl
  · obtain ⟨v, hR, k⟩ := h
    cases hR with
    | @mk number hpre =>
      refine ⟨_, pss_one (ps_ret (pe_callB (cr_sum rfl) rfl T.nb_sum PyProof.Rows.boot_sum (pa_cons (pe_lc (own := [("place", 1)]) rfl sc_ones.nd (pi_range1 rfl T.nb_range pa_ev) (blkOk_by (by show blkC ["number", "place"] (defScope s_ones) _ [("place", 1)] = true; decide +kernel))
        (fun _ _ _ _ _ => pg_name (i := 1) sc_ones.nd rfl (Or.inl rfl)) (fun _ _ _ _ _ => pts_nil) (fun _ _ _ _ _ => pe_call Fb (hr.mono (by decide)) rfl mb kb bb .nil pass0 (pa_cons (pe_var (i := 0) rfl (Or.inr (Or.inl rfl))) (pa_cons (pe_var (i := 1) rfl (Or.inl rfl)) pa_nil)))) pa_nil))), ?_⟩
      obtain ⟨nn, rfl⟩ : ∃ nn : Nat, number = (nn : Int) := ⟨number.toNat, by omega⟩
      have hb := Wo.intBits_le (x := nn) (k := 64) (by omega)
      refine ⟨_, Pas.cons (Pe.bitlen (Pe.var 0 rfl)) Pas.nil, fun H1 s1 => ⟨_, rfl, by omega, by omega, fun D hD => ?_⟩⟩
      have hD0 : H D = none := s1.free hD
      refine lc_range (fun i H' => Same H H' ∧ H' D = some (.lst ((List.range i).map fun j : Nat => V.int (Wm.bit (nn : Int) (0 + (j : Int)))))) ⟨s1.trans (same_new hD), upd_same⟩ ?_ ?_
      · rintro i H' hi ⟨sH, hl⟩
        refine ⟨rfl, ⟨_, rfl, _, rfl, _, R_bit.mk (by omega), fun H4 s4 => ⟨_, s4 _ _ hl, ?_, ?_, ?_⟩⟩⟩
        · rw [List.length_map, List.length_range]
          have : i < 64 := by
            have hi' : i < ((PySem.Builtin.Int.intBits ((nn : Nat) : Int) : Nat) : Int).toNat := hi
            omega
          exact Nat.lt_trans this (by decide)
        · intro b o e
          rw [upd_ne (ne_of_none e hD0)]
          exact s4 _ _ (sH _ _ e)
        · rw [upd_same, List.range_succ, List.map_append]
          rfl
      · rintro H' ⟨sH, hl⟩
        refine ⟨D, (List.range (PySem.Builtin.Int.intBits ((nn : Nat) : Int))).map fun j : Nat => Wm.bit (nn : Int) (0 + (j : Int)), rfl, SqL.of ?_, k H' sH⟩
        rw [List.map_map]
        exact hl
theorem ok_flags_of (T : Txt K mg C) : DefOk P w K mg base "flags_of" ["result", "width"] 3 (spR fun _ => R_flags_of) := by
  refine def_ok T.d_flags_of sc_flags_of (fun vs H Q E h => ?_) (fun f cdv A outer s H vs Q E hr h => ?_)
  · obtain ⟨v, hR, _⟩ := h; cases hR <;> rfl
  · obtain ⟨v, hR, k⟩ := h
    cases hR with
    | mk hpre =>
      refine ⟨_, (pss_one (ps_ret pe_ev)), ?_⟩
      exact ⟨_, (Pe.bin (Pe.bin (Pe.call (ok_when T) (hr.mono (by decide)) (Pas.cons (Pe.glob T.g_ZERO) (Pas.cons (Pe.cmp (Pe.var 0 rfl) Pe.int c_eq (nomark _)) Pas.nil)) (fun _ _ => R_when.mk)) (Pe.call (ok_when T) (hr.mono (by decide)) (Pas.cons (Pe.glob T.g_SIGN) (Pas.cons (Pe.cmp (Pe.call (ok_highest_bit T) (hr.mono (by decide)) (Pas.cons (Pe.var 0 rfl) (Pas.cons (Pe.var 1 rfl) Pas.nil)) (fun _ _ => R_highest_bit.mk (by walk_at "w"))) Pe.int c_eq (nomark _)) Pas.nil)) (fun _ _ => R_when.mk)) b_add) (Pe.call (ok_when T) (hr.mono (by decide)) (Pas.cons (Pe.glob T.g_PARITY) (Pas.cons (Pe.cmp (Pe.bin (Pe.call (ok_ones T) (hr.mono (by decide)) (Pas.cons (Pe.bin (Pe.var 0 rfl) Pe.int b_and255) Pas.nil) (fun _ _ => R_ones.mk (by walk_at "w"))) Pe.int (b_mod (by walk_at "w"))) Pe.int c_eq (nomark _)) Pas.nil)) (fun _ _ => R_when.mk)) b_add), fun Hz sz => k Hz sz⟩
theorem enough_at {z : Int} (h0 : 0 ≤ z) (h : z ≤ 5) : atI [V.int 2048, .int 1, .int 64, .int 65, .int 128, .int 4] z = some (.int (Wm.enough.getD z.toNat 0)) := by
  have : z = 0 ∨ z = 1 ∨ z = 2 ∨ z = 3 ∨ z = 4 ∨ z = 5 := by omega
  rcases this with rfl | rfl | rfl | rfl | rfl | rfl <;> rfl
theorem ok_even_condition_holds (T : Txt K mg C) : DefOk P w K mg base "even_condition_holds" ["flags", "condition"] 1 (spR fun _ => R_even_condition_holds) := by
  refine def_ok T.d_even_condition_holds sc_even_condition_holds (fun vs H Q E h => ?_) (fun f cdv A outer s H vs Q E hr h => ?_)
  · obtain ⟨v, hR, _⟩ := h; cases hR <;> rfl
  · obtain ⟨v, hR, k⟩ := h
    cases hR with
    | @mk flags condition hpre =>
      refine ⟨_, pss_cons (ps_if pt_ev (pss_one (ps_ret pe_ev)) pss_nil) (pss_cons (ps_set (i := 2) sc_even_condition_holds.nd rfl (Or.inl rfl) pe_ev) (pss_cons (ps_if pt_ev (pss_one (ps_ret pe_ev)) pss_nil) (pss_one (ps_ret pe_ev)))), ?_⟩
      refine ⟨_, (Pt.cmp (Pe.var 1 rfl) Pe.int c_lt (nomark _)), fun H1 s1 => ?_⟩
      unfold Wm.even_condition_holds at k
      cases h0 : decide (condition < 12) with
      | true =>
        rw [h0, if_pos rfl] at k
        have hc := of_decide_eq_true h0
        obtain ⟨a, ma, qa⟩ := T.q_ENOUGH
        refine iteT rfl ⟨_, Pe.cmp (Pe.bin (Pe.var 0 rfl) (Pe.itemT (Pe.glob ⟨_, ma, rfl⟩) (Pe.bin (Pe.var 1 rfl) Pe.int (b_fdiv (by decide))) (qa _) (enough_at (by omega) (by omega))) b_and) Pe.int c_ne (nomark _), fun Hz sz => k Hz (s1.trans sz)⟩
      | false =>
        rw [h0, if_neg Bool.false_ne_true] at k
        refine iteF rfl ⟨_, (Pe.cmp (Pe.cmp (Pe.bin (Pe.var 0 rfl) (Pe.glob T.g_SIGN) b_and) Pe.int c_ne (nomark _)) (Pe.cmp (Pe.bin (Pe.var 0 rfl) (Pe.glob T.g_OVERFLOW) b_and) Pe.int c_ne (nomark _)) c_neB (nomark _)), fun H2 s2 => ?_⟩
        refine ⟨_, (Pt.cmp (Pe.var 1 rfl) Pe.int c_eq (nomark _)), fun H3 s3 => ?_⟩
        cases h1 : decide (condition = 12) with
        | true =>
          rw [h1, if_pos rfl] at k
          exact iteT rfl ⟨_, Pe.var 2 rfl, fun Hz sz => k Hz (((s1.trans s2).trans s3).trans sz)⟩
        | false =>
          rw [h1, if_neg Bool.false_ne_true] at k
          exact iteF rfl ⟨_, (Pe.or (Pe.var 2 rfl) (fun hor => (Pe.one (Pe.cmp (Pe.bin (Pe.var 0 rfl) (Pe.glob T.g_ZERO) b_and) Pe.int c_ne (nomark _))))), fun Hz sz => k Hz (((s1.trans s2).trans s3).trans sz)⟩
theorem ok_condition_holds (T : Txt K mg C) : DefOk P w K mg base "condition_holds" ["flags", "condition"] 2 (spR fun _ => R_condition_holds) := by
  refine def_ok T.d_condition_holds sc_condition_holds (fun vs H Q E h => ?_) (fun f cdv A outer s H vs Q E hr h => ?_)
  · obtain ⟨v, hR, _⟩ := h; cases hR <;> rfl
  · obtain ⟨v, hR, k⟩ := h
    cases hR with
    | mk hpre =>
      refine ⟨_, (pss_cons (ps_set (i := 2) sc_condition_holds.nd rfl (Or.inl rfl) pe_ev) (pss_one (ps_ret pe_ev))), ?_⟩
      refine ⟨_, (Pe.bin (Pe.var 1 rfl) Pe.int (b_mod (by walk_at "w"))), fun H1 s1 => ?_⟩
      exact ⟨_, (Pe.cmp (Pe.call (ok_even_condition_holds T) (hr.mono (by decide)) (Pas.cons (Pe.var 0 rfl) (Pas.cons (Pe.bin (Pe.var 1 rfl) (Pe.var 2 rfl) b_sub) Pas.nil)) (fun _ _ => R_even_condition_holds.mk (by walk_at "w"))) (Pe.cmp (Pe.var 2 rfl) Pe.int c_eq (nomark _)) c_neB (nomark _)), fun Hz sz => k Hz (s1.trans sz)⟩
theorem ok_fits_with_sign (T : Txt K mg C) : DefOk P w K mg base "fits_with_sign" ["number", "width"] 4 (spR fun _ => R_fits_with_sign) := by
  refine def_ok T.d_fits_with_sign sc_fits_with_sign (fun vs H Q E h => ?_) (fun f cdv A outer s H vs Q E hr h => ?_)
  · obtain ⟨v, hR, _⟩ := h; cases hR <;> rfl
  · obtain ⟨v, hR, k⟩ := h
    cases hR with
    | mk hpre =>
      refine ⟨_, (pss_one (ps_ret pe_ev)), ?_⟩
      exact ⟨_, (Pe.cmp (Pe.call (ok_signed T) (hr.mono (by decide)) (Pas.cons (Pe.call (ok_cut T) (hr.mono (by decide)) (Pas.cons (Pe.var 0 rfl) (Pas.cons (Pe.var 1 rfl) Pas.nil)) (fun _ _ => R_cut.mk (by walk_at "w"))) (Pas.cons (Pe.var 1 rfl) Pas.nil)) (fun _ _ => R_signed.mk (by walk_at "w"))) (Pe.var 0 rfl) c_eq (nomark _)), fun Hz sz => k Hz sz⟩
theorem ok_sum_flags (T : Txt K mg C) : DefOk P w K mg base "sum_flags" ["x", "y", "carry", "width"] 5 (spR fun _ => R_sum_flags) := by
  refine def_ok T.d_sum_flags sc_sum_flags (fun vs H Q E h => ?_) (fun f cdv A outer s H vs Q E hr h => ?_)
  · obtain ⟨v, hR, _⟩ := h; cases hR <;> rfl
  · obtain ⟨v, hR, k⟩ := h
    cases hR with
    | mk hpre =>
      refine ⟨_, (pss_cons (ps_set (i := 4) sc_sum_flags.nd rfl (Or.inl rfl) pe_ev) (pss_cons (ps_set (i := 5) sc_sum_flags.nd rfl (Or.inl rfl) pe_ev) (pss_one (ps_ret pe_ev)))), ?_⟩
      refine ⟨_, (Pe.bin (Pe.bin (Pe.var 0 rfl) (Pe.var 1 rfl) b_add) (Pe.var 2 rfl) b_add), fun H1 s1 => ?_⟩
      refine ⟨_, (Pe.bin (Pe.bin (Pe.call (ok_signed T) (hr.mono (by decide)) (Pas.cons (Pe.var 0 rfl) (Pas.cons (Pe.var 3 rfl) Pas.nil)) (fun _ _ => R_signed.mk (by walk_at "w"))) (Pe.call (ok_signed T) (hr.mono (by decide)) (Pas.cons (Pe.var 1 rfl) (Pas.cons (Pe.var 3 rfl) Pas.nil)) (fun _ _ => R_signed.mk (by walk_at "w"))) b_add) (Pe.var 2 rfl) b_add), fun H2 s2 => ?_⟩
      exact ⟨_, (Pe.bin (Pe.bin (Pe.bin (Pe.call (ok_flags_of T) (hr.mono (by decide)) (Pas.cons (Pe.call (ok_cut T) (hr.mono (by decide)) (Pas.cons (Pe.var 4 rfl) (Pas.cons (Pe.var 3 rfl) Pas.nil)) (fun _ _ => R_cut.mk (by walk_at "w"))) (Pas.cons (Pe.var 3 rfl) Pas.nil)) (fun _ _ => R_flags_of.mk (by walk_at "w"))) (Pe.call (ok_when T) (hr.mono (by decide)) (Pas.cons (Pe.glob T.g_CARRY) (Pas.cons (Pe.cmp (Pe.var 4 rfl) (Pe.call (ok_cut T) (hr.mono (by decide)) (Pas.cons (Pe.var 4 rfl) (Pas.cons (Pe.var 3 rfl) Pas.nil)) (fun _ _ => R_cut.mk (by walk_at "w"))) c_ne (nomark _)) Pas.nil)) (fun _ _ => R_when.mk)) b_add) (Pe.call (ok_when T) (hr.mono (by decide)) (Pas.cons (Pe.glob T.g_HALF_CARRY) (Pas.cons (Pe.cmp (Pe.bin (Pe.bin (Pe.call (ok_cut T) (hr.mono (by decide)) (Pas.cons (Pe.var 0 rfl) (Pas.cons Pe.int Pas.nil)) (fun _ _ => R_cut.mk (by walk_at "w"))) (Pe.call (ok_cut T) (hr.mono (by decide)) (Pas.cons (Pe.var 1 rfl) (Pas.cons Pe.int Pas.nil)) (fun _ _ => R_cut.mk (by walk_at "w"))) b_add) (Pe.var 2 rfl) b_add) Pe.int c_gt (nomark _)) Pas.nil)) (fun _ _ => R_when.mk)) b_add) (Pe.call (ok_when T) (hr.mono (by decide)) (Pas.cons (Pe.glob T.g_OVERFLOW) (Pas.cons (Pe.not (Pe.call (ok_fits_with_sign T) (hr.mono (by decide)) (Pas.cons (Pe.var 5 rfl) (Pas.cons (Pe.var 3 rfl) Pas.nil)) (fun _ _ => R_fits_with_sign.mk (by walk_at "w")))) Pas.nil)) (fun _ _ => R_when.mk)) b_add), fun Hz sz => k Hz ((s1.trans s2).trans sz)⟩
theorem ok_difference_flags (T : Txt K mg C) : DefOk P w K mg base "difference_flags" ["x", "y", "borrow", "width"] 5 (spR fun _ => R_difference_flags) := by
  refine def_ok T.d_difference_flags sc_difference_flags (fun vs H Q E h => ?_) (fun f cdv A outer s H vs Q E hr h => ?_)
  · obtain ⟨v, hR, _⟩ := h; cases hR <;> rfl
  · obtain ⟨v, hR, k⟩ := h
    cases hR with
    | mk hpre =>
      refine ⟨_, (pss_cons (ps_set (i := 4) sc_difference_flags.nd rfl (Or.inl rfl) pe_ev) (pss_cons (ps_set (i := 5) sc_difference_flags.nd rfl (Or.inl rfl) pe_ev) (pss_one (ps_ret pe_ev)))), ?_⟩
      refine ⟨_, (Pe.bin (Pe.bin (Pe.var 0 rfl) (Pe.var 1 rfl) b_sub) (Pe.var 2 rfl) b_sub), fun H1 s1 => ?_⟩
      refine ⟨_, (Pe.bin (Pe.bin (Pe.call (ok_signed T) (hr.mono (by decide)) (Pas.cons (Pe.var 0 rfl) (Pas.cons (Pe.var 3 rfl) Pas.nil)) (fun _ _ => R_signed.mk (by walk_at "w"))) (Pe.call (ok_signed T) (hr.mono (by decide)) (Pas.cons (Pe.var 1 rfl) (Pas.cons (Pe.var 3 rfl) Pas.nil)) (fun _ _ => R_signed.mk (by walk_at "w"))) b_sub) (Pe.var 2 rfl) b_sub), fun H2 s2 => ?_⟩
      exact ⟨_, (Pe.bin (Pe.bin (Pe.bin (Pe.call (ok_flags_of T) (hr.mono (by decide)) (Pas.cons (Pe.call (ok_cut T) (hr.mono (by decide)) (Pas.cons (Pe.var 4 rfl) (Pas.cons (Pe.var 3 rfl) Pas.nil)) (fun _ _ => R_cut.mk (by walk_at "w"))) (Pas.cons (Pe.var 3 rfl) Pas.nil)) (fun _ _ => R_flags_of.mk (by walk_at "w"))) (Pe.call (ok_when T) (hr.mono (by decide)) (Pas.cons (Pe.glob T.g_CARRY) (Pas.cons (Pe.cmp (Pe.var 4 rfl) Pe.int c_lt (nomark _)) Pas.nil)) (fun _ _ => R_when.mk)) b_add) (Pe.call (ok_when T) (hr.mono (by decide)) (Pas.cons (Pe.glob T.g_HALF_CARRY) (Pas.cons (Pe.cmp (Pe.bin (Pe.bin (Pe.call (ok_cut T) (hr.mono (by decide)) (Pas.cons (Pe.var 0 rfl) (Pas.cons Pe.int Pas.nil)) (fun _ _ => R_cut.mk (by walk_at "w"))) (Pe.call (ok_cut T) (hr.mono (by decide)) (Pas.cons (Pe.var 1 rfl) (Pas.cons Pe.int Pas.nil)) (fun _ _ => R_cut.mk (by walk_at "w"))) b_sub) (Pe.var 2 rfl) b_sub) Pe.int c_lt (nomark _)) Pas.nil)) (fun _ _ => R_when.mk)) b_add) (Pe.call (ok_when T) (hr.mono (by decide)) (Pas.cons (Pe.glob T.g_OVERFLOW) (Pas.cons (Pe.not (Pe.call (ok_fits_with_sign T) (hr.mono (by decide)) (Pas.cons (Pe.var 5 rfl) (Pas.cons (Pe.var 3 rfl) Pas.nil)) (fun _ _ => R_fits_with_sign.mk (by walk_at "w")))) Pas.nil)) (fun _ _ => R_when.mk)) b_add), fun Hz sz => k Hz ((s1.trans s2).trans sz)⟩
end
end We
end

section
set_option Elab.async false
set_option linter.all false
set_option maxRecDepth 100000
set_option maxHeartbeats 4000000
namespace We
open PySem PySem.Spec PyProof.Rows L2
/-! side conditions -/
def Small (x w : Int) : Prop := 0 ≤ x ∧ x < 2 ^ w.toNat
theorem Small.lt64 {x w : Int} (h : Small x w) (hw : w ≤ 64) : 0 ≤ x ∧ x < 2 ^ 64 := ⟨h.1, Int.lt_of_lt_of_le h.2 (pow_le hw)⟩
theorem md0 {n w : Int} (h : 0 < w) : 0 ≤ n % w := Int.emod_nonneg _ (by omega)
theorem md1 {n w : Int} (h : 0 < w) (h2 : w ≤ 1000) : n % w ≤ 1000 := by have := Int.emod_lt_of_pos n h; omega
section
variable {B : Prop} {x y k width flags : Int}
theorem sm_x (h : (2 ≤ width ∧ width ≤ 64) ∧ B ∧ Small x width ∧ Small y width) : x.natAbs < 2 ^ 100 := by have := h.2.2.1.lt64 h.1.2; omega
theorem sm_y (h : (2 ≤ width ∧ width ≤ 64) ∧ B ∧ Small x width ∧ Small y width) : y.natAbs < 2 ^ 100 := by have := h.2.2.2.lt64 h.1.2; omega
theorem tl1 (h : (2 ≤ width ∧ width ≤ 64) ∧ B ∧ Small x width ∧ Small y width) : (0 ≤ x ∧ x < 2 ^ 65) ∧ (0 ≤ k % width ∧ k % width ≤ width) ∧ width ≤ 1000 := by
  have h1 := h.2.2.1.lt64 h.1.2
  have h2 := Int.emod_nonneg k (show width ≠ 0 by omega)
  have h3 := Int.emod_lt_of_pos k (show 0 < width by omega)
  omega
theorem tl2 (h : (2 ≤ width ∧ width ≤ 64) ∧ B ∧ Small x width ∧ Small y width) : (0 ≤ x ∧ x < 2 ^ 65) ∧ (0 ≤ width - k % width ∧ width - k % width ≤ width) ∧ width ≤ 1000 := by
  have h1 := h.2.2.1.lt64 h.1.2
  have h2 := Int.emod_nonneg k (show width ≠ 0 by omega)
  have h3 := Int.emod_lt_of_pos k (show 0 < width by omega)
  omega
theorem wc_ok (h : Small x width) (hw : width ≤ 64) : 0 ≤ x + flags % 2 * 2 ^ width.toNat ∧ x + flags % 2 * 2 ^ width.toNat < 2 ^ 65 := by
  have h1 := h.lt64 hw
  have h2 := pow_le hw
  have h3 := pow_pos width.toNat
  have h4 : flags % 2 = 0 ∨ flags % 2 = 1 := by omega
  rcases h4 with e | e <;> rw [e] <;> omega
theorem tl3 (h : (2 ≤ width ∧ width ≤ 64) ∧ B ∧ Small x width ∧ Small y width) : (0 ≤ x + flags % 2 * 2 ^ width.toNat ∧ x + flags % 2 * 2 ^ width.toNat < 2 ^ 65) ∧ (0 ≤ k % (width + 1) ∧ k % (width + 1) ≤ width + 1) ∧ width + 1 ≤ 1000 := by
  refine ⟨wc_ok h.2.2.1 h.1.2, ?_⟩
  have h2 := Int.emod_nonneg k (show width + 1 ≠ 0 by omega)
  have h3 := Int.emod_lt_of_pos k (show 0 < width + 1 by omega)
  omega
theorem tl4 (h : (2 ≤ width ∧ width ≤ 64) ∧ B ∧ Small x width ∧ Small y width) : (0 ≤ x + flags % 2 * 2 ^ width.toNat ∧ x + flags % 2 * 2 ^ width.toNat < 2 ^ 65) ∧ (0 ≤ width + 1 - k % (width + 1) ∧ width + 1 - k % (width + 1) ≤ width + 1) ∧ width + 1 ≤ 1000 := by
  refine ⟨wc_ok h.2.2.1 h.1.2, ?_⟩
  have h2 := Int.emod_nonneg k (show width + 1 ≠ 0 by omega)
  have h3 := Int.emod_lt_of_pos k (show 0 < width + 1 by omega)
  omega
theorem ab_ok {divisor : Int} (h : divisor ≠ 0 ∧ -(2 ^ 65) < divisor ∧ divisor < 2 ^ 65) : 0 < (if divisor < 0 then -divisor else divisor) ∧ (if divisor < 0 then -divisor else divisor) < 2 ^ 200 := by
  split <;> omega
end
theorem ref_inj {mg : Str → Option Value} {n : Str} {f g : Addr} (a : mg n = some (.ref f)) (b : mg n = some (.ref g)) : f = g := by
  have e := a.symm.trans b
  injection e with e
  injection e
end We
end

section
set_option Elab.async false
set_option linter.all false
set_option maxRecDepth 100000
set_option maxHeartbeats 4000000
namespace We
open PySem PySem.Spec PyProof.Rows L2
local macro_rules | `(tactic| walk_at "w") => `(tactic| first | omega | assumption | exact hb_small _ _ | exact pow_pos _ | exact md0 (by omega) | exact md1 (by omega) (by omega) | exact sm_x (by assumption) | exact sm_y (by assumption) | exact tl1 (by assumption) | exact tl2 (by assumption) | exact tl3 (by assumption) | exact tl4 (by assumption) | exact ab_ok (by assumption) | (refine ⟨by omega, ?_⟩; omega))
inductive R_move : List V → V → V → Prop
  | mk {x : Int} {y : Int} {flags : Int} {width : Int} : R_move [.int x, .int y, .int flags, .int width] (.int (y)) (.int (flags))
inductive R_add : List V → V → V → Prop
  | mk {x : Int} {y : Int} {flags : Int} {width : Int} (hpre : 1 ≤ width ∧ width ≤ 1000) : R_add [.int x, .int y, .int flags, .int width] (.int ((x + y))) (.int ((Wm.sum_flags (x) (y) (0) (width))))
inductive R_add_with_carry : List V → V → V → Prop
  | mk {x : Int} {y : Int} {flags : Int} {width : Int} (hpre : 1 ≤ width ∧ width ≤ 1000) : R_add_with_carry [.int x, .int y, .int flags, .int width] (.int (((x + y) + (flags % 2)))) (.int ((Wm.sum_flags (x) (y) ((flags % 2)) (width))))
inductive R_subtract : List V → V → V → Prop
  | mk {x : Int} {y : Int} {flags : Int} {width : Int} (hpre : 1 ≤ width ∧ width ≤ 1000) : R_subtract [.int x, .int y, .int flags, .int width] (.int ((x - y))) (.int ((Wm.difference_flags (x) (y) (0) (width))))
inductive R_subtract_with_borrow : List V → V → V → Prop
  | mk {x : Int} {y : Int} {flags : Int} {width : Int} (hpre : 1 ≤ width ∧ width ≤ 1000) : R_subtract_with_borrow [.int x, .int y, .int flags, .int width] (.int (((x - y) - (flags % 2)))) (.int ((Wm.difference_flags (x) (y) ((flags % 2)) (width))))
inductive R_compare : List V → V → V → Prop
  | mk {x : Int} {y : Int} {flags : Int} {width : Int} (hpre : 1 ≤ width ∧ width ≤ 1000) : R_compare [.int x, .int y, .int flags, .int width] .non (.int ((Wm.difference_flags (x) (y) (0) (width))))
inductive R_bits_of_both : List V → V → V → Prop
  | mk {x : Int} {y : Int} {flags : Int} {width : Int} (hpre : 1 ≤ width ∧ width ≤ 1000) : R_bits_of_both [.int x, .int y, .int flags, .int width] (.int ((Builtin.bitAnd (x) (y)))) (.int ((Wm.flags_of ((Builtin.bitAnd (x) (y))) (width))))
inductive R_bits_of_either : List V → V → V → Prop
  | mk {x : Int} {y : Int} {flags : Int} {width : Int} (hpre : 1 ≤ width ∧ width ≤ 1000) : R_bits_of_either [.int x, .int y, .int flags, .int width] (.int ((Builtin.bitOr (x) (y)))) (.int ((Wm.flags_of ((Builtin.bitOr (x) (y))) (width))))
inductive R_bits_of_one_alone : List V → V → V → Prop
  | mk {x : Int} {y : Int} {flags : Int} {width : Int} (hpre : 1 ≤ width ∧ width ≤ 1000) : R_bits_of_one_alone [.int x, .int y, .int flags, .int width] (.int ((Builtin.bitXor (x) (y)))) (.int ((Wm.flags_of ((Builtin.bitXor (x) (y))) (width))))
inductive R_bits_of_both_asked : List V → V → V → Prop
  | mk {x : Int} {y : Int} {flags : Int} {width : Int} (hpre : 1 ≤ width ∧ width ≤ 1000) : R_bits_of_both_asked [.int x, .int y, .int flags, .int width] .non (.int ((Wm.flags_of ((Builtin.bitAnd (x) (y))) (width))))
inductive R_one_more : List V → V → V → Prop
  | mk {x : Int} {y : Int} {flags : Int} {width : Int} (hpre : 1 ≤ width ∧ width ≤ 1000) : R_one_more [.int x, .int y, .int flags, .int width] (.int ((x + 1))) (.int ((Wm.replaced ((Wm.sum_flags (x) (1) (0) (width))) (1) ((flags % 2)))))
inductive R_one_less : List V → V → V → Prop
  | mk {x : Int} {y : Int} {flags : Int} {width : Int} (hpre : 1 ≤ width ∧ width ≤ 1000) : R_one_less [.int x, .int y, .int flags, .int width] (.int ((x - 1))) (.int ((Wm.replaced ((Wm.difference_flags (x) (1) (0) (width))) (1) ((flags % 2)))))
inductive R_negate : List V → V → V → Prop
  | mk {x : Int} {y : Int} {flags : Int} {width : Int} (hpre : 1 ≤ width ∧ width ≤ 1000) : R_negate [.int x, .int y, .int flags, .int width] (.int ((-x))) (.int ((Wm.difference_flags (0) (x) (0) (width))))
inductive R_opposite_bits : List V → V → V → Prop
  | mk {x : Int} {y : Int} {flags : Int} {width : Int} : R_opposite_bits [.int x, .int y, .int flags, .int width] (.int ((Builtin.bitNot (x)))) (.int (flags))
inductive R_computed : List V → V → V → Prop
  | k0 {x y flags width : Int} {a b : V} (h : R_move [.int (x), .int (y), .int (flags), .int (width)] a b) : R_computed [.int 0, .int x, .int y, .int flags, .int width] a b
  | k1 {x y flags width : Int} {a b : V} (h : R_add [.int (x), .int (y), .int (flags), .int (width)] a b) : R_computed [.int 1, .int x, .int y, .int flags, .int width] a b
  | k2 {x y flags width : Int} {a b : V} (h : R_add_with_carry [.int (x), .int (y), .int (flags), .int (width)] a b) : R_computed [.int 2, .int x, .int y, .int flags, .int width] a b
  | k3 {x y flags width : Int} {a b : V} (h : R_subtract [.int (x), .int (y), .int (flags), .int (width)] a b) : R_computed [.int 3, .int x, .int y, .int flags, .int width] a b
  | k4 {x y flags width : Int} {a b : V} (h : R_subtract_with_borrow [.int (x), .int (y), .int (flags), .int (width)] a b) : R_computed [.int 4, .int x, .int y, .int flags, .int width] a b
  | k5 {x y flags width : Int} {a b : V} (h : R_compare [.int (x), .int (y), .int (flags), .int (width)] a b) : R_computed [.int 5, .int x, .int y, .int flags, .int width] a b
  | k6 {x y flags width : Int} {a b : V} (h : R_bits_of_both [.int (x), .int (y), .int (flags), .int (width)] a b) : R_computed [.int 6, .int x, .int y, .int flags, .int width] a b
  | k7 {x y flags width : Int} {a b : V} (h : R_bits_of_either [.int (x), .int (y), .int (flags), .int (width)] a b) : R_computed [.int 7, .int x, .int y, .int flags, .int width] a b
  | k8 {x y flags width : Int} {a b : V} (h : R_bits_of_one_alone [.int (x), .int (y), .int (flags), .int (width)] a b) : R_computed [.int 8, .int x, .int y, .int flags, .int width] a b
  | k9 {x y flags width : Int} {a b : V} (h : R_bits_of_both_asked [.int (x), .int (y), .int (flags), .int (width)] a b) : R_computed [.int 9, .int x, .int y, .int flags, .int width] a b
  | k10 {x y flags width : Int} {a b : V} (h : R_one_more [.int (x), .int (y), .int (flags), .int (width)] a b) : R_computed [.int 10, .int x, .int y, .int flags, .int width] a b
  | k11 {x y flags width : Int} {a b : V} (h : R_one_less [.int (x), .int (y), .int (flags), .int (width)] a b) : R_computed [.int 11, .int x, .int y, .int flags, .int width] a b
  | k12 {x y flags width : Int} {a b : V} (h : R_negate [.int (x), .int (y), .int (flags), .int (width)] a b) : R_computed [.int 12, .int x, .int y, .int flags, .int width] a b
  | k13 {x y flags width : Int} {a b : V} (h : R_opposite_bits [.int (x), .int (y), .int (flags), .int (width)] a b) : R_computed [.int 13, .int x, .int y, .int flags, .int width] a b
section
variable {P : Program} {w : World} {K : PySem.W.Frag} {mg : Str → Option Value} {base : Heap} {C : Addr}
theorem ok_move (T : Txt K mg C) : DefOk P w K mg base "move" ["x", "y", "flags", "width"] 1 (spO R_move) := by
  refine def_ok T.d_move sc_move (fun vs H Q E h => ?_) (fun f cdv A outer s H vs Q E hr h => ?_)
  · obtain ⟨a, b, hR, _⟩ := h; cases hR <;> rfl
  · obtain ⟨a, b, hR, k⟩ := h
    cases hR with
    | mk =>
      refine ⟨_, (pss_one (ps_ret (pe_tup pa_ev))), ?_⟩
      exact ⟨_, (Pas.cons (Pe.var 1 rfl) (Pas.cons (Pe.var 2 rfl) Pas.nil)), fun Hz sz => ⟨by show 2 ≤ sizeLine; decide, fun p hp => k _ p ((sz.trans (same_new hp))) upd_same⟩⟩
theorem ok_add (T : Txt K mg C) : DefOk P w K mg base "add" ["x", "y", "flags", "width"] 6 (spO R_add) := by
  refine def_ok T.d_add sc_add (fun vs H Q E h => ?_) (fun f cdv A outer s H vs Q E hr h => ?_)
  · obtain ⟨a, b, hR, _⟩ := h; cases hR <;> rfl
  · obtain ⟨a, b, hR, k⟩ := h
    cases hR with
    | mk hpre =>
      refine ⟨_, (pss_one (ps_ret (pe_tup pa_ev))), ?_⟩
      exact ⟨_, (Pas.cons (Pe.bin (Pe.var 0 rfl) (Pe.var 1 rfl) b_add) (Pas.cons (Pe.call (ok_sum_flags T) (hr.mono (by decide)) (Pas.cons (Pe.var 0 rfl) (Pas.cons (Pe.var 1 rfl) (Pas.cons Pe.int (Pas.cons (Pe.var 3 rfl) Pas.nil)))) (fun _ _ => R_sum_flags.mk (by walk_at "w"))) Pas.nil)), fun Hz sz => ⟨by show 2 ≤ sizeLine; decide, fun p hp => k _ p ((sz.trans (same_new hp))) upd_same⟩⟩
theorem ok_add_with_carry (T : Txt K mg C) : DefOk P w K mg base "add_with_carry" ["x", "y", "flags", "width"] 6 (spO R_add_with_carry) := by
  refine def_ok T.d_add_with_carry sc_add_with_carry (fun vs H Q E h => ?_) (fun f cdv A outer s H vs Q E hr h => ?_)
  · obtain ⟨a, b, hR, _⟩ := h; cases hR <;> rfl
  · obtain ⟨a, b, hR, k⟩ := h
    cases hR with
    | mk hpre =>
      refine ⟨_, (pss_cons (ps_set (i := 4) sc_add_with_carry.nd rfl (Or.inl rfl) pe_ev) (pss_one (ps_ret (pe_tup pa_ev)))), ?_⟩
      refine ⟨_, (Pe.bin (Pe.var 2 rfl) (Pe.glob T.g_CARRY) b_and1), fun H1 s1 => ?_⟩
      exact ⟨_, (Pas.cons (Pe.bin (Pe.bin (Pe.var 0 rfl) (Pe.var 1 rfl) b_add) (Pe.var 4 rfl) b_add) (Pas.cons (Pe.call (ok_sum_flags T) (hr.mono (by decide)) (Pas.cons (Pe.var 0 rfl) (Pas.cons (Pe.var 1 rfl) (Pas.cons (Pe.var 4 rfl) (Pas.cons (Pe.var 3 rfl) Pas.nil)))) (fun _ _ => R_sum_flags.mk (by walk_at "w"))) Pas.nil)), fun Hz sz => ⟨by show 2 ≤ sizeLine; decide, fun p hp => k _ p ((s1.trans (sz.trans (same_new hp)))) upd_same⟩⟩
theorem ok_subtract (T : Txt K mg C) : DefOk P w K mg base "subtract" ["x", "y", "flags", "width"] 6 (spO R_subtract) := by
  refine def_ok T.d_subtract sc_subtract (fun vs H Q E h => ?_) (fun f cdv A outer s H vs Q E hr h => ?_)
  · obtain ⟨a, b, hR, _⟩ := h; cases hR <;> rfl
  · obtain ⟨a, b, hR, k⟩ := h
    cases hR with
    | mk hpre =>
      refine ⟨_, (pss_one (ps_ret (pe_tup pa_ev))), ?_⟩
      exact ⟨_, (Pas.cons (Pe.bin (Pe.var 0 rfl) (Pe.var 1 rfl) b_sub) (Pas.cons (Pe.call (ok_difference_flags T) (hr.mono (by decide)) (Pas.cons (Pe.var 0 rfl) (Pas.cons (Pe.var 1 rfl) (Pas.cons Pe.int (Pas.cons (Pe.var 3 rfl) Pas.nil)))) (fun _ _ => R_difference_flags.mk (by walk_at "w"))) Pas.nil)), fun Hz sz => ⟨by show 2 ≤ sizeLine; decide, fun p hp => k _ p ((sz.trans (same_new hp))) upd_same⟩⟩
theorem ok_subtract_with_borrow (T : Txt K mg C) : DefOk P w K mg base "subtract_with_borrow" ["x", "y", "flags", "width"] 6 (spO R_subtract_with_borrow) := by
  refine def_ok T.d_subtract_with_borrow sc_subtract_with_borrow (fun vs H Q E h => ?_) (fun f cdv A outer s H vs Q E hr h => ?_)
  · obtain ⟨a, b, hR, _⟩ := h; cases hR <;> rfl
  · obtain ⟨a, b, hR, k⟩ := h
    cases hR with
    | mk hpre =>
      refine ⟨_, (pss_cons (ps_set (i := 4) sc_subtract_with_borrow.nd rfl (Or.inl rfl) pe_ev) (pss_one (ps_ret (pe_tup pa_ev)))), ?_⟩
      refine ⟨_, (Pe.bin (Pe.var 2 rfl) (Pe.glob T.g_CARRY) b_and1), fun H1 s1 => ?_⟩
      exact ⟨_, (Pas.cons (Pe.bin (Pe.bin (Pe.var 0 rfl) (Pe.var 1 rfl) b_sub) (Pe.var 4 rfl) b_sub) (Pas.cons (Pe.call (ok_difference_flags T) (hr.mono (by decide)) (Pas.cons (Pe.var 0 rfl) (Pas.cons (Pe.var 1 rfl) (Pas.cons (Pe.var 4 rfl) (Pas.cons (Pe.var 3 rfl) Pas.nil)))) (fun _ _ => R_difference_flags.mk (by walk_at "w"))) Pas.nil)), fun Hz sz => ⟨by show 2 ≤ sizeLine; decide, fun p hp => k _ p ((s1.trans (sz.trans (same_new hp)))) upd_same⟩⟩
theorem ok_compare (T : Txt K mg C) : DefOk P w K mg base "compare" ["x", "y", "flags", "width"] 6 (spO R_compare) := by
  refine def_ok T.d_compare sc_compare (fun vs H Q E h => ?_) (fun f cdv A outer s H vs Q E hr h => ?_)
  · obtain ⟨a, b, hR, _⟩ := h; cases hR <;> rfl
  · obtain ⟨a, b, hR, k⟩ := h
    cases hR with
    | mk hpre =>
      refine ⟨_, (pss_one (ps_ret (pe_tup pa_ev))), ?_⟩
      exact ⟨_, (Pas.cons Pe.non (Pas.cons (Pe.call (ok_difference_flags T) (hr.mono (by decide)) (Pas.cons (Pe.var 0 rfl) (Pas.cons (Pe.var 1 rfl) (Pas.cons Pe.int (Pas.cons (Pe.var 3 rfl) Pas.nil)))) (fun _ _ => R_difference_flags.mk (by walk_at "w"))) Pas.nil)), fun Hz sz => ⟨by show 2 ≤ sizeLine; decide, fun p hp => k _ p ((sz.trans (same_new hp))) upd_same⟩⟩
theorem ok_bits_of_both (T : Txt K mg C) : DefOk P w K mg base "bits_of_both" ["x", "y", "flags", "width"] 4 (spO R_bits_of_both) := by
  refine def_ok T.d_bits_of_both sc_bits_of_both (fun vs H Q E h => ?_) (fun f cdv A outer s H vs Q E hr h => ?_)
  · obtain ⟨a, b, hR, _⟩ := h; cases hR <;> rfl
  · obtain ⟨a, b, hR, k⟩ := h
    cases hR with
    | mk hpre =>
      refine ⟨_, (pss_one (ps_ret (pe_tup pa_ev))), ?_⟩
      exact ⟨_, (Pas.cons (Pe.bin (Pe.var 0 rfl) (Pe.var 1 rfl) b_and) (Pas.cons (Pe.call (ok_flags_of T) (hr.mono (by decide)) (Pas.cons (Pe.bin (Pe.var 0 rfl) (Pe.var 1 rfl) b_and) (Pas.cons (Pe.var 3 rfl) Pas.nil)) (fun _ _ => R_flags_of.mk (by walk_at "w"))) Pas.nil)), fun Hz sz => ⟨by show 2 ≤ sizeLine; decide, fun p hp => k _ p ((sz.trans (same_new hp))) upd_same⟩⟩
theorem ok_bits_of_either (T : Txt K mg C) : DefOk P w K mg base "bits_of_either" ["x", "y", "flags", "width"] 4 (spO R_bits_of_either) := by
  refine def_ok T.d_bits_of_either sc_bits_of_either (fun vs H Q E h => ?_) (fun f cdv A outer s H vs Q E hr h => ?_)
  · obtain ⟨a, b, hR, _⟩ := h; cases hR <;> rfl
  · obtain ⟨a, b, hR, k⟩ := h
    cases hR with
    | mk hpre =>
      refine ⟨_, (pss_one (ps_ret (pe_tup pa_ev))), ?_⟩
      exact ⟨_, (Pas.cons (Pe.bin (Pe.var 0 rfl) (Pe.var 1 rfl) b_or) (Pas.cons (Pe.call (ok_flags_of T) (hr.mono (by decide)) (Pas.cons (Pe.bin (Pe.var 0 rfl) (Pe.var 1 rfl) b_or) (Pas.cons (Pe.var 3 rfl) Pas.nil)) (fun _ _ => R_flags_of.mk (by walk_at "w"))) Pas.nil)), fun Hz sz => ⟨by show 2 ≤ sizeLine; decide, fun p hp => k _ p ((sz.trans (same_new hp))) upd_same⟩⟩
theorem ok_bits_of_one_alone (T : Txt K mg C) : DefOk P w K mg base "bits_of_one_alone" ["x", "y", "flags", "width"] 4 (spO R_bits_of_one_alone) := by
  refine def_ok T.d_bits_of_one_alone sc_bits_of_one_alone (fun vs H Q E h => ?_) (fun f cdv A outer s H vs Q E hr h => ?_)
  · obtain ⟨a, b, hR, _⟩ := h; cases hR <;> rfl
  · obtain ⟨a, b, hR, k⟩ := h
    cases hR with
    | mk hpre =>
      refine ⟨_, (pss_one (ps_ret (pe_tup pa_ev))), ?_⟩
      exact ⟨_, (Pas.cons (Pe.bin (Pe.var 0 rfl) (Pe.var 1 rfl) b_xor) (Pas.cons (Pe.call (ok_flags_of T) (hr.mono (by decide)) (Pas.cons (Pe.bin (Pe.var 0 rfl) (Pe.var 1 rfl) b_xor) (Pas.cons (Pe.var 3 rfl) Pas.nil)) (fun _ _ => R_flags_of.mk (by walk_at "w"))) Pas.nil)), fun Hz sz => ⟨by show 2 ≤ sizeLine; decide, fun p hp => k _ p ((sz.trans (same_new hp))) upd_same⟩⟩
theorem ok_bits_of_both_asked (T : Txt K mg C) : DefOk P w K mg base "bits_of_both_asked" ["x", "y", "flags", "width"] 4 (spO R_bits_of_both_asked) := by
  refine def_ok T.d_bits_of_both_asked sc_bits_of_both_asked (fun vs H Q E h => ?_) (fun f cdv A outer s H vs Q E hr h => ?_)
  · obtain ⟨a, b, hR, _⟩ := h; cases hR <;> rfl
  · obtain ⟨a, b, hR, k⟩ := h
    cases hR with
    | mk hpre =>
      refine ⟨_, (pss_one (ps_ret (pe_tup pa_ev))), ?_⟩
      exact ⟨_, (Pas.cons Pe.non (Pas.cons (Pe.call (ok_flags_of T) (hr.mono (by decide)) (Pas.cons (Pe.bin (Pe.var 0 rfl) (Pe.var 1 rfl) b_and) (Pas.cons (Pe.var 3 rfl) Pas.nil)) (fun _ _ => R_flags_of.mk (by walk_at "w"))) Pas.nil)), fun Hz sz => ⟨by show 2 ≤ sizeLine; decide, fun p hp => k _ p ((sz.trans (same_new hp))) upd_same⟩⟩
theorem ok_one_more (T : Txt K mg C) : DefOk P w K mg base "one_more" ["x", "y", "flags", "width"] 6 (spO R_one_more) := by
  refine def_ok T.d_one_more sc_one_more (fun vs H Q E h => ?_) (fun f cdv A outer s H vs Q E hr h => ?_)
  · obtain ⟨a, b, hR, _⟩ := h; cases hR <;> rfl
  · obtain ⟨a, b, hR, k⟩ := h
    cases hR with
    | mk hpre =>
      refine ⟨_, (pss_one (ps_ret (pe_tup pa_ev))), ?_⟩
      exact ⟨_, (Pas.cons (Pe.bin (Pe.var 0 rfl) Pe.int b_add) (Pas.cons (Pe.call (ok_replaced T) (hr.mono (by decide)) (Pas.cons (Pe.call (ok_sum_flags T) (hr.mono (by decide)) (Pas.cons (Pe.var 0 rfl) (Pas.cons Pe.int (Pas.cons Pe.int (Pas.cons (Pe.var 3 rfl) Pas.nil)))) (fun _ _ => R_sum_flags.mk (by walk_at "w"))) (Pas.cons (Pe.glob T.g_CARRY) (Pas.cons (Pe.bin (Pe.var 2 rfl) (Pe.glob T.g_CARRY) b_and1) Pas.nil))) (fun _ _ => R_replaced.mk)) Pas.nil)), fun Hz sz => ⟨by show 2 ≤ sizeLine; decide, fun p hp => k _ p ((sz.trans (same_new hp))) upd_same⟩⟩
theorem ok_one_less (T : Txt K mg C) : DefOk P w K mg base "one_less" ["x", "y", "flags", "width"] 6 (spO R_one_less) := by
  refine def_ok T.d_one_less sc_one_less (fun vs H Q E h => ?_) (fun f cdv A outer s H vs Q E hr h => ?_)
  · obtain ⟨a, b, hR, _⟩ := h; cases hR <;> rfl
  · obtain ⟨a, b, hR, k⟩ := h
    cases hR with
    | mk hpre =>
      refine ⟨_, (pss_one (ps_ret (pe_tup pa_ev))), ?_⟩
      exact ⟨_, (Pas.cons (Pe.bin (Pe.var 0 rfl) Pe.int b_sub) (Pas.cons (Pe.call (ok_replaced T) (hr.mono (by decide)) (Pas.cons (Pe.call (ok_difference_flags T) (hr.mono (by decide)) (Pas.cons (Pe.var 0 rfl) (Pas.cons Pe.int (Pas.cons Pe.int (Pas.cons (Pe.var 3 rfl) Pas.nil)))) (fun _ _ => R_difference_flags.mk (by walk_at "w"))) (Pas.cons (Pe.glob T.g_CARRY) (Pas.cons (Pe.bin (Pe.var 2 rfl) (Pe.glob T.g_CARRY) b_and1) Pas.nil))) (fun _ _ => R_replaced.mk)) Pas.nil)), fun Hz sz => ⟨by show 2 ≤ sizeLine; decide, fun p hp => k _ p ((sz.trans (same_new hp))) upd_same⟩⟩
theorem ok_negate (T : Txt K mg C) : DefOk P w K mg base "negate" ["x", "y", "flags", "width"] 6 (spO R_negate) := by
  refine def_ok T.d_negate sc_negate (fun vs H Q E h => ?_) (fun f cdv A outer s H vs Q E hr h => ?_)
  · obtain ⟨a, b, hR, _⟩ := h; cases hR <;> rfl
  · obtain ⟨a, b, hR, k⟩ := h
    cases hR with
    | mk hpre =>
      refine ⟨_, (pss_one (ps_ret (pe_tup pa_ev))), ?_⟩
      exact ⟨_, (Pas.cons (Pe.un (Pe.var 0 rfl) u_neg) (Pas.cons (Pe.call (ok_difference_flags T) (hr.mono (by decide)) (Pas.cons Pe.int (Pas.cons (Pe.var 0 rfl) (Pas.cons Pe.int (Pas.cons (Pe.var 3 rfl) Pas.nil)))) (fun _ _ => R_difference_flags.mk (by walk_at "w"))) Pas.nil)), fun Hz sz => ⟨by show 2 ≤ sizeLine; decide, fun p hp => k _ p ((sz.trans (same_new hp))) upd_same⟩⟩
theorem ok_opposite_bits (T : Txt K mg C) : DefOk P w K mg base "opposite_bits" ["x", "y", "flags", "width"] 1 (spO R_opposite_bits) := by
  refine def_ok T.d_opposite_bits sc_opposite_bits (fun vs H Q E h => ?_) (fun f cdv A outer s H vs Q E hr h => ?_)
  · obtain ⟨a, b, hR, _⟩ := h; cases hR <;> rfl
  · obtain ⟨a, b, hR, k⟩ := h
    cases hR with
    | mk =>
      refine ⟨_, (pss_one (ps_ret (pe_tup pa_ev))), ?_⟩
      exact ⟨_, (Pas.cons (Pe.un (Pe.var 0 rfl) u_inv) (Pas.cons (Pe.var 2 rfl) Pas.nil)), fun Hz sz => ⟨by show 2 ≤ sizeLine; decide, fun p hp => k _ p ((sz.trans (same_new hp))) upd_same⟩⟩
theorem ok_computed (T : Txt K mg C) : DefOk P w K mg base "computed" ["op", "x", "y", "flags", "width"] 7 (spO R_computed) := by
  refine def_ok T.d_computed sc_computed (fun vs H Q E h => ?_) (fun f cdv A outer s H vs Q E hr h => ?_)
  · obtain ⟨a, b, hR, _⟩ := h; cases hR <;> rfl
  · obtain ⟨a, b, hR, k⟩ := h
    cases hR with
    | k0 h =>
      obtain ⟨da, kvs, ma, D, DA⟩ := T.q_ARITHMETIC
      obtain ⟨f0, l0, m0⟩ := DA.1
      obtain ⟨f1, fd1, F1, m1, kp1, b1⟩ := (ok_move (P := P) (w := w) (base := base) T).ex
      obtain rfl := ref_inj m0 m1
      refine ⟨_, (pss_one (ps_ret (pe_callV pe_ev F1 (hr.mono (by decide)) kp1 b1 pa_ev))), ?_⟩
      exact ⟨_, Pe.dget (Pe.glob ⟨_, ma, rfl⟩) (Pe.var 0 rfl) D l0, fun H3 s3 => ⟨rfl, _, (Pas.cons (Pe.var 1 rfl) (Pas.cons (Pe.var 2 rfl) (Pas.cons (Pe.var 3 rfl) (Pas.cons (Pe.var 4 rfl) Pas.nil)))), fun H4 s4 => ⟨_, _, h, fun Hz p sz hp => k Hz p (((s3.trans s4).trans sz)) hp⟩⟩⟩
    | k1 h =>
      obtain ⟨da, kvs, ma, D, DA⟩ := T.q_ARITHMETIC
      obtain ⟨f0, l0, m0⟩ := DA.2.1
      obtain ⟨f1, fd1, F1, m1, kp1, b1⟩ := (ok_add (P := P) (w := w) (base := base) T).ex
      obtain rfl := ref_inj m0 m1
      refine ⟨_, (pss_one (ps_ret (pe_callV pe_ev F1 (hr.mono (by decide)) kp1 b1 pa_ev))), ?_⟩
      exact ⟨_, Pe.dget (Pe.glob ⟨_, ma, rfl⟩) (Pe.var 0 rfl) D l0, fun H3 s3 => ⟨rfl, _, (Pas.cons (Pe.var 1 rfl) (Pas.cons (Pe.var 2 rfl) (Pas.cons (Pe.var 3 rfl) (Pas.cons (Pe.var 4 rfl) Pas.nil)))), fun H4 s4 => ⟨_, _, h, fun Hz p sz hp => k Hz p (((s3.trans s4).trans sz)) hp⟩⟩⟩
    | k2 h =>
      obtain ⟨da, kvs, ma, D, DA⟩ := T.q_ARITHMETIC
      obtain ⟨f0, l0, m0⟩ := DA.2.2.1
      obtain ⟨f1, fd1, F1, m1, kp1, b1⟩ := (ok_add_with_carry (P := P) (w := w) (base := base) T).ex
      obtain rfl := ref_inj m0 m1
      refine ⟨_, (pss_one (ps_ret (pe_callV pe_ev F1 (hr.mono (by decide)) kp1 b1 pa_ev))), ?_⟩
      exact ⟨_, Pe.dget (Pe.glob ⟨_, ma, rfl⟩) (Pe.var 0 rfl) D l0, fun H3 s3 => ⟨rfl, _, (Pas.cons (Pe.var 1 rfl) (Pas.cons (Pe.var 2 rfl) (Pas.cons (Pe.var 3 rfl) (Pas.cons (Pe.var 4 rfl) Pas.nil)))), fun H4 s4 => ⟨_, _, h, fun Hz p sz hp => k Hz p (((s3.trans s4).trans sz)) hp⟩⟩⟩
    | k3 h =>
      obtain ⟨da, kvs, ma, D, DA⟩ := T.q_ARITHMETIC
      obtain ⟨f0, l0, m0⟩ := DA.2.2.2.1
      obtain ⟨f1, fd1, F1, m1, kp1, b1⟩ := (ok_subtract (P := P) (w := w) (base := base) T).ex
      obtain rfl := ref_inj m0 m1
      refine ⟨_, (pss_one (ps_ret (pe_callV pe_ev F1 (hr.mono (by decide)) kp1 b1 pa_ev))), ?_⟩
      exact ⟨_, Pe.dget (Pe.glob ⟨_, ma, rfl⟩) (Pe.var 0 rfl) D l0, fun H3 s3 => ⟨rfl, _, (Pas.cons (Pe.var 1 rfl) (Pas.cons (Pe.var 2 rfl) (Pas.cons (Pe.var 3 rfl) (Pas.cons (Pe.var 4 rfl) Pas.nil)))), fun H4 s4 => ⟨_, _, h, fun Hz p sz hp => k Hz p (((s3.trans s4).trans sz)) hp⟩⟩⟩
    | k4 h =>
      obtain ⟨da, kvs, ma, D, DA⟩ := T.q_ARITHMETIC
      obtain ⟨f0, l0, m0⟩ := DA.2.2.2.2.1
      obtain ⟨f1, fd1, F1, m1, kp1, b1⟩ := (ok_subtract_with_borrow (P := P) (w := w) (base := base) T).ex
      obtain rfl := ref_inj m0 m1
      refine ⟨_, (pss_one (ps_ret (pe_callV pe_ev F1 (hr.mono (by decide)) kp1 b1 pa_ev))), ?_⟩
      exact ⟨_, Pe.dget (Pe.glob ⟨_, ma, rfl⟩) (Pe.var 0 rfl) D l0, fun H3 s3 => ⟨rfl, _, (Pas.cons (Pe.var 1 rfl) (Pas.cons (Pe.var 2 rfl) (Pas.cons (Pe.var 3 rfl) (Pas.cons (Pe.var 4 rfl) Pas.nil)))), fun H4 s4 => ⟨_, _, h, fun Hz p sz hp => k Hz p (((s3.trans s4).trans sz)) hp⟩⟩⟩
    | k5 h =>
      obtain ⟨da, kvs, ma, D, DA⟩ := T.q_ARITHMETIC
      obtain ⟨f0, l0, m0⟩ := DA.2.2.2.2.2.1
      obtain ⟨f1, fd1, F1, m1, kp1, b1⟩ := (ok_compare (P := P) (w := w) (base := base) T).ex
      obtain rfl := ref_inj m0 m1
      refine ⟨_, (pss_one (ps_ret (pe_callV pe_ev F1 (hr.mono (by decide)) kp1 b1 pa_ev))), ?_⟩
      exact ⟨_, Pe.dget (Pe.glob ⟨_, ma, rfl⟩) (Pe.var 0 rfl) D l0, fun H3 s3 => ⟨rfl, _, (Pas.cons (Pe.var 1 rfl) (Pas.cons (Pe.var 2 rfl) (Pas.cons (Pe.var 3 rfl) (Pas.cons (Pe.var 4 rfl) Pas.nil)))), fun H4 s4 => ⟨_, _, h, fun Hz p sz hp => k Hz p (((s3.trans s4).trans sz)) hp⟩⟩⟩
    | k6 h =>
      obtain ⟨da, kvs, ma, D, DA⟩ := T.q_ARITHMETIC
      obtain ⟨f0, l0, m0⟩ := DA.2.2.2.2.2.2.1
      obtain ⟨f1, fd1, F1, m1, kp1, b1⟩ := (ok_bits_of_both (P := P) (w := w) (base := base) T).ex
      obtain rfl := ref_inj m0 m1
      refine ⟨_, (pss_one (ps_ret (pe_callV pe_ev F1 (hr.mono (by decide)) kp1 b1 pa_ev))), ?_⟩
      exact ⟨_, Pe.dget (Pe.glob ⟨_, ma, rfl⟩) (Pe.var 0 rfl) D l0, fun H3 s3 => ⟨rfl, _, (Pas.cons (Pe.var 1 rfl) (Pas.cons (Pe.var 2 rfl) (Pas.cons (Pe.var 3 rfl) (Pas.cons (Pe.var 4 rfl) Pas.nil)))), fun H4 s4 => ⟨_, _, h, fun Hz p sz hp => k Hz p (((s3.trans s4).trans sz)) hp⟩⟩⟩
    | k7 h =>
      obtain ⟨da, kvs, ma, D, DA⟩ := T.q_ARITHMETIC
      obtain ⟨f0, l0, m0⟩ := DA.2.2.2.2.2.2.2.1
      obtain ⟨f1, fd1, F1, m1, kp1, b1⟩ := (ok_bits_of_either (P := P) (w := w) (base := base) T).ex
      obtain rfl := ref_inj m0 m1
      refine ⟨_, (pss_one (ps_ret (pe_callV pe_ev F1 (hr.mono (by decide)) kp1 b1 pa_ev))), ?_⟩
      exact ⟨_, Pe.dget (Pe.glob ⟨_, ma, rfl⟩) (Pe.var 0 rfl) D l0, fun H3 s3 => ⟨rfl, _, (Pas.cons (Pe.var 1 rfl) (Pas.cons (Pe.var 2 rfl) (Pas.cons (Pe.var 3 rfl) (Pas.cons (Pe.var 4 rfl) Pas.nil)))), fun H4 s4 => ⟨_, _, h, fun Hz p sz hp => k Hz p (((s3.trans s4).trans sz)) hp⟩⟩⟩
    | k8 h =>
      obtain ⟨da, kvs, ma, D, DA⟩ := T.q_ARITHMETIC
      obtain ⟨f0, l0, m0⟩ := DA.2.2.2.2.2.2.2.2.1
      obtain ⟨f1, fd1, F1, m1, kp1, b1⟩ := (ok_bits_of_one_alone (P := P) (w := w) (base := base) T).ex
      obtain rfl := ref_inj m0 m1
      refine ⟨_, (pss_one (ps_ret (pe_callV pe_ev F1 (hr.mono (by decide)) kp1 b1 pa_ev))), ?_⟩
      exact ⟨_, Pe.dget (Pe.glob ⟨_, ma, rfl⟩) (Pe.var 0 rfl) D l0, fun H3 s3 => ⟨rfl, _, (Pas.cons (Pe.var 1 rfl) (Pas.cons (Pe.var 2 rfl) (Pas.cons (Pe.var 3 rfl) (Pas.cons (Pe.var 4 rfl) Pas.nil)))), fun H4 s4 => ⟨_, _, h, fun Hz p sz hp => k Hz p (((s3.trans s4).trans sz)) hp⟩⟩⟩
    | k9 h =>
      obtain ⟨da, kvs, ma, D, DA⟩ := T.q_ARITHMETIC
      obtain ⟨f0, l0, m0⟩ := DA.2.2.2.2.2.2.2.2.2.1
      obtain ⟨f1, fd1, F1, m1, kp1, b1⟩ := (ok_bits_of_both_asked (P := P) (w := w) (base := base) T).ex
      obtain rfl := ref_inj m0 m1
      refine ⟨_, (pss_one (ps_ret (pe_callV pe_ev F1 (hr.mono (by decide)) kp1 b1 pa_ev))), ?_⟩
      exact ⟨_, Pe.dget (Pe.glob ⟨_, ma, rfl⟩) (Pe.var 0 rfl) D l0, fun H3 s3 => ⟨rfl, _, (Pas.cons (Pe.var 1 rfl) (Pas.cons (Pe.var 2 rfl) (Pas.cons (Pe.var 3 rfl) (Pas.cons (Pe.var 4 rfl) Pas.nil)))), fun H4 s4 => ⟨_, _, h, fun Hz p sz hp => k Hz p (((s3.trans s4).trans sz)) hp⟩⟩⟩
    | k10 h =>
      obtain ⟨da, kvs, ma, D, DA⟩ := T.q_ARITHMETIC
      obtain ⟨f0, l0, m0⟩ := DA.2.2.2.2.2.2.2.2.2.2.1
      obtain ⟨f1, fd1, F1, m1, kp1, b1⟩ := (ok_one_more (P := P) (w := w) (base := base) T).ex
      obtain rfl := ref_inj m0 m1
      refine ⟨_, (pss_one (ps_ret (pe_callV pe_ev F1 (hr.mono (by decide)) kp1 b1 pa_ev))), ?_⟩
      exact ⟨_, Pe.dget (Pe.glob ⟨_, ma, rfl⟩) (Pe.var 0 rfl) D l0, fun H3 s3 => ⟨rfl, _, (Pas.cons (Pe.var 1 rfl) (Pas.cons (Pe.var 2 rfl) (Pas.cons (Pe.var 3 rfl) (Pas.cons (Pe.var 4 rfl) Pas.nil)))), fun H4 s4 => ⟨_, _, h, fun Hz p sz hp => k Hz p (((s3.trans s4).trans sz)) hp⟩⟩⟩
    | k11 h =>
      obtain ⟨da, kvs, ma, D, DA⟩ := T.q_ARITHMETIC
      obtain ⟨f0, l0, m0⟩ := DA.2.2.2.2.2.2.2.2.2.2.2.1
      obtain ⟨f1, fd1, F1, m1, kp1, b1⟩ := (ok_one_less (P := P) (w := w) (base := base) T).ex
      obtain rfl := ref_inj m0 m1
      refine ⟨_, (pss_one (ps_ret (pe_callV pe_ev F1 (hr.mono (by decide)) kp1 b1 pa_ev))), ?_⟩
      exact ⟨_, Pe.dget (Pe.glob ⟨_, ma, rfl⟩) (Pe.var 0 rfl) D l0, fun H3 s3 => ⟨rfl, _, (Pas.cons (Pe.var 1 rfl) (Pas.cons (Pe.var 2 rfl) (Pas.cons (Pe.var 3 rfl) (Pas.cons (Pe.var 4 rfl) Pas.nil)))), fun H4 s4 => ⟨_, _, h, fun Hz p sz hp => k Hz p (((s3.trans s4).trans sz)) hp⟩⟩⟩
    | k12 h =>
      obtain ⟨da, kvs, ma, D, DA⟩ := T.q_ARITHMETIC
      obtain ⟨f0, l0, m0⟩ := DA.2.2.2.2.2.2.2.2.2.2.2.2.1
      obtain ⟨f1, fd1, F1, m1, kp1, b1⟩ := (ok_negate (P := P) (w := w) (base := base) T).ex
      obtain rfl := ref_inj m0 m1
      refine ⟨_, (pss_one (ps_ret (pe_callV pe_ev F1 (hr.mono (by decide)) kp1 b1 pa_ev))), ?_⟩
      exact ⟨_, Pe.dget (Pe.glob ⟨_, ma, rfl⟩) (Pe.var 0 rfl) D l0, fun H3 s3 => ⟨rfl, _, (Pas.cons (Pe.var 1 rfl) (Pas.cons (Pe.var 2 rfl) (Pas.cons (Pe.var 3 rfl) (Pas.cons (Pe.var 4 rfl) Pas.nil)))), fun H4 s4 => ⟨_, _, h, fun Hz p sz hp => k Hz p (((s3.trans s4).trans sz)) hp⟩⟩⟩
    | k13 h =>
      obtain ⟨da, kvs, ma, D, DA⟩ := T.q_ARITHMETIC
      obtain ⟨f0, l0, m0⟩ := DA.2.2.2.2.2.2.2.2.2.2.2.2.2
      obtain ⟨f1, fd1, F1, m1, kp1, b1⟩ := (ok_opposite_bits (P := P) (w := w) (base := base) T).ex
      obtain rfl := ref_inj m0 m1
      refine ⟨_, (pss_one (ps_ret (pe_callV pe_ev F1 (hr.mono (by decide)) kp1 b1 pa_ev))), ?_⟩
      exact ⟨_, Pe.dget (Pe.glob ⟨_, ma, rfl⟩) (Pe.var 0 rfl) D l0, fun H3 s3 => ⟨rfl, _, (Pas.cons (Pe.var 1 rfl) (Pas.cons (Pe.var 2 rfl) (Pas.cons (Pe.var 3 rfl) (Pas.cons (Pe.var 4 rfl) Pas.nil)))), fun H4 s4 => ⟨_, _, h, fun Hz p sz hp => k Hz p (((s3.trans s4).trans sz)) hp⟩⟩⟩
end
end We
end

section
set_option Elab.async false
set_option linter.all false
set_option maxRecDepth 100000
set_option maxHeartbeats 4000000
namespace We
open PySem PySem.Spec PyProof.Rows L2
local macro_rules | `(tactic| walk_at "w") => `(tactic| first | omega | assumption | exact hb_small _ _ | exact pow_pos _ | exact md0 (by omega) | exact md1 (by omega) (by omega) | exact sm_x (by assumption) | exact sm_y (by assumption) | exact tl1 (by assumption) | exact tl2 (by assumption) | exact tl3 (by assumption) | exact tl4 (by assumption) | exact ab_ok (by assumption) | (refine ⟨by omega, ?_⟩; omega))
inductive R_move_if : List V → V → V → Prop
  | mk0 {y : Int} {n : Int} {flags : Int} {width : Int} (hpre : 0 ≤ n ∧ n ≤ 15) (h0 : (Wm.condition_holds (flags) (n)) = true) : R_move_if [.int y, .int n, .int flags, .int width] (.int (y)) (.int (flags))
  | mk1 {y : Int} {n : Int} {flags : Int} {width : Int} (hpre : 0 ≤ n ∧ n ≤ 15) (h0 : (Wm.condition_holds (flags) (n)) = false) : R_move_if [.int y, .int n, .int flags, .int width] .non (.int (flags))
inductive R_truth : List V → V → V → Prop
  | mk {y : Int} {n : Int} {flags : Int} {width : Int} (hpre : 0 ≤ n ∧ n ≤ 15) : R_truth [.int y, .int n, .int flags, .int width] (.int ((if (Wm.condition_holds (flags) (n)) = true then 1 else 0))) (.int (flags))
inductive R_low_bytes_with_sign : List V → V → Prop
  | mk {y : Int} {n : Int} (hpre : 1 ≤ n ∧ n ≤ 8) : R_low_bytes_with_sign [.int y, .int n] (.int (Wm.low_bytes_with_sign y n))
inductive R_widened : List V → V → V → Prop
  | mk {y : Int} {n : Int} {flags : Int} {width : Int} (hpre : 1 ≤ n ∧ n ≤ 8) : R_widened [.int y, .int n, .int flags, .int width] (.int ((Wm.cut (y) ((8 * n))))) (.int (flags))
inductive R_widened_with_sign : List V → V → V → Prop
  | mk {y : Int} {n : Int} {flags : Int} {width : Int} (hpre : 1 ≤ n ∧ n ≤ 8) : R_widened_with_sign [.int y, .int n, .int flags, .int width] (.int ((Wm.low_bytes_with_sign (y) (n)))) (.int (flags))
inductive R_widened_with_flags : List V → V → V → Prop
  | mk {y : Int} {n : Int} {flags : Int} {width : Int} (hpre : (1 ≤ n ∧ n ≤ 8) ∧ 1 ≤ width ∧ width ≤ 1000) : R_widened_with_flags [.int y, .int n, .int flags, .int width] (.int ((Wm.low_bytes_with_sign (y) (n)))) (.int ((Wm.flags_of ((Wm.cut ((Wm.low_bytes_with_sign (y) (n))) (width))) (width))))
inductive R_moved : List V → V → V → Prop
  | k35 {y n flags width : Int} {a b : V} (h : R_move_if [.int (y), .int (n), .int (flags), .int (width)] a b) : R_moved [.int 35, .int y, .int n, .int flags, .int width] a b
  | k36 {y n flags width : Int} {a b : V} (h : R_truth [.int (y), .int (n), .int (flags), .int (width)] a b) : R_moved [.int 36, .int y, .int n, .int flags, .int width] a b
  | k40 {y n flags width : Int} {a b : V} (h : R_widened [.int (y), .int (n), .int (flags), .int (width)] a b) : R_moved [.int 40, .int y, .int n, .int flags, .int width] a b
  | k41 {y n flags width : Int} {a b : V} (h : R_widened_with_sign [.int (y), .int (n), .int (flags), .int (width)] a b) : R_moved [.int 41, .int y, .int n, .int flags, .int width] a b
  | k42 {y n flags width : Int} {a b : V} (h : R_widened_with_flags [.int (y), .int (n), .int (flags), .int (width)] a b) : R_moved [.int 42, .int y, .int n, .int flags, .int width] a b
section
variable {P : Program} {w : World} {K : PySem.W.Frag} {mg : Str → Option Value} {base : Heap} {C : Addr}
theorem ok_move_if (T : Txt K mg C) : DefOk P w K mg base "move_if" ["y", "n", "flags", "width"] 3 (spO R_move_if) := by
  refine def_ok T.d_move_if sc_move_if (fun vs H Q E h => ?_) (fun f cdv A outer s H vs Q E hr h => ?_)
  · obtain ⟨a, b, hR, _⟩ := h; cases hR <;> rfl
  · obtain ⟨a, b, hR, k⟩ := h
    cases hR with
    | mk0 hpre h0 =>
      refine ⟨_, (pss_cons (ps_if pt_ev (pss_one (ps_ret (pe_tup pa_ev))) pss_nil) (pss_one (ps_ret (pe_tup pa_ev)))), ?_⟩
      refine ⟨_, (Pt.truth (Pe.call (ok_condition_holds T) (hr.mono (by decide)) (Pas.cons (Pe.var 2 rfl) (Pas.cons (Pe.var 1 rfl) Pas.nil)) (fun _ _ => R_condition_holds.mk (by walk_at "w")))), fun H1 s1 => iteT h0 ?_⟩
      exact ⟨_, (Pas.cons (Pe.var 0 rfl) (Pas.cons (Pe.var 2 rfl) Pas.nil)), fun Hz sz => ⟨by show 2 ≤ sizeLine; decide, fun p hp => k _ p ((s1.trans (sz.trans (same_new hp)))) upd_same⟩⟩
    | mk1 hpre h0 =>
      refine ⟨_, (pss_cons (ps_if pt_ev (pss_one (ps_ret (pe_tup pa_ev))) pss_nil) (pss_one (ps_ret (pe_tup pa_ev)))), ?_⟩
      refine ⟨_, (Pt.truth (Pe.call (ok_condition_holds T) (hr.mono (by decide)) (Pas.cons (Pe.var 2 rfl) (Pas.cons (Pe.var 1 rfl) Pas.nil)) (fun _ _ => R_condition_holds.mk (by walk_at "w")))), fun H1 s1 => iteF h0 ?_⟩
      exact ⟨_, (Pas.cons Pe.non (Pas.cons (Pe.var 2 rfl) Pas.nil)), fun Hz sz => ⟨by show 2 ≤ sizeLine; decide, fun p hp => k _ p ((s1.trans (sz.trans (same_new hp)))) upd_same⟩⟩
theorem ok_truth (T : Txt K mg C) : DefOk P w K mg base "truth" ["y", "n", "flags", "width"] 3 (spO R_truth) := by
  refine def_ok T.d_truth sc_truth (fun vs H Q E h => ?_) (fun f cdv A outer s H vs Q E hr h => ?_)
  · obtain ⟨a, b, hR, _⟩ := h; cases hR <;> rfl
  · obtain ⟨a, b, hR, k⟩ := h
    cases hR with
    | mk hpre =>
      refine ⟨_, (pss_one (ps_ret (pe_tup pa_ev))), ?_⟩
      exact ⟨_, (Pas.cons (Pe.ifInt (Pt.truth (Pe.call (ok_condition_holds T) (hr.mono (by decide)) (Pas.cons (Pe.var 2 rfl) (Pas.cons (Pe.var 1 rfl) Pas.nil)) (fun _ _ => R_condition_holds.mk (by walk_at "w")))) (fun hif => Pe.int) (fun hif => Pe.int)) (Pas.cons (Pe.var 2 rfl) Pas.nil)), fun Hz sz => ⟨by show 2 ≤ sizeLine; decide, fun p hp => k _ p ((sz.trans (same_new hp))) upd_same⟩⟩
theorem ok_low_bytes_with_sign (T : Txt K mg C) : DefOk P w K mg base "low_bytes_with_sign" ["y", "n"] 4 (spR fun _ => R_low_bytes_with_sign) := by
  refine def_ok T.d_low_bytes_with_sign sc_low_bytes_with_sign (fun vs H Q E h => ?_) (fun f cdv A outer s H vs Q E hr h => ?_)
  · obtain ⟨v, hR, _⟩ := h; cases hR <;> rfl
  · obtain ⟨v, hR, k⟩ := h
    cases hR with
    | mk hpre =>
      refine ⟨_, (pss_one (ps_ret pe_ev)), ?_⟩
      exact ⟨_, (Pe.call (ok_signed T) (hr.mono (by decide)) (Pas.cons (Pe.call (ok_cut T) (hr.mono (by decide)) (Pas.cons (Pe.var 0 rfl) (Pas.cons (Pe.bin Pe.int (Pe.var 1 rfl) (b_mul (by walk_at "w"))) Pas.nil)) (fun _ _ => R_cut.mk (by walk_at "w"))) (Pas.cons (Pe.bin Pe.int (Pe.var 1 rfl) (b_mul (by walk_at "w"))) Pas.nil)) (fun _ _ => R_signed.mk (by walk_at "w"))), fun Hz sz => k Hz sz⟩
theorem ok_widened (T : Txt K mg C) : DefOk P w K mg base "widened" ["y", "n", "flags", "width"] 2 (spO R_widened) := by
  refine def_ok T.d_widened sc_widened (fun vs H Q E h => ?_) (fun f cdv A outer s H vs Q E hr h => ?_)
  · obtain ⟨a, b, hR, _⟩ := h; cases hR <;> rfl
  · obtain ⟨a, b, hR, k⟩ := h
    cases hR with
    | mk hpre =>
      refine ⟨_, (pss_one (ps_ret (pe_tup pa_ev))), ?_⟩
      exact ⟨_, (Pas.cons (Pe.call (ok_cut T) (hr.mono (by decide)) (Pas.cons (Pe.var 0 rfl) (Pas.cons (Pe.bin Pe.int (Pe.var 1 rfl) (b_mul (by walk_at "w"))) Pas.nil)) (fun _ _ => R_cut.mk (by walk_at "w"))) (Pas.cons (Pe.var 2 rfl) Pas.nil)), fun Hz sz => ⟨by show 2 ≤ sizeLine; decide, fun p hp => k _ p ((sz.trans (same_new hp))) upd_same⟩⟩
theorem ok_widened_with_sign (T : Txt K mg C) : DefOk P w K mg base "widened_with_sign" ["y", "n", "flags", "width"] 5 (spO R_widened_with_sign) := by
  refine def_ok T.d_widened_with_sign sc_widened_with_sign (fun vs H Q E h => ?_) (fun f cdv A outer s H vs Q E hr h => ?_)
  · obtain ⟨a, b, hR, _⟩ := h; cases hR <;> rfl
  · obtain ⟨a, b, hR, k⟩ := h
    cases hR with
    | mk hpre =>
      refine ⟨_, (pss_one (ps_ret (pe_tup pa_ev))), ?_⟩
      exact ⟨_, (Pas.cons (Pe.call (ok_low_bytes_with_sign T) (hr.mono (by decide)) (Pas.cons (Pe.var 0 rfl) (Pas.cons (Pe.var 1 rfl) Pas.nil)) (fun _ _ => R_low_bytes_with_sign.mk (by walk_at "w"))) (Pas.cons (Pe.var 2 rfl) Pas.nil)), fun Hz sz => ⟨by show 2 ≤ sizeLine; decide, fun p hp => k _ p ((sz.trans (same_new hp))) upd_same⟩⟩
theorem ok_widened_with_flags (T : Txt K mg C) : DefOk P w K mg base "widened_with_flags" ["y", "n", "flags", "width"] 5 (spO R_widened_with_flags) := by
  refine def_ok T.d_widened_with_flags sc_widened_with_flags (fun vs H Q E h => ?_) (fun f cdv A outer s H vs Q E hr h => ?_)
  · obtain ⟨a, b, hR, _⟩ := h; cases hR <;> rfl
  · obtain ⟨a, b, hR, k⟩ := h
    cases hR with
    | mk hpre =>
      refine ⟨_, (pss_cons (ps_set (i := 4) sc_widened_with_flags.nd rfl (Or.inl rfl) pe_ev) (pss_one (ps_ret (pe_tup pa_ev)))), ?_⟩
      refine ⟨_, (Pe.call (ok_low_bytes_with_sign T) (hr.mono (by decide)) (Pas.cons (Pe.var 0 rfl) (Pas.cons (Pe.var 1 rfl) Pas.nil)) (fun _ _ => R_low_bytes_with_sign.mk (by walk_at "w"))), fun H1 s1 => ?_⟩
      exact ⟨_, (Pas.cons (Pe.var 4 rfl) (Pas.cons (Pe.call (ok_flags_of T) (hr.mono (by decide)) (Pas.cons (Pe.call (ok_cut T) (hr.mono (by decide)) (Pas.cons (Pe.var 4 rfl) (Pas.cons (Pe.var 3 rfl) Pas.nil)) (fun _ _ => R_cut.mk (by walk_at "w"))) (Pas.cons (Pe.var 3 rfl) Pas.nil)) (fun _ _ => R_flags_of.mk (by walk_at "w"))) Pas.nil)), fun Hz sz => ⟨by show 2 ≤ sizeLine; decide, fun p hp => k _ p ((s1.trans (sz.trans (same_new hp)))) upd_same⟩⟩
theorem ok_moved (T : Txt K mg C) : DefOk P w K mg base "moved" ["op", "y", "n", "flags", "width"] 6 (spO R_moved) := by
  refine def_ok T.d_moved sc_moved (fun vs H Q E h => ?_) (fun f cdv A outer s H vs Q E hr h => ?_)
  · obtain ⟨a, b, hR, _⟩ := h; cases hR <;> rfl
  · obtain ⟨a, b, hR, k⟩ := h
    cases hR with
    | k35 h =>
      obtain ⟨da, kvs, ma, D, DA⟩ := T.q_MOVES
      obtain ⟨f0, l0, m0⟩ := DA.1
      obtain ⟨f1, fd1, F1, m1, kp1, b1⟩ := (ok_move_if (P := P) (w := w) (base := base) T).ex
      obtain rfl := ref_inj m0 m1
      refine ⟨_, (pss_one (ps_ret (pe_callV pe_ev F1 (hr.mono (by decide)) kp1 b1 pa_ev))), ?_⟩
      exact ⟨_, Pe.dget (Pe.glob ⟨_, ma, rfl⟩) (Pe.var 0 rfl) D l0, fun H3 s3 => ⟨rfl, _, (Pas.cons (Pe.var 1 rfl) (Pas.cons (Pe.var 2 rfl) (Pas.cons (Pe.var 3 rfl) (Pas.cons (Pe.var 4 rfl) Pas.nil)))), fun H4 s4 => ⟨_, _, h, fun Hz p sz hp => k Hz p (((s3.trans s4).trans sz)) hp⟩⟩⟩
    | k36 h =>
      obtain ⟨da, kvs, ma, D, DA⟩ := T.q_MOVES
      obtain ⟨f0, l0, m0⟩ := DA.2.1
      obtain ⟨f1, fd1, F1, m1, kp1, b1⟩ := (ok_truth (P := P) (w := w) (base := base) T).ex
      obtain rfl := ref_inj m0 m1
      refine ⟨_, (pss_one (ps_ret (pe_callV pe_ev F1 (hr.mono (by decide)) kp1 b1 pa_ev))), ?_⟩
      exact ⟨_, Pe.dget (Pe.glob ⟨_, ma, rfl⟩) (Pe.var 0 rfl) D l0, fun H3 s3 => ⟨rfl, _, (Pas.cons (Pe.var 1 rfl) (Pas.cons (Pe.var 2 rfl) (Pas.cons (Pe.var 3 rfl) (Pas.cons (Pe.var 4 rfl) Pas.nil)))), fun H4 s4 => ⟨_, _, h, fun Hz p sz hp => k Hz p (((s3.trans s4).trans sz)) hp⟩⟩⟩
    | k40 h =>
      obtain ⟨da, kvs, ma, D, DA⟩ := T.q_MOVES
      obtain ⟨f0, l0, m0⟩ := DA.2.2.1
      obtain ⟨f1, fd1, F1, m1, kp1, b1⟩ := (ok_widened (P := P) (w := w) (base := base) T).ex
      obtain rfl := ref_inj m0 m1
      refine ⟨_, (pss_one (ps_ret (pe_callV pe_ev F1 (hr.mono (by decide)) kp1 b1 pa_ev))), ?_⟩
      exact ⟨_, Pe.dget (Pe.glob ⟨_, ma, rfl⟩) (Pe.var 0 rfl) D l0, fun H3 s3 => ⟨rfl, _, (Pas.cons (Pe.var 1 rfl) (Pas.cons (Pe.var 2 rfl) (Pas.cons (Pe.var 3 rfl) (Pas.cons (Pe.var 4 rfl) Pas.nil)))), fun H4 s4 => ⟨_, _, h, fun Hz p sz hp => k Hz p (((s3.trans s4).trans sz)) hp⟩⟩⟩
    | k41 h =>
      obtain ⟨da, kvs, ma, D, DA⟩ := T.q_MOVES
      obtain ⟨f0, l0, m0⟩ := DA.2.2.2.1
      obtain ⟨f1, fd1, F1, m1, kp1, b1⟩ := (ok_widened_with_sign (P := P) (w := w) (base := base) T).ex
      obtain rfl := ref_inj m0 m1
      refine ⟨_, (pss_one (ps_ret (pe_callV pe_ev F1 (hr.mono (by decide)) kp1 b1 pa_ev))), ?_⟩
      exact ⟨_, Pe.dget (Pe.glob ⟨_, ma, rfl⟩) (Pe.var 0 rfl) D l0, fun H3 s3 => ⟨rfl, _, (Pas.cons (Pe.var 1 rfl) (Pas.cons (Pe.var 2 rfl) (Pas.cons (Pe.var 3 rfl) (Pas.cons (Pe.var 4 rfl) Pas.nil)))), fun H4 s4 => ⟨_, _, h, fun Hz p sz hp => k Hz p (((s3.trans s4).trans sz)) hp⟩⟩⟩
    | k42 h =>
      obtain ⟨da, kvs, ma, D, DA⟩ := T.q_MOVES
      obtain ⟨f0, l0, m0⟩ := DA.2.2.2.2
      obtain ⟨f1, fd1, F1, m1, kp1, b1⟩ := (ok_widened_with_flags (P := P) (w := w) (base := base) T).ex
      obtain rfl := ref_inj m0 m1
      refine ⟨_, (pss_one (ps_ret (pe_callV pe_ev F1 (hr.mono (by decide)) kp1 b1 pa_ev))), ?_⟩
      exact ⟨_, Pe.dget (Pe.glob ⟨_, ma, rfl⟩) (Pe.var 0 rfl) D l0, fun H3 s3 => ⟨rfl, _, (Pas.cons (Pe.var 1 rfl) (Pas.cons (Pe.var 2 rfl) (Pas.cons (Pe.var 3 rfl) (Pas.cons (Pe.var 4 rfl) Pas.nil)))), fun H4 s4 => ⟨_, _, h, fun Hz p sz hp => k Hz p (((s3.trans s4).trans sz)) hp⟩⟩⟩
end
end We
end

section
set_option Elab.async false
set_option linter.all false
set_option maxRecDepth 100000
set_option maxHeartbeats 4000000
namespace We
open PySem PySem.Spec PyProof.Rows L2
local macro_rules | `(tactic| walk_at "w") => `(tactic| first | omega | assumption | exact hb_small _ _ | exact pow_pos _ | exact md0 (by omega) | exact md1 (by omega) (by omega) | exact sm_x (by assumption) | exact sm_y (by assumption) | exact tl1 (by assumption) | exact tl2 (by assumption) | exact tl3 (by assumption) | exact tl4 (by assumption) | exact ab_ok (by assumption) | (refine ⟨by omega, ?_⟩; omega))
inductive R_lowest_one : List V → V → V → Prop
  | mk0 {x : Int} {y : Int} {n : Int} {flags : Int} {width : Int} (h0 : (decide (y = 0)) = true) : R_lowest_one [.int x, .int y, .int n, .int flags, .int width] .non (.int ((Wm.replaced (flags) (64) (64))))
  | mk1 {x : Int} {y : Int} {n : Int} {flags : Int} {width : Int} (h0 : (decide (y = 0)) = false) : R_lowest_one [.int x, .int y, .int n, .int flags, .int width] (.int ((((Builtin.Int.intBits ((Builtin.bitAnd (y) ((-y)))) : Nat) : Int) - 1))) (.int ((Wm.replaced (flags) (64) (0))))
inductive R_highest_one : List V → V → V → Prop
  | mk0 {x : Int} {y : Int} {n : Int} {flags : Int} {width : Int} (h0 : (decide (y = 0)) = true) : R_highest_one [.int x, .int y, .int n, .int flags, .int width] .non (.int ((Wm.replaced (flags) (64) (64))))
  | mk1 {x : Int} {y : Int} {n : Int} {flags : Int} {width : Int} (h0 : (decide (y = 0)) = false) : R_highest_one [.int x, .int y, .int n, .int flags, .int width] (.int ((((Builtin.Int.intBits (y) : Nat) : Int) - 1))) (.int ((Wm.replaced (flags) (64) (0))))
inductive R_number_of_ones : List V → V → V → Prop
  | mk {x : Int} {y : Int} {n : Int} {flags : Int} {width : Int} (hpre : 0 ≤ y ∧ y < 2 ^ 64) : R_number_of_ones [.int x, .int y, .int n, .int flags, .int width] (.int ((Wm.ones (y)))) (.int ((Wm.when (64) ((decide (y = 0))))))
inductive R_bit_told : List V → V → Prop
  | mk {x : Int} {n : Int} {flags : Int} {width : Int} (hpre : 1 ≤ width ∧ width ≤ 1000) : R_bit_told [.int x, .int n, .int flags, .int width] (.int (Wm.bit_told x n flags width))
inductive R_bit_asked : List V → V → V → Prop
  | mk {x : Int} {y : Int} {n : Int} {flags : Int} {width : Int} (hpre : 1 ≤ width ∧ width ≤ 1000) : R_bit_asked [.int x, .int y, .int n, .int flags, .int width] .non (.int ((Wm.bit_told (x) (n) (flags) (width))))
inductive R_bit_set : List V → V → V → Prop
  | mk {x : Int} {y : Int} {n : Int} {flags : Int} {width : Int} (hpre : 1 ≤ width ∧ width ≤ 1000) : R_bit_set [.int x, .int y, .int n, .int flags, .int width] (.int ((Builtin.bitOr (x) ((2 ^ Int.toNat ((n % width))))))) (.int ((Wm.bit_told (x) (n) (flags) (width))))
inductive R_bit_cleared : List V → V → V → Prop
  | mk {x : Int} {y : Int} {n : Int} {flags : Int} {width : Int} (hpre : 1 ≤ width ∧ width ≤ 1000) : R_bit_cleared [.int x, .int y, .int n, .int flags, .int width] (.int ((Builtin.bitAnd (x) ((Builtin.bitNot ((2 ^ Int.toNat ((n % width))))))))) (.int ((Wm.bit_told (x) (n) (flags) (width))))
inductive R_bit_changed : List V → V → V → Prop
  | mk {x : Int} {y : Int} {n : Int} {flags : Int} {width : Int} (hpre : 1 ≤ width ∧ width ≤ 1000) : R_bit_changed [.int x, .int y, .int n, .int flags, .int width] (.int ((Builtin.bitXor (x) ((2 ^ Int.toNat ((n % width))))))) (.int ((Wm.bit_told (x) (n) (flags) (width))))
inductive R_bytes_turned_round : List V → V → V → Prop
  | mk {x size : Nat} {y n flags : Int} (hs : size ≤ 8) : R_bytes_turned_round [.int (x : Int), .int y, .int n, .int flags, .int ((8 * size : Nat) : Int)] (.int ((Wo.revI x size : Nat) : Int)) (.int flags)
inductive R_placed : List V → V → V → Prop
  | k27 {x y n flags width : Int} {a b : V} (h : R_lowest_one [.int (x), .int (y), .int (n), .int (flags), .int (width)] a b) : R_placed [.int 27, .int x, .int y, .int n, .int flags, .int width] a b
  | k28 {x y n flags width : Int} {a b : V} (h : R_highest_one [.int (x), .int (y), .int (n), .int (flags), .int (width)] a b) : R_placed [.int 28, .int x, .int y, .int n, .int flags, .int width] a b
  | k29 {x y n flags width : Int} {a b : V} (h : R_number_of_ones [.int (x), .int (y), .int (n), .int (flags), .int (width)] a b) : R_placed [.int 29, .int x, .int y, .int n, .int flags, .int width] a b
  | k30 {x y n flags width : Int} {a b : V} (h : R_bytes_turned_round [.int (x), .int (y), .int (n), .int (flags), .int (width)] a b) : R_placed [.int 30, .int x, .int y, .int n, .int flags, .int width] a b
  | k31 {x y n flags width : Int} {a b : V} (h : R_bit_asked [.int (x), .int (y), .int (n), .int (flags), .int (width)] a b) : R_placed [.int 31, .int x, .int y, .int n, .int flags, .int width] a b
  | k32 {x y n flags width : Int} {a b : V} (h : R_bit_set [.int (x), .int (y), .int (n), .int (flags), .int (width)] a b) : R_placed [.int 32, .int x, .int y, .int n, .int flags, .int width] a b
  | k33 {x y n flags width : Int} {a b : V} (h : R_bit_cleared [.int (x), .int (y), .int (n), .int (flags), .int (width)] a b) : R_placed [.int 33, .int x, .int y, .int n, .int flags, .int width] a b
  | k34 {x y n flags width : Int} {a b : V} (h : R_bit_changed [.int (x), .int (y), .int (n), .int (flags), .int (width)] a b) : R_placed [.int 34, .int x, .int y, .int n, .int flags, .int width] a b
section
variable {P : Program} {w : World} {K : PySem.W.Frag} {mg : Str → Option Value} {base : Heap} {C : Addr}
theorem ok_lowest_one (T : Txt K mg C) : DefOk P w K mg base "lowest_one" ["x", "y", "n", "flags", "width"] 2 (spO R_lowest_one) := by
  refine def_ok T.d_lowest_one sc_lowest_one (fun vs H Q E h => ?_) (fun f cdv A outer s H vs Q E hr h => ?_)
  · obtain ⟨a, b, hR, _⟩ := h; cases hR <;> rfl
  · obtain ⟨a, b, hR, k⟩ := h
    cases hR with
    | mk0 h0 =>
      refine ⟨_, (pss_cons (ps_if pt_ev (pss_one (ps_ret (pe_tup pa_ev))) pss_nil) (pss_one (ps_ret (pe_tup pa_ev)))), ?_⟩
      refine ⟨_, (Pt.cmp (Pe.var 1 rfl) Pe.int c_eq (nomark _)), fun H1 s1 => iteT h0 ?_⟩
      exact ⟨_, (Pas.cons Pe.non (Pas.cons (Pe.call (ok_replaced T) (hr.mono (by decide)) (Pas.cons (Pe.var 3 rfl) (Pas.cons (Pe.glob T.g_ZERO) (Pas.cons (Pe.glob T.g_ZERO) Pas.nil))) (fun _ _ => R_replaced.mk)) Pas.nil)), fun Hz sz => ⟨by show 2 ≤ sizeLine; decide, fun p hp => k _ p ((s1.trans (sz.trans (same_new hp)))) upd_same⟩⟩
    | mk1 h0 =>
      refine ⟨_, (pss_cons (ps_if pt_ev (pss_one (ps_ret (pe_tup pa_ev))) pss_nil) (pss_one (ps_ret (pe_tup pa_ev)))), ?_⟩
      refine ⟨_, (Pt.cmp (Pe.var 1 rfl) Pe.int c_eq (nomark _)), fun H1 s1 => iteF h0 ?_⟩
      exact ⟨_, (Pas.cons (Pe.bin (Pe.bitlen (Pe.bin (Pe.var 1 rfl) (Pe.un (Pe.var 1 rfl) u_neg) b_and)) Pe.int b_sub) (Pas.cons (Pe.call (ok_replaced T) (hr.mono (by decide)) (Pas.cons (Pe.var 3 rfl) (Pas.cons (Pe.glob T.g_ZERO) (Pas.cons Pe.int Pas.nil))) (fun _ _ => R_replaced.mk)) Pas.nil)), fun Hz sz => ⟨by show 2 ≤ sizeLine; decide, fun p hp => k _ p ((s1.trans (sz.trans (same_new hp)))) upd_same⟩⟩
theorem ok_highest_one (T : Txt K mg C) : DefOk P w K mg base "highest_one" ["x", "y", "n", "flags", "width"] 2 (spO R_highest_one) := by
  refine def_ok T.d_highest_one sc_highest_one (fun vs H Q E h => ?_) (fun f cdv A outer s H vs Q E hr h => ?_)
  · obtain ⟨a, b, hR, _⟩ := h; cases hR <;> rfl
  · obtain ⟨a, b, hR, k⟩ := h
    cases hR with
    | mk0 h0 =>
      refine ⟨_, (pss_cons (ps_if pt_ev (pss_one (ps_ret (pe_tup pa_ev))) pss_nil) (pss_one (ps_ret (pe_tup pa_ev)))), ?_⟩
      refine ⟨_, (Pt.cmp (Pe.var 1 rfl) Pe.int c_eq (nomark _)), fun H1 s1 => iteT h0 ?_⟩
      exact ⟨_, (Pas.cons Pe.non (Pas.cons (Pe.call (ok_replaced T) (hr.mono (by decide)) (Pas.cons (Pe.var 3 rfl) (Pas.cons (Pe.glob T.g_ZERO) (Pas.cons (Pe.glob T.g_ZERO) Pas.nil))) (fun _ _ => R_replaced.mk)) Pas.nil)), fun Hz sz => ⟨by show 2 ≤ sizeLine; decide, fun p hp => k _ p ((s1.trans (sz.trans (same_new hp)))) upd_same⟩⟩
    | mk1 h0 =>
      refine ⟨_, (pss_cons (ps_if pt_ev (pss_one (ps_ret (pe_tup pa_ev))) pss_nil) (pss_one (ps_ret (pe_tup pa_ev)))), ?_⟩
      refine ⟨_, (Pt.cmp (Pe.var 1 rfl) Pe.int c_eq (nomark _)), fun H1 s1 => iteF h0 ?_⟩
      exact ⟨_, (Pas.cons (Pe.bin (Pe.bitlen (Pe.var 1 rfl)) Pe.int b_sub) (Pas.cons (Pe.call (ok_replaced T) (hr.mono (by decide)) (Pas.cons (Pe.var 3 rfl) (Pas.cons (Pe.glob T.g_ZERO) (Pas.cons Pe.int Pas.nil))) (fun _ _ => R_replaced.mk)) Pas.nil)), fun Hz sz => ⟨by show 2 ≤ sizeLine; decide, fun p hp => k _ p ((s1.trans (sz.trans (same_new hp)))) upd_same⟩⟩
theorem ok_number_of_ones (T : Txt K mg C) : DefOk P w K mg base "number_of_ones" ["x", "y", "n", "flags", "width"] 3 (spO R_number_of_ones) := by
  refine def_ok T.d_number_of_ones sc_number_of_ones (fun vs H Q E h => ?_) (fun f cdv A outer s H vs Q E hr h => ?_)
  · obtain ⟨a, b, hR, _⟩ := h; cases hR <;> rfl
  · obtain ⟨a, b, hR, k⟩ := h
    cases hR with
    | mk hpre =>
      refine ⟨_, (pss_one (ps_ret (pe_tup pa_ev))), ?_⟩
      exact ⟨_, (Pas.cons (Pe.call (ok_ones T) (hr.mono (by decide)) (Pas.cons (Pe.var 1 rfl) Pas.nil) (fun _ _ => R_ones.mk (by walk_at "w"))) (Pas.cons (Pe.call (ok_when T) (hr.mono (by decide)) (Pas.cons (Pe.glob T.g_ZERO) (Pas.cons (Pe.cmp (Pe.var 1 rfl) Pe.int c_eq (nomark _)) Pas.nil)) (fun _ _ => R_when.mk)) Pas.nil)), fun Hz sz => ⟨by show 2 ≤ sizeLine; decide, fun p hp => k _ p ((sz.trans (same_new hp))) upd_same⟩⟩
theorem ok_bit_told (T : Txt K mg C) : DefOk P w K mg base "bit_told" ["x", "n", "flags", "width"] 2 (spR fun _ => R_bit_told) := by
  refine def_ok T.d_bit_told sc_bit_told (fun vs H Q E h => ?_) (fun f cdv A outer s H vs Q E hr h => ?_)
  · obtain ⟨v, hR, _⟩ := h; cases hR <;> rfl
  · obtain ⟨v, hR, k⟩ := h
    cases hR with
    | mk hpre =>
      refine ⟨_, (pss_one (ps_ret pe_ev)), ?_⟩
      exact ⟨_, (Pe.call (ok_replaced T) (hr.mono (by decide)) (Pas.cons (Pe.var 2 rfl) (Pas.cons (Pe.glob T.g_CARRY) (Pas.cons (Pe.call (ok_bit T) (hr.mono (by decide)) (Pas.cons (Pe.var 0 rfl) (Pas.cons (Pe.bin (Pe.var 1 rfl) (Pe.var 3 rfl) (b_mod (by walk_at "w"))) Pas.nil)) (fun _ _ => R_bit.mk (by walk_at "w"))) Pas.nil))) (fun _ _ => R_replaced.mk)), fun Hz sz => k Hz sz⟩
theorem ok_bit_asked (T : Txt K mg C) : DefOk P w K mg base "bit_asked" ["x", "y", "n", "flags", "width"] 3 (spO R_bit_asked) := by
  refine def_ok T.d_bit_asked sc_bit_asked (fun vs H Q E h => ?_) (fun f cdv A outer s H vs Q E hr h => ?_)
  · obtain ⟨a, b, hR, _⟩ := h; cases hR <;> rfl
  · obtain ⟨a, b, hR, k⟩ := h
    cases hR with
    | mk hpre =>
      refine ⟨_, (pss_one (ps_ret (pe_tup pa_ev))), ?_⟩
      exact ⟨_, (Pas.cons Pe.non (Pas.cons (Pe.call (ok_bit_told T) (hr.mono (by decide)) (Pas.cons (Pe.var 0 rfl) (Pas.cons (Pe.var 2 rfl) (Pas.cons (Pe.var 3 rfl) (Pas.cons (Pe.var 4 rfl) Pas.nil)))) (fun _ _ => R_bit_told.mk (by walk_at "w"))) Pas.nil)), fun Hz sz => ⟨by show 2 ≤ sizeLine; decide, fun p hp => k _ p ((sz.trans (same_new hp))) upd_same⟩⟩
theorem ok_bit_set (T : Txt K mg C) : DefOk P w K mg base "bit_set" ["x", "y", "n", "flags", "width"] 3 (spO R_bit_set) := by
  refine def_ok T.d_bit_set sc_bit_set (fun vs H Q E h => ?_) (fun f cdv A outer s H vs Q E hr h => ?_)
  · obtain ⟨a, b, hR, _⟩ := h; cases hR <;> rfl
  · obtain ⟨a, b, hR, k⟩ := h
    cases hR with
    | mk hpre =>
      refine ⟨_, (pss_one (ps_ret (pe_tup pa_ev))), ?_⟩
      exact ⟨_, (Pas.cons (Pe.bin (Pe.var 0 rfl) (Pe.bin Pe.int (Pe.bin (Pe.var 2 rfl) (Pe.var 4 rfl) (b_mod (by walk_at "w"))) (b_pow2 (by walk_at "w") (by walk_at "w"))) b_or) (Pas.cons (Pe.call (ok_bit_told T) (hr.mono (by decide)) (Pas.cons (Pe.var 0 rfl) (Pas.cons (Pe.var 2 rfl) (Pas.cons (Pe.var 3 rfl) (Pas.cons (Pe.var 4 rfl) Pas.nil)))) (fun _ _ => R_bit_told.mk (by walk_at "w"))) Pas.nil)), fun Hz sz => ⟨by show 2 ≤ sizeLine; decide, fun p hp => k _ p ((sz.trans (same_new hp))) upd_same⟩⟩
theorem ok_bit_cleared (T : Txt K mg C) : DefOk P w K mg base "bit_cleared" ["x", "y", "n", "flags", "width"] 3 (spO R_bit_cleared) := by
  refine def_ok T.d_bit_cleared sc_bit_cleared (fun vs H Q E h => ?_) (fun f cdv A outer s H vs Q E hr h => ?_)
  · obtain ⟨a, b, hR, _⟩ := h; cases hR <;> rfl
  · obtain ⟨a, b, hR, k⟩ := h
    cases hR with
    | mk hpre =>
      refine ⟨_, (pss_one (ps_ret (pe_tup pa_ev))), ?_⟩
      exact ⟨_, (Pas.cons (Pe.bin (Pe.var 0 rfl) (Pe.un (Pe.bin Pe.int (Pe.bin (Pe.var 2 rfl) (Pe.var 4 rfl) (b_mod (by walk_at "w"))) (b_pow2 (by walk_at "w") (by walk_at "w"))) u_inv) b_and) (Pas.cons (Pe.call (ok_bit_told T) (hr.mono (by decide)) (Pas.cons (Pe.var 0 rfl) (Pas.cons (Pe.var 2 rfl) (Pas.cons (Pe.var 3 rfl) (Pas.cons (Pe.var 4 rfl) Pas.nil)))) (fun _ _ => R_bit_told.mk (by walk_at "w"))) Pas.nil)), fun Hz sz => ⟨by show 2 ≤ sizeLine; decide, fun p hp => k _ p ((sz.trans (same_new hp))) upd_same⟩⟩
theorem ok_bit_changed (T : Txt K mg C) : DefOk P w K mg base "bit_changed" ["x", "y", "n", "flags", "width"] 3 (spO R_bit_changed) := by
  refine def_ok T.d_bit_changed sc_bit_changed (fun vs H Q E h => ?_) (fun f cdv A outer s H vs Q E hr h => ?_)
  · obtain ⟨a, b, hR, _⟩ := h; cases hR <;> rfl
  · obtain ⟨a, b, hR, k⟩ := h
    cases hR with
    | mk hpre =>
      refine ⟨_, (pss_one (ps_ret (pe_tup pa_ev))), ?_⟩
      exact ⟨_, (Pas.cons (Pe.bin (Pe.var 0 rfl) (Pe.bin Pe.int (Pe.bin (Pe.var 2 rfl) (Pe.var 4 rfl) (b_mod (by walk_at "w"))) (b_pow2 (by walk_at "w") (by walk_at "w"))) b_xor) (Pas.cons (Pe.call (ok_bit_told T) (hr.mono (by decide)) (Pas.cons (Pe.var 0 rfl) (Pas.cons (Pe.var 2 rfl) (Pas.cons (Pe.var 3 rfl) (Pas.cons (Pe.var 4 rfl) Pas.nil)))) (fun _ _ => R_bit_told.mk (by walk_at "w"))) Pas.nil)), fun Hz sz => ⟨by show 2 ≤ sizeLine; decide, fun p hp => k _ p ((sz.trans (same_new hp))) upd_same⟩⟩
theorem rg8 {size : Nat} (h : size ≤ 8) : RgC 0 ((8 * size : Nat) : Int) 8 size := by
  have : size = 0 ∨ size = 1 ∨ size = 2 ∨ size = 3 ∨ size = 4 ∨ size = 5 ∨ size = 6 ∨ size = 7 ∨ size = 8 := by omega
  rcases this with rfl | rfl | rfl | rfl | rfl | rfl | rfl | rfl | rfl <;> exact ⟨by decide, by decide, by decide +kernel, by decide +kernel⟩
theorem bt_step (x i : Nat) : ((Wo.revI x i : Nat) : Int) * 2 ^ (8 : Int).toNat + (x : Int) / 2 ^ ((0 + (i : Nat) * 8 : Int)).toNat % 256 = ((Wo.revI x (i + 1) : Nat) : Int) := by
  have e1 : (2 : Int) ^ (8 : Int).toNat = 256 := by decide
  have e2 : (x : Int) / 2 ^ ((0 + (i : Nat) * 8 : Int)).toNat % 256 = ((x / 256 ^ i % 256 : Nat) : Int) := by
    rw [show ((0 + (i : Nat) * 8 : Int)).toNat = 8 * i by omega, Wo.pow_cast, Nat.pow_mul]
    push_cast
    rfl
  rw [e1, e2]
  show _ = ((Wo.revI x i * 256 + x / 256 ^ i % 256 : Nat) : Int)
  push_cast
  rfl
theorem revI_lt (x : Nat) : ∀ i, Wo.revI x i < 256 ^ i
  | 0 => by show 0 < 1; decide
  | i + 1 => by
    show Wo.revI x i * 256 + x / 256 ^ i % 256 < 256 ^ (i + 1)
    have h := revI_lt x i
    have h2 := Nat.mod_lt (x / 256 ^ i) (show 0 < 256 by decide)
    rw [Nat.pow_succ]
    omega
theorem ok_bytes_turned_round (T : Txt K mg C) : DefOk P w K mg base "bytes_turned_round" ["x", "y", "n", "flags", "width"] 1 (spO R_bytes_turned_round) := by
  refine def_ok T.d_bytes_turned_round sc_bytes_turned_round (fun vs H Q E h => ?_) (fun f cdv A outer s H vs Q E hr h => ?_)
  · obtain ⟨a, b, hR, _⟩ := h; cases hR <;> rfl
  · obtain ⟨a, b, hR, k⟩ := h

    cases hR with
    | @mk x size y n flags hs =>
      refine ⟨_, (pss_cons (ps_set (i := 5) sc_bytes_turned_round.nd rfl (Or.inl rfl) pe_ev) (pss_cons (ps_for PassesOwn.never rfl (pi_range3 rfl T.nb_range pa_ev) (pg_name (i := 6) sc_bytes_turned_round.nd rfl (Or.inl rfl))
        (pss_one (ps_set (i := 5) sc_bytes_turned_round.nd rfl (Or.inl rfl) pe_ev))) (pss_one (ps_ret (pe_tup pa_ev))))), ?_⟩
      refine ⟨_, Pe.int, fun H1 s1 => ?_⟩
      refine ⟨_, (Pas.cons Pe.int (Pas.cons (Pe.var 4 rfl) (Pas.cons Pe.int Pas.nil))), fun H2 s2 => ⟨_, _, _, size, rfl, rg8 hs, ?_⟩⟩
      refine for_rangeC (fun i st' H' => Same H H' ∧ ∃ v6, st' = [some (.int (x : Int)), some (.int y), some (.int n), some (.int flags), some (.int ((8 * size : Nat) : Int)), some (.int ((Wo.revI x i : Nat) : Int)), v6]) ⟨s1.trans s2, _, rfl⟩ ?_ ?_
      · rintro i st' H' hi ⟨sH, v6, rfl⟩
        have hr := revI_lt x i
        have hp : 256 ^ i ≤ 256 ^ 8 := Nat.pow_le_pow_right (by decide) (by omega)
        have hq : (256 : Nat) ^ 8 < 2 ^ 100 := by decide
        refine ⟨_, Pe.bin (Pe.bin (Pe.var 5 rfl) Pe.int (b_shl (by decide) (by decide) (by omega))) (Pe.bin (Pe.bin (Pe.var 0 rfl) (Pe.var 6 rfl) (b_shr (by omega))) Pe.int b_and255) b_add, fun H3 s3 => ⟨sH.trans s3, some (.int (0 + (i : Nat) * 8)), ?_⟩⟩
        rw [← bt_step]
        rfl
      · rintro st' H' ⟨sH, v6, rfl⟩
        exact ⟨_, (Pas.cons (Pe.var 5 rfl) (Pas.cons (Pe.var 3 rfl) Pas.nil)), fun Hz sz => ⟨by show 2 ≤ sizeLine; decide, fun p hp => k _ p (sH.trans (sz.trans (same_new hp))) upd_same⟩⟩
theorem ok_placed (T : Txt K mg C) : DefOk P w K mg base "placed" ["op", "x", "y", "n", "flags", "width"] 4 (spO R_placed) := by
  refine def_ok T.d_placed sc_placed (fun vs H Q E h => ?_) (fun f cdv A outer s H vs Q E hr h => ?_)
  · obtain ⟨a, b, hR, _⟩ := h; cases hR <;> rfl
  · obtain ⟨a, b, hR, k⟩ := h
    cases hR with
    | k27 h =>
      obtain ⟨da, kvs, ma, D, DA⟩ := T.q_PLACES
      obtain ⟨f0, l0, m0⟩ := DA.1
      obtain ⟨f1, fd1, F1, m1, kp1, b1⟩ := (ok_lowest_one (P := P) (w := w) (base := base) T).ex
      obtain rfl := ref_inj m0 m1
      refine ⟨_, (pss_one (ps_ret (pe_callV pe_ev F1 (hr.mono (by decide)) kp1 b1 pa_ev))), ?_⟩
      exact ⟨_, Pe.dget (Pe.glob ⟨_, ma, rfl⟩) (Pe.var 0 rfl) D l0, fun H3 s3 => ⟨rfl, _, (Pas.cons (Pe.var 1 rfl) (Pas.cons (Pe.var 2 rfl) (Pas.cons (Pe.var 3 rfl) (Pas.cons (Pe.var 4 rfl) (Pas.cons (Pe.var 5 rfl) Pas.nil))))), fun H4 s4 => ⟨_, _, h, fun Hz p sz hp => k Hz p (((s3.trans s4).trans sz)) hp⟩⟩⟩
    | k28 h =>
      obtain ⟨da, kvs, ma, D, DA⟩ := T.q_PLACES
      obtain ⟨f0, l0, m0⟩ := DA.2.1
      obtain ⟨f1, fd1, F1, m1, kp1, b1⟩ := (ok_highest_one (P := P) (w := w) (base := base) T).ex
      obtain rfl := ref_inj m0 m1
      refine ⟨_, (pss_one (ps_ret (pe_callV pe_ev F1 (hr.mono (by decide)) kp1 b1 pa_ev))), ?_⟩
      exact ⟨_, Pe.dget (Pe.glob ⟨_, ma, rfl⟩) (Pe.var 0 rfl) D l0, fun H3 s3 => ⟨rfl, _, (Pas.cons (Pe.var 1 rfl) (Pas.cons (Pe.var 2 rfl) (Pas.cons (Pe.var 3 rfl) (Pas.cons (Pe.var 4 rfl) (Pas.cons (Pe.var 5 rfl) Pas.nil))))), fun H4 s4 => ⟨_, _, h, fun Hz p sz hp => k Hz p (((s3.trans s4).trans sz)) hp⟩⟩⟩
    | k29 h =>
      obtain ⟨da, kvs, ma, D, DA⟩ := T.q_PLACES
      obtain ⟨f0, l0, m0⟩ := DA.2.2.1
      obtain ⟨f1, fd1, F1, m1, kp1, b1⟩ := (ok_number_of_ones (P := P) (w := w) (base := base) T).ex
      obtain rfl := ref_inj m0 m1
      refine ⟨_, (pss_one (ps_ret (pe_callV pe_ev F1 (hr.mono (by decide)) kp1 b1 pa_ev))), ?_⟩
      exact ⟨_, Pe.dget (Pe.glob ⟨_, ma, rfl⟩) (Pe.var 0 rfl) D l0, fun H3 s3 => ⟨rfl, _, (Pas.cons (Pe.var 1 rfl) (Pas.cons (Pe.var 2 rfl) (Pas.cons (Pe.var 3 rfl) (Pas.cons (Pe.var 4 rfl) (Pas.cons (Pe.var 5 rfl) Pas.nil))))), fun H4 s4 => ⟨_, _, h, fun Hz p sz hp => k Hz p (((s3.trans s4).trans sz)) hp⟩⟩⟩
    | k30 h =>
      obtain ⟨da, kvs, ma, D, DA⟩ := T.q_PLACES
      obtain ⟨f0, l0, m0⟩ := DA.2.2.2.1
      obtain ⟨f1, fd1, F1, m1, kp1, b1⟩ := (ok_bytes_turned_round (P := P) (w := w) (base := base) T).ex
      obtain rfl := ref_inj m0 m1
      refine ⟨_, (pss_one (ps_ret (pe_callV pe_ev F1 (hr.mono (by decide)) kp1 b1 pa_ev))), ?_⟩
      exact ⟨_, Pe.dget (Pe.glob ⟨_, ma, rfl⟩) (Pe.var 0 rfl) D l0, fun H3 s3 => ⟨rfl, _, (Pas.cons (Pe.var 1 rfl) (Pas.cons (Pe.var 2 rfl) (Pas.cons (Pe.var 3 rfl) (Pas.cons (Pe.var 4 rfl) (Pas.cons (Pe.var 5 rfl) Pas.nil))))), fun H4 s4 => ⟨_, _, h, fun Hz p sz hp => k Hz p (((s3.trans s4).trans sz)) hp⟩⟩⟩
    | k31 h =>
      obtain ⟨da, kvs, ma, D, DA⟩ := T.q_PLACES
      obtain ⟨f0, l0, m0⟩ := DA.2.2.2.2.1
      obtain ⟨f1, fd1, F1, m1, kp1, b1⟩ := (ok_bit_asked (P := P) (w := w) (base := base) T).ex
      obtain rfl := ref_inj m0 m1
      refine ⟨_, (pss_one (ps_ret (pe_callV pe_ev F1 (hr.mono (by decide)) kp1 b1 pa_ev))), ?_⟩
      exact ⟨_, Pe.dget (Pe.glob ⟨_, ma, rfl⟩) (Pe.var 0 rfl) D l0, fun H3 s3 => ⟨rfl, _, (Pas.cons (Pe.var 1 rfl) (Pas.cons (Pe.var 2 rfl) (Pas.cons (Pe.var 3 rfl) (Pas.cons (Pe.var 4 rfl) (Pas.cons (Pe.var 5 rfl) Pas.nil))))), fun H4 s4 => ⟨_, _, h, fun Hz p sz hp => k Hz p (((s3.trans s4).trans sz)) hp⟩⟩⟩
    | k32 h =>
      obtain ⟨da, kvs, ma, D, DA⟩ := T.q_PLACES
      obtain ⟨f0, l0, m0⟩ := DA.2.2.2.2.2.1
      obtain ⟨f1, fd1, F1, m1, kp1, b1⟩ := (ok_bit_set (P := P) (w := w) (base := base) T).ex
      obtain rfl := ref_inj m0 m1
      refine ⟨_, (pss_one (ps_ret (pe_callV pe_ev F1 (hr.mono (by decide)) kp1 b1 pa_ev))), ?_⟩
      exact ⟨_, Pe.dget (Pe.glob ⟨_, ma, rfl⟩) (Pe.var 0 rfl) D l0, fun H3 s3 => ⟨rfl, _, (Pas.cons (Pe.var 1 rfl) (Pas.cons (Pe.var 2 rfl) (Pas.cons (Pe.var 3 rfl) (Pas.cons (Pe.var 4 rfl) (Pas.cons (Pe.var 5 rfl) Pas.nil))))), fun H4 s4 => ⟨_, _, h, fun Hz p sz hp => k Hz p (((s3.trans s4).trans sz)) hp⟩⟩⟩
    | k33 h =>
      obtain ⟨da, kvs, ma, D, DA⟩ := T.q_PLACES
      obtain ⟨f0, l0, m0⟩ := DA.2.2.2.2.2.2.1
      obtain ⟨f1, fd1, F1, m1, kp1, b1⟩ := (ok_bit_cleared (P := P) (w := w) (base := base) T).ex
      obtain rfl := ref_inj m0 m1
      refine ⟨_, (pss_one (ps_ret (pe_callV pe_ev F1 (hr.mono (by decide)) kp1 b1 pa_ev))), ?_⟩
      exact ⟨_, Pe.dget (Pe.glob ⟨_, ma, rfl⟩) (Pe.var 0 rfl) D l0, fun H3 s3 => ⟨rfl, _, (Pas.cons (Pe.var 1 rfl) (Pas.cons (Pe.var 2 rfl) (Pas.cons (Pe.var 3 rfl) (Pas.cons (Pe.var 4 rfl) (Pas.cons (Pe.var 5 rfl) Pas.nil))))), fun H4 s4 => ⟨_, _, h, fun Hz p sz hp => k Hz p (((s3.trans s4).trans sz)) hp⟩⟩⟩
    | k34 h =>
      obtain ⟨da, kvs, ma, D, DA⟩ := T.q_PLACES
      obtain ⟨f0, l0, m0⟩ := DA.2.2.2.2.2.2.2
      obtain ⟨f1, fd1, F1, m1, kp1, b1⟩ := (ok_bit_changed (P := P) (w := w) (base := base) T).ex
      obtain rfl := ref_inj m0 m1
      refine ⟨_, (pss_one (ps_ret (pe_callV pe_ev F1 (hr.mono (by decide)) kp1 b1 pa_ev))), ?_⟩
      exact ⟨_, Pe.dget (Pe.glob ⟨_, ma, rfl⟩) (Pe.var 0 rfl) D l0, fun H3 s3 => ⟨rfl, _, (Pas.cons (Pe.var 1 rfl) (Pas.cons (Pe.var 2 rfl) (Pas.cons (Pe.var 3 rfl) (Pas.cons (Pe.var 4 rfl) (Pas.cons (Pe.var 5 rfl) Pas.nil))))), fun H4 s4 => ⟨_, _, h, fun Hz p sz hp => k Hz p (((s3.trans s4).trans sz)) hp⟩⟩⟩
end
end We
end

section
set_option Elab.async false
set_option linter.all false
set_option maxRecDepth 100000
set_option maxHeartbeats 4000000
namespace We
open PySem PySem.Spec PyProof.Rows L2
local macro_rules | `(tactic| walk_at "w") => `(tactic| first | omega | assumption | exact hb_small _ _ | exact pow_pos _ | exact md0 (by omega) | exact md1 (by omega) (by omega) | exact sm_x (by assumption) | exact sm_y (by assumption) | exact tl1 (by assumption) | exact tl2 (by assumption) | exact tl3 (by assumption) | exact tl4 (by assumption) | exact ab_ok (by assumption) | (refine ⟨by omega, ?_⟩; omega))
inductive R_shift_count : List V → V → Prop
  | mk {n : Int} {width : Int} : R_shift_count [.int n, .int width] (.int (Wm.shift_count n width))
inductive R_shift_flags : List V → V → Prop
  | mk {result : Int} {carry : Bool} {overflow : Bool} {width : Int} (hpre : 1 ≤ width ∧ width ≤ 1000) : R_shift_flags [.int result, .bl carry, .bl overflow, .int width] (.int (Wm.shift_flags result carry overflow width))
inductive R_turn_flags : List V → V → Prop
  | mk {flags : Int} {carry : Bool} {overflow : Bool} : R_turn_flags [.int flags, .bl carry, .bl overflow] (.int (Wm.turn_flags flags carry overflow))
inductive R_two_highest_differ : List V → V → Prop
  | mk {number : Int} {width : Int} (hpre : 2 ≤ width) : R_two_highest_differ [.int number, .int width] (.bl (Wm.two_highest_differ number width))
inductive R_turned_left : List V → V → Prop
  | mk {number : Int} {k : Int} {width : Int} (hpre : (0 ≤ number ∧ number < 2 ^ 65) ∧ (0 ≤ k ∧ k ≤ width) ∧ width ≤ 1000) : R_turned_left [.int number, .int k, .int width] (.int (Wm.turned_left number k width))
inductive R_left : List V → V → V → Prop
  | mk {x : Int} {y : Int} {k : Int} {flags : Int} {width : Int} (hpre : (2 ≤ width ∧ width ≤ 64) ∧ (1 ≤ k ∧ k ≤ 63) ∧ Small x width ∧ Small y width) : R_left [.int x, .int y, .int k, .int flags, .int width] (.int ((Wm.cut ((x * 2 ^ Int.toNat (k))) (width)))) (.int ((Wm.shift_flags ((Wm.cut ((x * 2 ^ Int.toNat (k))) (width))) ((decide ((Wm.bit ((x * 2 ^ Int.toNat (k))) (width)) = 1))) ((!decide ((Wm.highest_bit ((Wm.cut ((x * 2 ^ Int.toNat (k))) (width))) (width)) = (Wm.bit ((x * 2 ^ Int.toNat (k))) (width))))) (width))))
inductive R_right : List V → V → V → Prop
  | mk {x : Int} {y : Int} {k : Int} {flags : Int} {width : Int} (hpre : (2 ≤ width ∧ width ≤ 64) ∧ (1 ≤ k ∧ k ≤ 63) ∧ Small x width ∧ Small y width) : R_right [.int x, .int y, .int k, .int flags, .int width] (.int ((x / 2 ^ Int.toNat (k)))) (.int ((Wm.shift_flags ((x / 2 ^ Int.toNat (k))) ((decide ((Wm.bit (x) ((k - 1))) = 1))) ((decide ((Wm.highest_bit (x) (width)) = 1))) (width))))
inductive R_right_with_sign : List V → V → V → Prop
  | mk {x : Int} {y : Int} {k : Int} {flags : Int} {width : Int} (hpre : (2 ≤ width ∧ width ≤ 64) ∧ (1 ≤ k ∧ k ≤ 63) ∧ Small x width ∧ Small y width) : R_right_with_sign [.int x, .int y, .int k, .int flags, .int width] (.int ((Wm.cut (((Wm.signed (x) (width)) / 2 ^ Int.toNat (k))) (width)))) (.int ((Wm.shift_flags ((Wm.cut (((Wm.signed (x) (width)) / 2 ^ Int.toNat (k))) (width))) ((decide ((Wm.bit ((Wm.signed (x) (width))) ((k - 1))) = 1))) (false) (width))))
inductive R_turn_left : List V → V → V → Prop
  | mk {x : Int} {y : Int} {k : Int} {flags : Int} {width : Int} (hpre : (2 ≤ width ∧ width ≤ 64) ∧ (1 ≤ k ∧ k ≤ 63) ∧ Small x width ∧ Small y width) : R_turn_left [.int x, .int y, .int k, .int flags, .int width] (.int ((Wm.turned_left (x) ((k % width)) (width)))) (.int ((Wm.turn_flags (flags) ((decide ((Wm.bit ((Wm.turned_left (x) ((k % width)) (width))) (0)) = 1))) ((!decide ((Wm.highest_bit ((Wm.turned_left (x) ((k % width)) (width))) (width)) = (Wm.bit ((Wm.turned_left (x) ((k % width)) (width))) (0))))))))
inductive R_turn_right : List V → V → V → Prop
  | mk {x : Int} {y : Int} {k : Int} {flags : Int} {width : Int} (hpre : (2 ≤ width ∧ width ≤ 64) ∧ (1 ≤ k ∧ k ≤ 63) ∧ Small x width ∧ Small y width) : R_turn_right [.int x, .int y, .int k, .int flags, .int width] (.int ((Wm.turned_left (x) ((width - (k % width))) (width)))) (.int ((Wm.turn_flags (flags) ((decide ((Wm.highest_bit ((Wm.turned_left (x) ((width - (k % width))) (width))) (width)) = 1))) ((Wm.two_highest_differ ((Wm.turned_left (x) ((width - (k % width))) (width))) (width))))))
inductive R_turn_left_through_carry : List V → V → V → Prop
  | mk0 {x : Int} {y : Int} {k : Int} {flags : Int} {width : Int} (hpre : (2 ≤ width ∧ width ≤ 64) ∧ (1 ≤ k ∧ k ≤ 63) ∧ Small x width ∧ Small y width) (h0 : (decide ((k % (width + 1)) = 0)) = true) : R_turn_left_through_carry [.int x, .int y, .int k, .int flags, .int width] .non (.int (flags))
  | mk1 {x : Int} {y : Int} {k : Int} {flags : Int} {width : Int} (hpre : (2 ≤ width ∧ width ≤ 64) ∧ (1 ≤ k ∧ k ≤ 63) ∧ Small x width ∧ Small y width) (h0 : (decide ((k % (width + 1)) = 0)) = false) : R_turn_left_through_carry [.int x, .int y, .int k, .int flags, .int width] (.int ((Wm.turned_left ((x + ((flags % 2) * 2 ^ Int.toNat (width)))) ((k % (width + 1))) ((width + 1))))) (.int ((Wm.turn_flags (flags) ((decide ((Wm.bit ((Wm.turned_left ((x + ((flags % 2) * 2 ^ Int.toNat (width)))) ((k % (width + 1))) ((width + 1)))) (width)) = 1))) ((!decide ((Wm.highest_bit ((Wm.turned_left ((x + ((flags % 2) * 2 ^ Int.toNat (width)))) ((k % (width + 1))) ((width + 1)))) (width)) = (Wm.bit ((Wm.turned_left ((x + ((flags % 2) * 2 ^ Int.toNat (width)))) ((k % (width + 1))) ((width + 1)))) (width))))))))
inductive R_turn_right_through_carry : List V → V → V → Prop
  | mk0 {x : Int} {y : Int} {k : Int} {flags : Int} {width : Int} (hpre : (2 ≤ width ∧ width ≤ 64) ∧ (1 ≤ k ∧ k ≤ 63) ∧ Small x width ∧ Small y width) (h0 : (decide ((k % (width + 1)) = 0)) = true) : R_turn_right_through_carry [.int x, .int y, .int k, .int flags, .int width] .non (.int (flags))
  | mk1 {x : Int} {y : Int} {k : Int} {flags : Int} {width : Int} (hpre : (2 ≤ width ∧ width ≤ 64) ∧ (1 ≤ k ∧ k ≤ 63) ∧ Small x width ∧ Small y width) (h0 : (decide ((k % (width + 1)) = 0)) = false) : R_turn_right_through_carry [.int x, .int y, .int k, .int flags, .int width] (.int ((Wm.turned_left ((x + ((flags % 2) * 2 ^ Int.toNat (width)))) (((width + 1) - (k % (width + 1)))) ((width + 1))))) (.int ((Wm.turn_flags (flags) ((decide ((Wm.bit ((Wm.turned_left ((x + ((flags % 2) * 2 ^ Int.toNat (width)))) (((width + 1) - (k % (width + 1)))) ((width + 1)))) (width)) = 1))) ((Wm.two_highest_differ ((Wm.turned_left ((x + ((flags % 2) * 2 ^ Int.toNat (width)))) (((width + 1) - (k % (width + 1)))) ((width + 1)))) (width))))))
inductive R_fill_flags : List V → V → Prop
  | mk {x : Int} {result : Int} {carry : Int} {width : Int} (hpre : 1 ≤ width ∧ width ≤ 1000) : R_fill_flags [.int x, .int result, .int carry, .int width] (.int (Wm.fill_flags x result carry width))
inductive R_left_filled : List V → V → V → Prop
  | mk {x : Int} {y : Int} {k : Int} {flags : Int} {width : Int} (hpre : (2 ≤ width ∧ width ≤ 64) ∧ (1 ≤ k ∧ k ≤ 63 ∧ k ≤ width) ∧ Small x width ∧ Small y width) : R_left_filled [.int x, .int y, .int k, .int flags, .int width] (.int ((Wm.cut (((x * 2 ^ Int.toNat (k)) + (y / 2 ^ Int.toNat ((width - k))))) (width)))) (.int ((Wm.fill_flags (x) ((Wm.cut (((x * 2 ^ Int.toNat (k)) + (y / 2 ^ Int.toNat ((width - k))))) (width))) ((Wm.bit (x) ((width - k)))) (width))))
inductive R_right_filled : List V → V → V → Prop
  | mk {x : Int} {y : Int} {k : Int} {flags : Int} {width : Int} (hpre : (2 ≤ width ∧ width ≤ 64) ∧ (1 ≤ k ∧ k ≤ 63 ∧ k ≤ width) ∧ Small x width ∧ Small y width) : R_right_filled [.int x, .int y, .int k, .int flags, .int width] (.int ((Wm.cut (((x / 2 ^ Int.toNat (k)) + (y * 2 ^ Int.toNat ((width - k))))) (width)))) (.int ((Wm.fill_flags (x) ((Wm.cut (((x / 2 ^ Int.toNat (k)) + (y * 2 ^ Int.toNat ((width - k))))) (width))) ((Wm.bit (x) ((k - 1)))) (width))))
inductive R_shifted : List V → V → V → Prop
  | none {op : Int} {x : Int} {y : Int} {n : Int} {flags : Int} {width : Int} (h0 : (decide ((Wm.shift_count (n) (width)) = 0)) = true) : R_shifted [.int op, .int x, .int y, .int n, .int flags, .int width] .non (.int (flags))
  | k14 {x y n flags width : Int} {a b : V} (h0 : (decide ((Wm.shift_count (n) (width)) = 0)) = false) (h : R_left [.int (x), .int (y), .int ((Wm.shift_count (n) (width))), .int (flags), .int (width)] a b) : R_shifted [.int 14, .int x, .int y, .int n, .int flags, .int width] a b
  | k15 {x y n flags width : Int} {a b : V} (h0 : (decide ((Wm.shift_count (n) (width)) = 0)) = false) (h : R_right [.int (x), .int (y), .int ((Wm.shift_count (n) (width))), .int (flags), .int (width)] a b) : R_shifted [.int 15, .int x, .int y, .int n, .int flags, .int width] a b
  | k16 {x y n flags width : Int} {a b : V} (h0 : (decide ((Wm.shift_count (n) (width)) = 0)) = false) (h : R_right_with_sign [.int (x), .int (y), .int ((Wm.shift_count (n) (width))), .int (flags), .int (width)] a b) : R_shifted [.int 16, .int x, .int y, .int n, .int flags, .int width] a b
  | k17 {x y n flags width : Int} {a b : V} (h0 : (decide ((Wm.shift_count (n) (width)) = 0)) = false) (h : R_turn_left [.int (x), .int (y), .int ((Wm.shift_count (n) (width))), .int (flags), .int (width)] a b) : R_shifted [.int 17, .int x, .int y, .int n, .int flags, .int width] a b
  | k18 {x y n flags width : Int} {a b : V} (h0 : (decide ((Wm.shift_count (n) (width)) = 0)) = false) (h : R_turn_right [.int (x), .int (y), .int ((Wm.shift_count (n) (width))), .int (flags), .int (width)] a b) : R_shifted [.int 18, .int x, .int y, .int n, .int flags, .int width] a b
  | k19 {x y n flags width : Int} {a b : V} (h0 : (decide ((Wm.shift_count (n) (width)) = 0)) = false) (h : R_turn_left_through_carry [.int (x), .int (y), .int ((Wm.shift_count (n) (width))), .int (flags), .int (width)] a b) : R_shifted [.int 19, .int x, .int y, .int n, .int flags, .int width] a b
  | k20 {x y n flags width : Int} {a b : V} (h0 : (decide ((Wm.shift_count (n) (width)) = 0)) = false) (h : R_turn_right_through_carry [.int (x), .int (y), .int ((Wm.shift_count (n) (width))), .int (flags), .int (width)] a b) : R_shifted [.int 20, .int x, .int y, .int n, .int flags, .int width] a b
  | k21 {x y n flags width : Int} {a b : V} (h0 : (decide ((Wm.shift_count (n) (width)) = 0)) = false) (h : R_left_filled [.int (x), .int (y), .int ((Wm.shift_count (n) (width))), .int (flags), .int (width)] a b) : R_shifted [.int 21, .int x, .int y, .int n, .int flags, .int width] a b
  | k22 {x y n flags width : Int} {a b : V} (h0 : (decide ((Wm.shift_count (n) (width)) = 0)) = false) (h : R_right_filled [.int (x), .int (y), .int ((Wm.shift_count (n) (width))), .int (flags), .int (width)] a b) : R_shifted [.int 22, .int x, .int y, .int n, .int flags, .int width] a b
section
variable {P : Program} {w : World} {K : PySem.W.Frag} {mg : Str → Option Value} {base : Heap} {C : Addr}
theorem ok_shift_count (T : Txt K mg C) : DefOk P w K mg base "shift_count" ["n", "width"] 1 (spR fun _ => R_shift_count) := by
  refine def_ok T.d_shift_count sc_shift_count (fun vs H Q E h => ?_) (fun f cdv A outer s H vs Q E hr h => ?_)
  · obtain ⟨v, hR, _⟩ := h; cases hR <;> rfl
  · obtain ⟨v, hR, k⟩ := h
    cases hR with
    | mk =>
      refine ⟨_, (pss_one (ps_ret pe_ev)), ?_⟩
      exact ⟨_, (Pe.ifInt (Pt.cmp (Pe.var 1 rfl) Pe.int c_eq (nomark _)) (fun hif => (Pe.bin (Pe.var 0 rfl) Pe.int (b_mod (by walk_at "w")))) (fun hif => (Pe.bin (Pe.var 0 rfl) Pe.int (b_mod (by walk_at "w"))))), fun Hz sz => k Hz sz⟩
theorem ok_shift_flags (T : Txt K mg C) : DefOk P w K mg base "shift_flags" ["result", "carry", "overflow", "width"] 4 (spR fun _ => R_shift_flags) := by
  refine def_ok T.d_shift_flags sc_shift_flags (fun vs H Q E h => ?_) (fun f cdv A outer s H vs Q E hr h => ?_)
  · obtain ⟨v, hR, _⟩ := h; cases hR <;> rfl
  · obtain ⟨v, hR, k⟩ := h
    cases hR with
    | mk hpre =>
      refine ⟨_, (pss_one (ps_ret pe_ev)), ?_⟩
      exact ⟨_, (Pe.bin (Pe.bin (Pe.call (ok_flags_of T) (hr.mono (by decide)) (Pas.cons (Pe.var 0 rfl) (Pas.cons (Pe.var 3 rfl) Pas.nil)) (fun _ _ => R_flags_of.mk (by walk_at "w"))) (Pe.call (ok_when T) (hr.mono (by decide)) (Pas.cons (Pe.glob T.g_CARRY) (Pas.cons (Pe.var 1 rfl) Pas.nil)) (fun _ _ => R_when.mk)) b_add) (Pe.call (ok_when T) (hr.mono (by decide)) (Pas.cons (Pe.glob T.g_OVERFLOW) (Pas.cons (Pe.var 2 rfl) Pas.nil)) (fun _ _ => R_when.mk)) b_add), fun Hz sz => k Hz sz⟩
theorem ok_turn_flags (T : Txt K mg C) : DefOk P w K mg base "turn_flags" ["flags", "carry", "overflow"] 2 (spR fun _ => R_turn_flags) := by
  refine def_ok T.d_turn_flags sc_turn_flags (fun vs H Q E h => ?_) (fun f cdv A outer s H vs Q E hr h => ?_)
  · obtain ⟨v, hR, _⟩ := h; cases hR <;> rfl
  · obtain ⟨v, hR, k⟩ := h
    cases hR with
    | mk =>
      refine ⟨_, (pss_one (ps_ret pe_ev)), ?_⟩
      exact ⟨_, (Pe.call (ok_replaced T) (hr.mono (by decide)) (Pas.cons (Pe.var 0 rfl) (Pas.cons (Pe.bin (Pe.glob T.g_CARRY) (Pe.glob T.g_OVERFLOW) b_add) (Pas.cons (Pe.bin (Pe.call (ok_when T) (hr.mono (by decide)) (Pas.cons (Pe.glob T.g_CARRY) (Pas.cons (Pe.var 1 rfl) Pas.nil)) (fun _ _ => R_when.mk)) (Pe.call (ok_when T) (hr.mono (by decide)) (Pas.cons (Pe.glob T.g_OVERFLOW) (Pas.cons (Pe.var 2 rfl) Pas.nil)) (fun _ _ => R_when.mk)) b_add) Pas.nil))) (fun _ _ => R_replaced.mk)), fun Hz sz => k Hz sz⟩
theorem ok_two_highest_differ (T : Txt K mg C) : DefOk P w K mg base "two_highest_differ" ["number", "width"] 2 (spR fun _ => R_two_highest_differ) := by
  refine def_ok T.d_two_highest_differ sc_two_highest_differ (fun vs H Q E h => ?_) (fun f cdv A outer s H vs Q E hr h => ?_)
  · obtain ⟨v, hR, _⟩ := h; cases hR <;> rfl
  · obtain ⟨v, hR, k⟩ := h
    cases hR with
    | mk hpre =>
      refine ⟨_, (pss_one (ps_ret pe_ev)), ?_⟩
      exact ⟨_, (Pe.cmp (Pe.call (ok_bit T) (hr.mono (by decide)) (Pas.cons (Pe.var 0 rfl) (Pas.cons (Pe.bin (Pe.var 1 rfl) Pe.int b_sub) Pas.nil)) (fun _ _ => R_bit.mk (by walk_at "w"))) (Pe.call (ok_bit T) (hr.mono (by decide)) (Pas.cons (Pe.var 0 rfl) (Pas.cons (Pe.bin (Pe.var 1 rfl) Pe.int b_sub) Pas.nil)) (fun _ _ => R_bit.mk (by walk_at "w"))) c_ne (nomark _)), fun Hz sz => k Hz sz⟩
theorem ok_turned_left (T : Txt K mg C) : DefOk P w K mg base "turned_left" ["number", "k", "width"] 2 (spR fun _ => R_turned_left) := by
  refine def_ok T.d_turned_left sc_turned_left (fun vs H Q E h => ?_) (fun f cdv A outer s H vs Q E hr h => ?_)
  · obtain ⟨v, hR, _⟩ := h; cases hR <;> rfl
  · obtain ⟨v, hR, k⟩ := h
    cases hR with
    | mk hpre =>
      refine ⟨_, (pss_one (ps_ret pe_ev)), ?_⟩
      exact ⟨_, (Pe.call (ok_cut T) (hr.mono (by decide)) (Pas.cons (Pe.bin (Pe.bin (Pe.var 0 rfl) (Pe.var 1 rfl) (b_shl (by walk_at "w") (by walk_at "w") (by walk_at "w"))) (Pe.bin (Pe.var 0 rfl) (Pe.bin (Pe.var 2 rfl) (Pe.var 1 rfl) b_sub) (b_shr (by walk_at "w"))) b_or) (Pas.cons (Pe.var 2 rfl) Pas.nil)) (fun _ _ => R_cut.mk (by walk_at "w"))), fun Hz sz => k Hz sz⟩
theorem ok_left (T : Txt K mg C) : DefOk P w K mg base "left" ["x", "y", "k", "flags", "width"] 5 (spO R_left) := by
  refine def_ok T.d_left sc_left (fun vs H Q E h => ?_) (fun f cdv A outer s H vs Q E hr h => ?_)
  · obtain ⟨a, b, hR, _⟩ := h; cases hR <;> rfl
  · obtain ⟨a, b, hR, k⟩ := h
    cases hR with
    | mk hpre =>
      refine ⟨_, (pss_cons (ps_set (i := 5) sc_left.nd rfl (Or.inl rfl) pe_ev) (pss_cons (ps_set (i := 6) sc_left.nd rfl (Or.inl rfl) pe_ev) (pss_one (ps_ret (pe_tup pa_ev))))), ?_⟩
      refine ⟨_, (Pe.call (ok_cut T) (hr.mono (by decide)) (Pas.cons (Pe.bin (Pe.var 0 rfl) (Pe.var 2 rfl) (b_shl (by walk_at "w") (by walk_at "w") (by walk_at "w"))) (Pas.cons (Pe.var 4 rfl) Pas.nil)) (fun _ _ => R_cut.mk (by walk_at "w"))), fun H1 s1 => ?_⟩
      refine ⟨_, (Pe.call (ok_bit T) (hr.mono (by decide)) (Pas.cons (Pe.bin (Pe.var 0 rfl) (Pe.var 2 rfl) (b_shl (by walk_at "w") (by walk_at "w") (by walk_at "w"))) (Pas.cons (Pe.var 4 rfl) Pas.nil)) (fun _ _ => R_bit.mk (by walk_at "w"))), fun H2 s2 => ?_⟩
      exact ⟨_, (Pas.cons (Pe.var 5 rfl) (Pas.cons (Pe.call (ok_shift_flags T) (hr.mono (by decide)) (Pas.cons (Pe.var 5 rfl) (Pas.cons (Pe.cmp (Pe.var 6 rfl) Pe.int c_eq (nomark _)) (Pas.cons (Pe.cmp (Pe.call (ok_highest_bit T) (hr.mono (by decide)) (Pas.cons (Pe.var 5 rfl) (Pas.cons (Pe.var 4 rfl) Pas.nil)) (fun _ _ => R_highest_bit.mk (by walk_at "w"))) (Pe.var 6 rfl) c_ne (nomark _)) (Pas.cons (Pe.var 4 rfl) Pas.nil)))) (fun _ _ => R_shift_flags.mk (by walk_at "w"))) Pas.nil)), fun Hz sz => ⟨by show 2 ≤ sizeLine; decide, fun p hp => k _ p (((s1.trans s2).trans (sz.trans (same_new hp)))) upd_same⟩⟩
theorem ok_right (T : Txt K mg C) : DefOk P w K mg base "right" ["x", "y", "k", "flags", "width"] 5 (spO R_right) := by
  refine def_ok T.d_right sc_right (fun vs H Q E h => ?_) (fun f cdv A outer s H vs Q E hr h => ?_)
  · obtain ⟨a, b, hR, _⟩ := h; cases hR <;> rfl
  · obtain ⟨a, b, hR, k⟩ := h
    cases hR with
    | mk hpre =>
      refine ⟨_, (pss_cons (ps_set (i := 5) sc_right.nd rfl (Or.inl rfl) pe_ev) (pss_one (ps_ret (pe_tup pa_ev)))), ?_⟩
      refine ⟨_, (Pe.bin (Pe.var 0 rfl) (Pe.var 2 rfl) (b_shr (by walk_at "w"))), fun H1 s1 => ?_⟩
      exact ⟨_, (Pas.cons (Pe.var 5 rfl) (Pas.cons (Pe.call (ok_shift_flags T) (hr.mono (by decide)) (Pas.cons (Pe.var 5 rfl) (Pas.cons (Pe.cmp (Pe.call (ok_bit T) (hr.mono (by decide)) (Pas.cons (Pe.var 0 rfl) (Pas.cons (Pe.bin (Pe.var 2 rfl) Pe.int b_sub) Pas.nil)) (fun _ _ => R_bit.mk (by walk_at "w"))) Pe.int c_eq (nomark _)) (Pas.cons (Pe.cmp (Pe.call (ok_highest_bit T) (hr.mono (by decide)) (Pas.cons (Pe.var 0 rfl) (Pas.cons (Pe.var 4 rfl) Pas.nil)) (fun _ _ => R_highest_bit.mk (by walk_at "w"))) Pe.int c_eq (nomark _)) (Pas.cons (Pe.var 4 rfl) Pas.nil)))) (fun _ _ => R_shift_flags.mk (by walk_at "w"))) Pas.nil)), fun Hz sz => ⟨by show 2 ≤ sizeLine; decide, fun p hp => k _ p ((s1.trans (sz.trans (same_new hp)))) upd_same⟩⟩
theorem ok_right_with_sign (T : Txt K mg C) : DefOk P w K mg base "right_with_sign" ["x", "y", "k", "flags", "width"] 5 (spO R_right_with_sign) := by
  refine def_ok T.d_right_with_sign sc_right_with_sign (fun vs H Q E h => ?_) (fun f cdv A outer s H vs Q E hr h => ?_)
  · obtain ⟨a, b, hR, _⟩ := h; cases hR <;> rfl
  · obtain ⟨a, b, hR, k⟩ := h
    cases hR with
    | mk hpre =>
      refine ⟨_, (pss_cons (ps_set (i := 5) sc_right_with_sign.nd rfl (Or.inl rfl) pe_ev) (pss_cons (ps_set (i := 6) sc_right_with_sign.nd rfl (Or.inl rfl) pe_ev) (pss_one (ps_ret (pe_tup pa_ev))))), ?_⟩
      refine ⟨_, (Pe.call (ok_signed T) (hr.mono (by decide)) (Pas.cons (Pe.var 0 rfl) (Pas.cons (Pe.var 4 rfl) Pas.nil)) (fun _ _ => R_signed.mk (by walk_at "w"))), fun H1 s1 => ?_⟩
      refine ⟨_, (Pe.call (ok_cut T) (hr.mono (by decide)) (Pas.cons (Pe.bin (Pe.var 5 rfl) (Pe.var 2 rfl) (b_shr (by walk_at "w"))) (Pas.cons (Pe.var 4 rfl) Pas.nil)) (fun _ _ => R_cut.mk (by walk_at "w"))), fun H2 s2 => ?_⟩
      exact ⟨_, (Pas.cons (Pe.var 6 rfl) (Pas.cons (Pe.call (ok_shift_flags T) (hr.mono (by decide)) (Pas.cons (Pe.var 6 rfl) (Pas.cons (Pe.cmp (Pe.call (ok_bit T) (hr.mono (by decide)) (Pas.cons (Pe.var 5 rfl) (Pas.cons (Pe.bin (Pe.var 2 rfl) Pe.int b_sub) Pas.nil)) (fun _ _ => R_bit.mk (by walk_at "w"))) Pe.int c_eq (nomark _)) (Pas.cons Pe.bl (Pas.cons (Pe.var 4 rfl) Pas.nil)))) (fun _ _ => R_shift_flags.mk (by walk_at "w"))) Pas.nil)), fun Hz sz => ⟨by show 2 ≤ sizeLine; decide, fun p hp => k _ p (((s1.trans s2).trans (sz.trans (same_new hp)))) upd_same⟩⟩
theorem ok_turn_left (T : Txt K mg C) : DefOk P w K mg base "turn_left" ["x", "y", "k", "flags", "width"] 3 (spO R_turn_left) := by
  refine def_ok T.d_turn_left sc_turn_left (fun vs H Q E h => ?_) (fun f cdv A outer s H vs Q E hr h => ?_)
  · obtain ⟨a, b, hR, _⟩ := h; cases hR <;> rfl
  · obtain ⟨a, b, hR, k⟩ := h
    cases hR with
    | mk hpre =>
      refine ⟨_, (pss_cons (ps_set (i := 5) sc_turn_left.nd rfl (Or.inl rfl) pe_ev) (pss_cons (ps_set (i := 6) sc_turn_left.nd rfl (Or.inl rfl) pe_ev) (pss_one (ps_ret (pe_tup pa_ev))))), ?_⟩
      refine ⟨_, (Pe.call (ok_turned_left T) (hr.mono (by decide)) (Pas.cons (Pe.var 0 rfl) (Pas.cons (Pe.bin (Pe.var 2 rfl) (Pe.var 4 rfl) (b_mod (by walk_at "w"))) (Pas.cons (Pe.var 4 rfl) Pas.nil))) (fun _ _ => R_turned_left.mk (by walk_at "w"))), fun H1 s1 => ?_⟩
      refine ⟨_, (Pe.call (ok_bit T) (hr.mono (by decide)) (Pas.cons (Pe.var 5 rfl) (Pas.cons Pe.int Pas.nil)) (fun _ _ => R_bit.mk (by walk_at "w"))), fun H2 s2 => ?_⟩
      exact ⟨_, (Pas.cons (Pe.var 5 rfl) (Pas.cons (Pe.call (ok_turn_flags T) (hr.mono (by decide)) (Pas.cons (Pe.var 3 rfl) (Pas.cons (Pe.cmp (Pe.var 6 rfl) Pe.int c_eq (nomark _)) (Pas.cons (Pe.cmp (Pe.call (ok_highest_bit T) (hr.mono (by decide)) (Pas.cons (Pe.var 5 rfl) (Pas.cons (Pe.var 4 rfl) Pas.nil)) (fun _ _ => R_highest_bit.mk (by walk_at "w"))) (Pe.var 6 rfl) c_ne (nomark _)) Pas.nil))) (fun _ _ => R_turn_flags.mk)) Pas.nil)), fun Hz sz => ⟨by show 2 ≤ sizeLine; decide, fun p hp => k _ p (((s1.trans s2).trans (sz.trans (same_new hp)))) upd_same⟩⟩
theorem ok_turn_right (T : Txt K mg C) : DefOk P w K mg base "turn_right" ["x", "y", "k", "flags", "width"] 3 (spO R_turn_right) := by
  refine def_ok T.d_turn_right sc_turn_right (fun vs H Q E h => ?_) (fun f cdv A outer s H vs Q E hr h => ?_)
  · obtain ⟨a, b, hR, _⟩ := h; cases hR <;> rfl
  · obtain ⟨a, b, hR, k⟩ := h
    cases hR with
    | mk hpre =>
      refine ⟨_, (pss_cons (ps_set (i := 5) sc_turn_right.nd rfl (Or.inl rfl) pe_ev) (pss_one (ps_ret (pe_tup pa_ev)))), ?_⟩
      refine ⟨_, (Pe.call (ok_turned_left T) (hr.mono (by decide)) (Pas.cons (Pe.var 0 rfl) (Pas.cons (Pe.bin (Pe.var 4 rfl) (Pe.bin (Pe.var 2 rfl) (Pe.var 4 rfl) (b_mod (by walk_at "w"))) b_sub) (Pas.cons (Pe.var 4 rfl) Pas.nil))) (fun _ _ => R_turned_left.mk (by walk_at "w"))), fun H1 s1 => ?_⟩
      exact ⟨_, (Pas.cons (Pe.var 5 rfl) (Pas.cons (Pe.call (ok_turn_flags T) (hr.mono (by decide)) (Pas.cons (Pe.var 3 rfl) (Pas.cons (Pe.cmp (Pe.call (ok_highest_bit T) (hr.mono (by decide)) (Pas.cons (Pe.var 5 rfl) (Pas.cons (Pe.var 4 rfl) Pas.nil)) (fun _ _ => R_highest_bit.mk (by walk_at "w"))) Pe.int c_eq (nomark _)) (Pas.cons (Pe.call (ok_two_highest_differ T) (hr.mono (by decide)) (Pas.cons (Pe.var 5 rfl) (Pas.cons (Pe.var 4 rfl) Pas.nil)) (fun _ _ => R_two_highest_differ.mk (by walk_at "w"))) Pas.nil))) (fun _ _ => R_turn_flags.mk)) Pas.nil)), fun Hz sz => ⟨by show 2 ≤ sizeLine; decide, fun p hp => k _ p ((s1.trans (sz.trans (same_new hp)))) upd_same⟩⟩
theorem ok_turn_left_through_carry (T : Txt K mg C) : DefOk P w K mg base "turn_left_through_carry" ["x", "y", "k", "flags", "width"] 3 (spO R_turn_left_through_carry) := by
  refine def_ok T.d_turn_left_through_carry sc_turn_left_through_carry (fun vs H Q E h => ?_) (fun f cdv A outer s H vs Q E hr h => ?_)
  · obtain ⟨a, b, hR, _⟩ := h; cases hR <;> rfl
  · obtain ⟨a, b, hR, k⟩ := h
    cases hR with
    | mk0 hpre h0 =>
      refine ⟨_, (pss_cons (ps_set (i := 5) sc_turn_left_through_carry.nd rfl (Or.inl rfl) pe_ev) (pss_cons (ps_if pt_ev (pss_one (ps_ret (pe_tup pa_ev))) pss_nil) (pss_cons (ps_set (i := 6) sc_turn_left_through_carry.nd rfl (Or.inl rfl) pe_ev) (pss_cons (ps_set (i := 7) sc_turn_left_through_carry.nd rfl (Or.inl rfl) pe_ev) (pss_one (ps_ret (pe_tup pa_ev))))))), ?_⟩
      refine ⟨_, (Pe.bin (Pe.var 2 rfl) (Pe.bin (Pe.var 4 rfl) Pe.int b_add) (b_mod (by walk_at "w"))), fun H1 s1 => ?_⟩
      refine ⟨_, (Pt.cmp (Pe.var 5 rfl) Pe.int c_eq (nomark _)), fun H2 s2 => iteT h0 ?_⟩
      exact ⟨_, (Pas.cons Pe.non (Pas.cons (Pe.var 3 rfl) Pas.nil)), fun Hz sz => ⟨by show 2 ≤ sizeLine; decide, fun p hp => k _ p (((s1.trans s2).trans (sz.trans (same_new hp)))) upd_same⟩⟩
    | mk1 hpre h0 =>
      refine ⟨_, (pss_cons (ps_set (i := 5) sc_turn_left_through_carry.nd rfl (Or.inl rfl) pe_ev) (pss_cons (ps_if pt_ev (pss_one (ps_ret (pe_tup pa_ev))) pss_nil) (pss_cons (ps_set (i := 6) sc_turn_left_through_carry.nd rfl (Or.inl rfl) pe_ev) (pss_cons (ps_set (i := 7) sc_turn_left_through_carry.nd rfl (Or.inl rfl) pe_ev) (pss_one (ps_ret (pe_tup pa_ev))))))), ?_⟩
      refine ⟨_, (Pe.bin (Pe.var 2 rfl) (Pe.bin (Pe.var 4 rfl) Pe.int b_add) (b_mod (by walk_at "w"))), fun H1 s1 => ?_⟩
      refine ⟨_, (Pt.cmp (Pe.var 5 rfl) Pe.int c_eq (nomark _)), fun H2 s2 => iteF h0 ?_⟩
      refine ⟨_, (Pe.call (ok_turned_left T) (hr.mono (by decide)) (Pas.cons (Pe.bin (Pe.var 0 rfl) (Pe.bin (Pe.bin (Pe.var 3 rfl) (Pe.glob T.g_CARRY) b_and1) (Pe.var 4 rfl) (b_shl (by walk_at "w") (by walk_at "w") (by walk_at "w"))) b_add) (Pas.cons (Pe.var 5 rfl) (Pas.cons (Pe.bin (Pe.var 4 rfl) Pe.int b_add) Pas.nil))) (fun _ _ => R_turned_left.mk (by walk_at "w"))), fun H3 s3 => ?_⟩
      refine ⟨_, (Pe.call (ok_bit T) (hr.mono (by decide)) (Pas.cons (Pe.var 6 rfl) (Pas.cons (Pe.var 4 rfl) Pas.nil)) (fun _ _ => R_bit.mk (by walk_at "w"))), fun H4 s4 => ?_⟩
      exact ⟨_, (Pas.cons (Pe.var 6 rfl) (Pas.cons (Pe.call (ok_turn_flags T) (hr.mono (by decide)) (Pas.cons (Pe.var 3 rfl) (Pas.cons (Pe.cmp (Pe.var 7 rfl) Pe.int c_eq (nomark _)) (Pas.cons (Pe.cmp (Pe.call (ok_highest_bit T) (hr.mono (by decide)) (Pas.cons (Pe.var 6 rfl) (Pas.cons (Pe.var 4 rfl) Pas.nil)) (fun _ _ => R_highest_bit.mk (by walk_at "w"))) (Pe.var 7 rfl) c_ne (nomark _)) Pas.nil))) (fun _ _ => R_turn_flags.mk)) Pas.nil)), fun Hz sz => ⟨by show 2 ≤ sizeLine; decide, fun p hp => k _ p (((((s1.trans s2).trans s3).trans s4).trans (sz.trans (same_new hp)))) upd_same⟩⟩
theorem ok_turn_right_through_carry (T : Txt K mg C) : DefOk P w K mg base "turn_right_through_carry" ["x", "y", "k", "flags", "width"] 3 (spO R_turn_right_through_carry) := by
  refine def_ok T.d_turn_right_through_carry sc_turn_right_through_carry (fun vs H Q E h => ?_) (fun f cdv A outer s H vs Q E hr h => ?_)
  · obtain ⟨a, b, hR, _⟩ := h; cases hR <;> rfl
  · obtain ⟨a, b, hR, k⟩ := h
    cases hR with
    | mk0 hpre h0 =>
      refine ⟨_, (pss_cons (ps_set (i := 5) sc_turn_right_through_carry.nd rfl (Or.inl rfl) pe_ev) (pss_cons (ps_if pt_ev (pss_one (ps_ret (pe_tup pa_ev))) pss_nil) (pss_cons (ps_set (i := 6) sc_turn_right_through_carry.nd rfl (Or.inl rfl) pe_ev) (pss_one (ps_ret (pe_tup pa_ev)))))), ?_⟩
      refine ⟨_, (Pe.bin (Pe.var 2 rfl) (Pe.bin (Pe.var 4 rfl) Pe.int b_add) (b_mod (by walk_at "w"))), fun H1 s1 => ?_⟩
      refine ⟨_, (Pt.cmp (Pe.var 5 rfl) Pe.int c_eq (nomark _)), fun H2 s2 => iteT h0 ?_⟩
      exact ⟨_, (Pas.cons Pe.non (Pas.cons (Pe.var 3 rfl) Pas.nil)), fun Hz sz => ⟨by show 2 ≤ sizeLine; decide, fun p hp => k _ p (((s1.trans s2).trans (sz.trans (same_new hp)))) upd_same⟩⟩
    | mk1 hpre h0 =>
      refine ⟨_, (pss_cons (ps_set (i := 5) sc_turn_right_through_carry.nd rfl (Or.inl rfl) pe_ev) (pss_cons (ps_if pt_ev (pss_one (ps_ret (pe_tup pa_ev))) pss_nil) (pss_cons (ps_set (i := 6) sc_turn_right_through_carry.nd rfl (Or.inl rfl) pe_ev) (pss_one (ps_ret (pe_tup pa_ev)))))), ?_⟩
      refine ⟨_, (Pe.bin (Pe.var 2 rfl) (Pe.bin (Pe.var 4 rfl) Pe.int b_add) (b_mod (by walk_at "w"))), fun H1 s1 => ?_⟩
      refine ⟨_, (Pt.cmp (Pe.var 5 rfl) Pe.int c_eq (nomark _)), fun H2 s2 => iteF h0 ?_⟩
      refine ⟨_, (Pe.call (ok_turned_left T) (hr.mono (by decide)) (Pas.cons (Pe.bin (Pe.var 0 rfl) (Pe.bin (Pe.bin (Pe.var 3 rfl) (Pe.glob T.g_CARRY) b_and1) (Pe.var 4 rfl) (b_shl (by walk_at "w") (by walk_at "w") (by walk_at "w"))) b_add) (Pas.cons (Pe.bin (Pe.bin (Pe.var 4 rfl) Pe.int b_add) (Pe.var 5 rfl) b_sub) (Pas.cons (Pe.bin (Pe.var 4 rfl) Pe.int b_add) Pas.nil))) (fun _ _ => R_turned_left.mk (by walk_at "w"))), fun H3 s3 => ?_⟩
      exact ⟨_, (Pas.cons (Pe.var 6 rfl) (Pas.cons (Pe.call (ok_turn_flags T) (hr.mono (by decide)) (Pas.cons (Pe.var 3 rfl) (Pas.cons (Pe.cmp (Pe.call (ok_bit T) (hr.mono (by decide)) (Pas.cons (Pe.var 6 rfl) (Pas.cons (Pe.var 4 rfl) Pas.nil)) (fun _ _ => R_bit.mk (by walk_at "w"))) Pe.int c_eq (nomark _)) (Pas.cons (Pe.call (ok_two_highest_differ T) (hr.mono (by decide)) (Pas.cons (Pe.var 6 rfl) (Pas.cons (Pe.var 4 rfl) Pas.nil)) (fun _ _ => R_two_highest_differ.mk (by walk_at "w"))) Pas.nil))) (fun _ _ => R_turn_flags.mk)) Pas.nil)), fun Hz sz => ⟨by show 2 ≤ sizeLine; decide, fun p hp => k _ p ((((s1.trans s2).trans s3).trans (sz.trans (same_new hp)))) upd_same⟩⟩
theorem ok_fill_flags (T : Txt K mg C) : DefOk P w K mg base "fill_flags" ["x", "result", "carry", "width"] 5 (spR fun _ => R_fill_flags) := by
  refine def_ok T.d_fill_flags sc_fill_flags (fun vs H Q E h => ?_) (fun f cdv A outer s H vs Q E hr h => ?_)
  · obtain ⟨v, hR, _⟩ := h; cases hR <;> rfl
  · obtain ⟨v, hR, k⟩ := h
    cases hR with
    | mk hpre =>
      refine ⟨_, (pss_cons (ps_set (i := 4) sc_fill_flags.nd rfl (Or.inl rfl) pe_ev) (pss_one (ps_ret pe_ev))), ?_⟩
      refine ⟨_, (Pe.cmp (Pe.call (ok_highest_bit T) (hr.mono (by decide)) (Pas.cons (Pe.var 1 rfl) (Pas.cons (Pe.var 3 rfl) Pas.nil)) (fun _ _ => R_highest_bit.mk (by walk_at "w"))) (Pe.call (ok_highest_bit T) (hr.mono (by decide)) (Pas.cons (Pe.var 0 rfl) (Pas.cons (Pe.var 3 rfl) Pas.nil)) (fun _ _ => R_highest_bit.mk (by walk_at "w"))) c_ne (nomark _)), fun H1 s1 => ?_⟩
      exact ⟨_, (Pe.call (ok_shift_flags T) (hr.mono (by decide)) (Pas.cons (Pe.var 1 rfl) (Pas.cons (Pe.cmp (Pe.var 2 rfl) Pe.int c_eq (nomark _)) (Pas.cons (Pe.var 4 rfl) (Pas.cons (Pe.var 3 rfl) Pas.nil)))) (fun _ _ => R_shift_flags.mk (by walk_at "w"))), fun Hz sz => k Hz (s1.trans sz)⟩
theorem ok_left_filled (T : Txt K mg C) : DefOk P w K mg base "left_filled" ["x", "y", "k", "flags", "width"] 6 (spO R_left_filled) := by
  refine def_ok T.d_left_filled sc_left_filled (fun vs H Q E h => ?_) (fun f cdv A outer s H vs Q E hr h => ?_)
  · obtain ⟨a, b, hR, _⟩ := h; cases hR <;> rfl
  · obtain ⟨a, b, hR, k⟩ := h
    cases hR with
    | mk hpre =>
      refine ⟨_, (pss_cons (ps_set (i := 5) sc_left_filled.nd rfl (Or.inl rfl) pe_ev) (pss_one (ps_ret (pe_tup pa_ev)))), ?_⟩
      refine ⟨_, (Pe.call (ok_cut T) (hr.mono (by decide)) (Pas.cons (Pe.bin (Pe.bin (Pe.var 0 rfl) (Pe.var 2 rfl) (b_shl (by walk_at "w") (by walk_at "w") (by walk_at "w"))) (Pe.bin (Pe.var 1 rfl) (Pe.bin (Pe.var 4 rfl) (Pe.var 2 rfl) b_sub) (b_shr (by walk_at "w"))) b_add) (Pas.cons (Pe.var 4 rfl) Pas.nil)) (fun _ _ => R_cut.mk (by walk_at "w"))), fun H1 s1 => ?_⟩
      exact ⟨_, (Pas.cons (Pe.var 5 rfl) (Pas.cons (Pe.call (ok_fill_flags T) (hr.mono (by decide)) (Pas.cons (Pe.var 0 rfl) (Pas.cons (Pe.var 5 rfl) (Pas.cons (Pe.call (ok_bit T) (hr.mono (by decide)) (Pas.cons (Pe.var 0 rfl) (Pas.cons (Pe.bin (Pe.var 4 rfl) (Pe.var 2 rfl) b_sub) Pas.nil)) (fun _ _ => R_bit.mk (by walk_at "w"))) (Pas.cons (Pe.var 4 rfl) Pas.nil)))) (fun _ _ => R_fill_flags.mk (by walk_at "w"))) Pas.nil)), fun Hz sz => ⟨by show 2 ≤ sizeLine; decide, fun p hp => k _ p ((s1.trans (sz.trans (same_new hp)))) upd_same⟩⟩
theorem ok_right_filled (T : Txt K mg C) : DefOk P w K mg base "right_filled" ["x", "y", "k", "flags", "width"] 6 (spO R_right_filled) := by
  refine def_ok T.d_right_filled sc_right_filled (fun vs H Q E h => ?_) (fun f cdv A outer s H vs Q E hr h => ?_)
  · obtain ⟨a, b, hR, _⟩ := h; cases hR <;> rfl
  · obtain ⟨a, b, hR, k⟩ := h
    cases hR with
    | mk hpre =>
      refine ⟨_, (pss_cons (ps_set (i := 5) sc_right_filled.nd rfl (Or.inl rfl) pe_ev) (pss_one (ps_ret (pe_tup pa_ev)))), ?_⟩
      refine ⟨_, (Pe.call (ok_cut T) (hr.mono (by decide)) (Pas.cons (Pe.bin (Pe.bin (Pe.var 0 rfl) (Pe.var 2 rfl) (b_shr (by walk_at "w"))) (Pe.bin (Pe.var 1 rfl) (Pe.bin (Pe.var 4 rfl) (Pe.var 2 rfl) b_sub) (b_shl (by walk_at "w") (by walk_at "w") (by walk_at "w"))) b_add) (Pas.cons (Pe.var 4 rfl) Pas.nil)) (fun _ _ => R_cut.mk (by walk_at "w"))), fun H1 s1 => ?_⟩
      exact ⟨_, (Pas.cons (Pe.var 5 rfl) (Pas.cons (Pe.call (ok_fill_flags T) (hr.mono (by decide)) (Pas.cons (Pe.var 0 rfl) (Pas.cons (Pe.var 5 rfl) (Pas.cons (Pe.call (ok_bit T) (hr.mono (by decide)) (Pas.cons (Pe.var 0 rfl) (Pas.cons (Pe.bin (Pe.var 2 rfl) Pe.int b_sub) Pas.nil)) (fun _ _ => R_bit.mk (by walk_at "w"))) (Pas.cons (Pe.var 4 rfl) Pas.nil)))) (fun _ _ => R_fill_flags.mk (by walk_at "w"))) Pas.nil)), fun Hz sz => ⟨by show 2 ≤ sizeLine; decide, fun p hp => k _ p ((s1.trans (sz.trans (same_new hp)))) upd_same⟩⟩
theorem ok_shifted (T : Txt K mg C) : DefOk P w K mg base "shifted" ["op", "x", "y", "n", "flags", "width"] 7 (spO R_shifted) := by
  refine def_ok T.d_shifted sc_shifted (fun vs H Q E h => ?_) (fun f cdv A outer s H vs Q E hr h => ?_)
  · obtain ⟨a, b, hR, _⟩ := h; cases hR <;> rfl
  · obtain ⟨a, b, hR, k⟩ := h
    cases hR with
    | none h0 =>
      refine ⟨_, (pss_cons (ps_set (i := 6) sc_shifted.nd rfl (Or.inl rfl) pe_ev) (pss_cons (ps_if pt_ev (pss_one (ps_ret (pe_tup pa_ev))) pss_nil) pss_never)), ?_⟩
      refine ⟨_, (Pe.call (ok_shift_count T) (hr.mono (by decide)) (Pas.cons (Pe.var 3 rfl) (Pas.cons (Pe.var 5 rfl) Pas.nil)) (fun _ _ => R_shift_count.mk)), fun H1 s1 => ?_⟩
      refine ⟨_, (Pt.cmp (Pe.var 6 rfl) Pe.int c_eq (nomark _)), fun H2 s2 => iteT h0 ?_⟩
      exact ⟨_, (Pas.cons Pe.non (Pas.cons (Pe.var 4 rfl) Pas.nil)), fun Hz sz => ⟨by show 2 ≤ sizeLine; decide, fun p hp => k _ p (((s1.trans s2).trans (sz.trans (same_new hp)))) upd_same⟩⟩
    | k14 h0 h =>
      obtain ⟨da, kvs, ma, D, DA⟩ := T.q_SHIFTS
      obtain ⟨f0, l0, m0⟩ := DA.1
      obtain ⟨f1, fd1, F1, m1, kp1, b1⟩ := (ok_left (P := P) (w := w) (base := base) T).ex
      obtain rfl := ref_inj m0 m1
      refine ⟨_, (pss_cons (ps_set (i := 6) sc_shifted.nd rfl (Or.inl rfl) pe_ev) (pss_cons (ps_if pt_ev (pss_one (ps_ret (pe_tup pa_ev))) pss_nil) (pss_one (ps_ret (pe_callV pe_ev F1 (hr.mono (by decide)) kp1 b1 pa_ev))))), ?_⟩
      refine ⟨_, (Pe.call (ok_shift_count T) (hr.mono (by decide)) (Pas.cons (Pe.var 3 rfl) (Pas.cons (Pe.var 5 rfl) Pas.nil)) (fun _ _ => R_shift_count.mk)), fun H1 s1 => ?_⟩
      refine ⟨_, (Pt.cmp (Pe.var 6 rfl) Pe.int c_eq (nomark _)), fun H2 s2 => iteF h0 ?_⟩
      exact ⟨_, Pe.dget (Pe.glob ⟨_, ma, rfl⟩) (Pe.var 0 rfl) D l0, fun H3 s3 => ⟨rfl, _, (Pas.cons (Pe.var 1 rfl) (Pas.cons (Pe.var 2 rfl) (Pas.cons (Pe.var 6 rfl) (Pas.cons (Pe.var 4 rfl) (Pas.cons (Pe.var 5 rfl) Pas.nil))))), fun H4 s4 => ⟨_, _, h, fun Hz p sz hp => k Hz p ((s1.trans s2).trans ((s3.trans s4).trans sz)) hp⟩⟩⟩
    | k15 h0 h =>
      obtain ⟨da, kvs, ma, D, DA⟩ := T.q_SHIFTS
      obtain ⟨f0, l0, m0⟩ := DA.2.1
      obtain ⟨f1, fd1, F1, m1, kp1, b1⟩ := (ok_right (P := P) (w := w) (base := base) T).ex
      obtain rfl := ref_inj m0 m1
      refine ⟨_, (pss_cons (ps_set (i := 6) sc_shifted.nd rfl (Or.inl rfl) pe_ev) (pss_cons (ps_if pt_ev (pss_one (ps_ret (pe_tup pa_ev))) pss_nil) (pss_one (ps_ret (pe_callV pe_ev F1 (hr.mono (by decide)) kp1 b1 pa_ev))))), ?_⟩
      refine ⟨_, (Pe.call (ok_shift_count T) (hr.mono (by decide)) (Pas.cons (Pe.var 3 rfl) (Pas.cons (Pe.var 5 rfl) Pas.nil)) (fun _ _ => R_shift_count.mk)), fun H1 s1 => ?_⟩
      refine ⟨_, (Pt.cmp (Pe.var 6 rfl) Pe.int c_eq (nomark _)), fun H2 s2 => iteF h0 ?_⟩
      exact ⟨_, Pe.dget (Pe.glob ⟨_, ma, rfl⟩) (Pe.var 0 rfl) D l0, fun H3 s3 => ⟨rfl, _, (Pas.cons (Pe.var 1 rfl) (Pas.cons (Pe.var 2 rfl) (Pas.cons (Pe.var 6 rfl) (Pas.cons (Pe.var 4 rfl) (Pas.cons (Pe.var 5 rfl) Pas.nil))))), fun H4 s4 => ⟨_, _, h, fun Hz p sz hp => k Hz p ((s1.trans s2).trans ((s3.trans s4).trans sz)) hp⟩⟩⟩
    | k16 h0 h =>
      obtain ⟨da, kvs, ma, D, DA⟩ := T.q_SHIFTS
      obtain ⟨f0, l0, m0⟩ := DA.2.2.1
      obtain ⟨f1, fd1, F1, m1, kp1, b1⟩ := (ok_right_with_sign (P := P) (w := w) (base := base) T).ex
      obtain rfl := ref_inj m0 m1
      refine ⟨_, (pss_cons (ps_set (i := 6) sc_shifted.nd rfl (Or.inl rfl) pe_ev) (pss_cons (ps_if pt_ev (pss_one (ps_ret (pe_tup pa_ev))) pss_nil) (pss_one (ps_ret (pe_callV pe_ev F1 (hr.mono (by decide)) kp1 b1 pa_ev))))), ?_⟩
      refine ⟨_, (Pe.call (ok_shift_count T) (hr.mono (by decide)) (Pas.cons (Pe.var 3 rfl) (Pas.cons (Pe.var 5 rfl) Pas.nil)) (fun _ _ => R_shift_count.mk)), fun H1 s1 => ?_⟩
      refine ⟨_, (Pt.cmp (Pe.var 6 rfl) Pe.int c_eq (nomark _)), fun H2 s2 => iteF h0 ?_⟩
      exact ⟨_, Pe.dget (Pe.glob ⟨_, ma, rfl⟩) (Pe.var 0 rfl) D l0, fun H3 s3 => ⟨rfl, _, (Pas.cons (Pe.var 1 rfl) (Pas.cons (Pe.var 2 rfl) (Pas.cons (Pe.var 6 rfl) (Pas.cons (Pe.var 4 rfl) (Pas.cons (Pe.var 5 rfl) Pas.nil))))), fun H4 s4 => ⟨_, _, h, fun Hz p sz hp => k Hz p ((s1.trans s2).trans ((s3.trans s4).trans sz)) hp⟩⟩⟩
    | k17 h0 h =>
      obtain ⟨da, kvs, ma, D, DA⟩ := T.q_SHIFTS
      obtain ⟨f0, l0, m0⟩ := DA.2.2.2.1
      obtain ⟨f1, fd1, F1, m1, kp1, b1⟩ := (ok_turn_left (P := P) (w := w) (base := base) T).ex
      obtain rfl := ref_inj m0 m1
      refine ⟨_, (pss_cons (ps_set (i := 6) sc_shifted.nd rfl (Or.inl rfl) pe_ev) (pss_cons (ps_if pt_ev (pss_one (ps_ret (pe_tup pa_ev))) pss_nil) (pss_one (ps_ret (pe_callV pe_ev F1 (hr.mono (by decide)) kp1 b1 pa_ev))))), ?_⟩
      refine ⟨_, (Pe.call (ok_shift_count T) (hr.mono (by decide)) (Pas.cons (Pe.var 3 rfl) (Pas.cons (Pe.var 5 rfl) Pas.nil)) (fun _ _ => R_shift_count.mk)), fun H1 s1 => ?_⟩
      refine ⟨_, (Pt.cmp (Pe.var 6 rfl) Pe.int c_eq (nomark _)), fun H2 s2 => iteF h0 ?_⟩
      exact ⟨_, Pe.dget (Pe.glob ⟨_, ma, rfl⟩) (Pe.var 0 rfl) D l0, fun H3 s3 => ⟨rfl, _, (Pas.cons (Pe.var 1 rfl) (Pas.cons (Pe.var 2 rfl) (Pas.cons (Pe.var 6 rfl) (Pas.cons (Pe.var 4 rfl) (Pas.cons (Pe.var 5 rfl) Pas.nil))))), fun H4 s4 => ⟨_, _, h, fun Hz p sz hp => k Hz p ((s1.trans s2).trans ((s3.trans s4).trans sz)) hp⟩⟩⟩
    | k18 h0 h =>
      obtain ⟨da, kvs, ma, D, DA⟩ := T.q_SHIFTS
      obtain ⟨f0, l0, m0⟩ := DA.2.2.2.2.1
      obtain ⟨f1, fd1, F1, m1, kp1, b1⟩ := (ok_turn_right (P := P) (w := w) (base := base) T).ex
      obtain rfl := ref_inj m0 m1
      refine ⟨_, (pss_cons (ps_set (i := 6) sc_shifted.nd rfl (Or.inl rfl) pe_ev) (pss_cons (ps_if pt_ev (pss_one (ps_ret (pe_tup pa_ev))) pss_nil) (pss_one (ps_ret (pe_callV pe_ev F1 (hr.mono (by decide)) kp1 b1 pa_ev))))), ?_⟩
      refine ⟨_, (Pe.call (ok_shift_count T) (hr.mono (by decide)) (Pas.cons (Pe.var 3 rfl) (Pas.cons (Pe.var 5 rfl) Pas.nil)) (fun _ _ => R_shift_count.mk)), fun H1 s1 => ?_⟩
      refine ⟨_, (Pt.cmp (Pe.var 6 rfl) Pe.int c_eq (nomark _)), fun H2 s2 => iteF h0 ?_⟩
      exact ⟨_, Pe.dget (Pe.glob ⟨_, ma, rfl⟩) (Pe.var 0 rfl) D l0, fun H3 s3 => ⟨rfl, _, (Pas.cons (Pe.var 1 rfl) (Pas.cons (Pe.var 2 rfl) (Pas.cons (Pe.var 6 rfl) (Pas.cons (Pe.var 4 rfl) (Pas.cons (Pe.var 5 rfl) Pas.nil))))), fun H4 s4 => ⟨_, _, h, fun Hz p sz hp => k Hz p ((s1.trans s2).trans ((s3.trans s4).trans sz)) hp⟩⟩⟩
    | k19 h0 h =>
      obtain ⟨da, kvs, ma, D, DA⟩ := T.q_SHIFTS
      obtain ⟨f0, l0, m0⟩ := DA.2.2.2.2.2.1
      obtain ⟨f1, fd1, F1, m1, kp1, b1⟩ := (ok_turn_left_through_carry (P := P) (w := w) (base := base) T).ex
      obtain rfl := ref_inj m0 m1
      refine ⟨_, (pss_cons (ps_set (i := 6) sc_shifted.nd rfl (Or.inl rfl) pe_ev) (pss_cons (ps_if pt_ev (pss_one (ps_ret (pe_tup pa_ev))) pss_nil) (pss_one (ps_ret (pe_callV pe_ev F1 (hr.mono (by decide)) kp1 b1 pa_ev))))), ?_⟩
      refine ⟨_, (Pe.call (ok_shift_count T) (hr.mono (by decide)) (Pas.cons (Pe.var 3 rfl) (Pas.cons (Pe.var 5 rfl) Pas.nil)) (fun _ _ => R_shift_count.mk)), fun H1 s1 => ?_⟩
      refine ⟨_, (Pt.cmp (Pe.var 6 rfl) Pe.int c_eq (nomark _)), fun H2 s2 => iteF h0 ?_⟩
      exact ⟨_, Pe.dget (Pe.glob ⟨_, ma, rfl⟩) (Pe.var 0 rfl) D l0, fun H3 s3 => ⟨rfl, _, (Pas.cons (Pe.var 1 rfl) (Pas.cons (Pe.var 2 rfl) (Pas.cons (Pe.var 6 rfl) (Pas.cons (Pe.var 4 rfl) (Pas.cons (Pe.var 5 rfl) Pas.nil))))), fun H4 s4 => ⟨_, _, h, fun Hz p sz hp => k Hz p ((s1.trans s2).trans ((s3.trans s4).trans sz)) hp⟩⟩⟩
    | k20 h0 h =>
      obtain ⟨da, kvs, ma, D, DA⟩ := T.q_SHIFTS
      obtain ⟨f0, l0, m0⟩ := DA.2.2.2.2.2.2.1
      obtain ⟨f1, fd1, F1, m1, kp1, b1⟩ := (ok_turn_right_through_carry (P := P) (w := w) (base := base) T).ex
      obtain rfl := ref_inj m0 m1
      refine ⟨_, (pss_cons (ps_set (i := 6) sc_shifted.nd rfl (Or.inl rfl) pe_ev) (pss_cons (ps_if pt_ev (pss_one (ps_ret (pe_tup pa_ev))) pss_nil) (pss_one (ps_ret (pe_callV pe_ev F1 (hr.mono (by decide)) kp1 b1 pa_ev))))), ?_⟩
      refine ⟨_, (Pe.call (ok_shift_count T) (hr.mono (by decide)) (Pas.cons (Pe.var 3 rfl) (Pas.cons (Pe.var 5 rfl) Pas.nil)) (fun _ _ => R_shift_count.mk)), fun H1 s1 => ?_⟩
      refine ⟨_, (Pt.cmp (Pe.var 6 rfl) Pe.int c_eq (nomark _)), fun H2 s2 => iteF h0 ?_⟩
      exact ⟨_, Pe.dget (Pe.glob ⟨_, ma, rfl⟩) (Pe.var 0 rfl) D l0, fun H3 s3 => ⟨rfl, _, (Pas.cons (Pe.var 1 rfl) (Pas.cons (Pe.var 2 rfl) (Pas.cons (Pe.var 6 rfl) (Pas.cons (Pe.var 4 rfl) (Pas.cons (Pe.var 5 rfl) Pas.nil))))), fun H4 s4 => ⟨_, _, h, fun Hz p sz hp => k Hz p ((s1.trans s2).trans ((s3.trans s4).trans sz)) hp⟩⟩⟩
    | k21 h0 h =>
      obtain ⟨da, kvs, ma, D, DA⟩ := T.q_SHIFTS
      obtain ⟨f0, l0, m0⟩ := DA.2.2.2.2.2.2.2.1
      obtain ⟨f1, fd1, F1, m1, kp1, b1⟩ := (ok_left_filled (P := P) (w := w) (base := base) T).ex
      obtain rfl := ref_inj m0 m1
      refine ⟨_, (pss_cons (ps_set (i := 6) sc_shifted.nd rfl (Or.inl rfl) pe_ev) (pss_cons (ps_if pt_ev (pss_one (ps_ret (pe_tup pa_ev))) pss_nil) (pss_one (ps_ret (pe_callV pe_ev F1 (hr.mono (by decide)) kp1 b1 pa_ev))))), ?_⟩
      refine ⟨_, (Pe.call (ok_shift_count T) (hr.mono (by decide)) (Pas.cons (Pe.var 3 rfl) (Pas.cons (Pe.var 5 rfl) Pas.nil)) (fun _ _ => R_shift_count.mk)), fun H1 s1 => ?_⟩
      refine ⟨_, (Pt.cmp (Pe.var 6 rfl) Pe.int c_eq (nomark _)), fun H2 s2 => iteF h0 ?_⟩
      exact ⟨_, Pe.dget (Pe.glob ⟨_, ma, rfl⟩) (Pe.var 0 rfl) D l0, fun H3 s3 => ⟨rfl, _, (Pas.cons (Pe.var 1 rfl) (Pas.cons (Pe.var 2 rfl) (Pas.cons (Pe.var 6 rfl) (Pas.cons (Pe.var 4 rfl) (Pas.cons (Pe.var 5 rfl) Pas.nil))))), fun H4 s4 => ⟨_, _, h, fun Hz p sz hp => k Hz p ((s1.trans s2).trans ((s3.trans s4).trans sz)) hp⟩⟩⟩
    | k22 h0 h =>
      obtain ⟨da, kvs, ma, D, DA⟩ := T.q_SHIFTS
      obtain ⟨f0, l0, m0⟩ := DA.2.2.2.2.2.2.2.2
      obtain ⟨f1, fd1, F1, m1, kp1, b1⟩ := (ok_right_filled (P := P) (w := w) (base := base) T).ex
      obtain rfl := ref_inj m0 m1
      refine ⟨_, (pss_cons (ps_set (i := 6) sc_shifted.nd rfl (Or.inl rfl) pe_ev) (pss_cons (ps_if pt_ev (pss_one (ps_ret (pe_tup pa_ev))) pss_nil) (pss_one (ps_ret (pe_callV pe_ev F1 (hr.mono (by decide)) kp1 b1 pa_ev))))), ?_⟩
      refine ⟨_, (Pe.call (ok_shift_count T) (hr.mono (by decide)) (Pas.cons (Pe.var 3 rfl) (Pas.cons (Pe.var 5 rfl) Pas.nil)) (fun _ _ => R_shift_count.mk)), fun H1 s1 => ?_⟩
      refine ⟨_, (Pt.cmp (Pe.var 6 rfl) Pe.int c_eq (nomark _)), fun H2 s2 => iteF h0 ?_⟩
      exact ⟨_, Pe.dget (Pe.glob ⟨_, ma, rfl⟩) (Pe.var 0 rfl) D l0, fun H3 s3 => ⟨rfl, _, (Pas.cons (Pe.var 1 rfl) (Pas.cons (Pe.var 2 rfl) (Pas.cons (Pe.var 6 rfl) (Pas.cons (Pe.var 4 rfl) (Pas.cons (Pe.var 5 rfl) Pas.nil))))), fun H4 s4 => ⟨_, _, h, fun Hz p sz hp => k Hz p ((s1.trans s2).trans ((s3.trans s4).trans sz)) hp⟩⟩⟩
end
end We
end

section
set_option Elab.async false
set_option linter.all false
set_option maxRecDepth 100000
set_option maxHeartbeats 4000000
namespace We
open PySem PySem.Spec PyProof.Rows L2
local macro_rules | `(tactic| walk_at "w") => `(tactic| first | omega | assumption | exact hb_small _ _ | exact pow_pos _ | exact md0 (by omega) | exact md1 (by omega) (by omega) | exact sm_x (by assumption) | exact sm_y (by assumption) | exact tl1 (by assumption) | exact tl2 (by assumption) | exact tl3 (by assumption) | exact tl4 (by assumption) | exact ab_ok (by assumption) | (refine ⟨by omega, ?_⟩; omega))
inductive R_is_pair_operation : List V → V → Prop
  | mk {op : Int} : R_is_pair_operation [.int op] (.bl (Wm.is_pair_operation op))
inductive R_understood : List V → V → Prop
  | mk {number : Int} {width : Int} {with_sign : Bool} (hpre : 1 ≤ width ∧ width ≤ 1000) : R_understood [.int number, .int width, .bl with_sign] (.int (Wm.understood number width with_sign))
inductive R_quotient_toward_0 : List V → V → Prop
  | mk {number : Int} {divisor : Int} (hpre : divisor ≠ 0 ∧ -(2 ^ 65) < divisor ∧ divisor < 2 ^ 65) : R_quotient_toward_0 [.int number, .int divisor] (.int (Wm.quotient_toward_0 number divisor))
inductive R_is_place : List V → V → Prop
  | mk {r : Int} : R_is_place [.int r] (.bl (Wm.is_place r))
section
variable {P : Program} {w : World} {K : PySem.W.Frag} {mg : Str → Option Value} {base : Heap} {C : Addr}
theorem ok_is_pair_operation (T : Txt K mg C) : DefOk P w K mg base "is_pair_operation" ["op"] 1 (spR fun _ => R_is_pair_operation) := by
  refine def_ok T.d_is_pair_operation sc_is_pair_operation (fun vs H Q E h => ?_) (fun f cdv A outer s H vs Q E hr h => ?_)
  · obtain ⟨v, hR, _⟩ := h; cases hR <;> rfl
  · obtain ⟨v, hR, k⟩ := h
    cases hR with
    | mk =>
      refine ⟨_, (pss_one (ps_ret pe_ev)), ?_⟩
      exact ⟨_, (Pe.or (Pe.chain (Pe.glob T.g_PRODUCT) (Pe.var 0 rfl) (Pe.glob T.g_SIGNED_QUOTIENT) c_le c_le) (fun hor => (Pe.one (Pe.chain (Pe.glob T.g_EXCHANGE) (Pe.var 0 rfl) (Pe.glob T.g_COMPARE_AND_EXCHANGE) c_le c_le)))), fun Hz sz => k Hz sz⟩
theorem ok_understood (T : Txt K mg C) : DefOk P w K mg base "understood" ["number", "width", "with_sign"] 4 (spR fun _ => R_understood) := by
  refine def_ok T.d_understood sc_understood (fun vs H Q E h => ?_) (fun f cdv A outer s H vs Q E hr h => ?_)
  · obtain ⟨v, hR, _⟩ := h; cases hR <;> rfl
  · obtain ⟨v, hR, k⟩ := h
    cases hR with
    | mk hpre =>
      refine ⟨_, (pss_one (ps_ret pe_ev)), ?_⟩
      exact ⟨_, (Pe.ifInt (Pt.truth (Pe.var 2 rfl)) (fun hif => (Pe.call (ok_signed T) (hr.mono (by decide)) (Pas.cons (Pe.var 0 rfl) (Pas.cons (Pe.var 1 rfl) Pas.nil)) (fun _ _ => R_signed.mk (by walk_at "w")))) (fun hif => (Pe.var 0 rfl))), fun Hz sz => k Hz sz⟩
theorem ok_quotient_toward_0 (T : Txt K mg C) : DefOk P w K mg base "quotient_toward_0" ["number", "divisor"] 1 (spR fun _ => R_quotient_toward_0) := by
  refine def_ok T.d_quotient_toward_0 sc_quotient_toward_0 (fun vs H Q E h => ?_) (fun f cdv A outer s H vs Q E hr h => ?_)
  · obtain ⟨v, hR, _⟩ := h; cases hR <;> rfl
  · obtain ⟨v, hR, k⟩ := h
    cases hR with
    | mk hpre =>
      refine ⟨_, (pss_cons (ps_set (i := 2) sc_quotient_toward_0.nd rfl (Or.inl rfl) pe_ev) (pss_one (ps_ret pe_ev))), ?_⟩
      refine ⟨_, (Pe.bin (Pe.abs T.nb_abs (Pe.var 0 rfl)) (Pe.abs T.nb_abs (Pe.var 1 rfl)) (b_fdivW (by walk_at "w"))), fun H1 s1 => ?_⟩
      exact ⟨_, (Pe.ifInt (Pt.cmp (Pe.cmp (Pe.var 0 rfl) Pe.int c_lt (nomark _)) (Pe.cmp (Pe.var 1 rfl) Pe.int c_lt (nomark _)) c_eqB (nomark _)) (fun hif => (Pe.var 2 rfl)) (fun hif => (Pe.un (Pe.var 2 rfl) u_neg))), fun Hz sz => k Hz (s1.trans sz)⟩
theorem ok_is_place (T : Txt K mg C) : DefOk P w K mg base "is_place" ["r"] 1 (spR fun _ => R_is_place) := by
  refine def_ok T.d_is_place sc_is_place (fun vs H Q E h => ?_) (fun f cdv A outer s H vs Q E hr h => ?_)
  · obtain ⟨v, hR, _⟩ := h; cases hR <;> rfl
  · obtain ⟨v, hR, k⟩ := h
    cases hR with
    | mk =>
      refine ⟨_, (pss_one (ps_ret pe_ev)), ?_⟩
      exact ⟨_, (Pe.chain Pe.int (Pe.var 0 rfl) (Pe.glob T.g_REGISTERS) c_le c_lt), fun Hz sz => k Hz sz⟩
end
end We
end

section
set_option Elab.async false
set_option linter.all false
set_option maxRecDepth 100000
set_option maxHeartbeats 4000000
namespace We
open PySem PySem.Spec PyProof.Rows L2
local macro_rules | `(tactic| walk_at "w") => `(tactic| first | omega | assumption | exact hb_small _ _ | exact pow_pos _ | exact md0 (by omega) | exact md1 (by omega) (by omega) | exact sm_x (by assumption) | exact sm_y (by assumption) | exact tl1 (by assumption) | exact tl2 (by assumption) | exact tl3 (by assumption) | exact tl4 (by assumption) | exact ab_ok (by assumption) | (refine ⟨by omega, ?_⟩; omega))
inductive R_is_refused_by_operation : List V → V → Prop
  | mk {op size n : Int} : R_is_refused_by_operation [.int op, .int size, .int n] (.bl (Wm.is_refused_by_operation op size n))
inductive R_is_refused : List V → V → Prop
  | mk {op size d s n : Int} : R_is_refused [.int op, .int size, .int d, .int s, .int n] (.bl (Wm.is_refused op size d s n))
theorem Pt.eqv {X : Cx} {st : St} {H : Hp} {a : Expr} {p q : Bool} (h : Pt X st H a p) (e : p = q) : Pt X st H a q := e ▸ h
theorem eqV_int (i j : Int) : eqV (.int i) (.int j) = decide (j = i) := by
  show (i == j) = _
  by_cases h : j = i
  · subst h; simp
  · rw [decide_eq_false h, beq_eq_false_iff_ne.mpr (Ne.symm h)]
theorem inV3 (n : Int) : (!inV (.int n) [.int 1, .int 2, .int 4]) = !(decide (n = 1) || (decide (n = 2) || decide (n = 4))) := by
  show (!(eqV (.int 1) (.int n) || (eqV (.int 2) (.int n) || (eqV (.int 4) (.int n) || false)))) = _
  rw [eqV_int, eqV_int, eqV_int, Bool.or_false]
theorem inV4 (n : Int) : (!inV (.int n) [.int 1, .int 2, .int 4, .int 8]) = !(decide (n = 1) || (decide (n = 2) || (decide (n = 4) || decide (n = 8)))) := by
  show (!(eqV (.int 1) (.int n) || (eqV (.int 2) (.int n) || (eqV (.int 4) (.int n) || (eqV (.int 8) (.int n) || false))))) = _
  rw [eqV_int, eqV_int, eqV_int, eqV_int, Bool.or_false]
section
variable {P : Program} {w : World} {K : PySem.W.Frag} {mg : Str → Option Value} {base : Heap} {C : Addr}
theorem ok_is_refused_by_operation (T : Txt K mg C) : DefOk P w K mg base "is_refused_by_operation" ["op", "size", "n"] 2 (spR fun _ => R_is_refused_by_operation) := by
  refine def_ok T.d_is_refused_by_operation sc_is_refused_by_operation (fun vs H Q E h => ?_) (fun f cdv A outer s H vs Q E hr h => ?_)
  · obtain ⟨v, hR, _⟩ := h; cases hR <;> rfl
  · obtain ⟨v, hR, k⟩ := h

    cases hR with
    | @mk op size n =>
      refine ⟨_, (pss_cons (ps_if pt_ev (pss_one (ps_ret pe_ev)) pss_nil) (pss_cons (ps_if pt_ev (pss_one (ps_ret pe_ev)) pss_nil) (pss_cons (ps_if pt_ev (pss_one (ps_ret pe_ev)) pss_nil) (pss_cons (ps_if pt_ev (pss_one (ps_ret pe_ev)) pss_nil)
        (pss_cons (ps_if pt_ev (pss_one (ps_ret pe_ev)) pss_nil) (pss_cons (ps_if pt_ev (pss_one (ps_ret pe_ev)) pss_nil) (pss_one (ps_ret pe_ev)))))))), ?_⟩
      unfold Wm.is_refused_by_operation at k
      refine ⟨_, (Pw.or (Pt.cmp (Pe.var 0 rfl) (Pe.glob T.g_LEFT_FILLED) c_eq (nomark _)) (fun hor => (Pw.or1 (Pt.cmp (Pe.var 0 rfl) (Pe.glob T.g_RIGHT_FILLED) c_eq (nomark _))))).pt, fun H1 s1 => ?_⟩
      cases h1 : (decide (op = 21) || decide (op = 22)) with
      | true =>
        rw [h1, if_pos rfl] at k
        exact iteT rfl ⟨_, (Pe.or (Pe.cmp (Pe.var 1 rfl) Pe.int c_eq (nomark _)) (fun hor => (Pe.one (Pe.cmp (Pe.call (ok_shift_count T) (hr.mono (by decide)) (Pas.cons (Pe.var 2 rfl) (Pas.cons (Pe.bin Pe.int (Pe.var 1 rfl) (b_mul (by walk_at "w"))) Pas.nil)) (fun _ _ => R_shift_count.mk)) (Pe.bin Pe.int (Pe.var 1 rfl) (b_mul (by walk_at "w"))) c_gt (nomark _))))), fun Hz sz => k Hz (s1.trans sz)⟩
      | false =>
      rw [h1, if_neg Bool.false_ne_true] at k
      refine iteF rfl ⟨_, (Pw.or (Pt.cmp (Pe.var 0 rfl) (Pe.glob T.g_QUOTIENT) c_eq (nomark _)) (fun hor => (Pw.or1 (Pt.cmp (Pe.var 0 rfl) (Pe.glob T.g_SIGNED_QUOTIENT) c_eq (nomark _))))).pt, fun H2 s2 => ?_⟩
      cases h2 : (decide (op = 25) || decide (op = 26)) with
      | true =>
        rw [h2, if_pos rfl] at k
        exact iteT rfl ⟨_, (Pe.not (Pe.call (ok_is_place T) (hr.mono (by decide)) (Pas.cons (Pe.var 2 rfl) Pas.nil) (fun _ _ => R_is_place.mk))), fun Hz sz => k Hz ((s1.trans s2).trans sz)⟩
      | false =>
      rw [h2, if_neg Bool.false_ne_true] at k
      refine iteF rfl ⟨_, (Pt.cmp (Pe.var 0 rfl) (Pe.glob T.g_BYTES_TURNED_ROUND) c_eq (nomark _)), fun H3 s3 => ?_⟩
      cases h3 : decide (op = 30) with
      | true =>
        rw [h3, if_pos rfl] at k
        exact iteT rfl ⟨_, (Pe.cmp (Pe.var 1 rfl) Pe.int c_lt (nomark _)), fun Hz sz => k Hz (((s1.trans s2).trans s3).trans sz)⟩
      | false =>
      rw [h3, if_neg Bool.false_ne_true] at k
      refine iteF rfl ⟨_, (Pt.cmp (Pe.var 0 rfl) (Pe.glob T.g_MOVE_IF) c_eq (nomark _)), fun H4 s4 => ?_⟩
      cases h4 : decide (op = 35) with
      | true =>
        rw [h4, if_pos rfl] at k
        exact iteT rfl ⟨_, (Pe.or (Pe.cmp (Pe.var 1 rfl) Pe.int c_eq (nomark _)) (fun hor => (Pe.one (Pe.not (Pe.call (ok_is_condition T) (hr.mono (by decide)) (Pas.cons (Pe.var 2 rfl) Pas.nil) (fun _ _ => R_is_condition.mk)))))), fun Hz sz => k Hz ((((s1.trans s2).trans s3).trans s4).trans sz)⟩
      | false =>
      rw [h4, if_neg Bool.false_ne_true] at k
      refine iteF rfl ⟨_, (Pt.cmp (Pe.var 0 rfl) (Pe.glob T.g_TRUTH) c_eq (nomark _)), fun H5 s5 => ?_⟩
      cases h5 : decide (op = 36) with
      | true =>
        rw [h5, if_pos rfl] at k
        exact iteT rfl ⟨_, (Pe.or (Pe.cmp (Pe.var 1 rfl) Pe.int c_ne (nomark _)) (fun hor => (Pe.one (Pe.not (Pe.call (ok_is_condition T) (hr.mono (by decide)) (Pas.cons (Pe.var 2 rfl) Pas.nil) (fun _ _ => R_is_condition.mk)))))), fun Hz sz => k Hz (((((s1.trans s2).trans s3).trans s4).trans s5).trans sz)⟩
      | false =>
      rw [h5, if_neg Bool.false_ne_true] at k
      refine iteF rfl ⟨_, (Pt.cmp (Pe.var 0 rfl) (Pe.glob T.g_WIDENED) c_ge (nomark _)), fun H6 s6 => ?_⟩
      cases h6 : decide (40 ≤ op) with
      | true =>
        rw [h6, if_pos rfl] at k
        exact iteT rfl ⟨_, Pe.or ((Pe.notInT (Pe.var 2 rfl) (Pas.cons Pe.int (Pas.cons Pe.int (Pas.cons Pe.int Pas.nil))) rfl (by show 3 ≤ sizeLine; decide)).eqv (congrArg V.bl (inV3 n))) (fun hor => Pe.one (Pe.cmp (Pe.var 2 rfl) (Pe.var 1 rfl) c_ge (nomark _))), fun Hz sz => k Hz ((((((s1.trans s2).trans s3).trans s4).trans s5).trans s6).trans sz)⟩
      | false =>
      rw [h6, if_neg Bool.false_ne_true] at k
      exact iteF rfl ⟨_, Pe.bl, fun Hz sz => k Hz ((((((s1.trans s2).trans s3).trans s4).trans s5).trans s6).trans sz)⟩
theorem ok_is_refused (T : Txt K mg C) : DefOk P w K mg base "is_refused" ["op", "size", "d", "s", "n"] 3 (spR fun _ => R_is_refused) := by
  refine def_ok T.d_is_refused sc_is_refused (fun vs H Q E h => ?_) (fun f cdv A outer s H vs Q E hr h => ?_)
  · obtain ⟨v, hR, _⟩ := h; cases hR <;> rfl
  · obtain ⟨v, hR, k⟩ := h

    cases hR with
    | @mk op size d s' n =>
      obtain ⟨a, ma, qa⟩ := T.q_SIZES
      refine ⟨_, (pss_cons (ps_if pt_ev (pss_one (ps_ret pe_ev)) pss_nil) (pss_cons (ps_if pt_ev (pss_one (ps_ret pe_ev)) pss_nil) (pss_one (ps_ret pe_ev)))), ?_⟩
      unfold Wm.is_refused at k
      refine ⟨_, (Pw.or (Pt.not (Pt.chain Pe.int (Pe.var 0 rfl) (Pe.glob T.g_LAST_OPERATION) c_le c_le)) (fun hor => Pw.or1 ((Pt.cmp (Pe.var 1 rfl) (Pe.glob (v := .ref a) ⟨_, ma, rfl⟩) (c_notIn (qa _) rfl) (by with_unfolding_all rfl)).eqv (inV4 size)))).pt, fun H1 s1 => ?_⟩
      cases h1 : ((!(decide (0 ≤ op) && decide (op ≤ 42))) || !(decide (size = 1) || (decide (size = 2) || (decide (size = 4) || decide (size = 8))))) with
      | true =>
        rw [h1, if_pos rfl] at k
        exact iteT rfl ⟨_, Pe.bl, fun Hz sz => k Hz (s1.trans sz)⟩
      | false =>
      rw [h1, if_neg Bool.false_ne_true] at k
      refine iteF rfl ⟨_, (Pw.or (Pt.not (Pt.truth (Pe.call (ok_is_place T) (hr.mono (by decide)) (Pas.cons (Pe.var 2 rfl) Pas.nil) (fun _ _ => R_is_place.mk)))) (fun hor => (Pw.or1 (Pt.not (Pt.truth (Pe.call (ok_is_place T) (hr.mono (by decide)) (Pas.cons (Pe.var 3 rfl) Pas.nil) (fun _ _ => R_is_place.mk))))))).pt, fun H2 s2 => ?_⟩
      cases h2 : ((!Wm.is_place d) || !Wm.is_place s') with
      | true =>
        rw [h2, if_pos rfl] at k
        exact iteT rfl ⟨_, Pe.bl, fun Hz sz => k Hz ((s1.trans s2).trans sz)⟩
      | false =>
      rw [h2, if_neg Bool.false_ne_true] at k
      exact iteF rfl ⟨_, (Pe.call (ok_is_refused_by_operation T) (hr.mono (by decide)) (Pas.cons (Pe.var 0 rfl) (Pas.cons (Pe.var 1 rfl) (Pas.cons (Pe.var 4 rfl) Pas.nil))) (fun _ _ => R_is_refused_by_operation.mk)), fun Hz sz => k Hz ((s1.trans s2).trans sz)⟩
end
end We
end

section
set_option Elab.async false
set_option linter.all false
set_option maxRecDepth 100000
set_option maxHeartbeats 4000000
namespace We
open PySem PySem.Spec PyProof.Rows L2
local macro_rules | `(tactic| walk_at "w") => `(tactic| first | omega | assumption | exact hb_small _ _ | exact pow_pos _ | exact md0 (by omega) | exact md1 (by omega) (by omega) | exact sm_x (by assumption) | exact sm_y (by assumption) | exact tl1 (by assumption) | exact tl2 (by assumption) | exact tl3 (by assumption) | exact tl4 (by assumption) | exact ab_ok (by assumption) | (refine ⟨by omega, ?_⟩; omega))
inductive R_outcome : List V → V → V → Prop
  | c1 {op x y n flags width : Int} {a b : V} (h0 : decide (op ≤ 13) = true) (h : R_computed [.int op, .int x, .int y, .int flags, .int width] a b) : R_outcome [.int op, .int x, .int y, .int n, .int flags, .int width] a b
  | c2 {op x y n flags width : Int} {a b : V} (h0 : decide (op ≤ 13) = false) (h1 : decide (op ≤ 22) = true) (h : R_shifted [.int op, .int x, .int y, .int n, .int flags, .int width] a b) : R_outcome [.int op, .int x, .int y, .int n, .int flags, .int width] a b
  | c3 {op x y n flags width : Int} {a b : V} (h0 : decide (op ≤ 13) = false) (h1 : decide (op ≤ 22) = false) (h2 : decide (op ≤ 34) = true) (h : R_placed [.int op, .int x, .int y, .int n, .int flags, .int width] a b) : R_outcome [.int op, .int x, .int y, .int n, .int flags, .int width] a b
  | c4 {op x y n flags width : Int} {a b : V} (h0 : decide (op ≤ 13) = false) (h1 : decide (op ≤ 22) = false) (h2 : decide (op ≤ 34) = false) (h : R_moved [.int op, .int y, .int n, .int flags, .int width] a b) : R_outcome [.int op, .int x, .int y, .int n, .int flags, .int width] a b
section
variable {P : Program} {w : World} {K : PySem.W.Frag} {mg : Str → Option Value} {base : Heap} {C : Addr}
theorem ok_outcome (T : Txt K mg C) : DefOk P w K mg base "outcome" ["op", "x", "y", "n", "flags", "width"] 8 (spO R_outcome) := by
  have D1 := ok_computed (P := P) (w := w) (base := base) T
  have D2 := ok_shifted (P := P) (w := w) (base := base) T
  have D3 := ok_placed (P := P) (w := w) (base := base) T
  have D4 := ok_moved (P := P) (w := w) (base := base) T
  refine def_ok T.d_outcome sc_outcome (fun vs H Q E h => ?_) (fun f cdv A outer s H vs Q E hr h => ?_)
  · obtain ⟨a, b, hR, _⟩ := h; cases hR <;> rfl
  · obtain ⟨a, b, hR, k⟩ := h
    have t1 : Room 7 (A.deeper (envOfC "outcome" (defScope s_outcome) s.heap.objs.size f cdv)) := hr.mono (by decide)
    have t2 : Room 7 (A.deeper (envOfC "outcome" (defScope s_outcome) s.heap.objs.size f cdv)) := hr.mono (by decide)
    have t3 : Room 4 (A.deeper (envOfC "outcome" (defScope s_outcome) s.heap.objs.size f cdv)) := hr.mono (by decide)
    have t4 : Room 6 (A.deeper (envOfC "outcome" (defScope s_outcome) s.heap.objs.size f cdv)) := hr.mono (by decide)
    refine ⟨_, (pss_cons (ps_if pt_ev (pss_one (ps_ret (pe_def D1 t1 pa_ev))) pss_nil) (pss_cons (ps_if pt_ev (pss_one (ps_ret (pe_def D2 t2 pa_ev))) pss_nil) (pss_cons (ps_if pt_ev (pss_one (ps_ret (pe_def D3 t3 pa_ev))) pss_nil) (pss_one (ps_ret (pe_def D4 t4 pa_ev)))))), ?_⟩
    cases hR with
    | c1 h0 h => exact ⟨_, (Pt.cmp (Pe.var 0 rfl) (Pe.glob T.g_LAST_ARITHMETIC) c_le (nomark _)), fun H1 s1 => iteT h0 ⟨_, (Pas.cons (Pe.var 0 rfl) (Pas.cons (Pe.var 1 rfl) (Pas.cons (Pe.var 2 rfl) (Pas.cons (Pe.var 4 rfl) (Pas.cons (Pe.var 5 rfl) Pas.nil))))), fun H2 s2 => ⟨_, _, h, fun Hz p sz hp => k Hz p ((s1.trans s2).trans sz) hp⟩⟩⟩
    | c2 h0 h1 h => exact ⟨_, (Pt.cmp (Pe.var 0 rfl) (Pe.glob T.g_LAST_ARITHMETIC) c_le (nomark _)), fun H1 s1 => iteF h0 ⟨_, (Pt.cmp (Pe.var 0 rfl) (Pe.glob T.g_LAST_SHIFT) c_le (nomark _)), fun H2 s2 => iteT h1 ⟨_, (Pas.cons (Pe.var 0 rfl) (Pas.cons (Pe.var 1 rfl) (Pas.cons (Pe.var 2 rfl) (Pas.cons (Pe.var 3 rfl) (Pas.cons (Pe.var 4 rfl) (Pas.cons (Pe.var 5 rfl) Pas.nil)))))), fun H3 s3 => ⟨_, _, h, fun Hz p sz hp => k Hz p (((s1.trans s2).trans s3).trans sz) hp⟩⟩⟩⟩
    | c3 h0 h1 h2 h => exact ⟨_, (Pt.cmp (Pe.var 0 rfl) (Pe.glob T.g_LAST_ARITHMETIC) c_le (nomark _)), fun H1 s1 => iteF h0 ⟨_, (Pt.cmp (Pe.var 0 rfl) (Pe.glob T.g_LAST_SHIFT) c_le (nomark _)), fun H2 s2 => iteF h1 ⟨_, (Pt.cmp (Pe.var 0 rfl) (Pe.glob T.g_LAST_PLACE) c_le (nomark _)), fun H3 s3 => iteT h2 ⟨_, (Pas.cons (Pe.var 0 rfl) (Pas.cons (Pe.var 1 rfl) (Pas.cons (Pe.var 2 rfl) (Pas.cons (Pe.var 3 rfl) (Pas.cons (Pe.var 4 rfl) (Pas.cons (Pe.var 5 rfl) Pas.nil)))))), fun H4 s4 => ⟨_, _, h, fun Hz p sz hp => k Hz p ((((s1.trans s2).trans s3).trans s4).trans sz) hp⟩⟩⟩⟩⟩
    | c4 h0 h1 h2 h => exact ⟨_, (Pt.cmp (Pe.var 0 rfl) (Pe.glob T.g_LAST_ARITHMETIC) c_le (nomark _)), fun H1 s1 => iteF h0 ⟨_, (Pt.cmp (Pe.var 0 rfl) (Pe.glob T.g_LAST_SHIFT) c_le (nomark _)), fun H2 s2 => iteF h1 ⟨_, (Pt.cmp (Pe.var 0 rfl) (Pe.glob T.g_LAST_PLACE) c_le (nomark _)), fun H3 s3 => iteF h2 ⟨_, (Pas.cons (Pe.var 0 rfl) (Pas.cons (Pe.var 2 rfl) (Pas.cons (Pe.var 3 rfl) (Pas.cons (Pe.var 4 rfl) (Pas.cons (Pe.var 5 rfl) Pas.nil))))), fun H4 s4 => ⟨_, _, h, fun Hz p sz hp => k Hz p ((((s1.trans s2).trans s3).trans s4).trans sz) hp⟩⟩⟩⟩⟩
end
end We
end

section
set_option Elab.async false
set_option linter.all false
set_option maxRecDepth 100000
set_option maxHeartbeats 4000000
/-! what the defs give back is what the specification says -/
namespace We
open PySem PySem.Spec PyProof.Rows L2
open Sv02 (Abs)
open Wo (vx fn)
def Out2 (t : Abs) (w d : Nat) (out : Sv02.Out) (a b : V) : Prop := (∃ z f : Int, a = .int z ∧ b = .int f ∧ Wo.ResI t w d z f out) ∨ (∃ f : Int, a = .non ∧ b = .int f ∧ Wo.ResN t f out)
theorem Out2.i {t : Abs} {w d : Nat} {out : Sv02.Out} {z f : Int} (h : Wo.ResI t w d z f out) : Out2 t w d out (.int z) (.int f) := .inl ⟨z, f, rfl, rfl, h⟩
theorem Out2.n {t : Abs} {w d : Nat} {out : Sv02.Out} {f : Int} (h : Wo.ResN t f out) : Out2 t w d out .non (.int f) := .inr ⟨f, rfl, rfl, h⟩
theorem small_v (t : Abs) (w d : Nat) : Small (vx t w d) (w : Int) := by
  refine ⟨by dsimp only [vx]; omega, ?_⟩
  rw [Int.toNat_natCast, Wo.pow_cast]
  have := Wo.val_lt t w d
  dsimp only [vx]
  omega
/-- the operations 0 to 13 -/
theorem br_computed {t : Abs} {size w d s : Nat} {n : Int} {op : Nat} (hs : w = 8 * size) (hw : w = 8 ∨ w = 16 ∨ w = 32 ∨ w = 64) (ho : op ≤ 13) :
    ∃ a b, R_computed [.int (op : Int), .int (vx t w d), .int (vx t w s), .int (fn t), .int (w : Int)] a b ∧ Out2 t w d (Sv02.perform t op size d s n) a b := by
  have h0 : 0 < w := by omega
  have W1 : 1 ≤ (w : Int) ∧ (w : Int) ≤ 1000 := by omega
  have hc : op = 0 ∨ op = 1 ∨ op = 2 ∨ op = 3 ∨ op = 4 ∨ op = 5 ∨ op = 6 ∨ op = 7 ∨ op = 8 ∨ op = 9 ∨ op = 10 ∨ op = 11 ∨ op = 12 ∨ op = 13 := by omega
  rcases hc with rfl | rfl | rfl | rfl | rfl | rfl | rfl | rfl | rfl | rfl | rfl | rfl | rfl | rfl
  · exact ⟨_, _, .k0 .mk, .i (Wo.res_move hs)⟩
  · exact ⟨_, _, .k1 (.mk W1), .i (Wo.res_add hs h0)⟩
  · exact ⟨_, _, .k2 (.mk W1), .i (Wo.res_adc hs h0)⟩
  · exact ⟨_, _, .k3 (.mk W1), .i (Wo.res_sub hs h0)⟩
  · exact ⟨_, _, .k4 (.mk W1), .i (Wo.res_sbb hs h0)⟩
  · exact ⟨_, _, .k5 (.mk W1), .n (Wo.res_cmp hs h0)⟩
  · exact ⟨_, _, .k6 (.mk W1), .i (Wo.res_and hs h0)⟩
  · exact ⟨_, _, .k7 (.mk W1), .i (Wo.res_or hs h0)⟩
  · exact ⟨_, _, .k8 (.mk W1), .i (Wo.res_xor hs h0)⟩
  · exact ⟨_, _, .k9 (.mk W1), .n (Wo.res_test hs h0)⟩
  · exact ⟨_, _, .k10 (.mk W1), .i (Wo.res_inc hs h0)⟩
  · exact ⟨_, _, .k11 (.mk W1), .i (Wo.res_dec hs h0)⟩
  · exact ⟨_, _, .k12 (.mk W1), .i (Wo.res_neg hs h0)⟩
  · exact ⟨_, _, .k13 .mk, .i (Wo.res_not hs)⟩
/-- the operations 14 to 22 -/
theorem br_shifted {t : Abs} {size w d s : Nat} {n : Int} {op : Nat} (hs : w = 8 * size) (hw : w = 8 ∨ w = 16 ∨ w = 32 ∨ w = 64) (ho : 14 ≤ op ∧ op ≤ 22) (hn : Sv02.wrong op size n = false) :
    ∃ a b, R_shifted [.int (op : Int), .int (vx t w d), .int (vx t w s), .int n, .int (fn t), .int (w : Int)] a b ∧ Out2 t w d (Sv02.perform t op size d s n) a b := by
  have h0 : 0 < w := by omega
  have h2 : 2 ≤ w := by omega
  have ek : Wm.shift_count n (w : Int) = ((Wo.kOf size n : Nat) : Int) := by rw [hs]; exact Wo.kOf_eq n
  have hl := Wo.kOf_lt size n
  have hc : op = 14 ∨ op = 15 ∨ op = 16 ∨ op = 17 ∨ op = 18 ∨ op = 19 ∨ op = 20 ∨ op = 21 ∨ op = 22 := by omega
  generalize hk : Wo.kOf size n = k at ek hl
  by_cases k0 : k = 0
  · exact ⟨_, _, .none (decide_eq_true (by rw [ek]; omega)), .n (Wo.res_k0 hs hk k0 hc)⟩
  · have z0 : decide (Wm.shift_count n (w : Int) = 0) = false := decide_eq_false (by rw [ek]; omega)
    have P0 : (2 ≤ (w : Int) ∧ (w : Int) ≤ 64) ∧ (1 ≤ Wm.shift_count n (w : Int) ∧ Wm.shift_count n (w : Int) ≤ 63) ∧ Small (vx t w d) (w : Int) ∧ Small (vx t w s) (w : Int) := ⟨by omega, by rw [ek]; omega, small_v t w d, small_v t w s⟩
    have P1 : k ≤ w → (2 ≤ (w : Int) ∧ (w : Int) ≤ 64) ∧ (1 ≤ Wm.shift_count n (w : Int) ∧ Wm.shift_count n (w : Int) ≤ 63 ∧ Wm.shift_count n (w : Int) ≤ (w : Int)) ∧ Small (vx t w d) (w : Int) ∧ Small (vx t w s) (w : Int) := fun q => ⟨by omega, by rw [ek]; omega, small_v t w d, small_v t w s⟩
    have kw : op = 21 ∨ op = 22 → k ≤ w := by
      intro q
      have hk' : (Sv02.u32 n % if size = 8 then 64 else 32) = k := hk
      unfold Sv02.wrong at hn
      dsimp only at hn
      rw [hk'] at hn
      rcases q with rfl | rfl
      · simp at hn; omega
      · simp at hn; omega
    have ej : (k : Int) % ((w : Int) + 1) = ((k % (w + 1) : Nat) : Int) := by rw [Int.natCast_emod]; rfl
    rcases hc with rfl | rfl | rfl | rfl | rfl | rfl | rfl | rfl | rfl
    · exact ⟨_, _, .k14 z0 (.mk P0), by rw [ek]; exact .i (Wo.res_left hs h0 hk k0)⟩
    · exact ⟨_, _, .k15 z0 (.mk P0), by rw [ek]; exact .i (Wo.res_right hs h0 hk k0)⟩
    · exact ⟨_, _, .k16 z0 (.mk P0), by rw [ek]; exact .i (Wo.res_sar hs h0 hk k0)⟩
    · exact ⟨_, _, .k17 z0 (.mk P0), by rw [ek]; exact .i (Wo.res_rol hs h0 hk k0 rfl)⟩
    · exact ⟨_, _, .k18 z0 (.mk P0), by rw [ek]; exact .i (Wo.res_ror hs h0 hk k0 h2 rfl)⟩
    · by_cases j0 : k % (w + 1) = 0
      · exact ⟨_, _, .k19 z0 (.mk0 P0 (decide_eq_true (by rw [ek, ej]; omega))), .n (Wo.res_rcl0 hs hk j0)⟩
      · exact ⟨_, _, .k19 z0 (.mk1 P0 (decide_eq_false (by rw [ek, ej]; omega))), by rw [ek]; exact .i (Wo.res_rcl hs h0 hk j0 rfl)⟩
    · by_cases j0 : k % (w + 1) = 0
      · exact ⟨_, _, .k20 z0 (.mk0 P0 (decide_eq_true (by rw [ek, ej]; omega))), .n (Wo.res_rcr0 hs hk j0)⟩
      · exact ⟨_, _, .k20 z0 (.mk1 P0 (decide_eq_false (by rw [ek, ej]; omega))), by rw [ek]; exact .i (Wo.res_rcr hs h0 hk h2 j0 rfl)⟩
    · exact ⟨_, _, .k21 z0 (.mk (P1 (kw (.inl rfl)))), by rw [ek]; exact .i (Wo.res_shld hs h0 hk k0 (kw (.inl rfl)) rfl)⟩
    · exact ⟨_, _, .k22 z0 (.mk (P1 (kw (.inr rfl)))), by rw [ek]; exact .i (Wo.res_shrd hs h0 hk k0 (kw (.inr rfl)) rfl)⟩
theorem v_lt64 (t : Abs) {w : Nat} (d : Nat) (hw : w = 8 ∨ w = 16 ∨ w = 32 ∨ w = 64) : 0 ≤ vx t w d ∧ vx t w d < 2 ^ 64 := (small_v t w d).lt64 (by omega)
/-- the operations 27 to 34 -/
theorem br_placed {t : Abs} {size w d s : Nat} {n : Int} {op : Nat} (hs : w = 8 * size) (hw : w = 8 ∨ w = 16 ∨ w = 32 ∨ w = 64) (ho : 27 ≤ op ∧ op ≤ 34) :
    ∃ a b, R_placed [.int (op : Int), .int (vx t w d), .int (vx t w s), .int n, .int (fn t), .int (w : Int)] a b ∧ Out2 t w d (Sv02.perform t op size d s n) a b := by
  have h0 : 0 < w := by omega
  have W1 : 1 ≤ (w : Int) ∧ (w : Int) ≤ 1000 := by omega
  have hc : op = 27 ∨ op = 28 ∨ op = 29 ∨ op = 30 ∨ op = 31 ∨ op = 32 ∨ op = 33 ∨ op = 34 := by omega
  rcases hc with rfl | rfl | rfl | rfl | rfl | rfl | rfl | rfl
  · by_cases h : t.val w s = 0
    · exact ⟨_, _, .k27 (.mk0 (decide_eq_true (by dsimp only [vx]; omega))), .n (Wo.res_bsf0 hs h)⟩
    · exact ⟨_, _, .k27 (.mk1 (decide_eq_false (by dsimp only [vx]; omega))), .i (Wo.res_bsf hs hw h)⟩
  · by_cases h : t.val w s = 0
    · exact ⟨_, _, .k28 (.mk0 (decide_eq_true (by dsimp only [vx]; omega))), .n (Wo.res_bsr0 hs h)⟩
    · exact ⟨_, _, .k28 (.mk1 (decide_eq_false (by dsimp only [vx]; omega))), .i (Wo.res_bsr hs hw h)⟩
  · exact ⟨_, _, .k29 (.mk (v_lt64 t s hw)), .i (Wo.res_popcnt hs hw)⟩
  · refine ⟨_, _, .k30 (b := .int (fn t)) (a := .int ((Wo.revI (t.val w d) size : Nat) : Int)) ?_, .i (Wo.res_bswap hs hw)⟩
    have e : (w : Int) = ((8 * size : Nat) : Int) := by rw [hs]
    rw [e]
    exact .mk (by omega)
  · exact ⟨_, _, .k31 (.mk W1), .n (Wo.res_bt hs hw)⟩
  · exact ⟨_, _, .k32 (.mk W1), .i (Wo.res_bts hs hw)⟩
  · exact ⟨_, _, .k33 (.mk W1), .i (Wo.res_btr hs hw)⟩
  · exact ⟨_, _, .k34 (.mk W1), .i (Wo.res_btc hs hw)⟩
/-- the operations 35, 36, 40 to 42 -/
theorem br_moved {t : Abs} {size w d s : Nat} {n : Int} {op : Nat} (hs : w = 8 * size) (hw : w = 8 ∨ w = 16 ∨ w = 32 ∨ w = 64) (ho : op = 35 ∨ op = 36 ∨ op = 40 ∨ op = 41 ∨ op = 42) (hn : Sv02.wrong op size n = false) :
    ∃ a b, R_moved [.int (op : Int), .int (vx t w s), .int n, .int (fn t), .int (w : Int)] a b ∧ Out2 t w d (Sv02.perform t op size d s n) a b := by
  have h0 : 0 < w := by omega
  have W1 : 1 ≤ (w : Int) ∧ (w : Int) ≤ 1000 := by omega
  rw [← Wo.wrong_mir (by omega)] at hn
  unfold Wm.is_refused_by_operation at hn
  have big : (op = 40 ∨ op = 41 ∨ op = 42) → (n = 1 ∨ n = 2 ∨ n = 4) ∧ n < size := by
    intro q
    rw [if_neg (by simp; omega), if_neg (by simp; omega), if_neg (by simp; omega), if_neg (by simp; omega), if_neg (by simp; omega), if_pos (by simp; omega)] at hn
    simp only [Bool.or_eq_false_iff, Bool.not_eq_false', Bool.or_eq_true, decide_eq_true_eq, decide_eq_false_iff_not] at hn
    omega
  have cnd : (op = 35 ∨ op = 36) → 0 ≤ n ∧ n < 16 := by
    intro q
    rcases q with rfl | rfl
    · simp only [show decide (((35 : Nat) : Int) = 21) = false from rfl, show decide (((35 : Nat) : Int) = 22) = false from rfl, show decide (((35 : Nat) : Int) = 25) = false from rfl, show decide (((35 : Nat) : Int) = 26) = false from rfl, show decide (((35 : Nat) : Int) = 30) = false from rfl, show decide (((35 : Nat) : Int) = 35) = true from rfl, Bool.or_false, Bool.false_eq_true, if_false, if_true, Bool.or_eq_false_iff, Bool.not_eq_false'] at hn
      exact Wo.cond_iff.mp hn.2
    · simp only [show decide (((36 : Nat) : Int) = 21) = false from rfl, show decide (((36 : Nat) : Int) = 22) = false from rfl, show decide (((36 : Nat) : Int) = 25) = false from rfl, show decide (((36 : Nat) : Int) = 26) = false from rfl, show decide (((36 : Nat) : Int) = 30) = false from rfl, show decide (((36 : Nat) : Int) = 35) = false from rfl, show decide (((36 : Nat) : Int) = 36) = true from rfl, Bool.or_false, Bool.false_eq_true, if_false, if_true, Bool.or_eq_false_iff, Bool.not_eq_false'] at hn
      exact Wo.cond_iff.mp hn.2
  rcases ho with rfl | rfl | rfl | rfl | rfl
  · have c := cnd (.inl rfl)
    cases h : Wm.condition_holds (fn t) n with
    | true => exact ⟨_, _, .k35 (.mk0 (by omega) h), .i (Wo.res_cmov hs c h)⟩
    | false => exact ⟨_, _, .k35 (.mk1 (by omega) h), .n (Wo.res_cmov0 hs c h)⟩
  · have c := cnd (.inr rfl)
    exact ⟨_, _, .k36 (.mk (by omega)), .i (Wo.res_setcc hs hw c)⟩
  · have c := big (.inl rfl)
    exact ⟨_, _, .k40 (.mk (by omega)), .i (Wo.res_movzx hs c.1 c.2)⟩
  · have c := big (.inr (.inl rfl))
    exact ⟨_, _, .k41 (.mk (by omega)), .i (Wo.res_movsx hs c.1 c.2)⟩
  · have c := big (.inr (.inr rfl))
    exact ⟨_, _, .k42 (.mk ⟨by omega, W1⟩), .i (Wo.res_movsxf hs h0 c.1 c.2)⟩
theorem br_outcome {t : Abs} {size w d s : Nat} {n : Int} {op : Nat} (hs : w = 8 * size) (hw : w = 8 ∨ w = 16 ∨ w = 32 ∨ w = 64) (ho : op ≤ 42) (hp : Wm.is_pair_operation (op : Int) = false) (hn : Sv02.wrong op size n = false) :
    ∃ a b, R_outcome [.int (op : Int), .int (vx t w d), .int (vx t w s), .int n, .int (fn t), .int (w : Int)] a b ∧ Out2 t w d (Sv02.perform t op size d s n) a b := by
  have hp' : ¬ (23 ≤ op ∧ op ≤ 26) ∧ ¬ (37 ≤ op ∧ op ≤ 39) := by
    unfold Wm.is_pair_operation at hp
    simp only [Bool.or_eq_false_iff, Bool.and_eq_false_iff, decide_eq_false_iff_not] at hp
    omega
  by_cases h1 : op ≤ 13
  · obtain ⟨a, b, h, o⟩ := br_computed (t := t) (d := d) (s := s) (n := n) hs hw h1
    exact ⟨a, b, .c1 (decide_eq_true (by omega)) h, o⟩
  · have z1 : decide ((op : Int) ≤ 13) = false := decide_eq_false (by omega)
    by_cases h2 : op ≤ 22
    · obtain ⟨a, b, h, o⟩ := br_shifted (t := t) (d := d) (s := s) hs hw (by omega) hn
      exact ⟨a, b, .c2 z1 (decide_eq_true (by omega)) h, o⟩
    · have z2 : decide ((op : Int) ≤ 22) = false := decide_eq_false (by omega)
      by_cases h3 : op ≤ 34
      · obtain ⟨a, b, h, o⟩ := br_placed (t := t) (d := d) (s := s) (n := n) hs hw (op := op) (by omega)
        exact ⟨a, b, .c3 z1 z2 (decide_eq_true (by omega)) h, o⟩
      · obtain ⟨a, b, h, o⟩ := br_moved (t := t) (d := d) (s := s) hs hw (op := op) (by omega) hn
        exact ⟨a, b, .c4 z1 z2 (decide_eq_false (by omega)) h, o⟩
end We
end

section
set_option Elab.async false
set_option linter.all false
set_option maxRecDepth 100000
set_option maxHeartbeats 4000000
namespace We
open PySem PySem.Spec PyProof.Rows L2
local macro_rules | `(tactic| walk_at "w") => `(tactic| first | omega | assumption | exact hb_small _ _ | exact pow_pos _ | exact md0 (by omega) | exact md1 (by omega) (by omega) | exact sm_x (by assumption) | exact sm_y (by assumption) | exact tl1 (by assumption) | exact tl2 (by assumption) | exact tl3 (by assumption) | exact tl4 (by assumption) | exact ab_ok (by assumption) | (refine ⟨by omega, ?_⟩; omega))
open Sv02 (Abs)
open Wo (vx fn)
/-! ### the processor on the heap -/
def pf (l : Addr) (f : Int) : List (Str × V) := [("registers", .ref l), ("flags", .int f)]
theorem pf_flags (l : Addr) (f g : Int) : putF "flags" (.int g) (pf l f) = pf l g := by
  unfold pf
  rw [putF, if_neg (by decide +kernel), putF, if_pos rfl]
theorem pf_low {l : Addr} {f : Int} {m : Str} (h1 : ¬ m = "registers") (h2 : ¬ m = "flags") : (pf l f).lookup m = none := by
  unfold pf
  rw [List.lookup_cons, show (m == "registers") = false from beq_eq_false_iff_ne.mpr h1, List.lookup_cons, show (m == "flags") = false from beq_eq_false_iff_ne.mpr h2]
  rfl
theorem pf_regs (l : Addr) (f : Int) : (pf l f).lookup ("registers" : Str) = some (.ref l) := by
  unfold pf
  rw [List.lookup_cons, beq_self_eq_true]
theorem pf_flag (l : Addr) (f : Int) : (pf l f).lookup ("flags" : Str) = some (.int f) := by
  unfold pf
  rw [List.lookup_cons, show (("flags" : Str) == "registers") = false from by decide +kernel, List.lookup_cons, beq_self_eq_true]
def regs (t : Abs) : List V := (List.range 16).map fun i => V.int ((t.reg i : Nat) : Int)
theorem regs_len (t : Abs) : (regs t).length = 16 := by unfold regs; rw [List.length_map, List.length_range]
theorem regs_at (t : Abs) {r : Nat} (h : r < 16) : (regs t)[r]? = some (V.int ((t.reg r : Nat) : Int)) := by
  unfold regs
  rw [List.getElem?_map, List.getElem?_range h]; rfl
theorem regs_set (t : Abs) {r : Nat} {x : Nat} (h : r < 16) : (regs t).set r (V.int (x : Int)) = regs { t with reg := fun i => if i = r then x else t.reg i } := by
  apply List.ext_getElem?
  intro i
  by_cases hi : i < 16
  · rw [regs_at _ hi]
    by_cases e : i = r
    · subst e
      rw [List.getElem?_set_self (by rw [regs_len]; exact hi)]
      show _ = some (V.int (((if i = i then x else t.reg i) : Nat) : Int))
      rw [if_pos rfl]
    · rw [List.getElem?_set_ne (Ne.symm e), regs_at _ hi]
      show _ = some (V.int (((if i = r then x else t.reg i) : Nat) : Int))
      rw [if_neg e]
  · rw [List.getElem?_eq_none (by rw [List.length_set, regs_len]; omega), List.getElem?_eq_none (by rw [regs_len]; omega)]
/-- the processor t stands at p, its attributes at dx, its registers at l -/
structure StA (C : Addr) (H : Hp) (p dx l : Addr) (t : Abs) : Prop where
  ins : H p = some (.ins C dx (pf l (fn t)))
  lst : H l = some (.lst (regs t))
/-- all but the processor is as it was -/
def Kp (H H' : Hp) (p l : Addr) : Prop := ∀ b o, H b = some o → b ≠ p → b ≠ l → H' b = some o
section
variable {C : Addr} {H H1 H2 : Hp} {p dx l : Addr} {t : Abs}
theorem Kp.refl : Kp H H p l := fun _ _ e _ _ => e
theorem Kp.trans (a : Kp H H1 p l) (b : Kp H1 H2 p l) : Kp H H2 p l := fun c o e h1 h2 => b c o (a c o e h1 h2) h1 h2
theorem Kp.same (s : Same H H1) : Kp H H1 p l := fun b o e _ _ => s b o e
theorem Kp.ts (a : Kp H H1 p l) (s : Same H1 H2) : Kp H H2 p l := a.trans (.same s)
theorem Kp.st (s : Same H H1) (a : Kp H1 H2 p l) : Kp H H2 p l := (Kp.same s).trans a
theorem StA.mono (S : StA C H p dx l t) (s : Same H H1) : StA C H1 p dx l t := ⟨s _ _ S.ins, s _ _ S.lst⟩
theorem apart {H : Hp} {a b : Addr} {o u : HO} (h : H a = some o) (h' : H b = some u) (d : o ≠ u) : a ≠ b := by
  intro e; subst e; rw [h] at h'; exact d (Option.some.inj h')
theorem StA.ne (S : StA C H p dx l t) : l ≠ p := apart S.lst S.ins (by intro z; cases z)
theorem StA.setf (S : StA C H p dx l t) (g : Sv02.Flags) : StA C (upd H p (.ins C dx (putF "flags" (.int ((g.number : Nat) : Int)) (pf l (fn t))))) p dx l { t with fl := g } := by
  refine ⟨?_, ?_⟩
  · rw [upd_same, pf_flags]
  · rw [upd_ne S.ne]; exact S.lst
theorem Kp.setf {o : HO} : Kp H (upd H p o) p l := fun b u e h1 _ => by rw [upd_ne h1]; exact e
theorem Kp.setl {o : HO} : Kp H (upd H l o) p l := fun b u e _ h2 => by rw [upd_ne h2]; exact e
theorem StA.setr (S : StA C H p dx l t) {r x : Nat} (h : r < 16) : StA C (upd H l (.lst ((regs t).set r (V.int (x : Int))))) p dx l { t with reg := fun i => if i = r then x else t.reg i } := by
  refine ⟨?_, ?_⟩
  · rw [upd_ne (Ne.symm S.ne)]; exact S.ins
  · rw [upd_same, regs_set t h]
end
inductive R_low (C : Addr) : Hp → List V → V → Prop
  | mk {H : Hp} {p dx l : Addr} {t : Abs} {r w : Nat} (S : StA C H p dx l t) (hr : r < 16) (hw : w ≤ 1000) : R_low C H [.ref p, .int (r : Int), .int (w : Int)] (.int (vx t w r))
/-- what a def that changes the processor promises: the arguments behind it, the answer, the processor then -/
def spS (C : Addr) (R : Abs → List V → V → Abs → Prop) : Sp := fun vs H Q _ => ∃ (p dx l : Addr) (t : Abs) (rest : List V) (v : V) (t' : Abs), vs = .ref p :: rest ∧ StA C H p dx l t ∧ R t rest v t' ∧ ∀ H', StA C H' p dx l t' → Kp H H' p l → Q v H'
inductive R_write : Abs → List V → V → Abs → Prop
  | mk {t : Abs} {r w : Nat} {z : Int} (hr : r < 16) (hw : w = 8 ∨ w = 16 ∨ w = 32 ∨ w = 64) : R_write t [.int (r : Int), .int (w : Int), .int z] .non (t.write w r (Sv02.unsigned w z))
section
variable {P : Program} {w : World} {K : PySem.W.Frag} {mg : Str → Option Value} {base : Heap} {C : Addr}
section
variable {X : Cx} {st : St} {H : Hp} {o e1 e2 : Expr} {pos : Pos} {p dx l : Addr} {t : Abs}
theorem Pe.flg (T : Txt X.K X.mg C) (S : StA C H p dx l t) (ho : Pe X st H o (.ref p)) (hb : attributeBase o "flags" X.env (eval o X.env) = eval o X.env := by rfl) : Pe X st H (.Attribute o "flags" pos) (.int (fn t)) := Pe.fld ho S.ins T.cl T.nf_flags (pf_flag _ _) hb
theorem Pe.rgs (T : Txt X.K X.mg C) (S : StA C H p dx l t) (ho : Pe X st H o (.ref p)) (hb : attributeBase o "registers" X.env (eval o X.env) = eval o X.env := by rfl) : Pe X st H (.Attribute o "registers" pos) (.ref l) := Pe.fld ho S.ins T.cl T.nf_registers (pf_regs _ _) hb
theorem Pe.reg {apos : Pos} {r : Nat} (T : Txt X.K X.mg C) (S : StA C H p dx l t) (ho : Pe X st H o (.ref p)) (hi : Pe X st H e1 (.int (r : Int))) (hr : r < 16) (hb : attributeBase o "registers" X.env (eval o X.env) = eval o X.env := by rfl) (hs : PlainIx e1 := by intro _ _; rfl) :
    Pe X st H (.Subscript (.Attribute o "registers" apos) e1 pos) (.int ((t.reg r : Nat) : Int)) := Pe.item (Pe.rgs T S ho hb) hi (SqL.of S.lst) (atI_nat (regs_at t hr)) hs
end
theorem ok_low (T : Txt K mg C) : MethOk P w K mg base C "low" ["self", "r", "width"] 2 (spR (R_low C)) := by
  refine meth_ok T.d_low sc_low (fun vs H Q E h => ?_) (fun f cdv A outer s H vs Q E hr h => ?_)
  · obtain ⟨v, hR, _⟩ := h; cases hR; rfl
  · obtain ⟨v, hR, k⟩ := h
    cases hR with
    | @mk p dx l t r w S h16 hw =>
      refine ⟨_, pss_one (ps_ret pe_ev), ?_⟩
      refine ⟨_, (Pe.call (ok_cut T) (hr.mono (by decide)) (Pas.cons (Pe.reg T S (Pe.var 0 rfl) (Pe.var 1 rfl) (by walk_at "w")) (Pas.cons (Pe.var 2 rfl) Pas.nil)) (fun _ _ => R_cut.mk (by walk_at "w"))), fun Hz sz => ?_⟩
      rw [Wo.cut_nat]
      exact k Hz sz
section
variable {X : Cx} {st : St} {H : Hp} {o e1 e2 : Expr} {pos apos : Pos} {p dx l : Addr} {t : Abs}
theorem Pe.low {pl : Sem Bool} {d w : Nat} (T : Txt X.K X.mg C) (S : StA C H p dx l t) (hr : Room 2 X.A) (ho : Pe X st H o (.ref p)) (h1 : Pe X st H e1 (.int (d : Int))) (h2 : Pe X st H e2 (.int (w : Int))) (hd : d < 16) (hw : w ≤ 1000)
    (hst : starEach [e1, e2] X.env = (false, eval e1 X.env) :: starEach [e2] X.env := by rfl) (hst2 : starEach [e2] X.env = (false, eval e2 X.env) :: starEach [] X.env := by rfl) (hpl : (backTo pos (starEach [e2] X.env)).any (·.1) = false := by rfl)
    (ht : eval (.Call (.Attribute o "low" apos) [e1, e2] [] pos) X.env = (do
      let ov ← eval o X.env
      standAt apos.atName
      let (f, first) ← holding [ov] (getMethod ov "low" pl)
      callWith pos f first (backTo pos (starEach [e1, e2] X.env)) (backToKw pos (keywordEach [] X.env))) := by rfl) :
    Pe X st H (.Call (.Attribute o "low" apos) [e1, e2] [] pos) (.int (vx t w d)) :=
  Pe.meth (pl := pl) ho T.cl (ok_low T) hr (Pas.cons h1 (Pas.cons h2 Pas.nil hst2) hst) S.ins (pf_low (by decide +kernel) (by decide +kernel)) (fun H' s' => R_low.mk (S.mono s') hd hw) hst hpl ht
end
theorem write_val (t : Abs) {w r : Nat} (z : Int) (hw : w = 8 ∨ w = 16 ∨ w = 32 ∨ w = 64) :
    (if decide ((w : Int) < 32) = true then ((t.reg r : Nat) : Int) - vx t w r else 0) + Wm.cut z (w : Int) = (((if w = 8 ∨ w = 16 then t.reg r - t.reg r % 2 ^ w + Sv02.unsigned w z else Sv02.unsigned w z) : Nat) : Int) := by
  rw [Wo.cut_int]
  have h : t.reg r % 2 ^ w ≤ t.reg r := Nat.mod_le _ _
  by_cases c : w = 8 ∨ w = 16
  · rw [if_pos c, if_pos (decide_eq_true (by omega))]
    dsimp only [vx, Sv02.Abs.val]
    omega
  · rw [if_neg c, if_neg (by simp; omega)]
    omega
theorem ok_write (T : Txt K mg C) : MethOk P w K mg base C "write" ["self", "r", "width", "number"] 3 (spS C R_write) := by
  refine meth_ok T.d_write sc_write (fun vs H Q E h => ?_) (fun f cdv A outer s H vs Q E hr h => ?_)
  · obtain ⟨p, dx, l, t, rest, v, t', rfl, S, hR, _⟩ := h; cases hR; rfl
  · obtain ⟨p, dx, l, t, rest, v, t', rfl, S, hR, k⟩ := h
    cases hR with
    | @mk r w z h16 hw =>
      refine ⟨_, pss_cons (ps_set (i := 4) sc_write.nd rfl (Or.inl rfl) pe_ev) (pss_one (ps_asg pe_ev (pg_sub pe_ev pe_ev set_list))), ?_⟩
      refine ⟨_, (Pe.ifInt (Pt.cmp (Pe.var 2 rfl) Pe.int c_lt (nomark _)) (fun hif => (Pe.bin (Pe.reg T S (Pe.var 0 rfl) (Pe.var 1 rfl) (by walk_at "w")) (Pe.low T S (hr.mono (by decide)) (Pe.var 0 rfl) (Pe.var 1 rfl) (Pe.var 2 rfl) (by walk_at "w") (by walk_at "w")) b_sub)) (fun hif => Pe.int)), fun H1 s1 => ?_⟩
      refine ⟨_, (Pe.bin (Pe.var 4 rfl) (Pe.call (ok_cut T) (hr.mono (by decide)) (Pas.cons (Pe.var 3 rfl) (Pas.cons (Pe.var 2 rfl) Pas.nil)) (fun _ _ => R_cut.mk (by walk_at "w"))) b_add), fun H2 s2 => ?_⟩
      have S2 := (S.mono s1).mono s2
      refine ⟨_, (Pe.rgs T S2 (Pe.var 0 rfl)), fun H3 s3 => ⟨_, Pe.var 1 rfl, fun H4 s4 => ⟨l, regs t, (r : Int), r, rfl, rfl, ((S2.mono s3).mono s4).lst, ?_, ?_⟩⟩⟩
      · unfold ixN
        rw [if_pos (by omega), if_pos (by rw [regs_len]; omega)]; rfl
      · have S4 := (S2.mono s3).mono s4
        rw [write_val t z hw]
        exact k _ (S4.setr h16) ((Kp.same (((s1.trans s2).trans s3).trans s4)).trans Kp.setl)
end
end We
end

section
set_option Elab.async false
set_option linter.all false
set_option maxRecDepth 100000
set_option maxHeartbeats 4000000
namespace We
open PySem PySem.Spec PyProof.Rows L2
open Sv02 (Abs)
open Wo (vx fn)
local macro_rules | `(tactic| walk_at "w") => `(tactic| first | omega | assumption | exact hb_small _ _ | exact pow_pos _ | exact sm_v _ _ _ (by assumption) | exact .inl (und_s _ _ _ _ (by assumption)) | exact .inr (und_s _ _ _ _ (by assumption)) | (refine ⟨by omega, ?_⟩; omega))
theorem Pas.mono {X : Cx} {st : St} {H H1 : Hp} {es : List Expr} {vs : List V} (h : Pas X st H es vs) (s : Same H H1) : Pas X st H1 es vs := PA.imp h fun st' H' Q ⟨e, s', q⟩ => ⟨e, s.trans s', q⟩
section
variable {X : Cx} {st : St} {H : Hp} {C p dx l : Addr} {t t' : Abs} {e o : Expr} {es : List Expr} {rest : List V} {v : V} {Q : VK} {D : Ends} {R : Abs → List V → V → Abs → Prop}
theorem call_S (S : StA C H p dx l t) (ha : Pas X st H es (.ref p :: rest)) (hR : R t rest v t') (next : ∀ H', StA C H' p dx l t' → Kp H H' p l → Q v H') : tCall (spS C R) [] E0 (tEvA X es) st H Q := by
  refine ⟨_, ha, fun H1 s1 => ⟨p, dx, l, t, rest, v, t', ?_, S.mono s1, hR, fun H' S' K' => next H' S' (K'.st s1)⟩⟩
  rw [List.append_nil]
theorem meth_S {m : Str} (S : StA C H p dx l t) (ho : Pe X st H o (.ref p)) (ha : Pas X st H es rest) (hm : (pf l (fn t)).lookup m = none) (hR : R t rest v t') (next : ∀ H', StA C H' p dx l t' → Kp H H' p l → Q v H') :
    tMeth C m (spS C R) [] E0 (tEv X o) (tEvA X es) st H Q := by
  refine ⟨_, ho, fun H1 s1 => ⟨p, dx, _, rfl, (S.mono s1).ins, hm, _, ha.mono s1, fun H2 s2 => ⟨p, dx, l, t, rest, v, t', ?_, (S.mono s1).mono s2, hR, fun H' S' K' => next H' S' (K'.st (s1.trans s2))⟩⟩⟩
  rw [List.append_nil]
theorem fld_S {f : Int} {g : Sv02.Flags} (T : Txt X.K X.mg C) (S : StA C H p dx l t) (hv : Pe X st H e (.int f)) (hf : f = ((g.number : Nat) : Int)) (ho : Pe X st H o (.ref p)) (next : ∀ H', StA C H' p dx l { t with fl := g } → Kp H H' p l → D.nx st H') :
    sFld X.K (tEv X o) (tEv X e) "flags" D st H := by
  subst hf
  refine ⟨_, hv, fun H1 s1 => ⟨_, ho.mono s1, fun H2 s2 => ⟨p, C, dx, _, rfl, ((S.mono s1).mono s2).ins, T.cl, T.nf_flags, (by show 2 < 1000; decide), ?_⟩⟩⟩
  exact next _ (((S.mono s1).mono s2).setf g) ((Kp.same (s1.trans s2)).trans Kp.setf)
end
theorem nm_write {l : Addr} {f : Int} : (pf l f).lookup ("write" : Str) = none := pf_low (by decide +kernel) (by decide +kernel)
theorem sm_v (t : Abs) (w d : Nat) (hw : w = 8 ∨ w = 16 ∨ w = 32 ∨ w = 64) : (vx t w d).natAbs < 2 ^ 100 := by have := v_lt64 t d hw; omega
theorem und_s (t : Abs) (w d : Nat) (b : Bool) (hw : w = 8 ∨ w = 16 ∨ w = 32 ∨ w = 64) : -(2 ^ 64) < Wm.understood (vx t w d) (w : Int) b ∧ Wm.understood (vx t w d) (w : Int) b < 2 ^ 64 := by
  have h := v_lt64 t d hw
  cases b with
  | false => show -(2 ^ 64) < vx t w d ∧ vx t w d < 2 ^ 64; omega
  | true =>
    show -(2 ^ 64) < Wm.signed (vx t w d) (w : Int) ∧ Wm.signed (vx t w d) (w : Int) < 2 ^ 64
    rw [Wo.signed_nat (by omega) (Wo.val_lt ..)]
    have q := Wo.signed_range (show 0 < w by omega) (Wo.val_lt t w d)
    have : 2 ^ (w - 1) ≤ 2 ^ 63 := Nat.pow_le_pow_right (by decide) (by omega)
    omega
inductive R_multiply : Abs → List V → V → Abs → Prop
  | mk {t t' : Abs} {size w d s : Nat} {b : Bool} {n : Int} (hs : w = 8 * size) (hw : w = 8 ∨ w = 16 ∨ w = 32 ∨ w = 64) (hd : d < 16) (h16 : s < 16) (h : Sv02.perform t (if b = true then 24 else 23) size d s n = .done t') : R_multiply t [.bl b, .int (w : Int), .int (d : Int), .int (s : Int)] .non t'
inductive R_divide : Abs → List V → V → Abs → Prop
  | done {t t' : Abs} {size w d s n : Nat} {b : Bool} (hs : w = 8 * size) (hw : w = 8 ∨ w = 16 ∨ w = 32 ∨ w = 64) (hd : d < 16) (h16 : s < 16) (hn : n < 16) (h : Sv02.perform t (if b = true then 26 else 25) size d s (n : Int) = .done t') : R_divide t [.bl b, .int (w : Int), .int (d : Int), .int (s : Int), .int (n : Int)] (.bl true) t'
  | trap {t : Abs} {size w d s n : Nat} {b : Bool} (hs : w = 8 * size) (hw : w = 8 ∨ w = 16 ∨ w = 32 ∨ w = 64) (hd : d < 16) (h16 : s < 16) (hn : n < 16) (h : Sv02.perform t (if b = true then 26 else 25) size d s (n : Int) = .trap) : R_divide t [.bl b, .int (w : Int), .int (d : Int), .int (s : Int), .int (n : Int)] (.bl false) t
inductive R_exchange : Abs → List V → V → Abs → Prop
  | mk {t t' : Abs} {size w d s : Nat} {n : Int} (hs : w = 8 * size) (hw : w = 8 ∨ w = 16 ∨ w = 32 ∨ w = 64) (hd : d < 16) (h16 : s < 16) (h : Sv02.perform t 37 size d s n = .done t') : R_exchange t [.int (w : Int), .int (d : Int), .int (s : Int)] .non t'
inductive R_exchange_and_add : Abs → List V → V → Abs → Prop
  | mk {t t' : Abs} {size w d s : Nat} {n : Int} (hs : w = 8 * size) (hw : w = 8 ∨ w = 16 ∨ w = 32 ∨ w = 64) (hd : d < 16) (h16 : s < 16) (h : Sv02.perform t 38 size d s n = .done t') : R_exchange_and_add t [.int (w : Int), .int (d : Int), .int (s : Int)] .non t'
inductive R_compare_and_exchange : Abs → List V → V → Abs → Prop
  | mk {t t' : Abs} {size w d s : Nat} {n : Int} (hs : w = 8 * size) (hw : w = 8 ∨ w = 16 ∨ w = 32 ∨ w = 64) (hd : d < 16) (h16 : s < 16) (h : Sv02.perform t 39 size d s n = .done t') : R_compare_and_exchange t [.int (w : Int), .int (d : Int), .int (s : Int)] .non t'
theorem done_inj {a b : Abs} (h : Sv02.Out.done a = Sv02.Out.done b) : a = b := by injection h
section
variable {P : Program} {w : World} {K : PySem.W.Frag} {mg : Str → Option Value} {base : Heap} {C : Addr}
theorem mul_state {t t' : Abs} {size w d s : Nat} {b : Bool} {n : Int} (hs : w = 8 * size) (h0 : 0 < w) (h : Sv02.perform t (if b = true then 24 else 23) size d s n = .done t') {p hf : Int} (hp : p = Wm.understood (vx t w d) w b * Wm.understood (vx t w s) w b) (hh : hf = Wm.cut p w) :
    ∃ g : Sv02.Flags, Wm.flags_of hf w + Wm.when (1 + 2048) (!decide (Wm.understood hf w b = p)) = ((g.number : Nat) : Int) ∧ t' = { ((t.write w d (Sv02.unsigned w hf)).write w s (Sv02.unsigned w (p / 2 ^ ((w : Int)).toNat))) with fl := g } := by
  cases b with
  | false =>
    obtain ⟨g, h1, h2⟩ := Wo.res_mul (t := t) (d := d) (s := s) (n := n) hs h0 (show p = vx t w d * vx t w s from hp) hh
    exact ⟨g, h1, done_inj (h.symm.trans h2)⟩
  | true =>
    obtain ⟨g, h1, h2⟩ := Wo.res_imul (t := t) (d := d) (s := s) (n := n) hs h0 (show p = Wm.signed (vx t w d) w * Wm.signed (vx t w s) w from hp) hh
    exact ⟨g, h1, done_inj (h.symm.trans h2)⟩
theorem ok_multiply (T : Txt K mg C) : DefOk P w K mg base "multiply" ["processor", "with_sign", "width", "d", "s"] 5 (spS C R_multiply) := by
  have DW := ok_write (P := P) (w := w) (base := base) T
  refine def_ok T.d_multiply sc_multiply (fun vs H Q E h => ?_) (fun f cdv A outer s H vs Q E hr h => ?_)
  · obtain ⟨p, dx, l, t, rest, v, t', rfl, S, hR, _⟩ := h; cases hR; rfl
  · obtain ⟨p, dx, l, t, rest, v, t', rfl, S, hR, k⟩ := h
    cases hR with
    | @mk _ size w d s' b n hs hw hd h16 h =>
      obtain ⟨g, hg, rfl⟩ := mul_state hs (by omega) h rfl rfl
      refine ⟨_, pss_cons (ps_set (i := 5) sc_multiply.nd rfl (Or.inl rfl) pe_ev) (pss_cons (ps_set (i := 6) sc_multiply.nd rfl (Or.inl rfl) pe_ev) (pss_cons (ps_set (i := 7) sc_multiply.nd rfl (Or.inl rfl) pe_ev) (pss_cons (ps_set (i := 8) sc_multiply.nd rfl (Or.inl rfl) pe_ev)
        (pss_cons (ps_expr (pe_mth pe_ev T.cl DW (hr.mono (by decide)) pa_ev)) (pss_cons (ps_expr (pe_mth pe_ev T.cl DW (hr.mono (by decide)) pa_ev)) (pss_cons (ps_set (i := 9) sc_multiply.nd rfl (Or.inl rfl) pe_ev) (pss_one (ps_fld pe_ev pe_ev rfl)))))))), ?_⟩
      refine ⟨_, (Pe.call (ok_understood T) (hr.mono (by decide)) (Pas.cons (Pe.low T S (hr.mono (by decide)) (Pe.var 0 rfl) (Pe.var 3 rfl) (Pe.var 2 rfl) (by walk_at "w") (by walk_at "w")) (Pas.cons (Pe.var 2 rfl) (Pas.cons (Pe.var 1 rfl) Pas.nil))) (fun _ _ => R_understood.mk (by walk_at "w"))), fun H1 s1 => ?_⟩
      have S1 := S.mono s1
      refine ⟨_, (Pe.call (ok_understood T) (hr.mono (by decide)) (Pas.cons (Pe.low T S1 (hr.mono (by decide)) (Pe.var 0 rfl) (Pe.var 4 rfl) (Pe.var 2 rfl) (by walk_at "w") (by walk_at "w")) (Pas.cons (Pe.var 2 rfl) (Pas.cons (Pe.var 1 rfl) Pas.nil))) (fun _ _ => R_understood.mk (by walk_at "w"))), fun H2 s2 => ?_⟩
      refine ⟨_, Pe.bin (Pe.var 5 rfl) (Pe.var 6 rfl) (b_mul (.inl (und_s t w d b hw))), fun H3 s3 => ?_⟩
      refine ⟨_, (Pe.call (ok_cut T) (hr.mono (by decide)) (Pas.cons (Pe.var 7 rfl) (Pas.cons (Pe.var 2 rfl) Pas.nil)) (fun _ _ => R_cut.mk (by walk_at "w"))), fun H4 s4 => ?_⟩
      have S4 := ((S1.mono s2).mono s3).mono s4
      refine meth_S S4 (Pe.var 0 rfl) (Pas.cons (Pe.var 3 rfl) (Pas.cons (Pe.var 2 rfl) (Pas.cons (Pe.var 8 rfl) Pas.nil))) nm_write (R_write.mk hd hw) fun H5 S5 K5 => ?_
      refine meth_S S5 (Pe.var 0 rfl) (Pas.cons (Pe.var 4 rfl) (Pas.cons (Pe.var 2 rfl) (Pas.cons (Pe.bin (Pe.var 7 rfl) (Pe.var 2 rfl) (b_shr (by walk_at "w"))) Pas.nil))) nm_write (R_write.mk h16 hw) fun H6 S6 K6 => ?_
      refine ⟨_, (Pe.cmp (Pe.call (ok_understood T) (hr.mono (by decide)) (Pas.cons (Pe.var 8 rfl) (Pas.cons (Pe.var 2 rfl) (Pas.cons (Pe.var 1 rfl) Pas.nil))) (fun _ _ => R_understood.mk (by walk_at "w"))) (Pe.var 7 rfl) c_ne (nomark _)), fun H7 s7 => ?_⟩
      refine fld_S T (S6.mono s7) (Pe.bin (Pe.call (ok_flags_of T) (hr.mono (by decide)) (Pas.cons (Pe.var 8 rfl) (Pas.cons (Pe.var 2 rfl) Pas.nil)) (fun _ _ => R_flags_of.mk (by walk_at "w"))) (Pe.call (ok_when T) (hr.mono (by decide)) (Pas.cons (Pe.bin (Pe.glob T.g_CARRY) (Pe.glob T.g_OVERFLOW) b_add) (Pas.cons (Pe.var 9 rfl) Pas.nil)) (fun _ _ => R_when.mk)) b_add) hg (Pe.var 0 rfl) fun H8 S8 K8 => ?_
      exact k H8 S8 (((((Kp.same (((s1.trans s2).trans s3).trans s4)).trans K5).trans K6).ts s7).trans K8)
theorem ok_exchange (T : Txt K mg C) : DefOk P w K mg base "exchange" ["processor", "width", "d", "s"] 4 (spS C R_exchange) := by
  have DW := ok_write (P := P) (w := w) (base := base) T
  refine def_ok T.d_exchange sc_exchange (fun vs H Q E h => ?_) (fun f cdv A outer s H vs Q E hr h => ?_)
  · obtain ⟨p, dx, l, t, rest, v, t', rfl, S, hR, _⟩ := h; cases hR; rfl
  · obtain ⟨p, dx, l, t, rest, v, t', rfl, S, hR, k⟩ := h
    cases hR with
    | @mk _ size w d s' n hs hw hd h16 h =>
      rw [Wo.res_xchg hs] at h
      obtain rfl := done_inj h
      refine ⟨_, pss_cons (ps_set (i := 4) sc_exchange.nd rfl (Or.inl rfl) pe_ev) (pss_cons (ps_expr (pe_mth pe_ev T.cl DW (hr.mono (by decide)) pa_ev)) (pss_one (ps_expr (pe_mth pe_ev T.cl DW (hr.mono (by decide)) pa_ev)))), ?_⟩
      refine ⟨_, (Pe.low T S (hr.mono (by decide)) (Pe.var 0 rfl) (Pe.var 2 rfl) (Pe.var 1 rfl) (by walk_at "w") (by walk_at "w")), fun H1 s1 => ?_⟩
      have S1 := S.mono s1
      refine meth_S S1 (Pe.var 0 rfl) (Pas.cons (Pe.var 2 rfl) (Pas.cons (Pe.var 1 rfl) (Pas.cons (Pe.low T S1 (hr.mono (by decide)) (Pe.var 0 rfl) (Pe.var 3 rfl) (Pe.var 1 rfl) (by walk_at "w") (by walk_at "w")) Pas.nil))) nm_write (R_write.mk hd hw) fun H2 S2 K2 => ?_
      refine meth_S S2 (Pe.var 0 rfl) (Pas.cons (Pe.var 3 rfl) (Pas.cons (Pe.var 1 rfl) (Pas.cons (Pe.var 4 rfl) Pas.nil))) nm_write (R_write.mk h16 hw) fun H3 S3 K3 => ?_
      rw [Wo.uns_val, Wo.uns_val] at S3
      exact k H3 S3 (((Kp.same s1).trans K2).trans K3)
theorem ok_exchange_and_add (T : Txt K mg C) : DefOk P w K mg base "exchange_and_add" ["processor", "width", "d", "s"] 6 (spS C R_exchange_and_add) := by
  have DW := ok_write (P := P) (w := w) (base := base) T
  refine def_ok T.d_exchange_and_add sc_exchange_and_add (fun vs H Q E h => ?_) (fun f cdv A outer s H vs Q E hr h => ?_)
  · obtain ⟨p, dx, l, t, rest, v, t', rfl, S, hR, _⟩ := h; cases hR; rfl
  · obtain ⟨p, dx, l, t, rest, v, t', rfl, S, hR, k⟩ := h
    cases hR with
    | @mk _ size w d s' n hs hw hd h16 h =>
      obtain ⟨g, hg, h2⟩ := Wo.res_xadd (t := t) (d := d) (s := s') (n := n) hs (by omega)
      rw [h2] at h
      obtain rfl := done_inj h
      refine ⟨_, pss_cons (ps_set (i := 4) sc_exchange_and_add.nd rfl (Or.inl rfl) pe_ev) (pss_cons (ps_set (i := 5) sc_exchange_and_add.nd rfl (Or.inl rfl) pe_ev) (pss_cons (ps_fld pe_ev pe_ev rfl) (pss_cons (ps_expr (pe_mth pe_ev T.cl DW (hr.mono (by decide)) pa_ev)) (pss_one (ps_expr (pe_mth pe_ev T.cl DW (hr.mono (by decide)) pa_ev)))))), ?_⟩
      refine ⟨_, (Pe.low T S (hr.mono (by decide)) (Pe.var 0 rfl) (Pe.var 2 rfl) (Pe.var 1 rfl) (by walk_at "w") (by walk_at "w")), fun H1 s1 => ?_⟩
      have S1 := S.mono s1
      refine ⟨_, (Pe.low T S1 (hr.mono (by decide)) (Pe.var 0 rfl) (Pe.var 3 rfl) (Pe.var 1 rfl) (by walk_at "w") (by walk_at "w")), fun H2 s2 => ?_⟩
      refine fld_S T (S1.mono s2) (Pe.call (ok_sum_flags T) (hr.mono (by decide)) (Pas.cons (Pe.var 4 rfl) (Pas.cons (Pe.var 5 rfl) (Pas.cons Pe.int (Pas.cons (Pe.var 1 rfl) Pas.nil)))) (fun _ _ => R_sum_flags.mk (by walk_at "w"))) hg (Pe.var 0 rfl) fun H3 S3 K3 => ?_
      refine meth_S S3 (Pe.var 0 rfl) (Pas.cons (Pe.var 3 rfl) (Pas.cons (Pe.var 1 rfl) (Pas.cons (Pe.var 4 rfl) Pas.nil))) nm_write (R_write.mk h16 hw) fun H4 S4 K4 => ?_
      refine meth_S S4 (Pe.var 0 rfl) (Pas.cons (Pe.var 2 rfl) (Pas.cons (Pe.var 1 rfl) (Pas.cons (Pe.bin (Pe.var 4 rfl) (Pe.var 5 rfl) b_add) Pas.nil))) nm_write (R_write.mk hd hw) fun H5 S5 K5 => ?_
      rw [Wo.uns_val] at S5
      exact k H5 S5 ((((Kp.same (s1.trans s2)).trans K3).trans K4).trans K5)
theorem ok_compare_and_exchange (T : Txt K mg C) : DefOk P w K mg base "compare_and_exchange" ["processor", "width", "d", "s"] 6 (spS C R_compare_and_exchange) := by
  have DW := ok_write (P := P) (w := w) (base := base) T
  refine def_ok T.d_compare_and_exchange sc_compare_and_exchange (fun vs H Q E h => ?_) (fun f cdv A outer s H vs Q E hr h => ?_)
  · obtain ⟨p, dx, l, t, rest, v, t', rfl, S, hR, _⟩ := h; cases hR; rfl
  · obtain ⟨p, dx, l, t, rest, v, t', rfl, S, hR, k⟩ := h
    cases hR with
    | @mk _ size w d s' n hs hw hd h16 h =>
      obtain ⟨g, hg, h2⟩ := Wo.res_cmpxchg (t := t) (d := d) (s := s') (n := n) hs (by omega)
      rw [h2] at h
      obtain rfl := done_inj h
      refine ⟨_, pss_cons (ps_set (i := 4) sc_compare_and_exchange.nd rfl (Or.inl rfl) pe_ev) (pss_cons (ps_set (i := 5) sc_compare_and_exchange.nd rfl (Or.inl rfl) pe_ev) (pss_cons (ps_fld pe_ev pe_ev rfl) (pss_one (ps_if pt_ev (pss_one (ps_expr (pe_mth pe_ev T.cl DW (hr.mono (by decide)) pa_ev))) (pss_one (ps_expr (pe_mth pe_ev T.cl DW (hr.mono (by decide)) pa_ev))))))), ?_⟩
      refine ⟨_, (Pe.low T S (hr.mono (by decide)) (Pe.var 0 rfl) (Pe.var 2 rfl) (Pe.var 1 rfl) (by walk_at "w") (by walk_at "w")), fun H1 s1 => ?_⟩
      have S1 := S.mono s1
      refine ⟨_, Pe.low (d := 0) T S1 (hr.mono (by decide)) (Pe.var 0 rfl) Pe.int (Pe.var 1 rfl) (by decide) (by omega), fun H2 s2 => ?_⟩
      refine fld_S T (S1.mono s2) (Pe.call (ok_difference_flags T) (hr.mono (by decide)) (Pas.cons (Pe.var 5 rfl) (Pas.cons (Pe.var 4 rfl) (Pas.cons Pe.int (Pas.cons (Pe.var 1 rfl) Pas.nil)))) (fun _ _ => R_difference_flags.mk (by walk_at "w"))) hg (Pe.var 0 rfl) fun H3 S3 K3 => ?_
      refine ⟨_, (Pt.cmp (Pe.var 5 rfl) (Pe.var 4 rfl) c_eq (nomark _)), fun H4 s4 => ?_⟩
      have S4 := S3.mono s4
      by_cases c : t.val w 0 = t.val w d
      · refine iteT (decide_eq_true (by dsimp only [vx]; omega)) ?_
        refine meth_S S4 (Pe.var 0 rfl) (Pas.cons (Pe.var 2 rfl) (Pas.cons (Pe.var 1 rfl) (Pas.cons (Pe.low T S4 (hr.mono (by decide)) (Pe.var 0 rfl) (Pe.var 3 rfl) (Pe.var 1 rfl) (by walk_at "w") (by walk_at "w")) Pas.nil))) nm_write (R_write.mk hd hw) fun H5 S5 K5 => ?_
        rw [Wo.uns_val] at S5
        rw [if_pos c] at k
        exact k H5 S5 ((((Kp.same (s1.trans s2)).trans K3).ts s4).trans K5)
      · refine iteF (decide_eq_false (by dsimp only [vx]; omega)) ?_
        refine meth_S S4 (Pe.var 0 rfl) (Pas.cons Pe.int (Pas.cons (Pe.var 1 rfl) (Pas.cons (Pe.var 4 rfl) Pas.nil))) nm_write (R_write.mk (r := 0) (by decide) hw) fun H5 S5 K5 => ?_
        rw [Wo.uns_val] at S5
        rw [if_neg c] at k
        exact k H5 S5 ((((Kp.same (s1.trans s2)).trans K3).ts s4).trans K5)
end
end We
end

section
set_option Elab.async false
set_option linter.all false
set_option maxRecDepth 100000
set_option maxHeartbeats 4000000
namespace We
open PySem PySem.Spec PyProof.Rows L2
open Sv02 (Abs)
open Wo (vx fn)
local macro_rules | `(tactic| walk_at "w") => `(tactic| first | omega | assumption | exact hb_small _ _ | exact pow_pos _ | exact sm_v _ _ _ (by assumption) | (refine ⟨by omega, ?_⟩; omega))
def opD (b : Bool) : Nat := if b = true then 26 else 25
section
variable {t : Abs} {size w d s n : Nat} {b : Bool} (hs : w = 8 * size) (h0 : 0 < w)
include hs h0
theorem dv_zero (h : Wm.understood (vx t w n) w b = 0) : Sv02.perform t (if b = true then 26 else 25) size d s (n : Int) = .trap := by
  cases b with
  | false => exact Wo.div_zero hs h
  | true => exact Wo.idiv_zero hs h0 h
theorem dv_trap {q : Int} (hv : Wm.understood (vx t w n) w b ≠ 0) (hq : q = Wm.quotient_toward_0 (Wm.understood (Wo.halves t w d s) (2 * (w : Int)) b) (Wm.understood (vx t w n) w b)) (h : Wm.understood (Wm.cut q w) w b ≠ q) :
    Sv02.perform t (if b = true then 26 else 25) size d s (n : Int) = .trap := by
  cases b with
  | false => exact Wo.div_trap hs hv hq h
  | true => exact Wo.idiv_trap hs h0 hq h
theorem dv_done {q : Int} (hv : Wm.understood (vx t w n) w b ≠ 0) (hq : q = Wm.quotient_toward_0 (Wm.understood (Wo.halves t w d s) (2 * (w : Int)) b) (Wm.understood (vx t w n) w b)) (h : Wm.understood (Wm.cut q w) w b = q) :
    Sv02.perform t (if b = true then 26 else 25) size d s (n : Int) = .done ((t.write w d (Sv02.unsigned w q)).write w s (Sv02.unsigned w (Wm.understood (Wo.halves t w d s) (2 * (w : Int)) b - q * Wm.understood (vx t w n) w b))) := by
  cases b with
  | false => exact Wo.div_done hs hv hq h
  | true => exact Wo.idiv_done hs h0 hv hq h
end
/-- what an operation that may trap comes to -/
def TrapOr (out : Sv02.Out) (t : Abs) (v : V) (t' : Abs) : Prop := (out = .done t' ∧ v = .bl true) ∨ (out = .trap ∧ v = .bl false ∧ t' = t)
section
variable {P : Program} {w : World} {K : PySem.W.Frag} {mg : Str → Option Value} {base : Heap} {C : Addr}
theorem ok_divide (T : Txt K mg C) : DefOk P w K mg base "divide" ["processor", "with_sign", "width", "d", "s", "n"] 5 (spS C R_divide) := by
  have DW := ok_write (P := P) (w := w) (base := base) T
  refine def_ok T.d_divide sc_divide (fun vs H Q E h => ?_) (fun f cdv A outer s H vs Q E hr h => ?_)
  · obtain ⟨p, dx, l, t, rest, v, t', rfl, S, hR, _⟩ := h; cases hR <;> rfl
  · obtain ⟨p, dx, l, t, rest, v, t', rfl, S, hR, k⟩ := h
    have key : ∃ (size w d s' n : Nat) (b : Bool), w = 8 * size ∧ (w = 8 ∨ w = 16 ∨ w = 32 ∨ w = 64) ∧ d < 16 ∧ s' < 16 ∧ n < 16 ∧ rest = [.bl b, .int (w : Int), .int (d : Int), .int (s' : Int), .int (n : Int)] ∧ TrapOr (Sv02.perform t (if b = true then 26 else 25) size d s' (n : Int)) t v t' := by
      cases hR with
      | done hs hw hd h16 hn h => exact ⟨_, _, _, _, _, _, hs, hw, hd, h16, hn, rfl, .inl ⟨h, rfl⟩⟩
      | trap hs hw hd h16 hn h => exact ⟨_, _, _, _, _, _, hs, hw, hd, h16, hn, rfl, .inr ⟨h, rfl, rfl⟩⟩
    obtain ⟨size, w, d, s', n, b, hs, hw, hd, h16, hn, rfl, hT⟩ := key
    clear hR
    have h0 : 0 < w := by omega
    refine ⟨_, pss_cons (ps_set (i := 6) sc_divide.nd rfl (Or.inl rfl) pe_ev) (pss_cons (ps_set (i := 7) sc_divide.nd rfl (Or.inl rfl) pe_ev) (pss_cons (ps_set (i := 8) sc_divide.nd rfl (Or.inl rfl) pe_ev) (pss_cons (ps_if pt_ev (pss_one (ps_ret pe_ev)) pss_nil)
      (pss_cons (ps_set (i := 9) sc_divide.nd rfl (Or.inl rfl) pe_ev) (pss_cons (ps_if pt_ev (pss_one (ps_ret pe_ev)) pss_nil) (pss_cons (ps_expr (pe_mth pe_ev T.cl DW (hr.mono (by decide)) pa_ev)) (pss_cons (ps_expr (pe_mth pe_ev T.cl DW (hr.mono (by decide)) pa_ev)) (pss_one (ps_ret pe_ev))))))))), ?_⟩
    refine ⟨_, (Pe.bin (Pe.bin (Pe.low T S (hr.mono (by decide)) (Pe.var 0 rfl) (Pe.var 4 rfl) (Pe.var 2 rfl) (by walk_at "w") (by walk_at "w")) (Pe.var 2 rfl) (b_shl (by walk_at "w") (by walk_at "w") (by walk_at "w"))) (Pe.low T S (hr.mono (by decide)) (Pe.var 0 rfl) (Pe.var 3 rfl) (Pe.var 2 rfl) (by walk_at "w") (by walk_at "w")) b_add), fun H1 s1 => ?_⟩
    refine ⟨_, (Pe.call (ok_understood T) (hr.mono (by decide)) (Pas.cons (Pe.var 6 rfl) (Pas.cons (Pe.bin Pe.int (Pe.var 2 rfl) (b_mul (by walk_at "w"))) (Pas.cons (Pe.var 1 rfl) Pas.nil))) (fun _ _ => R_understood.mk (by walk_at "w"))), fun H2 s2 => ?_⟩
    have S2 := (S.mono s1).mono s2
    refine ⟨_, (Pe.call (ok_understood T) (hr.mono (by decide)) (Pas.cons (Pe.low T S2 (hr.mono (by decide)) (Pe.var 0 rfl) (Pe.var 5 rfl) (Pe.var 2 rfl) (by walk_at "w") (by walk_at "w")) (Pas.cons (Pe.var 2 rfl) (Pas.cons (Pe.var 1 rfl) Pas.nil))) (fun _ _ => R_understood.mk (by walk_at "w"))), fun H3 s3 => ?_⟩
    refine ⟨_, (Pt.cmp (Pe.var 8 rfl) Pe.int c_eq (nomark _)), fun H4 s4 => ?_⟩
    have S4 := (S2.mono s3).mono s4
    have s14 := ((s1.trans s2).trans s3).trans s4
    by_cases c : Wm.understood (vx t w n) (w : Int) b = 0
    · refine iteT (decide_eq_true c) ⟨_, Pe.bl, fun H5 s5 => ?_⟩
      rcases hT with ⟨h, _⟩ | ⟨h, rfl, rfl⟩
      · rw [dv_zero hs h0 c] at h; cases h
      · exact k H5 (S4.mono s5) (.same (s14.trans s5))
    · refine iteF (decide_eq_false c) ?_
      have hu := und_s t w n b hw
      refine ⟨_, Pe.call (ok_quotient_toward_0 T) (hr.mono (by decide)) (Pas.cons (Pe.var 7 rfl) (Pas.cons (Pe.var 8 rfl) Pas.nil)) (fun _ _ => R_quotient_toward_0.mk (by omega)), fun H5 s5 => ?_⟩
      refine ⟨_, (Pt.cmp (Pe.call (ok_understood T) (hr.mono (by decide)) (Pas.cons (Pe.call (ok_cut T) (hr.mono (by decide)) (Pas.cons (Pe.var 9 rfl) (Pas.cons (Pe.var 2 rfl) Pas.nil)) (fun _ _ => R_cut.mk (by walk_at "w"))) (Pas.cons (Pe.var 2 rfl) (Pas.cons (Pe.var 1 rfl) Pas.nil))) (fun _ _ => R_understood.mk (by walk_at "w"))) (Pe.var 9 rfl) c_ne (nomark _)), fun H6 s6 => ?_⟩
      have S6 := (S4.mono s5).mono s6
      have s16 := (s14.trans s5).trans s6
      generalize hq : Wm.quotient_toward_0 (Wm.understood (vx t w s' * 2 ^ ((w : Int)).toNat + vx t w d) (2 * (w : Int)) b) (Wm.understood (vx t w n) (w : Int) b) = q
      by_cases c2 : Wm.understood (Wm.cut q w) w b = q
      · refine iteF (by rw [decide_eq_true c2]; rfl) ?_
        refine meth_S S6 (Pe.var 0 rfl) (Pas.cons (Pe.var 3 rfl) (Pas.cons (Pe.var 2 rfl) (Pas.cons (Pe.var 9 rfl) Pas.nil))) nm_write (R_write.mk hd hw) fun H7 S7 K7 => ?_
        refine meth_S S7 (Pe.var 0 rfl) (Pas.cons (Pe.var 4 rfl) (Pas.cons (Pe.var 2 rfl) (Pas.cons (Pe.bin (Pe.var 7 rfl) (Pe.bin (Pe.var 9 rfl) (Pe.var 8 rfl) (b_mul (.inr hu))) b_sub) Pas.nil))) nm_write (R_write.mk h16 hw) fun H8 S8 K8 => ?_
        refine ⟨_, Pe.bl, fun H9 s9 => ?_⟩
        have hd2 := dv_done (d := d) (s := s') hs h0 c hq.symm c2
        rcases hT with ⟨h, rfl⟩ | ⟨h, _⟩
        · obtain rfl := done_inj (hd2.symm.trans h)
          exact k H9 (S8.mono s9) ((((Kp.same s16).trans K7).trans K8).ts s9)
        · rw [hd2] at h; cases h
      · refine iteT (by rw [decide_eq_false c2]; rfl) ⟨_, Pe.bl, fun H7 s7 => ?_⟩
        have hd2 := dv_trap (d := d) (s := s') hs h0 c hq.symm c2
        rcases hT with ⟨h, _⟩ | ⟨h, rfl, rfl⟩
        · rw [hd2] at h; cases h
        · exact k H7 (S6.mono s7) (.same (s16.trans s7))
end
end We
end

section
set_option Elab.async false
set_option linter.all false
set_option maxRecDepth 100000
set_option maxHeartbeats 4000000
namespace We
open PySem PySem.Spec PyProof.Rows L2
open Sv02 (Abs)
open Wo (vx fn)
local macro_rules | `(tactic| walk_at "w") => `(tactic| first | omega | assumption | (refine ⟨by omega, ?_⟩; omega))
inductive R_perform_pair : Abs → List V → V → Abs → Prop
  | mk {t t' : Abs} {v : V} {size w d s op : Nat} {n : Int} (hs : w = 8 * size) (hw : w = 8 ∨ w = 16 ∨ w = 32 ∨ w = 64) (hd : d < 16) (h16 : s < 16) (ho : (23 ≤ op ∧ op ≤ 26) ∨ (37 ≤ op ∧ op ≤ 39)) (hn : op = 25 ∨ op = 26 → 0 ≤ n ∧ n < 16) (h : TrapOr (Sv02.perform t op size d s n) t v t') :
      R_perform_pair t [.int (op : Int), .int (w : Int), .int (d : Int), .int (s : Int), .int n] v t'
inductive R_perform : Abs → List V → V → Abs → Prop
  | mk {t t' : Abs} {v : V} {size w d s op : Nat} {n : Int} (hs : w = 8 * size) (hw : w = 8 ∨ w = 16 ∨ w = 32 ∨ w = 64) (hd : d < 16) (h16 : s < 16) (ho : op ≤ 42) (hn : Sv02.wrong op size n = false) (h : TrapOr (Sv02.perform t op size d s n) t v t') :
      R_perform t [.int (op : Int), .int (w : Int), .int (d : Int), .int (s : Int), .int n] v t'
inductive R_operate : Abs → List V → V → Abs → Prop
  | mk {t : Abs} {op size d s n : Int} : R_operate t [.int op, .int size, .int d, .int s, .int n] (.int (Sv02.one t op size d s n).code) ((Sv02.one t op size d s n).state t)
section
variable {P : Program} {w : World} {K : PySem.W.Frag} {mg : Str → Option Value} {base : Heap} {C : Addr}
theorem ok_perform_pair (T : Txt K mg C) : DefOk P w K mg base "perform_pair" ["processor", "op", "width", "d", "s", "n"] 7 (spS C R_perform_pair) := by
  have D1 := ok_multiply (P := P) (w := w) (base := base) T
  have D2 := ok_exchange (P := P) (w := w) (base := base) T
  have D3 := ok_exchange_and_add (P := P) (w := w) (base := base) T
  have D4 := ok_compare_and_exchange (P := P) (w := w) (base := base) T
  have D5 := ok_divide (P := P) (w := w) (base := base) T
  refine def_ok T.d_perform_pair sc_perform_pair (fun vs H Q E h => ?_) (fun f cdv A outer s H vs Q E hr h => ?_)
  · obtain ⟨p, dx, l, t, rest, v, t', rfl, S, hR, _⟩ := h; cases hR; rfl
  · obtain ⟨p, dx, l, t, rest, v, t', rfl, S, hR, k⟩ := h
    cases hR with
    | @mk _ _ size w d s' op n hs hw hd h16 ho hn hT =>
      refine ⟨_, (pss_cons (ps_if pt_ev (pss_one (ps_expr (pe_def (ok_multiply T) (hr.mono (by decide)) pa_ev))) (pss_one (ps_if pt_ev (pss_one (ps_expr (pe_def (ok_exchange T) (hr.mono (by decide)) pa_ev))) (pss_one (ps_if pt_ev (pss_one (ps_expr (pe_def (ok_exchange_and_add T) (hr.mono (by decide)) pa_ev))) (pss_one (ps_if pt_ev (pss_one (ps_expr (pe_def (ok_compare_and_exchange T) (hr.mono (by decide)) pa_ev))) (pss_one (ps_ret (pe_def (ok_divide T) (hr.mono (by decide)) pa_ev)))))))))) (pss_one (ps_ret pe_ev))), ?_⟩
      refine ⟨_, (Pw.or (Pt.cmp (Pe.var 1 rfl) (Pe.glob T.g_PRODUCT) c_eq (nomark _)) (fun hor => (Pw.or1 (Pt.cmp (Pe.var 1 rfl) (Pe.glob T.g_SIGNED_PRODUCT) c_eq (nomark _))))).pt, fun H1 s1 => ?_⟩
      have S1 := S.mono s1
      by_cases c1 : op = 23 ∨ op = 24
      · refine iteT (by rcases c1 with rfl | rfl <;> decide) ?_
        obtain ⟨h, rfl⟩ : Sv02.perform t op size d s' n = .done t' ∧ v = .bl true := by
          rcases hT with q | ⟨q, _⟩
          · exact q
          · rcases c1 with rfl | rfl <;> cases q
        have hb : op = (if decide ((op : Int) = 24) = true then 24 else 23) := by rcases c1 with rfl | rfl <;> decide
        rw [hb] at h
        refine call_S S1 (Pas.cons (Pe.var 0 rfl) (Pas.cons (Pe.cmp (Pe.var 1 rfl) (Pe.glob T.g_SIGNED_PRODUCT) c_eq (nomark _)) (Pas.cons (Pe.var 2 rfl) (Pas.cons (Pe.var 3 rfl) (Pas.cons (Pe.var 4 rfl) Pas.nil))))) (R_multiply.mk hs hw hd h16 h) fun H2 S2 K2 => ⟨_, Pe.bl, fun H3 s3 => ?_⟩
        exact k H3 (S2.mono s3) (((Kp.same s1).trans K2).ts s3)
      · refine iteF (by simp; omega) ⟨_, (Pt.cmp (Pe.var 1 rfl) (Pe.glob T.g_EXCHANGE) c_eq (nomark _)), fun H2 s2 => ?_⟩
        have S2 := S1.mono s2
        by_cases c2 : op = 37
        · subst c2
          refine iteT (by decide) ?_
          obtain ⟨h, rfl⟩ : Sv02.perform t 37 size d s' n = .done t' ∧ v = .bl true := by
            rcases hT with q | ⟨q, _⟩
            · exact q
            · cases q
          refine call_S S2 (Pas.cons (Pe.var 0 rfl) (Pas.cons (Pe.var 2 rfl) (Pas.cons (Pe.var 3 rfl) (Pas.cons (Pe.var 4 rfl) Pas.nil)))) (R_exchange.mk hs hw hd h16 h) fun H3 S3 K3 => ⟨_, Pe.bl, fun H4 s4 => ?_⟩
          exact k H4 (S3.mono s4) (((Kp.same (s1.trans s2)).trans K3).ts s4)
        · refine iteF (decide_eq_false (by omega)) ⟨_, (Pt.cmp (Pe.var 1 rfl) (Pe.glob T.g_EXCHANGE_AND_ADD) c_eq (nomark _)), fun H3 s3 => ?_⟩
          have S3 := S2.mono s3
          by_cases c3 : op = 38
          · subst c3
            refine iteT (by decide) ?_
            obtain ⟨h, rfl⟩ : Sv02.perform t 38 size d s' n = .done t' ∧ v = .bl true := by
              rcases hT with q | ⟨q, _⟩
              · exact q
              · cases q
            refine call_S S3 (Pas.cons (Pe.var 0 rfl) (Pas.cons (Pe.var 2 rfl) (Pas.cons (Pe.var 3 rfl) (Pas.cons (Pe.var 4 rfl) Pas.nil)))) (R_exchange_and_add.mk hs hw hd h16 h) fun H4 S4 K4 => ⟨_, Pe.bl, fun H5 s5 => ?_⟩
            exact k H5 (S4.mono s5) (((Kp.same ((s1.trans s2).trans s3)).trans K4).ts s5)
          · refine iteF (decide_eq_false (by omega)) ⟨_, (Pt.cmp (Pe.var 1 rfl) (Pe.glob T.g_COMPARE_AND_EXCHANGE) c_eq (nomark _)), fun H4 s4 => ?_⟩
            have S4 := S3.mono s4
            by_cases c4 : op = 39
            · subst c4
              refine iteT (by decide) ?_
              obtain ⟨h, rfl⟩ : Sv02.perform t 39 size d s' n = .done t' ∧ v = .bl true := by
                rcases hT with q | ⟨q, _⟩
                · exact q
                · cases q
              refine call_S S4 (Pas.cons (Pe.var 0 rfl) (Pas.cons (Pe.var 2 rfl) (Pas.cons (Pe.var 3 rfl) (Pas.cons (Pe.var 4 rfl) Pas.nil)))) (R_compare_and_exchange.mk hs hw hd h16 h) fun H5 S5 K5 => ⟨_, Pe.bl, fun H6 s6 => ?_⟩
              exact k H6 (S5.mono s6) (((Kp.same (((s1.trans s2).trans s3).trans s4)).trans K5).ts s6)
            · refine iteF (decide_eq_false (by omega)) ?_
              have c5 : op = 25 ∨ op = 26 := by omega
              obtain ⟨nn, rfl⟩ : ∃ nn : Nat, n = (nn : Int) := ⟨n.toNat, by have := hn c5; omega⟩
              have hn16 : nn < 16 := by have := hn c5; omega
              have hb : op = (if decide ((op : Int) = 26) = true then 26 else 25) := by rcases c5 with rfl | rfl <;> decide
              rw [hb] at hT
              refine call_S S4 (Pas.cons (Pe.var 0 rfl) (Pas.cons (Pe.cmp (Pe.var 1 rfl) (Pe.glob T.g_SIGNED_QUOTIENT) c_eq (nomark _)) (Pas.cons (Pe.var 2 rfl) (Pas.cons (Pe.var 3 rfl) (Pas.cons (Pe.var 4 rfl) (Pas.cons (Pe.var 5 rfl) Pas.nil)))))) (v := v) (t' := t') ?_ fun H5 S5 K5 => k H5 S5 (K5.st (((s1.trans s2).trans s3).trans s4))
              rcases hT with ⟨h, rfl⟩ | ⟨h, rfl, rfl⟩
              · exact R_divide.done hs hw hd h16 hn16 h
              · exact R_divide.trap hs hw hd h16 hn16 h
theorem perform_nt {t : Abs} {size w d s op : Nat} {n : Int} {a b : V} (h : Out2 t w d (Sv02.perform t op size d s n) a b) {v : V} {t' : Abs} (hT : TrapOr (Sv02.perform t op size d s n) t v t') : Sv02.perform t op size d s n = .done t' ∧ v = .bl true := by
  rcases hT with q | ⟨q, _⟩
  · exact q
  · rcases h with ⟨z, f, _, _, g, _, e⟩ | ⟨f, _, _, g, _, e⟩
    · rw [e] at q; cases q
    · rw [e] at q; cases q
theorem ok_perform (T : Txt K mg C) : DefOk P w K mg base "perform" ["processor", "op", "width", "d", "s", "n"] 9 (spS C R_perform) := by
  have D1 := ok_perform_pair (P := P) (w := w) (base := base) T
  have D2 := ok_outcome (P := P) (w := w) (base := base) T
  have DW := ok_write (P := P) (w := w) (base := base) T
  refine def_ok T.d_perform sc_perform (fun vs H Q E h => ?_) (fun f cdv A outer s H vs Q E hr h => ?_)
  · obtain ⟨p, dx, l, t, rest, v, t', rfl, S, hR, _⟩ := h; cases hR; rfl
  · obtain ⟨p, dx, l, t, rest, v, t', rfl, S, hR, k⟩ := h
    cases hR with
    | @mk _ _ size w d s' op n hs hw hd h16 ho hn hT =>
      refine ⟨_, (pss_cons (ps_if pt_ev (pss_one (ps_ret (pe_def (ok_perform_pair T) (hr.mono (by decide)) pa_ev))) pss_nil) (pss_cons (ps_set (i := 6) sc_perform.nd rfl (Or.inl rfl) (pe_def (ok_outcome T) (hr.mono (by decide)) pa_ev)) (pss_cons (ps_if (pt_cmp (pc_notN pe_ev)) (pss_one (ps_expr (pe_mth pe_ev T.cl (ok_write T) (hr.mono (by decide)) pa_ev))) pss_nil) (pss_cons (ps_fld pe_ev pe_ev rfl) (pss_one (ps_ret pe_ev)))))), ?_⟩
      refine ⟨_, (Pt.truth (Pe.call (ok_is_pair_operation T) (hr.mono (by decide)) (Pas.cons (Pe.var 1 rfl) Pas.nil) (fun _ _ => R_is_pair_operation.mk))), fun H1 s1 => ?_⟩
      have S1 := S.mono s1
      cases hp : Wm.is_pair_operation (op : Int) with
      | true =>
        have hp' : (23 ≤ op ∧ op ≤ 26) ∨ (37 ≤ op ∧ op ≤ 39) := by
          unfold Wm.is_pair_operation at hp
          simp only [Bool.or_eq_true, Bool.and_eq_true, decide_eq_true_eq] at hp
          omega
        have hn' : op = 25 ∨ op = 26 → 0 ≤ n ∧ n < 16 := by
          intro q
          rw [← Wo.wrong_mir (by omega)] at hn
          unfold Wm.is_refused_by_operation at hn
          rw [if_neg (by simp; omega), if_pos (by simp; omega)] at hn
          exact Wo.place_iff.mp (by simpa using hn)
        refine iteT rfl (call_S S1 (Pas.cons (Pe.var 0 rfl) (Pas.cons (Pe.var 1 rfl) (Pas.cons (Pe.var 2 rfl) (Pas.cons (Pe.var 3 rfl) (Pas.cons (Pe.var 4 rfl) (Pas.cons (Pe.var 5 rfl) Pas.nil)))))) (R_perform_pair.mk hs hw hd h16 hp' hn' hT) fun H2 S2 K2 => k H2 S2 (K2.st s1))
      | false =>
        obtain ⟨a, b, hO, o2⟩ := br_outcome (t := t) (d := d) (s := s') hs hw ho hp hn
        obtain ⟨h, rfl⟩ := perform_nt o2 hT
        refine iteF rfl ⟨_, (Pas.cons (Pe.var 1 rfl) (Pas.cons (Pe.low T S1 (hr.mono (by decide)) (Pe.var 0 rfl) (Pe.var 3 rfl) (Pe.var 2 rfl) (by walk_at "w") (by walk_at "w")) (Pas.cons (Pe.low T S1 (hr.mono (by decide)) (Pe.var 0 rfl) (Pe.var 4 rfl) (Pe.var 2 rfl) (by walk_at "w") (by walk_at "w")) (Pas.cons (Pe.var 5 rfl) (Pas.cons (Pe.flg T S1 (Pe.var 0 rfl)) (Pas.cons (Pe.var 2 rfl) Pas.nil)))))), fun H2 s2 => ⟨a, b, hO, fun H3 q s3 hq => ?_⟩⟩
        have S3 := (S1.mono s2).mono s3
        have s13 := (s1.trans s2).trans s3
        refine ⟨_, Pe.itemT (Pe.var 6 rfl) Pe.int (SqT.of hq) (v := a) rfl, fun H4 s4 => ⟨_, rfl, ?_⟩⟩
        have S4 := S3.mono s4
        have hq4 := s4 _ _ hq
        rcases o2 with ⟨z, f2, rfl, rfl, g, hg, e⟩ | ⟨f2, rfl, rfl, g, hg, e⟩
        · obtain rfl := done_inj (h.symm.trans e)
          refine iteT rfl ?_
          refine meth_S S4 (Pe.var 0 rfl) (Pas.cons (Pe.var 3 rfl) (Pas.cons (Pe.var 2 rfl) (Pas.cons (Pe.itemT (Pe.var 6 rfl) Pe.int (SqT.of hq4) rfl) Pas.nil))) nm_write (R_write.mk hd hw) fun H5 S5 K5 => ?_
          have np : q ≠ p := apart hq4 S4.ins (by intro z; cases z)
          have nl : q ≠ l := apart hq4 S4.lst (by intro z; cases z)
          refine fld_S T S5 (Pe.itemT (Pe.var 6 rfl) Pe.int (SqT.of (K5 _ _ hq4 np nl)) rfl) hg (Pe.var 0 rfl) fun H6 S6 K6 => ⟨_, Pe.bl, fun H7 s7 => ?_⟩
          exact k H7 (S6.mono s7) ((((Kp.same (s13.trans s4)).trans K5).trans K6).ts s7)
        · obtain rfl := done_inj (h.symm.trans e)
          refine iteF rfl ?_
          refine fld_S T S4 (Pe.itemT (Pe.var 6 rfl) Pe.int (SqT.of hq4) rfl) hg (Pe.var 0 rfl) fun H6 S6 K6 => ⟨_, Pe.bl, fun H7 s7 => ?_⟩
          exact k H7 (S6.mono s7) (((Kp.same (s13.trans s4)).trans K6).ts s7)
theorem out_tr {out : Sv02.Out} {t : Abs} (h : out ≠ .refused) : ∃ v, TrapOr out t v (out.state t) ∧ ((v = .bl true ∧ out.code = 0) ∨ (v = .bl false ∧ out.code = 1)) := by
  cases out with
  | done u => exact ⟨.bl true, .inl ⟨rfl, rfl⟩, .inl ⟨rfl, rfl⟩⟩
  | trap => exact ⟨.bl false, .inr ⟨rfl, rfl, rfl⟩, .inr ⟨rfl, rfl⟩⟩
  | refused => exact absurd rfl h
theorem perform_nr {t : Abs} {size w d s op : Nat} {n : Int} (hs : w = 8 * size) (hw : w = 8 ∨ w = 16 ∨ w = 32 ∨ w = 64) (ho : op ≤ 42) (hn : Sv02.wrong op size n = false) : Sv02.perform t op size d s n ≠ .refused := by
  intro q
  cases hp : Wm.is_pair_operation (op : Int) with
  | false =>
    obtain ⟨a, b, _, o2⟩ := br_outcome (t := t) (d := d) (s := s) hs hw ho hp hn
    rcases o2 with ⟨z, f, _, _, g, _, e⟩ | ⟨f, _, _, g, _, e⟩
    · rw [e] at q; cases q
    · rw [e] at q; cases q
  | true =>
    unfold Wm.is_pair_operation at hp
    simp only [Bool.or_eq_true, Bool.and_eq_true, decide_eq_true_eq] at hp
    have hc : op = 23 ∨ op = 24 ∨ op = 25 ∨ op = 26 ∨ op = 37 ∨ op = 38 ∨ op = 39 := by omega
    rcases hc with rfl | rfl | rfl | rfl | rfl | rfl | rfl
    · cases q
    · cases q
    · have q' : (if t.val (8 * size) n.toNat = 0 ∨ 2 ^ (8 * size) ≤ (t.val (8 * size) s * 2 ^ (8 * size) + t.val (8 * size) d) / t.val (8 * size) n.toNat then Sv02.Out.trap else _) = Sv02.Out.refused := q
      split at q' <;> cases q'
    · have q' : (if Sv02.signed (8 * size) (t.val (8 * size) n.toNat) = 0 ∨ Sv02.fits (8 * size) ((Sv02.signed (2 * (8 * size)) (t.val (8 * size) s * 2 ^ (8 * size) + t.val (8 * size) d)).tdiv (Sv02.signed (8 * size) (t.val (8 * size) n.toNat))) = false then Sv02.Out.trap else _) = Sv02.Out.refused := q
      split at q' <;> cases q'
    · cases q
    · cases q
    · cases q
theorem ok_operate (T : Txt K mg C) : MethOk P w K mg base C "operate" ["self", "op", "size", "d", "s", "n"] 10 (spS C R_operate) := by
  have D1 := ok_perform (P := P) (w := w) (base := base) T
  refine meth_ok T.d_operate sc_operate (fun vs H Q E h => ?_) (fun f cdv A outer s H vs Q E hr h => ?_)
  · obtain ⟨p, dx, l, t, rest, v, t', rfl, S, hR, _⟩ := h; cases hR; rfl
  · obtain ⟨p, dx, l, t, rest, v, t', rfl, S, hR, k⟩ := h
    cases hR with
    | @mk op size d s' n =>
      refine ⟨_, (pss_cons (ps_if pt_ev (pss_one (ps_ret pe_ev)) pss_nil) (pss_one (ps_ret (pe_ifExp (pt_truth (pe_def (ok_perform T) (hr.mono (by decide)) pa_ev) (fun _ => rfl)) pe_ev pe_ev)))), ?_⟩
      refine ⟨_, (Pt.truth (Pe.call (ok_is_refused T) (hr.mono (by decide)) (Pas.cons (Pe.var 1 rfl) (Pas.cons (Pe.var 2 rfl) (Pas.cons (Pe.var 3 rfl) (Pas.cons (Pe.var 4 rfl) (Pas.cons (Pe.var 5 rfl) Pas.nil))))) (fun _ _ => R_is_refused.mk))), fun H1 s1 => ?_⟩
      have S1 := S.mono s1
      cases hf : Wm.is_refused op size d s' n with
      | true =>
        have e := Wo.refused_true (t := t) hf
        rw [e] at k
        exact iteT rfl ⟨_, (Pe.glob T.g_REFUSED), fun H2 s2 => k H2 (S1.mono s2) (.same (s1.trans s2))⟩
      | false =>
        have A0 := Wo.refused_false hf
        have e := Wo.allowed_one (t := t) A0
        obtain ⟨o, eo⟩ : ∃ o : Nat, op = (o : Int) := ⟨op.toNat, by have := A0.op0; omega⟩
        obtain ⟨z, ez⟩ : ∃ z : Nat, size = (z : Int) := ⟨size.toNat, by have := A0.size0; omega⟩
        obtain ⟨d', ed⟩ : ∃ d' : Nat, d = (d' : Int) := ⟨d.toNat, by have := A0.d0; omega⟩
        obtain ⟨s2, es⟩ : ∃ s2 : Nat, s' = (s2 : Int) := ⟨s'.toNat, by have := A0.s0; omega⟩
        subst eo ez ed es
        have e' : Sv02.one t (o : Int) (z : Int) (d' : Int) (s2 : Int) n = Sv02.perform t o z d' s2 n := e
        have w0 : Sv02.wrong o z n = false := A0.w0
        have hw : 8 * z = 8 ∨ 8 * z = 16 ∨ 8 * z = 32 ∨ 8 * z = 64 := by have := A0.size0; omega
        have ho : o ≤ 42 := by have := A0.op0; omega
        have hd : d' < 16 := by have := A0.d0; omega
        have h16 : s2 < 16 := by have := A0.s0; omega
        rw [e'] at k
        obtain ⟨v, hT, hv⟩ := out_tr (t := t) (perform_nr (t := t) (d := d') (s := s2) rfl hw ho w0)
        refine iteF rfl ?_
        refine call_S S1 (Pas.cons (Pe.var 0 rfl) (Pas.cons (Pe.var 1 rfl) (Pas.cons ((Pe.bin Pe.int (Pe.var 2 rfl) (b_mul (.inl (by decide)))).eqv (v' := .int ((8 * z : Nat) : Int)) (congrArg V.int (by omega))) (Pas.cons (Pe.var 3 rfl) (Pas.cons (Pe.var 4 rfl) (Pas.cons (Pe.var 5 rfl) Pas.nil)))))) (R_perform.mk rfl hw hd h16 ho w0 hT) fun H2 S2 K2 => ?_
        rcases hv with ⟨rfl, hc⟩ | ⟨rfl, hc⟩
        · rw [hc] at k
          exact ⟨true, rfl, iteT rfl ⟨_, (Pe.glob T.g_DONE), fun H3 s3 => k H3 (S2.mono s3) (((Kp.same s1).trans K2).ts s3)⟩⟩
        · rw [hc] at k
          exact ⟨false, rfl, iteF rfl ⟨_, (Pe.glob T.g_TRAPPED), fun H3 s3 => k H3 (S2.mono s3) (((Kp.same s1).trans K2).ts s3)⟩⟩
end
end We
end

section
set_option Elab.async false
set_option linter.all false
set_option maxRecDepth 100000
set_option maxHeartbeats 4000000
namespace We
open PySem PySem.Spec PyProof.Rows L2
open Sv02 (Abs)
open Wo (vx fn)
local macro_rules | `(tactic| walk_at "w") => `(tactic| first | omega | assumption | (refine ⟨by omega, ?_⟩; omega))
/-! ### the calls -/
def vints (l : List Int) : List V := l.map V.int
theorem vi_len (l : List Int) : (vints l).length = l.length := List.length_map ..
theorem vi_at {l : List Int} {i : Nat} {x : Int} (h : l[i]? = some x) : (vints l)[i]? = some (V.int x) := by
  unfold vints
  rw [List.getElem?_map, h]; rfl
def spL (C : Addr) (R : Hp → Addr → Addr → Abs → List V → List Int → Abs → Prop) : Sp := fun vs H Q _ => ∃ (p dx l : Addr) (t : Abs) (rest : List V) (ans : List Int) (t' : Abs), vs = .ref p :: rest ∧ StA C H p dx l t ∧ R H p l t rest ans t' ∧
  ∀ H' q, StA C H' p dx l t' → Kp H H' p l → H' q = some (.lst (vints ans)) → H q = none → Q (.ref q) H'
theorem Kp.free {C : Addr} {H H1 : Hp} {p dx l q : Addr} {t : Abs} (k : Kp H H1 p l) (S : StA C H1 p dx l t) (h : H1 q = none) : H q = none := by
  cases e : H q with
  | none => rfl
  | some o =>
    have n1 : q ≠ p := fun z => by rw [z, S.ins] at h; cases h
    have n2 : q ≠ l := fun z => by rw [z, S.lst] at h; cases h
    rw [k _ _ e n1 n2] at h; cases h
theorem StA.new {C : Addr} {H : Hp} {p dx l q : Addr} {t : Abs} {o : HO} (S : StA C H p dx l t) (h : H q = none) : StA C (upd H q o) p dx l t := S.mono (same_new h)
inductive R_answer_set : Hp → Addr → Addr → Abs → List V → List Int → Abs → Prop
  | mk {H : Hp} {p l : Addr} {t : Abs} {r : Int} {v : Nat} : R_answer_set H p l t [.int r, .int (v : Int)] (Wo.tell (Sv02.spec t (.set r v)).2) (Sv02.spec t (.set r v)).1
inductive R_answer_get : Hp → Addr → Addr → Abs → List V → List Int → Abs → Prop
  | mk {H : Hp} {p l : Addr} {t : Abs} {r : Int} : R_answer_get H p l t [.int r] (Wo.tell (Sv02.spec t (.get r)).2) (Sv02.spec t (.get r)).1
inductive R_answer_put : Hp → Addr → Addr → Abs → List V → List Int → Abs → Prop
  | mk {H : Hp} {p l : Addr} {t : Abs} {f : Nat} : R_answer_put H p l t [.int (f : Int)] (Wo.tell (Sv02.spec t (.put f)).2) (Sv02.spec t (.put f)).1
inductive R_answer_holds : Hp → Addr → Addr → Abs → List V → List Int → Abs → Prop
  | mk {H : Hp} {p l : Addr} {t : Abs} {k : Int} : R_answer_holds H p l t [.int k] (Wo.tell (Sv02.spec t (.holds k)).2) (Sv02.spec t (.holds k)).1
inductive R_answer_run : Hp → Addr → Addr → Abs → List V → List Int → Abs → Prop
  | mk {H : Hp} {p l a : Addr} {t : Abs} {prog : List Nat} (hl : prog.length ≤ 400) (ha : H a = some (.lst (vints (prog.map Int.ofNat)))) (np : a ≠ p) (nl : a ≠ l) : R_answer_run H p l t [.ref a] (Wo.tell (Sv02.spec t (.run prog)).2) (Sv02.spec t (.run prog)).1
theorem spec_set_bad {t : Abs} {r : Int} {v : Nat} (h : Wm.is_place r = false) : Sv02.spec t (.set r v) = (t, .plain 2) := by
  unfold Sv02.spec
  dsimp only
  rw [Wo.idx_none (by intro q; rw [Wo.place_iff.mpr q] at h; cases h)]
theorem spec_get_bad {t : Abs} {r : Int} (h : Wm.is_place r = false) : Sv02.spec t (.get r) = (t, .plain 2) := by
  unfold Sv02.spec
  dsimp only
  rw [Wo.idx_none (by intro q; rw [Wo.place_iff.mpr q] at h; cases h)]
theorem spec_holds_bad {t : Abs} {r : Int} (h : Wm.is_condition r = false) : Sv02.spec t (.holds r) = (t, .plain 2) := by
  unfold Sv02.spec
  dsimp only
  rw [Wo.idx_none (by intro q; rw [Wo.cond_iff.mpr q] at h; cases h)]
theorem spec_set_ok {t : Abs} {r v : Nat} (h : r < 16) : Sv02.spec t (.set (r : Int) v) = ({ t with reg := fun i => if i = r then v else t.reg i }, .plain 0) := by
  unfold Sv02.spec
  dsimp only
  rw [Wo.idx_nat h]
theorem spec_get_ok {t : Abs} {r : Nat} (h : r < 16) : Sv02.spec t (.get (r : Int)) = (t, ⟨0, some (t.reg r)⟩) := by
  unfold Sv02.spec
  dsimp only
  rw [Wo.idx_nat h]
theorem spec_holds_ok {t : Abs} {r : Nat} (h : r < 16) : Sv02.spec t (.holds (r : Int)) = (t, .plain (if Sv02.condition t.fl r = true then 1 else 0)) := by
  unfold Sv02.spec
  dsimp only
  rw [Wo.idx_nat h]
section
variable {P : Program} {w : World} {K : PySem.W.Frag} {mg : Str → Option Value} {base : Heap} {C : Addr}
/-- return [..] of plain numbers, the processor changed on the way -/
theorem ret_list {X : Cx} {st : St} {H0 H : Hp} {es : List Expr} {ans : List Int} {p dx l : Addr} {t' : Abs} {Q : VK} (S : StA C H p dx l t') (K0 : Kp H0 H p l) (ha : Pas X st H es (vints ans)) (hl : ans.length ≤ 10) (k : ∀ H' q, StA C H' p dx l t' → Kp H0 H' p l → H' q = some (.lst (vints ans)) → H0 q = none → Q (.ref q) H') :
    tLst (tEvA X es) st H Q := by
  refine ⟨_, ha, fun H1 s1 => ⟨by rw [vi_len]; exact Nat.le_trans hl (by decide), fun q hq => ?_⟩⟩
  have S1 := S.mono s1
  exact k _ q (S1.new hq) ((K0.ts s1).ts (same_new hq)) upd_same ((K0.ts s1).free S1 hq)
theorem ok_answer_set (T : Txt K mg C) : DefOk P w K mg base "answer_set" ["processor", "r", "v"] 2 (spL C R_answer_set) := by
  refine def_ok T.d_answer_set sc_answer_set (fun vs H Q E h => ?_) (fun f cdv A outer s H vs Q E hr h => ?_)
  · obtain ⟨p, dx, l, t, rest, ans, t', rfl, S, hR, _⟩ := h; cases hR; rfl
  · obtain ⟨p, dx, l, t, rest, ans, t', rfl, S, hR, k⟩ := h
    cases hR with
    | @mk r v =>
      refine ⟨_, (pss_cons (ps_if pt_ev (pss_one (ps_ret (pe_lst pa_ev))) pss_nil) (pss_cons (ps_asg pe_ev (pg_sub pe_ev pe_ev set_list)) (pss_one (ps_ret (pe_lst pa_ev))))), ?_⟩
      refine ⟨_, (Pt.not (Pt.truth (Pe.call (ok_is_place T) (hr.mono (by decide)) (Pas.cons (Pe.var 1 rfl) Pas.nil) (fun _ _ => R_is_place.mk)))), fun H1 s1 => ?_⟩
      have S1 := S.mono s1
      cases hp : Wm.is_place r with
      | false =>
        rw [spec_set_bad hp] at k
        exact iteT rfl (ret_list S1 (.same s1) (Pas.cons (Pe.glob T.g_REFUSED) Pas.nil) (by show 1 ≤ 10; decide) k)
      | true =>
        obtain ⟨r', rfl⟩ : ∃ r' : Nat, r = (r' : Int) := ⟨r.toNat, by have := Wo.place_iff.mp hp; omega⟩
        have h16 : r' < 16 := by have := Wo.place_iff.mp hp; omega
        rw [spec_set_ok h16] at k
        refine iteF rfl ⟨_, Pe.var 2 rfl, fun H2 s2 => ⟨_, Pe.rgs T (S1.mono s2) (Pe.var 0 rfl), fun H3 s3 => ⟨_, Pe.var 1 rfl, fun H4 s4 => ⟨l, regs t, (r' : Int), r', rfl, rfl, (((S1.mono s2).mono s3).mono s4).lst, ?_, ?_⟩⟩⟩⟩
        · unfold ixN
          rw [if_pos (by omega), if_pos (by rw [regs_len]; omega)]; rfl
        · have S4 := ((S1.mono s2).mono s3).mono s4
          exact ret_list (S4.setr h16) ((Kp.same (((s1.trans s2).trans s3).trans s4)).trans Kp.setl) (Pas.cons (Pe.glob T.g_DONE) Pas.nil) (by show 1 ≤ 10; decide) k
theorem ok_answer_get (T : Txt K mg C) : DefOk P w K mg base "answer_get" ["processor", "r"] 2 (spL C R_answer_get) := by
  refine def_ok T.d_answer_get sc_answer_get (fun vs H Q E h => ?_) (fun f cdv A outer s H vs Q E hr h => ?_)
  · obtain ⟨p, dx, l, t, rest, ans, t', rfl, S, hR, _⟩ := h; cases hR; rfl
  · obtain ⟨p, dx, l, t, rest, ans, t', rfl, S, hR, k⟩ := h
    cases hR with
    | @mk r =>
      refine ⟨_, (pss_cons (ps_if pt_ev (pss_one (ps_ret (pe_lst pa_ev))) pss_nil) (pss_one (ps_ret (pe_lst pa_ev)))), ?_⟩
      refine ⟨_, (Pt.not (Pt.truth (Pe.call (ok_is_place T) (hr.mono (by decide)) (Pas.cons (Pe.var 1 rfl) Pas.nil) (fun _ _ => R_is_place.mk)))), fun H1 s1 => ?_⟩
      have S1 := S.mono s1
      cases hp : Wm.is_place r with
      | false =>
        rw [spec_get_bad hp] at k
        exact iteT rfl (ret_list S1 (.same s1) (Pas.cons (Pe.glob T.g_REFUSED) Pas.nil) (by show 1 ≤ 10; decide) k)
      | true =>
        obtain ⟨r', rfl⟩ : ∃ r' : Nat, r = (r' : Int) := ⟨r.toNat, by have := Wo.place_iff.mp hp; omega⟩
        have h16 : r' < 16 := by have := Wo.place_iff.mp hp; omega
        rw [spec_get_ok h16] at k
        exact iteF rfl (ret_list S1 (.same s1) (Pas.cons (Pe.glob T.g_DONE) (Pas.cons (Pe.reg T S1 (Pe.var 0 rfl) (Pe.var 1 rfl) (by walk_at "w")) Pas.nil)) (by show 2 ≤ 10; decide) k)
theorem ok_answer_put (T : Txt K mg C) : DefOk P w K mg base "answer_put" ["processor", "number"] 1 (spL C R_answer_put) := by
  refine def_ok T.d_answer_put sc_answer_put (fun vs H Q E h => ?_) (fun f cdv A outer s H vs Q E hr h => ?_)
  · obtain ⟨p, dx, l, t, rest, ans, t', rfl, S, hR, _⟩ := h; cases hR; rfl
  · obtain ⟨p, dx, l, t, rest, ans, t', rfl, S, hR, k⟩ := h
    cases hR with
    | @mk f' =>
      refine ⟨_, (pss_cons (ps_fld pe_ev pe_ev rfl) (pss_one (ps_ret (pe_lst pa_ev)))), ?_⟩
      refine fld_S T S (Pe.bin (Pe.var 1 rfl) (Pe.glob T.g_ALL_FLAGS) b_and) (Wo.put_mir f') (Pe.var 0 rfl) fun H1 S1 K1 => ?_
      exact ret_list S1 K1 (Pas.cons (Pe.glob T.g_DONE) Pas.nil) (by show 1 ≤ 10; decide) k
theorem ok_answer_holds (T : Txt K mg C) : DefOk P w K mg base "answer_holds" ["processor", "condition"] 3 (spL C R_answer_holds) := by
  refine def_ok T.d_answer_holds sc_answer_holds (fun vs H Q E h => ?_) (fun f cdv A outer s H vs Q E hr h => ?_)
  · obtain ⟨p, dx, l, t, rest, ans, t', rfl, S, hR, _⟩ := h; cases hR; rfl
  · obtain ⟨p, dx, l, t, rest, ans, t', rfl, S, hR, k⟩ := h
    cases hR with
    | @mk c =>
      refine ⟨_, (pss_cons (ps_if pt_ev (pss_one (ps_ret (pe_lst pa_ev))) pss_nil) (pss_one (ps_ret (pe_lst pa_ev)))), ?_⟩
      refine ⟨_, (Pt.not (Pt.truth (Pe.call (ok_is_condition T) (hr.mono (by decide)) (Pas.cons (Pe.var 1 rfl) Pas.nil) (fun _ _ => R_is_condition.mk)))), fun H1 s1 => ?_⟩
      have S1 := S.mono s1
      cases hp : Wm.is_condition c with
      | false =>
        rw [spec_holds_bad hp] at k
        exact iteT rfl (ret_list S1 (.same s1) (Pas.cons (Pe.glob T.g_REFUSED) Pas.nil) (by show 1 ≤ 10; decide) k)
      | true =>
        obtain ⟨r', rfl⟩ : ∃ r' : Nat, c = (r' : Int) := ⟨c.toNat, by have := Wo.cond_iff.mp hp; omega⟩
        have h16 : r' < 16 := by have := Wo.cond_iff.mp hp; omega
        rw [spec_holds_ok h16, ← Wo.cond_nat t.fl h16] at k
        exact iteF rfl (ret_list (ans := [if Wm.condition_holds (fn t) (r' : Int) = true then 1 else 0]) S1 (.same s1) (Pas.cons (Pe.ifInt (Pt.truth (Pe.call (ok_condition_holds T) (hr.mono (by decide)) (Pas.cons (Pe.flg T S1 (Pe.var 0 rfl)) (Pas.cons (Pe.var 1 rfl) Pas.nil)) (fun _ _ => R_condition_holds.mk (by walk_at "w")))) (fun hif => Pe.int) (fun hif => Pe.int)) Pas.nil) (by show 1 ≤ 10; decide) k)
end
end We
end

section
set_option Elab.async false
set_option linter.all false
set_option maxRecDepth 100000
set_option maxHeartbeats 4000000
namespace We
open PySem PySem.Spec PyProof.Rows L2
open Sv02 (Abs)
open Wo (vx fn)
local macro_rules | `(tactic| walk_at "w") => `(tactic| first | omega | assumption | (refine ⟨by omega, ?_⟩; omega))
/-! ### run -/
theorem rg5 {m : Nat} (h : m ≤ 80) : RgC 0 ((5 * m : Nat) : Int) 5 m := by
  have all : ∀ k : _root_.Fin 81, Builtin.Range.small 0 ((5 * k.1 : Nat) : Int) 5 = true ∧ Builtin.Range.rangeSize 0 ((5 * k.1 : Nat) : Int) 5 = (k.1 : Int) := by decide +kernel
  have q := all ⟨m, by omega⟩
  exact ⟨by decide, by decide, q.1, q.2⟩
theorem rows_len : ∀ (m : Nat) (prog : List Nat), prog.length = 5 * m → (Sv02.rows prog).length = m
  | 0, prog, h => by
    have : prog = [] := List.length_eq_zero_iff.mp (by omega)
    subst this; rfl
  | m + 1, prog, h => by
    match prog, h with
    | a :: b :: c :: d :: e :: r, h =>
      show (Sv02.rows r).length + 1 = m + 1
      rw [rows_len m r (by simp at h; omega)]
    | [], h => simp at h
    | [_], h => simp at h; omega
    | [_, _], h => simp at h; omega
    | [_, _, _], h => simp at h; omega
    | [_, _, _, _], h => simp at h; omega
theorem rows_drop : ∀ (i m : Nat) (prog : List Nat), prog.length = 5 * m → i < m → ∃ a b c d e, (Sv02.rows prog).drop i = [a, b, c, d, e] :: (Sv02.rows prog).drop (i + 1) ∧ prog[5 * i]? = some a ∧ prog[5 * i + 1]? = some b ∧ prog[5 * i + 2]? = some c ∧ prog[5 * i + 3]? = some d ∧ prog[5 * i + 4]? = some e
  | i, 0, prog, h, hi => absurd hi (Nat.not_lt_zero _)
  | i, m + 1, prog, h, hi => by
    match prog, h with
    | a :: b :: c :: d :: e :: r, h =>
      cases i with
      | zero => exact ⟨a, b, c, d, e, rfl, rfl, rfl, rfl, rfl, rfl⟩
      | succ i =>
        obtain ⟨a', b', c', d', e', h1, h2, h3, h4, h5, h6⟩ := rows_drop i m r (by simp at h; omega) (by omega)
        refine ⟨a', b', c', d', e', h1, ?_, ?_, ?_, ?_, ?_⟩
        · rw [show 5 * (i + 1) = 5 * i + 5 by omega]; exact h2
        · rw [show 5 * (i + 1) + 1 = 5 * i + 1 + 5 by omega]; exact h3
        · rw [show 5 * (i + 1) + 2 = 5 * i + 2 + 5 by omega]; exact h4
        · rw [show 5 * (i + 1) + 3 = 5 * i + 3 + 5 by omega]; exact h5
        · rw [show 5 * (i + 1) + 4 = 5 * i + 4 + 5 by omega]; exact h6
    | [], h => simp at h
    | [_], h => simp at h; omega
    | [_, _], h => simp at h; omega
    | [_, _, _], h => simp at h; omega
    | [_, _, _, _], h => simp at h; omega
theorem spec_run_bad {t : Abs} {prog : List Nat} (h : ¬ prog.length % 5 = 0) : Sv02.spec t (.run prog) = (t, .plain 3) := by
  show (if prog.length % 5 = 0 then _ else (t, Sv02.Ans.plain 3)) = _
  rw [if_neg h]
theorem spec_run_ok {t : Abs} {prog : List Nat} (h : prog.length % 5 = 0) : Sv02.spec t (.run prog) = ((Sv02.run t 0 (Sv02.rows prog)).1, ⟨(Sv02.run t 0 (Sv02.rows prog)).2.2, some (Sv02.run t 0 (Sv02.rows prog)).2.1⟩) := by
  show (if prog.length % 5 = 0 then _ else (t, Sv02.Ans.plain 3)) = _
  rw [if_pos h]
theorem prog_at {prog : List Nat} {j : Nat} {x : Nat} (h : prog[j]? = some x) : (vints (prog.map Int.ofNat))[j]? = some (V.int (x : Int)) := by
  refine vi_at ?_
  rw [List.getElem?_map, h]; rfl
section
variable {P : Program} {w : World} {K : PySem.W.Frag} {mg : Str → Option Value} {base : Heap} {C : Addr}
theorem nm_operate {l : Addr} {f : Int} : (pf l f).lookup ("operate" : Str) = none := pf_low (by decide +kernel) (by decide +kernel)
theorem at_off {xs : List V} {j : Nat} {z : Int} {v : V} (e : z = (j : Int)) (h : xs[j]? = some v) : atI xs z = some v := by rw [e]; exact atI_nat h
theorem ok_answer_run (T : Txt K mg C) : DefOk P w K mg base "answer_run" ["processor", "prog"] 11 (spL C R_answer_run) := by
  refine def_ok T.d_answer_run sc_answer_run (fun vs H Q E h => ?_) (fun f cdv A outer s H vs Q E hr h => ?_)
  · obtain ⟨p, dx, l, t, rest, ans, t', rfl, S, hR, _⟩ := h; cases hR; rfl
  · obtain ⟨p, dx, l, t, rest, ans, t', rfl, S, hR, k⟩ := h
    cases hR with
    | @mk a _ prog hl ha np nl =>
      refine ⟨_, (pss_cons (ps_if pt_ev (pss_one (ps_ret (pe_lst pa_ev))) pss_nil) (pss_cons (ps_set (i := 2) sc_answer_run.nd rfl (Or.inl rfl) pe_ev) (pss_cons (ps_for PassesOwn.never rfl (pi_range3 rfl T.nb_range pa_ev) (pg_name (i := 3) sc_answer_run.nd rfl (Or.inl rfl)) (pss_cons (ps_set (i := 4) sc_answer_run.nd rfl (Or.inl rfl) (pe_mth pe_ev T.cl (ok_operate T) (hr.mono (by decide)) pa_ev)) (pss_cons (ps_if pt_ev (pss_one (ps_ret (pe_lst pa_ev))) pss_nil) (pss_one (ps_aug (i := 2) sc_answer_run.nd rfl (Or.inl rfl) pe_ev iop_add))))) (pss_one (ps_ret (pe_lst pa_ev)))))), ?_⟩
      have plen : ((vints (prog.map Int.ofNat)).length : Int) = ((prog.length : Nat) : Int) := by rw [vi_len, List.length_map]
      refine ⟨_, Pt.cmp (Pe.bin (Pe.len T.nb_len (Pe.var 1 rfl) (SqL.of ha)) (Pe.glob T.g_RECORD) (b_mod (by decide))) Pe.int c_ne (nomark _), fun H1 s1 => ?_⟩
      have S1 := S.mono s1
      by_cases h5 : prog.length % 5 = 0
      · refine iteF (by rw [plen, decide_eq_true (by omega)]; rfl) ?_
        rw [spec_run_ok h5] at k
        obtain ⟨m, hm⟩ : ∃ m, prog.length = 5 * m := ⟨prog.length / 5, by omega⟩
        refine ⟨_, Pe.int, fun H2 s2 => ?_⟩
        have ha2 := s2 _ _ (s1 _ _ ha)
        refine ⟨_, Pas.cons Pe.int (Pas.cons ((Pe.len T.nb_len (Pe.var 1 rfl) (SqL.of ha2)).eqv (v' := .int ((5 * m : Nat) : Int)) (congrArg V.int (by rw [plen, hm]))) (Pas.cons (Pe.glob T.g_RECORD) Pas.nil)), fun H3 s3 => ⟨_, _, _, m, rfl, rg5 (by omega), ?_⟩⟩
        refine for_rangeC (fun i st' H' => ∃ (ti : Abs) (v3 v4 : Option V), st' = [some (.ref p), some (.ref a), some (.int (i : Int)), v3, v4] ∧ StA C H' p dx l ti ∧ Kp H H' p l ∧ Sv02.run t 0 (Sv02.rows prog) = Sv02.run ti i ((Sv02.rows prog).drop i)) ⟨t, _, _, rfl, (S1.mono s2).mono s3, .same ((s1.trans s2).trans s3), rfl⟩ ?_ ?_
        · rintro i st' H' hi ⟨ti, v3, v4, rfl, Si, Ki, hrun⟩
          have hai := Ki _ _ ha np nl
          obtain ⟨x0, x1, x2, x3, x4, hd, e0, e1, e2, e3, e4⟩ := rows_drop i m prog hm hi
          rw [hd, Wo.run_cons] at hrun
          refine meth_S Si (Pe.var 0 rfl) (Pas.cons (Pe.item (Pe.var 1 rfl) (Pe.var 3 rfl) (SqL.of hai) (at_off (j := 5 * i) (by omega) (prog_at e0))) (Pas.cons (Pe.item (Pe.var 1 rfl) (Pe.bin (Pe.var 3 rfl) Pe.int b_add) (SqL.of hai) (at_off (j := 5 * i + 1) (by omega) (prog_at e1)))
            (Pas.cons (Pe.item (Pe.var 1 rfl) (Pe.bin (Pe.var 3 rfl) Pe.int b_add) (SqL.of hai) (at_off (j := 5 * i + 2) (by omega) (prog_at e2))) (Pas.cons (Pe.item (Pe.var 1 rfl) (Pe.bin (Pe.var 3 rfl) Pe.int b_add) (SqL.of hai) (at_off (j := 5 * i + 3) (by omega) (prog_at e3)))
            (Pas.cons (Pe.item (Pe.var 1 rfl) (Pe.bin (Pe.var 3 rfl) Pe.int b_add) (SqL.of hai) (at_off (j := 5 * i + 4) (by omega) (prog_at e4))) Pas.nil))))) nm_operate R_operate.mk fun H4 S4 K4 => ?_
          have hrun' : Sv02.run t 0 (Sv02.rows prog) = Wo.outK ti i (fun u => Sv02.run u (i + 1) ((Sv02.rows prog).drop (i + 1))) (Sv02.one ti (x0 : Int) (x1 : Int) (x2 : Int) (x3 : Int) (x4 : Int)) := hrun
          refine ⟨_, (Pt.cmp (Pe.var 4 rfl) (Pe.glob T.g_DONE) c_ne (nomark _)), fun H5 s5 => ?_⟩
          have S5 := S4.mono s5
          have K5 := (Ki.trans K4).ts s5
          generalize ho : Sv02.one ti (x0 : Int) (x1 : Int) (x2 : Int) (x3 : Int) (x4 : Int) = o at hrun' S5 ⊢
          cases o with
          | done u =>
            refine iteF rfl ⟨_, rfl, ⟨_, Pe.int, fun H6 s6 => ⟨_, _, rfl, rfl, u, _, _, rfl, S5.mono s6, K5.ts s6, hrun'⟩⟩⟩
          | trap =>
            refine iteT rfl (ret_list (ans := [1, (i : Int)]) (t' := ti) S5 K5 (Pas.cons (Pe.var 4 rfl) (Pas.cons (Pe.var 2 rfl) Pas.nil)) (by show 2 ≤ 10; decide) ?_)
            rw [show Sv02.run t 0 (Sv02.rows prog) = (ti, i, 1) from hrun'] at k
            exact k
          | refused =>
            refine iteT rfl (ret_list (ans := [2, (i : Int)]) (t' := ti) S5 K5 (Pas.cons (Pe.var 4 rfl) (Pas.cons (Pe.var 2 rfl) Pas.nil)) (by show 2 ≤ 10; decide) ?_)
            rw [show Sv02.run t 0 (Sv02.rows prog) = (ti, i, 2) from hrun'] at k
            exact k
        · rintro st' H' ⟨ti, v3, v4, rfl, Si, Ki, hrun⟩
          rw [List.drop_eq_nil_of_le (by rw [rows_len m prog hm]; omega), Wo.run_nil] at hrun
          rw [hrun] at k
          exact ret_list (ans := [0, (m : Int)]) Si Ki (Pas.cons (Pe.glob T.g_DONE) (Pas.cons (Pe.var 2 rfl) Pas.nil)) (by show 2 ≤ 10; decide) k
      · refine iteT (by rw [plen, decide_eq_false (by omega)]; rfl) ?_
        rw [spec_run_bad h5] at k
        exact ret_list S1 (.same s1) (Pas.cons (Pe.glob T.g_NOT_RECORDS) Pas.nil) (by show 1 ≤ 10; decide) k
end
end We
end

section
set_option Elab.async false
set_option linter.all false
set_option maxRecDepth 100000
set_option maxHeartbeats 4000000
namespace We
open PySem PySem.Spec PyProof.Rows L2
open Sv02 (Abs)
open Wo (vx fn)
local macro_rules | `(tactic| walk_at "w") => `(tactic| first | omega | assumption | (refine ⟨by omega, ?_⟩; omega))
/-! ### one call, the numbers that stand behind it -/
def callNo : Sv02.Call → Int
  | .set _ _ => 0
  | .get _ => 1
  | .flags => 2
  | .put _ => 3
  | .holds _ => 4
  | .one _ _ _ _ _ => 5
  | .run _ => 6
def callArgs : Sv02.Call → List Int
  | .set r v => [r, (v : Int)]
  | .get r => [r]
  | .flags => []
  | .put f => [(f : Int)]
  | .holds k => [k]
  | .one op size d s n => [op, size, d, s, n]
  | .run prog => (prog.length : Int) :: prog.map Int.ofNat
theorem At_eq {l l' : List Int} {q : Sv02.Call} (h : Wo.At l l' q) : l = callNo q :: (callArgs q ++ l') := by
  cases q with
  | set r v => exact h.1
  | get r => exact h.1
  | flags => exact h
  | put f => exact h.1
  | holds k => exact h.1
  | one op size d s n => exact h.1
  | run prog => exact h.1
theorem At_run {l l' : List Int} {q : Sv02.Call} (h : Wo.At l l' q) : ∀ prog, q = .run prog → prog.length ≤ 400 := by
  intro prog e
  subst e
  exact h.2.1
inductive R_answer_call : Hp → Addr → Addr → Abs → List V → List Int → Abs → Prop
  | mk {H : Hp} {p l : Addr} {t : Abs} {a : Addr} {q : Sv02.Call} (ha : H a = some (.lst (vints (callArgs q)))) (np : a ≠ p) (nl : a ≠ l) (hq : ∀ prog, q = .run prog → prog.length ≤ 400) : R_answer_call H p l t [.int (callNo q), .ref a] (Wo.tell (Sv02.spec t q).2) (Sv02.spec t q).1
theorem sIx_nat (n d j : Nat) : HT.sIx n d (some (j : Int)) = min j n := by
  show (if (j : Int) < 0 then ((j : Int) + (n : Int)).toNat else min (j : Int).toNat n) = min j n
  rw [if_neg (by omega), Int.toNat_natCast]
theorem cutV_1 (x : V) (xs : List V) : cutV (x :: xs) (some 1) none = xs := by
  unfold cutV
  rw [show HT.sIx (x :: xs).length 0 (some 1) = 1 from (sIx_nat _ _ 1).trans (by simp)]
  show ((x :: xs).drop 1).take ((x :: xs).length - 1) = xs
  simp
section
variable {P : Program} {w : World} {K : PySem.W.Frag} {mg : Str → Option Value} {base : Heap} {C : Addr}
theorem call_L {X : Cx} {st : St} {H : Hp} {p dx l : Addr} {t t' : Abs} {es : List Expr} {rest : List V} {ans : List Int} {Q : VK} {R : Hp → Addr → Addr → Abs → List V → List Int → Abs → Prop} (S : StA C H p dx l t) (ha : Pas X st H es (.ref p :: rest)) (hR : ∀ H1, Same H H1 → R H1 p l t rest ans t')
    (next : ∀ H' q, StA C H' p dx l t' → Kp H H' p l → H' q = some (.lst (vints ans)) → H q = none → Q (.ref q) H') : tCall (spL C R) [] E0 (tEvA X es) st H Q := by
  refine ⟨_, ha, fun H1 s1 => ⟨p, dx, l, t, rest, ans, t', ?_, S.mono s1, hR H1 s1, fun H' q S' K' hq hf => next H' q S' (K'.st s1) hq (s1.free hf)⟩⟩
  rw [List.append_nil]
theorem ok_answer_call (T : Txt K mg C) : DefOk P w K mg base "answer_call" ["processor", "call", "given"] 12 (spL C R_answer_call) := by
  refine def_ok T.d_answer_call sc_answer_call (fun vs H Q E h => ?_) (fun f cdv A outer s H vs Q E hr h => ?_)
  · obtain ⟨p, dx, l, t, rest, ans, t', rfl, S, hR, _⟩ := h; cases hR; rfl
  · obtain ⟨p, dx, l, t, rest, ans, t', rfl, S, hR, k⟩ := h
    cases hR with
    | @mk a q ha np nl hq =>
      refine ⟨_, (pss_cons (ps_if pt_ev (pss_one (ps_ret (pe_def (ok_answer_set T) (hr.mono (by decide)) pa_ev))) pss_nil) (pss_cons (ps_if pt_ev (pss_one (ps_ret (pe_def (ok_answer_get T) (hr.mono (by decide)) pa_ev))) pss_nil) (pss_cons (ps_if pt_ev (pss_one (ps_ret (pe_lst pa_ev))) pss_nil) (pss_cons (ps_if pt_ev (pss_one (ps_ret (pe_def (ok_answer_put T) (hr.mono (by decide)) pa_ev))) pss_nil) (pss_cons (ps_if pt_ev (pss_one (ps_ret (pe_def (ok_answer_holds T) (hr.mono (by decide)) pa_ev))) pss_nil) (pss_cons (ps_if pt_ev (pss_one (ps_ret (pe_lst (pa_cons (pe_mth pe_ev T.cl (ok_operate T) (hr.mono (by decide)) pa_ev) pa_nil)))) pss_nil) (pss_one (ps_ret (pe_def (ok_answer_run T) (hr.mono (by decide)) (pa_cons pe_ev (pa_cons (pe_slice sl_list pe_ev (po_some pe_ev) po_none) pa_nil))))))))))), ?_⟩
      cases q with
      | set r v =>
        refine ⟨_, (Pt.cmp (Pe.var 1 rfl) (Pe.glob T.g_SET) c_eq (nomark _)), fun H1 s1 => iteT rfl ?_⟩
        have sm := s1
        have S1 := S.mono sm
        have HA := sm _ _ ha
        have fr : ∀ {q : Addr}, H1 q = none → H q = none := fun hf => sm.free hf
        exact call_L S1 (Pas.cons (Pe.var 0 rfl) (Pas.cons (Pe.item (Pe.var 2 rfl) Pe.int (SqL.of HA) rfl) (Pas.cons (Pe.item (Pe.var 2 rfl) Pe.int (SqL.of HA) rfl) Pas.nil))) (fun _ _ => R_answer_set.mk) (fun H2 q S2 K2 hq2 hf => k H2 q S2 (K2.st sm) hq2 (fr hf))
      | get r =>
        refine ⟨_, (Pt.cmp (Pe.var 1 rfl) (Pe.glob T.g_SET) c_eq (nomark _)), fun H1 s1 => iteF rfl ?_⟩
        refine ⟨_, (Pt.cmp (Pe.var 1 rfl) (Pe.glob T.g_GET) c_eq (nomark _)), fun H2 s2 => iteT rfl ?_⟩
        have sm := (s1.trans s2)
        have S1 := S.mono sm
        have HA := sm _ _ ha
        have fr : ∀ {q : Addr}, H2 q = none → H q = none := fun hf => sm.free hf
        exact call_L S1 (Pas.cons (Pe.var 0 rfl) (Pas.cons (Pe.item (Pe.var 2 rfl) Pe.int (SqL.of HA) rfl) Pas.nil)) (fun _ _ => R_answer_get.mk) (fun H2 q S2 K2 hq2 hf => k H2 q S2 (K2.st sm) hq2 (fr hf))
      | flags =>
        refine ⟨_, (Pt.cmp (Pe.var 1 rfl) (Pe.glob T.g_SET) c_eq (nomark _)), fun H1 s1 => iteF rfl ?_⟩
        refine ⟨_, (Pt.cmp (Pe.var 1 rfl) (Pe.glob T.g_GET) c_eq (nomark _)), fun H2 s2 => iteF rfl ?_⟩
        refine ⟨_, (Pt.cmp (Pe.var 1 rfl) (Pe.glob T.g_FLAGS) c_eq (nomark _)), fun H3 s3 => iteT rfl ?_⟩
        have sm := ((s1.trans s2).trans s3)
        have S1 := S.mono sm
        have HA := sm _ _ ha
        have fr : ∀ {q : Addr}, H3 q = none → H q = none := fun hf => sm.free hf
        exact ret_list (ans := [fn t]) S1 (.same sm) (Pas.cons (Pe.flg T S1 (Pe.var 0 rfl)) Pas.nil) (by show 1 ≤ 10; decide) k
      | put f =>
        refine ⟨_, (Pt.cmp (Pe.var 1 rfl) (Pe.glob T.g_SET) c_eq (nomark _)), fun H1 s1 => iteF rfl ?_⟩
        refine ⟨_, (Pt.cmp (Pe.var 1 rfl) (Pe.glob T.g_GET) c_eq (nomark _)), fun H2 s2 => iteF rfl ?_⟩
        refine ⟨_, (Pt.cmp (Pe.var 1 rfl) (Pe.glob T.g_FLAGS) c_eq (nomark _)), fun H3 s3 => iteF rfl ?_⟩
        refine ⟨_, (Pt.cmp (Pe.var 1 rfl) (Pe.glob T.g_PUT) c_eq (nomark _)), fun H4 s4 => iteT rfl ?_⟩
        have sm := (((s1.trans s2).trans s3).trans s4)
        have S1 := S.mono sm
        have HA := sm _ _ ha
        have fr : ∀ {q : Addr}, H4 q = none → H q = none := fun hf => sm.free hf
        exact call_L S1 (Pas.cons (Pe.var 0 rfl) (Pas.cons (Pe.item (Pe.var 2 rfl) Pe.int (SqL.of HA) rfl) Pas.nil)) (fun _ _ => R_answer_put.mk) (fun H2 q S2 K2 hq2 hf => k H2 q S2 (K2.st sm) hq2 (fr hf))
      | holds c =>
        refine ⟨_, (Pt.cmp (Pe.var 1 rfl) (Pe.glob T.g_SET) c_eq (nomark _)), fun H1 s1 => iteF rfl ?_⟩
        refine ⟨_, (Pt.cmp (Pe.var 1 rfl) (Pe.glob T.g_GET) c_eq (nomark _)), fun H2 s2 => iteF rfl ?_⟩
        refine ⟨_, (Pt.cmp (Pe.var 1 rfl) (Pe.glob T.g_FLAGS) c_eq (nomark _)), fun H3 s3 => iteF rfl ?_⟩
        refine ⟨_, (Pt.cmp (Pe.var 1 rfl) (Pe.glob T.g_PUT) c_eq (nomark _)), fun H4 s4 => iteF rfl ?_⟩
        refine ⟨_, (Pt.cmp (Pe.var 1 rfl) (Pe.glob T.g_HOLDS) c_eq (nomark _)), fun H5 s5 => iteT rfl ?_⟩
        have sm := ((((s1.trans s2).trans s3).trans s4).trans s5)
        have S1 := S.mono sm
        have HA := sm _ _ ha
        have fr : ∀ {q : Addr}, H5 q = none → H q = none := fun hf => sm.free hf
        exact call_L S1 (Pas.cons (Pe.var 0 rfl) (Pas.cons (Pe.item (Pe.var 2 rfl) Pe.int (SqL.of HA) rfl) Pas.nil)) (fun _ _ => R_answer_holds.mk) (fun H2 q S2 K2 hq2 hf => k H2 q S2 (K2.st sm) hq2 (fr hf))
      | one op size d s2 n =>
        refine ⟨_, (Pt.cmp (Pe.var 1 rfl) (Pe.glob T.g_SET) c_eq (nomark _)), fun H1 s1 => iteF rfl ?_⟩
        refine ⟨_, (Pt.cmp (Pe.var 1 rfl) (Pe.glob T.g_GET) c_eq (nomark _)), fun H2 s2 => iteF rfl ?_⟩
        refine ⟨_, (Pt.cmp (Pe.var 1 rfl) (Pe.glob T.g_FLAGS) c_eq (nomark _)), fun H3 s3 => iteF rfl ?_⟩
        refine ⟨_, (Pt.cmp (Pe.var 1 rfl) (Pe.glob T.g_PUT) c_eq (nomark _)), fun H4 s4 => iteF rfl ?_⟩
        refine ⟨_, (Pt.cmp (Pe.var 1 rfl) (Pe.glob T.g_HOLDS) c_eq (nomark _)), fun H5 s5 => iteF rfl ?_⟩
        refine ⟨_, (Pt.cmp (Pe.var 1 rfl) (Pe.glob T.g_DO) c_eq (nomark _)), fun H6 s6 => iteT rfl ?_⟩
        have sm := (((((s1.trans s2).trans s3).trans s4).trans s5).trans s6)
        have S1 := S.mono sm
        have HA := sm _ _ ha
        have fr : ∀ {q : Addr}, H6 q = none → H q = none := fun hf => sm.free hf
        refine meth_S S1 (Pe.var 0 rfl) (Pas.cons (Pe.item (Pe.var 2 rfl) Pe.int (SqL.of HA) rfl) (Pas.cons (Pe.item (Pe.var 2 rfl) Pe.int (SqL.of HA) rfl) (Pas.cons (Pe.item (Pe.var 2 rfl) Pe.int (SqL.of HA) rfl) (Pas.cons (Pe.item (Pe.var 2 rfl) Pe.int (SqL.of HA) rfl) (Pas.cons (Pe.item (Pe.var 2 rfl) Pe.int (SqL.of HA) rfl) Pas.nil))))) nm_operate R_operate.mk fun H7 S7 K7 => ?_
        refine ⟨by show 1 ≤ sizeLine; decide, fun q hq2 => ?_⟩
        have K8 := (Kp.same sm).trans K7
        exact k _ q (S7.new hq2) (K8.ts (same_new hq2)) upd_same (K8.free S7 hq2)
      | run prog =>
        refine ⟨_, (Pt.cmp (Pe.var 1 rfl) (Pe.glob T.g_SET) c_eq (nomark _)), fun H1 s1 => iteF rfl ?_⟩
        refine ⟨_, (Pt.cmp (Pe.var 1 rfl) (Pe.glob T.g_GET) c_eq (nomark _)), fun H2 s2 => iteF rfl ?_⟩
        refine ⟨_, (Pt.cmp (Pe.var 1 rfl) (Pe.glob T.g_FLAGS) c_eq (nomark _)), fun H3 s3 => iteF rfl ?_⟩
        refine ⟨_, (Pt.cmp (Pe.var 1 rfl) (Pe.glob T.g_PUT) c_eq (nomark _)), fun H4 s4 => iteF rfl ?_⟩
        refine ⟨_, (Pt.cmp (Pe.var 1 rfl) (Pe.glob T.g_HOLDS) c_eq (nomark _)), fun H5 s5 => iteF rfl ?_⟩
        refine ⟨_, (Pt.cmp (Pe.var 1 rfl) (Pe.glob T.g_DO) c_eq (nomark _)), fun H6 s6 => iteF rfl ?_⟩
        have sm := (((((s1.trans s2).trans s3).trans s4).trans s5).trans s6)
        have S1 := S.mono sm
        have HA := sm _ _ ha
        have fr : ∀ {q : Addr}, H6 q = none → H q = none := fun hf => sm.free hf
        refine ⟨_, Pe.var 0 rfl, fun H7 s7 => ⟨_, Pe.var 2 rfl, fun H8 s8 => ⟨_, Pe.int, fun H9 s9 => ⟨_, rfl, a, _, rfl, SqL.of (s9 _ _ (s8 _ _ (s7 _ _ HA))), fun b hb => ?_⟩⟩⟩⟩
        have s79 := (s7.trans s8).trans s9
        have S9 := S1.mono s79
        have nbp : b ≠ p := fun z => by rw [z, S9.ins] at hb; cases hb
        have nbl : b ≠ l := fun z => by rw [z, S9.lst] at hb; cases hb
        refine ⟨p, dx, l, t, _, _, _, rfl, S9.new hb, R_answer_run.mk (prog := prog) (hq prog rfl) ?_ nbp nbl, fun H10 q2 S10 K10 hq10 hf => ?_⟩
        · rw [upd_same]; exact congrArg (fun z => some (HO.lst z)) (cutV_1 _ _)
        · exact k H10 q2 S10 (((Kp.same (sm.trans s79)).ts (same_new hb)).trans K10) hq10 ((sm.trans s79).free ((same_new hb).free hf))
end
end We
end

section
set_option Elab.async false
set_option linter.all false
set_option maxRecDepth 100000
set_option maxHeartbeats 4000000
namespace We
open PySem PySem.Spec PyProof.Rows L2
open Sv02 (Abs)
open Wo (vx fn)
local macro_rules | `(tactic| walk_at "w") => `(tactic| first | omega | assumption | (refine ⟨by omega, ?_⟩; omega))
/-- a list that nothing changes: handed in, or of the module -/
def FzL (K : PySem.W.Frag) (H : Hp) (a : Addr) (xs : List V) : Prop := (∃ o, H a = some (.frz o (.lst xs))) ∨
    ∃ (o : Obj) (its : Array Value) (n : Nat), K.lookup a = some o ∧ o.cls = .type "list" ∧ o.dict = none ∧ o.data = .seq its n ∧ its.size ≤ sizeLine ∧ Vals xs its.toList
theorem FzL.sq {K : PySem.W.Frag} {H : Hp} {a : Addr} {xs : List V} (h : FzL K H a xs) : SqL K H a xs := by
  rcases h with ⟨o, h⟩ | h
  · exact .inl (.inr ⟨o, h⟩)
  · exact .inr h
theorem FzL.mono {K : PySem.W.Frag} {H H' : Hp} {a : Addr} {xs : List V} (h : FzL K H a xs) (s : ∀ o, H a = some (.frz o (.lst xs)) → H' a = some (.frz o (.lst xs))) : FzL K H' a xs := by
  rcases h with ⟨o, h⟩ | h
  · exact .inl ⟨o, s o h⟩
  · exact .inr h
theorem FzL.same {K : PySem.W.Frag} {H H' : Hp} {a : Addr} {xs : List V} (h : FzL K H a xs) (s : Same H H') : FzL K H' a xs := h.mono fun o e => s _ _ e
theorem FzL.kp {K : PySem.W.Frag} {C : Addr} {H H' : Hp} {a p dx l : Addr} {t : Abs} {xs : List V} (h : FzL K H a xs) (S : StA C H p dx l t) (k : Kp H H' p l) : FzL K H' a xs :=
  h.mono fun o e => k _ _ e (apart e S.ins (by intro z; cases z)) (apart e S.lst (by intro z; cases z))
theorem drop_get {l r : List Int} {i : Nat} {x : Int} (h : l.drop i = x :: r) : l[i]? = some x := by
  have e : (l.drop i)[0]? = some x := by rw [h]; rfl
  rw [List.getElem?_drop] at e
  exact e
theorem drop_get1 {l r : List Int} {i : Nat} {x y : Int} (h : l.drop i = x :: y :: r) : l[i + 1]? = some y := by
  have e : (l.drop i)[1]? = some y := by rw [h]; rfl
  rw [List.getElem?_drop] at e
  exact e
inductive R_call_end (K : PySem.W.Frag) : Hp → List V → V → Prop
  | mk {H : Hp} {a : Addr} {ns l' : List Int} {i : Nat} {q : Sv02.Call} (ha : SqL K H a (vints ns)) (hd : ns.drop i = callNo q :: (callArgs q ++ l')) : R_call_end K H [.ref a, .int (i : Int)] (.int ((i + 1 + (callArgs q).length : Nat) : Int))
def argsN (q : Sv02.Call) : Int := match q with
  | .set _ _ => 2
  | .get _ => 1
  | .flags => 0
  | .put _ => 1
  | .holds _ => 1
  | .one _ _ _ _ _ => 5
  | .run _ => 1
theorem args_at (q : Sv02.Call) : atI [V.int 2, .int 1, .int 0, .int 1, .int 1, .int 5, .int 1] (callNo q) = some (.int (argsN q)) := by
  cases q <;> rfl
def spInit (C : Addr) : Sp := fun vs H Q _ => ∃ (p dx : Addr), vs = [.ref p] ∧ H p = some (.ins C dx []) ∧ ∀ (H' : Hp) (l : Addr), StA C H' p dx l Sv02.init → (∀ b o, H b = some o → b ≠ p → H' b = some o) → H l = none → Q .non H'
theorem sIx_two (xs : List V) {lo hi : Nat} (h1 : lo ≤ hi) (h2 : hi ≤ xs.length) : cutV xs (some (lo : Int)) (some (hi : Int)) = (xs.drop lo).take (hi - lo) := by
  unfold cutV
  rw [sIx_nat, sIx_nat, Nat.min_eq_left h2, Nat.min_eq_left (show lo ≤ xs.length by omega)]
theorem tell_le (a : Sv02.Ans) : (Wo.tell a).length ≤ 2 := by
  unfold Wo.tell
  cases a.word <;> simp
section
variable {P : Program} {w : World} {K : PySem.W.Frag} {mg : Str → Option Value} {base : Heap} {C : Addr}
theorem ok_call_end (T : Txt K mg C) : DefOk P w K mg base "call_end" ["calls", "at"] 1 (spR (R_call_end K)) := by
  refine def_ok T.d_call_end sc_call_end (fun vs H Q E h => ?_) (fun f cdv A outer s H vs Q E hr h => ?_)
  · obtain ⟨v, hR, _⟩ := h; cases hR; rfl
  · obtain ⟨v, hR, k⟩ := h
    cases hR with
    | @mk a ns l' i q ha hd =>
      obtain ⟨aa, ma, qa⟩ := T.q_ARGUMENTS
      have e0 := vi_at (drop_get hd)
      refine ⟨_, (pss_cons (ps_set (i := 2) sc_call_end.nd rfl (Or.inl rfl) pe_ev) (pss_cons (ps_if pt_ev (pss_one (ps_ret pe_ev)) pss_nil) (pss_one (ps_ret pe_ev)))), ?_⟩
      refine ⟨_, Pe.bin (Pe.bin (Pe.var 1 rfl) Pe.int b_add) (Pe.itemT (Pe.glob (v := .ref aa) ⟨_, ma, rfl⟩) (Pe.item (Pe.var 0 rfl) (Pe.var 1 rfl) ha (atI_nat e0)) (qa _) (args_at q)) b_add, fun H1 s1 => ?_⟩
      have ha1 := s1.seq ha
      refine ⟨_, Pt.cmp (Pe.item (Pe.var 0 rfl) (Pe.var 1 rfl) ha1 (atI_nat e0)) (Pe.glob T.g_RUN) c_eq (nomark _), fun H2 s2 => ?_⟩
      have ha2 := s2.seq ha1
      have nonrun : ∀ (z : Int), argsN q = ((callArgs q).length : Int) → (i : Int) + 1 + argsN q = ((i + 1 + (callArgs q).length : Nat) : Int) := fun _ e => by rw [e]; omega
      cases q with
      | run prog =>
        refine iteT rfl ⟨_, Pe.bin (Pe.var 2 rfl) (Pe.item (Pe.var 0 rfl) (Pe.bin (Pe.var 1 rfl) Pe.int b_add) ha2 (at_off (j := i + 1) (by omega) (vi_at (drop_get1 hd)))) b_add, fun H3 s3 => ?_⟩
        have e : (i : Int) + 1 + argsN (.run prog) + (prog.length : Int) = ((i + 1 + (callArgs (.run prog)).length : Nat) : Int) := by
          show (i : Int) + 1 + 1 + (prog.length : Int) = ((i + 1 + ((prog.map Int.ofNat).length + 1) : Nat) : Int)
          rw [List.length_map]; omega
        rw [e]
        exact k H3 ((s1.trans s2).trans s3)
      | set r v => exact iteF rfl ⟨_, Pe.var 2 rfl, fun H3 s3 => by rw [nonrun 0 rfl]; exact k H3 ((s1.trans s2).trans s3)⟩
      | get r => exact iteF rfl ⟨_, Pe.var 2 rfl, fun H3 s3 => by rw [nonrun 0 rfl]; exact k H3 ((s1.trans s2).trans s3)⟩
      | flags => exact iteF rfl ⟨_, Pe.var 2 rfl, fun H3 s3 => by rw [nonrun 0 rfl]; exact k H3 ((s1.trans s2).trans s3)⟩
      | put r => exact iteF rfl ⟨_, Pe.var 2 rfl, fun H3 s3 => by rw [nonrun 0 rfl]; exact k H3 ((s1.trans s2).trans s3)⟩
      | holds r => exact iteF rfl ⟨_, Pe.var 2 rfl, fun H3 s3 => by rw [nonrun 0 rfl]; exact k H3 ((s1.trans s2).trans s3)⟩
      | one a1 a2 a3 a4 a5 => exact iteF rfl ⟨_, Pe.var 2 rfl, fun H3 s3 => by rw [nonrun 0 rfl]; exact k H3 ((s1.trans s2).trans s3)⟩
theorem zeros : (List.replicate (16 : Int).toNat [V.int 0]).flatten = regs Sv02.init := by rfl
theorem pf_init (l : Addr) : putF "flags" (.int 0) (putF "registers" (.ref l) []) = pf l (fn Sv02.init) := by
  show putF "flags" (.int 0) [(("registers" : Str), V.ref l)] = _
  rw [putF, if_neg (by decide +kernel)]
  rfl
theorem ok_init (T : Txt K mg C) : ∃ f fd, FnOk P w K mg base CX0 1 f fd ["self"] (spInit C) ∧ Binds K fd ["self"] [] ∧ Mk K C f := by
  obtain ⟨f, fd, F, b, m⟩ := T.d_init_Processor.ex
  refine ⟨f, fd, F.ok sc_init_Processor (fun vs H Q E h => ?_) (fun cdv A outer s H vs Q E hr h => ?_), b, m⟩
  · obtain ⟨p, dx, rfl, _⟩ := h; rfl
  · obtain ⟨p, dx, rfl, hp, k⟩ := h
    refine ⟨_, pss_cons (ps_fld pe_ev (pe_op op_rep (pe_lst pa_ev) pe_ev) rfl) (pss_one (ps_fld pe_ev pe_ev rfl)), ?_⟩
    refine ⟨_, Pas.cons Pe.int Pas.nil, fun H1 s1 => ⟨by show 1 ≤ sizeLine; decide, fun z hz => ⟨_, Pe.glob T.g_REGISTERS, fun H2 s2 => ⟨z, 16, [.int 0], rfl, rfl, s2 _ _ upd_same, by decide, by decide, by show 1 * 16 ≤ sizeLine; decide, fun l hl => ?_⟩⟩⟩⟩
    have s02 : Same H H2 := (s1.trans (same_new hz)).trans s2
    refine ⟨_, Pe.var 0 rfl, fun H3 s3 => ⟨p, C, dx, [], rfl, s3 _ _ (same_new hl _ _ (s02 _ _ hp)), T.cl, T.nf_registers, by show 0 < 1000; decide, ?_⟩⟩
    have hl0 : H l = none := s02.free hl
    have np : l ≠ p := fun q => by rw [q, hp] at hl0; cases hl0
    have l3 : H3 l = some (.lst (regs Sv02.init)) := by rw [← zeros]; exact s3 _ _ upd_same
    have s03 : Same H H3 := (s02.trans (same_new hl)).trans s3
    refine ⟨_, Pe.int, fun H4 s4 => ⟨_, Pe.var 0 rfl, fun H5 s5 => ⟨p, C, dx, _, rfl, s5 _ _ (s4 _ _ upd_same), T.cl, T.nf_flags, by show 1 < 1000; decide, ?_⟩⟩⟩
    refine k _ l ⟨?_, ?_⟩ (fun b o e hb => ?_) hl0
    · rw [upd_same, pf_init]
    · rw [upd_ne np]
      exact s5 _ _ (s4 _ _ (by rw [upd_ne np]; exact l3))
    · rw [upd_ne hb]
      exact s5 _ _ (s4 _ _ (by rw [upd_ne hb]; exact s03 _ _ e))
end
end We
end

section
set_option Elab.async false
set_option linter.all false
set_option maxRecDepth 100000
set_option maxHeartbeats 4000000
namespace We
open PySem PySem.Spec PyProof.Rows L2
open Sv02 (Abs)
open Wo (vx fn)
/-- answers': a list of whole numbers is handed in, the specification's list comes out -/
def spAns (K : PySem.W.Frag) : Sp := fun vs H Q _ => ∃ (a : Addr) (ns : List Int), vs = [.ref a] ∧ FzL K H a (vints ns) ∧ PySv02.answers_asked ns = true ∧ ns.length ≤ 16000 ∧ ∀ (H' : Hp) (r : Addr), H' r = some (.lst (vints (PySv02.answers ns))) → Q (.ref r) H'
theorem vi_app (a b : List Int) : vints (a ++ b) = vints a ++ vints b := List.map_append ..
def mu (ns : List Int) (st : List (Option V)) (_ : Hp) : Nat := match st[3]? with
  | some (some (V.int z)) => ns.length - z.toNat
  | _ => 0
section
variable {P : Program} {w : World} {K : PySem.W.Frag} {mg : Str → Option Value} {base : Heap} {C : Addr}
theorem fn_answers {f : Addr} {fd : FuncData} (F : Fun K "answers" "answers" s_answers f fd) (T : Txt K mg C) : FnOk P w K mg base CX0 13 f fd ["calls"] (spAns K) := by
  obtain ⟨fI, fdI, GI, bI, MI⟩ := ok_init (P := P) (w := w) (base := base) T
  refine F.ok sc_answers (fun vs H Q E h => ?_) (fun cdv A outer s H vs Q E hr h => ?_)
  · obtain ⟨a, ns, rfl, _⟩ := h; rfl
  · obtain ⟨a, ns, rfl, ha, hask, hlen, k⟩ := h
    refine ⟨_, pss_cons (ps_set (i := 1) sc_answers.nd rfl (Or.inl rfl) (pe_make0 MI GI (hr.mono (by decide)) rfl T.m_Processor bI .nil pass0)) (pss_cons (ps_set (i := 2) sc_answers.nd rfl (Or.inl rfl) (pe_lst pa_ev)) (pss_cons (ps_set (i := 3) sc_answers.nd rfl (Or.inl rfl) pe_ev)
      (pss_cons (ps_while PassesOwn.never pt_ev (pss_cons (ps_set (i := 4) sc_answers.nd rfl (Or.inl rfl) pe_ev) (pss_cons (ps_set (i := 5) sc_answers.nd rfl (Or.inl rfl) (pe_def (ok_answer_call T) (hr.mono (by decide)) (pa_cons pe_ev (pa_cons pe_ev (pa_cons (pe_slice sl_list pe_ev (po_some pe_ev) (po_some pe_ev)) pa_nil)))))
        (pss_cons (ps_expr (pe_bm PySem.F.plainAttrs_list PySem.F.slot_list_append PySem.F.type_list_append mt_append pe_ev pa_ev)) (pss_cons (ps_expr (pe_bm PySem.F.plainAttrs_list PySem.F.slot_list_extend PySem.F.type_list_extend mt_extend pe_ev pa_ev)) (pss_one (ps_set (i := 3) sc_answers.nd rfl (Or.inl rfl) pe_ev)))))))
      (pss_one (ps_ret pe_ev))))), ?_⟩
    -- processor = Processor()
    intro p dx nx ndx ne
    refine ⟨p, dx, rfl, upd_same, fun H1 l S1 kp1 hl1 => ⟨rfl, ?_⟩⟩
    have a1 : FzL K H1 a (vints ns) := ha.mono fun o e => kp1 _ _ (by rw [upd_ne (ne_of_none e nx), upd_ne (ne_of_none e ndx)]; exact e) (ne_of_none e nx)
    -- result = []; at = 0
    refine ⟨_, Pas.nil, fun H2 s2 => ⟨Nat.zero_le _, fun r hr2 => ⟨_, Pe.int, fun H3 s3 => ?_⟩⟩⟩
    have nrl : r ≠ l := fun z => by rw [z, (S1.mono s2).lst] at hr2; cases hr2
    refine while_by (fun st' H' => ∃ (i : Nat) (t : Abs) (out : List Int) (v4 v5 : Option V), st' = [some (.ref a), some (.ref p), some (.ref r), some (.int (i : Int)), v4, v5] ∧ i ≤ ns.length ∧ Wo.Rest ns (ns.drop i) t out ∧ StA C H' p dx l t ∧ H' r = some (.lst (vints out)) ∧ FzL K H' a (vints ns) ∧ out.length ≤ 3 * i) (mu ns)
      ⟨0, Sv02.init, [], _, _, rfl, Nat.zero_le _, Wo.rest_start hask, ((S1.mono s2).new hr2).mono s3, s3 _ _ upd_same, ((a1.same s2).same (same_new hr2)).same s3, Nat.zero_le _⟩ ?_ (fun st' H' Q1 Q2 hQ ⟨c, h1, h2⟩ => ⟨c, h1, fun H'' s'' => hQ _ _ (h2 H'' s'')⟩)
    rintro st' H4 ⟨i, t, out, v4, v5, rfl, hi, hrest, S4, r4, a4, ho⟩
    refine ⟨_, Pt.cmp (Pe.var 3 rfl) (Pe.len T.nb_len (Pe.var 0 rfl) a4.sq) c_lt (nomark _), fun H5 s5 => ?_⟩
    have S5 := S4.mono s5
    have r5 := s5 _ _ r4
    have a5 := a4.same s5
    by_cases c : i < ns.length
    · refine iteT (decide_eq_true (by rw [vi_len]; omega)) ?_
      obtain ⟨q, l', hat, hrest'⟩ := Wo.rest_step hrest (by intro z; have := congrArg List.length z; rw [List.length_drop] at this; simp at this; omega)
      have hd := At_eq hat
      have hlen2 : ns.length - i = 1 + ((callArgs q).length + l'.length) := by
        have := congrArg List.length hd
        rw [List.length_drop, List.length_cons, List.length_append] at this
        omega
      have hl' : l' = ns.drop (i + 1 + (callArgs q).length) := by
        have e1 : (ns.drop i).drop (1 + (callArgs q).length) = l' := by
          rw [hd, Nat.add_comm 1, List.drop_succ_cons, List.drop_left]
        rw [← e1, List.drop_drop]
        congr 1
        omega
      -- end = call_end(calls, at)
      refine ⟨_, Pe.call (ok_call_end T) (hr.mono (by decide)) (Pas.cons (Pe.var 0 rfl) (Pas.cons (Pe.var 3 rfl) Pas.nil)) (fun H' s' => R_call_end.mk (a5.same s').sq hd), fun H6 s6 => ?_⟩
      have S6 := S5.mono s6
      have r6 := s6 _ _ r5
      have a6 := a5.same s6
      -- answer = answer_call(processor, calls[at], calls[at + 1:end])
      refine ⟨_, Pe.var 1 rfl, fun H7 s7 => ⟨_, Pe.item (Pe.var 0 rfl) (Pe.var 3 rfl) (a6.same s7).sq (atI_nat (vi_at (drop_get hd))), fun H8 s8 => ⟨_, Pe.var 0 rfl, fun H9 s9 => ⟨_, (Pe.bin (Pe.var 3 rfl) Pe.int b_add).eqv (v' := .int ((i + 1 : Nat) : Int)) (congrArg V.int (by omega)), fun H10 s10 => ⟨_, rfl, _, Pe.var 4 rfl, fun H11 s11 => ⟨_, rfl, a, vints ns, rfl, ?sq, fun g hg => ?_⟩⟩⟩⟩⟩⟩
      case sq => exact ((((a6.same s7).same s8).same s9).same s10).same s11 |>.sq
      have s611 : Same H6 H11 := (((s7.trans s8).trans s9).trans s10).trans s11
      have S11 := S6.mono s611
      have r11 := s611 _ _ r6
      have a11 := a6.same s611
      have ngp : g ≠ p := fun z => by rw [z, S11.ins] at hg; cases hg
      have ngl : g ≠ l := fun z => by rw [z, S11.lst] at hg; cases hg
      refine ⟨p, dx, l, t, _, _, _, rfl, S11.new hg, R_answer_call.mk (q := q) ?cut ngp ngl (At_run hat), fun H12 b S12 K12 hb hfb => ?_⟩
      case cut =>
        rw [upd_same, sIx_two (vints ns) (by omega) (by rw [vi_len]; omega)]
        unfold vints
        rw [← List.map_drop, ← List.map_take, show i + 1 + (callArgs q).length - (i + 1) = (callArgs q).length by omega, ← List.drop_drop, hd]
        show some (HO.lst (List.map V.int (List.take _ (callArgs q ++ l')))) = _
        rw [List.take_left]
      have nrp : r ≠ p := apart r11 S11.ins (by intro z; cases z)
      have r12 : H12 r = some (.lst (vints out)) := K12 _ _ (same_new hg _ _ r11) nrp nrl
      have a12 : FzL K H12 a (vints ns) := (a11.same (same_new hg)).kp (S11.new hg) K12
      have nbr : b ≠ r := fun z => by rw [z, same_new hg _ _ r11] at hfb; cases hfb
      have hT := tell_le (Sv02.spec t q).2
      -- result.append(len(answer))
      refine ⟨_, Pe.var 2 rfl, fun H13 s13 => ⟨.inl ⟨rfl, _, SqL.of (s13 _ _ r12)⟩, _, Pas.cons (Pe.len T.nb_len (Pe.var 5 rfl) (SqL.of (s13 _ _ hb))) Pas.nil, fun H14 s14 => ⟨r, vints out, _, rfl, rfl, s14 _ _ (s13 _ _ r12), ?sz, ?_⟩⟩⟩
      case sz =>
        rw [vi_len]
        exact Nat.lt_of_le_of_lt (show out.length ≤ 50000 by omega) (by decide)
      have s1214 : Same H12 H14 := s13.trans s14
      have S14 := S12.mono s1214
      have a14 := a12.same s1214
      have r14 := s1214 _ _ r12
      have S15 : StA C (upd H14 r (.lst (vints out ++ [.int ((vints (Wo.tell (Sv02.spec t q).2)).length : Int)]))) p dx l (Sv02.spec t q).1 := ⟨by rw [upd_ne (Ne.symm nrp)]; exact S14.ins, by rw [upd_ne (Ne.symm nrl)]; exact S14.lst⟩
      have a15 : FzL K (upd H14 r (.lst (vints out ++ [.int ((vints (Wo.tell (Sv02.spec t q).2)).length : Int)]))) a (vints ns) := a14.mono fun o e => by rw [upd_ne (apart e r14 (by intro z; cases z))]; exact e
      have b15 : (upd H14 r (.lst (vints out ++ [.int ((vints (Wo.tell (Sv02.spec t q).2)).length : Int)]))) b = some (.lst (vints (Wo.tell (Sv02.spec t q).2))) := by rw [upd_ne nbr]; exact s1214 _ _ hb
      -- result.extend(answer)
      refine ⟨_, Pe.var 2 rfl, fun H16 s16 => ⟨.inl ⟨rfl, _, SqL.of (s16 _ _ upd_same)⟩, _, Pas.cons (Pe.var 5 rfl) Pas.nil, fun H17 s17 => ⟨r, b, _, _, rfl, rfl, s17 _ _ (s16 _ _ upd_same), s17 _ _ (s16 _ _ b15), ?sz, ?_⟩⟩⟩
      case sz =>
        rw [List.length_append, vi_len, vi_len]
        exact Nat.le_trans (show out.length + 1 + (Wo.tell (Sv02.spec t q).2).length ≤ 50003 by omega) (by decide)
      have s1517 := s16.trans s17
      have S17 := S15.mono s1517
      have a17 := a15.same s1517
      have r17 := s1517 _ _ upd_same
      -- at = end
      refine ⟨_, Pe.var 4 rfl, fun H18 s18 => ⟨⟨i + 1 + (callArgs q).length, (Sv02.spec t q).1, out ++ Wo.told1 (Sv02.spec t q).2, _, _, rfl, by omega, ?_, ?_, ?_, ?_, ?_⟩, ?_⟩⟩
      · rw [← hl']; exact hrest'
      · refine StA.mono ⟨?_, ?_⟩ s18
        · rw [upd_ne (Ne.symm nrp)]; exact S17.ins
        · rw [upd_ne (Ne.symm nrl)]; exact S17.lst
      · refine s18 _ _ ?_
        rw [upd_same, vi_app]
        show some (HO.lst ((vints out ++ [.int ((vints (Wo.tell (Sv02.spec t q).2)).length : Int)]) ++ vints (Wo.tell (Sv02.spec t q).2))) = some (HO.lst (vints out ++ (V.int (((Wo.tell (Sv02.spec t q).2).length : Nat) : Int) :: vints (Wo.tell (Sv02.spec t q).2))))
        rw [vi_len, List.append_assoc]
        rfl
      · exact FzL.same (a17.mono fun o e => by rw [upd_ne (apart e r17 (by intro z; cases z))]; exact e) s18
      · rw [List.length_append]
        show out.length + ((Wo.tell (Sv02.spec t q).2).length + 1) ≤ _
        omega
      · show ns.length - (((i + 1 + (callArgs q).length : Nat) : Int)).toNat < ns.length - ((i : Nat) : Int).toNat
        omega
    · refine iteF (decide_eq_false (by rw [vi_len]; omega)) ⟨_, Pe.var 2 rfl, fun Hz sz => ?_⟩
      rw [List.drop_eq_nil_of_le (by omega)] at hrest
      rw [Wo.rest_end hrest] at r5
      exact k Hz r (sz _ _ r5)
theorem row_fn {fa : Addr} (T : Txt K mg C) (hfa : mg "answers" = some (.ref fa)) : ∃ fd : FuncData, (∀ (s : Shared) (us : List Value), us.length = (["calls"] : List Str).length → BindsTo s fd ⟨us, []⟩ ((["calls"] : List Str).zip us)) ∧
    ∀ base : Heap, K.In base → base.Ns mainGlobals mg → FnOk P w K mg base CX0 13 fa fd ["calls"] (spAns K) := by
  obtain ⟨f, fd, F, b, m⟩ := T.d_answers.ex
  obtain rfl := ref_inj hfa m
  refine ⟨fd, fun s us hu => ?_, fun base _ _ => fn_answers F T⟩
  obtain ⟨oc, od, kV, doc, pm, an, cdv, ct, osl, rfl, lk, hcd⟩ := F.ex
  exact .of_eq (bd_answers kV doc pm an cdv ct us hu)
theorem row_mk {fa : Addr} (hfa : mg "answers" = some (.ref fa)) (_ : PySem.W.nsIn K mainGlobals "Processor" = some (some (.ref C))) (T : Txt K mg C) : ∃ fd : FuncData, (∀ (s : Shared) (us : List Value), us.length = (["calls"] : List Str).length → BindsTo s fd ⟨us, []⟩ ((["calls"] : List Str).zip us)) ∧
    ∀ base : Heap, K.In base → base.Ns mainGlobals mg → FnOk P w K mg base CX0 13 fa fd ["calls"] (spAns K) := row_fn T hfa
theorem fz_of {H : Hp} {a : Addr} {xs : List V} (h : SqL K H a xs) (o : OnlyF H) : FzL K H a xs := by
  rcases h with (h | ⟨ob, h⟩) | h
  · rcases o a with q | ⟨ob, u, q⟩
    · rw [h] at q; cases q
    · rw [h] at q; cases q
  · exact .inl ⟨ob, h⟩
  · exact .inr h
end
end We
end

section
set_option Elab.async false
set_option linter.all false
open PySem PySem.W PyProof.Rows
namespace PySem.W.Fast
theorem tw14585569369052276800 : True := ⟨⟩
theorem tw3511659624186346624 : True := ⟨⟩
theorem tw12773169288851970368 : True := ⟨⟩
theorem tw4731633994849080640 : True := ⟨⟩
theorem tw3281064144550185280 : True := ⟨⟩
theorem tw589811057253780864 : True := ⟨⟩
theorem tw7333237943656264128 : True := ⟨⟩
theorem tw17739977361528456672 : True := ⟨⟩
theorem tw17181305512795455968 : True := ⟨⟩
theorem tw511358406408370688 : True := ⟨⟩
theorem tw440305939555059264 : True := ⟨⟩
theorem tw17749899603782187584 : True := ⟨⟩
theorem tw4490388100231395904 : True := ⟨⟩
theorem tw12630997620090159712 : True := ⟨⟩
theorem tw16429712428958725856 : True := ⟨⟩
theorem tw4120610797282637728 : True := ⟨⟩
theorem tw13082801339101623232 : True := ⟨⟩
theorem tw6835386900151646144 : True := ⟨⟩
theorem tw2364346762100408256 : True := ⟨⟩
theorem tw6164565208496431072 : True := ⟨⟩
theorem tw6418474579781925856 : True := ⟨⟩
theorem tw16434103421579436000 : True := ⟨⟩
theorem tw17250213333464640513 : True := ⟨⟩
theorem tw16394706056933363777 : True := ⟨⟩
theorem tw10526282189153862785 : True := ⟨⟩
theorem tw447379468429840513 : True := ⟨⟩
theorem tw10815651653840216225 : True := ⟨⟩
theorem tw11462453488926385313 : True := ⟨⟩
theorem tw10421385823041987777 : True := ⟨⟩
theorem tw9699064815349822657 : True := ⟨⟩
theorem tw12654436829964003585 : True := ⟨⟩
theorem tw13984022067249856801 : True := ⟨⟩
theorem tw7444328595785212225 : True := ⟨⟩
theorem tw16591535244055874945 : True := ⟨⟩
theorem tw14853731881716969857 : True := ⟨⟩
theorem tw4524137440853119489 : True := ⟨⟩
theorem tw8668864902768306721 : True := ⟨⟩
theorem tw16849320211031561793 : True := ⟨⟩
theorem tw2354017095998810689 : True := ⟨⟩
theorem tw17534428200589963841 : True := ⟨⟩
theorem tw16422111374511882881 : True := ⟨⟩
theorem tw15273537953884794561 : True := ⟨⟩
theorem tw17433288207447722817 : True := ⟨⟩
theorem tw12840710440832505761 : True := ⟨⟩
theorem tw4860024960301288385 : True := ⟨⟩
theorem tw17738927582814537730 : True := ⟨⟩
theorem tw4804979330007149570 : True := ⟨⟩
theorem tw15285620612499779618 : True := ⟨⟩
theorem tw18400286732269325474 : True := ⟨⟩
theorem tw17441645507031603362 : True := ⟨⟩
theorem tw18122202817884729506 : True := ⟨⟩
theorem tw10260042854112255138 : True := ⟨⟩
theorem tw2927549297421323490 : True := ⟨⟩
theorem tw11151503944875372802 : True := ⟨⟩
theorem tw8698846857064835362 : True := ⟨⟩
theorem tw12445602175493787074 : True := ⟨⟩
theorem tw17333480001900821058 : True := ⟨⟩
theorem tw11433160031187879490 : True := ⟨⟩
theorem tw6457433909768248898 : True := ⟨⟩
theorem tw30005596789271106 : True := ⟨⟩
theorem tw14244579256379008610 : True := ⟨⟩
theorem tw14304906850689541730 : True := ⟨⟩
theorem tw1997726366447970978 : True := ⟨⟩
theorem tw3355510314637154978 : True := ⟨⟩
theorem tw5718056339959056066 : True := ⟨⟩
theorem tw9468775856842702658 : True := ⟨⟩
theorem tw3059115894495021986 : True := ⟨⟩
theorem tw15285735763370031010 : True := ⟨⟩
theorem tw11973656226330853346 : True := ⟨⟩
theorem tw13374591595547439107 : True := ⟨⟩
theorem tw12449093151569305603 : True := ⟨⟩
theorem tw1911360993586678883 : True := ⟨⟩
theorem tw5135678587245587683 : True := ⟨⟩
theorem tw5261655753338921187 : True := ⟨⟩
theorem tw13601414630656962819 : True := ⟨⟩
theorem tw13844167220198620739 : True := ⟨⟩
theorem tw4054728697812445827 : True := ⟨⟩
theorem tw12799216756366037667 : True := ⟨⟩
theorem tw16903983808454870755 : True := ⟨⟩
theorem tw14083422708187948835 : True := ⟨⟩
theorem tw17651935892161427267 : True := ⟨⟩
theorem tw4748170434574679875 : True := ⟨⟩
theorem tw7830903505045639075 : True := ⟨⟩
theorem tw17539711929340090307 : True := ⟨⟩
theorem tw18351396367990161347 : True := ⟨⟩
theorem tw3540197604569939012 : True := ⟨⟩
theorem tw14940747375625979076 : True := ⟨⟩
theorem tw5675917646460876068 : True := ⟨⟩
theorem tw6198707509726686564 : True := ⟨⟩
theorem tw11959817546802395492 : True := ⟨⟩
theorem tw855479978002567556 : True := ⟨⟩
theorem tw9317483037795598916 : True := ⟨⟩
theorem tw10803253737545422436 : True := ⟨⟩
theorem tw3917426521424167556 : True := ⟨⟩
theorem tw3105183635821583012 : True := ⟨⟩
theorem tw701608782478081700 : True := ⟨⟩
theorem tw17740343633864915652 : True := ⟨⟩
theorem tw8950327801389816548 : True := ⟨⟩
theorem tw1180578494311504708 : True := ⟨⟩
theorem tw9454568792799136644 : True := ⟨⟩
theorem tw14721196862080930692 : True := ⟨⟩
theorem tw1168524347269766020 : True := ⟨⟩
theorem tw7679869396184244164 : True := ⟨⟩
theorem tw916518795163844677 : True := ⟨⟩
theorem tw3670617458286311589 : True := ⟨⟩
theorem tw3726783974010265829 : True := ⟨⟩
theorem tw12611343563882610949 : True := ⟨⟩
theorem tw558428075802139941 : True := ⟨⟩
theorem tw2057174717589287301 : True := ⟨⟩
theorem tw7814340673170350533 : True := ⟨⟩
theorem tw2560938401093403109 : True := ⟨⟩
theorem tw14715479646244332069 : True := ⟨⟩
theorem tw10915897067255979589 : True := ⟨⟩
theorem tw2227563468963307109 : True := ⟨⟩
theorem tw7814468525858972261 : True := ⟨⟩
theorem tw8047000869723560581 : True := ⟨⟩
theorem tw14635011902725293733 : True := ⟨⟩
theorem tw13430936664985365157 : True := ⟨⟩
theorem tw5241360609487269573 : True := ⟨⟩
theorem tw12180152121756360389 : True := ⟨⟩
theorem tw10214626280558310149 : True := ⟨⟩
theorem tw12958825597808107301 : True := ⟨⟩
theorem tw11125236091320499013 : True := ⟨⟩
theorem tw3727729049122285413 : True := ⟨⟩
theorem tw15310261191311938437 : True := ⟨⟩
theorem tw1039685247948707749 : True := ⟨⟩
theorem tw2619212091700626405 : True := ⟨⟩
theorem tw1977503645669922822 : True := ⟨⟩
theorem tw3892426401054727238 : True := ⟨⟩
theorem tw12399697897011105862 : True := ⟨⟩
theorem tw5789169564644486374 : True := ⟨⟩
theorem tw771117430322869478 : True := ⟨⟩
theorem tw13010156828596033862 : True := ⟨⟩
theorem tw11083887213576190310 : True := ⟨⟩
theorem tw6629039897853242758 : True := ⟨⟩
theorem tw7236182969887960486 : True := ⟨⟩
theorem tw15095019558371336614 : True := ⟨⟩
theorem tw5072272870584988102 : True := ⟨⟩
theorem tw18072712996683081190 : True := ⟨⟩
theorem tw6471143363370989030 : True := ⟨⟩
theorem tw16271454744445882982 : True := ⟨⟩
theorem tw5945814561816047270 : True := ⟨⟩
theorem tw15996768629728938726 : True := ⟨⟩
theorem tw4604965544238213862 : True := ⟨⟩
theorem tw17244978258296507110 : True := ⟨⟩
theorem tw1626033600269058854 : True := ⟨⟩
theorem tw420453533764769606 : True := ⟨⟩
theorem tw7564782514771190662 : True := ⟨⟩
theorem tw18353699625876740006 : True := ⟨⟩
theorem tw16902947626852642758 : True := ⟨⟩
theorem tw2856183913056007110 : True := ⟨⟩
theorem tw12022549258598560742 : True := ⟨⟩
theorem tw1453164732869447687 : True := ⟨⟩
theorem tw8840815477689935879 : True := ⟨⟩
theorem tw7931140797510983751 : True := ⟨⟩
theorem tw4771322133872822375 : True := ⟨⟩
theorem tw2656793595792468071 : True := ⟨⟩
theorem tw6503322960830150791 : True := ⟨⟩
theorem tw6050098946246987943 : True := ⟨⟩
theorem tw7140515207352266983 : True := ⟨⟩
theorem tw4582044032446856583 : True := ⟨⟩
theorem tw10816785999539770791 : True := ⟨⟩
theorem tw13759140548994902439 : True := ⟨⟩
theorem tw2826836828032676263 : True := ⟨⟩
theorem tw18013559216694309287 : True := ⟨⟩
theorem tw7975662076152560135 : True := ⟨⟩
theorem tw4003798052266666535 : True := ⟨⟩
theorem tw18316545278534753959 : True := ⟨⟩
theorem tw4822740701696925415 : True := ⟨⟩
theorem tw8722784857255588583 : True := ⟨⟩
theorem tw9083731717165261575 : True := ⟨⟩
theorem tw3933789291078635271 : True := ⟨⟩
theorem tw379505091361134343 : True := ⟨⟩
theorem tw5133094578717432647 : True := ⟨⟩
theorem tw15834913441121901415 : True := ⟨⟩
theorem tw2429551655912022887 : True := ⟨⟩
theorem tw8854233507438937991 : True := ⟨⟩
theorem tw14038129408086356871 : True := ⟨⟩
theorem tw15066426260723610503 : True := ⟨⟩
theorem tw3192934596469201831 : True := ⟨⟩
theorem tw6268504141903502279 : True := ⟨⟩
theorem tw15840392372131147719 : True := ⟨⟩
theorem tw13684777501242883015 : True := ⟨⟩
theorem tw1125829568676351016 : True := ⟨⟩
theorem tw1818695854488119336 : True := ⟨⟩
theorem tw8343469993216577608 : True := ⟨⟩
theorem tw7022239428892252232 : True := ⟨⟩
theorem tw10526210967080418440 : True := ⟨⟩
theorem tw16786085972194059624 : True := ⟨⟩
theorem tw2413901871478401544 : True := ⟨⟩
theorem tw9104719915220653608 : True := ⟨⟩
theorem tw7486583516695560744 : True := ⟨⟩
theorem tw11319732791748524648 : True := ⟨⟩
theorem tw7931419281712418568 : True := ⟨⟩
theorem tw11143408070985416488 : True := ⟨⟩
theorem tw16618906861079072648 : True := ⟨⟩
theorem tw8248623512278508617 : True := ⟨⟩
theorem tw249348838515061865 : True := ⟨⟩
theorem tw9815703424697199785 : True := ⟨⟩
theorem tw14983231015060066601 : True := ⟨⟩
theorem tw4511116151580025193 : True := ⟨⟩
theorem tw1102887188805409161 : True := ⟨⟩
theorem tw15285403705565735337 : True := ⟨⟩
theorem tw3546768809823064521 : True := ⟨⟩
theorem tw2124409620544434697 : True := ⟨⟩
theorem tw796196756076137065 : True := ⟨⟩
theorem tw13429584539866981033 : True := ⟨⟩
theorem tw13228673625556223689 : True := ⟨⟩
theorem tw12130211763027843785 : True := ⟨⟩
theorem tw11253230663622589257 : True := ⟨⟩
theorem tw13805237123512201 : True := ⟨⟩
theorem tw12033216414418073481 : True := ⟨⟩
theorem tw3678536370795168810 : True := ⟨⟩
theorem tw13034144724400114730 : True := ⟨⟩
theorem tw8082562220074142826 : True := ⟨⟩
theorem tw16109683037669233802 : True := ⟨⟩
theorem tw12498321717396570282 : True := ⟨⟩
theorem tw14057574181467649226 : True := ⟨⟩
theorem tw14521340685422567658 : True := ⟨⟩
theorem tw17122871900350239978 : True := ⟨⟩
theorem tw17883725740511675658 : True := ⟨⟩
theorem tw13186884222004144522 : True := ⟨⟩
theorem tw14498111354985414026 : True := ⟨⟩
theorem tw16677036500816304554 : True := ⟨⟩
theorem tw12903617258092692906 : True := ⟨⟩
theorem tw14085198527156363818 : True := ⟨⟩
theorem tw4679707342046233130 : True := ⟨⟩
theorem tw2058505681579671146 : True := ⟨⟩
theorem tw8385381294360252074 : True := ⟨⟩
theorem tw8734501070044310250 : True := ⟨⟩
theorem tw433479704043287306 : True := ⟨⟩
theorem tw14713710678072517546 : True := ⟨⟩
theorem tw13419861735580037066 : True := ⟨⟩
theorem tw2667417561706865675 : True := ⟨⟩
theorem tw16710659306122977451 : True := ⟨⟩
theorem tw14664578593559399595 : True := ⟨⟩
theorem tw18120529813997396235 : True := ⟨⟩
theorem tw462253341104512267 : True := ⟨⟩
theorem tw9180969598057284907 : True := ⟨⟩
theorem tw1905968350986955147 : True := ⟨⟩
theorem tw7934165242080471467 : True := ⟨⟩
theorem tw5863147004103537099 : True := ⟨⟩
theorem tw6024271946672713259 : True := ⟨⟩
theorem tw5725486837444346443 : True := ⟨⟩
theorem tw7992592198956218027 : True := ⟨⟩
theorem tw17772517202017500843 : True := ⟨⟩
theorem tw1309656288847614699 : True := ⟨⟩
theorem tw10146541810968643371 : True := ⟨⟩
theorem tw6194784370015855403 : True := ⟨⟩
theorem tw7768294635731595276 : True := ⟨⟩
theorem tw18081688044764826668 : True := ⟨⟩
theorem tw7297336569747845228 : True := ⟨⟩
theorem tw12786303359814795436 : True := ⟨⟩
theorem tw6643792215726988492 : True := ⟨⟩
theorem tw8162529490035743948 : True := ⟨⟩
theorem tw8269460420010942764 : True := ⟨⟩
theorem tw3949678519922319660 : True := ⟨⟩
theorem tw10112996355334067500 : True := ⟨⟩
theorem tw17623062629998144876 : True := ⟨⟩
theorem tw831274862966462892 : True := ⟨⟩
theorem tw10946746499187095052 : True := ⟨⟩
theorem tw6835311079296606732 : True := ⟨⟩
theorem tw13518650080506545676 : True := ⟨⟩
theorem tw16559264869784303148 : True := ⟨⟩
theorem tw10367478581381383724 : True := ⟨⟩
theorem tw6594335278158224076 : True := ⟨⟩
theorem tw16360070757949285100 : True := ⟨⟩
theorem tw4075684265277819660 : True := ⟨⟩
theorem tw12193711831305875244 : True := ⟨⟩
theorem tw8817508718476715852 : True := ⟨⟩
theorem tw15509911770569388908 : True := ⟨⟩
theorem tw693538338261422125 : True := ⟨⟩
theorem tw9140610418926754893 : True := ⟨⟩
theorem tw15358146349490714765 : True := ⟨⟩
theorem tw3044318155310510285 : True := ⟨⟩
theorem tw9619175497364949325 : True := ⟨⟩
theorem tw5169702881964891501 : True := ⟨⟩
theorem tw15119563123150153165 : True := ⟨⟩
theorem tw16250918604551646701 : True := ⟨⟩
theorem tw6676107166295752173 : True := ⟨⟩
theorem tw1499527979283905037 : True := ⟨⟩
theorem tw10708231347780729389 : True := ⟨⟩
theorem tw11694589827421038221 : True := ⟨⟩
theorem tw1355634889598810797 : True := ⟨⟩
theorem tw226848977306941197 : True := ⟨⟩
theorem tw4875794376601741069 : True := ⟨⟩
theorem tw8459766400363590637 : True := ⟨⟩
theorem tw16616873104458275854 : True := ⟨⟩
theorem tw6666579312844490798 : True := ⟨⟩
theorem tw1623608793558094 : True := ⟨⟩
theorem tw14049750688070038606 : True := ⟨⟩
theorem tw14110992696797865070 : True := ⟨⟩
theorem tw13328403666992399502 : True := ⟨⟩
theorem tw2569314474423392430 : True := ⟨⟩
theorem tw7261634749023079598 : True := ⟨⟩
theorem tw2754224699637895374 : True := ⟨⟩
theorem tw3944860199309678798 : True := ⟨⟩
theorem tw17470529586378814766 : True := ⟨⟩
theorem tw2584982176695785934 : True := ⟨⟩
theorem tw9232066486814571086 : True := ⟨⟩
theorem tw16979595243079336526 : True := ⟨⟩
theorem tw8207879330720341710 : True := ⟨⟩
theorem tw15980963854843743982 : True := ⟨⟩
theorem tw12634463222501384942 : True := ⟨⟩
theorem tw13829895915624026958 : True := ⟨⟩
theorem tw10640471718727856110 : True := ⟨⟩
theorem tw16595664117525223471 : True := ⟨⟩
theorem tw10611869942089013295 : True := ⟨⟩
theorem tw13109768057212182671 : True := ⟨⟩
theorem tw14498555779123453167 : True := ⟨⟩
theorem tw13816387589309315343 : True := ⟨⟩
theorem tw14329380658947765551 : True := ⟨⟩
theorem tw7120872638897669487 : True := ⟨⟩
theorem tw4435304087780960687 : True := ⟨⟩
theorem tw5377319884778834383 : True := ⟨⟩
theorem tw11312586211537105359 : True := ⟨⟩
theorem tw12083367236912902607 : True := ⟨⟩
theorem tw1954626094624410095 : True := ⟨⟩
theorem tw6453837321998644751 : True := ⟨⟩
theorem tw16034733353847127599 : True := ⟨⟩
theorem tw11526859049825964687 : True := ⟨⟩
theorem tw16650045971068993199 : True := ⟨⟩
theorem tw6695039799633262255 : True := ⟨⟩
theorem tw16535813016500941583 : True := ⟨⟩
theorem tw1083822131262800719 : True := ⟨⟩
theorem tw15234084081961504687 : True := ⟨⟩
theorem tw7971701002365165487 : True := ⟨⟩
theorem tw17373611572143535055 : True := ⟨⟩
theorem tw11110348783970991055 : True := ⟨⟩
theorem tw10532400173811717136 : True := ⟨⟩
theorem tw2742926710872559632 : True := ⟨⟩
theorem tw9347287074422866992 : True := ⟨⟩
theorem tw11168425750413059152 : True := ⟨⟩
theorem tw11559256342188340304 : True := ⟨⟩
theorem tw6366488798163921008 : True := ⟨⟩
theorem tw14519859402334189776 : True := ⟨⟩
theorem tw15455638016061553936 : True := ⟨⟩
theorem tw11714081299108118800 : True := ⟨⟩
theorem tw15795786602191463728 : True := ⟨⟩
theorem tw9761222465258082640 : True := ⟨⟩
theorem tw9234006594981553488 : True := ⟨⟩
theorem tw13636879460379878864 : True := ⟨⟩
theorem tw7876053577764640272 : True := ⟨⟩
theorem tw11508331957621492240 : True := ⟨⟩
theorem tw1177217289326420656 : True := ⟨⟩
theorem tw1060909265520850608 : True := ⟨⟩
theorem tw4924157094469080912 : True := ⟨⟩
theorem tw5797802222102068048 : True := ⟨⟩
theorem tw9843165343494046576 : True := ⟨⟩
theorem tw3214033617112112048 : True := ⟨⟩
theorem tw7801513008028442576 : True := ⟨⟩
theorem tw8724756671414085649 : True := ⟨⟩
theorem tw11119582066610210865 : True := ⟨⟩
theorem tw17228587459465830513 : True := ⟨⟩
theorem tw9120971130274380113 : True := ⟨⟩
theorem tw14296552114654619057 : True := ⟨⟩
theorem tw15926075581280321969 : True := ⟨⟩
theorem tw17861811194822768081 : True := ⟨⟩
theorem tw14828576443226122737 : True := ⟨⟩
theorem tw10618513459492500081 : True := ⟨⟩
theorem tw10196976578333286033 : True := ⟨⟩
theorem tw9027620430395163281 : True := ⟨⟩
theorem tw5736669879804160689 : True := ⟨⟩
theorem tw4191875672709425841 : True := ⟨⟩
theorem tw4679761946195090129 : True := ⟨⟩
theorem tw15863061081771906833 : True := ⟨⟩
theorem tw9027110735638972209 : True := ⟨⟩
theorem tw2279175271694814033 : True := ⟨⟩
theorem tw2837367318657566609 : True := ⟨⟩
theorem tw9836130818864696241 : True := ⟨⟩
theorem tw7466938451458486193 : True := ⟨⟩
theorem tw12812761815851169745 : True := ⟨⟩
theorem tw5036506787232176146 : True := ⟨⟩
theorem tw13244750636965079058 : True := ⟨⟩
theorem tw13488538289356959890 : True := ⟨⟩
theorem tw8352261856120723666 : True := ⟨⟩
theorem tw11602199306632257778 : True := ⟨⟩
theorem tw16215143919547444594 : True := ⟨⟩
theorem tw1434945264427817330 : True := ⟨⟩
theorem tw7734625506365730194 : True := ⟨⟩
theorem tw10285810591229413810 : True := ⟨⟩
theorem tw6859773222628635090 : True := ⟨⟩
theorem tw6208674179228698098 : True := ⟨⟩
theorem tw16700835555372354034 : True := ⟨⟩
theorem tw8757529522393639410 : True := ⟨⟩
theorem tw2730992199685717522 : True := ⟨⟩
theorem tw1291746537401418258 : True := ⟨⟩
theorem tw1968655575896172082 : True := ⟨⟩
theorem tw8121500163627288242 : True := ⟨⟩
theorem tw10932647771670767314 : True := ⟨⟩
theorem tw11284775746296429266 : True := ⟨⟩
theorem tw9356125193152001778 : True := ⟨⟩
theorem tw12486397407777085234 : True := ⟨⟩
theorem tw7818103187243108178 : True := ⟨⟩
theorem tw3353514762843633490 : True := ⟨⟩
theorem tw3989947098635265874 : True := ⟨⟩
theorem tw1253680491271866226 : True := ⟨⟩
theorem tw8399831142191809426 : True := ⟨⟩
theorem tw7773006199803784082 : True := ⟨⟩
theorem tw2556426542416784370 : True := ⟨⟩
theorem tw11881161816623300659 : True := ⟨⟩
theorem tw11242804775143595059 : True := ⟨⟩
theorem tw1472160640242248755 : True := ⟨⟩
theorem tw18255438290896937075 : True := ⟨⟩
theorem tw838989453237995667 : True := ⟨⟩
theorem tw10071856823705865363 : True := ⟨⟩
theorem tw15642850068716317875 : True := ⟨⟩
theorem tw13416513306771205299 : True := ⟨⟩
theorem tw14489757165313139923 : True := ⟨⟩
theorem tw6729101762450121971 : True := ⟨⟩
theorem tw11165238621689352499 : True := ⟨⟩
theorem tw1542109369218928051 : True := ⟨⟩
theorem tw14707567861948251603 : True := ⟨⟩
theorem tw1488183568972801555 : True := ⟨⟩
theorem tw2238290119138145875 : True := ⟨⟩
theorem tw11301884752507261587 : True := ⟨⟩
theorem tw7951784884890046195 : True := ⟨⟩
theorem tw17915361945895894803 : True := ⟨⟩
theorem tw5327651531395995571 : True := ⟨⟩
theorem tw1095805518924684372 : True := ⟨⟩
theorem tw302174381907919988 : True := ⟨⟩
theorem tw949313359103620340 : True := ⟨⟩
theorem tw8344832680514964788 : True := ⟨⟩
theorem tw15464372944232049044 : True := ⟨⟩
theorem tw12924287908530951636 : True := ⟨⟩
theorem tw5082229385914419700 : True := ⟨⟩
theorem tw4104625931108433396 : True := ⟨⟩
theorem tw8209817106369150484 : True := ⟨⟩
theorem tw13527203592739386932 : True := ⟨⟩
theorem tw2927765155796559412 : True := ⟨⟩
theorem tw9843012969860425396 : True := ⟨⟩
theorem tw14899802243544698612 : True := ⟨⟩
theorem tw7214863013498964980 : True := ⟨⟩
theorem tw11420012937601665077 : True := ⟨⟩
theorem tw10909628725840299061 : True := ⟨⟩
theorem tw16905878083393402933 : True := ⟨⟩
theorem tw4108105928816614485 : True := ⟨⟩
theorem tw5565442401075507285 : True := ⟨⟩
theorem tw4334649768435370101 : True := ⟨⟩
theorem tw16178080986339357845 : True := ⟨⟩
theorem tw13963069219364131029 : True := ⟨⟩
theorem tw9652455606903163189 : True := ⟨⟩
theorem tw4387236366250435925 : True := ⟨⟩
theorem tw8124112141126830517 : True := ⟨⟩
theorem tw2451763885945458197 : True := ⟨⟩
theorem tw5693740482008467125 : True := ⟨⟩
theorem tw12320745893256372949 : True := ⟨⟩
theorem tw2916714771158474645 : True := ⟨⟩
theorem tw3928728148592927669 : True := ⟨⟩
theorem tw16060658356165730326 : True := ⟨⟩
theorem tw2287961214561025078 : True := ⟨⟩
theorem tw3063221025191143510 : True := ⟨⟩
theorem tw3262253528409440406 : True := ⟨⟩
theorem tw18156823120763652342 : True := ⟨⟩
theorem tw10205896652887210262 : True := ⟨⟩
theorem tw1202519530931085590 : True := ⟨⟩
theorem tw4610785253570589046 : True := ⟨⟩
theorem tw800107117626110390 : True := ⟨⟩
theorem tw12759366661742869014 : True := ⟨⟩
theorem tw8816688062086460982 : True := ⟨⟩
theorem tw7107147083920108150 : True := ⟨⟩
theorem tw11808679266164674198 : True := ⟨⟩
theorem tw2424983485687544502 : True := ⟨⟩
theorem tw9712831562290147030 : True := ⟨⟩
theorem tw5245643723439222518 : True := ⟨⟩
theorem tw6116125938934137686 : True := ⟨⟩
theorem tw12315646205916294038 : True := ⟨⟩
theorem tw10620967513429974934 : True := ⟨⟩
theorem tw6829483249103524887 : True := ⟨⟩
theorem tw10307777566909837367 : True := ⟨⟩
theorem tw17661304401547607159 : True := ⟨⟩
theorem tw14548231742220205239 : True := ⟨⟩
theorem tw12213919495838334135 : True := ⟨⟩
theorem tw3012621243078431959 : True := ⟨⟩
theorem tw16046477581581643031 : True := ⟨⟩
theorem tw8489748699669044663 : True := ⟨⟩
theorem tw7020839370547699223 : True := ⟨⟩
theorem tw3626197736035544599 : True := ⟨⟩
theorem tw5471799395908502103 : True := ⟨⟩
theorem tw16265383531075533399 : True := ⟨⟩
theorem tw4026351288370101879 : True := ⟨⟩
theorem tw11897258323307163319 : True := ⟨⟩
theorem tw18006754914437402391 : True := ⟨⟩
theorem tw1857444063892185943 : True := ⟨⟩
theorem tw4710523492710465399 : True := ⟨⟩
theorem tw8452253830738915416 : True := ⟨⟩
theorem tw10045108126404263032 : True := ⟨⟩
theorem tw2744211852676002008 : True := ⟨⟩
theorem tw18185204810420798680 : True := ⟨⟩
theorem tw4859239763668988152 : True := ⟨⟩
theorem tw16595735719842196792 : True := ⟨⟩
theorem tw4061265645872363928 : True := ⟨⟩
theorem tw13469036529421986232 : True := ⟨⟩
theorem tw11527018903480442488 : True := ⟨⟩
theorem tw15136925624514372216 : True := ⟨⟩
theorem tw5791556554041257592 : True := ⟨⟩
theorem tw11636638941019978392 : True := ⟨⟩
theorem tw3658361931294581432 : True := ⟨⟩
theorem tw5010340253492673208 : True := ⟨⟩
theorem tw9667701081102496536 : True := ⟨⟩
theorem tw10129617401890688792 : True := ⟨⟩
theorem tw13788219177169410840 : True := ⟨⟩
theorem tw10434325480204446552 : True := ⟨⟩
theorem tw7365149710705616760 : True := ⟨⟩
theorem tw908203098509220760 : True := ⟨⟩
theorem tw3165429748603643800 : True := ⟨⟩
theorem tw10893295604454981592 : True := ⟨⟩
theorem tw15692165399910551577 : True := ⟨⟩
theorem tw9011612460926770361 : True := ⟨⟩
theorem tw7360215902218595545 : True := ⟨⟩
theorem tw9868453977199090905 : True := ⟨⟩
theorem tw6784489571733924153 : True := ⟨⟩
theorem tw12128190090795953497 : True := ⟨⟩
theorem tw9086972356148065625 : True := ⟨⟩
theorem tw10641167323210635641 : True := ⟨⟩
theorem tw1881961673968053657 : True := ⟨⟩
theorem tw11644807179965918745 : True := ⟨⟩
theorem tw1076617545545509401 : True := ⟨⟩
theorem tw14788064727473671865 : True := ⟨⟩
theorem tw8508196946412825305 : True := ⟨⟩
theorem tw17161094244644842329 : True := ⟨⟩
theorem tw482975811897049945 : True := ⟨⟩
theorem tw15972518718404521849 : True := ⟨⟩
theorem tw13300509411958477753 : True := ⟨⟩
theorem tw1261249912418882553 : True := ⟨⟩
theorem tw6029382623945971834 : True := ⟨⟩
theorem tw876763387681287322 : True := ⟨⟩
theorem tw9458102830674766010 : True := ⟨⟩
theorem tw16153015003741932762 : True := ⟨⟩
theorem tw1530558878330198426 : True := ⟨⟩
theorem tw14938363673125273018 : True := ⟨⟩
theorem tw10940634195919599066 : True := ⟨⟩
theorem tw15457932475871684090 : True := ⟨⟩
theorem tw10972233752568107706 : True := ⟨⟩
theorem tw11793802909720583898 : True := ⟨⟩
theorem tw2997846311727953658 : True := ⟨⟩
theorem tw14901861669862162170 : True := ⟨⟩
theorem tw15023266683401840538 : True := ⟨⟩
theorem tw17097123539606124506 : True := ⟨⟩
theorem tw13677271989551344667 : True := ⟨⟩
theorem tw8825181683489060891 : True := ⟨⟩
theorem tw12335676835805510683 : True := ⟨⟩
theorem tw6926922894171126939 : True := ⟨⟩
theorem tw15514977277666783515 : True := ⟨⟩
theorem tw16005303428362419547 : True := ⟨⟩
theorem tw12916095957723655547 : True := ⟨⟩
theorem tw1740891462440982939 : True := ⟨⟩
theorem tw6798932660237946267 : True := ⟨⟩
theorem tw10683743839317480859 : True := ⟨⟩
theorem tw10166786970729515451 : True := ⟨⟩
theorem tw7511594274306975163 : True := ⟨⟩
theorem tw7348282983984932315 : True := ⟨⟩
theorem tw1466311079160539611 : True := ⟨⟩
theorem tw3474009239309331963 : True := ⟨⟩
theorem tw9970183946460288603 : True := ⟨⟩
theorem tw16751201729554915963 : True := ⟨⟩
theorem tw1503864337647970139 : True := ⟨⟩
theorem tw14553861527400167291 : True := ⟨⟩
theorem tw12008125866245920667 : True := ⟨⟩
theorem tw8422852244918581147 : True := ⟨⟩
theorem tw15459093963368045499 : True := ⟨⟩
theorem tw11058508539426246619 : True := ⟨⟩
theorem tw10618703208682251227 : True := ⟨⟩
theorem tw10401695439507195899 : True := ⟨⟩
theorem tw12555855823860599836 : True := ⟨⟩
theorem tw7029069669073242140 : True := ⟨⟩
theorem tw11053790377429088316 : True := ⟨⟩
theorem tw684719977731381340 : True := ⟨⟩
theorem tw13700891904318201948 : True := ⟨⟩
theorem tw13243482849416565884 : True := ⟨⟩
theorem tw4132395912371252380 : True := ⟨⟩
theorem tw6209499821124054204 : True := ⟨⟩
theorem tw1187303726008716540 : True := ⟨⟩
theorem tw14504398202840834332 : True := ⟨⟩
theorem tw9700642301739515260 : True := ⟨⟩
theorem tw6286082237442128348 : True := ⟨⟩
theorem tw535791328796608060 : True := ⟨⟩
theorem tw4158671095311917660 : True := ⟨⟩
theorem tw11491309968803466908 : True := ⟨⟩
theorem tw8596432806992292540 : True := ⟨⟩
theorem tw15573599905269642972 : True := ⟨⟩
theorem tw18237848266689242940 : True := ⟨⟩
theorem tw8197138596462791612 : True := ⟨⟩
theorem tw16201962070235452348 : True := ⟨⟩
theorem tw8905860415626087388 : True := ⟨⟩
theorem tw7203099887972876317 : True := ⟨⟩
theorem tw8373160652420729917 : True := ⟨⟩
theorem tw5063388122822254717 : True := ⟨⟩
theorem tw9235811453772801245 : True := ⟨⟩
theorem tw9296468041940648253 : True := ⟨⟩
theorem tw16458546548197807581 : True := ⟨⟩
theorem tw11507552023880992445 : True := ⟨⟩
theorem tw3190175085353951005 : True := ⟨⟩
theorem tw1033364309216709469 : True := ⟨⟩
theorem tw14017576992078292861 : True := ⟨⟩
theorem tw5370247755388091261 : True := ⟨⟩
theorem tw1552066502735294365 : True := ⟨⟩
theorem tw12195534302218448829 : True := ⟨⟩
theorem tw17186682335657383038 : True := ⟨⟩
theorem tw112141658069677214 : True := ⟨⟩
theorem tw12828750719424505054 : True := ⟨⟩
theorem tw12719239374129105150 : True := ⟨⟩
theorem tw8559515121190459646 : True := ⟨⟩
theorem tw13047367799522145598 : True := ⟨⟩
theorem tw15367176331930844510 : True := ⟨⟩
theorem tw17647536478577723806 : True := ⟨⟩
theorem tw3455007432533797278 : True := ⟨⟩
theorem tw4850549190003197406 : True := ⟨⟩
theorem tw17272267058127742462 : True := ⟨⟩
theorem tw17226256137482434078 : True := ⟨⟩
theorem tw2264263033571335742 : True := ⟨⟩
theorem tw15362955798758112862 : True := ⟨⟩
theorem tw12908846531688622782 : True := ⟨⟩
theorem tw830333229733020382 : True := ⟨⟩
theorem tw13310297292701850398 : True := ⟨⟩
theorem tw9727902689537050398 : True := ⟨⟩
theorem tw4557218887925317502 : True := ⟨⟩
theorem tw15581431560228648958 : True := ⟨⟩
theorem tw12508466645557089407 : True := ⟨⟩
theorem tw14517290529677541535 : True := ⟨⟩
theorem tw13728044698341284031 : True := ⟨⟩
theorem tw17306556724497392927 : True := ⟨⟩
theorem tw16808417148602815775 : True := ⟨⟩
theorem tw12422541219689145663 : True := ⟨⟩
theorem tw4291030580353856895 : True := ⟨⟩
theorem tw3413691954081324479 : True := ⟨⟩
theorem tw16891328975457216959 : True := ⟨⟩
theorem tw17920135976950003167 : True := ⟨⟩
theorem tw3927637155274557919 : True := ⟨⟩
theorem tw1357862102808780287 : True := ⟨⟩
theorem tw4509427610786550271 : True := ⟨⟩
theorem tw2880925826894026367 : True := ⟨⟩
theorem tw4055296898076677791 : True := ⟨⟩
theorem tw6281661855313520351 : True := ⟨⟩
theorem tw3754339715145257727 : True := ⟨⟩
theorem tw11369741717286996767 : True := ⟨⟩
theorem tw10078505152234533695 : True := ⟨⟩
theorem tw12531755156064089951 : True := ⟨⟩
theorem tw3915985788823990111 : True := ⟨⟩
theorem tw11078032048522924927 : True := ⟨⟩
theorem tw242599526162600895 : True := ⟨⟩
theorem tw8102500398887084031 : True := ⟨⟩
theorem tw1218621891320090115 : True := ⟨⟩
theorem tw17554234746039023585 : True := ⟨⟩
theorem tw6182227403602411345 : True := ⟨⟩
end PySem.W.Fast
set_option maxRecDepth 100000 in
set_option maxHeartbeats 0 in
theorem PySem.Challenge.cw_wholeops_s01_answers_holds : PySem.Challenge.rw_wholeops_s01_answers.Holds := by
  w_on; k_headS; (case hw => exact ⟨[.list [.int 2]], by decide +kernel, by decide +kernel⟩)
  k_fillS
  refine L2.walk_specK (r := PySem.Challenge.rw_wholeops_s01_answers) (k := 13) (CX := L2.CX0) (ps := ["calls"]) (sp := We.spAns) (by decide +kernel) rfl rfl ⟨rfl, by decide, by decide⟩ (fun w h Y => PySem.W.kIn_of Y) ?F ?S (fun _ _ _ _ z => z)
  case F =>
    intro w mg fa h Y KX G hmg
    refine' We.row_mk hmg ?hC ?hT
    (case hC => k_is)
    case hT =>
      constructor
      case g_CARRY => refine' We.mk_int KX G ?w1q; (case w1q => k_is)
      case g_PARITY => refine' We.mk_int KX G ?w2q; (case w2q => k_is)
      case g_HALF_CARRY => refine' We.mk_int KX G ?w3q; (case w3q => k_is)
      case g_ZERO => refine' We.mk_int KX G ?w4q; (case w4q => k_is)
      case g_SIGN => refine' We.mk_int KX G ?w5q; (case w5q => k_is)
      case g_OVERFLOW => refine' We.mk_int KX G ?w6q; (case w6q => k_is)
      case g_ALL_FLAGS => refine' We.mk_int KX G ?w7q; (case w7q => k_is)
      case g_CONDITIONS => refine' We.mk_int KX G ?w8q; (case w8q => k_is)
      case q_ENOUGH => refine' We.mk_tup KX G ?w9a ?w9b ?w9r ?w9z; (case w9a => k_is); (case w9b => k_is); (case w9r => exact (.cons ⟨_, rfl⟩ (.cons ⟨_, rfl⟩ (.cons ⟨_, rfl⟩ (.cons ⟨_, rfl⟩ (.cons ⟨_, rfl⟩ (.cons ⟨_, rfl⟩ .nil))))))); (case w9z => decide)
      case q_ARITHMETIC => refine' We.mk_dict KX G ?w10a ?w10b ?w10r ?w10z ?w10t; (case w10a => k_is); (case w10b => k_is); (case w10r => exact (.cons rfl (.cons rfl (.cons rfl (.cons rfl (.cons rfl (.cons rfl (.cons rfl (.cons rfl (.cons rfl (.cons rfl (.cons rfl (.cons rfl (.cons rfl (.cons rfl .nil))))))))))))))); (case w10z => decide); (case w10t => refine' ⟨⟨_, rfl, ?w10n0⟩, ⟨_, rfl, ?w10n1⟩, ⟨_, rfl, ?w10n2⟩, ⟨_, rfl, ?w10n3⟩, ⟨_, rfl, ?w10n4⟩, ⟨_, rfl, ?w10n5⟩, ⟨_, rfl, ?w10n6⟩, ⟨_, rfl, ?w10n7⟩, ⟨_, rfl, ?w10n8⟩, ⟨_, rfl, ?w10n9⟩, ⟨_, rfl, ?w10n10⟩, ⟨_, rfl, ?w10n11⟩, ⟨_, rfl, ?w10n12⟩, ⟨_, rfl, ?w10n13⟩⟩; (case w10n0 => refine' PySem.W.mg_of KX G ?w10h0; (case w10h0 => k_is)); (case w10n1 => refine' PySem.W.mg_of KX G ?w10h1; (case w10h1 => k_is)); (case w10n2 => refine' PySem.W.mg_of KX G ?w10h2; (case w10h2 => k_is)); (case w10n3 => refine' PySem.W.mg_of KX G ?w10h3; (case w10h3 => k_is)); (case w10n4 => refine' PySem.W.mg_of KX G ?w10h4; (case w10h4 => k_is)); (case w10n5 => refine' PySem.W.mg_of KX G ?w10h5; (case w10h5 => k_is)); (case w10n6 => refine' PySem.W.mg_of KX G ?w10h6; (case w10h6 => k_is)); (case w10n7 => refine' PySem.W.mg_of KX G ?w10h7; (case w10h7 => k_is)); (case w10n8 => refine' PySem.W.mg_of KX G ?w10h8; (case w10h8 => k_is)); (case w10n9 => refine' PySem.W.mg_of KX G ?w10h9; (case w10h9 => k_is)); (case w10n10 => refine' PySem.W.mg_of KX G ?w10h10; (case w10h10 => k_is)); (case w10n11 => refine' PySem.W.mg_of KX G ?w10h11; (case w10h11 => k_is)); (case w10n12 => refine' PySem.W.mg_of KX G ?w10h12; (case w10h12 => k_is)); (case w10n13 => refine' PySem.W.mg_of KX G ?w10h13; (case w10h13 => k_is)))
      case q_MOVES => refine' We.mk_dict KX G ?w11a ?w11b ?w11r ?w11z ?w11t; (case w11a => k_is); (case w11b => k_is); (case w11r => exact (.cons rfl (.cons rfl (.cons rfl (.cons rfl (.cons rfl .nil)))))); (case w11z => decide); (case w11t => refine' ⟨⟨_, rfl, ?w11n35⟩, ⟨_, rfl, ?w11n36⟩, ⟨_, rfl, ?w11n40⟩, ⟨_, rfl, ?w11n41⟩, ⟨_, rfl, ?w11n42⟩⟩; (case w11n35 => refine' PySem.W.mg_of KX G ?w11h35; (case w11h35 => k_is)); (case w11n36 => refine' PySem.W.mg_of KX G ?w11h36; (case w11h36 => k_is)); (case w11n40 => refine' PySem.W.mg_of KX G ?w11h40; (case w11h40 => k_is)); (case w11n41 => refine' PySem.W.mg_of KX G ?w11h41; (case w11h41 => k_is)); (case w11n42 => refine' PySem.W.mg_of KX G ?w11h42; (case w11h42 => k_is)))
      case g_PRODUCT => refine' We.mk_int KX G ?w12q; (case w12q => k_is)
      case g_SIGNED_PRODUCT => refine' We.mk_int KX G ?w13q; (case w13q => k_is)
      case g_QUOTIENT => refine' We.mk_int KX G ?w14q; (case w14q => k_is)
      case g_SIGNED_QUOTIENT => refine' We.mk_int KX G ?w15q; (case w15q => k_is)
      case g_EXCHANGE => refine' We.mk_int KX G ?w16q; (case w16q => k_is)
      case g_EXCHANGE_AND_ADD => refine' We.mk_int KX G ?w17q; (case w17q => k_is)
      case g_COMPARE_AND_EXCHANGE => refine' We.mk_int KX G ?w18q; (case w18q => k_is)
      case q_PLACES => refine' We.mk_dict KX G ?w19a ?w19b ?w19r ?w19z ?w19t; (case w19a => k_is); (case w19b => k_is); (case w19r => exact (.cons rfl (.cons rfl (.cons rfl (.cons rfl (.cons rfl (.cons rfl (.cons rfl (.cons rfl .nil))))))))); (case w19z => decide); (case w19t => refine' ⟨⟨_, rfl, ?w19n27⟩, ⟨_, rfl, ?w19n28⟩, ⟨_, rfl, ?w19n29⟩, ⟨_, rfl, ?w19n30⟩, ⟨_, rfl, ?w19n31⟩, ⟨_, rfl, ?w19n32⟩, ⟨_, rfl, ?w19n33⟩, ⟨_, rfl, ?w19n34⟩⟩; (case w19n27 => refine' PySem.W.mg_of KX G ?w19h27; (case w19h27 => k_is)); (case w19n28 => refine' PySem.W.mg_of KX G ?w19h28; (case w19h28 => k_is)); (case w19n29 => refine' PySem.W.mg_of KX G ?w19h29; (case w19h29 => k_is)); (case w19n30 => refine' PySem.W.mg_of KX G ?w19h30; (case w19h30 => k_is)); (case w19n31 => refine' PySem.W.mg_of KX G ?w19h31; (case w19h31 => k_is)); (case w19n32 => refine' PySem.W.mg_of KX G ?w19h32; (case w19h32 => k_is)); (case w19n33 => refine' PySem.W.mg_of KX G ?w19h33; (case w19h33 => k_is)); (case w19n34 => refine' PySem.W.mg_of KX G ?w19h34; (case w19h34 => k_is)))
      case q_SHIFTS => refine' We.mk_dict KX G ?w20a ?w20b ?w20r ?w20z ?w20t; (case w20a => k_is); (case w20b => k_is); (case w20r => exact (.cons rfl (.cons rfl (.cons rfl (.cons rfl (.cons rfl (.cons rfl (.cons rfl (.cons rfl (.cons rfl .nil)))))))))); (case w20z => decide); (case w20t => refine' ⟨⟨_, rfl, ?w20n14⟩, ⟨_, rfl, ?w20n15⟩, ⟨_, rfl, ?w20n16⟩, ⟨_, rfl, ?w20n17⟩, ⟨_, rfl, ?w20n18⟩, ⟨_, rfl, ?w20n19⟩, ⟨_, rfl, ?w20n20⟩, ⟨_, rfl, ?w20n21⟩, ⟨_, rfl, ?w20n22⟩⟩; (case w20n14 => refine' PySem.W.mg_of KX G ?w20h14; (case w20h14 => k_is)); (case w20n15 => refine' PySem.W.mg_of KX G ?w20h15; (case w20h15 => k_is)); (case w20n16 => refine' PySem.W.mg_of KX G ?w20h16; (case w20h16 => k_is)); (case w20n17 => refine' PySem.W.mg_of KX G ?w20h17; (case w20h17 => k_is)); (case w20n18 => refine' PySem.W.mg_of KX G ?w20h18; (case w20h18 => k_is)); (case w20n19 => refine' PySem.W.mg_of KX G ?w20h19; (case w20h19 => k_is)); (case w20n20 => refine' PySem.W.mg_of KX G ?w20h20; (case w20h20 => k_is)); (case w20n21 => refine' PySem.W.mg_of KX G ?w20h21; (case w20h21 => k_is)); (case w20n22 => refine' PySem.W.mg_of KX G ?w20h22; (case w20h22 => k_is)))
      case g_LAST_ARITHMETIC => refine' We.mk_int KX G ?w21q; (case w21q => k_is)
      case g_LAST_SHIFT => refine' We.mk_int KX G ?w22q; (case w22q => k_is)
      case g_LAST_PLACE => refine' We.mk_int KX G ?w23q; (case w23q => k_is)
      case g_REGISTERS => refine' We.mk_int KX G ?w24q; (case w24q => k_is)
      case g_LAST_OPERATION => refine' We.mk_int KX G ?w25q; (case w25q => k_is)
      case q_SIZES => refine' We.mk_tup KX G ?w26a ?w26b ?w26r ?w26z; (case w26a => k_is); (case w26b => k_is); (case w26r => exact (.cons ⟨_, rfl⟩ (.cons ⟨_, rfl⟩ (.cons ⟨_, rfl⟩ (.cons ⟨_, rfl⟩ .nil))))); (case w26z => decide)
      case g_LEFT_FILLED => refine' We.mk_int KX G ?w27q; (case w27q => k_is)
      case g_RIGHT_FILLED => refine' We.mk_int KX G ?w28q; (case w28q => k_is)
      case g_BYTES_TURNED_ROUND => refine' We.mk_int KX G ?w29q; (case w29q => k_is)
      case g_MOVE_IF => refine' We.mk_int KX G ?w30q; (case w30q => k_is)
      case g_TRUTH => refine' We.mk_int KX G ?w31q; (case w31q => k_is)
      case g_WIDENED => refine' We.mk_int KX G ?w32q; (case w32q => k_is)
      case g_SET => refine' We.mk_int KX G ?w33q; (case w33q => k_is)
      case g_GET => refine' We.mk_int KX G ?w34q; (case w34q => k_is)
      case g_FLAGS => refine' We.mk_int KX G ?w35q; (case w35q => k_is)
      case g_PUT => refine' We.mk_int KX G ?w36q; (case w36q => k_is)
      case g_HOLDS => refine' We.mk_int KX G ?w37q; (case w37q => k_is)
      case g_DO => refine' We.mk_int KX G ?w38q; (case w38q => k_is)
      case g_RUN => refine' We.mk_int KX G ?w39q; (case w39q => k_is)
      case q_ARGUMENTS => refine' We.mk_tup KX G ?w40a ?w40b ?w40r ?w40z; (case w40a => k_is); (case w40b => k_is); (case w40r => exact (.cons ⟨_, rfl⟩ (.cons ⟨_, rfl⟩ (.cons ⟨_, rfl⟩ (.cons ⟨_, rfl⟩ (.cons ⟨_, rfl⟩ (.cons ⟨_, rfl⟩ (.cons ⟨_, rfl⟩ .nil)))))))); (case w40z => decide)
      case g_DONE => refine' We.mk_int KX G ?w41q; (case w41q => k_is)
      case g_TRAPPED => refine' We.mk_int KX G ?w42q; (case w42q => k_is)
      case g_REFUSED => refine' We.mk_int KX G ?w43q; (case w43q => k_is)
      case g_NOT_RECORDS => refine' We.mk_int KX G ?w44q; (case w44q => k_is)
      case g_RECORD => refine' We.mk_int KX G ?w45q; (case w45q => k_is)
      case m_Processor => refine' PySem.W.mg_of KX G ?w46q; (case w46q => k_is)
      case cl => refine' ⟨?w47a, ?w47b, ?w47c, ?w47d⟩; (case w47a => k_is); (case w47b => k_is); (case w47c => k_is); (case w47d => k_is)
      case nf_registers => show PySem.W.findIn _ _ _ = _; k_is
      case nf_flags => show PySem.W.findIn _ _ _ = _; k_is
      case d_cut => refine' We.mk_def KX G We.bd_cut ?w50a ?w50b ?w50c ?w50d; (case w50a => k_is); (case w50b => k_is); (case w50c => k_is); (case w50d => k_is)
      case d_bit => refine' We.mk_def KX G We.bd_bit ?w51a ?w51b ?w51c ?w51d; (case w51a => k_is); (case w51b => k_is); (case w51c => k_is); (case w51d => k_is)
      case d_highest_bit => refine' We.mk_def KX G We.bd_highest_bit ?w52a ?w52b ?w52c ?w52d; (case w52a => k_is); (case w52b => k_is); (case w52c => k_is); (case w52d => k_is)
      case d_signed => refine' We.mk_def KX G We.bd_signed ?w53a ?w53b ?w53c ?w53d; (case w53a => k_is); (case w53b => k_is); (case w53c => k_is); (case w53d => k_is)
      case d_ones => refine' We.mk_def KX G We.bd_ones ?w54a ?w54b ?w54c ?w54d; (case w54a => k_is); (case w54b => k_is); (case w54c => k_is); (case w54d => k_is)
      case d_when => refine' We.mk_def KX G We.bd_when ?w55a ?w55b ?w55c ?w55d; (case w55a => k_is); (case w55b => k_is); (case w55c => k_is); (case w55d => k_is)
      case d_replaced => refine' We.mk_def KX G We.bd_replaced ?w56a ?w56b ?w56c ?w56d; (case w56a => k_is); (case w56b => k_is); (case w56c => k_is); (case w56d => k_is)
      case d_flags_of => refine' We.mk_def KX G We.bd_flags_of ?w57a ?w57b ?w57c ?w57d; (case w57a => k_is); (case w57b => k_is); (case w57c => k_is); (case w57d => k_is)
      case d_is_condition => refine' We.mk_def KX G We.bd_is_condition ?w58a ?w58b ?w58c ?w58d; (case w58a => k_is); (case w58b => k_is); (case w58c => k_is); (case w58d => k_is)
      case d_even_condition_holds => refine' We.mk_def KX G We.bd_even_condition_holds ?w59a ?w59b ?w59c ?w59d; (case w59a => k_is); (case w59b => k_is); (case w59c => k_is); (case w59d => k_is)
      case d_condition_holds => refine' We.mk_def KX G We.bd_condition_holds ?w60a ?w60b ?w60c ?w60d; (case w60a => k_is); (case w60b => k_is); (case w60c => k_is); (case w60d => k_is)
      case d_fits_with_sign => refine' We.mk_def KX G We.bd_fits_with_sign ?w61a ?w61b ?w61c ?w61d; (case w61a => k_is); (case w61b => k_is); (case w61c => k_is); (case w61d => k_is)
      case d_sum_flags => refine' We.mk_def KX G We.bd_sum_flags ?w62a ?w62b ?w62c ?w62d; (case w62a => k_is); (case w62b => k_is); (case w62c => k_is); (case w62d => k_is)
      case d_difference_flags => refine' We.mk_def KX G We.bd_difference_flags ?w63a ?w63b ?w63c ?w63d; (case w63a => k_is); (case w63b => k_is); (case w63c => k_is); (case w63d => k_is)
      case d_move => refine' We.mk_def KX G We.bd_move ?w64a ?w64b ?w64c ?w64d; (case w64a => k_is); (case w64b => k_is); (case w64c => k_is); (case w64d => k_is)
      case d_add => refine' We.mk_def KX G We.bd_add ?w65a ?w65b ?w65c ?w65d; (case w65a => k_is); (case w65b => k_is); (case w65c => k_is); (case w65d => k_is)
      case d_add_with_carry => refine' We.mk_def KX G We.bd_add_with_carry ?w66a ?w66b ?w66c ?w66d; (case w66a => k_is); (case w66b => k_is); (case w66c => k_is); (case w66d => k_is)
      case d_subtract => refine' We.mk_def KX G We.bd_subtract ?w67a ?w67b ?w67c ?w67d; (case w67a => k_is); (case w67b => k_is); (case w67c => k_is); (case w67d => k_is)
      case d_subtract_with_borrow => refine' We.mk_def KX G We.bd_subtract_with_borrow ?w68a ?w68b ?w68c ?w68d; (case w68a => k_is); (case w68b => k_is); (case w68c => k_is); (case w68d => k_is)
      case d_compare => refine' We.mk_def KX G We.bd_compare ?w69a ?w69b ?w69c ?w69d; (case w69a => k_is); (case w69b => k_is); (case w69c => k_is); (case w69d => k_is)
      case d_bits_of_both => refine' We.mk_def KX G We.bd_bits_of_both ?w70a ?w70b ?w70c ?w70d; (case w70a => k_is); (case w70b => k_is); (case w70c => k_is); (case w70d => k_is)
      case d_bits_of_either => refine' We.mk_def KX G We.bd_bits_of_either ?w71a ?w71b ?w71c ?w71d; (case w71a => k_is); (case w71b => k_is); (case w71c => k_is); (case w71d => k_is)
      case d_bits_of_one_alone => refine' We.mk_def KX G We.bd_bits_of_one_alone ?w72a ?w72b ?w72c ?w72d; (case w72a => k_is); (case w72b => k_is); (case w72c => k_is); (case w72d => k_is)
      case d_bits_of_both_asked => refine' We.mk_def KX G We.bd_bits_of_both_asked ?w73a ?w73b ?w73c ?w73d; (case w73a => k_is); (case w73b => k_is); (case w73c => k_is); (case w73d => k_is)
      case d_one_more => refine' We.mk_def KX G We.bd_one_more ?w74a ?w74b ?w74c ?w74d; (case w74a => k_is); (case w74b => k_is); (case w74c => k_is); (case w74d => k_is)
      case d_one_less => refine' We.mk_def KX G We.bd_one_less ?w75a ?w75b ?w75c ?w75d; (case w75a => k_is); (case w75b => k_is); (case w75c => k_is); (case w75d => k_is)
      case d_negate => refine' We.mk_def KX G We.bd_negate ?w76a ?w76b ?w76c ?w76d; (case w76a => k_is); (case w76b => k_is); (case w76c => k_is); (case w76d => k_is)
      case d_opposite_bits => refine' We.mk_def KX G We.bd_opposite_bits ?w77a ?w77b ?w77c ?w77d; (case w77a => k_is); (case w77b => k_is); (case w77c => k_is); (case w77d => k_is)
      case d_computed => refine' We.mk_def KX G We.bd_computed ?w78a ?w78b ?w78c ?w78d; (case w78a => k_is); (case w78b => k_is); (case w78c => k_is); (case w78d => k_is)
      case d_move_if => refine' We.mk_def KX G We.bd_move_if ?w79a ?w79b ?w79c ?w79d; (case w79a => k_is); (case w79b => k_is); (case w79c => k_is); (case w79d => k_is)
      case d_truth => refine' We.mk_def KX G We.bd_truth ?w80a ?w80b ?w80c ?w80d; (case w80a => k_is); (case w80b => k_is); (case w80c => k_is); (case w80d => k_is)
      case d_low_bytes_with_sign => refine' We.mk_def KX G We.bd_low_bytes_with_sign ?w81a ?w81b ?w81c ?w81d; (case w81a => k_is); (case w81b => k_is); (case w81c => k_is); (case w81d => k_is)
      case d_widened => refine' We.mk_def KX G We.bd_widened ?w82a ?w82b ?w82c ?w82d; (case w82a => k_is); (case w82b => k_is); (case w82c => k_is); (case w82d => k_is)
      case d_widened_with_sign => refine' We.mk_def KX G We.bd_widened_with_sign ?w83a ?w83b ?w83c ?w83d; (case w83a => k_is); (case w83b => k_is); (case w83c => k_is); (case w83d => k_is)
      case d_widened_with_flags => refine' We.mk_def KX G We.bd_widened_with_flags ?w84a ?w84b ?w84c ?w84d; (case w84a => k_is); (case w84b => k_is); (case w84c => k_is); (case w84d => k_is)
      case d_moved => refine' We.mk_def KX G We.bd_moved ?w85a ?w85b ?w85c ?w85d; (case w85a => k_is); (case w85b => k_is); (case w85c => k_is); (case w85d => k_is)
      case d_is_pair_operation => refine' We.mk_def KX G We.bd_is_pair_operation ?w86a ?w86b ?w86c ?w86d; (case w86a => k_is); (case w86b => k_is); (case w86c => k_is); (case w86d => k_is)
      case d_understood => refine' We.mk_def KX G We.bd_understood ?w87a ?w87b ?w87c ?w87d; (case w87a => k_is); (case w87b => k_is); (case w87c => k_is); (case w87d => k_is)
      case d_multiply => refine' We.mk_def KX G We.bd_multiply ?w88a ?w88b ?w88c ?w88d; (case w88a => k_is); (case w88b => k_is); (case w88c => k_is); (case w88d => k_is)
      case d_quotient_toward_0 => refine' We.mk_def KX G We.bd_quotient_toward_0 ?w89a ?w89b ?w89c ?w89d; (case w89a => k_is); (case w89b => k_is); (case w89c => k_is); (case w89d => k_is)
      case d_divide => refine' We.mk_def KX G We.bd_divide ?w90a ?w90b ?w90c ?w90d; (case w90a => k_is); (case w90b => k_is); (case w90c => k_is); (case w90d => k_is)
      case d_exchange => refine' We.mk_def KX G We.bd_exchange ?w91a ?w91b ?w91c ?w91d; (case w91a => k_is); (case w91b => k_is); (case w91c => k_is); (case w91d => k_is)
      case d_exchange_and_add => refine' We.mk_def KX G We.bd_exchange_and_add ?w92a ?w92b ?w92c ?w92d; (case w92a => k_is); (case w92b => k_is); (case w92c => k_is); (case w92d => k_is)
      case d_compare_and_exchange => refine' We.mk_def KX G We.bd_compare_and_exchange ?w93a ?w93b ?w93c ?w93d; (case w93a => k_is); (case w93b => k_is); (case w93c => k_is); (case w93d => k_is)
      case d_perform_pair => refine' We.mk_def KX G We.bd_perform_pair ?w94a ?w94b ?w94c ?w94d; (case w94a => k_is); (case w94b => k_is); (case w94c => k_is); (case w94d => k_is)
      case d_lowest_one => refine' We.mk_def KX G We.bd_lowest_one ?w95a ?w95b ?w95c ?w95d; (case w95a => k_is); (case w95b => k_is); (case w95c => k_is); (case w95d => k_is)
      case d_highest_one => refine' We.mk_def KX G We.bd_highest_one ?w96a ?w96b ?w96c ?w96d; (case w96a => k_is); (case w96b => k_is); (case w96c => k_is); (case w96d => k_is)
      case d_number_of_ones => refine' We.mk_def KX G We.bd_number_of_ones ?w97a ?w97b ?w97c ?w97d; (case w97a => k_is); (case w97b => k_is); (case w97c => k_is); (case w97d => k_is)
      case d_bytes_turned_round => refine' We.mk_def KX G We.bd_bytes_turned_round ?w98a ?w98b ?w98c ?w98d; (case w98a => k_is); (case w98b => k_is); (case w98c => k_is); (case w98d => k_is)
      case d_bit_told => refine' We.mk_def KX G We.bd_bit_told ?w99a ?w99b ?w99c ?w99d; (case w99a => k_is); (case w99b => k_is); (case w99c => k_is); (case w99d => k_is)
      case d_bit_asked => refine' We.mk_def KX G We.bd_bit_asked ?w100a ?w100b ?w100c ?w100d; (case w100a => k_is); (case w100b => k_is); (case w100c => k_is); (case w100d => k_is)
      case d_bit_set => refine' We.mk_def KX G We.bd_bit_set ?w101a ?w101b ?w101c ?w101d; (case w101a => k_is); (case w101b => k_is); (case w101c => k_is); (case w101d => k_is)
      case d_bit_cleared => refine' We.mk_def KX G We.bd_bit_cleared ?w102a ?w102b ?w102c ?w102d; (case w102a => k_is); (case w102b => k_is); (case w102c => k_is); (case w102d => k_is)
      case d_bit_changed => refine' We.mk_def KX G We.bd_bit_changed ?w103a ?w103b ?w103c ?w103d; (case w103a => k_is); (case w103b => k_is); (case w103c => k_is); (case w103d => k_is)
      case d_placed => refine' We.mk_def KX G We.bd_placed ?w104a ?w104b ?w104c ?w104d; (case w104a => k_is); (case w104b => k_is); (case w104c => k_is); (case w104d => k_is)
      case d_shift_count => refine' We.mk_def KX G We.bd_shift_count ?w105a ?w105b ?w105c ?w105d; (case w105a => k_is); (case w105b => k_is); (case w105c => k_is); (case w105d => k_is)
      case d_shift_flags => refine' We.mk_def KX G We.bd_shift_flags ?w106a ?w106b ?w106c ?w106d; (case w106a => k_is); (case w106b => k_is); (case w106c => k_is); (case w106d => k_is)
      case d_turn_flags => refine' We.mk_def KX G We.bd_turn_flags ?w107a ?w107b ?w107c ?w107d; (case w107a => k_is); (case w107b => k_is); (case w107c => k_is); (case w107d => k_is)
      case d_two_highest_differ => refine' We.mk_def KX G We.bd_two_highest_differ ?w108a ?w108b ?w108c ?w108d; (case w108a => k_is); (case w108b => k_is); (case w108c => k_is); (case w108d => k_is)
      case d_turned_left => refine' We.mk_def KX G We.bd_turned_left ?w109a ?w109b ?w109c ?w109d; (case w109a => k_is); (case w109b => k_is); (case w109c => k_is); (case w109d => k_is)
      case d_left => refine' We.mk_def KX G We.bd_left ?w110a ?w110b ?w110c ?w110d; (case w110a => k_is); (case w110b => k_is); (case w110c => k_is); (case w110d => k_is)
      case d_right => refine' We.mk_def KX G We.bd_right ?w111a ?w111b ?w111c ?w111d; (case w111a => k_is); (case w111b => k_is); (case w111c => k_is); (case w111d => k_is)
      case d_right_with_sign => refine' We.mk_def KX G We.bd_right_with_sign ?w112a ?w112b ?w112c ?w112d; (case w112a => k_is); (case w112b => k_is); (case w112c => k_is); (case w112d => k_is)
      case d_turn_left => refine' We.mk_def KX G We.bd_turn_left ?w113a ?w113b ?w113c ?w113d; (case w113a => k_is); (case w113b => k_is); (case w113c => k_is); (case w113d => k_is)
      case d_turn_right => refine' We.mk_def KX G We.bd_turn_right ?w114a ?w114b ?w114c ?w114d; (case w114a => k_is); (case w114b => k_is); (case w114c => k_is); (case w114d => k_is)
      case d_turn_left_through_carry => refine' We.mk_def KX G We.bd_turn_left_through_carry ?w115a ?w115b ?w115c ?w115d; (case w115a => k_is); (case w115b => k_is); (case w115c => k_is); (case w115d => k_is)
      case d_turn_right_through_carry => refine' We.mk_def KX G We.bd_turn_right_through_carry ?w116a ?w116b ?w116c ?w116d; (case w116a => k_is); (case w116b => k_is); (case w116c => k_is); (case w116d => k_is)
      case d_fill_flags => refine' We.mk_def KX G We.bd_fill_flags ?w117a ?w117b ?w117c ?w117d; (case w117a => k_is); (case w117b => k_is); (case w117c => k_is); (case w117d => k_is)
      case d_left_filled => refine' We.mk_def KX G We.bd_left_filled ?w118a ?w118b ?w118c ?w118d; (case w118a => k_is); (case w118b => k_is); (case w118c => k_is); (case w118d => k_is)
      case d_right_filled => refine' We.mk_def KX G We.bd_right_filled ?w119a ?w119b ?w119c ?w119d; (case w119a => k_is); (case w119b => k_is); (case w119c => k_is); (case w119d => k_is)
      case d_shifted => refine' We.mk_def KX G We.bd_shifted ?w120a ?w120b ?w120c ?w120d; (case w120a => k_is); (case w120b => k_is); (case w120c => k_is); (case w120d => k_is)
      case d_outcome => refine' We.mk_def KX G We.bd_outcome ?w121a ?w121b ?w121c ?w121d; (case w121a => k_is); (case w121b => k_is); (case w121c => k_is); (case w121d => k_is)
      case d_perform => refine' We.mk_def KX G We.bd_perform ?w122a ?w122b ?w122c ?w122d; (case w122a => k_is); (case w122b => k_is); (case w122c => k_is); (case w122d => k_is)
      case d_is_place => refine' We.mk_def KX G We.bd_is_place ?w123a ?w123b ?w123c ?w123d; (case w123a => k_is); (case w123b => k_is); (case w123c => k_is); (case w123d => k_is)
      case d_is_refused_by_operation => refine' We.mk_def KX G We.bd_is_refused_by_operation ?w124a ?w124b ?w124c ?w124d; (case w124a => k_is); (case w124b => k_is); (case w124c => k_is); (case w124d => k_is)
      case d_is_refused => refine' We.mk_def KX G We.bd_is_refused ?w125a ?w125b ?w125c ?w125d; (case w125a => k_is); (case w125b => k_is); (case w125c => k_is); (case w125d => k_is)
      case d_init_Processor => refine' We.mk_init We.bd_init_Processor ?w126a ?w126i ?w126b ?w126c ?w126d ?w126e ?w126f; (case w126a => k_is); (case w126i => k_is); (case w126b => k_is); (case w126c => k_is); (case w126d => k_is); (case w126e => k_is); (case w126f => k_is)
      case d_low => refine' We.mk_meth We.bd_low ?w127a ?w127i ?w127b ?w127c ?w127d; (case w127a => k_is); (case w127i => k_is); (case w127b => k_is); (case w127c => k_is); (case w127d => k_is)
      case d_write => refine' We.mk_meth We.bd_write ?w128a ?w128i ?w128b ?w128c ?w128d; (case w128a => k_is); (case w128i => k_is); (case w128b => k_is); (case w128c => k_is); (case w128d => k_is)
      case d_operate => refine' We.mk_meth We.bd_operate ?w129a ?w129i ?w129b ?w129c ?w129d; (case w129a => k_is); (case w129i => k_is); (case w129b => k_is); (case w129c => k_is); (case w129d => k_is)
      case d_answer_set => refine' We.mk_def KX G We.bd_answer_set ?w130a ?w130b ?w130c ?w130d; (case w130a => k_is); (case w130b => k_is); (case w130c => k_is); (case w130d => k_is)
      case d_answer_get => refine' We.mk_def KX G We.bd_answer_get ?w131a ?w131b ?w131c ?w131d; (case w131a => k_is); (case w131b => k_is); (case w131c => k_is); (case w131d => k_is)
      case d_answer_put => refine' We.mk_def KX G We.bd_answer_put ?w132a ?w132b ?w132c ?w132d; (case w132a => k_is); (case w132b => k_is); (case w132c => k_is); (case w132d => k_is)
      case d_answer_holds => refine' We.mk_def KX G We.bd_answer_holds ?w133a ?w133b ?w133c ?w133d; (case w133a => k_is); (case w133b => k_is); (case w133c => k_is); (case w133d => k_is)
      case d_answer_run => refine' We.mk_def KX G We.bd_answer_run ?w134a ?w134b ?w134c ?w134d; (case w134a => k_is); (case w134b => k_is); (case w134c => k_is); (case w134d => k_is)
      case d_answer_call => refine' We.mk_def KX G We.bd_answer_call ?w135a ?w135b ?w135c ?w135d; (case w135a => k_is); (case w135b => k_is); (case w135c => k_is); (case w135d => k_is)
      case d_call_end => refine' We.mk_def KX G We.bd_call_end ?w136a ?w136b ?w136c ?w136d; (case w136a => k_is); (case w136b => k_is); (case w136c => k_is); (case w136d => k_is)
      case d_answers => refine' We.mk_def KX G We.bd_answers ?w137a ?w137b ?w137c ?w137d; (case w137a => k_is); (case w137b => k_is); (case w137c => k_is); (case w137d => k_is)
      case nb_len => refine' PySem.W.mg_none_of KX G ?w138q; (case w138q => k_is)
      case nb_range => refine' PySem.W.mg_none_of KX G ?w139q; (case w139q => k_is)
      case nb_abs => refine' PySem.W.mg_none_of KX G ?w140q; (case w140q => k_is)
      case nb_sum => refine' PySem.W.mg_none_of KX G ?w141q; (case w141q => k_is)
  case S =>
    intro K H xs a hO hwi hask hx
    cases hx with
    | cons h1 h2 =>
      cases h2
      cases h1 with
      | lst hs ha =>
        have e := L2.ints_dw a.1 _ ha
        subst e
        have q : ((Codec.inLen 0 16000 a.1 && a.1.all (Codec.inInt (-2147483648) 18446744073709551615)) && true) = true := hwi
        rw [Bool.and_eq_true, Bool.and_eq_true] at q
        exact ⟨_, a.1, rfl, We.fz_of hs hO, hask, (Codec.inNat_iff.mp q.1.1).2, fun H' p hp => .lst (L2.SqL.of hp) (L2.dw_ints _)⟩
#print axioms PySem.Challenge.cw_wholeops_s01_answers_holds
end
