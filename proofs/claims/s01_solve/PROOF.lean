import PyProof.Rows.All
import Wide.All
import OpenK.AllK
import Wide.FinOn
import Open.SpecLaws
import KE.OsGo
import HandS.ForSpec
import HandS.Comp
import HandS.Iter
import HandS.Walk
import HandS.Wide
import HandS.Deep
import HandS.Steps
import HandS.Evl
import PySem.Challenge.RW_slopesteps_s01_solve
set_option Elab.async false
namespace Sl
open AlBase (digits digitsFrom readDigits)
/-! ### digits -/
theorem df_step (f n : Nat) (l : List Nat) : digitsFrom (f + 1) n l = if n < 10 then (48 + n) :: l else digitsFrom f (n / 10) ((48 + n % 10) :: l) := rfl
theorem df_fuel : ∀ (n f g : Nat) (l : List Nat), n < f → n < g → digitsFrom f n l = digitsFrom g n [] ++ l := by
  intro n
  induction n using Nat.strongRecOn with
  | _ n ih =>
    intro f g l hf hg
    obtain ⟨f, rfl⟩ : ∃ k, f = k + 1 := ⟨f - 1, by omega⟩
    obtain ⟨g, rfl⟩ : ∃ k, g = k + 1 := ⟨g - 1, by omega⟩
    rw [df_step, df_step]
    by_cases h : n < 10
    · rw [if_pos h, if_pos h]; rfl
    · rw [if_neg h, if_neg h]
      have hq : n / 10 < n := by omega
      rw [ih _ hq f (n / 10 + 1) _ (by omega) (by omega), ih _ hq g (n / 10 + 1) [48 + n % 10] (by omega) (by omega)]
      simp
theorem digits_small {n : Nat} (h : n < 10) : digits n = [48 + n] := by
  show digitsFrom (n + 1) n [] = _
  rw [df_step, if_pos h]
theorem digits_big {n : Nat} (h : ¬ n < 10) : digits n = digits (n / 10) ++ [48 + n % 10] := by
  show digitsFrom (n + 1) n [] = digitsFrom (n / 10 + 1) (n / 10) [] ++ [48 + n % 10]
  rw [df_step, if_neg h]
  exact df_fuel _ _ _ _ (by omega) (by omega)
theorem digits_ind {P : Nat → Prop} (h0 : ∀ n, n < 10 → P n) (h1 : ∀ n, ¬ n < 10 → P (n / 10) → P n) (n : Nat) : P n := by
  induction n using Nat.strongRecOn with
  | _ n ih =>
    by_cases h : n < 10
    · exact h0 n h
    · exact h1 n h (ih _ (by omega))
theorem digits_mem (n : Nat) : ∀ b ∈ digits n, 48 ≤ b ∧ b ≤ 57 := by
  induction n using digits_ind with
  | h0 n h =>
    rw [digits_small h]; intro b hb
    rw [List.mem_singleton] at hb; omega
  | h1 n h ih =>
    rw [digits_big h]; intro b hb
    rw [List.mem_append, List.mem_singleton] at hb
    rcases hb with hb | hb
    · exact ih b hb
    · omega
theorem digits_ne (n : Nat) : digits n ≠ [] := by
  by_cases h : n < 10
  · rw [digits_small h]; simp
  · rw [digits_big h]; simp
theorem digits_val (n : Nat) : (digits n).foldl (fun (n b : Nat) => 10 * n + (b - 48)) 0 = n := by
  induction n using digits_ind with
  | h0 n h => rw [digits_small h]; simp
  | h1 n h ih =>
    rw [digits_big h, List.foldl_append, ih]
    simp only [List.foldl_cons, List.foldl_nil]
    omega
theorem readDigits_digits (n : Nat) : readDigits (digits n) = some n := by
  unfold readDigits
  rw [if_neg (digits_ne n), digits_val, if_neg]
  have : ((digits n).all fun (b : Nat) => decide (48 ≤ b) && decide (b ≤ 57)) = true := by
    rw [List.all_eq_true]
    intro b hb
    have := digits_mem n b hb
    simp; omega
  rw [this]; decide
theorem digits_one : digits 1 = [49] := rfl
theorem digits_len : ∀ n k : Nat, n < 10 ^ (k + 1) → (digits n).length ≤ k + 1 := by
  intro n
  induction n using digits_ind with
  | h0 n h => intro k _; rw [digits_small h]; simp
  | h1 n h ih =>
    intro k hk
    cases k with
    | zero => simp at hk; omega
    | succ k =>
      rw [digits_big h, List.length_append]
      have := ih k (by rw [Nat.pow_succ] at hk; omega)
      simp; omega
/-! ### the program's own reading and writing -/
structure Tm where
  p : Nat
  n : Int
  d : Nat
deriving DecidableEq
def splitGo : List Nat → Int → List Nat → List (Int × List Nat)
  | [], s, p => [(s, p)]
  | b :: r, s, p => if b = 43 ∨ b = 45 then (s, p) :: splitGo r (if b = 43 then 1 else -1) [] else if b = 32 then splitGo r s p else splitGo r s (p ++ [b])
def splitSigns (t : List Nat) : List (Int × List Nat) := if ((splitGo t 1 []).headD (1, [])).2 = [] then (splitGo t 1 []).tail else splitGo t 1 []
def readPower (w : List Nat) : Option Nat := if w = [120] then some 1 else if w.take 2 = [120, 94] then readDigits (w.drop 2) else none
def readFraction (w : List Nat) : Option (Nat × Nat) :=
  let b : Option Nat := if 47 ∈ w then readDigits (w.drop (w.idxOf 47 + 1)) else some 1
  let t : Option Nat := if 47 ∈ w then readDigits (w.take (w.idxOf 47)) else readDigits w
  match t, b with
  | some t, some b => if b = 0 then none else some (t, b)
  | _, _ => none
def readTerm (s : Int) (w : List Nat) : Option Tm :=
  let f : Option (Nat × Nat) := if 42 ∈ w then readFraction (w.take (w.idxOf 42)) else if 120 ∈ w then some (1, 1) else readFraction w
  let p : Option Nat := if 42 ∈ w then readPower (w.drop (w.idxOf 42 + 1)) else if 120 ∈ w then readPower w else some 0
  match f, p with
  | some f, some p => some ⟨p, s * f.1, f.2⟩
  | _, _ => none
def falls : List Tm → Bool
  | a :: b :: r => decide (b.p < a.p) && falls (b :: r)
  | _ => true
def lowest (t : Tm) : Tm := ⟨t.p, t.n / (Nat.gcd t.n.natAbs t.d : Nat), t.d / Nat.gcd t.n.natAbs t.d⟩
def wFrac (n d : Nat) : List Nat := if d = 1 then digits n else digits n ++ 47 :: digits d
def wPow (p : Nat) : List Nat := 120 :: (if p = 1 then [] else 94 :: digits p)
def wTerm (p n d : Nat) : List Nat := if p = 0 then wFrac n d else if n = 1 ∧ d = 1 then wPow p else wFrac n d ++ 42 :: wPow p
def wOne (t : Tm) : List Nat := 32 :: (if t.n < 0 then 45 else 43) :: 32 :: wTerm t.p t.n.natAbs t.d
def wRest (l : List Tm) : List Nat := l.flatMap wOne
def write : List Tm → List Nat
  | [] => [48]
  | t :: r => (if t.n < 0 then [45] else []) ++ wTerm t.p t.n.natAbs t.d ++ wRest r
def readAll (t : List Nat) : Option (List Tm) := (splitSigns t).mapM fun x => readTerm x.1 x.2
def keptOf (l : List Tm) : List Tm := (l.filter fun t => decide (t.n ≠ 0)).map lowest
def read (t : List Nat) : Option (List Tm) := match readAll t with
  | none => none
  | some l => if falls l = false then none else if write (keptOf l) ≠ t then none else some (keptOf l)
structure Good (t : Tm) : Prop where
  n0 : t.n ≠ 0
  d0 : 0 < t.d
  co : Nat.gcd t.n.natAbs t.d = 1
structure Valid (l : List Tm) : Prop where
  fall : l.Pairwise fun a b => b.p < a.p
  good : ∀ t ∈ l, Good t
end Sl
set_option Elab.async false
set_option linter.all false
namespace Sl
open AlBase (digits digitsFrom readDigits)
/-! ### what stands in a written term -/
def Plain (w : List Nat) : Prop := ∀ b ∈ w, b ≠ 43 ∧ b ≠ 45 ∧ b ≠ 32
theorem digits_not {n b : Nat} (h : b < 48 ∨ 57 < b) : b ∉ digits n := fun hb => by
  have := digits_mem n b hb; omega
theorem plain_digits (n : Nat) : Plain (digits n) := fun b hb => by
  have := digits_mem n b hb; omega
theorem Plain.append {u v : List Nat} (h : Plain u) (k : Plain v) : Plain (u ++ v) := fun b hb => by
  rcases List.mem_append.mp hb with hb | hb
  · exact h b hb
  · exact k b hb
theorem Plain.cons {b : Nat} {v : List Nat} (h : b ≠ 43 ∧ b ≠ 45 ∧ b ≠ 32) (k : Plain v) : Plain (b :: v) := fun c hc => by
  rcases List.mem_cons.mp hc with hc | hc
  · rw [hc]; exact h
  · exact k c hc
theorem Plain.nil : Plain [] := fun b hb => by cases hb
theorem plain_frac (n d : Nat) : Plain (wFrac n d) := by
  unfold wFrac
  split
  · exact plain_digits n
  · exact (plain_digits n).append (Plain.cons (by decide) (plain_digits d))
theorem plain_pow (p : Nat) : Plain (wPow p) := by
  unfold wPow
  refine Plain.cons (by decide) ?_
  split
  · exact Plain.nil
  · exact Plain.cons (by decide) (plain_digits p)
theorem plain_term (p n d : Nat) : Plain (wTerm p n d) := by
  unfold wTerm
  split
  · exact plain_frac n d
  · split
    · exact plain_pow p
    · exact (plain_frac n d).append (Plain.cons (by decide) (plain_pow p))
theorem frac_ne (n d : Nat) : wFrac n d ≠ [] := by
  unfold wFrac
  split
  · exact digits_ne n
  · simp
theorem pow_ne (p : Nat) : wPow p ≠ [] := by unfold wPow; simp
theorem term_ne (p n d : Nat) : wTerm p n d ≠ [] := by
  unfold wTerm
  split
  · exact frac_ne n d
  · split
    · exact pow_ne p
    · simp
/-! ### splitting -/
theorem go_plain : ∀ (w r : List Nat) (s : Int) (p : List Nat), Plain w → splitGo (w ++ r) s p = splitGo r s (p ++ w)
  | [], r, s, p, _ => by simp
  | b :: w, r, s, p, h => by
    have hb := h b (List.mem_cons_self ..)
    show (if b = 43 ∨ b = 45 then _ else if b = 32 then _ else splitGo (w ++ r) s (p ++ [b])) = _
    rw [if_neg (by omega), if_neg (by omega), go_plain w r s _ (fun c hc => h c (List.mem_cons_of_mem _ hc)), List.append_assoc]
    rfl
def sg (t : Tm) : Int := if t.n < 0 then -1 else 1
def wT (t : Tm) : List Nat := wTerm t.p t.n.natAbs t.d
theorem plain_wT (t : Tm) : Plain (wT t) := plain_term _ _ _
theorem wT_ne (t : Tm) : wT t ≠ [] := term_ne _ _ _
theorem go_rest : ∀ (l : List Tm) (s : Int) (p : List Nat), splitGo (wRest l) s p = (s, p) :: l.map fun t => (sg t, wT t)
  | [], s, p => rfl
  | t :: l, s, p => by
    have ih := go_rest l
    have e : wRest (t :: l) = 32 :: (if t.n < 0 then 45 else 43) :: 32 :: (wT t ++ wRest l) := rfl
    rw [e]
    show splitGo ((if t.n < 0 then 45 else 43) :: 32 :: (wT t ++ wRest l)) s p = _
    by_cases h : t.n < 0
    · rw [if_pos h]
      show (s, p) :: splitGo (wT t ++ wRest l) (-1) [] = _
      rw [go_plain _ _ _ _ (plain_wT t), ih]
      simp [sg, h]
    · rw [if_neg h]
      show (s, p) :: splitGo (wT t ++ wRest l) 1 [] = _
      rw [go_plain _ _ _ _ (plain_wT t), ih]
      simp [sg, h]
theorem split_write (t : Tm) (l : List Tm) : splitSigns (write (t :: l)) = (t :: l).map fun t => (sg t, wT t) := by
  unfold splitSigns write
  by_cases h : t.n < 0
  · have e : splitGo ((if t.n < 0 then [45] else []) ++ wTerm t.p t.n.natAbs t.d ++ wRest l) 1 [] = (1, []) :: (-1, wT t) :: l.map fun t => (sg t, wT t) := by
      rw [if_pos h]
      show (1, []) :: splitGo (wT t ++ wRest l) (-1) [] = _
      rw [go_plain _ _ _ _ (plain_wT t), go_rest]
      simp
    rw [e]
    simp [sg, h]
  · have e : splitGo ((if t.n < 0 then [45] else []) ++ wTerm t.p t.n.natAbs t.d ++ wRest l) 1 [] = (1, wT t) :: l.map fun t => (sg t, wT t) := by
      rw [if_neg h]
      show splitGo (wT t ++ wRest l) 1 [] = _
      rw [go_plain _ _ _ _ (plain_wT t), go_rest]
      simp
    rw [e]
    simp [sg, h, wT_ne]
/-! ### a term read back -/
theorem idx_app {c : Nat} : ∀ (u v : List Nat), c ∉ u → (u ++ c :: v).idxOf c = u.length
  | [], v, _ => by simp
  | b :: u, v, h => by
    have hb : b ≠ c := fun e => h (by rw [e]; exact List.mem_cons_self ..)
    rw [List.cons_append, List.idxOf_cons, idx_app u v (fun k => h (List.mem_cons_of_mem _ k)), show (b == c) = false by simpa using hb]
    simp
theorem cut_l {c : Nat} (u v : List Nat) (h : c ∉ u) : (u ++ c :: v).take ((u ++ c :: v).idxOf c) = u := by
  rw [idx_app u v h]; simp
theorem cut_r {c : Nat} (u v : List Nat) (h : c ∉ u) : (u ++ c :: v).drop ((u ++ c :: v).idxOf c + 1) = v := by
  rw [idx_app u v h, ← List.drop_drop, List.drop_left]; rfl
theorem frac_back {n d : Nat} (hd : 0 < d) : readFraction (wFrac n d) = some (n, d) := by
  unfold readFraction wFrac
  by_cases h : d = 1
  · subst h
    simp [digits_not, readDigits_digits]
  · rw [if_neg h]
    have hm : 47 ∈ digits n ++ 47 :: digits d := by simp
    simp only [if_pos hm, cut_l _ _ (digits_not (n := n) (b := 47) (by decide)), cut_r _ _ (digits_not (n := n) (b := 47) (by decide)), readDigits_digits]
    rw [if_neg (by omega)]
theorem pow_back {p : Nat} (hp : 0 < p) : readPower (wPow p) = some p := by
  unfold readPower wPow
  by_cases h : p = 1
  · subst h; rfl
  · rw [if_neg h, if_neg (by simp), if_pos (by rfl)]
    show readDigits (digits p) = _
    exact readDigits_digits p
theorem frac_not {n d b : Nat} (h : b < 47 ∨ 57 < b) : b ∉ wFrac n d := by
  unfold wFrac
  split
  · exact digits_not (by omega)
  · intro hb
    rcases List.mem_append.mp hb with hb | hb
    · exact digits_not (by omega) hb
    · rcases List.mem_cons.mp hb with hb | hb
      · omega
      · exact digits_not (by omega) hb
theorem pow_not {p b : Nat} (h : b < 48) : b ∉ wPow p := by
  unfold wPow
  intro hb
  rcases List.mem_cons.mp hb with hb | hb
  · omega
  · split at hb
    · cases hb
    · rcases List.mem_cons.mp hb with hb | hb
      · omega
      · exact digits_not (by omega) hb
theorem readTerm_star {s : Int} {u v : List Nat} {f : Nat × Nat} {p : Nat} (h : 42 ∉ u) (hf : readFraction u = some f) (hp : readPower v = some p) : readTerm s (u ++ 42 :: v) = some ⟨p, s * f.1, f.2⟩ := by
  have hm : 42 ∈ u ++ 42 :: v := by simp
  unfold readTerm
  simp only [if_pos hm, cut_l _ _ h, cut_r _ _ h, hf, hp]
theorem readTerm_x {s : Int} {v : List Nat} {p : Nat} (h : 42 ∉ v) (hx : 120 ∈ v) (hp : readPower v = some p) : readTerm s v = some ⟨p, s * ((1 : Nat) : Int), 1⟩ := by
  unfold readTerm
  simp only [if_neg h, if_pos hx, hp]
theorem readTerm_n {s : Int} {u : List Nat} {f : Nat × Nat} (h : 42 ∉ u) (hx : 120 ∉ u) (hf : readFraction u = some f) : readTerm s u = some ⟨0, s * f.1, f.2⟩ := by
  unfold readTerm
  simp only [if_neg h, if_neg hx, hf]
theorem term_back {s : Int} {p n d : Nat} (hd : 0 < d) : readTerm s (wTerm p n d) = some ⟨p, s * n, d⟩ := by
  unfold wTerm
  by_cases h : p = 0
  · rw [if_pos h, h]
    exact readTerm_n (frac_not (by decide)) (frac_not (by decide)) (frac_back hd)
  · rw [if_neg h]
    by_cases k : n = 1 ∧ d = 1
    · rw [if_pos k, k.1, k.2]
      exact readTerm_x (pow_not (by decide)) (List.mem_cons_self ..) (pow_back (Nat.pos_of_ne_zero h))
    · rw [if_neg k]
      exact readTerm_star (frac_not (by decide)) (frac_back hd) (pow_back (Nat.pos_of_ne_zero h))
theorem sg_abs (t : Tm) : sg t * (t.n.natAbs : Nat) = t.n := by
  unfold sg
  split <;> omega
theorem mapM_some {α β : Type} {f : α → Option β} {g : β → α} : ∀ (l : List β), (∀ x ∈ l, f (g x) = some x) → (l.map g).mapM f = some l
  | [], _ => rfl
  | x :: l, h => by
    rw [List.map_cons, List.mapM_cons, h x (List.mem_cons_self ..), mapM_some l fun y hy => h y (List.mem_cons_of_mem _ hy)]
    rfl
theorem falls_iff : ∀ l : List Tm, falls l = true ↔ l.Pairwise fun a b => b.p < a.p
  | [] => by simp [falls]
  | [a] => by simp [falls]
  | a :: b :: r => by
    show (decide (b.p < a.p) && falls (b :: r)) = true ↔ _
    rw [Bool.and_eq_true, falls_iff (b :: r), decide_eq_true_iff]
    constructor
    · rintro ⟨h, k⟩
      refine List.Pairwise.cons (fun c hc => ?_) k
      rcases List.mem_cons.mp hc with hc | hc
      · rw [hc]; exact h
      · have := (List.pairwise_cons.mp k).1 c hc
        omega
    · intro h
      exact ⟨(List.pairwise_cons.mp h).1 b (List.mem_cons_self ..), (List.pairwise_cons.mp h).2⟩
theorem lowest_good {t : Tm} (h : Good t) : lowest t = t := by
  unfold lowest
  rw [h.co]
  cases t
  simp
theorem kept_valid {l : List Tm} (h : ∀ t ∈ l, Good t) : keptOf l = l := by
  unfold keptOf
  rw [List.filter_eq_self.mpr (fun t ht => by simpa using (h t ht).n0)]
  have := List.map_congr_left (f := lowest) (g := id) (l := l) fun t ht => lowest_good (h t ht)
  rw [this]; simp
theorem read_write {l : List Tm} (h : Valid l) : read (write l) = some l := by
  cases l with
  | nil => rfl
  | cons t r =>
    have e : readAll (write (t :: r)) = some (t :: r) := by
      unfold readAll
      rw [split_write]
      refine mapM_some (f := fun x => readTerm x.1 x.2) (g := fun t => (sg t, wT t)) (t :: r) fun x hx => ?_
      show readTerm (sg x) (wTerm x.p x.n.natAbs x.d) = some x
      rw [term_back (h.good x hx).d0, sg_abs]
    have k := kept_valid h.good
    unfold read
    rw [e]
    show (if falls (t :: r) = false then none else if write (keptOf (t :: r)) ≠ write (t :: r) then none else some (keptOf (t :: r))) = _
    rw [k, (falls_iff _).mpr h.fall]
    simp
/-! ### what is read is written so -/
theorem lowest_ok {t : Tm} (n0 : t.n ≠ 0) (d0 : 0 < t.d) : Good (lowest t) := by
  have g0 : 0 < Nat.gcd t.n.natAbs t.d := Nat.gcd_pos_of_pos_right _ d0
  have gn : Nat.gcd t.n.natAbs t.d ∣ t.n.natAbs := Nat.gcd_dvd_left _ _
  have gd : Nat.gcd t.n.natAbs t.d ∣ t.d := Nat.gcd_dvd_right _ _
  have gi : ((Nat.gcd t.n.natAbs t.d : Nat) : Int) ∣ t.n := Int.ofNat_dvd_left.mpr gn
  have ea : (t.n / ((Nat.gcd t.n.natAbs t.d : Nat) : Int)).natAbs = t.n.natAbs / Nat.gcd t.n.natAbs t.d := by
    rw [Int.natAbs_ediv_of_dvd gi]; simp
  have hn : 0 < t.n.natAbs / Nat.gcd t.n.natAbs t.d := Nat.div_pos (Nat.le_of_dvd (by omega) gn) g0
  refine ⟨?_, Nat.div_pos (Nat.le_of_dvd d0 gd) g0, ?_⟩
  · show t.n / ((Nat.gcd t.n.natAbs t.d : Nat) : Int) ≠ 0
    intro z
    rw [z] at ea
    simp at ea
    omega
  · show Nat.gcd (t.n / ((Nat.gcd t.n.natAbs t.d : Nat) : Int)).natAbs (t.d / Nat.gcd t.n.natAbs t.d) = 1
    rw [ea]
    exact Nat.coprime_div_gcd_div_gcd g0
theorem readTerm_d {s : Int} {w : List Nat} {t : Tm} (h : readTerm s w = some t) : 0 < t.d := by
  have hf : ∀ (w : List Nat) (x : Nat × Nat), readFraction w = some x → 0 < x.2 := by
    intro w x hx
    unfold readFraction at hx
    simp only at hx
    split at hx
    · split at hx
      · cases hx
      · cases hx; omega
    · cases hx
  unfold readTerm at h
  simp only at h
  split at h
  · rename_i f p e1 e2
    cases h
    show 0 < f.2
    split at e1
    · exact hf _ _ e1
    · split at e1
      · cases e1; decide
      · exact hf _ _ e1
  · cases h
theorem mapM_mem {α β : Type} {f : α → Option β} : ∀ {l : List α} {m : List β}, l.mapM f = some m → ∀ y ∈ m, ∃ x ∈ l, f x = some y
  | [], m, h, y, hy => by
    have : m = [] := by simpa using h.symm
    subst this; cases hy
  | x :: l, m, h, y, hy => by
    rw [List.mapM_cons] at h
    cases e : f x with
    | none => rw [e] at h; cases h
    | some z =>
      rw [e] at h
      cases e2 : l.mapM f with
      | none => rw [e2] at h; cases h
      | some r =>
        rw [e2] at h
        have : m = z :: r := by simpa using h.symm
        subst this
        rcases List.mem_cons.mp hy with hy | hy
        · exact ⟨x, List.mem_cons_self .., by rw [hy]; exact e⟩
        · obtain ⟨x', hx', e'⟩ := mapM_mem e2 y hy
          exact ⟨x', List.mem_cons_of_mem _ hx', e'⟩
theorem read_sound {t : List Nat} {l : List Tm} (h : read t = some l) : Valid l ∧ write l = t := by
  unfold read at h
  split at h
  · cases h
  · rename_i m e
    split at h
    · cases h
    · rename_i hf
      split at h
      · cases h
      · rename_i hw
        cases h
        have hw' : write (keptOf m) = t := Classical.byContradiction fun z => hw z
        refine ⟨⟨?_, ?_⟩, hw'⟩
        · have hp := (falls_iff m).mp (by cases q : falls m <;> simp_all)
          unfold keptOf
          rw [List.pairwise_map]
          exact hp.filter _
        · intro x hx
          obtain ⟨y, hy, rfl⟩ := List.mem_map.mp hx
          obtain ⟨hm, hn⟩ := List.mem_filter.mp hy
          obtain ⟨z, _, ez⟩ := mapM_mem (f := fun x : Int × List Nat => readTerm x.1 x.2) e y hm
          exact lowest_ok (by simpa using hn) (readTerm_d ez)
theorem read_iff {t : List Nat} {l : List Tm} : read t = some l ↔ Valid l ∧ write l = t :=
  ⟨read_sound, fun h => by rw [← h.2]; exact read_write h.1⟩
end Sl
set_option Elab.async false
set_option linter.all false
namespace Sl
open AlBase (Poly Mono)
/-! ### polynomials of the specification in the letter x alone -/
abbrev PX := List (Nat × Rat)
def mono (n : Nat) : Mono := if n = 0 then [] else [(23, n)]
def toP (l : PX) : Poly := l.map fun x => (mono x.1, x.2)
structure XC (l : PX) : Prop where
  fall : l.Pairwise fun a b => b.1 < a.1
  nz : ∀ x ∈ l, x.2 ≠ 0
theorem mono_inj {a b : Nat} (h : mono a = mono b) : a = b := by
  unfold mono at h
  split at h <;> split at h <;> simp_all
theorem mono_deg (n : Nat) : AlBase.degree (mono n) = n := by
  unfold mono AlBase.degree
  split <;> simp_all
theorem above_mono (a b : Nat) : AlBase.above (mono a) (mono b) = decide (b < a) := by
  unfold AlBase.above
  rw [mono_deg, mono_deg]
  by_cases h : a = b
  · rw [if_pos h, h]
    unfold mono
    split <;> simp [AlBase.earlier]
  · rw [if_neg h]
theorem times_mono (a b : Nat) : AlBase.times (mono a) (mono b) = mono (a + b) := by
  unfold AlBase.times mono
  by_cases h : b = 0
  · simp [h]
  · by_cases k : a = 0
    · simp [h, k, AlBase.put]
    · simp [h, k, AlBase.put]; omega
/-- a term put to it -/
def plusX (n : Nat) (c : Rat) : PX → PX
  | [] => if c = 0 then [] else [(n, c)]
  | (m, d) :: p => if c = 0 then (m, d) :: p else if n = m then (if c + d = 0 then p else (m, c + d) :: p) else if m < n then (n, c) :: (m, d) :: p else (m, d) :: plusX n c p
theorem plus_toP (n : Nat) (c : Rat) : ∀ l : PX, AlBase.plus (mono n) c (toP l) = toP (plusX n c l)
  | [] => by
    show (if c = 0 then [] else [(mono n, c)]) = toP (if c = 0 then [] else [(n, c)])
    split <;> rfl
  | (m, d) :: l => by
    show (if c = 0 then (mono m, d) :: toP l else if mono n = mono m then (if c + d = 0 then toP l else (mono m, c + d) :: toP l) else if AlBase.above (mono n) (mono m) = true then (mono n, c) :: (mono m, d) :: toP l else (mono m, d) :: AlBase.plus (mono n) c (toP l)) = toP (if c = 0 then (m, d) :: l else if n = m then (if c + d = 0 then l else (m, c + d) :: l) else if m < n then (n, c) :: (m, d) :: l else (m, d) :: plusX n c l)
    rw [plus_toP n c l, above_mono]
    by_cases h0 : c = 0
    · rw [if_pos h0, if_pos h0]; rfl
    · rw [if_neg h0, if_neg h0]
      by_cases h1 : n = m
      · rw [if_pos h1, if_pos (by rw [h1])]
        split <;> rfl
      · rw [if_neg h1, if_neg (fun e => h1 (mono_inj e))]
        by_cases h2 : m < n
        · rw [if_pos h2, if_pos (by simpa using h2)]; rfl
        · rw [if_neg h2, if_neg (by simpa using h2)]; rfl
theorem plusX_mem (n : Nat) (c : Rat) : ∀ (l : PX) (x : Nat × Rat), x ∈ plusX n c l → x.1 = n ∨ ∃ y ∈ l, y.1 = x.1
  | [], x, h => by
    unfold plusX at h
    split at h
    · cases h
    · rw [List.mem_singleton] at h; rw [h]; exact Or.inl rfl
  | (m, d) :: l, x, h => by
    unfold plusX at h
    split at h
    · exact Or.inr ⟨x, h, rfl⟩
    · split at h
      · split at h
        · exact Or.inr ⟨x, List.mem_cons_of_mem _ h, rfl⟩
        · rcases List.mem_cons.mp h with h | h
          · rw [h]; exact Or.inr ⟨(m, d), List.mem_cons_self .., rfl⟩
          · exact Or.inr ⟨x, List.mem_cons_of_mem _ h, rfl⟩
      · split at h
        · rcases List.mem_cons.mp h with h | h
          · rw [h]; exact Or.inl rfl
          · exact Or.inr ⟨x, h, rfl⟩
        · rcases List.mem_cons.mp h with h | h
          · rw [h]; exact Or.inr ⟨(m, d), List.mem_cons_self .., rfl⟩
          · rcases plusX_mem n c l x h with e | ⟨y, hy, e⟩
            · exact Or.inl e
            · exact Or.inr ⟨y, List.mem_cons_of_mem _ hy, e⟩
theorem XC.tail {x : Nat × Rat} {l : PX} (h : XC (x :: l)) : XC l := ⟨(List.pairwise_cons.mp h.fall).2, fun y hy => h.nz y (List.mem_cons_of_mem _ hy)⟩
theorem XC.head {x : Nat × Rat} {l : PX} (h : XC (x :: l)) : ∀ y ∈ l, y.1 < x.1 := (List.pairwise_cons.mp h.fall).1
theorem XC.cons {x : Nat × Rat} {l : PX} (h : XC l) (h1 : ∀ y ∈ l, y.1 < x.1) (h2 : x.2 ≠ 0) : XC (x :: l) := ⟨List.Pairwise.cons h1 h.fall, fun y hy => by
  rcases List.mem_cons.mp hy with hy | hy
  · rw [hy]; exact h2
  · exact h.nz y hy⟩
theorem XC.nil : XC [] := ⟨List.Pairwise.nil, fun _ h => by cases h⟩
theorem plusX_ok (n : Nat) (c : Rat) : ∀ (l : PX), XC l → XC (plusX n c l)
  | [], _ => by
    unfold plusX
    split
    · exact XC.nil
    · exact XC.nil.cons (fun _ h => by cases h) (by assumption)
  | (m, d) :: l, h => by
    unfold plusX
    split
    · exact h
    · split
      · split
        · exact h.tail
        · exact h.tail.cons h.head (by assumption)
      · split
        · refine h.cons (fun y hy => ?_) (by assumption)
          rcases List.mem_cons.mp hy with hy | hy
          · rw [hy]; assumption
          · have := h.head y hy
            show y.1 < n
            simp only at this; omega
        · refine (plusX_ok n c l h.tail).cons (fun y hy => ?_) (h.nz _ (List.mem_cons_self ..))
          show y.1 < m
          rcases plusX_mem n c l y hy with e | ⟨z, hz, e⟩
          · rw [e]; omega
          · rw [← e]; exact h.head z hz
def addX (p q : PX) : PX := q.foldl (fun s x => plusX x.1 x.2 s) p
theorem add_toP : ∀ (q p : PX), AlBase.add (toP p) (toP q) = toP (addX p q)
  | [], p => rfl
  | x :: q, p => by
    show AlBase.add (AlBase.plus (mono x.1) x.2 (toP p)) (toP q) = toP (addX (plusX x.1 x.2 p) q)
    rw [plus_toP, add_toP q]
theorem addX_ok : ∀ (q p : PX), XC p → XC (addX p q)
  | [], p, h => h
  | x :: q, p, h => addX_ok q (plusX x.1 x.2 p) (plusX_ok _ _ _ h)
/-- lower terms stand behind -/
theorem plusX_low {n : Nat} {c : Rat} (hc : c ≠ 0) : ∀ (l : PX), (∀ y ∈ l, n < y.1) → plusX n c l = l ++ [(n, c)]
  | [], _ => by unfold plusX; rw [if_neg hc]; rfl
  | (m, d) :: l, h => by
    have hm : n < m := h (m, d) (List.mem_cons_self ..)
    unfold plusX
    rw [if_neg hc, if_neg (by omega), if_neg (by omega), plusX_low hc l fun y hy => h y (List.mem_cons_of_mem _ hy)]
    rfl
def scaleX (c : Rat) (p : PX) : PX := if c = 0 then [] else p.map fun x => (x.1, c * x.2)
theorem scale_toP (c : Rat) (p : PX) : AlBase.scale c (toP p) = toP (scaleX c p) := by
  unfold AlBase.scale scaleX toP
  split
  · rfl
  · rw [List.map_map, List.map_map]; rfl
theorem scaleX_ok {c : Rat} {p : PX} (h : XC p) : XC (scaleX c p) := by
  unfold scaleX
  split
  · exact XC.nil
  · rename_i hc
    refine ⟨?_, ?_⟩
    · rw [List.pairwise_map]; exact h.fall
    · intro x hx
      obtain ⟨y, hy, rfl⟩ := List.mem_map.mp hx
      exact fun z => (Rat.mul_eq_zero.mp z).elim hc (h.nz y hy)
def shiftX (n : Nat) (p : PX) : PX := p.map fun x => (n + x.1, x.2)
theorem termTimes_toP (n : Nat) (c : Rat) (p : PX) : AlBase.termTimes (mono n, c) (toP p) = toP (shiftX n (scaleX c p)) := by
  unfold AlBase.termTimes
  rw [scale_toP]
  unfold toP shiftX
  rw [List.map_map, List.map_map]
  refine List.map_congr_left fun x _ => ?_
  show (AlBase.times (mono n) (mono x.1), x.2) = _
  rw [times_mono]; rfl
def mulX (p q : PX) : PX := p.foldl (fun s x => addX s (shiftX x.1 (scaleX x.2 q))) []
theorem mulGo_toP (q : PX) : ∀ (p s : PX), (toP p).foldl (fun (s : Poly) (x : Mono × Rat) => AlBase.add s (AlBase.termTimes x (toP q))) (toP s) = toP (p.foldl (fun s x => addX s (shiftX x.1 (scaleX x.2 q))) s)
  | [], s => rfl
  | x :: p, s => by
    show (toP p).foldl _ (AlBase.add (toP s) (AlBase.termTimes (mono x.1, x.2) (toP q))) = _
    rw [termTimes_toP, add_toP, mulGo_toP q p]
    rfl
theorem mul_toP (p q : PX) : AlBase.mul (toP p) (toP q) = toP (mulX p q) := mulGo_toP q p []
theorem mulGo_ok (q : PX) : ∀ (p s : PX), XC s → XC (p.foldl (fun s x => addX s (shiftX x.1 (scaleX x.2 q))) s)
  | [], s, h => h
  | x :: p, s, h => mulGo_ok q p _ (addX_ok _ _ h)
theorem mulX_ok (p q : PX) : XC (mulX p q) := mulGo_ok q p [] XC.nil
/-- read off a text without another letter: the polynomial is one in x -/
def IsX (p : Poly) : Prop := ∃ l : PX, p = toP l ∧ XC l
theorem IsX.mul {p q : Poly} (h : IsX p) (k : IsX q) : IsX (AlBase.mul p q) := by
  obtain ⟨l, rfl, _⟩ := h
  obtain ⟨m, rfl, _⟩ := k
  exact ⟨_, mul_toP l m, mulX_ok l m⟩
theorem IsX.add {p q : Poly} (h : IsX p) (k : IsX q) : IsX (AlBase.add p q) := by
  obtain ⟨l, rfl, h⟩ := h
  obtain ⟨m, rfl, _⟩ := k
  exact ⟨_, add_toP m l, addX_ok _ _ h⟩
theorem IsX.scale {c : Rat} {p : Poly} (h : IsX p) : IsX (AlBase.scale c p) := by
  obtain ⟨l, rfl, h⟩ := h
  exact ⟨_, scale_toP c l, scaleX_ok h⟩
theorem IsX.neg {p : Poly} (h : IsX p) : IsX (AlBase.neg p) := h.scale
theorem IsX.sub {p q : Poly} (h : IsX p) (k : IsX q) : IsX (AlBase.sub p q) := h.add k.neg
theorem IsX.const (c : Rat) : IsX (AlBase.const c) := by
  refine ⟨plusX 0 c [], plus_toP 0 c [], plusX_ok _ _ _ XC.nil⟩
theorem IsX.one : IsX AlBase.one := ⟨[(0, 1)], rfl, XC.nil.cons (fun _ h => by cases h) (by decide)⟩
theorem IsX.pw {n : Nat} (h : n ≠ 0) : IsX [([(23, n)], 1)] := ⟨[(n, 1)], by simp [toP, mono, h], XC.nil.cons (fun _ h => by cases h) (by show (1 : Rat) ≠ 0; decide)⟩
/-! ### texts that have no other letter -/
def OnlyX (t : List Nat) : Prop := ∀ b ∈ t, 97 ≤ b → b ≤ 122 → b = 120
theorem split_mem (sep : Nat) : ∀ (t : List Nat) (w : List Nat), w ∈ AlBase.split sep t → ∀ b ∈ w, b ∈ t
  | [], w, hw, b, hb => by
    rw [show AlBase.split sep [] = [[]] from rfl, List.mem_singleton] at hw
    rw [hw] at hb; cases hb
  | c :: t, w, hw, b, hb => by
    have ih := split_mem sep t
    unfold AlBase.split at hw
    split at hw
    · rcases List.mem_cons.mp hw with hw | hw
      · rw [hw] at hb; cases hb
      · exact List.mem_cons_of_mem _ (ih w hw b hb)
    · split at hw
      · rename_i e
        rw [List.mem_singleton] at hw
        rw [hw, List.mem_singleton] at hb
        rw [hb]; exact List.mem_cons_self ..
      · rename_i u r e
        rcases List.mem_cons.mp hw with hw | hw
        · rw [hw] at hb
          rcases List.mem_cons.mp hb with hb | hb
          · rw [hb]; exact List.mem_cons_self ..
          · exact List.mem_cons_of_mem _ (ih u (by rw [e]; exact List.mem_cons_self ..) b hb)
        · exact List.mem_cons_of_mem _ (ih w (by rw [e]; exact List.mem_cons_of_mem _ hw) b hb)
theorem OnlyX.split {t : List Nat} (h : OnlyX t) {sep : Nat} {w : List Nat} (hw : w ∈ AlBase.split sep t) : OnlyX w := fun b hb => h b (split_mem sep t w hw b hb)
theorem readLetter_x {w : List Nat} (h : OnlyX w) {a : Nat} (e : AlBase.readLetter w = some a) : a = 23 := by
  unfold AlBase.readLetter at e
  split at e
  · rename_i b
    split at e
    · rename_i k
      have := h b (List.mem_cons_self ..) k.1 k.2
      cases e; omega
    · cases e
  · cases e
theorem readFactor_x {w : List Nat} (h : OnlyX w) {p : Poly} (e : AlBase.readFactor w = some p) : IsX p := by
  unfold AlBase.readFactor at e
  split at e
  · rename_i l es
    have hl : OnlyX l := h.split (sep := 94) (by rw [es]; exact List.mem_cons_self ..)
    split at e
    · rename_i a ea
      have := readLetter_x hl ea
      subst this
      cases e
      exact IsX.pw (by decide)
    · cases er : AlBase.readNumber l with
      | none => rw [er] at e; cases e
      | some c => rw [er] at e; cases e; exact IsX.const c
  · rename_i l x es
    have hl : OnlyX l := h.split (sep := 94) (by rw [es]; exact List.mem_cons_self ..)
    cases ea : AlBase.readLetter l with
    | none => rw [ea] at e; cases e
    | some a =>
      have := readLetter_x hl ea
      subst this
      rw [ea] at e
      cases ed : AlBase.readDigits x with
      | none => rw [ed] at e; cases e
      | some n =>
        rw [ed] at e
        have e' : p = if n = 0 then AlBase.one else [([(23, n)], 1)] := by simpa using e.symm
        rw [e']
        split
        · exact IsX.one
        · exact IsX.pw (by assumption)
  · cases e
theorem foldl_mul_x : ∀ (l : List Poly) (s : Poly), (∀ p ∈ l, IsX p) → IsX s → IsX (l.foldl AlBase.mul s)
  | [], s, _, h => h
  | p :: l, s, k, h => foldl_mul_x l _ (fun q hq => k q (List.mem_cons_of_mem _ hq)) (h.mul (k p (List.mem_cons_self ..)))
theorem readTerm_x' {w : List Nat} (h : OnlyX w) {p : Poly} (e : AlBase.readTerm w = some p) : IsX p := by
  unfold AlBase.readTerm at e
  cases em : (AlBase.split 42 w).mapM AlBase.readFactor with
  | none => rw [em] at e; cases e
  | some l =>
    rw [em] at e
    cases e
    refine foldl_mul_x l _ (fun q hq => ?_) IsX.one
    obtain ⟨v, hv, ev⟩ := mapM_mem em q hq
    exact readFactor_x (h.split hv) ev
theorem readMore_x : ∀ (l : List (List Nat)) (s p : Poly), (∀ w ∈ l, OnlyX w) → IsX s → AlBase.readMore s l = some p → IsX p
  | [], s, p, _, h, e => by cases e; exact h
  | [_], s, p, _, h, e => by simp [AlBase.readMore] at e
  | sign :: w :: l, s, p, k, h, e => by
    unfold AlBase.readMore at e
    have kw : OnlyX w := k w (by simp)
    have kl : ∀ w ∈ l, OnlyX w := fun v hv => k v (by simp [hv])
    split at e
    · cases er : AlBase.readTerm w with
      | none => rw [er] at e; cases e
      | some q => rw [er] at e; exact readMore_x l _ p kl (h.add (readTerm_x' kw er)) e
    · split at e
      · cases er : AlBase.readTerm w with
        | none => rw [er] at e; cases e
        | some q => rw [er] at e; exact readMore_x l _ p kl (h.sub (readTerm_x' kw er)) e
      · cases e
theorem readSum_x {t : List Nat} (h : OnlyX t) {p : Poly} (e : AlBase.readSum t = some p) : IsX p := by
  unfold AlBase.readSum at e
  split at e
  · cases e
  · rename_i w l es
    have hw : OnlyX w := h.split (sep := 32) (by rw [es]; exact List.mem_cons_self ..)
    have hl : ∀ v ∈ l, OnlyX v := fun v hv => h.split (sep := 32) (by rw [es]; exact List.mem_cons_of_mem _ hv)
    split at e
    · cases er : AlBase.readTerm w.tail with
      | none => rw [er] at e; cases e
      | some q =>
        rw [er] at e
        exact readMore_x l _ p hl (readTerm_x' (fun b hb => hw b (List.mem_of_mem_tail hb)) er).neg e
    · cases er : AlBase.readTerm w with
      | none => rw [er] at e; cases e
      | some q =>
        rw [er] at e
        exact readMore_x l _ p hl (readTerm_x' hw er) e
end Sl
set_option Elab.async false
set_option linter.all false
namespace Sl
open AlBase (Poly Mono digits readDigits)
/-! ### fractions as they are written -/
theorem num_neg {c : Rat} : c < 0 ↔ c.num < 0 := by
  have h := Rat.num_nonneg (q := c)
  constructor
  · intro k
    exact Int.not_le.mp fun z => Rat.not_le.mpr k (h.mp z)
  · intro k
    exact Rat.not_le.mp fun z => by have := h.mpr z; omega
theorem rat_of {n : Int} {d : Nat} (hd : 0 < d) (h : Nat.gcd n.natAbs d = 1) : ((n : Rat) / (d : Rat)).num = n ∧ ((n : Rat) / (d : Rat)).den = d := by
  have e : (n : Rat) / (d : Rat) = ⟨n, d, by omega, h⟩ := by
    rw [Rat.mk_eq_mkRat, Rat.mkRat_eq_div]
  rw [e]; exact ⟨rfl, rfl⟩
theorem rat_self (c : Rat) : (c.num : Rat) / (c.den : Rat) = c := by
  have := Rat.mkRat_self c
  rw [Rat.mkRat_eq_div] at this
  exact this
def tm (x : Nat × Rat) : Tm := ⟨x.1, x.2.num, x.2.den⟩
def xr (t : Tm) : Nat × Rat := (t.p, (t.n : Rat) / (t.d : Rat))
theorem xr_tm (x : Nat × Rat) : xr (tm x) = x := by
  unfold xr tm
  rw [rat_self]
theorem tm_xr {t : Tm} (h : Good t) : tm (xr t) = t := by
  unfold xr tm
  have := rat_of h.d0 h.co
  cases t
  simp_all
theorem tm_good {x : Nat × Rat} (h : x.2 ≠ 0) : Good (tm x) := ⟨fun z => h (Rat.num_eq_zero.mp z), x.2.den_pos, x.2.reduced⟩
theorem xr_nz {t : Tm} (h : Good t) : (xr t).2 ≠ 0 := fun z => by
  have e := rat_of h.d0 h.co
  have : ((t.n : Rat) / (t.d : Rat)) = 0 := z
  rw [this] at e
  exact h.n0 e.1.symm
theorem valid_xc {l : List Tm} (h : Valid l) : XC (l.map xr) := ⟨by rw [List.pairwise_map]; exact h.fall, fun x hx => by
  obtain ⟨t, ht, rfl⟩ := List.mem_map.mp hx
  exact xr_nz (h.good t ht)⟩
theorem xc_valid {l : PX} (h : XC l) : Valid (l.map tm) := ⟨by rw [List.pairwise_map]; exact h.fall, fun x hx => by
  obtain ⟨t, ht, rfl⟩ := List.mem_map.mp hx
  exact tm_good (h.nz t ht)⟩
theorem tm_xr_all {l : List Tm} (h : ∀ t ∈ l, Good t) : (l.map xr).map tm = l := by
  rw [List.map_map]
  have := List.map_congr_left (f := tm ∘ xr) (g := id) (l := l) fun t ht => tm_xr (h t ht)
  rw [this]; simp
/-! ### the specification's text is the program's -/
theorem number_text {c : Rat} (h : 0 ≤ c.num) : AlBase.numberText c = wFrac c.num.natAbs c.den := by
  unfold AlBase.numberText wFrac
  have e : c.num.toNat = c.num.natAbs := by omega
  rw [e]
  split <;> simp
theorem mono_text {n : Nat} (h : n ≠ 0) : AlBase.monoText (mono n) = wPow n := by
  unfold AlBase.monoText mono wPow
  rw [if_neg h]
  simp [AlBase.join]
theorem one_iff {c : Rat} : c = 1 ↔ c.num = 1 ∧ c.den = 1 := by
  constructor
  · intro h; rw [h]; exact ⟨rfl, rfl⟩
  · intro h; exact Rat.ext h.1 h.2
theorem term_text {n : Nat} {c : Rat} (h : 0 ≤ c.num) : AlBase.termText (mono n) c = wTerm n c.num.natAbs c.den := by
  unfold AlBase.termText wTerm
  by_cases hn : n = 0
  · rw [if_pos (by rw [hn]; rfl), if_pos hn, number_text h]
  · have : mono n ≠ [] := by unfold mono; rw [if_neg hn]; simp
    rw [if_neg this, if_neg hn, mono_text hn, number_text h]
    by_cases k : c = 1
    · rw [if_pos k, if_pos]
      have := one_iff.mp k
      omega
    · rw [if_neg k, if_neg]
      intro z
      exact k (one_iff.mpr (by omega))
theorem more_text (x : Nat × Rat) : AlBase.moreText (mono x.1, x.2) = wOne (tm x) := by
  unfold AlBase.moreText wOne tm
  by_cases h : x.2 < 0
  · have hn := num_neg.mp h
    rw [if_pos h, if_pos hn, term_text (c := -x.2) (by rw [Rat.neg_num]; omega), Rat.neg_num, Rat.neg_den, Int.natAbs_neg]
    rfl
  · have hn : ¬ x.2.num < 0 := fun z => h (num_neg.mpr z)
    rw [if_neg h, if_neg hn, term_text (c := x.2) (by omega)]
    rfl
theorem text_write : ∀ l : PX, AlBase.text (toP l) = write (l.map tm)
  | [] => rfl
  | x :: l => by
    have e : (toP l).flatMap AlBase.moreText = wRest (l.map tm) := by
      unfold toP wRest
      rw [List.flatMap_map, List.flatMap_map]
      congr 1
      funext y
      exact more_text y
    show (if x.2 < 0 then 45 :: AlBase.termText (mono x.1) (-x.2) else AlBase.termText (mono x.1) x.2) ++ (toP l).flatMap AlBase.moreText = (if x.2.num < 0 then [45] else []) ++ wTerm x.1 x.2.num.natAbs x.2.den ++ wRest (l.map tm)
    rw [e]
    by_cases h : x.2 < 0
    · have hn := num_neg.mp h
      rw [if_pos h, if_pos hn, term_text (by rw [Rat.neg_num]; omega), Rat.neg_num, Rat.neg_den, Int.natAbs_neg]
      rfl
    · have hn : ¬ x.2.num < 0 := fun z => h (num_neg.mpr z)
      rw [if_neg h, if_neg hn, term_text (by omega)]
      rfl
/-! ### the specification reads what is written -/
theorem split_no {c : Nat} : ∀ w : List Nat, c ∉ w → AlBase.split c w = [w]
  | [], _ => rfl
  | b :: w, h => by
    have hb : b ≠ c := fun e => h (by rw [e]; exact List.mem_cons_self ..)
    unfold AlBase.split
    rw [if_neg hb, split_no w fun k => h (List.mem_cons_of_mem _ k)]
theorem split_at {c : Nat} : ∀ (w r : List Nat), c ∉ w → AlBase.split c (w ++ c :: r) = w :: AlBase.split c r
  | [], r, _ => by
    show AlBase.split c (c :: r) = _
    rw [AlBase.split, if_pos rfl]
  | b :: w, r, h => by
    have hb : b ≠ c := fun e => h (by rw [e]; exact List.mem_cons_self ..)
    show AlBase.split c (b :: (w ++ c :: r)) = _
    rw [AlBase.split, if_neg hb, split_at w r fun k => h (List.mem_cons_of_mem _ k)]
theorem readNumber_frac {n d : Nat} (hd : 0 < d) : AlBase.readNumber (wFrac n d) = some ((n : Rat) / (d : Rat)) := by
  unfold AlBase.readNumber wFrac
  by_cases h : d = 1
  · rw [if_pos h, split_no _ (digits_not (by decide))]
    simp only [readDigits_digits]
    rw [h]
    show some ((n : Nat) : Rat) = some (((n : Nat) : Rat) / ((1 : Nat) : Rat))
    rw [Rat.div_def, show ((1 : Nat) : Rat)⁻¹ = 1 by decide +kernel, Rat.mul_one]
  · rw [if_neg h, split_at _ _ (digits_not (by decide)), split_no _ (digits_not (by decide))]
    simp only [readDigits_digits, Option.bind_some]
    rw [if_neg (by omega)]
theorem readLetter_frac {n d : Nat} : AlBase.readLetter (wFrac n d) = none := by
  unfold AlBase.readLetter
  split
  · rename_i b e
    rw [if_neg]
    intro k
    exact frac_not (n := n) (d := d) (b := b) (by omega) (by rw [e]; exact List.mem_cons_self ..)
  · rfl
theorem readFactor_frac {n d : Nat} (hd : 0 < d) : AlBase.readFactor (wFrac n d) = some (AlBase.const ((n : Rat) / (d : Rat))) := by
  unfold AlBase.readFactor
  rw [split_no _ (frac_not (by decide))]
  simp only [readLetter_frac, readNumber_frac hd, Option.map_some]
theorem readFactor_pow {p : Nat} (h : p ≠ 0) : AlBase.readFactor (wPow p) = some (toP [(p, 1)]) := by
  unfold AlBase.readFactor wPow
  by_cases k : p = 1
  · rw [if_pos k, k]; rfl
  · rw [if_neg k, show (120 :: 94 :: digits p : List Nat) = [120] ++ 94 :: digits p from rfl, split_at _ _ (by decide), split_no _ (digits_not (by decide))]
    simp only [readDigits_digits]
    show some (if p = 0 then AlBase.one else [([(23, p)], 1)]) = _
    rw [if_neg h]
    simp [toP, mono, h]
theorem mul_one_term {n : Nat} {c : Rat} (hc : c ≠ 0) : AlBase.mul AlBase.one (toP [(n, c)]) = toP [(n, c)] := by
  rw [show AlBase.one = toP [(0, 1)] from rfl, mul_toP]
  congr 1
  show plusX (0 + n) (1 * c) [] = _
  unfold plusX
  rw [Rat.one_mul, if_neg hc, Nat.zero_add]
theorem const_toP {c : Rat} (hc : c ≠ 0) : AlBase.const c = toP [(0, c)] := by
  unfold AlBase.const
  rw [show ([] : Mono) = mono 0 from rfl, show ([] : Poly) = toP [] from rfl, plus_toP]
  unfold plusX
  rw [if_neg hc]
theorem mul_term {n : Nat} {c : Rat} (hc : c ≠ 0) : AlBase.mul (toP [(0, c)]) (toP [(n, 1)]) = toP [(n, c)] := by
  rw [mul_toP]
  congr 1
  show addX [] (shiftX 0 (scaleX c [(n, 1)])) = _
  unfold scaleX
  rw [if_neg hc]
  show plusX (0 + n) (c * 1) [] = _
  unfold plusX
  rw [Rat.mul_one, if_neg hc, Nat.zero_add]
theorem spec_term {p n d : Nat} (hd : 0 < d) (hc : (n : Rat) / (d : Rat) ≠ 0) : AlBase.readTerm (wTerm p n d) = some (toP [(p, (n : Rat) / (d : Rat))]) := by
  unfold AlBase.readTerm wTerm
  by_cases h : p = 0
  · rw [if_pos h, split_no _ (frac_not (by decide)), List.mapM_cons, readFactor_frac hd, List.mapM_nil]
    show some (AlBase.mul AlBase.one (AlBase.const _)) = _
    rw [const_toP hc, mul_one_term hc, h]
  · rw [if_neg h]
    by_cases k : n = 1 ∧ d = 1
    · rw [if_pos k, split_no _ (pow_not (by decide)), List.mapM_cons, readFactor_pow h, List.mapM_nil]
      show some (AlBase.mul AlBase.one (toP [(p, 1)])) = _
      rw [mul_one_term (by decide), k.1, k.2, show ((1 : Nat) : Rat) / ((1 : Nat) : Rat) = 1 by decide +kernel]
    · rw [if_neg k, split_at _ _ (frac_not (by decide)), split_no _ (pow_not (by decide)), List.mapM_cons, readFactor_frac hd, List.mapM_cons, readFactor_pow h, List.mapM_nil]
      show some (AlBase.mul (AlBase.mul AlBase.one (AlBase.const _)) (toP [(p, 1)])) = _
      rw [const_toP hc, mul_one_term hc, mul_term hc]
/-- of a term with its sign aside -/
theorem spec_wT {t : Tm} (h : Good t) : AlBase.readTerm (wT t) = some (toP [(t.p, (t.n.natAbs : Rat) / (t.d : Rat))]) := by
  refine spec_term h.d0 ?_
  have e := rat_of (n := (t.n.natAbs : Int)) h.d0 (by rw [Int.natAbs_natCast]; exact h.co)
  intro z
  have z' : ((t.n.natAbs : Int) : Rat) / (t.d : Rat) = 0 := z
  rw [z'] at e
  have := h.n0
  have e1 : (0 : Int) = t.n.natAbs := e.1
  omega
theorem abs_pos {t : Tm} (h : ¬ t.n < 0) : (t.n.natAbs : Rat) / (t.d : Rat) = (xr t).2 := by
  unfold xr
  have : ((t.n.natAbs : Nat) : Int) = t.n := by omega
  show ((t.n.natAbs : Nat) : Rat) / _ = _
  rw [← Rat.intCast_natCast, this]
theorem abs_neg {t : Tm} (h : t.n < 0) : -1 * ((t.n.natAbs : Rat) / (t.d : Rat)) = (xr t).2 := by
  unfold xr
  have : ((t.n.natAbs : Nat) : Int) = -t.n := by omega
  show -1 * (((t.n.natAbs : Nat) : Rat) / _) = _
  rw [← Rat.intCast_natCast, this, Rat.intCast_neg, Rat.div_def, Rat.div_def, Rat.neg_mul, Rat.one_mul, ← Rat.neg_mul, Rat.neg_neg]
theorem neg_term {n : Nat} {c : Rat} : AlBase.neg (toP [(n, c)]) = toP [(n, -1 * c)] := by
  unfold AlBase.neg
  rw [scale_toP]
  congr 1
theorem split_more : ∀ (l : List Tm) (w : List Nat), 32 ∉ w → AlBase.split 32 (w ++ wRest l) = w :: l.flatMap fun t => [[if t.n < 0 then 45 else 43], wT t]
  | [], w, h => by
    show AlBase.split 32 (w ++ []) = [w]
    rw [List.append_nil, split_no w h]
  | t :: l, w, h => by
    have e : w ++ wRest (t :: l) = w ++ 32 :: ([if t.n < 0 then 45 else 43] ++ 32 :: (wT t ++ wRest l)) := rfl
    rw [e, split_at _ _ h, split_at _ _ (by split <;> decide), split_more l (wT t) fun k => (plain_wT t 32 k).2.2 rfl]
    rfl
theorem readMore_two (s : Poly) (g w : List Nat) (l : List (List Nat)) : AlBase.readMore s (g :: w :: l) = if g = [43] then (AlBase.readTerm w).bind fun (p : Poly) => AlBase.readMore (AlBase.add s p) l else if g = [45] then (AlBase.readTerm w).bind fun (p : Poly) => AlBase.readMore (AlBase.sub s p) l else none := rfl
theorem read_more : ∀ (l : List Tm) (s : PX), (∀ t ∈ l, Good t) → (s ++ l.map xr).Pairwise (fun a b => b.1 < a.1) → AlBase.readMore (toP s) (l.flatMap fun t => [[if t.n < 0 then 45 else 43], wT t]) = some (toP (s ++ l.map xr))
  | [], s, _, _ => by simp [AlBase.readMore]
  | t :: l, s, h, k => by
    have ht := h t (List.mem_cons_self ..)
    have low : ∀ y ∈ s, t.p < y.1 := fun y hy => (List.pairwise_append.mp k).2.2 y hy (xr t) (by simp)
    have ih := read_more l (s ++ [xr t]) (fun u hu => h u (List.mem_cons_of_mem _ hu)) (by simpa using k)
    have e3 : toP (s ++ (t :: l).map xr) = toP (s ++ [xr t] ++ l.map xr) := by simp
    rw [e3, ← ih]
    show AlBase.readMore (toP s) ([if t.n < 0 then 45 else 43] :: wT t :: l.flatMap _) = _
    rw [readMore_two, spec_wT ht]
    by_cases hn : t.n < 0
    · rw [if_pos hn, if_neg (by decide), if_pos rfl]
      show AlBase.readMore (AlBase.sub (toP s) (toP [_])) _ = _
      unfold AlBase.sub
      rw [neg_term, abs_neg hn, add_toP]
      show AlBase.readMore (toP (plusX t.p (xr t).2 s)) _ = _
      rw [plusX_low (xr_nz ht) s low]
      rfl
    · rw [if_neg hn, if_pos rfl]
      show AlBase.readMore (AlBase.add (toP s) (toP [_])) _ = _
      rw [abs_pos hn, add_toP]
      show AlBase.readMore (toP (plusX t.p (xr t).2 s)) _ = _
      rw [plusX_low (xr_nz ht) s low]
      rfl
theorem head_wT (t : Tm) : (wT t).headD 0 ≠ 45 := by
  cases e : wT t with
  | nil => decide
  | cons b w =>
    exact (plain_wT t b (by rw [e]; exact List.mem_cons_self ..)).2.1
theorem spec_back {l : List Tm} (h : Valid l) : AlBase.readSum (write l) = some (toP (l.map xr)) := by
  cases l with
  | nil => rfl
  | cons t l =>
    have ht := h.good t (List.mem_cons_self ..)
    have k := (valid_xc h).fall
    have ih := read_more l [xr t] (fun u hu => h.good u (List.mem_cons_of_mem _ hu)) (by simpa using k)
    have e3 : toP ((t :: l).map xr) = toP ([xr t] ++ l.map xr) := by simp
    rw [e3, ← ih]
    by_cases hn : t.n < 0
    · have e : write (t :: l) = (45 :: wT t) ++ wRest l := by simp [write, hn, wT]
      unfold AlBase.readSum
      rw [e, split_more l _ (fun z => (List.mem_cons.mp z).elim (fun q => by cases q) fun q => (plain_wT t 32 q).2.2 rfl)]
      show (if (45 : Nat) = 45 then (AlBase.readTerm (wT t)).bind _ else _) = _
      rw [if_pos rfl, spec_wT ht]
      show AlBase.readMore (AlBase.neg (toP [_])) _ = _
      rw [neg_term, abs_neg hn]
      rfl
    · have e : write (t :: l) = wT t ++ wRest l := by simp [write, hn, wT]
      unfold AlBase.readSum
      rw [e, split_more l _ (fun z => (plain_wT t 32 z).2.2 rfl)]
      show (if (wT t).headD 0 = 45 then _ else (AlBase.readTerm (wT t)).bind _) = _
      rw [if_neg (head_wT t), spec_wT ht]
      show AlBase.readMore (toP [_]) _ = _
      rw [abs_pos hn]
      rfl
theorem spec_read_back {l : List Tm} (h : Valid l) : AlBase.read (write l) = some (toP (l.map xr)) := by
  unfold AlBase.read
  rw [spec_back h]
  show (if AlBase.text (toP (l.map xr)) = write l then _ else _) = _
  rw [text_write, tm_xr_all h.good, if_pos rfl]
end Sl
set_option Elab.async false
set_option linter.all false
namespace Sl
open AlBase (Poly Mono digits readDigits)
/-! ### letters -/
theorem ins_self (a : Nat) : ∀ l : List Nat, a ∈ AlBase.insertLetter a l
  | [] => by simp [AlBase.insertLetter]
  | b :: l => by
    unfold AlBase.insertLetter
    split
    · simp
    · split
      · simp_all
      · exact List.mem_cons_of_mem _ (ins_self a l)
theorem ins_mem (a c : Nat) : ∀ l : List Nat, c ∈ l → c ∈ AlBase.insertLetter a l
  | [], h => by cases h
  | b :: l, h => by
    unfold AlBase.insertLetter
    split
    · exact List.mem_cons_of_mem _ h
    · split
      · exact h
      · rcases List.mem_cons.mp h with h | h
        · rw [h]; exact List.mem_cons_self ..
        · exact List.mem_cons_of_mem _ (ins_mem a c l h)
theorem ins_back (a c : Nat) : ∀ l : List Nat, c ∈ AlBase.insertLetter a l → c = a ∨ c ∈ l
  | [], h => by
    rw [AlBase.insertLetter, List.mem_singleton] at h; exact Or.inl h
  | b :: l, h => by
    unfold AlBase.insertLetter at h
    split at h
    · rcases List.mem_cons.mp h with h | h
      · exact Or.inl h
      · exact Or.inr h
    · split at h
      · exact Or.inr h
      · rcases List.mem_cons.mp h with h | h
        · rw [h]; exact Or.inr (List.mem_cons_self ..)
        · rcases ins_back a c l h with h | h
          · exact Or.inl h
          · exact Or.inr (List.mem_cons_of_mem _ h)
def ins1 (m : Mono) (s : List Nat) : List Nat := m.foldl (fun (t : List Nat) (y : Nat × Nat) => AlBase.insertLetter y.1 t) s
theorem ins1_old : ∀ (m : Mono) (s : List Nat) (c : Nat), c ∈ s → c ∈ ins1 m s
  | [], s, c, h => h
  | y :: m, s, c, h => ins1_old m _ c (ins_mem y.1 c s h)
theorem ins1_new : ∀ (m : Mono) (s : List Nat) (y : Nat × Nat), y ∈ m → y.1 ∈ ins1 m s
  | [], s, y, h => by cases h
  | z :: m, s, y, h => by
    rcases List.mem_cons.mp h with h | h
    · rw [h]; exact ins1_old m _ _ (ins_self z.1 s)
    · exact ins1_new m _ y h
theorem ins1_back : ∀ (m : Mono) (s : List Nat) (c : Nat), c ∈ ins1 m s → c ∈ s ∨ ∃ y ∈ m, y.1 = c
  | [], s, c, h => Or.inl h
  | z :: m, s, c, h => by
    rcases ins1_back m _ c h with h | ⟨y, hy, e⟩
    · rcases ins_back z.1 c s h with h | h
      · exact Or.inr ⟨z, List.mem_cons_self .., h.symm⟩
      · exact Or.inl h
    · exact Or.inr ⟨y, List.mem_cons_of_mem _ hy, e⟩
def insP (p : Poly) (s : List Nat) : List Nat := p.foldl (fun (s : List Nat) (x : Mono × Rat) => ins1 x.1 s) s
theorem insP_old : ∀ (p : Poly) (s : List Nat) (c : Nat), c ∈ s → c ∈ insP p s
  | [], s, c, h => h
  | x :: p, s, c, h => insP_old p _ c (ins1_old x.1 s c h)
theorem insP_new : ∀ (p : Poly) (s : List Nat) (x : Mono × Rat), x ∈ p → ∀ y ∈ x.1, y.1 ∈ insP p s
  | [], s, x, h, _, _ => by cases h
  | z :: p, s, x, h, y, hy => by
    rcases List.mem_cons.mp h with h | h
    · rw [h] at hy; exact insP_old p _ _ (ins1_new z.1 s y hy)
    · exact insP_new p _ x h y hy
theorem insP_back : ∀ (p : Poly) (s : List Nat) (c : Nat), c ∈ insP p s → c ∈ s ∨ ∃ x ∈ p, ∃ y ∈ x.1, y.1 = c
  | [], s, c, h => Or.inl h
  | z :: p, s, c, h => by
    rcases insP_back p _ c h with h | ⟨x, hx, y, hy, e⟩
    · rcases ins1_back z.1 s c h with h | ⟨y, hy, e⟩
      · exact Or.inl h
      · exact Or.inr ⟨z, List.mem_cons_self .., y, hy, e⟩
    · exact Or.inr ⟨x, List.mem_cons_of_mem _ hx, y, hy, e⟩
theorem letters_iff (p : Poly) : (AlBase.letters p).all (fun (a : Nat) => decide (a = AlOne.X)) = true ↔ ∀ x ∈ p, ∀ y ∈ x.1, y.1 = 23 := by
  rw [List.all_eq_true]
  constructor
  · intro h x hx y hy
    exact of_decide_eq_true (h y.1 (insP_new p [] x hx y hy))
  · intro h c hc
    rcases insP_back p [] c hc with k | ⟨x, hx, y, hy, e⟩
    · cases k
    · rw [← e]; exact decide_eq_true (h x hx y hy)
/-! ### the text of a polynomial in x alone has no other letter -/
theorem OnlyX.append {u v : List Nat} (h : OnlyX u) (k : OnlyX v) : OnlyX (u ++ v) := fun b hb => by
  rcases List.mem_append.mp hb with hb | hb
  · exact h b hb
  · exact k b hb
theorem OnlyX.cons {b : Nat} {v : List Nat} (h : b < 97 ∨ b = 120) (k : OnlyX v) : OnlyX (b :: v) := fun c hc => by
  rcases List.mem_cons.mp hc with hc | hc
  · intro h1 h2; omega
  · exact k c hc
theorem OnlyX.nil : OnlyX [] := fun b hb => by cases hb
theorem onlyX_digits (n : Nat) : OnlyX (digits n) := fun b hb _ _ => by
  have := digits_mem n b hb; omega
theorem onlyX_number (c : Rat) : OnlyX (AlBase.numberText c) := by
  unfold AlBase.numberText
  refine (onlyX_digits _).append ?_
  split
  · exact OnlyX.nil
  · exact OnlyX.cons (by omega) (onlyX_digits _)
theorem onlyX_join : ∀ l : List (List Nat), (∀ w ∈ l, OnlyX w) → OnlyX (AlBase.join [42] l)
  | [], _ => OnlyX.nil
  | [w], h => h w (List.mem_cons_self ..)
  | w :: v :: l, h => by
    show OnlyX (w ++ [42] ++ AlBase.join [42] (v :: l))
    exact ((h w (List.mem_cons_self ..)).append (OnlyX.cons (by omega) OnlyX.nil)).append (onlyX_join (v :: l) fun u hu => h u (List.mem_cons_of_mem _ hu))
theorem onlyX_mono {m : Mono} (h : ∀ y ∈ m, y.1 = 23) : OnlyX (AlBase.monoText m) := by
  unfold AlBase.monoText
  refine onlyX_join _ fun w hw => ?_
  obtain ⟨y, hy, rfl⟩ := List.mem_map.mp hw
  refine OnlyX.cons (Or.inr (by rw [h y hy])) ?_
  split
  · exact OnlyX.nil
  · exact OnlyX.cons (by omega) (onlyX_digits _)
theorem onlyX_term {m : Mono} (h : ∀ y ∈ m, y.1 = 23) (c : Rat) : OnlyX (AlBase.termText m c) := by
  unfold AlBase.termText
  split
  · exact onlyX_number c
  · split
    · exact onlyX_mono h
    · exact (onlyX_number c).append (OnlyX.cons (by omega) (onlyX_mono h))
theorem onlyX_more {x : Mono × Rat} (h : ∀ y ∈ x.1, y.1 = 23) : OnlyX (AlBase.moreText x) := by
  unfold AlBase.moreText
  split
  · exact (OnlyX.cons (by omega) (OnlyX.cons (by omega) (OnlyX.cons (by omega) OnlyX.nil))).append (onlyX_term h _)
  · exact (OnlyX.cons (by omega) (OnlyX.cons (by omega) (OnlyX.cons (by omega) OnlyX.nil))).append (onlyX_term h _)
theorem onlyX_flat : ∀ p : Poly, (∀ x ∈ p, ∀ y ∈ x.1, y.1 = 23) → OnlyX (p.flatMap AlBase.moreText)
  | [], _ => OnlyX.nil
  | x :: p, h => by
    rw [List.flatMap_cons]
    exact (onlyX_more (h x (List.mem_cons_self ..))).append (onlyX_flat p fun z hz => h z (List.mem_cons_of_mem _ hz))
theorem onlyX_text {p : Poly} (h : ∀ x ∈ p, ∀ y ∈ x.1, y.1 = 23) : OnlyX (AlBase.text p) := by
  cases p with
  | nil => exact OnlyX.cons (by omega) OnlyX.nil
  | cons x p =>
    have hx := h x (List.mem_cons_self ..)
    show OnlyX ((if x.2 < 0 then 45 :: AlBase.termText x.1 (-x.2) else AlBase.termText x.1 x.2) ++ p.flatMap AlBase.moreText)
    refine OnlyX.append ?_ (onlyX_flat p fun z hz => h z (List.mem_cons_of_mem _ hz))
    split
    · exact OnlyX.cons (by omega) (onlyX_term hx _)
    · exact onlyX_term hx _
/-! ### as a list of numbers -/
def cf : PX → Nat → Rat
  | [], _ => 0
  | (m, c) :: l, n => if m = n then c else cf l n
theorem cf_low {n : Nat} : ∀ l : PX, (∀ y ∈ l, y.1 ≠ n) → cf l n = 0
  | [], _ => rfl
  | (m, c) :: l, h => by
    unfold cf
    rw [if_neg (h (m, c) (List.mem_cons_self ..)), cf_low l fun y hy => h y (List.mem_cons_of_mem _ hy)]
def top : PX → Nat
  | [] => 0
  | x :: _ => x.1
theorem fmax (f : Mono × Rat → Nat) (g : ∀ x : Nat × Rat, f (mono x.1, x.2) = x.1) : ∀ (l : PX) (s : Nat), (∀ y ∈ l, y.1 ≤ s) → (toP l).foldl (fun (s : Nat) (x : Mono × Rat) => max s (f x)) s = s
  | [], s, _ => rfl
  | x :: l, s, h => by
    show (toP l).foldl _ (max s (f (mono x.1, x.2))) = s
    have : max s (f (mono x.1, x.2)) = s := by
      rw [g]; have := h x (List.mem_cons_self ..); omega
    rw [this]
    exact fmax f g l s fun y hy => h y (List.mem_cons_of_mem _ hy)
theorem fmax_top (f : Mono × Rat → Nat) (g : ∀ x : Nat × Rat, f (mono x.1, x.2) = x.1) {l : PX} (h : XC l) : (toP l).foldl (fun (s : Nat) (x : Mono × Rat) => max s (f x)) 0 = top l := by
  cases l with
  | nil => rfl
  | cons x l =>
    show (toP l).foldl _ (max 0 (f (mono x.1, x.2))) = x.1
    rw [g, Nat.max_eq_right (Nat.zero_le _)]
    exact fmax f g l x.1 fun y hy => Nat.le_of_lt (h.head y hy)
theorem often_mono (n : Nat) : AlBase.often 23 (mono n) = n := by
  unfold mono
  split
  · simp_all [AlBase.often]
  · simp [AlBase.often]
theorem height_toP {l : PX} (h : XC l) : AlBase.height AlOne.X (toP l) = top l := fmax_top (fun x => AlBase.often 23 x.1) (fun x => often_mono x.1) h
theorem degree_toP {l : PX} (h : XC l) : AlBase.polyDegree (toP l) = top l := fmax_top (fun x => AlBase.degree x.1) (fun x => mono_deg x.1) h
theorem letters_toP (l : PX) : (AlBase.letters (toP l)).all (fun (a : Nat) => decide (a = AlOne.X)) = true := by
  rw [letters_iff]
  intro x hx y hy
  obtain ⟨z, _, rfl⟩ := List.mem_map.mp hx
  simp only [mono] at hy
  split at hy
  · cases hy
  · rw [List.mem_singleton] at hy; rw [hy]
theorem without_mono (n : Nat) : AlBase.without 23 (mono n) = [] := by
  unfold mono AlBase.without
  split <;> simp
theorem filter_none {n : Nat} : ∀ l : PX, (∀ y ∈ l, y.1 ≠ n) → (toP l).filter (fun (x : Mono × Rat) => decide (AlBase.often 23 x.1 = n)) = []
  | [], _ => rfl
  | x :: l, h => by
    have hx := h x (List.mem_cons_self ..)
    show List.filter _ ((mono x.1, x.2) :: toP l) = []
    rw [List.filter_cons, if_neg (by simp [often_mono, hx])]
    exact filter_none l fun y hy => h y (List.mem_cons_of_mem _ hy)
theorem part_toP (n : Nat) : ∀ l : PX, XC l → AlBase.value (fun _ => 0) (AlBase.part AlOne.X n (toP l)) = cf l n
  | [], _ => rfl
  | x :: l, h => by
    by_cases hx : x.1 = n
    · have e : (toP (x :: l)).filter (fun (x : Mono × Rat) => decide (AlBase.often 23 x.1 = n)) = [(mono x.1, x.2)] := by
        show List.filter _ ((mono x.1, x.2) :: toP l) = _
        rw [List.filter_cons, if_pos (by simp [often_mono, hx]), filter_none l]
        intro y hy
        have := h.head y hy
        omega
      unfold AlBase.part AlOne.X
      rw [e]
      show AlBase.value _ (AlBase.gather [(AlBase.without 23 (mono x.1), x.2)]) = _
      rw [without_mono]
      show AlBase.value _ (AlBase.plus [] x.2 []) = cf ((x.1, x.2) :: l) n
      have nz := h.nz x (List.mem_cons_self ..)
      unfold AlBase.plus cf
      rw [if_neg nz, if_pos hx]
      show (0 : Rat) + x.2 * 1 = x.2
      rw [Rat.mul_one, Rat.zero_add]
    · have e : (toP (x :: l)).filter (fun (x : Mono × Rat) => decide (AlBase.often 23 x.1 = n)) = (toP l).filter (fun (x : Mono × Rat) => decide (AlBase.often 23 x.1 = n)) := by
        show List.filter _ ((mono x.1, x.2) :: toP l) = _
        rw [List.filter_cons, if_neg (by simp [often_mono, hx])]
      have ih := part_toP n l h.tail
      unfold AlBase.part AlOne.X at ih ⊢
      rw [e, ih]
      show _ = cf ((x.1, x.2) :: l) n
      rw [cf, if_neg hx]
/-- a polynomial's numbers -/
def uniOf (l : PX) : AlOne.Uni := if 100 < top l then AlOne.xpow 100 else AlOne.trim ((List.range (top l + 1)).map (cf l))
theorem ofPoly_toP {l : PX} (h : XC l) : AlOne.ofPoly (toP l) = some (uniOf l) := by
  unfold AlOne.ofPoly uniOf
  rw [degree_toP h, height_toP h, letters_toP]
  by_cases k : 100 < top l
  · rw [if_pos ⟨rfl, k⟩, if_pos k]
  · rw [if_neg (fun z => k z.2), if_pos rfl, if_neg k]
    congr 2
    exact List.map_congr_left fun n _ => part_toP n l h
/-- **A text is read alike.** -/
theorem read_spec (t : List Nat) : AlOne.read t = (read t).map fun l => uniOf (l.map xr) := by
  cases e : read t with
  | some l =>
    have h := read_sound e
    unfold AlOne.read
    rw [← h.2, spec_read_back h.1]
    show AlOne.ofPoly (toP (l.map xr)) = some _
    exact ofPoly_toP (valid_xc h.1)
  | none =>
    show AlOne.read t = none
    unfold AlOne.read AlBase.read
    cases es : AlBase.readSum t with
    | none => rfl
    | some p =>
      show (if AlBase.text p = t then some p else none).bind AlOne.ofPoly = none
      by_cases ht : AlBase.text p = t
      · rw [if_pos ht]
        show AlOne.ofPoly p = none
        unfold AlOne.ofPoly
        by_cases hl : (AlBase.letters p).all (fun (a : Nat) => decide (a = AlOne.X)) = true
        · exfalso
          have hx := (letters_iff p).mp hl
          have ho : OnlyX t := by rw [← ht]; exact onlyX_text hx
          obtain ⟨l, rfl, hc⟩ := readSum_x ho es
          have := read_write (xc_valid hc)
          rw [← text_write, ht, e] at this
          cases this
        · rw [if_neg (fun z => hl z.1), if_neg hl]
      · rw [if_neg ht]; rfl
end Sl
set_option Elab.async false
set_option linter.all false
namespace Sl
open AlOne (Uni)
/-! ### the specification's polynomials by their numbers -/
def cq (p : List Rat) (n : Nat) : Rat := p.getD n 0
theorem cq_nil (n : Nat) : cq [] n = 0 := rfl
theorem cq_zero (c : Rat) (p : List Rat) : cq (c :: p) 0 = c := rfl
theorem cq_succ (c : Rat) (p : List Rat) (n : Nat) : cq (c :: p) (n + 1) = cq p n := by simp [cq]
/-- the last number isn't 0 -/
def Tr (p : List Rat) : Prop := ∀ c, p.getLast? = some c → c ≠ 0
theorem tr_nil : Tr [] := fun c h => by cases h
theorem tr_tail {c : Rat} {p : List Rat} (h : Tr (c :: p)) : Tr p := fun d hd => by
  cases p with
  | nil => cases hd
  | cons e p => exact h d (by rw [List.getLast?_cons_cons]; exact hd)
theorem tr_cons {c : Rat} {p : List Rat} (h : Tr p) (hp : p ≠ []) : Tr (c :: p) := fun d hd => by
  cases p with
  | nil => exact absurd rfl hp
  | cons e p => rw [List.getLast?_cons_cons] at hd; exact h d hd
theorem trim_tr : ∀ l : List Rat, Tr (AlOne.trim l)
  | [] => tr_nil
  | c :: l => by
    have ih := trim_tr l
    unfold AlOne.trim
    split
    · split
      · exact tr_nil
      · rename_i h
        intro d hd
        have : c = d := by simpa using hd
        rw [← this]; exact h
    · rename_i h
      exact tr_cons ih h
theorem trim_cq : ∀ (l : List Rat) (n : Nat), cq (AlOne.trim l) n = cq l n
  | [], n => rfl
  | c :: l, n => by
    have ih := trim_cq l
    unfold AlOne.trim
    split
    · rename_i h
      rw [h] at ih
      split
      · rename_i h0
        cases n with
        | zero => rw [cq_zero, h0]; rfl
        | succ n => rw [cq_succ, ← ih n]; rfl
      · cases n with
        | zero => rfl
        | succ n => rw [cq_succ, cq_succ, ← ih n]
    · cases n with
      | zero => rfl
      | succ n => rw [cq_succ, cq_succ, ih n]
theorem trim_self : ∀ l : List Rat, Tr l → AlOne.trim l = l
  | [], _ => rfl
  | c :: l, h => by
    have ih := trim_self l (tr_tail h)
    unfold AlOne.trim
    rw [ih]
    cases l with
    | nil =>
      have : c ≠ 0 := h c rfl
      simp [this]
    | cons d l => rfl
/-- two without zeros at the end that have the same numbers are one -/
theorem tr_ext : ∀ {p q : List Rat}, Tr p → Tr q → (∀ n, cq p n = cq q n) → p = q
  | [], [], _, _, _ => rfl
  | [], d :: q, _, h2, h => by
    exfalso
    have hz : ∀ n, cq (d :: q) n = 0 := fun n => (h n).symm
    have hl : (d :: q).getLast? = some ((d :: q).getLast (by simp)) := List.getLast?_eq_getLast (by simp)
    refine h2 _ hl ?_
    have := hz ((d :: q).length - 1)
    unfold cq at this
    rw [List.getLast_eq_getElem]
    rw [List.getD_eq_getElem?_getD, List.getElem?_eq_getElem (by simp)] at this
    exact this
  | c :: p, [], h1, _, h => by
    exfalso
    have hz : ∀ n, cq (c :: p) n = 0 := fun n => h n
    have hl : (c :: p).getLast? = some ((c :: p).getLast (by simp)) := List.getLast?_eq_getLast (by simp)
    refine h1 _ hl ?_
    have := hz ((c :: p).length - 1)
    unfold cq at this
    rw [List.getLast_eq_getElem]
    rw [List.getD_eq_getElem?_getD, List.getElem?_eq_getElem (by simp)] at this
    exact this
  | c :: p, d :: q, h1, h2, h => by
    have e : c = d := h 0
    rw [e, tr_ext (tr_tail h1) (tr_tail h2) fun n => by have := h (n + 1); rwa [cq_succ, cq_succ] at this]
theorem addRaw_cq : ∀ (p q : List Rat) (n : Nat), cq (AlOne.addRaw p q) n = cq p n + cq q n
  | [], q, n => by
    have : AlOne.addRaw [] q = q := by cases q <;> rfl
    rw [this, cq_nil, Rat.zero_add]
  | c :: p, [], n => by
    show cq (c :: p) n = _
    rw [cq_nil, Rat.add_zero]
  | c :: p, d :: q, 0 => rfl
  | c :: p, d :: q, n + 1 => by
    show cq ((c + d) :: AlOne.addRaw p q) (n + 1) = _
    rw [cq_succ, cq_succ, cq_succ, addRaw_cq p q n]
theorem add_cq (p q : Uni) (n : Nat) : cq (AlOne.add p q) n = cq p n + cq q n := by
  unfold AlOne.add
  rw [trim_cq, addRaw_cq]
theorem add_tr (p q : Uni) : Tr (AlOne.add p q) := trim_tr _
theorem map_cq (f : Rat → Rat) (h0 : f 0 = 0) : ∀ (p : List Rat) (n : Nat), cq (p.map f) n = f (cq p n)
  | [], n => by rw [List.map_nil, cq_nil, h0]
  | c :: p, 0 => rfl
  | c :: p, n + 1 => by rw [List.map_cons, cq_succ, cq_succ, map_cq f h0 p n]
theorem scale_cq (c : Rat) (p : Uni) (n : Nat) : cq (AlOne.scale c p) n = c * cq p n := by
  unfold AlOne.scale
  rw [trim_cq, map_cq (fun x => c * x) (Rat.mul_zero c)]
/-- the product's numbers -/
def cv : List Rat → (Nat → Rat) → Nat → Rat
  | [], _, _ => 0
  | c :: _, g, 0 => c * g 0
  | c :: p, g, n + 1 => c * g (n + 1) + cv p g n
theorem mul_cq (q : Uni) : ∀ (p : Uni) (n : Nat), cq (AlOne.mul p q) n = cv p (cq q) n
  | [], n => rfl
  | c :: p, n => by
    have ih := mul_cq q p
    unfold AlOne.mul
    split
    · rename_i h
      rw [h] at ih
      rw [scale_cq]
      cases n with
      | zero => rfl
      | succ n =>
        show _ = c * cq q (n + 1) + cv p (cq q) n
        rw [← ih n, cq_nil, Rat.add_zero]
    · rw [add_cq, scale_cq]
      cases n with
      | zero => rw [cq_zero, Rat.add_zero]; rfl
      | succ n => rw [cq_succ, ih n]; rfl
theorem scale_tr (c : Rat) (p : Uni) : Tr (AlOne.scale c p) := trim_tr _
theorem mul_tr : ∀ (p q : Uni), Tr (AlOne.mul p q)
  | [], q => tr_nil
  | c :: p, q => by
    unfold AlOne.mul
    split
    · exact scale_tr _ _
    · exact add_tr _ _
theorem slopeFrom_cq : ∀ (p : List Rat) (k n : Nat), cq (AlOne.slopeFrom k p) n = ((k + n : Nat) : Rat) * cq p n
  | [], k, n => by
    show (0 : Rat) = _ * 0
    rw [Rat.mul_zero]
  | c :: p, k, 0 => by
    show ((k : Nat) : Rat) * c = ((k + 0 : Nat) : Rat) * c
    rfl
  | c :: p, k, n + 1 => by
    show cq (_ :: AlOne.slopeFrom (k + 1) p) (n + 1) = _
    rw [cq_succ, cq_succ, slopeFrom_cq p (k + 1) n, show k + 1 + n = k + (n + 1) by omega]
theorem tail_cq (p : List Rat) (n : Nat) : cq p.tail n = cq p (n + 1) := by
  cases p with
  | nil => rfl
  | cons c p => rw [List.tail_cons, cq_succ]
theorem slope_cq (p : Uni) (n : Nat) : cq (AlOne.slope p) n = ((n + 1 : Nat) : Rat) * cq p (n + 1) := by
  unfold AlOne.slope
  rw [trim_cq, slopeFrom_cq, tail_cq, show 1 + n = n + 1 by omega]
theorem slope_tr (p : Uni) : Tr (AlOne.slope p) := trim_tr _
/-- y a number of steps on, by its numbers -/
def sh (k : Rat) : List Rat → Nat → Rat
  | [], _ => 0
  | c :: l, 0 => c + k * sh k l 0
  | c :: l, n + 1 => k * sh k l (n + 1) + sh k l n
theorem cv_two (k : Rat) (g : Nat → Rat) : ∀ n, cv [k, 1] g n = match n with
    | 0 => k * g 0
    | n + 1 => k * g (n + 1) + g n
  | 0 => rfl
  | 1 => by
    show k * g 1 + 1 * g 0 = _
    rw [Rat.one_mul]
  | n + 2 => by
    show k * g (n + 2) + (1 * g (n + 1) + 0) = _
    rw [Rat.one_mul, Rat.add_zero]
theorem trim_two (k : Rat) : AlOne.trim [k, 1] = [k, 1] := trim_self _ (fun c h => by
  have : (1 : Rat) = c := by simpa using h
  rw [← this]; decide)
theorem compose_cq (k : Rat) : ∀ (p : Uni) (n : Nat), cq (AlOne.compose p (AlOne.trim [k, 1])) n = sh k p n
  | [], n => rfl
  | c :: l, n => by
    have ih := compose_cq k l
    unfold AlOne.compose
    rw [add_cq, trim_cq, mul_cq, trim_two] at *
    rw [cv_two]
    cases n with
    | zero =>
      show c + k * cq (AlOne.compose l [k, 1]) 0 = c + k * sh k l 0
      rw [ih 0]
    | succ n =>
      show cq [c] (n + 1) + (k * cq (AlOne.compose l [k, 1]) (n + 1) + cq (AlOne.compose l [k, 1]) n) = k * sh k l (n + 1) + sh k l n
      rw [ih, ih, cq_succ, cq_nil, Rat.zero_add]
theorem compose_tr : ∀ (p q : Uni), Tr (AlOne.compose p q)
  | [], q => tr_nil
  | c :: l, q => add_tr _ _
end Sl
set_option Elab.async false
set_option linter.all false
namespace Sl
open AlOne (Uni)
/-! ### steps -/
theorem sh_zero {k : Rat} : ∀ (a : List Rat) (n : Nat), (∀ n, cq a n = 0) → sh k a n = 0
  | [], _, _ => rfl
  | c :: l, 0, h => by
    have ih := sh_zero (k := k) l 0 fun n => by have := h (n + 1); rwa [cq_succ] at this
    show c + k * sh k l 0 = 0
    have h0 : c = 0 := h 0
    rw [ih, h0]; grind
  | c :: l, n + 1, h => by
    have ih := fun n => sh_zero (k := k) l n fun n => by have := h (n + 1); rwa [cq_succ] at this
    show k * sh k l (n + 1) + sh k l n = 0
    rw [ih, ih]; grind
theorem sh_congr {k : Rat} : ∀ (a b : List Rat) (n : Nat), (∀ n, cq a n = cq b n) → sh k a n = sh k b n
  | [], b, n, h => by rw [sh_zero b n fun n => (h n).symm]; rfl
  | c :: a, [], n, h => sh_zero (c :: a) n h
  | c :: a, d :: b, n, h => by
    have e : c = d := h 0
    have ih := fun n => sh_congr (k := k) a b n fun n => by have := h (n + 1); rwa [cq_succ, cq_succ] at this
    cases n with
    | zero => show c + k * sh k a 0 = d + k * sh k b 0; rw [ih, e]
    | succ n => show k * sh k a (n + 1) + sh k a n = k * sh k b (n + 1) + sh k b n; rw [ih, ih]
theorem sh_addRaw {k : Rat} : ∀ (a b : List Rat) (n : Nat), sh k (AlOne.addRaw a b) n = sh k a n + sh k b n
  | [], b, n => by
    have : AlOne.addRaw [] b = b := by cases b <;> rfl
    rw [this]; show _ = 0 + _; rw [Rat.zero_add]
  | c :: a, [], n => by show sh k (c :: a) n = _ + 0; rw [Rat.add_zero]
  | c :: a, d :: b, n => by
    have ih := sh_addRaw (k := k) a b
    show sh k ((c + d) :: AlOne.addRaw a b) n = _
    cases n with
    | zero =>
      show (c + d) + k * sh k (AlOne.addRaw a b) 0 = (c + k * sh k a 0) + (d + k * sh k b 0)
      rw [ih]; grind
    | succ n =>
      show k * sh k (AlOne.addRaw a b) (n + 1) + sh k (AlOne.addRaw a b) n = (k * sh k a (n + 1) + sh k a n) + (k * sh k b (n + 1) + sh k b n)
      rw [ih, ih]; grind
theorem sh_map {k m : Rat} : ∀ (a : List Rat) (n : Nat), sh k (a.map fun x => m * x) n = m * sh k a n
  | [], n => by show (0 : Rat) = m * 0; rw [Rat.mul_zero]
  | c :: a, n => by
    have ih := sh_map (k := k) (m := m) a
    cases n with
    | zero =>
      show m * c + k * sh k (a.map fun x => m * x) 0 = m * (c + k * sh k a 0)
      rw [ih]; grind
    | succ n =>
      show k * sh k (a.map fun x => m * x) (n + 1) + sh k (a.map fun x => m * x) n = m * (k * sh k a (n + 1) + sh k a n)
      rw [ih, ih]; grind
theorem sh_nil0 : ∀ (a : List Rat) (n : Nat), sh 0 a n = cq a n
  | [], n => rfl
  | c :: a, 0 => by show c + 0 * _ = c; grind
  | c :: a, n + 1 => by
    show 0 * _ + sh 0 a n = _
    rw [sh_nil0 a n, cq_succ]; grind
/-- one step further -/
theorem sh_more (m : Rat) : ∀ (p q : List Rat), (∀ n, cq q n = sh m p n) → ∀ n, sh 1 q n = sh (m + 1) p n
  | [], q, h, n => sh_zero q n h
  | c :: l, q, h, n => by
    have hr := fun n => compose_cq m l n
    have ih := sh_more m l (AlOne.compose l (AlOne.trim [m, 1])) hr
    generalize AlOne.compose l (AlOne.trim [m, 1]) = r at hr ih
    have e : ∀ n, cq q n = cq (AlOne.addRaw [c] (AlOne.addRaw (0 :: r) (r.map fun x => m * x))) n := fun n => by
      rw [h n, addRaw_cq, addRaw_cq, map_cq (fun x => m * x) (Rat.mul_zero m), hr]
      cases n with
      | zero => show c + m * sh m l 0 = c + (0 + m * sh m l 0); grind
      | succ n =>
        rw [cq_succ, cq_succ, cq_nil, hr]
        show m * sh m l (n + 1) + sh m l n = _
        grind
    rw [sh_congr q _ n e, sh_addRaw, sh_addRaw, sh_map, ih]
    cases n with
    | zero =>
      show (c + 1 * 0) + ((0 + 1 * sh 1 r 0) + m * sh (m + 1) l 0) = c + (m + 1) * sh (m + 1) l 0
      rw [ih]; grind
    | succ n =>
      show (1 * 0 + 0) + ((1 * sh 1 r (n + 1) + sh 1 r n) + m * sh (m + 1) l (n + 1)) = (m + 1) * sh (m + 1) l (n + 1) + sh (m + 1) l n
      rw [ih, ih]; grind
/-! ### polynomials with whole numbers -/
def co (l : List Int) (n : Nat) : Int := l.getD n 0
theorem co_nil (n : Nat) : co [] n = 0 := rfl
theorem co_zero (c : Int) (p : List Int) : co (c :: p) 0 = c := rfl
theorem co_succ (c : Int) (p : List Int) (n : Nat) : co (c :: p) (n + 1) = co p n := by simp [co]
def ra (l : List Int) : List Rat := l.map fun (i : Int) => (i : Rat)
theorem ra_cq : ∀ (l : List Int) (n : Nat), cq (ra l) n = (co l n : Rat)
  | [], n => rfl
  | c :: l, 0 => rfl
  | c :: l, n + 1 => by
    show cq ((c : Rat) :: ra l) (n + 1) = _
    rw [cq_succ, co_succ, ra_cq l n]
def trimI : List Int → List Int
  | [] => []
  | c :: l => match trimI l with
    | [] => if c = 0 then [] else [c]
    | t => c :: t
theorem trimI_co : ∀ (l : List Int) (n : Nat), co (trimI l) n = co l n
  | [], n => rfl
  | c :: l, n => by
    have ih := trimI_co l
    unfold trimI
    split
    · rename_i h
      rw [h] at ih
      split
      · rename_i h0
        cases n with
        | zero => rw [co_zero, h0]; rfl
        | succ n => rw [co_succ, ← ih n]; rfl
      · cases n with
        | zero => rfl
        | succ n => rw [co_succ, co_succ, ← ih n]
    · cases n with
      | zero => rfl
      | succ n => rw [co_succ, co_succ, ih n]
theorem trimI_zero : ∀ l : List Int, trimI (l ++ [0]) = trimI l
  | [] => rfl
  | c :: l => by
    rw [List.cons_append, trimI, trimI, trimI_zero l]
theorem trimI_last {c : Int} (h : c ≠ 0) : ∀ l : List Int, trimI (l ++ [c]) = l ++ [c]
  | [] => by simp [trimI, h]
  | d :: l => by
    rw [List.cons_append, trimI, trimI_last h l]
    split
    · rename_i e; simp at e
    · rfl
/-- no zero at the end -/
def TrI (p : List Int) : Prop := p.getLast? ≠ some 0
theorem trimI_tr : ∀ l : List Int, TrI (trimI l)
  | [] => by simp [TrI, trimI]
  | c :: l => by
    have ih := trimI_tr l
    unfold trimI
    split
    · split
      · simp [TrI]
      · rename_i h; simpa [TrI] using h
    · rename_i h
      unfold TrI at *
      cases e : trimI l with
      | nil => exact absurd e h
      | cons d r => rw [e] at ih; rw [List.getLast?_cons_cons]; exact ih
theorem trimI_self : ∀ l : List Int, TrI l → trimI l = l := by
  intro l h
  by_cases e : l = []
  · rw [e]; rfl
  · have hd := List.dropLast_concat_getLast e
    have hc : l.getLast e ≠ 0 := fun z => h (by rw [List.getLast?_eq_getLast e, z])
    rw [← hd]
    exact trimI_last hc _
theorem trimI_len (l : List Int) : (trimI l).length ≤ l.length := by
  induction l with
  | nil => simp [trimI]
  | cons c l ih =>
    unfold trimI
    split
    · split <;> simp
    · simp; omega
theorem trimI_mem : ∀ (l : List Int) (x : Int), x ∈ trimI l → x ∈ l
  | [], x, h => by simp [trimI] at h
  | c :: l, x, h => by
    unfold trimI at h
    split at h
    · split at h
      · cases h
      · rw [List.mem_singleton] at h; rw [h]; exact List.mem_cons_self ..
    · rcases List.mem_cons.mp h with h | h
      · rw [h]; exact List.mem_cons_self ..
      · exact List.mem_cons_of_mem _ (trimI_mem l x h)
def plusI (a b : List Int) : List Int := trimI ((List.range (max a.length b.length)).map fun i => co a i + co b i)
theorem co_ge {l : List Int} {n : Nat} (h : l.length ≤ n) : co l n = 0 := by
  unfold co
  rw [List.getD_eq_getElem?_getD, List.getElem?_eq_none h]; rfl
theorem co_range (f : Nat → Int) (m n : Nat) : co ((List.range m).map f) n = if n < m then f n else 0 := by
  unfold co
  rw [List.getD_eq_getElem?_getD, List.getElem?_map]
  by_cases h : n < m
  · rw [List.getElem?_range h, if_pos h]; rfl
  · rw [List.getElem?_eq_none (by rw [List.length_range]; omega), if_neg h]; rfl
theorem plusI_co (a b : List Int) (n : Nat) : co (plusI a b) n = co a n + co b n := by
  unfold plusI
  rw [trimI_co, co_range]
  split
  · rfl
  · rw [co_ge (l := a) (by omega), co_ge (l := b) (by omega)]; rfl
theorem plusI_tr (a b : List Int) : TrI (plusI a b) := trimI_tr _
def cvI : List Int → (Nat → Int) → Nat → Int
  | [], _, _ => 0
  | c :: _, g, 0 => c * g 0
  | c :: p, g, n + 1 => c * g (n + 1) + cvI p g n
def timesI (a b : List Int) : List Int := if a = [] ∨ b = [] then [] else (List.range (a.length + b.length - 1)).map (cvI a (co b))
theorem cvI_zero (g : Nat → Int) (hg : ∀ n, g n = 0) : ∀ (a : List Int) (n : Nat), cvI a g n = 0
  | [], _ => rfl
  | c :: a, 0 => by show c * g 0 = 0; rw [hg, Int.mul_zero]
  | c :: a, n + 1 => by show c * g (n + 1) + cvI a g n = 0; rw [hg, cvI_zero g hg a n, Int.mul_zero, Int.add_zero]
theorem cvI_high (b : List Int) : ∀ (a : List Int) (n : Nat), a.length + b.length ≤ n + 1 → cvI a (co b) n = 0
  | [], _, _ => rfl
  | c :: a, 0, h => by
    show c * co b 0 = 0
    rw [co_ge (l := b) (by rw [List.length_cons] at h; omega), Int.mul_zero]
  | c :: a, n + 1, h => by
    rw [List.length_cons] at h
    show c * co b (n + 1) + cvI a (co b) n = 0
    rw [cvI_high b a n (by omega), co_ge (l := b) (by omega), Int.mul_zero, Int.add_zero]
theorem timesI_co (a b : List Int) (n : Nat) : co (timesI a b) n = cvI a (co b) n := by
  unfold timesI
  split
  · rename_i h
    rcases h with h | h
    · rw [h]; rfl
    · rw [h, cvI_zero (co []) (fun n => rfl)]; rfl
  · rw [co_range]
    split
    · rfl
    · rw [cvI_high b a n (by omega)]
theorem cvI_cast (g : Nat → Int) : ∀ (a : List Int) (n : Nat), (cvI a g n : Rat) = cv (ra a) (fun n => (g n : Rat)) n
  | [], n => rfl
  | c :: a, 0 => by
    show ((c * g 0 : Int) : Rat) = (c : Rat) * (g 0 : Rat)
    rw [Rat.intCast_mul]
  | c :: a, n + 1 => by
    show ((c * g (n + 1) + cvI a g n : Int) : Rat) = (c : Rat) * (g (n + 1) : Rat) + cv (ra a) _ n
    rw [Rat.intCast_add, Rat.intCast_mul, cvI_cast g a n]
def slopeI (p : List Int) : List Int := (List.range (p.length - 1)).map fun (i : Nat) => ((i : Int) + 1) * co p (i + 1)
theorem slopeI_co (p : List Int) (n : Nat) : co (slopeI p) n = ((n : Int) + 1) * co p (n + 1) := by
  unfold slopeI
  rw [co_range]
  split
  · rfl
  · rw [co_ge (l := p) (by omega), Int.mul_zero]
def stepI (p : List Int) : List Int := p.foldr (fun c r => plusI (timesI r [1, 1]) [c]) []
theorem cvI_11 (a : List Int) : ∀ n, cvI a (co [1, 1]) n = match n with
    | 0 => co a 0
    | n + 1 => co a (n + 1) + co a n := by
  induction a with
  | nil => intro n; cases n <;> rfl
  | cons c a ih =>
    intro n
    cases n with
    | zero => show c * 1 = c; rw [Int.mul_one]
    | succ n =>
      show c * co [1, 1] (n + 1) + cvI a (co [1, 1]) n = co (c :: a) (n + 1) + co (c :: a) n
      rw [ih n, co_succ]
      cases n with
      | zero =>
        show c * 1 + co a 0 = co a 0 + c
        omega
      | succ n =>
        show c * co [1, 1] (n + 2) + (co a (n + 1) + co a n) = co a (n + 1) + co (c :: a) (n + 1)
        rw [show co [1, 1] (n + 2) = 0 from co_ge (by simp), co_succ c a n, Int.mul_zero]
        omega
theorem stepI_co : ∀ (p : List Int) (n : Nat), (co (stepI p) n : Rat) = sh 1 (ra p) n
  | [], n => rfl
  | c :: l, n => by
    have ih := stepI_co l
    show (co (plusI (timesI (stepI l) [1, 1]) [c]) n : Rat) = sh 1 ((c : Rat) :: ra l) n
    rw [plusI_co, timesI_co, cvI_11]
    cases n with
    | zero =>
      show ((co (stepI l) 0 + c : Int) : Rat) = (c : Rat) + 1 * sh 1 (ra l) 0
      rw [Rat.intCast_add, ih]; grind
    | succ n =>
      show ((co (stepI l) (n + 1) + co (stepI l) n + co [c] (n + 1) : Int) : Rat) = 1 * sh 1 (ra l) (n + 1) + sh 1 (ra l) n
      rw [co_succ, co_nil, Rat.intCast_add, Rat.intCast_add, ih, ih]
      show _ + _ + ((0 : Int) : Rat) = _
      rw [show ((0 : Int) : Rat) = 0 from rfl]; grind
def leftGo (kind : Nat) : List (List Int) → List Int → List Int → List Int
  | [], tot, _ => tot
  | p :: ps, tot, mv => leftGo kind ps (plusI tot (timesI p mv)) (if kind = 0 then slopeI mv else stepI mv)
def leftI (kind : Nat) (ps : List (List Int)) (y : List Int) : List Int := leftGo kind ps [] y
end Sl
set_option Elab.async false
set_option linter.all false
namespace Sl
open AlOne (Uni)
/-! ### the left side -/
/-- whole numbers that are s times those of p -/
def Rel (s : Rat) (a : List Int) (p : Uni) : Prop := ∀ n, (co a n : Rat) = s * cq p n
inductive RelAll (s : Rat) : List (List Int) → List Uni → Prop
  | nil : RelAll s [] []
  | cons {a : List Int} {p : Uni} {as : List (List Int)} {ps : List Uni} : Rel s a p → RelAll s as ps → RelAll s (a :: as) (p :: ps)
theorem cv_scale (s t : Rat) (g h : Nat → Rat) (hg : ∀ n, h n = t * g n) : ∀ (a p : List Rat), (∀ n, cq a n = s * cq p n) → ∀ n, cv a h n = s * t * cv p g n
  | [], p, e, n => by
    show (0 : Rat) = _
    have z : ∀ (p : List Rat), (∀ n, 0 = s * cq p n) → ∀ n, 0 = s * t * cv p g n := by
      intro p
      induction p with
      | nil => intro _ n; show (0 : Rat) = s * t * 0; grind
      | cons c p ih =>
        intro e n
        have h0 : 0 = s * c := e 0
        have ih' := ih fun n => by have := e (n + 1); rwa [cq_succ] at this
        cases n with
        | zero => show 0 = s * t * (c * g 0); grind
        | succ n => show 0 = s * t * (c * g (n + 1) + cv p g n); have := ih' n; grind
    exact z p (fun n => by have := e n; rwa [cq_nil] at this) n
  | c :: a, [], e, n => by
    show cv (c :: a) h n = s * t * 0
    have z : ∀ (a : List Rat), (∀ n, cq a n = s * 0) → ∀ n, cv a h n = 0 := by
      intro a
      induction a with
      | nil => intro _ n; rfl
      | cons c p ih =>
        intro e n
        have h0 : c = s * 0 := e 0
        have ih' := ih fun n => by have := e (n + 1); rwa [cq_succ] at this
        cases n with
        | zero => show c * h 0 = 0; grind
        | succ n => show c * h (n + 1) + cv p h n = 0; have := ih' n; grind
    rw [z (c :: a) (fun n => by have := e n; rwa [cq_nil] at this) n]; grind
  | c :: a, d :: p, e, n => by
    have h0 : c = s * d := e 0
    have ih := cv_scale s t g h hg a p fun n => by have := e (n + 1); rwa [cq_succ, cq_succ] at this
    cases n with
    | zero => show c * h 0 = s * t * (d * g 0); rw [hg, h0]; grind
    | succ n => show c * h (n + 1) + cv a h n = s * t * (d * g (n + 1) + cv p g n); rw [hg, ih n, h0]; grind
theorem times_rel {s t : Rat} {a b : List Int} {p q : Uni} (ha : Rel s a p) (hb : Rel t b q) : Rel (s * t) (timesI a b) (AlOne.mul p q) := fun n => by
  rw [timesI_co, cvI_cast, mul_cq]
  exact cv_scale s t (cq q) _ hb (ra a) p (fun n => by rw [ra_cq]; exact ha n) n
theorem plus_rel {s : Rat} {a b : List Int} {p q : Uni} (ha : Rel s a p) (hb : Rel s b q) : Rel s (plusI a b) (AlOne.add p q) := fun n => by
  rw [plusI_co, add_cq, Rat.intCast_add, ha n, hb n]; grind
theorem slope_rel {s : Rat} {a : List Int} {p : Uni} (ha : Rel s a p) : Rel s (slopeI a) (AlOne.slope p) := fun n => by
  rw [slopeI_co, slope_cq, Rat.intCast_mul, ha (n + 1), Rat.intCast_add]
  rw [Rat.intCast_natCast, show ((1 : Int) : Rat) = 1 from rfl]
  grind
theorem slopes_succ (n : Nat) : ∀ y : Uni, Al10.slopes (n + 1) y = AlOne.slope (Al10.slopes n y) := by
  induction n with
  | zero => intro y; rfl
  | succ n ih => intro y; exact ih (AlOne.slope y)
theorem step_rel {t : Rat} {a : List Int} {y : Uni} {j : Nat} (ha : ∀ n, (co a n : Rat) = t * sh (j : Rat) y n) : ∀ n, (co (stepI a) n : Rat) = t * sh ((j + 1 : Nat) : Rat) y n := fun n => by
  rw [stepI_co]
  have hc := fun n => compose_cq (j : Rat) y n
  have e : ∀ n, cq (ra a) n = cq ((AlOne.compose y (AlOne.trim [(j : Rat), 1])).map fun x => t * x) n := fun n => by
    rw [ra_cq, map_cq (fun x => t * x) (Rat.mul_zero t), hc, ha]
  rw [sh_congr _ _ n e, sh_map, sh_more (j : Rat) y _ hc n]
  have : ((j : Nat) : Rat) + 1 = ((j + 1 : Nat) : Rat) := by grind
  rw [this]
theorem ahead_rel {t : Rat} {a : List Int} {y : Uni} {j : Nat} : (∀ n, (co a n : Rat) = t * sh (j : Rat) y n) ↔ Rel t a (Al10.ahead j y) := by
  unfold Rel Al10.ahead
  constructor
  · intro h n; rw [compose_cq]; exact h n
  · intro h n; have := h n; rwa [compose_cq] at this
/-- behind j parts -/
theorem term_rel {kind : Nat} {t : Rat} {mv : List Int} {y : Uni} {j : Nat} (h : Rel t mv (Al10.term kind j y)) : Rel t (if kind = 0 then slopeI mv else stepI mv) (Al10.term kind (j + 1) y) := by
  unfold Al10.term at *
  by_cases k : kind = 0
  · rw [if_pos k] at h ⊢
    rw [if_pos k, slopes_succ]
    exact slope_rel h
  · rw [if_neg k] at h ⊢
    rw [if_neg k]
    exact ahead_rel.mp (step_rel (ahead_rel.mpr h))
theorem term_zero {kind : Nat} {t : Rat} {a : List Int} {y : Uni} (h : Rel t a y) : Rel t a (Al10.term kind 0 y) := by
  unfold Al10.term
  split
  · exact h
  · refine ahead_rel.mp fun n => ?_
    show _ = t * sh ((0 : Nat) : Rat) y n
    rw [show ((0 : Nat) : Rat) = 0 from rfl, sh_nil0]
    exact h n
def leftFrom (kind : Nat) (y : Uni) : Nat → List Uni → Uni → Uni
  | _, [], s => s
  | j, p :: ps, s => leftFrom kind y (j + 1) ps (AlOne.add s (AlOne.mul p (Al10.term kind j y)))
theorem left_from (kind : Nat) (y : Uni) : ∀ (ps : List Uni) (j : Nat) (s : Uni), ((ps.zip (List.range' j ps.length)).map fun (x : Uni × Nat) => AlOne.mul x.1 (Al10.term kind x.2 y)).foldl AlOne.add s = leftFrom kind y j ps s
  | [], j, s => rfl
  | p :: ps, j, s => by
    rw [List.length_cons, List.range'_succ, List.zip_cons_cons, List.map_cons, List.foldl_cons]
    exact left_from kind y ps (j + 1) _
theorem left_eq (kind : Nat) (ps : List Uni) (y : Uni) : Al10.left kind ps y = leftFrom kind y 0 ps [] := by
  unfold Al10.left
  rw [List.range_eq_range']
  exact left_from kind y ps 0 []
theorem leftGo_rel {kind : Nat} {s t : Rat} {y : Uni} {as : List (List Int)} {ps : List Uni} (r : RelAll s as ps) : ∀ {j : Nat} {tot mv : List Int} {T : Uni}, Rel (s * t) tot T → Rel t mv (Al10.term kind j y) → Rel (s * t) (leftGo kind as tot mv) (leftFrom kind y j ps T) := by
  induction r with
  | nil => intro j tot mv T h _; exact h
  | cons ha hr ih => intro j tot mv T h hm; exact ih (plus_rel h (times_rel ha hm)) (term_rel hm)
theorem left_rel {kind : Nat} {s t : Rat} {as : List (List Int)} {ps : List Uni} {a : List Int} {y : Uni} (h : RelAll s as ps) (hy : Rel t a y) : Rel (s * t) (leftI kind as a) (Al10.left kind ps y) := by
  rw [left_eq]
  refine leftGo_rel h (fun n => ?_) (term_zero hy)
  show ((0 : Int) : Rat) = s * t * 0
  rw [show ((0 : Int) : Rat) = 0 from rfl]; grind
theorem leftFrom_tr (kind : Nat) (y : Uni) : ∀ (ps : List Uni) (j : Nat) (s : Uni), Tr s → Tr (leftFrom kind y j ps s)
  | [], _, _, h => h
  | p :: ps, j, s, _ => leftFrom_tr kind y ps (j + 1) _ (add_tr _ _)
theorem left_tr (kind : Nat) (ps : List Uni) (y : Uni) : Tr (Al10.left kind ps y) := by rw [left_eq]; exact leftFrom_tr kind y ps 0 [] tr_nil
end Sl
set_option Elab.async false
set_option linter.all false
namespace Sl
open AlOne (Uni)
open AlBase (Poly Mono)
/-! ### a polynomial's text from its numbers -/
theorem plusX_nil (n : Nat) : ∀ l : PX, plusX n 0 l = l
  | [] => by unfold plusX; rw [if_pos rfl]
  | (m, d) :: l => by unfold plusX; rw [if_pos rfl]
theorem plusX_high {n : Nat} {c : Rat} (hc : c ≠ 0) {l : PX} (h : ∀ y ∈ l, y.1 < n) : plusX n c l = (n, c) :: l := by
  cases l with
  | nil => unfold plusX; rw [if_neg hc]
  | cons x l =>
    have := h x (List.mem_cons_self ..)
    unfold plusX
    rw [if_neg hc, if_neg (by omega), if_pos this]
def asc (j : Nat) : List Rat → PX
  | [] => []
  | c :: p => (j, c) :: asc (j + 1) p
theorem addX_asc : ∀ (p : List Rat) (j : Nat) (s : PX), (∀ y ∈ s, y.1 < j) → addX s (asc j p) = ((asc j p).filter fun x => decide (x.2 ≠ 0)).reverse ++ s
  | [], j, s, _ => rfl
  | c :: p, j, s, h => by
    show addX (plusX j c s) (asc (j + 1) p) = _
    by_cases hc : c = 0
    · rw [hc, plusX_nil, addX_asc p (j + 1) s fun y hy => by have := h y hy; omega]
      show _ = (List.filter _ ((j, (0 : Rat)) :: asc (j + 1) p)).reverse ++ s
      rw [List.filter_cons, if_neg (by simp)]
    · rw [plusX_high hc h, addX_asc p (j + 1) _ fun y hy => by
        rcases List.mem_cons.mp hy with hy | hy
        · rw [hy]; show j < j + 1; omega
        · have := h y hy; omega]
      show _ = (List.filter _ ((j, c) :: asc (j + 1) p)).reverse ++ s
      rw [List.filter_cons, if_pos (by simpa using hc), List.reverse_cons, List.append_assoc]
      rfl
theorem asc_zip : ∀ (p : List Rat) (j : Nat), ((p.zip (List.range' j p.length)).map fun (x : Rat × Nat) => (if x.2 = 0 then [] else [(AlOne.X, x.2)], x.1)) = toP (asc j p)
  | [], j => rfl
  | c :: p, j => by
    rw [List.length_cons, List.range'_succ, List.zip_cons_cons, List.map_cons, asc_zip p (j + 1)]
    rfl
/-- highest power first, without zeros -/
def desc (p : List Rat) : PX := ((asc 0 p).filter fun x => decide (x.2 ≠ 0)).reverse
theorem toPoly_desc (p : Uni) : AlOne.toPoly p = toP (desc p) := by
  unfold AlOne.toPoly AlBase.gather
  rw [List.range_eq_range', asc_zip, show ([] : Poly) = toP [] from rfl, add_toP, addX_asc p 0 [] (fun y hy => by cases hy), List.append_nil]
  rfl
theorem text_desc (p : Uni) : AlOne.text p = write ((desc p).map tm) := by
  unfold AlOne.text
  rw [toPoly_desc, text_write]
/-! ### by a whole numerator each and one denominator -/
def lowG (n m : Int) : Int := if m < 0 then -(Nat.gcd n.natAbs m.natAbs : Nat) else (Nat.gcd n.natAbs m.natAbs : Nat)
def lowT (i : Nat) (n m : Int) : Tm := ⟨i, n.fdiv (lowG n m), (m.fdiv (lowG n m)).toNat⟩
theorem lowG_dvd {n m : Int} : lowG n m ∣ n ∧ lowG n m ∣ m := by
  have h1 : ((Nat.gcd n.natAbs m.natAbs : Nat) : Int) ∣ n := Int.ofNat_dvd_left.mpr (Nat.gcd_dvd_left _ _)
  have h2 : ((Nat.gcd n.natAbs m.natAbs : Nat) : Int) ∣ m := Int.ofNat_dvd_left.mpr (Nat.gcd_dvd_right _ _)
  unfold lowG
  split
  · exact ⟨Int.neg_dvd.mpr h1, Int.neg_dvd.mpr h2⟩
  · exact ⟨h1, h2⟩
theorem lowG_abs (n m : Int) : (lowG n m).natAbs = Nat.gcd n.natAbs m.natAbs := by unfold lowG; split <;> omega
theorem low_parts {n m : Int} (h : m ≠ 0) : ∃ a : Int, ∃ b : Nat, n = lowG n m * a ∧ m = lowG n m * b ∧ 0 < b ∧ Nat.gcd a.natAbs b = 1 ∧ lowG n m ≠ 0 := by
  have hg : 0 < Nat.gcd n.natAbs m.natAbs := Nat.gcd_pos_of_pos_right _ (by omega)
  have hne : lowG n m ≠ 0 := fun z => by have := lowG_abs n m; rw [z] at this; simp at this; omega
  obtain ⟨⟨a, ea⟩, ⟨b, eb⟩⟩ := lowG_dvd (n := n) (m := m)
  have hb : 0 < b := by
    rcases Int.lt_trichotomy m 0 with h1 | h1 | h1
    · have : lowG n m < 0 := by unfold lowG; rw [if_pos h1]; omega
      rcases Int.lt_trichotomy b 0 with k | k | k
      · have := Int.mul_pos_of_neg_of_neg this k; omega
      · rw [k, Int.mul_zero] at eb; omega
      · exact k
    · omega
    · have : 0 < lowG n m := by unfold lowG; rw [if_neg (by omega)]; omega
      rcases Int.lt_trichotomy b 0 with k | k | k
      · have := Int.mul_neg_of_pos_of_neg this k; omega
      · rw [k, Int.mul_zero] at eb; omega
      · exact k
  refine ⟨a, b.toNat, ea, by rw [Int.toNat_of_nonneg (by omega)]; exact eb, by omega, ?_, hne⟩
  have e1 : n.natAbs = Nat.gcd n.natAbs m.natAbs * a.natAbs := by
    have := congrArg Int.natAbs ea
    rwa [Int.natAbs_mul, lowG_abs] at this
  have e2 : m.natAbs = Nat.gcd n.natAbs m.natAbs * b.toNat := by
    have := congrArg Int.natAbs eb
    rw [Int.natAbs_mul, lowG_abs] at this
    rw [show b.toNat = b.natAbs by omega]
    exact this
  have e3 : Nat.gcd n.natAbs m.natAbs * Nat.gcd a.natAbs b.toNat = Nat.gcd n.natAbs m.natAbs * 1 := by
    rw [← Nat.gcd_mul_left, ← e1, ← e2, Nat.mul_one]
  exact Nat.eq_of_mul_eq_mul_left hg e3
theorem low_val {n m : Int} (h : m ≠ 0) : ∃ a : Int, ∃ b : Nat, n.fdiv (lowG n m) = a ∧ m.fdiv (lowG n m) = b ∧ 0 < b ∧ Nat.gcd a.natAbs b = 1 ∧ (n : Rat) / (m : Rat) = (a : Rat) / (b : Rat) := by
  obtain ⟨a, b, ea, eb, hb, hg, hne⟩ := low_parts (n := n) h
  refine ⟨a, b, ?_, ?_, hb, hg, ?_⟩
  · generalize lowG n m = g at *
    rw [ea, Int.mul_fdiv_cancel_left a hne]
  · generalize lowG n m = g at *
    rw [eb, Int.mul_fdiv_cancel_left _ hne]
  · generalize lowG n m = g at *
    rw [ea, eb, Rat.intCast_mul, Rat.intCast_mul, Rat.intCast_natCast]
    have hg0 : (g : Rat) ≠ 0 := fun z => hne (Rat.intCast_eq_zero_iff.mp z)
    have hb0 : (b : Rat) ≠ 0 := fun z => by
      have := Rat.natCast_eq_zero_iff.mp z
      omega
    grind
theorem tm_low {i : Nat} {n m : Int} {c : Rat} (hm : m ≠ 0) (h : (n : Rat) = (m : Rat) * c) : tm (i, c) = lowT i n m := by
  obtain ⟨a, b, ea, eb, hb, hg, e⟩ := low_val (n := n) hm
  have hm0 : (m : Rat) ≠ 0 := fun z => hm (Rat.intCast_eq_zero_iff.mp z)
  have ec : c = (a : Rat) / (b : Rat) := by
    rw [← e, h]; grind
  have hr := rat_of hb hg
  unfold tm lowT
  rw [ea, eb]
  show Tm.mk i c.num c.den = _
  rw [ec, hr.1, hr.2]
  rfl
theorem lowT_good {i : Nat} {n m : Int} (hm : m ≠ 0) (hn : n ≠ 0) : Good (lowT i n m) := by
  have hm0 : (m : Rat) ≠ 0 := fun z => hm (Rat.intCast_eq_zero_iff.mp z)
  have hn0 : (n : Rat) ≠ 0 := fun z => hn (Rat.intCast_eq_zero_iff.mp z)
  have e : (n : Rat) = (m : Rat) * ((n : Rat) / (m : Rat)) := by grind
  rw [← tm_low (i := i) hm e]
  exact tm_good (fun z => by
    have z' : (n : Rat) / (m : Rat) = 0 := z
    rw [z', Rat.mul_zero] at e
    exact hn0 e)
/-- as the program tells it -/
def termsOver (a : List Int) (m : Int) : List Tm := (((List.range a.length).filter fun i => decide (co a i ≠ 0)).reverse).map fun i => lowT i (co a i) m
theorem asc_filter : ∀ (p : List Rat) (j : Nat), (asc j p).filter (fun x => decide (x.2 ≠ 0)) = ((List.range' j p.length).filter fun i => decide (cq p (i - j) ≠ 0)).map fun i => (i, cq p (i - j))
  | [], j => rfl
  | c :: p, j => by
    have ih := asc_filter p (j + 1)
    have e1 : (List.range' (j + 1) p.length).filter (fun i => decide (cq (c :: p) (i - j) ≠ 0)) = (List.range' (j + 1) p.length).filter fun i => decide (cq p (i - (j + 1)) ≠ 0) := by
      refine List.filter_congr fun i hi => ?_
      have := (List.mem_range'_1.mp hi).1
      rw [show i - j = (i - (j + 1)) + 1 by omega, cq_succ]
    have e2 : ((List.range' (j + 1) p.length).filter fun i => decide (cq p (i - (j + 1)) ≠ 0)).map (fun i => (i, cq (c :: p) (i - j))) = ((List.range' (j + 1) p.length).filter fun i => decide (cq p (i - (j + 1)) ≠ 0)).map fun i => (i, cq p (i - (j + 1))) := by
      refine List.map_congr_left fun i hi => ?_
      have := (List.mem_range'_1.mp (List.mem_filter.mp hi).1).1
      rw [show i - j = (i - (j + 1)) + 1 by omega, cq_succ]
    show List.filter _ ((j, c) :: asc (j + 1) p) = _
    rw [List.length_cons, List.range'_succ, List.filter_cons, List.filter_cons, ih, e1]
    have e0 : cq (c :: p) (j - j) = c := by rw [Nat.sub_self]; rfl
    rw [e0]
    by_cases hc : c = 0
    · rw [if_neg (by simpa using hc), if_neg (by simpa using hc), e2]
    · rw [if_pos (by simpa using hc), if_pos (by simpa using hc), List.map_cons, e2, e0]
theorem range_filter {f : Nat → Bool} {m n : Nat} (h : m ≤ n) (hf : ∀ i, m ≤ i → f i = false) : (List.range n).filter f = (List.range m).filter f := by
  obtain ⟨k, rfl⟩ : ∃ k, n = m + k := ⟨n - m, by omega⟩
  rw [List.range_add, List.filter_append]
  have : ((List.range k).map (m + ·)).filter f = [] := by
    rw [List.filter_eq_nil_iff]
    intro x hx
    obtain ⟨i, _, rfl⟩ := List.mem_map.mp hx
    rw [hf _ (by omega)]; decide
  rw [this, List.append_nil]
theorem cq_ge {p : List Rat} {n : Nat} (h : p.length ≤ n) : cq p n = 0 := by
  unfold cq
  rw [List.getD_eq_getElem?_getD, List.getElem?_eq_none h]; rfl
/-- **The text of a polynomial whose numbers are those of a, over m.** -/
theorem text_over {a : List Int} {m : Int} {p : Uni} (hm : m ≠ 0) (h : Rel (m : Rat) a p) : AlOne.text p = write (termsOver a m) := by
  rw [text_desc]
  congr 1
  have hm0 : (m : Rat) ≠ 0 := fun z => hm (Rat.intCast_eq_zero_iff.mp z)
  have hz : ∀ i, cq p i ≠ 0 ↔ co a i ≠ 0 := fun i => by
    have e := h i
    constructor
    · intro k z
      rw [z] at e
      have e' : (0 : Rat) = (m : Rat) * cq p i := e
      rcases Rat.mul_eq_zero.mp e'.symm with q | q
      · exact hm0 q
      · exact k q
    · intro k z
      rw [z, Rat.mul_zero] at e
      exact k (Rat.intCast_eq_zero_iff.mp e)
  have ef : (List.range p.length).filter (fun i => decide (cq p i ≠ 0)) = (List.range a.length).filter fun i => decide (co a i ≠ 0) := by
    have e1 : (fun i => decide (cq p i ≠ 0)) = fun i => decide (co a i ≠ 0) := by
      funext i
      by_cases q : cq p i ≠ 0
      · rw [decide_eq_true q, decide_eq_true ((hz i).mp q)]
      · rw [decide_eq_false q, decide_eq_false (fun z => q ((hz i).mpr z))]
    rw [e1]
    rcases Nat.le_total p.length a.length with hl | hl
    · rw [range_filter hl]
      intro i hi
      exact decide_eq_false (fun z => (hz i).mpr z (cq_ge hi))
    · rw [range_filter hl]
      intro i hi
      exact decide_eq_false (fun z => z (co_ge hi))
  unfold desc termsOver
  rw [asc_filter, ← List.range_eq_range', List.map_reverse, List.map_map, List.map_reverse]
  have e2 : (List.range p.length).filter (fun i => decide (cq p (i - 0) ≠ 0)) = (List.range p.length).filter fun i => decide (cq p i ≠ 0) := rfl
  rw [e2, ef]
  congr 1
  refine List.map_congr_left fun i _ => ?_
  exact tm_low hm (h i)
end Sl
set_option Elab.async false
set_option linter.all false
namespace Sl
open AlOne (Uni)
/-! ### what is read, as numbers -/
def bigT (t : Tm) : Bool := decide (4 < t.p) || (decide (9999 < t.n.natAbs) || decide (9999 < t.d))
def tooBig (l : List Tm) : Bool := l.any bigT
theorem cf_mem : ∀ (l : PX) (n : Nat), cf l n = 0 ∨ (n, cf l n) ∈ l
  | [], n => Or.inl rfl
  | (m, c) :: l, n => by
    unfold cf
    split
    · rename_i h; rw [← h]; exact Or.inr (List.mem_cons_self ..)
    · rcases cf_mem l n with h | h
      · exact Or.inl h
      · exact Or.inr (List.mem_cons_of_mem _ h)
theorem cf_at : ∀ (l : PX), XC l → ∀ x ∈ l, cf l x.1 = x.2
  | [], _, x, h => by cases h
  | (m, c) :: l, k, x, h => by
    unfold cf
    rcases List.mem_cons.mp h with h | h
    · rw [h, if_pos rfl]
    · have := k.head x h
      rw [if_neg (by simp only at this; omega)]
      exact cf_at l k.tail x h
theorem cf_high {l : PX} (h : XC l) {n : Nat} (hn : top l < n) : cf l n = 0 := by
  refine cf_low l fun y hy => ?_
  cases l with
  | nil => cases hy
  | cons x l =>
    rcases List.mem_cons.mp hy with hy | hy
    · rw [hy]; have : x.1 < n := hn; omega
    · have := h.head y hy
      have h2 : x.1 < n := hn
      omega
theorem cq_range (f : Nat → Rat) (m n : Nat) : cq ((List.range m).map f) n = if n < m then f n else 0 := by
  unfold cq
  rw [List.getD_eq_getElem?_getD, List.getElem?_map]
  by_cases h : n < m
  · rw [List.getElem?_range h, if_pos h]; rfl
  · rw [List.getElem?_eq_none (by rw [List.length_range]; omega), if_neg h]; rfl
theorem uniOf_cq {l : PX} (h : XC l) (ht : ¬ 100 < top l) (n : Nat) : cq (uniOf l) n = cf l n := by
  unfold uniOf
  rw [if_neg ht, trim_cq, cq_range]
  split
  · rfl
  · exact (cf_high h (by omega)).symm
theorem uniOf_tr {l : PX} (ht : ¬ 100 < top l) : Tr (uniOf l) := by
  unfold uniOf
  rw [if_neg ht]
  exact trim_tr _
theorem numberOk_iff (c : Rat) : Al10.numberOk c = true ↔ c.num.natAbs ≤ 9999 ∧ c.den ≤ 9999 := by
  unfold Al10.numberOk
  rw [Bool.and_eq_true, decide_eq_true_iff, decide_eq_true_iff]
  omega
/-- the polynomial's list has no more than one number for each power up to the highest -/
theorem uniOf_form {x : Nat × Rat} {l : PX} (h : XC (x :: l)) (ht : ¬ 100 < x.1) : uniOf (x :: l) = (List.range (x.1 + 1)).map (cf (x :: l)) := by
  unfold uniOf
  rw [if_neg (show ¬ 100 < top (x :: l) from ht)]
  refine trim_self _ fun c hc => ?_
  have e : (List.range (top (x :: l) + 1)).map (cf (x :: l)) = (List.range x.1).map (cf (x :: l)) ++ [cf (x :: l) x.1] := by
    show (List.range (x.1 + 1)).map _ = _
    rw [List.range_succ, List.map_append]; rfl
  rw [e, List.getLast?_concat] at hc
  have e2 : cf (x :: l) x.1 = x.2 := cf_at _ h x (List.mem_cons_self ..)
  rw [e2] at hc
  cases hc
  exact h.nz x (List.mem_cons_self ..)
theorem fits_spec {ts : List Tm} (h : Valid ts) : Al10.fits (uniOf (ts.map xr)) = !tooBig ts := by
  cases ts with
  | nil => decide +kernel
  | cons t r =>
    have hx := valid_xc h
    rw [List.map_cons] at hx ⊢
    by_cases ht : 100 < t.p
    · have e1 : uniOf (xr t :: r.map xr) = AlOne.xpow 100 := by
        unfold uniOf
        rw [if_pos (show 100 < top (xr t :: r.map xr) from ht)]
      have e2 : tooBig (t :: r) = true := by
        unfold tooBig bigT
        rw [List.any_cons, decide_eq_true (by omega)]; rfl
      rw [e1, e2]
      decide +kernel
    · rw [uniOf_form hx ht]
      have hlow : ∀ y ∈ (t :: r), y.p ≤ t.p := fun y hy => by
        rcases List.mem_cons.mp hy with hy | hy
        · rw [hy]; omega
        · have := (List.pairwise_cons.mp h.fall).1 y hy; omega
      unfold Al10.fits
      rw [List.length_map, List.length_range]
      by_cases h4 : t.p ≤ 4
      · rw [decide_eq_true (by show t.p + 1 ≤ 5; omega), Bool.true_and]
        cases hb : tooBig (t :: r) with
        | false =>
          show _ = true
          rw [List.all_eq_true]
          intro c hc
          obtain ⟨i, _, rfl⟩ := List.mem_map.mp hc
          rcases cf_mem (xr t :: r.map xr) i with z | z
          · rw [z]; decide +kernel
          · rw [← List.map_cons] at z
            obtain ⟨y, hy, ey⟩ := List.mem_map.mp z
            have hg := h.good y hy
            have ev : cf (xr t :: r.map xr) i = (y.n : Rat) / (y.d : Rat) := by
              rw [← List.map_cons]; exact (congrArg Prod.snd ey).symm
            have hr := rat_of hg.d0 hg.co
            rw [numberOk_iff, ev, hr.1, hr.2]
            have := List.any_eq_false.mp hb y hy
            unfold bigT at this
            simp at this
            omega
        | true =>
          show _ = false
          rw [List.all_eq_false]
          obtain ⟨y, hy, by_⟩ := List.any_eq_true.mp hb
          have hg := h.good y hy
          have hl := hlow y hy
          have ev : cf ((t :: r).map xr) y.p = (y.n : Rat) / (y.d : Rat) := cf_at _ (by rw [List.map_cons]; exact hx) (xr y) (List.mem_map.mpr ⟨y, hy, rfl⟩)
          refine ⟨cf ((t :: r).map xr) y.p, List.mem_map.mpr ⟨y.p, List.mem_range.mpr (by show y.p < t.p + 1; omega), by rw [List.map_cons]⟩, ?_⟩
          have hr := rat_of hg.d0 hg.co
          rw [numberOk_iff, ev, hr.1, hr.2]
          unfold bigT at by_
          simp at by_
          omega
      · rw [decide_eq_false (by show ¬ t.p + 1 ≤ 5; omega), Bool.false_and]
        have e2 : tooBig (t :: r) = true := by
          unfold tooBig bigT
          rw [List.any_cons, decide_eq_true (by omega)]; rfl
        rw [e2]; rfl
theorem small_top {ts : List Tm} (h : tooBig ts = false) : ¬ 100 < top (ts.map xr) := by
  cases ts with
  | nil => decide
  | cons t r =>
    have := List.any_eq_false.mp h t (List.mem_cons_self ..)
    unfold bigT at this
    simp at this
    show ¬ 100 < t.p
    omega
theorem uni_cq {ts : List Tm} (h : Valid ts) (hb : tooBig ts = false) (n : Nat) : cq (uniOf (ts.map xr)) n = cf (ts.map xr) n := uniOf_cq (valid_xc h) (small_top hb) n
theorem uni_tr {ts : List Tm} (hb : tooBig ts = false) : Tr (uniOf (ts.map xr)) := uniOf_tr (small_top hb)
/-! ### made whole -/
def numsGo (c : Nat) : List Tm → List Int → List Int
  | [], l => l
  | t :: r, l => numsGo c r (l.set t.p (((c / t.d : Nat) : Int) * t.n))
def wholeI (ts : List Tm) (c : Nat) : List Int := trimI (numsGo c ts (List.replicate 5 0))
theorem co_set {l : List Int} {i n : Nat} {x : Int} (h : i < l.length) : co (l.set i x) n = if i = n then x else co l n := by
  unfold co
  rw [List.getD_eq_getElem?_getD, List.getD_eq_getElem?_getD]
  split
  · rename_i e; subst e; rw [List.getElem?_set_self h]; rfl
  · rename_i e; rw [List.getElem?_set_ne e]
theorem numsGo_len (c : Nat) : ∀ (ts : List Tm) (l : List Int), (numsGo c ts l).length = l.length
  | [], l => rfl
  | t :: r, l => by show (numsGo c r _).length = _; rw [numsGo_len c r, List.length_set]
theorem numsGo_rel (c : Nat) (hc : 0 < c) : ∀ (ts : List Tm) (l : List Int), l.length = 5 → (∀ t ∈ ts, t.p < 5 ∧ 0 < t.d ∧ t.d ∣ c) → ts.Pairwise (fun a b => b.p < a.p) → ∀ n, (co (numsGo c ts l) n : Rat) = if n ∈ ts.map (fun t => t.p) then (c : Rat) * cf (ts.map xr) n else (co l n : Rat)
  | [], l, _, _, _, n => by simp [numsGo]
  | t :: r, l, hl, h, hp, n => by
    have ht := h t (List.mem_cons_self ..)
    have ih := numsGo_rel c hc r (l.set t.p (((c / t.d : Nat) : Int) * t.n)) (by rw [List.length_set, hl]) (fun s hs => h s (List.mem_cons_of_mem _ hs)) (List.pairwise_cons.mp hp).2 n
    show (co (numsGo c r _) n : Rat) = _
    rw [ih, List.map_cons, List.map_cons]
    have hlow : ∀ y ∈ r, y.p < t.p := (List.pairwise_cons.mp hp).1
    have ecf : cf (xr t :: r.map xr) n = if t.p = n then (t.n : Rat) / (t.d : Rat) else cf (r.map xr) n := rfl
    rw [ecf]
    by_cases e : t.p = n
    · subst e
      have h1 : t.p ∉ r.map fun t => t.p := fun z => by
        obtain ⟨y, hy, ey⟩ := List.mem_map.mp z
        have := hlow y hy; omega
      rw [if_neg h1, if_pos (List.mem_cons_self ..), if_pos rfl, co_set (by rw [hl]; exact ht.1), if_pos rfl]
      obtain ⟨k, hk⟩ := ht.2.2
      have hd0 : (t.d : Rat) ≠ 0 := fun z => by have := Rat.natCast_eq_zero_iff.mp z; omega
      have ek : c / t.d = k := by rw [hk]; exact Nat.mul_div_cancel_left k ht.2.1
      rw [ek, hk, Rat.intCast_mul, Rat.intCast_natCast, Rat.natCast_mul]
      grind
    · rw [if_neg e, co_set (by rw [hl]; exact ht.1), if_neg e]
      by_cases m : n ∈ r.map fun t => t.p
      · rw [if_pos m, if_pos (List.mem_cons_of_mem _ m)]
      · have m2 : n ∉ t.p :: r.map fun t => t.p := fun z => by
          rcases List.mem_cons.mp z with z | z
          · exact e z.symm
          · exact m z
        rw [if_neg m, if_neg m2]
theorem whole_rel {ts : List Tm} {c : Nat} (h : Valid ts) (hb : tooBig ts = false) (hc : 0 < c) (hd : ∀ t ∈ ts, t.d ∣ c) : Rel (c : Rat) (wholeI ts c) (uniOf (ts.map xr)) := fun n => by
  unfold wholeI
  have hp : ∀ t ∈ ts, t.p < 5 ∧ 0 < t.d ∧ t.d ∣ c := fun t ht => by
    have := List.any_eq_false.mp hb t ht
    unfold bigT at this
    simp at this
    exact ⟨by omega, (h.good t ht).d0, hd t ht⟩
  rw [trimI_co, numsGo_rel c hc ts _ (by simp) hp h.fall, uni_cq h hb]
  split
  · rfl
  · rename_i m
    rw [cf_low (ts.map xr) (n := n) (fun y hy => by
      obtain ⟨t, ht, rfl⟩ := List.mem_map.mp hy
      exact fun z => m (List.mem_map.mpr ⟨t, ht, z⟩)), Rat.mul_zero]
    have : co (List.replicate 5 0) n = 0 := by
      unfold co
      rw [List.getD_eq_getElem?_getD, List.getElem?_replicate]
      split <;> rfl
    rw [this]; rfl
/-- the least that all denominators go into -/
def lcmGo : List Tm → Nat → Nat
  | [], c => c
  | t :: r, c => lcmGo r (Nat.lcm c t.d)
def lcmAll : List (List Tm) → Nat → Nat
  | [], c => c
  | ts :: r, c => lcmAll r (lcmGo ts c)
theorem lcmGo_dvd : ∀ (ts : List Tm) (c : Nat), c ∣ lcmGo ts c ∧ ∀ t ∈ ts, t.d ∣ lcmGo ts c
  | [], c => ⟨Nat.dvd_refl c, fun t h => by cases h⟩
  | t :: r, c => by
    have ih := lcmGo_dvd r (Nat.lcm c t.d)
    refine ⟨Nat.dvd_trans (Nat.dvd_lcm_left _ _) ih.1, fun s hs => ?_⟩
    rcases List.mem_cons.mp hs with hs | hs
    · rw [hs]; exact Nat.dvd_trans (Nat.dvd_lcm_right _ _) ih.1
    · exact ih.2 s hs
theorem lcmAll_dvd : ∀ (l : List (List Tm)) (c : Nat), c ∣ lcmAll l c ∧ ∀ ts ∈ l, ∀ t ∈ ts, t.d ∣ lcmAll l c
  | [], c => ⟨Nat.dvd_refl c, fun t h => by cases h⟩
  | ts :: r, c => by
    have ih := lcmAll_dvd r (lcmGo ts c)
    have h1 := lcmGo_dvd ts c
    refine ⟨Nat.dvd_trans h1.1 ih.1, fun s hs t ht => ?_⟩
    rcases List.mem_cons.mp hs with hs | hs
    · rw [hs] at ht; exact Nat.dvd_trans (h1.2 t ht) ih.1
    · exact ih.2 s hs t ht
theorem lcmGo_pos : ∀ (ts : List Tm) (c : Nat), 0 < c → (∀ t ∈ ts, 0 < t.d) → 0 < lcmGo ts c
  | [], c, h, _ => h
  | t :: r, c, h, k => lcmGo_pos r _ (Nat.lcm_pos h (k t (List.mem_cons_self ..))) fun s hs => k s (List.mem_cons_of_mem _ hs)
theorem lcmAll_pos : ∀ (l : List (List Tm)) (c : Nat), 0 < c → (∀ ts ∈ l, ∀ t ∈ ts, 0 < t.d) → 0 < lcmAll l c
  | [], c, h, _ => h
  | ts :: r, c, h, k => lcmAll_pos r _ (lcmGo_pos ts c h (k ts (List.mem_cons_self ..))) fun s hs => k s (List.mem_cons_of_mem _ hs)
end Sl
set_option Elab.async false
set_option linter.all false
namespace St
open AlOne (Uni value)
open Sl
/-! ### values -/
theorem value_trim (x : Rat) : ∀ l : List Rat, value x (AlOne.trim l) = value x l
  | [] => rfl
  | c :: l => by
    have ih := value_trim x l
    unfold AlOne.trim
    split
    · rename_i h
      rw [h] at ih
      have ih' : value x l = 0 := ih.symm
      split
      · rename_i h0
        show (0 : Rat) = c + x * value x l
        rw [h0, ih']; grind
      · show c + x * 0 = c + x * value x l
        rw [ih']
    · show c + x * value x (AlOne.trim l) = c + x * value x l
      rw [ih]
theorem value_addRaw (x : Rat) : ∀ p q : List Rat, value x (AlOne.addRaw p q) = value x p + value x q
  | [], q => by
    have : AlOne.addRaw [] q = q := by cases q <;> rfl
    rw [this]; show _ = 0 + _; rw [Rat.zero_add]
  | c :: p, [] => by show value x (c :: p) = _ + 0; rw [Rat.add_zero]
  | c :: p, d :: q => by
    show (c + d) + x * value x (AlOne.addRaw p q) = (c + x * value x p) + (d + x * value x q)
    rw [value_addRaw x p q]; grind
theorem value_add (x : Rat) (p q : Uni) : value x (AlOne.add p q) = value x p + value x q := by
  unfold AlOne.add
  rw [value_trim, value_addRaw]
theorem value_scale (x c : Rat) (p : Uni) : value x (AlOne.scale c p) = c * value x p := by
  unfold AlOne.scale
  rw [value_trim]
  induction p with
  | nil => show (0 : Rat) = c * 0; grind
  | cons d p ih => show c * d + x * value x (p.map fun x => c * x) = c * (d + x * value x p); rw [ih]; grind
theorem value_neg (x : Rat) (p : Uni) : value x (AlOne.neg p) = - value x p := by
  unfold AlOne.neg
  rw [value_scale]; grind
theorem value_sub (x : Rat) (p q : Uni) : value x (AlOne.sub p q) = value x p - value x q := by
  unfold AlOne.sub
  rw [value_add, value_neg]; grind
theorem value_mul (x : Rat) (q : Uni) : ∀ p : Uni, value x (AlOne.mul p q) = value x p * value x q
  | [] => by show (0 : Rat) = 0 * _; grind
  | c :: p => by
    have ih := value_mul x q p
    unfold AlOne.mul
    split
    · rename_i h
      rw [h] at ih
      have ih' : value x p * value x q = 0 := ih.symm
      rw [value_scale]
      show c * value x q = (c + x * value x p) * value x q
      grind
    · rw [value_add, value_scale]
      show c * value x q + (0 + x * value x (AlOne.mul p q)) = (c + x * value x p) * value x q
      rw [ih]; grind
/-! ### Horner: a polynomial with 1 at its highest power is not 0 beyond its numbers -/
def Mon (p : List Rat) : Prop := p.getLast? = some 1
def In (B : Rat) (p : List Rat) : Prop := ∀ y ∈ p, y ≤ B ∧ -B ≤ y
theorem horner_pos {B x : Rat} (hB : 0 ≤ B) (hx : B + 1 ≤ x) : ∀ p : List Rat, Mon p → In B p → 1 ≤ value x p
  | [], h, _ => by cases h
  | [c], h, _ => by
    have : c = 1 := by simpa [Mon] using h
    show 1 ≤ c + x * 0
    rw [this]; grind
  | c :: d :: p, h, k => by
    have ih := horner_pos hB hx (d :: p) (by unfold Mon at *; rwa [List.getLast?_cons_cons] at h) fun y hy => k y (List.mem_cons_of_mem _ hy)
    have hc := k c (List.mem_cons_self ..)
    show 1 ≤ c + x * value x (d :: p)
    have h0 : (0 : Rat) ≤ value x (d :: p) - 1 := by grind
    have h1 : (0 : Rat) ≤ x := by grind
    have h2 : 0 ≤ x * (value x (d :: p) - 1) := Rat.mul_nonneg h1 h0
    grind
theorem horner_neg {B x : Rat} (hB : 0 ≤ B) (hx : x ≤ -(B + 1)) : ∀ p : List Rat, Mon p → In B p → 1 ≤ value x p ∨ value x p ≤ -1
  | [], h, _ => by cases h
  | [c], h, _ => by
    have : c = 1 := by simpa [Mon] using h
    left
    show 1 ≤ c + x * 0
    rw [this]; grind
  | c :: d :: p, h, k => by
    have ih := horner_neg hB hx (d :: p) (by unfold Mon at *; rwa [List.getLast?_cons_cons] at h) fun y hy => k y (List.mem_cons_of_mem _ hy)
    have hc := k c (List.mem_cons_self ..)
    show 1 ≤ c + x * value x (d :: p) ∨ c + x * value x (d :: p) ≤ -1
    have h1 : (0 : Rat) ≤ -x := by grind
    rcases ih with ih | ih
    · right
      have h2 : 0 ≤ (-x) * (value x (d :: p) - 1) := Rat.mul_nonneg h1 (by grind)
      grind
    · left
      have h2 : 0 ≤ (-x) * (-(value x (d :: p)) - 1) := Rat.mul_nonneg h1 (by grind)
      grind
theorem in_bound : ∀ p : List Rat, ∃ B : Rat, 0 ≤ B ∧ In B p
  | [] => ⟨0, by decide, fun y hy => by cases hy⟩
  | c :: p => by
    obtain ⟨B, hB, h⟩ := in_bound p
    rcases Rat.le_total (a := 0) (b := c) with k | k
    · refine ⟨B + c, by grind, fun y hy => ?_⟩
      rcases List.mem_cons.mp hy with hy | hy
      · rw [hy]; exact ⟨by grind, by grind⟩
      · have := h y hy; exact ⟨by grind, by grind⟩
    · refine ⟨B - c, by grind, fun y hy => ?_⟩
      rcases List.mem_cons.mp hy with hy | hy
      · rw [hy]; exact ⟨by grind, by grind⟩
      · have := h y hy; exact ⟨by grind, by grind⟩
theorem last_map (f : Rat → Rat) : ∀ p : List Rat, (p.map f).getLast? = p.getLast?.map f := fun p => by rw [List.getLast?_map]
/-- one that is 0 everywhere is 0 -/
theorem val_zero {p : List Rat} (ht : Tr p) (h : ∀ x, value x p = 0) : p = [] := by
  cases e : p.getLast? with
  | none => exact List.getLast?_eq_none_iff.mp e
  | some c =>
    exfalso
    have hc := ht c e
    obtain ⟨B, hB, hin⟩ := in_bound (p.map fun y => (1 / c) * y)
    have hm : Mon (p.map fun y => (1 / c) * y) := by
      unfold Mon
      rw [last_map, e]
      show some ((1 / c) * c) = some 1
      congr 1; grind
    have h1 := horner_pos hB (Rat.le_refl (a := B + 1)) _ hm hin
    have h2 : value (B + 1) (p.map fun y => (1 / c) * y) = (1 / c) * value (B + 1) p := by
      generalize B + 1 = x
      clear h1 hm hin hB ht h e
      induction p with
      | nil => show (0 : Rat) = _ * 0; grind
      | cons d p ih => show (1 / c) * d + x * value x (p.map fun y => (1 / c) * y) = (1 / c) * (d + x * value x p); rw [ih]; grind
    rw [h2, h] at h1
    grind
theorem sub_tr (p q : Uni) : Tr (AlOne.sub p q) := trim_tr _
theorem sub_cq (p q : Uni) (n : Nat) : cq (AlOne.sub p q) n = cq p n - cq q n := by
  unfold AlOne.sub AlOne.neg
  rw [add_cq, scale_cq]; grind
theorem val_ext {p q : Uni} (hp : Tr p) (hq : Tr q) (h : ∀ x, value x p = value x q) : p = q := by
  have e := val_zero (sub_tr p q) fun x => by rw [value_sub, h]; grind
  refine tr_ext hp hq fun n => ?_
  have := sub_cq p q n
  rw [e, cq_nil] at this
  grind
/-! ### lengths -/
theorem len_of {p : Uni} (ht : Tr p) {n : Nat} (h : ∀ i, n ≤ i → cq p i = 0) : p.length ≤ n := by
  refine Nat.le_of_not_lt fun k => ?_
  have hne : p ≠ [] := fun z => by rw [z] at k; simp at k
  have hl : p.getLast? = some (p.getLast hne) := List.getLast?_eq_getLast hne
  refine ht _ hl ?_
  have := h (p.length - 1) (by omega)
  unfold cq at this
  rw [List.getLast_eq_getElem]
  rw [List.getD_eq_getElem?_getD, List.getElem?_eq_getElem (by omega)] at this
  exact this
theorem last_cq {p : Uni} (ht : Tr p) (hne : p ≠ []) : cq p (p.length - 1) ≠ 0 := by
  have hl : p.getLast? = some (p.getLast hne) := List.getLast?_eq_getLast hne
  have := ht _ hl
  have hpos := List.length_pos_iff.mpr hne
  unfold cq
  rw [List.getD_eq_getElem?_getD, List.getElem?_eq_getElem (by omega)]
  rw [List.getLast_eq_getElem] at this
  exact this
theorem lead_cq {p : Uni} (hne : p ≠ []) : AlOne.lead p = cq p (p.length - 1) := by
  have hpos := List.length_pos_iff.mpr hne
  unfold AlOne.lead cq
  rw [List.getLastD_eq_getLast?, List.getLast?_eq_getElem?, List.getD_eq_getElem?_getD]
theorem cv_top (q : Nat → Rat) (m : Nat) (hq : ∀ i, m < i → q i = 0) : ∀ (p : List Rat), p ≠ [] → cv p q (p.length - 1 + m) = cq p (p.length - 1) * q m
  | [], h => absurd rfl h
  | [c], _ => by
    show cv [c] q (0 + m) = c * q m
    rw [Nat.zero_add]
    cases m with
    | zero => rfl
    | succ m => show c * q (m + 1) + 0 = _; grind
  | c :: d :: p, _ => by
    have ih := cv_top q m hq (d :: p) (by simp)
    simp only [List.length_cons, Nat.add_sub_cancel] at *
    rw [show p.length + 1 + m = (p.length + m) + 1 by omega]
    show c * q (p.length + m + 1) + cv (d :: p) q (p.length + m) = _
    rw [ih, hq _ (by omega), cq_succ]; grind
theorem mul_len {p q : Uni} (hp : Tr p) (hq : Tr q) (p0 : p ≠ []) (q0 : q ≠ []) : p.length + q.length ≤ (AlOne.mul p q).length + 1 := by
  refine Nat.le_of_not_lt fun k => ?_
  have h1 : cq (AlOne.mul p q) (p.length - 1 + (q.length - 1)) = 0 := by
    refine cq_ge ?_
    have := List.length_pos_iff.mpr p0
    have := List.length_pos_iff.mpr q0
    omega
  rw [mul_cq, cv_top (cq q) (q.length - 1) (fun i hi => cq_ge (by omega)) p p0] at h1
  rcases Rat.mul_eq_zero.mp h1 with z | z
  · exact last_cq hp p0 z
  · exact last_cq hq q0 z
/-! ### long division -/
theorem cv_xpow (q : Nat → Rat) : ∀ (k n : Nat), cv (AlOne.xpow k) q n = if k ≤ n then q (n - k) else 0
  | 0, 0 => by show 1 * q 0 = _; simp [Rat.one_mul]
  | 0, n + 1 => by show 1 * q (n + 1) + 0 = _; simp [Rat.one_mul, Rat.add_zero]
  | k + 1, 0 => by show 0 * q 0 = _; simp [Rat.zero_mul]
  | k + 1, n + 1 => by
    show 0 * q (n + 1) + cv (AlOne.xpow k) q n = _
    rw [cv_xpow q k n]
    by_cases h : k ≤ n
    · rw [if_pos h, if_pos (by omega), show n + 1 - (k + 1) = n - k by omega]; grind
    · rw [if_neg h, if_neg (by omega)]; grind
theorem step_len {r q : Uni} (hr : Tr r) (hq : Tr q) (q0 : q ≠ []) (h : q.length ≤ r.length) : (AlOne.sub r (AlOne.mul (AlOne.scale (AlOne.lead r / AlOne.lead q) (AlOne.xpow (r.length - q.length))) q)).length < r.length := by
  have hq1 := List.length_pos_iff.mpr q0
  have hr2 : 0 < r.length := by omega
  have hr1 : r ≠ [] := List.length_pos_iff.mp hr2
  have hl : AlOne.lead q ≠ 0 := by rw [lead_cq q0]; exact last_cq hq q0
  generalize hc : AlOne.lead r / AlOne.lead q = c
  have hcq : c * AlOne.lead q = AlOne.lead r := by rw [← hc]; grind
  refine Nat.lt_of_le_of_lt (len_of (sub_tr _ _) (n := r.length - 1) fun i hi => ?_) (by omega)
  have e : ∀ n, cq (AlOne.scale c (AlOne.xpow (r.length - q.length))) n = c * cq (AlOne.xpow (r.length - q.length)) n := fun n => scale_cq c _ n
  have em : cq (AlOne.mul (AlOne.scale c (AlOne.xpow (r.length - q.length))) q) i = c * cv (AlOne.xpow (r.length - q.length)) (cq q) i := by
    rw [mul_cq]
    have := cv_scale c 1 (cq q) (cq q) (fun n => by rw [Rat.one_mul]) _ (AlOne.xpow (r.length - q.length)) e i
    rw [this, Rat.mul_one]
  rw [sub_cq, em, cv_xpow]
  rw [if_pos (by omega)]
  by_cases hi2 : i = r.length - 1
  · subst hi2
    rw [show r.length - 1 - (r.length - q.length) = q.length - 1 by omega, ← lead_cq q0, ← lead_cq hr1, hcq]; grind
  · rw [cq_ge (p := r) (by omega), cq_ge (p := q) (by omega)]; grind
theorem divFrom_ok {q : Uni} (hq : Tr q) (q0 : q ≠ []) : ∀ (f : Nat) (s r : Uni), Tr r → r.length ≤ f → (AlOne.divFrom f s r q).2.length < q.length ∧ Tr (AlOne.divFrom f s r q).2 ∧ ∀ x, value x (AlOne.divFrom f s r q).1 * value x q + value x (AlOne.divFrom f s r q).2 = value x s * value x q + value x r
  | 0, s, r, hr, hl => by
    have : r = [] := List.eq_nil_of_length_eq_zero (by omega)
    subst this
    exact ⟨List.length_pos_iff.mpr q0, tr_nil, fun x => rfl⟩
  | f + 1, s, r, hr, hl => by
    unfold AlOne.divFrom
    split
    · rename_i h
      rcases h with h | h
      · exact ⟨h, hr, fun x => rfl⟩
      · exact absurd h q0
    · rename_i h
      have h1 : q.length ≤ r.length := Nat.le_of_not_lt fun z => h (.inl z)
      have hlen := step_len hr hq q0 h1
      have ih := divFrom_ok hq q0 f (AlOne.add s (AlOne.scale (AlOne.lead r / AlOne.lead q) (AlOne.xpow (r.length - q.length)))) (AlOne.sub r (AlOne.mul (AlOne.scale (AlOne.lead r / AlOne.lead q) (AlOne.xpow (r.length - q.length))) q)) (sub_tr _ _) (by omega)
      refine ⟨ih.1, ih.2.1, fun x => ?_⟩
      rw [ih.2.2 x, value_add, value_sub, value_mul]; grind
theorem div_ok {p q : Uni} (hp : Tr p) (hq : Tr q) (q0 : q ≠ []) : (AlOne.rest p q).length < q.length ∧ Tr (AlOne.rest p q) ∧ ∀ x, value x p = value x (AlOne.over p q) * value x q + value x (AlOne.rest p q) := by
  have h := divFrom_ok hq q0 p.length [] p hp (Nat.le_refl _)
  refine ⟨h.1, h.2.1, fun x => ?_⟩
  have := h.2.2 x
  show value x p = value x (AlOne.divFrom p.length [] p q).1 * value x q + value x (AlOne.divFrom p.length [] p q).2
  rw [this]
  show _ = 0 * _ + _
  grind
theorem divFrom_tr {q : Uni} : ∀ (f : Nat) (s r : Uni), Tr s → Tr (AlOne.divFrom f s r q).1
  | 0, s, r, h => h
  | f + 1, s, r, h => by
    unfold AlOne.divFrom
    split
    · exact h
    · exact divFrom_tr f _ _ (add_tr _ _)
theorem over_tr (p q : Uni) : Tr (AlOne.over p q) := divFrom_tr _ _ _ tr_nil
theorem sub_len (p q : Uni) : (AlOne.sub p q).length ≤ max p.length q.length := len_of (sub_tr p q) fun i hi => by
  rw [sub_cq, cq_ge (p := p) (by omega), cq_ge (p := q) (by omega)]; grind
/-- quotient and rest are the only ones -/
theorem div_only {p q s t : Uni} (hp : Tr p) (hq : Tr q) (q0 : q ≠ []) (hs : Tr s) (ht : Tr t) (hl : t.length < q.length) (h : ∀ x, value x p = value x s * value x q + value x t) : AlOne.over p q = s ∧ AlOne.rest p q = t := by
  obtain ⟨h1, h2, h3⟩ := div_ok hp hq q0
  have e : AlOne.mul (AlOne.sub (AlOne.over p q) s) q = AlOne.sub t (AlOne.rest p q) := val_ext (mul_tr _ _) (sub_tr _ _) fun x => by
    rw [value_mul, value_sub, value_sub]
    have a := h x
    have b := h3 x
    grind
  have z : AlOne.sub (AlOne.over p q) s = [] := by
    refine Classical.byContradiction fun k => ?_
    have l1 := mul_len (sub_tr _ _) hq k q0
    have l2 := sub_len t (AlOne.rest p q)
    have l3 := List.length_pos_iff.mpr k
    rw [e] at l1
    omega
  have eo : AlOne.over p q = s := val_ext (over_tr p q) hs fun x => by
    have := value_sub x (AlOne.over p q) s
    rw [z] at this
    have t0 : (0 : Rat) = value x (AlOne.over p q) - value x s := this
    grind
  refine ⟨eo, val_ext h2 ht fun x => ?_⟩
  have a := h x
  have b := h3 x
  rw [eo] at b
  grind
end St
set_option Elab.async false
set_option linter.all false
namespace St
open AlOne (Uni value)
open Sl
theorem tr_end {l : List Rat} {c : Rat} (h : c ≠ 0) : Tr (l ++ [c]) := fun d hd => by
  rw [List.getLast?_concat] at hd
  cases hd; exact h
theorem tr1 {a : Rat} (h : a ≠ 0) : Tr [a] := tr_end (l := []) h
theorem tr2 {a b : Rat} (h : b ≠ 0) : Tr [a, b] := tr_end (l := [a]) h
theorem tr3 {a b c : Rat} (h : c ≠ 0) : Tr [a, b, c] := tr_end (l := [a, b]) h
theorem tr4 {a b c d : Rat} (h : d ≠ 0) : Tr [a, b, c, d] := tr_end (l := [a, b, c]) h
theorem trim1_len (a : Rat) : (AlOne.trim [a]).length ≤ 1 := by
  unfold AlOne.trim AlOne.trim
  simp only
  split <;> simp
theorem trim2_len (a b : Rat) : (AlOne.trim [a, b]).length ≤ 2 := len_of (trim_tr _) fun i hi => by
  rw [trim_cq]; exact cq_ge (by simpa using hi)
/-! ### slopes -/
theorem slope1 (a b : Rat) (hb : b ≠ 0) : AlOne.slope [a, b] = [b] := tr_ext (slope_tr _) (tr1 hb) fun n => by
  rw [slope_cq]
  match n with
  | 0 => show ((1 : Nat) : Rat) * b = b; grind
  | n + 1 => rw [cq_ge (p := [a, b]) (by simp), cq_ge (p := [b]) (by simp)]; grind
theorem slope2 (a b c : Rat) (hc : c ≠ 0) : AlOne.slope [a, b, c] = [b, 2 * c] := tr_ext (slope_tr _) (tr2 (by grind)) fun n => by
  rw [slope_cq]
  match n with
  | 0 => show ((1 : Nat) : Rat) * b = b; grind
  | 1 => show ((2 : Nat) : Rat) * c = 2 * c; grind
  | n + 2 => rw [cq_ge (p := [a, b, c]) (by simp), cq_ge (p := [b, 2 * c]) (by simp)]; grind
theorem slope3 (a b c d : Rat) (hd : d ≠ 0) : AlOne.slope [a, b, c, d] = [b, 2 * c, 3 * d] := tr_ext (slope_tr _) (tr3 (by grind)) fun n => by
  rw [slope_cq]
  match n with
  | 0 => show ((1 : Nat) : Rat) * b = b; grind
  | 1 => show ((2 : Nat) : Rat) * c = 2 * c; grind
  | 2 => show ((3 : Nat) : Rat) * d = 3 * d; grind
  | n + 3 => rw [cq_ge (p := [a, b, c, d]) (by simp), cq_ge (p := [b, 2 * c, 3 * d]) (by simp)]; grind
/-! ### values of short ones -/
theorem v0 (x : Rat) : value x [] = 0 := rfl
theorem v1 (x a : Rat) : value x [a] = a := by show a + x * 0 = a; grind
theorem v2 (x a b : Rat) : value x [a, b] = a + b * x := by show a + x * (b + x * 0) = _; grind
theorem v3 (x a b c : Rat) : value x [a, b, c] = a + b * x + c * x * x := by show a + x * (b + x * (c + x * 0)) = _; grind
theorem v4 (x a b c d : Rat) : value x [a, b, c, d] = a + b * x + c * x * x + d * x * x * x := by show a + x * (b + x * (c + x * (d + x * 0))) = _; grind
/-! ### by a number -/
theorem rest_const {p : Uni} {k : Rat} (hp : Tr p) (hk : k ≠ 0) : AlOne.rest p [k] = [] := by
  have h := (div_ok hp (tr1 hk) (by simp)).1
  exact List.eq_nil_of_length_eq_zero (by simpa using h)
theorem over_one {p : Uni} (hp : Tr p) : AlOne.over p [1] = p := (div_only hp (tr1 (by decide)) (by simp) hp tr_nil (by simp) fun x => by rw [v1, v0]; grind).1
theorem monic1 {k : Rat} (hk : k ≠ 0) : AlOne.monic [k] = [1] := by
  refine val_ext (scale_tr _ _) (tr1 (by decide)) fun x => ?_
  unfold AlOne.monic
  rw [value_scale, v1, v1]
  show (1 / k) * k = 1
  grind
theorem monic2 {a b : Rat} (hb : b ≠ 0) : AlOne.monic [a, b] = [a / b, 1] := by
  refine val_ext (scale_tr _ _) (tr2 (by decide)) fun x => ?_
  unfold AlOne.monic
  rw [value_scale, v2, v2]
  show (1 / b) * (a + b * x) = a / b + 1 * x
  grind
theorem monic3 {a b c : Rat} (hc : c ≠ 0) : AlOne.monic [a, b, c] = [a / c, b / c, 1] := by
  refine val_ext (scale_tr _ _) (tr3 (by decide)) fun x => ?_
  unfold AlOne.monic
  rw [value_scale, v3, v3]
  show (1 / c) * (a + b * x + c * x * x) = a / c + b / c * x + 1 * x * x
  grind
theorem cf_go {f : Nat} {p q : Uni} (hq : q ≠ []) : AlOne.commonFrom (f + 1) p q = AlOne.commonFrom f q (AlOne.rest p q) := by
  show (if q = [] then p else AlOne.commonFrom f q (AlOne.rest p q)) = _
  rw [if_neg hq]
theorem cf_end {f : Nat} {p : Uni} : AlOne.commonFrom (f + 1) p [] = p := by
  show (if ([] : Uni) = [] then p else _) = _
  rw [if_pos rfl]
theorem common_of {p q : Uni} (hq : q ≠ []) : AlOne.common p q = AlOne.monic (AlOne.commonFrom (q.length + 2) p q) := by
  unfold AlOne.common
  rw [if_neg (fun z => hq z.2)]
/-- without powers: what is left of m -/
def free (m : Uni) : Uni := AlOne.over m (AlOne.common m (AlOne.slope m))
/-! ### degree 1 -/
theorem free1 (r : Rat) : free [-r, 1] = [-r, 1] := by
  unfold free
  rw [slope1 _ _ (by decide), common_of (by simp)]
  show AlOne.over _ (AlOne.monic (AlOne.commonFrom 3 [-r, 1] [1])) = _
  rw [cf_go (by simp), rest_const (tr2 (by decide)) (by decide), cf_end, monic1 (by decide), over_one (tr2 (by decide))]
/-! ### degree 2 -/
def quad (r s : Rat) : Uni := [r * s, -(r + s), 1]
theorem quad_tr (r s : Rat) : Tr (quad r s) := tr3 (by decide)
theorem slope_quad (r s : Rat) : AlOne.slope (quad r s) = [-(r + s), 2] := by
  unfold quad
  rw [slope2 _ _ _ (by decide)]
  congr 2
  grind
theorem rest_quad (r s : Rat) : AlOne.rest (quad r s) [-(r + s), 2] = AlOne.trim [-((r - s) * (r - s) / 4)] := by
  refine (div_only (s := [-(r + s) / 4, 1 / 2]) (tr3 (by decide)) (tr2 (by decide)) (by simp) (tr2 (by decide +kernel)) (trim_tr _) (Nat.lt_of_le_of_lt (trim1_len _) (by simp)) fun x => ?_).2
  rw [v3, v2, v2, value_trim, v1]; grind
theorem free2 {r s : Rat} (h : r ≠ s) : free (quad r s) = quad r s := by
  have hk : -((r - s) * (r - s) / 4) ≠ 0 := by
    intro z
    have : (r - s) * (r - s) = 0 := by grind
    rcases Rat.mul_eq_zero.mp this with q | q <;> exact h (by grind)
  unfold free
  rw [slope_quad, common_of (by simp)]
  show AlOne.over _ (AlOne.monic (AlOne.commonFrom 4 (quad r s) [-(r + s), 2])) = _
  rw [cf_go (by simp), rest_quad, trim_self _ (tr1 hk), cf_go (by simp), rest_const (tr2 (by decide)) hk, cf_end, monic1 hk, over_one (quad_tr r s)]
theorem free2d (r : Rat) : free (quad r r) = [-r, 1] := by
  unfold free
  rw [slope_quad, common_of (by simp)]
  show AlOne.over _ (AlOne.monic (AlOne.commonFrom 4 (quad r r) [-(r + r), 2])) = _
  rw [cf_go (by simp), rest_quad]
  have e : AlOne.trim [-((r - r) * (r - r) / 4)] = [] := by
    have : -((r - r) * (r - r) / 4) = 0 := by grind
    rw [this]; decide +kernel
  rw [e, cf_end, monic2 (by decide)]
  refine (div_only (s := [-r, 1]) (tr3 (by decide)) (tr2 (by decide)) (by simp) (tr2 (by decide)) tr_nil (by simp) fun x => ?_).1
  rw [v3, v2, v2, v0]; grind
/-! ### degree 3 -/
def cub (r u v : Rat) : Uni := [-(r * v), v - r * u, u - r, 1]
def cA (r u v : Rat) : Rat := (u - r) * (u - r) - 3 * (v - r * u)
def cB (r u v : Rat) : Rat := ((v - r * u) * (u - r) + 9 * (r * v)) / 2
def cD (u v : Rat) : Rat := u * u - 4 * v
def cR (r u v : Rat) : Rat := r * r + u * r + v
def sl (r u v : Rat) : Uni := [v - r * u, 2 * (u - r), 3]
theorem slope_cub (r u v : Rat) : AlOne.slope (cub r u v) = sl r u v := by
  unfold cub sl
  rw [slope3 _ _ _ _ (by decide)]
  congr 3
  grind
theorem cub_tr (r u v : Rat) : Tr (cub r u v) := tr4 (by decide)
theorem sl_tr (r u v : Rat) : Tr (sl r u v) := tr3 (by decide)
theorem rest_cub (r u v : Rat) : AlOne.rest (cub r u v) (sl r u v) = AlOne.trim [-(2 / 9 * cB r u v), -(2 / 9 * cA r u v)] := by
  refine (div_only (s := [(u - r) / 9, 1 / 3]) (cub_tr r u v) (sl_tr r u v) (by unfold sl; simp) (tr2 (by decide +kernel)) (trim_tr _) (Nat.lt_of_le_of_lt (trim2_len _ _) (by unfold sl; simp)) fun x => ?_).2
  unfold cub sl cA cB
  rw [v4, v3, v2, value_trim, v2]; grind
theorem disc (r u v : Rat) : 3 * cB r u v * cB r u v - 2 * (u - r) * cA r u v * cB r u v + (v - r * u) * cA r u v * cA r u v = -(9 / 4 * cD u v * cR r u v * cR r u v) := by
  unfold cA cB cD cR; grind
/-- the last rest -/
def cK (r u v : Rat) : Rat := -(9 / 4 * cD u v * cR r u v * cR r u v) / (cA r u v * cA r u v)
theorem rest_sl {r u v : Rat} (hA : cA r u v ≠ 0) : AlOne.rest (sl r u v) [-(2 / 9 * cB r u v), -(2 / 9 * cA r u v)] = AlOne.trim [cK r u v] := by
  have h2 : -(2 / 9 * cA r u v) ≠ 0 := by grind
  have hd := disc r u v
  unfold cK
  rw [← hd]
  unfold sl
  generalize cA r u v = A at *
  generalize cB r u v = B at *
  generalize v - r * u = a at *
  generalize u - r = b at *
  clear hd
  refine (div_only (s := [-(9 / 2) * (2 * b - 3 * B / A) / A, -(9 / 2) * 3 / A]) (tr3 (by decide)) (tr2 h2) (by simp) (tr2 ?_) (trim_tr _) (Nat.lt_of_le_of_lt (trim1_len _) (by simp)) fun x => ?_).2
  · grind
  · rw [v3, v2, v2, value_trim, v1]; grind
theorem common_cub {r u v : Rat} : AlOne.common (cub r u v) (AlOne.slope (cub r u v)) = AlOne.monic (AlOne.commonFrom 4 (sl r u v) (AlOne.trim [-(2 / 9 * cB r u v), -(2 / 9 * cA r u v)])) := by
  rw [slope_cub, common_of (by unfold sl; simp)]
  show AlOne.monic (AlOne.commonFrom 5 (cub r u v) (sl r u v)) = _
  rw [cf_go (by unfold sl; simp), rest_cub]
theorem free3 {r u v : Rat} (hA : cA r u v ≠ 0) (hD : cD u v ≠ 0) (hR : cR r u v ≠ 0) : free (cub r u v) = cub r u v := by
  have h2 : -(2 / 9 * cA r u v) ≠ 0 := by grind
  have hk : cK r u v ≠ 0 := by
    unfold cK
    generalize cA r u v = A at *
    generalize cD u v = D at *
    generalize cR r u v = R at *
    intro z
    have : D * R * R = 0 := by grind
    rcases Rat.mul_eq_zero.mp this with q | q
    · rcases Rat.mul_eq_zero.mp q with q | q
      · exact hD q
      · exact hR q
    · exact hR q
  unfold free
  rw [common_cub, trim_self _ (tr2 h2), cf_go (by simp), rest_sl hA, trim_self _ (tr1 hk), cf_go (by simp), rest_const (tr2 h2) hk, cf_end, monic1 hk, over_one (cub_tr r u v)]
theorem free3z {r u v : Rat} (hA : cA r u v = 0) (hB : cB r u v ≠ 0) : free (cub r u v) = cub r u v := by
  have h2 : -(2 / 9 * cB r u v) ≠ 0 := by grind
  have e : AlOne.trim [-(2 / 9 * cB r u v), -(2 / 9 * cA r u v)] = [-(2 / 9 * cB r u v)] := by
    rw [hA]
    refine val_ext (trim_tr _) (tr1 h2) fun x => ?_
    rw [value_trim, v2, v1]; grind
  unfold free
  rw [common_cub, e, cf_go (by simp), rest_const (sl_tr r u v) h2, cf_end, monic1 h2, over_one (cub_tr r u v)]
theorem free3t {r u v : Rat} (hA : cA r u v = 0) (hB : cB r u v = 0) : free (cub r u v) = [-r, 1] := by
  have e : AlOne.trim [-(2 / 9 * cB r u v), -(2 / 9 * cA r u v)] = [] := by
    rw [hA, hB]
    refine val_zero (trim_tr _) fun x => ?_
    rw [value_trim, v2]; grind
  have hr : u = -2 * r ∧ v = r * r := by
    have h0 : (r + (u - r) / 3) * ((r + (u - r) / 3) * (r + (u - r) / 3)) = 0 := by
      unfold cA at hA
      unfold cB at hB
      grind
    have h1 : r + (u - r) / 3 = 0 := by
      rcases Rat.mul_eq_zero.mp h0 with q | q
      · exact q
      · rcases Rat.mul_eq_zero.mp q with q | q <;> exact q
    have hu : u = -2 * r := by grind
    refine ⟨hu, ?_⟩
    unfold cA at hA
    rw [hu] at hA
    grind
  unfold free
  rw [common_cub, e, cf_end]
  unfold sl
  rw [monic3 (by decide)]
  refine (div_only (s := [-r, 1]) (cub_tr r u v) (tr3 (by decide)) (by simp) (tr2 (by decide)) tr_nil (by simp) fun x => ?_).1
  unfold cub
  rw [v4, v3, v2, v0, hr.1, hr.2]; grind
theorem free3d {r u v g w : Rat} (hA : cA r u v ≠ 0) (hk : cD u v * cR r u v = 0) (hg : cB r u v = -(g * cA r u v)) (hq : ∀ x, value x (cub r u v) = (x - r) * (x - w) * (x - g)) : free (cub r u v) = quad r w := by
  have h2 : -(2 / 9 * cA r u v) ≠ 0 := by grind
  have e : AlOne.trim [cK r u v] = [] := by
    have : cK r u v = 0 := by
      unfold cK
      generalize cA r u v = A at *
      generalize cD u v = D at *
      generalize cR r u v = R at *
      have : 9 / 4 * D * R * R = 0 := by grind
      rw [this]; grind
    rw [this]; decide +kernel
  unfold free
  rw [common_cub, trim_self _ (tr2 h2), cf_go (by simp), rest_sl hA, e, cf_end, monic2 h2]
  have eg : -(2 / 9 * cB r u v) / -(2 / 9 * cA r u v) = -g := by
    rw [hg]
    generalize cA r u v = A at *
    grind
  rw [eg]
  refine (div_only (s := quad r w) (cub_tr r u v) (tr2 (by decide)) (by simp) (tr3 (by decide)) tr_nil (by simp) fun x => ?_).1
  rw [hq]
  unfold quad
  rw [v3, v2, v0]; grind
/-- what it may be: r is one of its roots, each there once -/
inductive Form (r : Rat) : Uni → Prop
  | one : Form r [-r, 1]
  | two (s : Rat) : r ≠ s → Form r (quad r s)
  | three (u v : Rat) : cA r u v ≠ 0 → cD u v ≠ 0 → cR r u v ≠ 0 → Form r (cub r u v)
  | flat (u v : Rat) : cA r u v = 0 → cB r u v ≠ 0 → Form r (cub r u v)
theorem form_cub (r u v : Rat) : Form r (free (cub r u v)) := by
  by_cases hA : cA r u v = 0
  · by_cases hB : cB r u v = 0
    · rw [free3t hA hB]; exact .one
    · rw [free3z hA hB]; exact .flat u v hA hB
  · by_cases hD : cD u v = 0
    · have hv : v = u * u / 4 := by unfold cD at hD; grind
      have h : r ≠ -u / 2 := fun z => hA (by unfold cA; rw [hv, z]; grind)
      rw [free3d (g := -u / 2) (w := -u / 2) hA (by rw [hD]; grind) (by unfold cA cB; rw [hv]; grind) (fun x => by unfold cub; rw [v4, hv]; grind)]
      exact .two _ h
    · by_cases hR : cR r u v = 0
      · have hv : v = -(r * r) - u * r := by unfold cR at hR; grind
        have h : r ≠ -u - r := fun z => hA (by
          have hu : u = -2 * r := by grind
          unfold cA; rw [hv, hu]; grind)
        rw [free3d (g := r) (w := -u - r) hA (by rw [hR]; grind) (by unfold cA cB; rw [hv]; grind) (fun x => by unfold cub; rw [v4, hv]; grind)]
        exact .two _ h
      · rw [free3 hA hD hR]; exact .three u v hA hD hR
/-- **what is left of one of degree 1 to 3 that has the root r** -/
theorem form_of {m : Uni} {r : Rat} (hm : Mon m) (hl : 2 ≤ m.length) (hu : m.length ≤ 4) (hr : value r m = 0) : Form r (free m) := by
  match m, hm, hl, hu, hr with
  | [a, b], hm, _, _, hr =>
    have hb : b = 1 := by simpa [Mon] using hm
    subst hb
    rw [v2] at hr
    have : a = -r := by grind
    rw [this, free1]; exact .one
  | [a, b, c], hm, _, _, hr =>
    have hc : c = 1 := by simpa [Mon] using hm
    subst hc
    rw [v3] at hr
    have e : [a, b, 1] = quad r (-b - r) := by
      unfold quad
      congr 1
      · grind
      · congr 1; grind
    rw [e]
    by_cases h : r = -b - r
    · rw [← h, free2d]; exact .one
    · rw [free2 h]; exact .two _ h
  | [a, b, c, d], hm, _, _, hr =>
    have hd : d = 1 := by simpa [Mon] using hm
    subst hd
    rw [v4] at hr
    have e : [a, b, c, 1] = cub r (c + r) (b + r * (c + r)) := by
      unfold cub
      congr 1
      · grind
      · congr 1
        · grind
        · congr 1; grind
    rw [e]
    exact form_cub r _ _
end St
set_option Elab.async false
set_option linter.all false
namespace St
open AlOne (Uni value)
open Sl
open Al03 (ratSign changes changesAt sturm sturmFrom)
/-! ### signs -/
theorem rs_pos {y : Rat} (h : 0 < y) : ratSign y = 1 := by
  unfold ratSign
  rw [if_neg (by grind), if_neg (by grind)]
theorem rs_neg {y : Rat} (h : y < 0) : ratSign y = -1 := by
  unfold ratSign
  rw [if_neg (by grind), if_pos h]
theorem rs_zero {y : Rat} (h : y = 0) : ratSign y = 0 := by
  unfold ratSign
  rw [if_pos h]
theorem tri (y : Rat) : y < 0 ∨ y = 0 ∨ 0 < y := by
  grind
theorem rs_any (y : Rat) : ratSign y = -1 ∨ ratSign y = 0 ∨ ratSign y = 1 := by
  rcases tri y with h | h | h
  · exact .inl (rs_neg h)
  · exact .inr (.inl (rs_zero h))
  · exact .inr (.inr (rs_pos h))
theorem pp {a b : Rat} (h : 0 < a) (k : 0 < b) : 0 < a * b := Rat.mul_pos h k
theorem np {a b : Rat} (h : a < 0) (k : 0 < b) : a * b < 0 := by have := pp (a := -a) (by grind) k; grind
theorem pn {a b : Rat} (h : 0 < a) (k : b < 0) : a * b < 0 := by have := pp h (b := -b) (by grind); grind
theorem nn {a b : Rat} (h : a < 0) (k : b < 0) : 0 < a * b := by have := pp (a := -a) (b := -b) (by grind) (by grind); grind
theorem sq (a : Rat) : 0 ≤ a * a := by
  rcases tri a with h | h | h
  · have := nn h h; grind
  · rw [h]; grind
  · have := pp h h; grind
def V (l : List Int) : Nat := changes (l.filter fun s => decide (s ≠ 0))
theorem at_map (x : Rat) (l : List Uni) : changesAt x l = V (l.map fun p => ratSign (value x p)) := rfl
/-! ### the rows -/
theorem neg_one_len {p : Uni} : AlOne.neg ([] : Uni) = [] := by decide +kernel
theorem sf_go {f : Nat} {p q : Uni} (hp : p ≠ []) : sturmFrom (f + 1) p q = p :: sturmFrom f q (AlOne.neg (AlOne.rest p q)) := by
  show (if p = [] then [] else p :: sturmFrom f q (AlOne.neg (AlOne.rest p q))) = _
  rw [if_neg hp]
theorem sf_nil {f : Nat} {q : Uni} : sturmFrom f [] q = [] := by
  cases f with
  | zero => rfl
  | succ f => show (if ([] : Uni) = [] then [] else _) = _; rw [if_pos rfl]
theorem neg1 {a : Rat} (h : a ≠ 0) : AlOne.neg [a] = [-a] := val_ext (scale_tr _ _) (tr1 (by grind)) fun x => by rw [value_neg, v1, v1]
theorem neg2 {a b : Rat} (h : b ≠ 0) : AlOne.neg [a, b] = [-a, -b] := val_ext (scale_tr _ _) (tr2 (by grind)) fun x => by rw [value_neg, v2, v2]; grind
theorem sturm1 (r : Rat) : sturm [-r, 1] = [[-r, 1], [1]] := by
  unfold sturm
  rw [slope1 _ _ (by decide)]
  show sturmFrom 3 _ _ = _
  rw [sf_go (by simp), rest_const (tr2 (by decide)) (by decide), neg_one_len (p := []), sf_go (by simp), sf_nil]
theorem sturm2 {r s : Rat} (h : r ≠ s) : sturm (quad r s) = [quad r s, [-(r + s), 2], [(r - s) * (r - s) / 4]] := by
  have hk : -((r - s) * (r - s) / 4) ≠ 0 := by
    intro z
    have : (r - s) * (r - s) = 0 := by grind
    rcases Rat.mul_eq_zero.mp this with q | q <;> exact h (by grind)
  have hk2 : (r - s) * (r - s) / 4 ≠ 0 := by grind
  unfold sturm
  rw [slope_quad]
  show sturmFrom 4 _ _ = _
  rw [sf_go (by unfold quad; simp), rest_quad, trim_self _ (tr1 hk), neg1 hk, sf_go (by simp), Rat.neg_neg, rest_const (tr2 (by decide)) hk2, neg_one_len (p := []), sf_go (by simp), sf_nil]
theorem sturm3 {r u v : Rat} (hA : cA r u v ≠ 0) (hD : cD u v ≠ 0) (hR : cR r u v ≠ 0) : sturm (cub r u v) = [cub r u v, sl r u v, [2 / 9 * cB r u v, 2 / 9 * cA r u v], [-cK r u v]] ∧ (0 < -cK r u v ↔ 0 < cD u v) ∧ cK r u v ≠ 0 := by
  have h2 : -(2 / 9 * cA r u v) ≠ 0 := by grind
  have h3 : 2 / 9 * cA r u v ≠ 0 := by grind
  have pos : 0 < cR r u v * cR r u v / (cA r u v * cA r u v) := by
    have a1 : 0 < cR r u v * cR r u v := (tri (cR r u v)).elim (fun h => nn h h) fun h => h.elim (fun h => absurd h hR) fun h => pp h h
    have a2 : 0 < cA r u v * cA r u v := (tri (cA r u v)).elim (fun h => nn h h) fun h => h.elim (fun h => absurd h hA) fun h => pp h h
    rw [Rat.div_def]
    exact pp a1 (Rat.inv_pos.mpr a2)
  have ek : -cK r u v = 9 / 4 * (cD u v * (cR r u v * cR r u v / (cA r u v * cA r u v))) := by
    unfold cK
    generalize cA r u v = A at *
    grind
  generalize hP : cR r u v * cR r u v / (cA r u v * cA r u v) = P at pos ek
  have hk : cK r u v ≠ 0 := by
    intro z
    rw [z] at ek
    have : cD u v * P = 0 := by grind
    rcases Rat.mul_eq_zero.mp this with q | q
    · exact hD q
    · grind
  have hk2 : -cK r u v ≠ 0 := by grind
  refine ⟨?_, ?_, hk⟩
  · unfold sturm
    rw [slope_cub]
    show sturmFrom 5 _ _ = _
    rw [sf_go (by unfold cub; simp), rest_cub, trim_self _ (tr2 h2), neg2 h2, sf_go (by unfold sl; simp), Rat.neg_neg, Rat.neg_neg]
    have e : AlOne.rest (sl r u v) [2 / 9 * cB r u v, 2 / 9 * cA r u v] = [cK r u v] := by
      have h := rest_sl hA
      rw [trim_self _ (tr1 hk)] at h
      obtain ⟨g1, g2, g3⟩ := div_ok (sl_tr r u v) (tr2 (a := -(2 / 9 * cB r u v)) h2) (by simp)
      refine (div_only (s := AlOne.neg (AlOne.over (sl r u v) [-(2 / 9 * cB r u v), -(2 / 9 * cA r u v)])) (sl_tr r u v) (tr2 h3) (by simp) (scale_tr _ _) (tr1 hk) (by simp) fun x => ?_).2
      have := g3 x
      rw [h, v2, v1] at this
      rw [value_neg, v2, v1]
      grind
    rw [e, neg1 hk, sf_go (by simp), rest_const (tr2 h3) hk2, neg_one_len (p := []), sf_go (by simp), sf_nil]
  · rw [ek]
    constructor
    · intro h
      rcases tri (cD u v) with q | q | q
      · have := np q pos; grind
      · exact absurd q hD
      · exact q
    · intro h
      have := pp h pos; grind
theorem sturm3z {r u v : Rat} (hA : cA r u v = 0) (hB : cB r u v ≠ 0) : sturm (cub r u v) = [cub r u v, sl r u v, [2 / 9 * cB r u v]] := by
  have h2 : -(2 / 9 * cB r u v) ≠ 0 := by grind
  have h3 : 2 / 9 * cB r u v ≠ 0 := by grind
  have e : AlOne.trim [-(2 / 9 * cB r u v), -(2 / 9 * cA r u v)] = [-(2 / 9 * cB r u v)] := by
    rw [hA]
    refine val_ext (trim_tr _) (tr1 h2) fun x => ?_
    rw [value_trim, v2, v1]; grind
  unfold sturm
  rw [slope_cub]
  show sturmFrom 5 _ _ = _
  rw [sf_go (by unfold cub; simp), rest_cub, e, neg1 h2, sf_go (by unfold sl; simp), Rat.neg_neg, rest_const (sl_tr r u v) h3, neg_one_len (p := []), sf_go (by simp), sf_nil]
/-! ### degree 3, at a place: t, what's left there, its slope, its D -/
section
variable {t H J : Rat}
def bB (t H J : Rat) : Rat := H * J + t * J * J + t * t * J - 8 * t * H
theorem b1 (ht : 0 < t) (hH : 0 < H) (hJ : 0 < J) (hD : 0 < J * J - 4 * H) : 0 < bB t H J := by
  unfold bB
  have h1 := pp ht hD
  have h2 : 0 ≤ (H + t * t) * J - 4 * t * H := by
    refine Rat.not_lt.mp fun z => ?_
    have tt := pp ht ht
    have X : 0 < (H + t * t) * J := pp (by grind) hJ
    have S : 0 < 4 * t * H + (H + t * t) * J := by have := pp ht hH; grind
    have P := pp (a := 4 * t * H - (H + t * t) * J) (by grind) S
    have Q : 0 < (H * (t * t)) * (J * J - 4 * H) := pp (pp hH tt) hD
    have W : 0 ≤ ((H - t * t) * J) * ((H - t * t) * J) := sq _
    grind
  grind
theorem b2 (ht : 0 < t) (hH : 0 < H) (hJ : J < 0) (hD : J * J - 4 * H < 0) : bB t H J < 0 := by
  unfold bB
  have h1 := np hJ (b := H + t * t) (by have := pp ht ht; grind)
  have h2 := pn ht (b := J * J - 8 * H) (by grind)
  grind
theorem b3 (ht : 0 < t) (hH : 0 < H) (hJ : J < 0) (hp : 0 ≤ H + t * J) : bB t H J < 0 := by
  unfold bB
  have h1 : 0 ≤ (-J) * (H + t * J) := Rat.mul_nonneg (by grind) hp
  have h2 := pn (pp ht ht) hJ
  have h3 := pp ht hH
  grind
theorem b4 (ht : 0 < t) (hH : H < 0) (hp : 0 ≤ H + t * J) : 0 < bB t H J := by
  unfold bB
  have hJ : 0 < J := by
    refine Rat.not_le.mp fun z => ?_
    have := Rat.mul_nonneg (a := t) (b := -J) (by grind) (by grind)
    grind
  have h1 : 0 ≤ J * (H + t * J) := Rat.mul_nonneg (by grind) hp
  have h2 := pp (pp ht ht) hJ
  have h3 := pn ht hH
  grind
/-- the row's signs there, and those of what's left -/
theorem row_at (hD : J * J - 4 * H ≠ 0) (hR : t = 0 → H ≠ 0) : V [ratSign (t * H), ratSign (H + t * J), ratSign (bB t H J), ratSign (J * J - 4 * H)] = (if t < 0 then 1 else 0) + V [ratSign H, ratSign J, ratSign (J * J - 4 * H)] := by
  have any1 := rs_any (H + t * J)
  have any2 := rs_any (bB t H J)
  rcases tri t with ht | ht | ht
  · rw [if_pos ht]
    have eB : bB t H J = -bB (-t) H (-J) := by unfold bB; grind
    have eD : (-J) * (-J) - 4 * H = J * J - 4 * H := by grind
    have eP : H + (-t) * (-J) = H + t * J := by grind
    have ht' : 0 < -t := by grind
    rcases tri H with hH | hH | hH
    · have h0 : 0 < J * J - 4 * H := by have := sq J; grind
      rw [rs_pos (nn ht hH), rs_neg hH, rs_pos h0]
      rcases tri (H + t * J) with p | p | p
      · rw [rs_neg p]
        rcases any2 with q | q | q <;> rw [q] <;> rcases rs_any J with w | w | w <;> rw [w] <;> decide
      · have := b4 ht' hH (by rw [eP]; grind)
        rw [rs_zero p, rs_neg (y := bB t H J) (by grind)]
        rcases rs_any J with w | w | w <;> rw [w] <;> decide
      · have := b4 ht' hH (by rw [eP]; grind)
        rw [rs_pos p, rs_neg (y := bB t H J) (by grind)]
        rcases rs_any J with w | w | w <;> rw [w] <;> decide
    · subst hH
      rw [rs_zero (y := t * 0) (by grind), rs_zero (y := 0) rfl]
      rcases tri J with hJ | hJ | hJ
      · have h0 : 0 < J * J - 4 * 0 := by have := nn hJ hJ; grind
        have hB : bB t 0 J < 0 := by
          have := nn ht hJ
          have h1 := np (a := t + J) (by grind) this
          unfold bB; grind
        rw [rs_pos (y := 0 + t * J) (by have := nn ht hJ; grind), rs_neg hB, rs_neg hJ, rs_pos h0]; decide
      · exact absurd (by rw [hJ]; grind) hD
      · have h0 : 0 < J * J - 4 * 0 := by have := pp hJ hJ; grind
        rw [rs_neg (y := 0 + t * J) (by have := np ht hJ; grind), rs_pos hJ, rs_pos h0]
        rcases any2 with q | q | q <;> rw [q] <;> decide
    · rw [rs_neg (np ht hH), rs_pos hH]
      rcases tri (J * J - 4 * H) with d | d | d
      · rw [rs_neg d]
        rcases tri J with hJ | hJ | hJ
        · rw [rs_pos (y := H + t * J) (by have := nn ht hJ; grind), rs_neg hJ]
          rcases any2 with q | q | q <;> rw [q] <;> decide
        · rw [rs_pos (y := H + t * J) (by rw [hJ]; grind), rs_zero hJ]
          rcases any2 with q | q | q <;> rw [q] <;> decide
        · have := b2 ht' hH (J := -J) (by grind) (by rw [eD]; exact d)
          rw [rs_pos (y := bB t H J) (by grind), rs_pos hJ]
          rcases any1 with q | q | q <;> rw [q] <;> decide
      · exact absurd d hD
      · rw [rs_pos d]
        rcases tri J with hJ | hJ | hJ
        · have := b1 ht' hH (J := -J) (by grind) (by rw [eD]; exact d)
          rw [rs_pos (y := H + t * J) (by have := nn ht hJ; grind), rs_neg (y := bB t H J) (by grind), rs_neg hJ]; decide
        · rw [hJ] at d; grind
        · rw [rs_pos hJ]
          rcases tri (H + t * J) with p | p | p
          · rw [rs_neg p]
            rcases any2 with q | q | q <;> rw [q] <;> decide
          · have := b3 ht' hH (J := -J) (by grind) (by rw [eP]; grind)
            rw [rs_zero p, rs_pos (y := bB t H J) (by grind)]; decide
          · have := b3 ht' hH (J := -J) (by grind) (by rw [eP]; grind)
            rw [rs_pos p, rs_pos (y := bB t H J) (by grind)]; decide
  · subst ht
    have hH := hR rfl
    have e1 : H + 0 * J = H := by grind
    have e2 : bB 0 H J = H * J := by unfold bB; grind
    rw [e1, e2, rs_zero (y := 0 * H) (by grind), if_neg (by decide)]
    rcases tri H with h | h | h
    · have h0 : 0 < J * J - 4 * H := by have := sq J; grind
      rw [rs_neg h, rs_pos h0]
      rcases rs_any (H * J) with q | q | q <;> rw [q] <;> rcases rs_any J with w | w | w <;> rw [w] <;> decide
    · exact absurd h hH
    · have e3 : ratSign (H * J) = ratSign J := by
        rcases tri J with q | q | q
        · rw [rs_neg q, rs_neg (pn h q)]
        · rw [q, rs_zero (y := H * 0) (by grind), rs_zero (y := 0) rfl]
        · rw [rs_pos q, rs_pos (pp h q)]
      rw [e3, rs_pos h]
      rcases rs_any J with w | w | w <;> rw [w] <;> rcases rs_any (J * J - 4 * H) with q | q | q <;> rw [q] <;> decide
  · rw [if_neg (by grind), Nat.zero_add]
    rcases tri H with hH | hH | hH
    · have h0 : 0 < J * J - 4 * H := by have := sq J; grind
      rw [rs_neg (pn ht hH), rs_neg hH, rs_pos h0]
      rcases tri (H + t * J) with p | p | p
      · rw [rs_neg p]
        rcases any2 with q | q | q <;> rw [q] <;> rcases rs_any J with w | w | w <;> rw [w] <;> decide
      · rw [rs_zero p]
        rcases any2 with q | q | q <;> rw [q] <;> rcases rs_any J with w | w | w <;> rw [w] <;> decide
      · have := b4 (J := J) ht hH (by grind)
        rw [rs_pos p, rs_pos this]
        rcases rs_any J with w | w | w <;> rw [w] <;> decide
    · subst hH
      rw [rs_zero (y := t * 0) (by grind), rs_zero (y := 0) rfl]
      rcases tri J with hJ | hJ | hJ
      · have h0 : 0 < J * J - 4 * 0 := by have := nn hJ hJ; grind
        rw [rs_neg (y := 0 + t * J) (by have := pn ht hJ; grind), rs_neg hJ, rs_pos h0]
        rcases any2 with q | q | q <;> rw [q] <;> decide
      · exact absurd (by rw [hJ]; grind) hD
      · have h0 : 0 < J * J - 4 * 0 := by have := pp hJ hJ; grind
        have hB : 0 < bB t 0 J := by
          have := pp ht hJ
          have h1 := pp (a := t + J) (by grind) this
          unfold bB; grind
        rw [rs_pos (y := 0 + t * J) (by have := pp ht hJ; grind), rs_pos hB, rs_pos hJ, rs_pos h0]; decide
    · rw [rs_pos (pp ht hH), rs_pos hH]
      rcases tri (J * J - 4 * H) with d | d | d
      · rw [rs_neg d]
        rcases tri J with hJ | hJ | hJ
        · have := b2 ht hH hJ d
          rw [rs_neg this, rs_neg hJ]
          rcases any1 with q | q | q <;> rw [q] <;> decide
        · rw [rs_pos (y := H + t * J) (by rw [hJ]; grind), rs_zero hJ]
          rcases any2 with q | q | q <;> rw [q] <;> decide
        · rw [rs_pos (y := H + t * J) (by have := pp ht hJ; grind), rs_pos hJ]
          rcases any2 with q | q | q <;> rw [q] <;> decide
      · exact absurd d hD
      · rw [rs_pos d]
        rcases tri J with hJ | hJ | hJ
        · rw [rs_neg hJ]
          rcases tri (H + t * J) with p | p | p
          · rw [rs_neg p]
            rcases any2 with q | q | q <;> rw [q] <;> decide
          · have := b3 ht hH hJ (by grind)
            rw [rs_zero p, rs_neg this]; decide
          · have := b3 ht hH hJ (by grind)
            rw [rs_pos p, rs_neg this]; decide
        · rw [hJ] at d; grind
        · have := b1 ht hH hJ d
          rw [rs_pos (y := H + t * J) (by have := pp ht hJ; grind), rs_pos this, rs_pos hJ]; decide
end
end St
set_option Elab.async false
set_option linter.all false
namespace St
open AlOne (Uni value)
open Sl
open Al03 (ratSign changes changesAt sturm sturmFrom between wholeFrom ratRoots)
/-! ### what's left of degree 2: its own row only falls -/
theorem low_row {u v a b : Rat} (hab : a < b) (hD : cD u v ≠ 0) : V [ratSign (b * b + u * b + v), ratSign (2 * b + u), ratSign (cD u v)] ≤ V [ratSign (a * a + u * a + v), ratSign (2 * a + u), ratSign (cD u v)] := by
  have ea : (2 * a + u) * (2 * a + u) - 4 * (a * a + u * a + v) = cD u v := by unfold cD; grind
  have eb : (2 * b + u) * (2 * b + u) - 4 * (b * b + u * b + v) = cD u v := by unfold cD; grind
  have ed : 2 * ((b * b + u * b + v) - (a * a + u * a + v)) = (b - a) * ((2 * a + u) + (2 * b + u)) := by grind
  have hJ : 2 * a + u < 2 * b + u := by grind
  have hba : 0 < b - a := by grind
  generalize a * a + u * a + v = Ha at *
  generalize b * b + u * b + v = Hb at *
  generalize 2 * a + u = Ja at *
  generalize 2 * b + u = Jb at *
  generalize cD u v = d at *
  rcases tri d with hd | hd | hd
  · have h1 : 0 < Ha := by have := sq Ja; grind
    have h2 : 0 < Hb := by have := sq Jb; grind
    rw [rs_neg hd, rs_pos h1, rs_pos h2]
    rcases rs_any Ja with q | q | q <;> rw [q] <;> rcases rs_any Jb with w | w | w <;> rw [w] <;> decide
  · exact absurd hd hD
  · rw [rs_pos hd]
    rcases tri Hb with hb | hb | hb
    · -- one root above b
      rw [rs_neg hb]
      rcases tri Ha with ha | ha | ha
      · rw [rs_neg ha]
        rcases rs_any Ja with q | q | q <;> rw [q] <;> rcases rs_any Jb with w | w | w <;> rw [w] <;> decide
      · rcases tri Ja with q | q | q
        · rw [rs_zero ha, rs_neg q]
          rcases rs_any Jb with w | w | w <;> rw [w] <;> decide
        · rw [ha, q] at ea; grind
        · have := pp hba (b := Ja + Jb) (by grind); grind
      · rcases tri Ja with q | q | q
        · rw [rs_pos ha, rs_neg q]
          rcases rs_any Jb with w | w | w <;> rw [w] <;> decide
        · rw [q] at ea; grind
        · have := pp hba (b := Ja + Jb) (by grind); grind
    · rcases tri Jb with p | p | p
      · have h1 : 0 < Ha := by have := pn hba (b := Ja + Jb) (by grind); grind
        rw [rs_zero hb, rs_neg p, rs_pos h1, rs_neg (y := Ja) (by grind)]; decide
      · rw [hb, p] at eb; grind
      · rw [rs_zero hb, rs_pos p]
        rcases rs_any Ha with q | q | q <;> rw [q] <;> rcases rs_any Ja with w | w | w <;> rw [w] <;> decide
    · rcases tri Jb with p | p | p
      · have h1 : 0 < Ha := by have := pn hba (b := Ja + Jb) (by grind); grind
        rw [rs_pos hb, rs_neg p, rs_pos h1, rs_neg (y := Ja) (by grind)]; decide
      · rw [p] at eb; grind
      · rw [rs_pos hb, rs_pos p]
        rcases rs_any Ha with q | q | q <;> rw [q] <;> rcases rs_any Ja with w | w | w <;> rw [w] <;> decide
theorem cub_signs {r u v : Rat} (hA : cA r u v ≠ 0) (hD : cD u v ≠ 0) (hR : cR r u v ≠ 0) (x : Rat) : changesAt x (sturm (cub r u v)) = (if x - r < 0 then 1 else 0) + V [ratSign (x * x + u * x + v), ratSign (2 * x + u), ratSign (cD u v)] := by
  obtain ⟨e, hs, hk⟩ := sturm3 hA hD hR
  have eD : (2 * x + u) * (2 * x + u) - 4 * (x * x + u * x + v) = cD u v := by unfold cD; grind
  have h := row_at (t := x - r) (H := x * x + u * x + v) (J := 2 * x + u) (by rw [eD]; exact hD) (fun z w => hR (by
    have : x = r := by grind
    rw [this] at w
    unfold cR; grind))
  rw [eD] at h
  rw [e, at_map, ← h]
  have e0 : value x (cub r u v) = (x - r) * (x * x + u * x + v) := by unfold cub; rw [v4]; grind
  have e1 : value x (sl r u v) = (x * x + u * x + v) + (x - r) * (2 * x + u) := by unfold sl; rw [v3]; grind
  have e2 : value x [2 / 9 * cB r u v, 2 / 9 * cA r u v] = 1 / 9 * bB (x - r) (x * x + u * x + v) (2 * x + u) := by rw [v2]; unfold cA cB bB; grind
  have s2 : ratSign (value x [2 / 9 * cB r u v, 2 / 9 * cA r u v]) = ratSign (bB (x - r) (x * x + u * x + v) (2 * x + u)) := by
    rw [e2]
    generalize bB (x - r) (x * x + u * x + v) (2 * x + u) = y
    rcases tri y with q | q | q
    · rw [rs_neg q, rs_neg (by grind)]
    · rw [rs_zero q, rs_zero (by grind)]
    · rw [rs_pos q, rs_pos (by grind)]
  have s3 : ratSign (value x [-cK r u v]) = ratSign (cD u v) := by
    rw [v1]
    rcases tri (cD u v) with q | q | q
    · rw [rs_neg q]
      refine rs_neg ?_
      rcases tri (-cK r u v) with w | w | w
      · exact w
      · exact absurd (by grind) hk
      · have := hs.mp w; grind
    · exact absurd q hD
    · rw [rs_pos q, rs_pos (hs.mpr q)]
  show V [ratSign (value x (cub r u v)), ratSign (value x (sl r u v)), ratSign (value x [2 / 9 * cB r u v, 2 / 9 * cA r u v]), ratSign (value x [-cK r u v])] = _
  rw [e0, e1, s2, s3]
theorem quad_signs {r s : Rat} (h : r ≠ s) (x : Rat) : changesAt x (sturm (quad r s)) = (if x < r then 1 else 0) + (if x < s then 1 else 0) := by
  have hk : 0 < (r - s) * (r - s) / 4 := by
    have : 0 < (r - s) * (r - s) := by
      rcases tri (r - s) with q | q | q
      · exact nn q q
      · exact absurd (by grind) h
      · exact pp q q
    grind
  rw [sturm2 h, at_map]
  have e0 : value x (quad r s) = (x - r) * (x - s) := by unfold quad; rw [v3]; grind
  have e1 : value x [-(r + s), 2] = (x - r) + (x - s) := by rw [v2]; grind
  show V [ratSign (value x (quad r s)), ratSign (value x [-(r + s), 2]), ratSign (value x [(r - s) * (r - s) / 4])] = _
  rw [e0, e1, v1, rs_pos hk]
  rcases tri (x - r) with p | p | p
  · rw [if_pos (by grind)]
    rcases tri (x - s) with q | q | q
    · rw [if_pos (by grind), rs_pos (nn p q), rs_neg (by grind)]; decide
    · rw [if_neg (by grind), rs_zero (y := (x - r) * (x - s)) (by rw [q]; grind), rs_neg (by grind)]; decide
    · rw [if_neg (by grind), rs_neg (np p q)]
      rcases rs_any (x - r + (x - s)) with w | w | w <;> rw [w] <;> decide
  · rw [if_neg (by grind), rs_zero (y := (x - r) * (x - s)) (by rw [p]; grind)]
    rcases tri (x - s) with q | q | q
    · rw [if_pos (by grind), rs_neg (by grind)]; decide
    · exact absurd (by grind) h
    · rw [if_neg (by grind), rs_pos (by grind)]; decide
  · rw [if_neg (by grind)]
    rcases tri (x - s) with q | q | q
    · rw [if_pos (by grind), rs_neg (pn p q)]
      rcases rs_any (x - r + (x - s)) with w | w | w <;> rw [w] <;> decide
    · rw [if_neg (by grind), rs_zero (y := (x - r) * (x - s)) (by rw [q]; grind), rs_pos (by grind)]; decide
    · rw [if_neg (by grind), rs_pos (pp p q), rs_pos (by grind)]; decide
theorem flat_drop {r u v a b : Rat} (hA : cA r u v = 0) (hB : cB r u v ≠ 0) (ha : a < r) (hb : r ≤ b) : changesAt b (sturm (cub r u v)) < changesAt a (sturm (cub r u v)) := by
  have hv : v = (u * u + u * r + r * r) / 3 := by unfold cA at hA; grind
  have hw : u + 2 * r ≠ 0 := fun z => hB (by
    have hu : u = -2 * r := by grind
    unfold cB; rw [hv, hu]; grind)
  have hH : ∀ x : Rat, 0 < x * x + u * x + v := fun x => by
    have h1 := sq (x + u / 2)
    have h2 : 0 < (u + 2 * r) * (u + 2 * r) := by
      rcases tri (u + 2 * r) with q | q | q
      · exact nn q q
      · exact absurd q hw
      · exact pp q q
    rw [hv]; grind
  rw [sturm3z hA hB, at_map, at_map]
  have e0 : ∀ x, value x (cub r u v) = (x - r) * (x * x + u * x + v) := fun x => by unfold cub; rw [v4]; grind
  have e1 : ∀ x, value x (sl r u v) = 3 * ((x + (u - r) / 3) * (x + (u - r) / 3)) := fun x => by unfold sl; rw [v3, hv]; grind
  have nonneg : ∀ x, 0 ≤ value x (sl r u v) := fun x => by rw [e1]; have := sq (x + (u - r) / 3); grind
  have hqa : value a (cub r u v) < 0 := by rw [e0]; exact np (by grind) (hH a)
  have hqb : 0 ≤ value b (cub r u v) := by rw [e0]; exact Rat.mul_nonneg (by grind) (Rat.le_of_lt (hH b))
  have key : value a (sl r u v) = 0 → 0 < cB r u v := fun z => by
    rw [e1] at z
    have hz : (a + (u - r) / 3) * (a + (u - r) / 3) = 0 := by grind
    have ha' : a = -(u - r) / 3 := by rcases Rat.mul_eq_zero.mp hz with q | q <;> grind
    have : value a (cub r u v) = -(2 / 9 * cB r u v) := by
      unfold cub cB
      rw [v4, hv, ha']; grind
    grind
  show V [ratSign (value b (cub r u v)), ratSign (value b (sl r u v)), ratSign (value b [2 / 9 * cB r u v])] < V [ratSign (value a (cub r u v)), ratSign (value a (sl r u v)), ratSign (value a [2 / 9 * cB r u v])]
  rw [v1, v1, rs_neg hqa]
  have na := nonneg a
  have nb := nonneg b
  generalize value a (sl r u v) = ya at *
  generalize value b (sl r u v) = yb at *
  generalize value b (cub r u v) = zb at *
  rcases tri (cB r u v) with q | q | q
  · rw [rs_neg (y := 2 / 9 * cB r u v) (by grind)]
    rcases tri ya with p | p | p
    · grind
    · have := key p; grind
    · rw [rs_pos p]
      rcases tri zb with w | w | w
      · grind
      · rw [rs_zero w]; rcases rs_any yb with z | z | z <;> rw [z] <;> decide
      · rw [rs_pos w]
        rcases tri yb with z | z | z
        · grind
        · rw [rs_zero z]; decide
        · rw [rs_pos z]; decide
  · exact absurd q hB
  · rw [rs_pos (y := 2 / 9 * cB r u v) (by grind)]
    rcases tri zb with w | w | w
    · grind
    · rw [rs_zero w]
      rcases tri yb with z | z | z
      · grind
      · rw [rs_zero z]; rcases tri ya with p | p | p
        · grind
        · rw [rs_zero p]; decide
        · rw [rs_pos p]; decide
      · rw [rs_pos z]; rcases tri ya with p | p | p
        · grind
        · rw [rs_zero p]; decide
        · rw [rs_pos p]; decide
    · rw [rs_pos w]
      rcases tri yb with z | z | z
      · grind
      · rw [rs_zero z]; rcases tri ya with p | p | p
        · grind
        · rw [rs_zero p]; decide
        · rw [rs_pos p]; decide
      · rw [rs_pos z]; rcases tri ya with p | p | p
        · grind
        · rw [rs_zero p]; decide
        · rw [rs_pos p]; decide
/-- **a root above a, not above b, is seen by the row** -/
theorem drop {r : Rat} {q : Uni} (F : Form r q) {a b : Rat} (ha : a < r) (hb : r ≤ b) : changesAt b (sturm q) < changesAt a (sturm q) := by
  cases F with
  | one =>
    rw [sturm1, at_map, at_map]
    show V [ratSign (value b [-r, 1]), ratSign (value b [1])] < V [ratSign (value a [-r, 1]), ratSign (value a [1])]
    rw [v2, v1, v2, v1, rs_neg (y := -r + 1 * a) (by grind), rs_pos (y := 1) (by decide)]
    rcases tri (-r + 1 * b) with q | q | q
    · grind
    · rw [rs_zero q]; decide
    · rw [rs_pos q]; decide
  | two s h =>
    rw [quad_signs h, quad_signs h, if_pos ha, if_neg (by grind)]
    by_cases k : b < s
    · rw [if_pos k, if_pos (by grind)]; omega
    · rw [if_neg k]; omega
  | three u v hA hD hR =>
    rw [cub_signs hA hD hR, cub_signs hA hD hR, if_neg (show ¬ b - r < 0 by grind), if_pos (show a - r < 0 by grind)]
    have := low_row (a := a) (b := b) (by grind) hD
    omega
  | flat u v hA hB => exact flat_drop hA hB ha hb
/-! ### whole roots -/
theorem between_ne {m : Uni} {r a b : Rat} (hm : Mon m) (hl : 2 ≤ m.length) (hu : m.length ≤ 4) (hr : value r m = 0) (ha : a < r) (hb : r ≤ b) : between m a b ≠ 0 := by
  have := drop (form_of hm hl hu hr) ha hb
  show changesAt a (sturm (free m)) - changesAt b (sturm (free m)) ≠ 0
  omega
theorem whole_sound {m : Uni} : ∀ (f : Nat) (lo z : Int), z ∈ wholeFrom m f lo → value (z : Rat) m = 0
  | 0, lo, z, h => by
    unfold wholeFrom at h
    split at h
    · rw [List.mem_singleton] at h; rw [h]; assumption
    · cases h
  | f + 1, lo, z, h => by
    unfold wholeFrom at h
    split at h
    · cases h
    · rcases List.mem_append.mp h with h | h
      · exact whole_sound f _ z h
      · exact whole_sound f _ z h
theorem whole_all {m : Uni} (hm : Mon m) (hl : 2 ≤ m.length) (hu : m.length ≤ 4) {z : Int} (hz : value (z : Rat) m = 0) : ∀ (f : Nat) (lo : Int), lo < z → z ≤ lo + 2 ^ f → z ∈ wholeFrom m f lo
  | 0, lo, h1, h2 => by
    have e : z = lo + 1 := by have : (2 : Int) ^ 0 = 1 := rfl; omega
    unfold wholeFrom
    rw [← e, if_pos hz]
    exact List.mem_cons_self ..
  | f + 1, lo, h1, h2 => by
    have hne : between m (lo : Rat) ((lo + 2 ^ (f + 1) : Int) : Rat) ≠ 0 := between_ne hm hl hu hz (Rat.intCast_lt_intCast.mpr h1) (Rat.intCast_le_intCast.mpr h2)
    unfold wholeFrom
    rw [if_neg hne]
    have e : (2 : Int) ^ (f + 1) = 2 ^ f + 2 ^ f := by rw [Int.pow_succ]; omega
    by_cases h : z ≤ lo + 2 ^ f
    · exact List.mem_append.mpr (.inl (whole_all hm hl hu hz f lo h1 h))
    · exact List.mem_append.mpr (.inr (whole_all hm hl hu hz f (lo + 2 ^ f) (by omega) (by omega)))
end St
set_option Elab.async false
set_option linter.all false
namespace St
open AlOne (Uni value)
open Sl
open Al03 (ratSign changes changesAt sturm sturmFrom between wholeFrom ratRoots)
/-! ### made whole -/
theorem gcd_fold : ∀ (p : List Rat) (g : Nat), p.foldl (fun (g : Nat) (x : Rat) => Nat.gcd g x.num.natAbs) g ∣ g ∧ ∀ x ∈ p, p.foldl (fun (g : Nat) (x : Rat) => Nat.gcd g x.num.natAbs) g ∣ x.num.natAbs
  | [], g => ⟨Nat.dvd_refl g, fun x h => by cases h⟩
  | c :: p, g => by
    have ih := gcd_fold p (Nat.gcd g c.num.natAbs)
    refine ⟨Nat.dvd_trans ih.1 (Nat.gcd_dvd_left _ _), fun x hx => ?_⟩
    rcases List.mem_cons.mp hx with hx | hx
    · rw [hx]; exact Nat.dvd_trans ih.1 (Nat.gcd_dvd_right _ _)
    · exact ih.2 x hx
theorem lcm_fold : ∀ (p : List Rat) (g : Nat), g ∣ p.foldl (fun (g : Nat) (x : Rat) => Nat.lcm g x.den) g ∧ (∀ x ∈ p, x.den ∣ p.foldl (fun (g : Nat) (x : Rat) => Nat.lcm g x.den) g) ∧ (0 < g → 0 < p.foldl (fun (g : Nat) (x : Rat) => Nat.lcm g x.den) g)
  | [], g => ⟨Nat.dvd_refl g, (fun x h => by cases h), (fun h => h)⟩
  | c :: p, g => by
    have ih := lcm_fold p (Nat.lcm g c.den)
    refine ⟨Nat.dvd_trans (Nat.dvd_lcm_left _ _) ih.1, fun x hx => ?_, fun h => ih.2.2 (Nat.lcm_pos h c.den_pos)⟩
    rcases List.mem_cons.mp hx with hx | hx
    · rw [hx]; exact Nat.dvd_trans (Nat.dvd_lcm_right _ _) ih.1
    · exact ih.2.1 x hx
theorem front_ok {p : Uni} (ht : Tr p) (h0 : p ≠ []) : Al02.front p ≠ 0 ∧ ∀ x ∈ p, ∃ k : Int, (1 / Al02.front p) * x = (k : Rat) := by
  unfold Al02.front
  have hg := (gcd_fold p 0).2
  have hl := lcm_fold p 1
  simp only
  generalize p.foldl (fun (g : Nat) (x : Rat) => Nat.gcd g x.num.natAbs) 0 = n at *
  generalize p.foldl (fun (g : Nat) (x : Rat) => Nat.lcm g x.den) 1 = d at *
  have hd := hl.2.2 (by decide)
  have hn : 0 < n := by
    have hlast : p.getLast? = some (p.getLast h0) := List.getLast?_eq_getLast h0
    have hc := ht _ hlast
    have hdv := hg _ (List.getLast_mem h0)
    refine Nat.pos_of_ne_zero fun z => hc ?_
    rw [z] at hdv
    have := Nat.eq_zero_of_zero_dvd hdv
    exact Rat.num_eq_zero.mp (by omega)
  have hnR : (n : Rat) ≠ 0 := fun z => by have := Rat.natCast_eq_zero_iff.mp z; omega
  have hdR : (d : Rat) ≠ 0 := fun z => by have := Rat.natCast_eq_zero_iff.mp z; omega
  generalize hsg : (if AlOne.lead p < 0 then (-1 : Rat) else 1) = sg
  have hs : sg * sg = 1 := by rw [← hsg]; split <;> grind
  have hs0 : sg ≠ 0 := by grind
  refine ⟨fun z => ?_, fun x hx => ?_⟩
  · have : (n : Rat) / (d : Rat) = 0 := by rcases Rat.mul_eq_zero.mp z with q | q; exact absurd q hs0; exact q
    exact hnR (by grind)
  · obtain ⟨a, ha⟩ : ((n : Nat) : Int) ∣ x.num := Int.ofNat_dvd_left.mpr (hg x hx)
    obtain ⟨e, he⟩ := hl.2.1 x hx
    have hx2 := rat_self x
    have hden : (x.den : Rat) ≠ 0 := fun z => by have := Rat.natCast_eq_zero_iff.mp z; have := x.den_pos; omega
    have h1 : (x.num : Rat) = (n : Rat) * (a : Rat) := by rw [ha, Rat.intCast_mul, Rat.intCast_natCast]
    have h2 : (d : Rat) = (x.den : Rat) * (e : Rat) := by rw [he, Rat.natCast_mul]
    by_cases q : sg = 1
    · refine ⟨a * (e : Int), ?_⟩
      rw [Rat.intCast_mul, Rat.intCast_natCast, ← hx2, h1, q, h2]
      have he0 : (e : Rat) ≠ 0 := fun z => by rw [z] at h2; grind
      grind
    · have q' : sg = -1 := by grind
      refine ⟨-(a * (e : Int)), ?_⟩
      rw [Rat.intCast_neg, Rat.intCast_mul, Rat.intCast_natCast, ← hx2, h1, q', h2]
      have he0 : (e : Rat) ≠ 0 := fun z => by rw [z] at h2; grind
      grind
theorem scale_map {c : Rat} {p : Uni} (hc : c ≠ 0) (ht : Tr p) : AlOne.scale c p = p.map fun x => c * x := by
  unfold AlOne.scale
  refine trim_self _ fun d hd => ?_
  rw [List.getLast?_map] at hd
  cases e : p.getLast? with
  | none => rw [e] at hd; cases hd
  | some y =>
    rw [e] at hd
    have : c * y = d := by simpa using hd
    rw [← this]
    intro z
    rcases Rat.mul_eq_zero.mp z with q | q
    · exact hc q
    · exact ht y e q
/-! ### by powers of the highest number -/
theorem power_add (c : Rat) (i : Nat) : ∀ j, AlBase.power c (i + j) = AlBase.power c i * AlBase.power c j
  | 0 => by show AlBase.power c i = AlBase.power c i * 1; grind
  | j + 1 => by
    show AlBase.power c (i + j) * c = AlBase.power c i * (AlBase.power c j * c)
    rw [power_add c i j]; grind
theorem power_ne {c : Rat} (hc : c ≠ 0) : ∀ n, AlBase.power c n ≠ 0
  | 0 => by show (1 : Rat) ≠ 0; decide
  | n + 1 => fun z => by
    rcases Rat.mul_eq_zero.mp (show AlBase.power c n * c = 0 from z) with q | q
    · exact power_ne hc n q
    · exact hc q
def mk (c : Rat) (n i : Nat) (l : List Rat) : List Rat := (l.zip (List.range' i l.length)).map fun (x : Rat × Nat) => x.1 * AlBase.power c (n - x.2) / c
theorem mk_cons (c : Rat) (n i : Nat) (w : Rat) (l : List Rat) : mk c n i (w :: l) = (w * AlBase.power c (n - i) / c) :: mk c n (i + 1) l := by
  unfold mk
  rw [List.length_cons, List.range'_succ, List.zip_cons_cons, List.map_cons]
theorem mk_val {c : Rat} (hc : c ≠ 0) (k : Rat) (n : Nat) : ∀ (l : List Rat) (i : Nat), i + l.length = n + 1 → AlBase.power c i * value (k * c) (mk c n i l) = AlBase.power c n / c * value k l
  | [], i, h => by show _ * 0 = _ * 0; grind
  | w :: l, i, h => by
    rw [List.length_cons] at h
    have ih := mk_val hc k n l (i + 1) (by omega)
    have hp := power_add c i (n - i)
    rw [show i + (n - i) = n by omega] at hp
    rw [mk_cons]
    show AlBase.power c i * (w * AlBase.power c (n - i) / c + (k * c) * value (k * c) (mk c n (i + 1) l)) = AlBase.power c n / c * (w + k * value k l)
    have e : AlBase.power c (i + 1) = AlBase.power c i * c := rfl
    rw [e] at ih
    rw [hp] at ih ⊢
    generalize value (k * c) (mk c n (i + 1) l) = X at *
    generalize value k l = Y at *
    generalize AlBase.power c i = P at *
    generalize AlBase.power c (n - i) = R at *
    have : P * ((k * c) * X) = k * (P * R / c * Y) := by rw [← ih]; grind
    grind
theorem mk_last {c : Rat} (n : Nat) : ∀ (l : List Rat) (i : Nat), i + l.length = n + 1 → (mk c n i l).getLast? = l.getLast?.map fun w => w * 1 / c
  | [], i, h => rfl
  | [w], i, h => by
    have : n - i = 0 := by simp at h; omega
    rw [mk_cons, this]; rfl
  | w :: y :: l, i, h => by
    rw [List.length_cons] at h
    have ih := mk_last (c := c) n (y :: l) (i + 1) (by omega)
    rw [List.getLast?_cons_cons, ← ih, mk_cons c n i, mk_cons c n (i + 1), List.getLast?_cons_cons]
theorem mk_len (c : Rat) (n : Nat) : ∀ (l : List Rat) (i : Nat), (mk c n i l).length = l.length
  | [], _ => rfl
  | w :: l, i => by rw [mk_cons, List.length_cons, List.length_cons, mk_len c n l]
/-! ### roots lie within -/
theorem num_bound (y : Rat) : y ≤ (y.num.natAbs : Rat) ∧ -(y.num.natAbs : Rat) ≤ y := by
  have hd := y.den_pos
  have h1 : y.num * 1 ≤ (y.num.natAbs : Int) * (y.den : Int) := by
    have : (y.num.natAbs : Int) * 1 ≤ (y.num.natAbs : Int) * (y.den : Int) := Int.mul_le_mul_of_nonneg_left (by omega) (by omega)
    omega
  have h2 : -(y.num.natAbs : Int) * (y.den : Int) ≤ y.num * 1 := by
    have : (y.num.natAbs : Int) * 1 ≤ (y.num.natAbs : Int) * (y.den : Int) := Int.mul_le_mul_of_nonneg_left (by omega) (by omega)
    rw [Int.neg_mul]
    omega
  exact ⟨(Rat.le_iff _ _).mpr h1, (Rat.le_iff _ _).mpr h2⟩
theorem max_fold : ∀ (l : List Nat) (s : Nat), s ≤ l.foldl max s ∧ ∀ x ∈ l, x ≤ l.foldl max s
  | [], s => ⟨Nat.le_refl s, fun x h => by cases h⟩
  | y :: l, s => by
    have ih := max_fold l (max s y)
    refine ⟨Nat.le_trans (Nat.le_max_left _ _) ih.1, fun x hx => ?_⟩
    rcases List.mem_cons.mp hx with hx | hx
    · rw [hx]; exact Nat.le_trans (Nat.le_max_right _ _) ih.1
    · exact ih.2 x hx
/-- **the whole numbers, 0 or more, among the roots** -/
theorem nat_roots {p : Uni} (ht : Tr p) (h0 : p ≠ []) (hl : p.length ≤ 4) (k : Nat) : k ∈ Al10.naturals (ratRoots p) ↔ value (k : Rat) p = 0 := by
  obtain ⟨hf, hint⟩ := front_ok ht h0
  have hf1 : 1 / Al02.front p ≠ 0 := fun z => by
    have : (1 : Rat) = 0 := by grind
    exact absurd this (by decide)
  have hw := scale_map hf1 ht
  have hwt : Tr (AlOne.scale (1 / Al02.front p) p) := scale_tr _ _
  have hvw : ∀ x, value x (AlOne.scale (1 / Al02.front p) p) = 0 ↔ value x p = 0 := fun x => by
    rw [value_scale]
    constructor
    · intro z
      rcases Rat.mul_eq_zero.mp z with q | q
      · exact absurd q hf1
      · exact q
    · intro z; rw [z]; grind
  have hwi : ∀ x ∈ AlOne.scale (1 / Al02.front p) p, ∃ k : Int, x = (k : Rat) := fun x hx => by
    rw [hw] at hx
    obtain ⟨y, hy, rfl⟩ := List.mem_map.mp hx
    exact hint y hy
  have hwl : (AlOne.scale (1 / Al02.front p) p).length = p.length := by rw [hw, List.length_map]
  unfold ratRoots
  simp only
  generalize AlOne.scale (1 / Al02.front p) p = w at *
  have hw0 : w ≠ [] := fun z => by rw [z] at hwl; exact h0 (List.eq_nil_of_length_eq_zero hwl.symm)
  have hpos := List.length_pos_iff.mpr hw0
  have hlast : w.getLast? = some (AlOne.lead w) := by
    unfold AlOne.lead
    rw [List.getLast?_eq_getLast hw0, List.getLastD_eq_getLast?, List.getLast?_eq_getLast hw0]; rfl
  have hc0 : AlOne.lead w ≠ 0 := hwt _ hlast
  obtain ⟨ci, hci⟩ := hwi (AlOne.lead w) (List.mem_of_getLast? hlast)
  have hdeg : AlOne.degree w = w.length - 1 := rfl
  have em : (w.zip (List.range (AlOne.degree w + 1))).map (fun (x : Rat × Nat) => x.1 * AlBase.power (AlOne.lead w) (AlOne.degree w - x.2) / AlOne.lead w) = mk (AlOne.lead w) (AlOne.degree w) 0 w := by
    unfold mk
    rw [hdeg, show w.length - 1 + 1 = w.length by omega, List.range_eq_range']
  rw [em]
  generalize hcc : AlOne.lead w = c at *
  generalize hnn : AlOne.degree w = n at *
  have hlenn : 0 + w.length = n + 1 := by omega
  have hmlast := mk_last (c := c) n w 0 hlenn
  rw [hlast] at hmlast
  have hmon : Mon (mk c n 0 w) := by
    unfold Mon
    rw [hmlast]
    show some (c * 1 / c) = some 1
    congr 1; grind
  have hmtr : Tr (mk c n 0 w) := fun d hd => by
    unfold Mon at hmon
    rw [hmon] at hd
    cases hd; decide
  rw [trim_self _ hmtr]
  have hml := mk_len c n w 0
  have hroot : ∀ x : Rat, value (x * c) (mk c n 0 w) = 0 ↔ value x w = 0 := fun x => by
    have h := mk_val hc0 x n w 0 hlenn
    have e1 : AlBase.power c 0 = 1 := rfl
    have hP := power_ne hc0 n
    rw [e1] at h
    generalize AlBase.power c n = P at *
    constructor
    · intro z
      rw [z] at h
      have : P / c * value x w = 0 := by grind
      rcases Rat.mul_eq_zero.mp this with q | q
      · exact absurd (by grind) hP
      · exact q
    · intro z
      rw [z] at h
      grind
  generalize hmm : mk c n 0 w = m at *
  generalize hbb : (m.map fun (x : Rat) => x.num.natAbs).foldl max 1 + 1 = b
  constructor
  · intro h
    unfold Al10.naturals at h
    obtain ⟨r, hr, er⟩ := List.mem_filterMap.mp h
    split at er
    · rename_i hd
      cases er
      obtain ⟨z, hz, rfl⟩ := List.mem_map.mp hr
      have hv := whole_sound _ _ z hz
      have hrk : ((z : Rat) / c) = ((((z : Rat) / c).num.toNat : Nat) : Rat) := by
        generalize (z : Rat) / c = y at *
        have h1 := rat_self y
        rw [hd.1] at h1
        have h2 : ((y.num.toNat : Nat) : Rat) = (y.num : Rat) := by
          rw [← Rat.intCast_natCast, Int.toNat_of_nonneg hd.2]
        rw [h2]
        have h3 : ((1 : Nat) : Rat) = 1 := rfl
        rw [h3] at h1
        grind
      rw [← hrk, ← hvw, ← hroot]
      have : (z : Rat) / c * c = z := by grind
      rw [this]
      exact hv
    · cases er
  · intro h
    have hwv := (hvw k).mpr h
    have hv : value ((k : Rat) * c) m = 0 := (hroot k).mpr hwv
    have ez : (k : Rat) * c = (((k : Int) * ci : Int) : Rat) := by rw [hci, Rat.intCast_mul, Rat.intCast_natCast]
    rw [ez] at hv
    have hl2 : 2 ≤ m.length := by
      refine Nat.le_of_not_lt fun q => ?_
      have : m.length = 1 := by omega
      match m, this, hmon, hv with
      | [y], _, hmon, hv =>
        have hy : y = 1 := by simpa [Mon] using hmon
        rw [v1, hy] at hv
        exact absurd hv (by decide)
    have hin : In ((b - 1 : Nat) : Rat) m := fun y hy => by
      have hb := (max_fold (m.map fun (x : Rat) => x.num.natAbs) 1).2 y.num.natAbs (List.mem_map.mpr ⟨y, hy, rfl⟩)
      have hb' : y.num.natAbs ≤ b - 1 := by omega
      have h1 := num_bound y
      have h2 : ((y.num.natAbs : Nat) : Rat) ≤ ((b - 1 : Nat) : Rat) := Rat.natCast_le_natCast.mpr hb'
      exact ⟨by grind, by grind⟩
    have hb1 : 1 ≤ b := by omega
    have hB0 : (0 : Rat) ≤ ((b - 1 : Nat) : Rat) := Rat.natCast_nonneg
    have hBe : ((b - 1 : Nat) : Rat) + 1 = ((b : Int) : Rat) := by
      rw [Rat.intCast_natCast]
      have : b = (b - 1) + 1 := by omega
      conv => rhs; rw [this]
      rw [Rat.natCast_add]; rfl
    have hlog : b < 2 ^ (b.log2 + 1) := Nat.lt_log2_self
    have hlogI : (b : Int) < 2 ^ (b.log2 + 1) := by exact_mod_cast hlog
    generalize hzz : (k : Int) * ci = z at *
    have hz1 : z < (b : Int) := by
      refine Int.not_le.mp fun q => ?_
      have := horner_pos hB0 (x := (z : Rat)) (by rw [hBe]; exact Rat.intCast_le_intCast.mpr q) m hmon hin
      rw [hv] at this
      exact absurd this (by decide)
    have hz2 : -(b : Int) < z := by
      refine Int.not_le.mp fun q => ?_
      have := horner_neg hB0 (x := (z : Rat)) (by rw [hBe, ← Rat.intCast_neg]; exact Rat.intCast_le_intCast.mpr q) m hmon hin
      rw [hv] at this
      rcases this with w | w
      · exact absurd w (by decide)
      · exact absurd w (by decide)
    have e2 : (2 : Int) ^ (b.log2 + 2) = 2 ^ (b.log2 + 1) + 2 ^ (b.log2 + 1) := by rw [show b.log2 + 2 = (b.log2 + 1) + 1 by omega, Int.pow_succ]; omega
    have hmem := whole_all hmon hl2 (by omega) hv (b.log2 + 2) (-(2 ^ (b.log2 + 1) : Int)) (by omega) (by omega)
    unfold Al10.naturals
    refine List.mem_filterMap.mpr ⟨(z : Rat) / c, List.mem_map.mpr ⟨z, hmem, rfl⟩, ?_⟩
    have ek : (z : Rat) / c = (k : Rat) := by rw [← ez]; grind
    rw [ek, if_pos ⟨rfl, by rw [Rat.num_natCast]; omega⟩, Rat.num_natCast]
    rfl
end St
set_option Elab.async false
set_option linter.all false
namespace Ht
open AlOne (Uni value)
open Sl St
/-! ### values at whole numbers -/
def valI (l : List Int) (x : Int) : Int := l.foldr (fun c v => v * x + c) 0
theorem valI_cast (x : Int) : ∀ l : List Int, (valI l x : Rat) = value (x : Rat) (ra l)
  | [] => rfl
  | c :: l => by
    show ((valI l x * x + c : Int) : Rat) = (c : Rat) + (x : Rat) * value (x : Rat) (ra l)
    rw [Rat.intCast_add, Rat.intCast_mul, valI_cast x l]; grind
theorem value_zero (x : Rat) : ∀ p : List Rat, (∀ n, cq p n = 0) → value x p = 0
  | [], _ => rfl
  | c :: p, h => by
    have h0 : c = 0 := h 0
    have ih := value_zero x p fun n => by have := h (n + 1); rwa [cq_succ] at this
    show c + x * value x p = 0
    rw [h0, ih]; grind
theorem value_congr (x : Rat) : ∀ p q : List Rat, (∀ n, cq p n = cq q n) → value x p = value x q
  | [], q, h => by rw [value_zero x q fun n => (h n).symm]; rfl
  | c :: p, [], h => value_zero x (c :: p) h
  | c :: p, d :: q, h => by
    have e : c = d := h 0
    have ih := value_congr x p q fun n => by have := h (n + 1); rwa [cq_succ, cq_succ] at this
    show c + x * value x p = d + x * value x q
    rw [e, ih]
theorem value_compose (x k : Rat) : ∀ p : Uni, value x (AlOne.compose p (AlOne.trim [k, 1])) = value (x + k) p
  | [] => rfl
  | c :: l => by
    have ih := value_compose x k l
    unfold AlOne.compose
    rw [value_add, value_trim, value_mul, ih, value_trim, v1, v2]
    show c + (k + 1 * x) * value (x + k) l = c + (x + k) * value (x + k) l
    grind
theorem val_plus (a b : List Int) (x : Int) : valI (plusI a b) x = valI a x + valI b x := by
  have h : ((valI (plusI a b) x : Int) : Rat) = ((valI a x + valI b x : Int) : Rat) := by
    rw [Rat.intCast_add, valI_cast, valI_cast, valI_cast, ← value_addRaw]
    refine value_congr _ _ _ fun n => ?_
    rw [ra_cq, plusI_co, addRaw_cq, ra_cq, ra_cq, Rat.intCast_add]
  exact Rat.intCast_inj.mp h
theorem val_times (a b : List Int) (x : Int) : valI (timesI a b) x = valI a x * valI b x := by
  have h : ((valI (timesI a b) x : Int) : Rat) = ((valI a x * valI b x : Int) : Rat) := by
    rw [Rat.intCast_mul, valI_cast, valI_cast, valI_cast, ← value_mul]
    refine value_congr _ _ _ fun n => ?_
    rw [ra_cq, timesI_co, cvI_cast, mul_cq]
    congr 1
    funext m
    rw [ra_cq]
  exact Rat.intCast_inj.mp h
theorem val_step (l : List Int) (x : Int) : valI (stepI l) x = valI l (x + 1) := by
  have h : ((valI (stepI l) x : Int) : Rat) = ((valI l (x + 1) : Int) : Rat) := by
    rw [valI_cast, valI_cast, Rat.intCast_add, show ((1 : Int) : Rat) = 1 from rfl, ← value_compose]
    refine value_congr _ _ _ fun n => ?_
    rw [ra_cq, stepI_co, compose_cq]
  exact Rat.intCast_inj.mp h
def diffI (l : List Int) : List Int := plusI (stepI l) (timesI [-1] l)
theorem val_diff (l : List Int) (x : Int) : valI (diffI l) x = valI l (x + 1) - valI l x := by
  unfold diffI
  rw [val_plus, val_times, val_step]
  show valI l (x + 1) + (0 * x + -1) * valI l x = _
  omega
/-- one power less -/
theorem diff_len {l : List Int} (h : 0 < l.length) : (diffI l).length ≤ l.length - 1 := by
  have htr : TrI (diffI l) := plusI_tr _ _
  refine Nat.le_of_not_lt fun k => ?_
  have hne : diffI l ≠ [] := fun z => by rw [z] at k; simp at k
  have hlast : (diffI l).getLast? = some ((diffI l).getLast hne) := List.getLast?_eq_getLast hne
  have hz : ∀ i, l.length - 1 ≤ i → co (diffI l) i = 0 := fun i hi => by
    unfold diffI
    rw [plusI_co, timesI_co]
    have e1 : cvI [-1] (co l) i = -co l i := by
      cases i with
      | zero => show -1 * co l 0 = _; omega
      | succ i => show -1 * co l (i + 1) + 0 = _; omega
    rw [e1]
    have hs := stepI_co l i
    -- the numbers of y at x + 1 at the highest power
    have key : ∀ (p : List Rat) (j : Nat), p.length - 1 ≤ j → sh 1 p j = cq p j := by
      intro p
      induction p with
      | nil => intro j _; rfl
      | cons c p ih =>
        intro j hj
        have high : ∀ (q : List Rat) (m : Nat), q.length ≤ m → sh 1 q m = 0 := by
          intro q
          induction q with
          | nil => intro m _; rfl
          | cons d q ihq =>
            intro m hm
            cases m with
            | zero => simp at hm
            | succ m =>
              simp at hm
              show 1 * sh 1 q (m + 1) + sh 1 q m = 0
              rw [ihq (m + 1) (by omega), ihq m hm]; grind
        cases j with
        | zero =>
          have : p = [] := List.eq_nil_of_length_eq_zero (by simpa using hj)
          subst this
          show c + 1 * 0 = c; grind
        | succ j =>
          simp at hj
          show 1 * sh 1 p (j + 1) + sh 1 p j = cq (c :: p) (j + 1)
          rw [high p (j + 1) (by omega), ih j (by omega), cq_succ]; grind
    have h2 : sh 1 (ra l) i = cq (ra l) i := key (ra l) i (by unfold ra; rw [List.length_map]; exact hi)
    rw [h2, ra_cq] at hs
    have : co (stepI l) i = co l i := Rat.intCast_inj.mp hs
    omega
  have h1 := hz ((diffI l).length - 1) (by omega)
  unfold co at h1
  rw [List.getD_eq_getElem?_getD, List.getElem?_eq_getElem (by omega)] at h1
  rw [List.getLast_eq_getElem] at hlast
  refine htr ?_
  rw [hlast]
  congr 1
/-! ### changes of sign -/
def sgn (v : Int) : Int := if v = 0 then 0 else if 0 < v then 1 else -1
def chgR (f : Nat → Int) (a b : Nat) : List Nat := ((List.range' a (b - a)).filter fun i => decide (sgn (f (i + 1)) ≠ sgn (f i))).map (· + 1)
theorem chg_split (f : Nat → Int) {a b c : Nat} (h1 : a ≤ b) (h2 : b ≤ c) : chgR f a c = chgR f a b ++ chgR f b c := by
  unfold chgR
  rw [← List.map_append, ← List.filter_append]
  congr 2
  have e : c - a = (b - a) + (c - b) := by omega
  rw [e, ← List.range'_append_1, show a + (b - a) = b by omega]
theorem chg_none (f : Nat → Int) {a b : Nat} (h : ∀ i, a ≤ i → i < b → sgn (f (i + 1)) = sgn (f i)) : chgR f a b = [] := by
  unfold chgR
  rw [List.map_eq_nil_iff, List.filter_eq_nil_iff]
  intro i hi
  have := List.mem_range'_1.mp hi
  rw [h i this.1 (by omega)]
  simp
theorem chg_one (f : Nat → Int) {p : Nat} (h : sgn (f (p + 1)) ≠ sgn (f p)) : chgR f p (p + 1) = [p + 1] := by
  unfold chgR
  rw [show p + 1 - p = 1 by omega]
  show (List.filter _ [p]).map _ = _
  rw [List.filter_cons, if_pos (by simpa using h)]
  rfl
theorem chg_mem (f : Nat → Int) {a b p : Nat} : p ∈ chgR f a b ↔ a < p ∧ p ≤ b ∧ sgn (f p) ≠ sgn (f (p - 1)) := by
  unfold chgR
  rw [List.mem_map]
  constructor
  · rintro ⟨i, hi, rfl⟩
    obtain ⟨h1, h2⟩ := List.mem_filter.mp hi
    have := List.mem_range'_1.mp h1
    refine ⟨by omega, by omega, ?_⟩
    rw [Nat.add_sub_cancel]
    simpa using h2
  · rintro ⟨h1, h2, h3⟩
    refine ⟨p - 1, List.mem_filter.mpr ⟨List.mem_range'_1.mpr ⟨by omega, by omega⟩, ?_⟩, by omega⟩
    rw [show p - 1 + 1 = p by omega]
    simpa using h3
/-- the sign holds up to p, and from p on it doesn't -/
structure First (f : Nat → Int) (s e p : Nat) : Prop where
  lt : s < p
  le : p ≤ e
  low : ∀ x, s ≤ x → x < p → sgn (f x) = sgn (f s)
  high : ∀ x, p ≤ x → x ≤ e → sgn (f x) ≠ sgn (f s)
/-- between two places it only rises or only falls, or stays -/
def Mono (f : Nat → Int) (s e : Nat) : Prop := ∀ x y, s ≤ x → x ≤ y → y ≤ e → sgn (f y) = sgn (f s) → sgn (f x) = sgn (f s)
theorem first_ex {f : Nat → Int} {s : Nat} : ∀ (n e : Nat), e = s + n → Mono f s e → sgn (f s) ≠ sgn (f e) → ∃ p, First f s e p
  | 0, e, h, _, k => absurd (by rw [h]; rfl) k
  | n + 1, e, h, m, k => by
    by_cases q : sgn (f s) = sgn (f (s + n))
    · refine ⟨s + n + 1, by omega, by omega, fun x h1 h2 => m x (s + n) h1 (by omega) (by omega) q.symm, fun x h1 h2 => ?_⟩
      have : x = e := by omega
      rw [this]; exact fun z => k z.symm
    · obtain ⟨p, hp⟩ := first_ex n (s + n) rfl (fun x y h1 h2 h3 h4 => m x y h1 h2 (by omega) h4) q
      refine ⟨p, hp.lt, by have := hp.le; omega, hp.low, fun x h1 h2 z => ?_⟩
      have := m (s + n) x (by omega) 
      by_cases hx : x ≤ s + n
      · exact hp.high x h1 hx z
      · exact q (m (s + n) x (by omega) (by omega) h2 z).symm
theorem mono_of {f : Nat → Int} {s e : Nat} {σ : Int} (h : ∀ i, s ≤ i → i < e → sgn (f (i + 1) - f i) = σ) : ∀ a, s ≤ a → a ≤ e → Mono f a e := by
  have hs : ∀ v : Int, (sgn v = 0 ↔ v = 0) ∧ (sgn v = 1 ↔ 0 < v) ∧ (sgn v = -1 ↔ v < 0) := fun v => by
    unfold sgn
    split
    · rename_i z; subst z; simp
    · split
      · refine ⟨?_, ?_, ?_⟩ <;> constructor <;> intro q <;> omega
      · refine ⟨?_, ?_, ?_⟩ <;> constructor <;> intro q <;> omega
  have step : ∀ x y, s ≤ x → x ≤ y → y ≤ e → (σ = 0 → f y = f x) ∧ (σ = 1 → f x ≤ f y) ∧ (σ = -1 → f y ≤ f x) := by
    intro x y hx hxy
    obtain ⟨n, rfl⟩ : ∃ n, y = x + n := ⟨y - x, by omega⟩
    clear hxy
    induction n with
    | zero => intro _; simp
    | succ n ih =>
      intro hy
      obtain ⟨i1, i2, i3⟩ := ih (by omega)
      have hh := h (x + n) (by omega) (by omega)
      have hv := hs (f (x + n + 1) - f (x + n))
      rw [show x + (n + 1) = x + n + 1 by omega]
      refine ⟨fun z => ?_, fun z => ?_, fun z => ?_⟩
      · have := hv.1.mp (by rw [hh, z]); have := i1 z; omega
      · have := hv.2.1.mp (by rw [hh, z]); have := i2 z; omega
      · have := hv.2.2.mp (by rw [hh, z]); have := i3 z; omega
  intro a ha hae x y h1 h2 h3 h4
  by_cases hne : a < e
  · have hσ : σ = 0 ∨ σ = 1 ∨ σ = -1 := by
      have := h a ha hne
      rw [← this]
      unfold sgn
      split
      · exact .inl rfl
      · split
        · exact .inr (.inl rfl)
        · exact .inr (.inr rfl)
    have s1 := step a x ha h1 (by omega)
    have s2 := step x y (by omega) h2 h3
    have fa := hs (f a)
    have fx := hs (f x)
    have fy := hs (f y)
    have tri : sgn (f a) = 0 ∨ sgn (f a) = 1 ∨ sgn (f a) = -1 := by
      unfold sgn
      split
      · exact .inl rfl
      · split
        · exact .inr (.inl rfl)
        · exact .inr (.inr rfl)
    rcases hσ with z | z | z
    · have := s1.1 z; rw [this]
    · have q1 := s1.2.1 z
      have q2 := s2.2.1 z
      rcases tri with t | t | t
      · have := fa.1.mp t; have := fy.1.mp (h4.trans t); rw [t]; exact fx.1.mpr (by omega)
      · have := fa.2.1.mp t; rw [t]; exact fx.2.1.mpr (by omega)
      · have := fy.2.2.mp (h4.trans t); rw [t]; exact fx.2.2.mpr (by omega)
    · have q1 := s1.2.2 z
      have q2 := s2.2.2 z
      rcases tri with t | t | t
      · have := fa.1.mp t; have := fy.1.mp (h4.trans t); rw [t]; exact fx.1.mpr (by omega)
      · have := fy.2.1.mp (h4.trans t); rw [t]; exact fx.2.1.mpr (by omega)
      · have := fa.2.2.mp t; rw [t]; exact fx.2.2.mpr (by omega)
  · have : x = a := by omega
    rw [this]
end Ht
set_option Elab.async false
set_option linter.all false
namespace Ht
open Sl St
theorem sgn_tri (v : Int) : sgn v = 0 ∨ sgn v = 1 ∨ sgn v = -1 := by
  unfold sgn
  split
  · exact .inl rfl
  · split
    · exact .inr (.inl rfl)
    · exact .inr (.inr rfl)
def MonoAll (f : Nat → Int) (s e : Nat) : Prop := ∀ a, s ≤ a → a ≤ e → Mono f a e
/-- same sign at both ends: no change between -/
theorem chg_same {f : Nat → Int} {s e : Nat} (m : MonoAll f s e) (hse : s ≤ e) (h : sgn (f s) = sgn (f e)) : chgR f s e = [] := chg_none f fun i h1 h2 => by
  have ms := m s (Nat.le_refl s) hse
  have e1 := ms i e h1 (by omega) (Nat.le_refl e) h.symm
  have e2 := ms (i + 1) e (by omega) (by omega) (Nat.le_refl e) h.symm
  rw [e1, e2]
theorem chg_first {f : Nat → Int} {s e p : Nat} (h : First f s e p) : chgR f s p = [p] := by
  have hlt := h.lt
  obtain ⟨q, rfl⟩ : ∃ q, p = q + 1 := ⟨p - 1, by omega⟩
  rw [chg_split f (a := s) (b := q) (c := q + 1) (by omega) (by omega)]
  have e1 : chgR f s q = [] := chg_none f fun i h1 h2 => by
    rw [h.low i h1 (by omega), h.low (i + 1) (by omega) (by omega)]
  have e2 : chgR f q (q + 1) = [q + 1] := chg_one f (by
    rw [h.low q (by omega) (by omega)]
    exact h.high (q + 1) (Nat.le_refl _) h.le)
  rw [e1, e2]; rfl
theorem chg_two {f : Nat → Int} {s e : Nat} (m : MonoAll f s e) (hse : s ≤ e) : (chgR f s e).length ≤ 2 := by
  by_cases h : sgn (f s) = sgn (f e)
  · rw [chg_same m hse h]; simp
  · obtain ⟨p, hp⟩ := first_ex (e - s) e (by omega) (m s (Nat.le_refl s) hse) h
    have hlt := hp.lt
    have hle := hp.le
    rw [chg_split f (a := s) (b := p) (c := e) (by omega) hle, chg_first hp]
    have m2 : MonoAll f p e := fun a h1 h2 => m a (by omega) h2
    by_cases h2 : sgn (f p) = sgn (f e)
    · rw [chg_same m2 hle h2]; simp
    · obtain ⟨q, hq⟩ := first_ex (e - p) e (by omega) (m2 p (Nat.le_refl p) hle) h2
      have hlt2 := hq.lt
      have hle2 := hq.le
      rw [chg_split f (a := p) (b := q) (c := e) (by omega) hle2, chg_first hq]
      have m3 : MonoAll f q e := fun a h1 h2 => m2 a (by omega) h2
      have h3 : sgn (f q) = sgn (f e) := by
        have a1 := hp.high p (Nat.le_refl p) hle
        have a2 := hp.high q (by omega) hle2
        have a3 := hp.high e (by omega) (Nat.le_refl e)
        have b1 := hq.high q (Nat.le_refl q) hle2
        have b2 := hq.high e (by omega) (Nat.le_refl e)
        have t1 := sgn_tri (f s)
        have t2 := sgn_tri (f p)
        have t3 := sgn_tri (f q)
        have t4 := sgn_tri (f e)
        omega
      rw [chg_same m3 hle2 h3]; simp
/-! ### the edges -/
theorem chg_sorted (f : Nat → Int) (a b : Nat) : (chgR f a b).Pairwise (· < ·) := by
  unfold chgR
  rw [List.pairwise_map]
  have h : (List.range' a (b - a)).Pairwise (· < ·) := List.pairwise_lt_range'
  exact (h.filter _).imp fun h => by omega
def edges (f : Nat → Int) (top : Nat) : List Nat := 0 :: (chgR f 0 top ++ [top])
theorem edges_sorted (f : Nat → Int) (top : Nat) : (edges f top).Pairwise (· ≤ ·) := by
  unfold edges
  refine List.Pairwise.cons (fun x _ => Nat.zero_le x) ?_
  rw [List.pairwise_append]
  refine ⟨(chg_sorted f 0 top).imp fun h => by omega, by simp, fun x hx y hy => ?_⟩
  rw [List.mem_singleton] at hy
  rw [hy]
  exact ((chg_mem f).mp hx).2.1
theorem edges_at {f : Nat → Int} {top i x y : Nat} (hx : (edges f top)[i]? = some x) (hy : (edges f top)[i + 1]? = some y) : x ≤ y ∧ y ≤ top ∧ ∀ p, x < p → p < y → sgn (f p) = sgn (f (p - 1)) := by
  have hs := edges_sorted f top
  have hi : i < (edges f top).length := (List.getElem?_eq_some_iff.mp hx).1
  have hi1 : i + 1 < (edges f top).length := (List.getElem?_eq_some_iff.mp hy).1
  have ex : (edges f top)[i] = x := (List.getElem?_eq_some_iff.mp hx).2
  have ey : (edges f top)[i + 1] = y := (List.getElem?_eq_some_iff.mp hy).2
  have hp := List.pairwise_iff_getElem.mp hs
  have hle : ∀ z ∈ edges f top, z ≤ top := fun z hz => by
    unfold edges at hz
    rcases List.mem_cons.mp hz with h | h
    · omega
    · rcases List.mem_append.mp h with h | h
      · exact ((chg_mem f).mp h).2.1
      · rw [List.mem_singleton] at h; omega
  have hyt : y ≤ top := hle y (by rw [← ey]; exact List.getElem_mem hi1)
  refine ⟨by rw [← ex, ← ey]; exact hp i (i + 1) hi hi1 (by omega), hyt, fun p h1 h2 => ?_⟩
  refine Classical.byContradiction fun k => ?_
  have hm : p ∈ edges f top := by
    unfold edges
    exact List.mem_cons_of_mem _ (List.mem_append.mpr (.inl ((chg_mem f).mpr ⟨by omega, by omega, k⟩)))
  obtain ⟨j, hj, ej⟩ := List.getElem_of_mem hm
  have c1 : i < j := by
    refine Nat.lt_of_not_le fun z => ?_
    rcases Nat.lt_or_ge j i with q | q
    · have := hp j i hj hi q; rw [ej, ex] at this; omega
    · have : j = i := by omega
      subst this; rw [ej] at ex; omega
  have c2 : j < i + 1 := by
    refine Nat.lt_of_not_le fun z => ?_
    rcases Nat.lt_or_ge (i + 1) j with q | q
    · have := hp (i + 1) j hi1 hj q; rw [ej, ey] at this; omega
    · have : j = i + 1 := by omega
      subst this; rw [ej] at ey; omega
  omega
/-- f between two edges of its difference -/
theorem seg_mono {f g : Nat → Int} {top i x y : Nat} (hg : ∀ n, g n = f (n + 1) - f n) (hx : (edges g top)[i]? = some x) (hy : (edges g top)[i + 1]? = some y) : MonoAll f x y := by
  obtain ⟨h1, h2, h3⟩ := edges_at hx hy
  have hc : ∀ n, x + n < y → sgn (g (x + n)) = sgn (g x) := by
    intro n
    induction n with
    | zero => intro _; rfl
    | succ n ih =>
      intro hn
      have := h3 (x + (n + 1)) (by omega) hn
      rw [this, show x + (n + 1) - 1 = x + n by omega]
      exact ih (by omega)
  intro a ha hay
  refine mono_of (σ := sgn (g x)) (fun i hi hiy => ?_) a ha hay
  have := hc (i - x) (by omega)
  rw [show x + (i - x) = i by omega] at this
  rw [← hg, this]
theorem edges_len (f : Nat → Int) (top : Nat) : (edges f top).length = (chgR f 0 top).length + 2 := by
  unfold edges; simp
theorem edges_last (f : Nat → Int) (top : Nat) : (edges f top)[(chgR f 0 top).length + 1]? = some top := by
  unfold edges
  rw [List.getElem?_cons_succ, List.getElem?_append_right (Nat.le_refl _), Nat.sub_self]; rfl
theorem chg_count {f g : Nat → Int} {top : Nat} (hg : ∀ n, g n = f (n + 1) - f n) : (chgR f 0 top).length ≤ 2 * ((chgR g 0 top).length + 1) := by
  have key : ∀ i x, (edges g top)[i]? = some x → (chgR f 0 x).length ≤ 2 * i := by
    intro i
    induction i with
    | zero =>
      intro x hx
      have : x = 0 := (Option.some.inj hx).symm
      subst this
      unfold chgR; simp
    | succ i ih =>
      intro y hy
      have hi1 : i + 1 < (edges g top).length := (List.getElem?_eq_some_iff.mp hy).1
      have hx : (edges g top)[i]? = some (edges g top)[i] := List.getElem?_eq_getElem (by omega)
      have h1 := ih _ hx
      obtain ⟨a, b, _⟩ := edges_at hx hy
      rw [chg_split f (a := 0) (b := (edges g top)[i]) (c := y) (Nat.zero_le _) a, List.length_append]
      have := chg_two (seg_mono hg hx hy) a
      omega
  have := key _ _ (edges_last g top)
  omega
theorem chg_bound : ∀ (n : Nat) (l : List Int) (top : Nat), l.length ≤ n → (chgR (fun x => valI l (x : Int)) 0 top).length ≤ 2 ^ (n + 1) - 2
  | 0, l, top, h => by
    have : l = [] := List.eq_nil_of_length_eq_zero (by omega)
    subst this
    rw [chg_none _ fun i _ _ => rfl]; simp
  | n + 1, l, top, h => by
    by_cases h1 : l.length ≤ 1
    · rw [chg_none _ fun i _ _ => ?_]
      · simp
      · match l, h1 with
        | [], _ => rfl
        | [c], _ => show sgn (0 * _ + c) = sgn (0 * _ + c); simp
    · have ih := chg_bound n (diffI l) top (by have := diff_len (l := l) (by omega); omega)
      have hc := chg_count (f := fun x => valI l (x : Int)) (g := fun x => valI (diffI l) (x : Int)) (top := top) fun m => by
        rw [val_diff]; rfl
      have e : 2 ^ (n + 1 + 1) = 2 * 2 ^ (n + 1) := by rw [Nat.pow_succ]; omega
      have e2 : 2 ≤ 2 ^ (n + 1) := by
        have := Nat.one_le_two_pow (n := n)
        rw [Nat.pow_succ]; omega
      omega
end Ht
set_option Elab.async false
set_option linter.all false
namespace Ht
open AlOne (Uni value)
open Sl St
/-! ### the greatest whole root -/
def maxN (l : List Int) : Nat := (l.map Int.natAbs).foldl max 0
theorem fold_max_mem : ∀ (l : List Nat) (s : Nat), l.foldl max s = s ∨ l.foldl max s ∈ l
  | [], s => .inl rfl
  | y :: l, s => by
    rcases fold_max_mem l (max s y) with h | h
    · rw [List.foldl_cons, h]
      rcases Nat.le_total s y with k | k
      · rw [Nat.max_eq_right k]; exact .inr (List.mem_cons_self ..)
      · rw [Nat.max_eq_left k]; exact .inl rfl
    · exact .inr (List.mem_cons_of_mem _ h)
theorem maxN_ge {l : List Int} {x : Int} (h : x ∈ l) : x.natAbs ≤ maxN l := (max_fold (l.map Int.natAbs) 0).2 _ (List.mem_map.mpr ⟨x, h, rfl⟩)
theorem maxN_mem {l : List Int} (h : l ≠ []) : maxN l ∈ l.map Int.natAbs := by
  rcases fold_max_mem (l.map Int.natAbs) 0 with q | q
  · cases l with
    | nil => exact absurd rfl h
    | cons x r =>
      have h1 := maxN_ge (l := x :: r) (List.mem_cons_self ..)
      have h2 : maxN (x :: r) = 0 := q
      rw [h2] at h1 ⊢
      exact List.mem_map.mpr ⟨x, List.mem_cons_self .., by omega⟩
  · exact q
def topN (l : List Int) : Nat := 1 + maxN l
/-- beyond this there's no root -/
theorem root_lt {l : List Int} (ht : TrI l) (h0 : l ≠ []) {k : Nat} (hk : valI l (k : Int) = 0) : k < topN l := by
  unfold topN
  refine Nat.lt_of_not_le fun z => ?_
  have hlast : l.getLast? = some (l.getLast h0) := List.getLast?_eq_getLast h0
  generalize l.getLast h0 = c at hlast
  have hc : c ≠ 0 := fun q => ht (by rw [hlast, q])
  have hcR : (c : Rat) ≠ 0 := fun q => hc (Rat.intCast_eq_zero_iff.mp q)
  have hmon : Mon ((ra l).map fun y => (1 / (c : Rat)) * y) := by
    unfold Mon ra
    rw [List.getLast?_map, List.getLast?_map, hlast]
    show some ((1 / (c : Rat)) * (c : Rat)) = some 1
    congr 1; grind
  have hin : In (maxN l : Rat) ((ra l).map fun y => (1 / (c : Rat)) * y) := fun y hy => by
    obtain ⟨w, hw, rfl⟩ := List.mem_map.mp hy
    obtain ⟨x, hx, rfl⟩ := List.mem_map.mp hw
    have h1 := maxN_ge hx
    have h2 : (-(maxN l : Int) : Int) ≤ x := by omega
    have h3 : x ≤ (maxN l : Int) := by omega
    have r2 : ((-(maxN l : Int) : Int) : Rat) ≤ (x : Rat) := Rat.intCast_le_intCast.mpr h2
    have r3 : (x : Rat) ≤ ((maxN l : Int) : Rat) := Rat.intCast_le_intCast.mpr h3
    rw [Rat.intCast_neg, Rat.intCast_natCast] at r2
    rw [Rat.intCast_natCast] at r3
    have hM : (0 : Rat) ≤ (maxN l : Rat) := Rat.natCast_nonneg
    rcases Int.lt_or_gt_of_ne hc with q | q
    · have c1 : (c : Rat) ≤ ((-1 : Int) : Rat) := Rat.intCast_le_intCast.mpr (by omega)
      have c2 : (c : Rat) ≤ -1 := c1
      -- 1 / c lies between -1 and 0
      have hi : (1 / (c : Rat)) * (c : Rat) = 1 := by grind
      generalize 1 / (c : Rat) = i at *
      have i1 : i < 0 := by
        refine Rat.not_le.mp fun z => ?_
        have := Rat.mul_nonneg z (show (0 : Rat) ≤ -(c : Rat) by grind)
        grind
      have i2 : -1 ≤ i := by
        refine Rat.not_lt.mp fun z => ?_
        have := pp (show (0 : Rat) < -i - 1 by grind) (show (0 : Rat) < -(c : Rat) by grind)
        grind
      have a1 := Rat.mul_nonneg (show (0 : Rat) ≤ -i by grind) (show (0 : Rat) ≤ (x : Rat) + (maxN l : Rat) by grind)
      have a2 := Rat.mul_nonneg (show (0 : Rat) ≤ -i by grind) (show (0 : Rat) ≤ (maxN l : Rat) - (x : Rat) by grind)
      have a3 := Rat.mul_nonneg (show (0 : Rat) ≤ i + 1 by grind) hM
      exact ⟨by grind, by grind⟩
    · have c1 : ((1 : Int) : Rat) ≤ (c : Rat) := Rat.intCast_le_intCast.mpr (by omega)
      have c2 : (1 : Rat) ≤ (c : Rat) := c1
      have hi : (1 / (c : Rat)) * (c : Rat) = 1 := by grind
      generalize 1 / (c : Rat) = i at *
      have i1 : 0 < i := by
        refine Rat.not_le.mp fun z => ?_
        have := Rat.mul_nonneg (show (0 : Rat) ≤ -i by grind) (show (0 : Rat) ≤ (c : Rat) by grind)
        grind
      have i2 : i ≤ 1 := by
        refine Rat.not_lt.mp fun z => ?_
        have := pp (show (0 : Rat) < i - 1 by grind) (show (0 : Rat) < (c : Rat) by grind)
        grind
      have a1 := Rat.mul_nonneg (show (0 : Rat) ≤ i by grind) (show (0 : Rat) ≤ (x : Rat) + (maxN l : Rat) by grind)
      have a2 := Rat.mul_nonneg (show (0 : Rat) ≤ i by grind) (show (0 : Rat) ≤ (maxN l : Rat) - (x : Rat) by grind)
      have a3 := Rat.mul_nonneg (show (0 : Rat) ≤ 1 - i by grind) hM
      exact ⟨by grind, by grind⟩
  have hB : (0 : Rat) ≤ (maxN l : Rat) := Rat.natCast_nonneg
  have hx : (maxN l : Rat) + 1 ≤ ((k : Int) : Rat) := by
    rw [Rat.intCast_natCast]
    have : ((1 + maxN l : Nat) : Rat) ≤ (k : Rat) := Rat.natCast_le_natCast.mpr z
    rw [Rat.natCast_add] at this
    have e : ((1 : Nat) : Rat) = 1 := rfl
    rw [e] at this
    grind
  have h1 := horner_pos hB hx _ hmon hin
  have h2 : value ((k : Int) : Rat) ((ra l).map fun y => (1 / (c : Rat)) * y) = (1 / (c : Rat)) * value ((k : Int) : Rat) (ra l) := by
    generalize ra l = p
    generalize ((k : Int) : Rat) = x
    induction p with
    | nil => show (0 : Rat) = _ * 0; grind
    | cons d p ih => show (1 / (c : Rat)) * d + x * value x (p.map fun y => (1 / (c : Rat)) * y) = (1 / (c : Rat)) * (d + x * value x p); rw [ih]; grind
  rw [h2, ← valI_cast, hk] at h1
  have : ((0 : Int) : Rat) = 0 := rfl
  rw [this] at h1
  grind
def gStep (f : Nat → Int) (g : Int) (p : Nat) : Int := if f (p - 1) = 0 then ((p - 1 : Nat) : Int) else g
def gRoot (l : List Int) : Int := (chgR (fun x => valI l (x : Int)) 0 (topN l)).foldl (gStep fun x => valI l (x : Int)) (-1)
theorem gfold (f : Nat → Int) : ∀ (L : List Nat) (g : Int), L.Pairwise (· < ·) → (∀ p ∈ L, 1 ≤ p ∧ g < (p : Int)) → (L.foldl (gStep f) g = g ∨ ∃ k : Nat, L.foldl (gStep f) g = k ∧ f k = 0) ∧ g ≤ L.foldl (gStep f) g ∧ ∀ p ∈ L, f (p - 1) = 0 → ((p - 1 : Nat) : Int) ≤ L.foldl (gStep f) g
  | [], g, _, _ => ⟨.inl rfl, Int.le_refl g, fun p h => by cases h⟩
  | p :: L, g, hs, hp => by
    have h1 := hp p (List.mem_cons_self ..)
    have hlow := (List.pairwise_cons.mp hs).1
    have hg : g ≤ gStep f g p := by unfold gStep; split <;> omega
    have hg2 : gStep f g p < (p : Int) := by unfold gStep; split <;> omega
    obtain ⟨a, b, c⟩ := gfold f L (gStep f g p) (List.pairwise_cons.mp hs).2 fun q hq => ⟨(hp q (List.mem_cons_of_mem _ hq)).1, by have := hlow q hq; omega⟩
    rw [List.foldl_cons]
    refine ⟨?_, by omega, fun q hq hz => ?_⟩
    · rcases a with a | a
      · by_cases z : f (p - 1) = 0
        · exact .inr ⟨p - 1, by rw [a]; unfold gStep; rw [if_pos z], z⟩
        · exact .inl (by rw [a]; unfold gStep; rw [if_neg z])
      · exact .inr a
    · rcases List.mem_cons.mp hq with e | e
      · subst e
        have : gStep f g q = ((q - 1 : Nat) : Int) := by unfold gStep; rw [if_pos hz]
        omega
      · exact c q e hz
theorem gRoot_is {l : List Int} (ht : TrI l) (h0 : l ≠ []) : (gRoot l = -1 ∨ ∃ k : Nat, gRoot l = k ∧ valI l (k : Int) = 0) ∧ -1 ≤ gRoot l ∧ ∀ k : Nat, valI l (k : Int) = 0 → (k : Int) ≤ gRoot l := by
  obtain ⟨a, b, c⟩ := gfold (fun x => valI l (x : Int)) (chgR (fun x => valI l (x : Int)) 0 (topN l)) (-1) (chg_sorted _ _ _) fun p hp => by
    have := (chg_mem _).mp hp
    exact ⟨by omega, by omega⟩
  refine ⟨a, b, fun k hk => ?_⟩
  -- go on to the last one of neighbouring roots
  have up : ∀ (n k : Nat), topN l = k + n → valI l (k : Int) = 0 → (k : Int) ≤ gRoot l := by
    intro n
    induction n with
    | zero => intro k e hk; have := root_lt ht h0 hk; omega
    | succ n ih =>
      intro k e hk
      by_cases h : valI l ((k + 1 : Nat) : Int) = 0
      · have := ih (k + 1) (by omega) h; omega
      · have hm : k + 1 ∈ chgR (fun x => valI l (x : Int)) 0 (topN l) := (chg_mem _).mpr ⟨by omega, by omega, fun z => by
          have z' : sgn (valI l ((k + 1 : Nat) : Int)) = sgn (valI l ((k + 1 - 1 : Nat) : Int)) := z
          rw [Nat.add_sub_cancel, hk] at z'
          have : sgn 0 = 0 := rfl
          rw [this] at z'
          unfold sgn at z'
          rw [if_neg h] at z'
          split at z' <;> omega⟩
        have := c (k + 1) hm (by rw [Nat.add_sub_cancel]; exact hk)
        rwa [Nat.add_sub_cancel] at this
  have := root_lt ht h0 hk
  exact up (topN l - k) k (by omega) hk
end Ht
set_option Elab.async false
set_option linter.all false
namespace El
/-! ### determinants: a list of columns, the last row opened first -/
abbrev Col := Nat → Int
def ex (f : List Col → Int) (n : Nat) : List Col → List Col → Int
  | _, [] => 0
  | pre, c :: cs => c n * f (pre ++ cs) - ex f n (pre ++ [c]) cs
def det : Nat → List Col → Int
  | 0, [] => 1
  | 0, _ :: _ => 0
  | n + 1, cs => ex (det n) n [] cs
def lc (a b : Int) (u v : Col) : Col := fun t => a * u t + b * v t
def Lin (f : List Col → Int) : Prop := ∀ xs ys a b u v, f (xs ++ lc a b u v :: ys) = a * f (xs ++ u :: ys) + b * f (xs ++ v :: ys)
theorem ex_lin2 {f : List Col → Int} {n : Nat} (h : Lin f) (a b : Int) (u v : Col) : ∀ (ys p1 p2 : List Col), ex f n (p1 ++ lc a b u v :: p2) ys = a * ex f n (p1 ++ u :: p2) ys + b * ex f n (p1 ++ v :: p2) ys
  | [], p1, p2 => by show (0 : Int) = a * 0 + b * 0; omega
  | d :: ys, p1, p2 => by
    have ih := ex_lin2 (n := n) h a b u v ys p1 (p2 ++ [d])
    have h1 := h p1 (p2 ++ ys) a b u v
    simp only [ex, List.append_assoc, List.cons_append] at *
    rw [ih, h1]
    grind
theorem ex_lin {f : List Col → Int} {n : Nat} (h : Lin f) (a b : Int) (u v : Col) : ∀ (xs pre ys : List Col), ex f n pre (xs ++ lc a b u v :: ys) = a * ex f n pre (xs ++ u :: ys) + b * ex f n pre (xs ++ v :: ys)
  | [], pre, ys => by
    have h2 := ex_lin2 (n := n) h a b u v ys pre []
    show lc a b u v n * f (pre ++ ys) - ex f n (pre ++ [lc a b u v]) ys = a * (u n * f (pre ++ ys) - ex f n (pre ++ [u]) ys) + b * (v n * f (pre ++ ys) - ex f n (pre ++ [v]) ys)
    rw [h2]
    show (a * u n + b * v n) * _ - _ = _
    grind
  | x :: xs, pre, ys => by
    have ih := ex_lin (n := n) h a b u v xs (pre ++ [x]) ys
    have h1 := h (pre ++ xs) ys a b u v
    simp only [ex, List.cons_append, List.append_assoc] at *
    rw [ih, h1]
    grind
theorem det_lin : ∀ n : Nat, Lin (det n)
  | 0 => fun xs ys a b u v => by
    have z : ∀ (xs ys : List Col) (c : Col), det 0 (xs ++ c :: ys) = 0 := fun xs ys c => by cases xs <;> rfl
    rw [z, z, z]; omega
  | n + 1 => fun xs ys a b u v => ex_lin (det_lin n) a b u v xs [] ys
def Alt (f : List Col → Int) : Prop := ∀ xs ys v, f (xs ++ v :: v :: ys) = 0
theorem ex_alt2 {f : List Col → Int} {n : Nat} (h : Alt f) (v : Col) : ∀ (ys p1 p2 : List Col), ex f n (p1 ++ v :: v :: p2) ys = 0
  | [], p1, p2 => rfl
  | d :: ys, p1, p2 => by
    have ih := ex_alt2 (n := n) h v ys p1 (p2 ++ [d])
    have h1 := h p1 (p2 ++ ys) v
    simp only [ex, List.append_assoc, List.cons_append] at *
    rw [ih, h1]; omega
theorem ex_alt {f : List Col → Int} {n : Nat} (h : Alt f) (v : Col) : ∀ (xs pre ys : List Col), ex f n pre (xs ++ v :: v :: ys) = 0
  | [], pre, ys => by
    have h2 := ex_alt2 (n := n) h v ys pre []
    simp only [ex, List.nil_append, List.append_assoc, List.cons_append] at *
    rw [h2]; omega
  | x :: xs, pre, ys => by
    have ih := ex_alt (n := n) h v xs (pre ++ [x]) ys
    have h1 := h (pre ++ xs) ys v
    simp only [ex, List.cons_append, List.append_assoc] at *
    rw [ih, h1]; omega
theorem det_alt : ∀ n : Nat, Alt (det n)
  | 0 => fun xs ys v => by cases xs <;> rfl
  | n + 1 => fun xs ys v => ex_alt (det_alt n) v xs [] ys
theorem swap_neg {f : List Col → Int} (hl : Lin f) (ha : Alt f) (xs ys : List Col) (u v : Col) : f (xs ++ u :: v :: ys) = - f (xs ++ v :: u :: ys) := by
  have e := ha xs ys (lc 1 1 u v)
  have e1 := hl xs (lc 1 1 u v :: ys) 1 1 u v
  have e2 := hl (xs ++ [u]) ys 1 1 u v
  have e3 := hl (xs ++ [v]) ys 1 1 u v
  have e4 := ha xs ys u
  have e5 := ha xs ys v
  simp only [List.append_assoc, List.cons_append, List.nil_append] at *
  omega
theorem eq_zero {f : List Col → Int} (hl : Lin f) (ha : Alt f) (v : Col) : ∀ (ms xs ys : List Col), f (xs ++ v :: (ms ++ v :: ys)) = 0
  | [], xs, ys => ha xs ys v
  | m :: ms, xs, ys => by
    have ih := eq_zero hl ha v ms (xs ++ [m]) ys
    have h1 := swap_neg hl ha xs (ms ++ v :: ys) v m
    simp only [List.append_assoc, List.cons_append, List.nil_append] at *
    omega
/-- a column that stands elsewhere too -/
theorem mem_zero {f : List Col → Int} (hl : Lin f) (ha : Alt f) {xs ys : List Col} {v : Col} (h : v ∈ xs ∨ v ∈ ys) : f (xs ++ v :: ys) = 0 := by
  rcases h with h | h
  · obtain ⟨a, b, rfl⟩ := List.append_of_mem h
    have := eq_zero hl ha v b a ys
    simpa using this
  · obtain ⟨a, b, rfl⟩ := List.append_of_mem h
    exact eq_zero hl ha v a xs b
/-! ### rows beyond count for nothing -/
theorem ex_congr {f : List Col → Int} {n : Nat} : ∀ (cs ds p q : List Col), cs.length = ds.length → p.length = q.length → (∀ (i : Nat) (c d : Col), (p ++ cs)[i]? = some c → (q ++ ds)[i]? = some d → ∀ t, t < n + 1 → c t = d t) → (∀ as bs : List Col, as.length = bs.length → (∀ (i : Nat) (c d : Col), as[i]? = some c → bs[i]? = some d → ∀ t, t < n → c t = d t) → f as = f bs) → ex f n p cs = ex f n q ds
  | [], [], _, _, _, _, _, _ => rfl
  | [], _ :: _, _, _, h, _, _, _ => by simp at h
  | _ :: _, [], _, _, h, _, _, _ => by simp at h
  | c :: cs, d :: ds, p, q, hl, hp, hc, hf => by
    have e1 : c n = d n := hc p.length c d (by rw [List.getElem?_append_right (Nat.le_refl _)]; simp) (by rw [List.getElem?_append_right (by omega), hp]; simp) n (by omega)
    have hl' : cs.length = ds.length := by simpa using hl
    have e2 : f (p ++ cs) = f (q ++ ds) := hf _ _ (by simp; omega) fun i x y hx hy t ht => by
      by_cases hi : i < p.length
      · refine hc i x y ?_ ?_ t (by omega)
        · rw [List.getElem?_append_left hi] at hx ⊢; exact hx
        · rw [List.getElem?_append_left (by omega)] at hy ⊢; exact hy
      · refine hc (i + 1) x y ?_ ?_ t (by omega)
        · rw [List.getElem?_append_right (by omega)] at hx ⊢
          rw [show i + 1 - p.length = (i - p.length) + 1 by omega]; simpa using hx
        · rw [List.getElem?_append_right (by omega)] at hy ⊢
          rw [show i + 1 - q.length = (i - q.length) + 1 by omega]; simpa using hy
    have e3 := ex_congr (f := f) (n := n) cs ds (p ++ [c]) (q ++ [d]) hl' (by simp; omega) (by simpa using hc) hf
    show c n * f (p ++ cs) - ex f n (p ++ [c]) cs = d n * f (q ++ ds) - ex f n (q ++ [d]) ds
    rw [e1, e2, e3]
theorem det_congr : ∀ (n : Nat) (cs ds : List Col), cs.length = ds.length → (∀ (i : Nat) (c d : Col), cs[i]? = some c → ds[i]? = some d → ∀ t, t < n → c t = d t) → det n cs = det n ds
  | 0, [], [], _, _ => rfl
  | 0, [], _ :: _, h, _ => by simp at h
  | 0, _ :: _, [], h, _ => by simp at h
  | 0, _ :: _, _ :: _, _, _ => rfl
  | n + 1, cs, ds, hl, h => ex_congr cs ds [] [] hl rfl (by simpa using h) fun as bs h1 h2 => det_congr n as bs h1 h2
/-- columns by places -/
theorem det_map {n : Nat} {js : List Nat} {u v : Nat → Col} (h : ∀ j ∈ js, ∀ t, t < n → u j t = v j t) : det n (js.map u) = det n (js.map v) := det_congr n _ _ (by simp) fun i c d hc hd t ht => by
  rw [List.getElem?_map] at hc hd
  cases e : js[i]? with
  | none => rw [e] at hc; cases hc
  | some j =>
    rw [e] at hc hd
    cases hc; cases hd
    exact h j (List.mem_of_getElem? e) t ht
theorem det_mid {n : Nat} (xs ys : List Col) {u v : Col} (h : ∀ t, t < n → u t = v t) : det n (xs ++ u :: ys) = det n (xs ++ v :: ys) := det_congr n _ _ (by simp) fun i c d hc hd t ht => by
  by_cases hi : i < xs.length
  · rw [List.getElem?_append_left hi] at hc hd
    rw [hc] at hd; cases hd; rfl
  · rw [List.getElem?_append_right (by omega)] at hc hd
    cases e : i - xs.length with
    | zero =>
      rw [e] at hc hd
      cases hc; cases hd
      exact h t ht
    | succ k =>
      rw [e] at hc hd
      have hc' : ys[k]? = some c := by simpa using hc
      have hd' : ys[k]? = some d := by simpa using hd
      rw [hc'] at hd'; cases hd'; rfl
theorem zero_col {n : Nat} (xs ys : List Col) {u : Col} (h : ∀ t, t < n → u t = 0) : det n (xs ++ u :: ys) = 0 := by
  have e := det_mid (n := n) xs ys (u := u) (v := lc 0 0 u u) fun t ht => by rw [h t ht]; show (0 : Int) = 0 * u t + 0 * u t; omega
  rw [e, det_lin n xs ys 0 0 u u]; omega
theorem ex_zero {n : Nat} {u : Col} (h : ∀ t, t < n → u t = 0) : ∀ (ys p1 p2 : List Col), ex (det n) n (p1 ++ u :: p2) ys = 0
  | [], _, _ => rfl
  | d :: ys, p1, p2 => by
    have ih := ex_zero h ys p1 (p2 ++ [d])
    have h1 := zero_col p1 (p2 ++ ys) h
    simp only [ex, List.append_assoc, List.cons_append] at *
    rw [ih, h1]; omega
/-- a first column with nothing but in the last row -/
theorem det_head {n : Nat} {u : Col} (cs : List Col) (h : ∀ t, t < n → u t = 0) : det (n + 1) (u :: cs) = u n * det n cs := by
  have h1 := ex_zero h cs [] []
  show u n * det n ([] ++ cs) - ex (det n) n ([] ++ [u]) cs = _
  simp only [List.nil_append] at *
  rw [h1]; omega
/-! ### how great -/
def fact : Nat → Nat
  | 0 => 1
  | n + 1 => (n + 1) * fact n
def prodN : List Nat → Nat
  | [] => 1
  | b :: l => b * prodN l
theorem prod_append : ∀ a b : List Nat, prodN (a ++ b) = prodN a * prodN b
  | [], b => by show prodN b = 1 * prodN b; omega
  | x :: a, b => by show x * prodN (a ++ b) = x * prodN a * prodN b; rw [prod_append a b, Nat.mul_assoc]
theorem prod_mid (a b : List Nat) (x : Nat) : prodN (a ++ x :: b) = x * prodN (a ++ b) := by
  rw [prod_append, prod_append]
  show prodN a * (x * prodN b) = _
  rw [← Nat.mul_assoc, Nat.mul_comm (prodN a) x, Nat.mul_assoc]
abbrev CB := Col × Nat
def fst (l : List CB) : List Col := l.map fun x => x.1
def snd (l : List CB) : List Nat := l.map fun x => x.2
theorem ex_le {f : List Col → Int} {n F : Nat} (hf : ∀ l : List CB, l.length = n → (∀ x ∈ l, ∀ t, t < n → (x.1 t).natAbs ≤ x.2) → (f (fst l)).natAbs ≤ F * prodN (snd l)) : ∀ (cs pre : List CB), pre.length + cs.length = n + 1 → (∀ x ∈ pre ++ cs, ∀ t, t < n + 1 → (x.1 t).natAbs ≤ x.2) → (ex f n (fst pre) (fst cs)).natAbs ≤ cs.length * (F * prodN (snd (pre ++ cs)))
  | [], pre, _, _ => Nat.zero_le _
  | c :: cs, pre, hl, h => by
    have hl' : pre.length + (cs.length + 1) = n + 1 := hl
    have ih := ex_le hf cs (pre ++ [c]) (by rw [List.length_append]; show pre.length + 1 + cs.length = n + 1; omega) (by simpa using h)
    have h1 := hf (pre ++ cs) (by rw [List.length_append]; omega) fun x hx t ht => h x (by
      rcases List.mem_append.mp hx with q | q
      · exact List.mem_append.mpr (.inl q)
      · exact List.mem_append.mpr (.inr (List.mem_cons_of_mem _ q))) t (by omega)
    have hc := h c (by simp) n (by omega)
    have e1 : fst (pre ++ [c]) = fst pre ++ [c.1] := by unfold fst; simp
    have e2 : fst (pre ++ cs) = fst pre ++ fst cs := by unfold fst; simp
    have e3 : prodN (snd (pre ++ c :: cs)) = c.2 * prodN (snd (pre ++ cs)) := by
      unfold snd
      rw [List.map_append, List.map_cons, prod_mid, List.map_append]
    have e4 : pre ++ [c] ++ cs = pre ++ c :: cs := by simp
    rw [e1, e4] at ih
    rw [e2] at h1
    show (c.1 n * f (fst pre ++ fst cs) - ex f n (fst pre ++ [c.1]) (fst cs)).natAbs ≤ (cs.length + 1) * _
    have h2 : (c.1 n * f (fst pre ++ fst cs)).natAbs ≤ F * prodN (snd (pre ++ c :: cs)) := by
      rw [Int.natAbs_mul, e3, ← Nat.mul_assoc, Nat.mul_comm F c.2, Nat.mul_assoc]
      exact Nat.mul_le_mul hc h1
    rw [Nat.add_mul, Nat.one_mul]
    generalize F * prodN (snd (pre ++ c :: cs)) = X at *
    generalize cs.length * X = Y at *
    omega
theorem det_le : ∀ (n : Nat) (l : List CB), l.length = n → (∀ x ∈ l, ∀ t, t < n → (x.1 t).natAbs ≤ x.2) → (det n (fst l)).natAbs ≤ fact n * prodN (snd l)
  | 0, [], _, _ => by decide
  | 0, _ :: _, h, _ => by simp at h
  | n + 1, l, hl, h => by
    have := ex_le (f := det n) (n := n) (F := fact n) (fun l h1 h2 => det_le n l h1 h2) l [] (by simpa using hl) (by simpa using h)
    show (ex (det n) n [] (fst l)).natAbs ≤ (n + 1) * fact n * prodN (snd l)
    rw [hl] at this
    rw [Nat.mul_assoc]
    exact this
end El
set_option Elab.async false
set_option linter.all false
namespace El
/-! ### clearing a column, without a rounding -/
abbrev Mat := Nat → Nat → Int
def sq (f : Nat → Nat → Int) : List Nat → Int
  | [] => 0
  | p :: ys => f ys.length p + sq f ys
theorem sq_congr {f g : Nat → Nat → Int} : ∀ q : List Nat, (∀ k p, k < q.length → p ∈ q → f k p = g k p) → sq f q = sq g q
  | [], _ => rfl
  | p :: ys, h => by
    show f ys.length p + sq f ys = g ys.length p + sq g ys
    rw [h ys.length p (by simp) (List.mem_cons_self ..), sq_congr ys fun k x hk hx => h k x (by rw [List.length_cons]; omega) (List.mem_cons_of_mem _ hx)]
theorem sq_zero {f : Nat → Nat → Int} : ∀ q : List Nat, (∀ k p, p ∈ q → f k p = 0) → sq f q = 0
  | [], _ => rfl
  | p :: ys, h => by
    show f ys.length p + sq f ys = 0
    rw [h _ p (List.mem_cons_self ..), sq_zero ys fun k x hx => h k x (List.mem_cons_of_mem _ hx)]; rfl
theorem sq_one {f : Nat → Nat → Int} {p : Nat} {ys : List Nat} : ∀ xs : List Nat, (∀ k x, x ∈ xs → f k x = 0) → (∀ k x, x ∈ ys → f k x = 0) → sq f (xs ++ p :: ys) = f ys.length p
  | [], _, h => by show f ys.length p + sq f ys = _; rw [sq_zero ys h]; omega
  | x :: xs, h1, h2 => by
    show f _ x + sq f (xs ++ p :: ys) = _
    rw [h1 _ x (List.mem_cons_self ..), sq_one xs (fun k y hy => h1 k y (List.mem_cons_of_mem _ hy)) h2]; omega
theorem sq_lin {f g : Nat → Nat → Int} (a b : Int) : ∀ q : List Nat, sq (fun k p => a * f k p + b * g k p) q = a * sq f q + b * sq g q
  | [] => by show (0 : Int) = a * 0 + b * 0; omega
  | p :: ys => by
    show (a * f ys.length p + b * g ys.length p) + sq _ ys = a * (f ys.length p + sq f ys) + b * (g ys.length p + sq g ys)
    rw [sq_lin a b ys]; grind
theorem lin_sq {f : List Col → Int} (hl : Lin f) (xs ys : List Col) (x : Nat → Int) (u : Nat → Col) : ∀ q : List Nat, f (xs ++ (fun t => sq (fun k p => x k * u p t) q) :: ys) = sq (fun k p => x k * f (xs ++ u p :: ys)) q
  | [] => by
    have e := hl xs ys 0 0 (u 0) (u 0)
    have e2 : lc 0 0 (u 0) (u 0) = fun t => sq (fun k p => x k * u p t) [] := by
      funext t; show 0 * u 0 t + 0 * u 0 t = 0; omega
    rw [e2] at e
    rw [e]; show 0 * _ + 0 * _ = (0 : Int); omega
  | p :: r => by
    have ih := lin_sq hl xs ys x u r
    have e := hl xs ys (x r.length) 1 (u p) (fun t => sq (fun k p => x k * u p t) r)
    have e2 : lc (x r.length) 1 (u p) (fun t => sq (fun k p => x k * u p t) r) = fun t => sq (fun k p => x k * u p t) (p :: r) := by
      funext t
      show x r.length * u p t + 1 * sq _ r = x r.length * u p t + sq _ r
      omega
    rw [e2] at e
    rw [e, ih]
    show _ = x r.length * _ + sq _ r
    omega
def cl (A : Mat) (s : Nat → Nat) (j : Nat) : Col := fun t => A (s t) j
def iota (r i t : Nat) : Nat := if t < r then t else i
structure Inv (m w : Nat) (A M : Mat) (q : List Nat) (d : Int) (c : Nat) : Prop where
  rm : q.length ≤ m
  qc : ∀ p ∈ q, p < c
  dec : q.Pairwise (fun a b => b < a)
  d0 : d ≠ 0
  d1 : d = det q.length (q.map (cl A id))
  top : ∀ xs p ys, q = xs ++ p :: ys → ∀ j, j < w → M ys.length j = det q.length (xs.map (cl A id) ++ cl A id j :: ys.map (cl A id))
  low : ∀ i, q.length ≤ i → i < m → ∀ j, j < w → M i j = det (q.length + 1) (cl A (iota q.length i) j :: q.map (cl A (iota q.length i)))
  rel : ∀ i, i < m → ∀ j, j < w → d * A i j = sq (fun k p => M k j * A i p) q + if q.length ≤ i then M i j else 0
  pt : ∀ xs p ys, q = xs ++ p :: ys → ∀ k, k < q.length → M k p = if k = ys.length then d else 0
  pl : ∀ p ∈ q, ∀ i, q.length ≤ i → i < m → M i p = 0
  zl : ∀ j, j < c → j ∉ q → ∀ i, q.length ≤ i → i < m → M i j = 0
  zt : ∀ xs p ys, q = xs ++ p :: ys → ∀ j, j < p → j ∉ q → M ys.length j = 0
theorem inv_start (m w : Nat) (A : Mat) : Inv m w A A [] 1 0 := by
  refine ⟨Nat.zero_le _, fun p h => by (cases h), .nil, by decide, rfl, fun xs p ys h => by simp at h, fun i _ hi j hj => ?_, fun i hi j hj => ?_, fun xs p ys h => by simp at h, fun p h => by (cases h), fun j h => by omega, fun xs p ys h => by simp at h⟩
  · have h := det_head (n := 0) (u := cl A (iota 0 i) j) [] (fun t ht => by omega)
    show A i j = det 1 [cl A (iota 0 i) j]
    rw [h]
    show A i j = A (iota 0 i 0) j * 1
    rw [show iota 0 i 0 = i from rfl]; omega
  · show 1 * A i j = 0 + _
    rw [if_pos (show ([] : List Nat).length ≤ i from Nat.zero_le _)]; omega
/-- two rows exchanged -/
def sw (r f t : Nat) : Nat := if t = r then f else if t = f then r else t
theorem sw_low {r f t : Nat} (h : r ≤ f) (ht : t < r) : sw r f t = t := by unfold sw; rw [if_neg (by omega), if_neg (by omega)]
theorem sw_ge {r f t : Nat} (h : r ≤ f) (ht : r ≤ t) : r ≤ sw r f t := by unfold sw; split <;> (try split) <;> omega
theorem sw_lt {r f t m : Nat} (hr : r < m) (hf : f < m) (ht : t < m) : sw r f t < m := by unfold sw; split <;> (try split) <;> omega
theorem sw_sw (r f t : Nat) : sw r f (sw r f t) = t := by
  unfold sw
  by_cases h1 : t = r
  · rw [if_pos h1]
    by_cases h2 : f = r
    · rw [if_pos h2]; omega
    · rw [if_neg h2, if_pos rfl]; omega
  · rw [if_neg h1]
    by_cases h2 : t = f
    · rw [if_pos h2, if_pos rfl]; omega
    · rw [if_neg h2, if_neg h1, if_neg h2]
theorem inv_swap {m w : Nat} {A M : Mat} {q : List Nat} {d : Int} {c f : Nat} (h : Inv m w A M q d c) (hf : q.length ≤ f) (hfm : f < m) :
    Inv m w (fun i j => A (sw q.length f i) j) (fun i j => M (sw q.length f i) j) q d c := by
  have e1 : ∀ {r : Nat} {i : Nat}, q.length ≤ i → ∀ j, cl (fun i j => A (sw q.length f i) j) (iota q.length i) j = cl A (iota q.length (sw q.length f i)) j := fun {r i} hi j => by
    funext t
    show A (sw q.length f (iota q.length i t)) j = A (iota q.length (sw q.length f i) t) j
    unfold iota
    by_cases ht : t < q.length
    · rw [if_pos ht, if_pos ht, sw_low hf ht]
    · rw [if_neg ht, if_neg ht]
  have e2 : ∀ j t, t < q.length → cl (fun i j => A (sw q.length f i) j) id j t = cl A id j t := fun j t ht => by
    show A (sw q.length f t) j = A t j
    rw [sw_low hf ht]
  refine ⟨h.rm, h.qc, h.dec, h.d0, ?_, fun xs p ys hq j hj => ?_, fun i hi him j hj => ?_, fun i hi j hj => ?_, fun xs p ys hq k hk => ?_, fun p hp i hi him => ?_, fun j hj hq i hi him => ?_, fun xs p ys hq j hj hn => ?_⟩
  · rw [det_map fun j _ t ht => e2 j t ht]; exact h.d1
  · have hl : ys.length < q.length := by rw [hq]; simp; omega
    show M (sw q.length f ys.length) j = _
    rw [sw_low hf hl, h.top xs p ys hq j hj]
    refine det_congr _ _ _ (by simp) fun i a b ha hb t ht => ?_
    have hm : (xs.map (cl A id) ++ cl A id j :: ys.map (cl A id)) = (xs ++ j :: ys).map (cl A id) := by simp
    have hm2 : (xs.map (cl (fun i j => A (sw q.length f i) j) id) ++ cl (fun i j => A (sw q.length f i) j) id j :: ys.map (cl (fun i j => A (sw q.length f i) j) id)) = (xs ++ j :: ys).map (cl (fun i j => A (sw q.length f i) j) id) := by simp
    rw [hm, List.getElem?_map] at ha
    rw [hm2, List.getElem?_map] at hb
    cases e : (xs ++ j :: ys)[i]? with
    | none => rw [e] at ha; cases ha
    | some x => rw [e] at ha hb; cases ha; cases hb; exact (e2 x t ht).symm
  · show M (sw q.length f i) j = _
    rw [h.low _ (sw_ge hf hi) (sw_lt (by omega) hfm him) j hj, e1 (r := 0) hi j]
    congr 2
    exact List.map_congr_left fun p _ => (e1 (r := 0) hi p).symm
  · have hr := h.rel (sw q.length f i) (sw_lt (by omega) hfm hi) j hj
    show d * A (sw q.length f i) j = sq (fun k p => M (sw q.length f k) j * A (sw q.length f i) p) q + if q.length ≤ i then M (sw q.length f i) j else 0
    rw [hr]
    have e3 : sq (fun k p => M (sw q.length f k) j * A (sw q.length f i) p) q = sq (fun k p => M k j * A (sw q.length f i) p) q := sq_congr q fun k p hk _ => by
      show M (sw q.length f k) j * _ = _
      rw [sw_low hf hk]
    rw [e3]
    congr 1
    by_cases hi2 : q.length ≤ i
    · rw [if_pos hi2, if_pos (sw_ge hf hi2)]
    · rw [if_neg hi2, if_neg (by rw [sw_low hf (by omega)]; exact hi2)]
  · show M (sw q.length f k) p = _
    rw [sw_low hf hk]; exact h.pt xs p ys hq k hk
  · exact h.pl p hp _ (sw_ge hf hi) (sw_lt (by omega) hfm him)
  · exact h.zl j hj hq _ (sw_ge hf hi) (sw_lt (by omega) hfm him)
  · have hl : ys.length < q.length := by rw [hq]; simp; omega
    show M (sw q.length f ys.length) j = 0
    rw [sw_low hf hl]; exact h.zt xs p ys hq j hj hn
section
variable {m w : Nat} {A M : Mat} {q : List Nat} {d : Int} {c : Nat}
/-- the numerator -/
def num (M : Mat) (r c k j : Nat) : Int := M r c * M k j - M k c * M r j
theorem low_id (h : Inv m w A M q d c) (hr : q.length < m) {j : Nat} (hj : j < w) : M q.length j = det (q.length + 1) (cl A id j :: q.map (cl A id)) := by
  rw [h.low q.length (Nat.le_refl _) hr j hj]
  have e : ∀ x t, t < q.length + 1 → cl A (iota q.length q.length) x t = cl A id x t := fun x t ht => by
    show A (iota q.length q.length t) x = A t x
    unfold iota
    by_cases z : t < q.length
    · rw [if_pos z]
    · rw [if_neg z, show t = q.length by omega]
  exact det_map (js := j :: q) fun x _ t ht => e x t ht
theorem comb_at (h : Inv m w A M q d c) (hr : q.length < m) {i j : Nat} (hi : i < m) (hj : j < w) (hc : c < w) : M q.length c * d * A i j + -(M q.length j * d) * A i c = sq (fun k p => num M q.length c k j * A i p) q + if q.length < i then num M q.length c i j else 0 := by
  have h1 := h.rel i hi j hj
  have h2 := h.rel i hi c hc
  have h3 := sq_lin (f := fun k p => M k j * A i p) (g := fun k p => M k c * A i p) (M q.length c) (-(M q.length j)) q
  have e : sq (fun k p => num M q.length c k j * A i p) q = sq (fun k p => M q.length c * (M k j * A i p) + -(M q.length j) * (M k c * A i p)) q := sq_congr q fun k p _ _ => by unfold num; grind
  rw [e, h3]
  have h4 : M q.length c * d * A i j + -(M q.length j * d) * A i c = M q.length c * (d * A i j) + -(M q.length j) * (d * A i c) := by grind
  rw [h4, h1, h2]
  by_cases hq : q.length ≤ i
  · rw [if_pos hq, if_pos hq]
    by_cases hq2 : q.length < i
    · rw [if_pos hq2]; unfold num; grind
    · have : i = q.length := by omega
      subst this
      rw [if_neg hq2]; grind
  · rw [if_neg hq, if_neg hq, if_neg (by omega)]; grind
theorem key_top (h : Inv m w A M q d c) (hr : q.length < m) (hc : c < w) (hp : M q.length c ≠ 0) {xs ys : List Nat} {p : Nat} (hq : q = xs ++ p :: ys) {j : Nat} (hj : j < w) :
    num M q.length c ys.length j = d * det (q.length + 1) (cl A id c :: (xs.map (cl A id) ++ cl A id j :: ys.map (cl A id))) := by
  have hl := det_lin (q.length + 1)
  have ha := det_alt (q.length + 1)
  have e1 := hl (cl A id c :: xs.map (cl A id)) (ys.map (cl A id)) (M q.length c * d) (-(M q.length j * d)) (cl A id j) (cl A id c)
  have e2 := mem_zero hl ha (xs := cl A id c :: xs.map (cl A id)) (ys := ys.map (cl A id)) (v := cl A id c) (.inl (List.mem_cons_self ..))
  have e3 := det_mid (n := q.length + 1) (cl A id c :: xs.map (cl A id)) (ys.map (cl A id)) (u := lc (M q.length c * d) (-(M q.length j * d)) (cl A id j) (cl A id c)) (v := fun t => sq (fun k p => num M q.length c k j * cl A id p t) q) fun t ht => by
    have := comb_at h hr (i := t) (by omega) hj hc
    rw [if_neg (by omega)] at this
    show M q.length c * d * A t j + -(M q.length j * d) * A t c = sq (fun k p => num M q.length c k j * A t p) q
    rw [this]; omega
  have e4 := lin_sq hl (cl A id c :: xs.map (cl A id)) (ys.map (cl A id)) (fun k => num M q.length c k j) (cl A id) q
  have e5 : sq (fun k x => num M q.length c k j * det (q.length + 1) (cl A id c :: xs.map (cl A id) ++ cl A id x :: ys.map (cl A id))) q = num M q.length c ys.length j * det (q.length + 1) (cl A id c :: xs.map (cl A id) ++ cl A id p :: ys.map (cl A id)) := by
    have := sq_one (f := fun k x => num M q.length c k j * det (q.length + 1) (cl A id c :: xs.map (cl A id) ++ cl A id x :: ys.map (cl A id))) (p := p) (ys := ys) xs (fun k x hx => by
      show _ * det _ _ = 0
      rw [mem_zero hl ha (.inl (List.mem_cons_of_mem _ (List.mem_map.mpr ⟨x, hx, rfl⟩)))]; omega) (fun k x hx => by
      show _ * det _ _ = 0
      rw [mem_zero hl ha (.inr (List.mem_map.mpr ⟨x, hx, rfl⟩))]; omega)
    rw [← hq] at this
    exact this
  have e6 : det (q.length + 1) (cl A id c :: xs.map (cl A id) ++ cl A id p :: ys.map (cl A id)) = M q.length c := by
    rw [low_id h hr hc]
    congr 1
    rw [hq]; simp
  rw [e5, e6] at e4
  rw [e2] at e1
  rw [e3, e4] at e1
  simp only [List.cons_append] at e1
  generalize det (q.length + 1) (cl A id c :: (xs.map (cl A id) ++ cl A id j :: ys.map (cl A id))) = Z at *
  generalize num M q.length c ys.length j = N at *
  have e7 : M q.length c * N = M q.length c * (d * Z) := by
    have e8 : N * M q.length c = M q.length c * d * Z + -(M q.length j * d) * 0 := e1
    grind
  exact Int.eq_of_mul_eq_mul_left hp e7
theorem key_low (h : Inv m w A M q d c) (hr : q.length < m) (hc : c < w) (hp : M q.length c ≠ 0) {i : Nat} (hi : q.length < i) (him : i < m) {j : Nat} (hj : j < w) :
    num M q.length c i j = d * det (q.length + 2) (cl A (iota (q.length + 1) i) j :: cl A (iota (q.length + 1) i) c :: q.map (cl A (iota (q.length + 1) i))) := by
  have hl := det_lin (q.length + 2)
  have ha := det_alt (q.length + 2)
  let B : Nat → Col := cl A (iota (q.length + 1) i)
  have e1 := hl [] (B c :: q.map B) (M q.length c * d) (-(M q.length j * d)) (B j) (B c)
  have e2 := mem_zero hl ha (xs := []) (ys := B c :: q.map B) (v := B c) (.inr (List.mem_cons_self ..))
  let e : Col := fun t => if t = q.length + 1 then 1 else 0
  let S : Col := fun t => sq (fun k p => num M q.length c k j * B p t) q
  have e3 := det_mid (n := q.length + 2) [] (B c :: q.map B) (u := lc (M q.length c * d) (-(M q.length j * d)) (B j) (B c)) (v := lc 1 (num M q.length c i j) S e) fun t ht => by
    show M q.length c * d * A (iota (q.length + 1) i t) j + -(M q.length j * d) * A (iota (q.length + 1) i t) c = 1 * sq (fun k p => num M q.length c k j * A (iota (q.length + 1) i t) p) q + num M q.length c i j * (if t = q.length + 1 then 1 else 0)
    unfold iota
    by_cases z : t < q.length + 1
    · rw [if_pos z, comb_at h hr (i := t) (by omega) hj hc, if_neg (by omega), if_neg (by omega)]; omega
    · rw [if_neg z, comb_at h hr him hj hc, if_pos hi, if_pos (by omega)]; omega
  have e4 := hl [] (B c :: q.map B) 1 (num M q.length c i j) S e
  have e5 := lin_sq hl [] (B c :: q.map B) (fun k => num M q.length c k j) B q
  have e6 : sq (fun k p => num M q.length c k j * det (q.length + 2) ([] ++ B p :: (B c :: q.map B))) q = 0 := sq_zero q fun k p hp => by
    show _ * det _ _ = 0
    rw [mem_zero hl ha (.inr (List.mem_cons_of_mem _ (List.mem_map.mpr ⟨p, hp, rfl⟩)))]; omega
  have e7 : det (q.length + 2) (e :: B c :: q.map B) = M q.length c := by
    rw [det_head (n := q.length + 1) (u := e) (B c :: q.map B) fun t ht => by show (if t = q.length + 1 then (1 : Int) else 0) = 0; rw [if_neg (by omega)]]
    show (if q.length + 1 = q.length + 1 then (1 : Int) else 0) * det (q.length + 1) (B c :: q.map B) = _
    rw [if_pos rfl, Int.one_mul, low_id h hr hc]
    refine det_map (js := c :: q) fun x _ t ht => ?_
    show A (iota (q.length + 1) i t) x = A t x
    unfold iota
    rw [if_pos ht]
  rw [e6] at e5
  simp only [List.nil_append] at *
  rw [show det (q.length + 2) (S :: B c :: q.map B) = 0 from e5, e7] at e4
  rw [e3, e4, e2] at e1
  show _ = d * det (q.length + 2) (B j :: B c :: q.map B)
  generalize det (q.length + 2) (B j :: B c :: q.map B) = Z at *
  generalize num M q.length c i j = N at *
  have e8 : M q.length c * N = M q.length c * (d * Z) := by grind
  exact Int.eq_of_mul_eq_mul_left hp e8
/-- all of it but the row of the pivot -/
theorem key_any (h : Inv m w A M q d c) (hr : q.length < m) (hc : c < w) (hp : M q.length c ≠ 0) {i : Nat} (hi : i ≠ q.length) (him : i < m) {j : Nat} (hj : j < w) : num M q.length c i j = d * (num M q.length c i j).fdiv d := by
  have key : ∃ z, num M q.length c i j = d * z := by
    by_cases z : i < q.length
    · obtain ⟨xs, p, ys, hq, hl⟩ : ∃ xs p ys, q = xs ++ p :: ys ∧ ys.length = i := by
        refine ⟨q.take (q.length - 1 - i), q[q.length - 1 - i], q.drop (q.length - 1 - i + 1), ?_, by rw [List.length_drop]; omega⟩
        rw [← List.drop_eq_getElem_cons (by omega), List.take_append_drop]
      rw [← hl]
      exact ⟨_, key_top h hr hc hp hq hj⟩
    · exact ⟨_, key_low h hr hc hp (by omega) him hj⟩
  obtain ⟨z, e⟩ := key
  rw [e, Int.mul_fdiv_cancel_left _ h.d0]
theorem split_at {q : List Nat} {i : Nat} (z : i < q.length) : ∃ xs p ys, q = xs ++ p :: ys ∧ ys.length = i := by
  refine ⟨q.take (q.length - 1 - i), q[q.length - 1 - i], q.drop (q.length - 1 - i + 1), ?_, by rw [List.length_drop]; omega⟩
  rw [← List.drop_eq_getElem_cons (by omega), List.take_append_drop]
/-- the column c cleared by the row behind the last pivot's -/
def clr (M : Mat) (r c : Nat) (d : Int) : Mat := fun i j => if i = r then M r j else (num M r c i j).fdiv d
theorem clr_at {M : Mat} {r c i j : Nat} {d : Int} (h : i ≠ r) : clr M r c d i j = (num M r c i j).fdiv d := if_neg h
theorem clr_head {M : Mat} {r c j : Nat} {d : Int} : clr M r c d r j = M r j := if_pos rfl
theorem inv_clear (h : Inv m w A M q d c) (hr : q.length < m) (hc : c < w) (hp : M q.length c ≠ 0) : Inv m w A (clr M q.length c d) (c :: q) (M q.length c) (c + 1) := by
  have hlen : (c :: q).length = q.length + 1 := rfl
  have hcq : c ∉ q := fun z => by have := h.qc c z; omega
  have fd : ∀ {z : Int}, (d * z).fdiv d = z := fun {z} => Int.mul_fdiv_cancel_left z h.d0
  refine ⟨by rw [hlen]; omega, fun p hm => ?_, List.pairwise_cons.mpr ⟨fun p hm => h.qc p hm, h.dec⟩, hp, ?_, fun xs p ys hq j hj => ?_, fun i hi him j hj => ?_, fun i hi j hj => ?_, fun xs p ys hq k hk => ?_, fun p hm i hi him => ?_, fun j hj hn i hi him => ?_, fun xs p ys hq j hj hn => ?_⟩
  · rcases List.mem_cons.mp hm with z | z
    · omega
    · have := h.qc p z; omega
  · exact low_id h hr hc
  · cases xs with
    | nil =>
      have e : c = p ∧ q = ys := by simpa using hq
      obtain ⟨rfl, rfl⟩ := e
      rw [clr_head]
      exact low_id h hr hj
    | cons x xs =>
      have e : c = x ∧ q = xs ++ p :: ys := by simpa using hq
      obtain ⟨rfl, hq'⟩ := e
      have hl : ys.length < q.length := by rw [hq']; simp; omega
      rw [clr_at (by omega), key_top h hr hc hp hq' hj, fd]
      rfl
  · rw [hlen] at hi
    rw [clr_at (by omega), key_low h hr hc hp (by omega) him hj, fd]
    rfl
  · have h1 := comb_at h hr hi hj hc
    have h2 : sq (fun k p => clr M q.length c d k j * A i p) (c :: q) = M q.length j * A i c + sq (fun k p => clr M q.length c d k j * A i p) q := by
      show clr M q.length c d q.length j * A i c + _ = _
      rw [clr_head]
    have h3 : sq (fun k p => num M q.length c k j * A i p) q = d * sq (fun k p => clr M q.length c d k j * A i p) q := by
      have := sq_lin (f := fun k p => clr M q.length c d k j * A i p) (g := fun _ _ => 0) d 0 q
      have e : sq (fun k p => num M q.length c k j * A i p) q = sq (fun k p => d * (clr M q.length c d k j * A i p) + 0 * 0) q := sq_congr q fun k p hk _ => by
        rw [clr_at (by omega)]
        have := key_any h hr hc hp (i := k) (by omega) (by omega) hj
        generalize (num M q.length c k j).fdiv d = z at *
        rw [this]; grind
      rw [e, this]; omega
    rw [h2]
    rw [h3] at h1
    by_cases hi2 : q.length < i
    · have h4 := key_any h hr hc hp (i := i) (by omega) hi hj
      rw [if_pos hi2] at h1
      rw [if_pos (show (c :: q).length ≤ i by rw [hlen]; omega), clr_at (by omega)]
      generalize (num M q.length c i j).fdiv d = z at *
      rw [h4] at h1
      refine Int.eq_of_mul_eq_mul_left h.d0 ?_
      grind
    · rw [if_neg hi2] at h1
      rw [if_neg (show ¬ (c :: q).length ≤ i by rw [hlen]; omega)]
      refine Int.eq_of_mul_eq_mul_left h.d0 ?_
      grind
  · rw [hlen] at hk
    cases xs with
    | nil =>
      have e : c = p ∧ q = ys := by simpa using hq
      obtain ⟨rfl, rfl⟩ := e
      by_cases z : k = q.length
      · subst z; rw [clr_head, if_pos rfl]
      · rw [clr_at z, if_neg z]
        have : num M q.length c k c = d * 0 := by unfold num; grind
        rw [this, fd]
    | cons x xs =>
      have e : c = x ∧ q = xs ++ p :: ys := by simpa using hq
      obtain ⟨rfl, hq'⟩ := e
      have hpm : p ∈ q := by rw [hq']; simp
      have hl : ys.length < q.length := by rw [hq']; simp; omega
      by_cases z : k = q.length
      · subst z; rw [clr_head, if_neg (by omega)]; exact h.pl p hpm _ (Nat.le_refl _) hr
      · rw [clr_at z]
        have h1 := h.pt xs p ys hq' k (by omega)
        have h2 := h.pl p hpm _ (Nat.le_refl _) hr
        by_cases y : k = ys.length
        · rw [if_pos y] at h1 ⊢
          have : num M q.length c k p = d * M q.length c := by unfold num; rw [h1, h2]; grind
          rw [this, fd]
        · rw [if_neg y] at h1 ⊢
          have : num M q.length c k p = d * 0 := by unfold num; rw [h1, h2]; grind
          rw [this, fd]
  · rw [hlen] at hi
    rw [clr_at (by omega)]
    rcases List.mem_cons.mp hm with z | z
    · subst z
      have : num M q.length p i p = d * 0 := by unfold num; grind
      rw [this, fd]
    · have h1 := h.pl p z i (by omega) him
      have h2 := h.pl p z _ (Nat.le_refl _) hr
      have : num M q.length c i p = d * 0 := by unfold num; rw [h1, h2]; grind
      rw [this, fd]
  · rw [hlen] at hi
    rw [clr_at (by omega)]
    have hj' : j < c := by
      have : j ≠ c := fun z => hn (by rw [z]; exact List.mem_cons_self ..)
      omega
    have hn' : j ∉ q := fun z => hn (List.mem_cons_of_mem _ z)
    have h1 := h.zl j hj' hn' i (by omega) him
    have h2 := h.zl j hj' hn' _ (Nat.le_refl _) hr
    have : num M q.length c i j = d * 0 := by unfold num; rw [h1, h2]; grind
    rw [this, fd]
  · have hn' : j ∉ q := fun z => hn (List.mem_cons_of_mem _ z)
    cases xs with
    | nil =>
      have e : c = p ∧ q = ys := by simpa using hq
      obtain ⟨rfl, rfl⟩ := e
      rw [clr_head]
      exact h.zl j hj hn' _ (Nat.le_refl _) hr
    | cons x xs =>
      have e : c = x ∧ q = xs ++ p :: ys := by simpa using hq
      obtain ⟨rfl, hq'⟩ := e
      have hpm : p ∈ q := by rw [hq']; simp
      have hpc := h.qc p hpm
      have hl : ys.length < q.length := by rw [hq']; simp; omega
      rw [clr_at (by omega)]
      have h1 := h.zt xs p ys hq' j hj hn'
      have h2 := h.zl j (by omega) hn' _ (Nat.le_refl _) hr
      have : num M q.length c ys.length j = d * 0 := by unfold num; rw [h1, h2]; grind
      rw [this, fd]
/-- nothing found in the column -/
theorem inv_skip (h : Inv m w A M q d c) (hz : ∀ i, q.length ≤ i → i < m → M i c = 0) : Inv m w A M q d (c + 1) := by
  refine ⟨h.rm, fun p hm => by have := h.qc p hm; omega, h.dec, h.d0, h.d1, h.top, h.low, h.rel, h.pt, h.pl, fun j hj hn i hi him => ?_, h.zt⟩
  by_cases e : j = c
  · subst e; exact hz i hi him
  · exact h.zl j (by omega) hn i hi him
end
end El
set_option Elab.async false
set_option linter.all false
namespace Sp
open Sl (cq)
open Al10 (Row leftBy isZero)
/-! ### the specification's way of finding what powers come to -/
def im (C : Nat → List Rat) : Nat → (Nat → Rat) → Nat → Rat
  | 0, _, _ => 0
  | n + 1, x, r => im C n x r + x n * cq (C n) r
theorem im_lin (C : Nat → List Rat) (a b : Rat) (x y : Nat → Rat) (r : Nat) : ∀ n, im C n (fun j => a * x j + b * y j) r = a * im C n x r + b * im C n y r
  | 0 => by show (0 : Rat) = a * 0 + b * 0; grind
  | n + 1 => by
    have ih := im_lin C a b x y r n
    show im C n _ r + (a * x n + b * y n) * cq (C n) r = a * (im C n x r + x n * cq (C n) r) + b * (im C n y r + y n * cq (C n) r)
    grind
theorem im_congr {C : Nat → List Rat} {x y : Nat → Rat} {r : Nat} : ∀ {n : Nat}, (∀ j, j < n → x j = y j) → im C n x r = im C n y r
  | 0, _ => rfl
  | n + 1, h => by
    show im C n x r + x n * _ = im C n y r + y n * _
    rw [im_congr fun j hj => h j (by omega), h n (by omega)]
theorem im_zero {C : Nat → List Rat} {x : Nat → Rat} {r : Nat} : ∀ {n : Nat}, (∀ j, j < n → x j = 0) → im C n x r = 0
  | 0, _ => rfl
  | n + 1, h => by
    show im C n x r + x n * _ = 0
    rw [im_zero fun j hj => h j (by omega), h n (by omega)]; grind
theorem im_unit {C : Nat → List Rat} {i r : Nat} : ∀ {n : Nat}, i < n → im C n (fun j => if j = i then 1 else 0) r = cq (C i) r
  | 0, h => by omega
  | n + 1, h => by
    show im C n _ r + (if n = i then (1 : Rat) else 0) * cq (C n) r = _
    by_cases e : n = i
    · subst e
      rw [if_pos rfl, im_zero fun j hj => if_neg (by omega)]; grind
    · rw [if_neg e, im_unit (by omega)]; grind
theorem cq_zip {a b : List Rat} (f : Rat × Rat → Rat) (h : a.length = b.length) (h0 : f (0, 0) = 0) (j : Nat) : cq ((a.zip b).map f) j = f (cq a j, cq b j) := by
  by_cases hj : j < a.length
  · have hb : j < b.length := by omega
    have hz : (a.zip b)[j]? = some (a[j], b[j]) := List.getElem?_zip_eq_some.mpr ⟨List.getElem?_eq_getElem hj, List.getElem?_eq_getElem hb⟩
    unfold cq
    rw [List.getD_eq_getElem?_getD, List.getElem?_map, hz]
    rw [List.getD_eq_getElem?_getD, List.getElem?_eq_getElem hj, List.getD_eq_getElem?_getD, List.getElem?_eq_getElem hb]
    rfl
  · rw [Sl.cq_ge (p := a) (by omega), Sl.cq_ge (p := b) (by omega), h0, Sl.cq_ge]
    rw [List.length_map, List.length_zip]; omega
def nz : Rat → Bool := fun (x : Rat) => decide (x ≠ 0)
def Lead (p : Row) (k : Nat) : Prop := p.findIdx? nz = some k
theorem lead_nz {p : Row} {k : Nat} (h : Lead p k) : cq p k ≠ 0 := by
  obtain ⟨h1, h2, _⟩ := List.findIdx?_eq_some_iff_getElem.mp h
  unfold cq
  rw [List.getD_eq_getElem?_getD, List.getElem?_eq_getElem h1]
  exact of_decide_eq_true h2
theorem lead_ex {p : Row} (h : ¬ isZero p = true) : ∃ k, Lead p k := by
  unfold Lead
  cases e : p.findIdx? nz with
  | some k => exact ⟨k, rfl⟩
  | none =>
    refine absurd ?_ h
    have := List.findIdx?_eq_none_iff.mp e
    unfold isZero
    rw [List.all_eq_true]
    intro x hx
    have := this x hx
    unfold nz at this
    exact decide_eq_true (Decidable.not_not.mp (of_decide_eq_false this))
theorem isZero_iff (p : Row) : isZero p = true ↔ ∀ r, cq p r = 0 := by
  unfold isZero
  rw [List.all_eq_true]
  constructor
  · intro h r
    by_cases hr : r < p.length
    · unfold cq
      rw [List.getD_eq_getElem?_getD, List.getElem?_eq_getElem hr]
      exact of_decide_eq_true (h _ (List.getElem_mem hr))
    · exact Sl.cq_ge (by omega)
  · intro h x hx
    obtain ⟨r, hr, e⟩ := List.getElem_of_mem hx
    have := h r
    unfold cq at this
    rw [List.getD_eq_getElem?_getD, List.getElem?_eq_getElem hr] at this
    exact decide_eq_true (by rw [← e]; exact this)
structure Kp (C : Nat → List Rat) (L N : Nat) (S : Nat → Prop) (x : Row × Row) : Prop where
  l1 : x.1.length = L
  l2 : x.2.length = N
  im : ∀ r, cq x.1 r = im C N (cq x.2) r
  sup : ∀ j, ¬ S j → cq x.2 j = 0
  lead : ∃ k, Lead x.1 k
structure Lb (C : Nat → List Rat) (L N : Nat) (S : Nat → Prop) (kept : List (Row × Row)) (r m : Row) (y : Row × Row) : Prop where
  l1 : y.1.length = L
  l2 : y.2.length = N
  im : ∀ t, cq y.1 t - im C N (cq y.2) t = cq r t - im C N (cq m) t
  sup : ∀ j, ¬ S j → cq y.2 j = cq m j
  z : ∀ k, cq r k = 0 → (∀ x ∈ kept, cq x.1 k = 0) → cq y.1 k = 0
theorem leftBy_some {p q : Row} {l : List (Row × Row)} {r m : Row} {k : Nat} (h : Lead p k) : leftBy ((p, q) :: l) r m = leftBy l ((r.zip p).map fun (x : Rat × Rat) => x.1 - r.getD k 0 / p.getD k 0 * x.2) ((m.zip q).map fun (x : Rat × Rat) => x.1 - r.getD k 0 / p.getD k 0 * x.2) := by
  have h' : p.findIdx? (fun (x : Rat) => decide (x ≠ 0)) = some k := h
  rw [leftBy, h']
theorem left_lb {C : Nat → List Rat} {L N : Nat} {S : Nat → Prop} : ∀ (kept : List (Row × Row)) (r m : Row), (∀ x ∈ kept, Kp C L N S x) → r.length = L → m.length = N → Lb C L N S kept r m (leftBy kept r m)
  | [], r, m, _, h1, h2 => ⟨h1, h2, fun _ => rfl, fun _ _ => rfl, fun k h _ => h⟩
  | (p, q) :: l, r, m, hk, h1, h2 => by
    have hp := hk (p, q) (List.mem_cons_self ..)
    obtain ⟨k, hl⟩ := hp.lead
    rw [leftBy_some hl]
    generalize r.getD k 0 / p.getD k 0 = c
    have hr1 : ((r.zip p).map fun (x : Rat × Rat) => x.1 - c * x.2).length = L := by
      rw [List.length_map, List.length_zip, h1, hp.l1]; omega
    have hm1 : ((m.zip q).map fun (x : Rat × Rat) => x.1 - c * x.2).length = N := by
      rw [List.length_map, List.length_zip, h2, hp.l2]; omega
    have er : ∀ t, cq ((r.zip p).map fun (x : Rat × Rat) => x.1 - c * x.2) t = cq r t - c * cq p t := fun t => cq_zip _ (by rw [h1]; exact hp.l1.symm) (by show (0 : Rat) - c * 0 = 0; grind) t
    have em : ∀ t, cq ((m.zip q).map fun (x : Rat × Rat) => x.1 - c * x.2) t = cq m t - c * cq q t := fun t => cq_zip _ (by rw [h2]; exact hp.l2.symm) (by show (0 : Rat) - c * 0 = 0; grind) t
    have ih := left_lb l _ _ (fun x hx => hk x (List.mem_cons_of_mem _ hx)) hr1 hm1
    refine ⟨ih.l1, ih.l2, fun t => ?_, fun j hj => ?_, fun t h0 hz => ?_⟩
    · rw [ih.im t, er]
      have e1 : im C N (cq ((m.zip q).map fun (x : Rat × Rat) => x.1 - c * x.2)) t = im C N (fun j => 1 * cq m j + (-c) * cq q j) t := im_congr fun j _ => by rw [em]; grind
      rw [e1, im_lin, ← hp.im t]
      show cq r t - c * cq p t - _ = _
      grind
    · rw [ih.sup j hj, em, hp.sup j hj]; grind
    · refine ih.z t ?_ fun x hx => hz x (List.mem_cons_of_mem _ hx)
      rw [er, h0, hz (p, q) (List.mem_cons_self ..)]; grind
/-- what is left is 0 where the rows kept begin -/
theorem left_van {C : Nat → List Rat} {L N : Nat} {S : Nat → Prop} : ∀ (kept : List (Row × Row)) (r m : Row), (∀ x ∈ kept, Kp C L N S x) → kept.Pairwise (fun a b => ∀ k, Lead a.1 k → cq b.1 k = 0) → r.length = L → m.length = N → ∀ x ∈ kept, ∀ k, Lead x.1 k → cq (leftBy kept r m).1 k = 0
  | [], _, _, _, _, _, _ => fun x hx => by cases hx
  | (p, q) :: l, r, m, hk, ht, h1, h2 => by
    have hp := hk (p, q) (List.mem_cons_self ..)
    obtain ⟨k, hl⟩ := hp.lead
    obtain ⟨t1, t2⟩ := List.pairwise_cons.mp ht
    rw [leftBy_some hl]
    have hr1 : ((r.zip p).map fun (x : Rat × Rat) => x.1 - r.getD k 0 / p.getD k 0 * x.2).length = L := by
      rw [List.length_map, List.length_zip, h1, hp.l1]; omega
    have hm1 : ((m.zip q).map fun (x : Rat × Rat) => x.1 - r.getD k 0 / p.getD k 0 * x.2).length = N := by
      rw [List.length_map, List.length_zip, h2, hp.l2]; omega
    have hkl : ∀ x ∈ l, Kp C L N S x := fun x hx => hk x (List.mem_cons_of_mem _ hx)
    intro x hx k' hl'
    rcases List.mem_cons.mp hx with e | e
    · subst e
      have : k' = k := by
        have a : p.findIdx? nz = some k := hl
        have b : p.findIdx? nz = some k' := hl'
        rw [a] at b; exact (Option.some.inj b).symm
      subst this
      refine (left_lb l _ _ hkl hr1 hm1).z k' ?_ fun y hy => t1 y hy k' hl
      rw [cq_zip _ (by rw [h1]; exact hp.l1.symm) (by show (0 : Rat) - _ * 0 = 0; grind)]
      have hne := lead_nz hl
      show cq r k' - cq r k' / cq p k' * cq p k' = 0
      generalize cq p k' = a at *
      generalize cq r k' = b at *
      grind
    · exact left_van l _ _ hkl t2 hr1 hm1 x e k' hl'
/-- the state before the power i -/
structure St (C : Nat → List Rat) (L N : Nat) (piv : List Nat) (i : Nat) (kept : List (Row × Row)) : Prop where
  k : ∀ x ∈ kept, Kp C L N (fun j => j ∈ piv ∧ j < i) x
  tri : kept.Pairwise (fun a b => ∀ k, Lead a.1 k → cq b.1 k = 0)
  t : ∀ x : Nat → Rat, (∀ j, ¬ (j ∈ piv ∧ j < i) → x j = 0) → (∀ y ∈ kept, ∀ k, Lead y.1 k → im C N x k = 0) → ∀ r, im C N x r = 0
theorem st_start (C : Nat → List Rat) (L N : Nat) (piv : List Nat) : St C L N piv 0 [] := ⟨fun x hx => by (cases hx), .nil, fun x h _ r => im_zero fun j _ => h j (by omega)⟩
/-- what is known of a polynomial that comes to 0 -/
structure Zr (C : Nat → List Rat) (N : Nat) (piv : List Nat) (i : Nat) (z : Nat → Rat) : Prop where
  one : z i = 1
  im : ∀ r, im C N z r = 0
  sup : ∀ j, j ≠ i → ¬ (j ∈ piv ∧ j < i) → z j = 0
theorem cq_unit (N i j : Nat) (hi : i < N) : cq (Al10.unitRow N i) j = if j = i then 1 else 0 := by
  unfold Al10.unitRow
  rw [Sl.cq_range]
  by_cases h : j < N
  · rw [if_pos h]
  · rw [if_neg h, if_neg (by omega)]
section
variable {C : Nat → List Rat} {L N : Nat} {piv : List Nat}
theorem st_step {i : Nat} {kept : List (Row × Row)} (h : St C L N piv i kept) (hi : i < N) (hC : (C i).length = L)
    (H1 : i ∈ piv → ∀ x : Nat → Rat, (∀ r, im C N x r = 0) → (∀ j, i < j → x j = 0) → x i = 0)
    (H2 : i ∉ piv → ∃ z, Zr C N piv i z) :
    (i ∈ piv → ¬ isZero (leftBy kept (C i) (Al10.unitRow N i)).1 = true ∧ St C L N piv (i + 1) (kept ++ [leftBy kept (C i) (Al10.unitRow N i)])) ∧
    (i ∉ piv → isZero (leftBy kept (C i) (Al10.unitRow N i)).1 = true ∧ St C L N piv (i + 1) kept ∧ Zr C N piv i (cq (leftBy kept (C i) (Al10.unitRow N i)).2)) := by
  have hul : (Al10.unitRow N i).length = N := by unfold Al10.unitRow; rw [List.length_map, List.length_range]
  have hb := left_lb kept (C i) (Al10.unitRow N i) h.k hC hul
  have hv := left_van kept (C i) (Al10.unitRow N i) h.k h.tri hC hul
  generalize leftBy kept (C i) (Al10.unitRow N i) = y at *
  have hu : ∀ r, im C N (cq (Al10.unitRow N i)) r = cq (C i) r := fun r => by
    rw [← im_unit (C := C) (r := r) hi]
    exact im_congr fun j _ => cq_unit N i j hi
  have hy : ∀ r, cq y.1 r = im C N (cq y.2) r := fun r => by
    have := hb.im r
    rw [hu r] at this
    grind
  have y1 : cq y.2 i = 1 := by
    rw [hb.sup i (by omega), cq_unit N i i hi, if_pos rfl]
  have ys : ∀ j, j ≠ i → ¬ (j ∈ piv ∧ j < i) → cq y.2 j = 0 := fun j hj hn => by
    rw [hb.sup j hn, cq_unit N i j hi, if_neg hj]
  constructor
  · intro hp
    have hnz : ¬ isZero y.1 = true := fun z => by
      have z' := (isZero_iff y.1).mp z
      have := H1 hp (cq y.2) (fun r => by rw [← hy r]; exact z' r) fun j hj => ys j (by omega) (by omega)
      rw [y1] at this
      exact absurd this (by decide)
    obtain ⟨kl, hkl⟩ := lead_ex hnz
    have mono : ∀ j, ¬ (j ∈ piv ∧ j < i + 1) → ¬ (j ∈ piv ∧ j < i) := fun j a b => a ⟨b.1, by omega⟩
    refine ⟨hnz, fun x hx => ?_, ?_, fun x hs hl r => ?_⟩
    · rcases List.mem_append.mp hx with e | e
      · have := h.k x e
        exact ⟨this.l1, this.l2, this.im, fun j hj => this.sup j (mono j hj), this.lead⟩
      · rw [List.mem_singleton] at e
        subst e
        refine ⟨hb.l1, hb.l2, hy, fun j hj => ys j (fun e => hj ⟨by rw [e]; exact hp, by omega⟩) (mono j hj), kl, hkl⟩
    · refine List.pairwise_append.mpr ⟨h.tri, List.pairwise_singleton _ _, fun a ha b hb2 k hk => ?_⟩
      rw [List.mem_singleton] at hb2
      subst hb2
      exact hv a ha k hk
    · have hx' := im_lin C 1 (-(x i)) x (cq y.2)
      have hz := h.t (fun j => 1 * x j + -(x i) * cq y.2 j) (fun j hj => by
        by_cases e : j = i
        · subst e; rw [y1]; grind
        · rw [ys j e hj, hs j fun z => hj ⟨z.1, by omega⟩]; grind) (fun a ha k hk => by
        rw [hx' k N, hl a (List.mem_append.mpr (.inl ha)) k hk, ← hy k, hv a ha k hk]; grind)
      have e1 : ∀ t, im C N x t = x i * cq y.1 t := fun t => by
        have := hz t
        rw [hx' t N, ← hy t] at this
        grind
      have e2 := hl y (List.mem_append.mpr (.inr (List.mem_singleton.mpr rfl))) kl hkl
      rw [e1] at e2
      have : x i = 0 := by
        rcases Rat.mul_eq_zero.mp e2 with z | z
        · exact z
        · exact absurd z (lead_nz hkl)
      rw [e1, this]; grind
  · intro hp
    obtain ⟨z, hz⟩ := H2 hp
    have hx' := im_lin C 1 (-1) (cq y.2) z
    have ht := h.t (fun j => 1 * cq y.2 j + -1 * z j) (fun j hj => by
      by_cases e : j = i
      · subst e; rw [y1, hz.one]; grind
      · rw [ys j e hj, hz.sup j e hj]; grind) (fun a ha k hk => by
      rw [hx' k N, hz.im k, ← hy k, hv a ha k hk]; grind)
    have e0 : ∀ r, im C N (cq y.2) r = 0 := fun r => by
      have := ht r
      rw [hx' r N, hz.im r] at this
      grind
    have conv : ∀ j, ¬ (j ∈ piv ∧ j < i) → ¬ (j ∈ piv ∧ j < i + 1) := fun j a b => a ⟨b.1, by
      have : j ≠ i := fun e => hp (by rw [← e]; exact b.1)
      omega⟩
    refine ⟨(isZero_iff y.1).mpr fun r => by rw [hy r]; exact e0 r, ⟨fun x hx => ?_, h.tri, fun x hs hl r => h.t x (fun j hj => hs j (conv j hj)) hl r⟩, y1, e0, ys⟩
    have := h.k x hx
    exact ⟨this.l1, this.l2, this.im, fun j hj => this.sup j fun z => hj ⟨z.1, by omega⟩, this.lead⟩
end
end Sp
set_option Elab.async false
set_option linter.all false
namespace Sp
open Sl (cq)
open Al10 (Row leftBy isZero)
inductive ZAll (C : Nat → List Rat) (N : Nat) (piv : List Nat) : List Nat → List AlOne.Uni → Prop
  | nil : ZAll C N piv [] []
  | cons {i : Nat} {z : AlOne.Uni} {is : List Nat} {zs : List AlOne.Uni} : Zr C N piv i (cq z) → ZAll C N piv is zs → ZAll C N piv (i :: is) (z :: zs)
theorem zall_append {C : Nat → List Rat} {N : Nat} {piv : List Nat} {is js : List Nat} {zs us : List AlOne.Uni} (h : ZAll C N piv is zs) (k : ZAll C N piv js us) : ZAll C N piv (is ++ js) (zs ++ us) := by
  induction h with
  | nil => exact k
  | cons a _ ih => exact .cons a ih
section
variable {kind n d L : Nat} {es : List Al10.Eq} {piv : List Nat}
def Cs (kind n : Nat) (es : List Al10.Eq) : Nat → List Rat := fun i => Al10.rowOf kind n es (AlOne.xpow i)
theorem powers_is (hL : ∀ i, (Cs kind n es i).length = L)
    (H1 : ∀ i, i < d + 1 → i ∈ piv → ∀ x : Nat → Rat, (∀ r, im (Cs kind n es) (d + 1) x r = 0) → (∀ j, i < j → x j = 0) → x i = 0)
    (H2 : ∀ i, i < d + 1 → i ∉ piv → ∃ z, Zr (Cs kind n es) (d + 1) piv i z) :
    ∀ (f i : Nat) (kept : List (Row × Row)) (zeros : List AlOne.Uni), i + f = d + 1 → St (Cs kind n es) L (d + 1) piv i kept →
      ∃ zs, (Al10.powersFrom kind n d es f i kept zeros).2 = zeros ++ zs ∧ ZAll (Cs kind n es) (d + 1) piv ((List.range' i f).filter fun c => decide (c ∉ piv)) zs ∧ St (Cs kind n es) L (d + 1) piv (d + 1) (Al10.powersFrom kind n d es f i kept zeros).1
  | 0, i, kept, zeros, hi, h => ⟨[], by simp [Al10.powersFrom], .nil, by
    have : i = d + 1 := by omega
    subst this; exact h⟩
  | f + 1, i, kept, zeros, hi, h => by
    obtain ⟨s1, s2⟩ := st_step h (by omega) (hL i) (H1 i (by omega)) (H2 i (by omega))
    rw [Al10.powersFrom]
    show ∃ zs, (if isZero (leftBy kept (Cs kind n es i) (Al10.unitRow (d + 1) i)).1 = true then _ else _ : List (Row × Row) × List AlOne.Uni).2 = _ ∧ _ ∧ St _ _ _ _ _ (if isZero (leftBy kept (Cs kind n es i) (Al10.unitRow (d + 1) i)).1 = true then _ else _ : List (Row × Row) × List AlOne.Uni).1
    by_cases hp : i ∈ piv
    · obtain ⟨a, b⟩ := s1 hp
      rw [if_neg a]
      obtain ⟨zs, e1, e2, e3⟩ := powers_is hL H1 H2 f (i + 1) _ zeros (by omega) b
      refine ⟨zs, e1, ?_, e3⟩
      rw [List.range'_succ, List.filter_cons, if_neg (by simpa using hp)]
      exact e2
    · obtain ⟨a, b, c⟩ := s2 hp
      rw [if_pos a]
      obtain ⟨zs, e1, e2, e3⟩ := powers_is hL H1 H2 f (i + 1) kept (zeros ++ [AlOne.trim (leftBy kept (Cs kind n es i) (Al10.unitRow (d + 1) i)).2]) (by omega) b
      refine ⟨AlOne.trim (leftBy kept (Cs kind n es i) (Al10.unitRow (d + 1) i)).2 :: zs, e1.trans (by simp), ?_, e3⟩
      rw [List.range'_succ, List.filter_cons, if_pos (by simpa using hp)]
      refine .cons ⟨?_, fun r => ?_, fun j h1 h2 => ?_⟩ e2
      · rw [Sl.trim_cq]; exact c.one
      · rw [← c.im r]; exact im_congr fun j _ => Sl.trim_cq _ j
      · rw [Sl.trim_cq]; exact c.sup j h1 h2
def Fs (n : Nat) (es : List Al10.Eq) : List Rat := es.flatMap fun (e : Al10.Eq) => Al10.padded n e.f
/-- one solution, on the pivots alone -/
structure Ys (C : Nat → List Rat) (N : Nat) (F : List Rat) (piv : List Nat) (y : Nat → Rat) : Prop where
  im : ∀ r, im C N y r = cq F r
  sup : ∀ j, j ∉ piv → y j = 0
theorem solve_is (hh : Al10.highAll kind es = some d) (hn : n = Al10.wide d es) (hL : ∀ i, (Cs kind n es i).length = L) (hF : (Fs n es).length = L) (hpv : ∀ p ∈ piv, p < d + 1)
    (H1 : ∀ i, i < d + 1 → i ∈ piv → ∀ x : Nat → Rat, (∀ r, im (Cs kind n es) (d + 1) x r = 0) → (∀ j, i < j → x j = 0) → x i = 0)
    (H2 : ∀ i, i < d + 1 → i ∉ piv → ∃ z, Zr (Cs kind n es) (d + 1) piv i z) :
    ((∃ y, Ys (Cs kind n es) (d + 1) (Fs n es) piv y) → ∃ y0 zs, Al10.solve kind es = some (y0, zs) ∧ Ys (Cs kind n es) (d + 1) (Fs n es) piv (cq y0) ∧ ZAll (Cs kind n es) (d + 1) piv ((List.range (d + 1)).filter fun c => decide (c ∉ piv)) zs) ∧
    ((¬ ∃ y, ∀ r, im (Cs kind n es) (d + 1) y r = cq (Fs n es) r) → Al10.solve kind es = none) := by
  obtain ⟨zs, e1, e2, e3⟩ := powers_is (piv := piv) hL H1 H2 (d + 1) 0 [] [] (by omega) (st_start _ _ _ _)
  have hsol : Al10.solve kind es = if isZero (leftBy (Al10.powersFrom kind n d es (d + 1) 0 [] []).1 (Fs n es) (List.replicate (d + 1) 0)).1 = true then some (AlOne.trim ((leftBy (Al10.powersFrom kind n d es (d + 1) 0 [] []).1 (Fs n es) (List.replicate (d + 1) 0)).2.map fun (c : Rat) => -c), (Al10.powersFrom kind n d es (d + 1) 0 [] []).2) else none := by
    unfold Al10.solve
    rw [hh, hn]
    rfl
  rw [hsol, e1]
  generalize (Al10.powersFrom kind n d es (d + 1) 0 [] []).1 = kept at *
  have hrl : (List.replicate (d + 1) (0 : Rat)).length = d + 1 := List.length_replicate
  have hb := left_lb kept (Fs n es) (List.replicate (d + 1) 0) e3.k hF hrl
  have hv := left_van kept (Fs n es) (List.replicate (d + 1) 0) e3.k e3.tri hF hrl
  generalize leftBy kept (Fs n es) (List.replicate (d + 1) 0) = x at *
  have hr0 : ∀ j, cq (List.replicate (d + 1) (0 : Rat)) j = 0 := fun j => by
    unfold cq
    rw [List.getD_eq_getElem?_getD, List.getElem?_replicate]
    split <;> rfl
  have hx : ∀ r, cq x.1 r = cq (Fs n es) r + im (Cs kind n es) (d + 1) (cq x.2) r := fun r => by
    have := hb.im r
    rw [im_zero (x := cq (List.replicate (d + 1) (0 : Rat))) fun j _ => hr0 j] at this
    grind
  have hs : ∀ j, j ∉ piv → cq x.2 j = 0 := fun j hj => by rw [hb.sup j fun z => hj z.1, hr0]
  have hneg : ∀ j, cq (AlOne.trim (x.2.map fun (c : Rat) => -c)) j = -1 * cq x.2 j + 0 * cq x.2 j := fun j => by
    rw [Sl.trim_cq, Sl.map_cq (fun c => -c) (by grind)]; grind
  constructor
  · rintro ⟨y, hy⟩
    have hl := im_lin (Cs kind n es) 1 1 y (cq x.2)
    have hz : isZero x.1 = true := (isZero_iff x.1).mpr fun r => by
      have e4 : ∀ t, cq x.1 t = im (Cs kind n es) (d + 1) (fun j => 1 * y j + 1 * cq x.2 j) t := fun t => by
        rw [hl t, hy.im t, hx t]; grind
      rw [e4]
      refine e3.t _ (fun j hj => ?_) (fun a ha k hk => ?_) r
      · have : j ∉ piv := fun z => hj ⟨z, hpv j z⟩
        rw [hy.sup j this, hs j this]; grind
      · rw [← e4]; exact hv a ha k hk
    rw [if_pos hz]
    refine ⟨_, _, rfl, ⟨fun r => ?_, fun j hj => ?_⟩, ?_⟩
    · rw [im_congr (y := fun j => -1 * cq x.2 j + 0 * cq x.2 j) fun j _ => hneg j, im_lin]
      have := (isZero_iff x.1).mp hz r
      rw [hx r] at this
      grind
    · rw [hneg, hs j hj]; grind
    · rw [List.range_eq_range', List.nil_append]; exact e2
  · intro hno
    by_cases hz : isZero x.1 = true
    · refine absurd ⟨fun j => -1 * cq x.2 j + 0 * cq x.2 j, fun r => ?_⟩ hno
      rw [im_lin]
      have := (isZero_iff x.1).mp hz r
      rw [hx r] at this
      grind
    · rw [if_neg hz]
end
end Sp
set_option Elab.async false
set_option linter.all false
set_option maxRecDepth 100000
namespace Fw
open PySem L2
/-! ### data: what a value is worth; inp: a list that was handed in (read alone) -/
inductive D where
  | non
  | bl (b : Bool)
  | int (i : Int)
  | lst (xs : List D)
  | tup (xs : List D)
  | inp (xs : List D)
mutual
inductive Rp (K : PySem.W.Frag) (G : Hp) : V → D → Prop
  | non : Rp K G .non .non
  | bl (b : Bool) : Rp K G (.bl b) (.bl b)
  | int (i : Int) : Rp K G (.int i) (.int i)
  | lst {a : Addr} {vs : List V} {ds : List D} : G a = some (.lst vs) → RpAll K G vs ds → Rp K G (.ref a) (.lst ds)
  | tup {a : Addr} {vs : List V} {ds : List D} : G a = some (.tup vs) → RpAll K G vs ds → Rp K G (.ref a) (.tup ds)
  | inp {a : Addr} {vs : List V} {ds : List D} : SqL K G a vs → RpAll K G vs ds → Rp K G (.ref a) (.inp ds)
inductive RpAll (K : PySem.W.Frag) (G : Hp) : List V → List D → Prop
  | nil : RpAll K G [] []
  | cons {v : V} {vs : List V} {d : D} {ds : List D} : Rp K G v d → RpAll K G vs ds → RpAll K G (v :: vs) (d :: ds)
end
variable {K : PySem.W.Frag}
mutual
theorem Rp.mono {G G' : Hp} (e : Same G G') : ∀ {v : V} {d : D}, Rp K G v d → Rp K G' v d
  | _, _, .non => .non
  | _, _, .bl b => .bl b
  | _, _, .int i => .int i
  | _, _, .lst h a => .lst (e _ _ h) (RpAll.mono e a)
  | _, _, .tup h a => .tup (e _ _ h) (RpAll.mono e a)
  | _, _, .inp h a => .inp (e.seq h) (RpAll.mono e a)
theorem RpAll.mono {G G' : Hp} (e : Same G G') : ∀ {vs : List V} {ds : List D}, RpAll K G vs ds → RpAll K G' vs ds
  | _, _, .nil => .nil
  | _, _, .cons h a => .cons (Rp.mono e h) (RpAll.mono e a)
end
theorem RpAll.len {G : Hp} : ∀ {vs : List V} {ds : List D}, RpAll K G vs ds → vs.length = ds.length
  | _, _, .nil => rfl
  | _, _, .cons _ a => by rw [List.length_cons, List.length_cons, RpAll.len a]
theorem RpAll.get {G : Hp} : ∀ {vs : List V} {ds : List D} {i : Nat} {d : D}, RpAll K G vs ds → ds[i]? = some d → ∃ v, vs[i]? = some v ∧ Rp K G v d
  | _, _, i, d, .nil, h => by simp at h
  | _, _, 0, d, .cons r _, h => by
    have : _ = d := Option.some.inj h
    subst this
    exact ⟨_, rfl, r⟩
  | _, _, i + 1, d, .cons _ a, h => RpAll.get (i := i) a h
theorem RpAll.append {G : Hp} : ∀ {vs ws : List V} {ds es : List D}, RpAll K G vs ds → RpAll K G ws es → RpAll K G (vs ++ ws) (ds ++ es)
  | _, _, _, _, .nil, b => b
  | _, _, _, _, .cons r a, b => .cons r (RpAll.append a b)
theorem RpAll.drop {G : Hp} : ∀ {vs : List V} {ds : List D} (n : Nat), RpAll K G vs ds → RpAll K G (vs.drop n) (ds.drop n)
  | _, _, 0, a => a
  | _, _, n + 1, .nil => by simpa using RpAll.nil
  | _, _, n + 1, .cons _ a => RpAll.drop n a
theorem RpAll.take {G : Hp} : ∀ {vs : List V} {ds : List D} (n : Nat), RpAll K G vs ds → RpAll K G (vs.take n) (ds.take n)
  | _, _, 0, a => by simpa using RpAll.nil
  | _, _, n + 1, .nil => by simpa using RpAll.nil
  | _, _, n + 1, .cons r a => .cons r (RpAll.take n a)
theorem RpAll.reverse {G : Hp} : ∀ {vs : List V} {ds : List D}, RpAll K G vs ds → RpAll K G vs.reverse ds.reverse
  | _, _, .nil => .nil
  | _, _, .cons r a => by
    rw [List.reverse_cons, List.reverse_cons]
    exact (RpAll.reverse a).append (.cons r .nil)
theorem RpAll.set {G : Hp} : ∀ {vs : List V} {ds : List D} {i : Nat} {v : V} {d : D}, RpAll K G vs ds → Rp K G v d → RpAll K G (vs.set i v) (ds.set i d)
  | _, _, _, _, _, .nil, _ => .nil
  | _, _, 0, _, _, .cons _ a, r => .cons r a
  | _, _, i + 1, _, _, .cons q a, r => .cons q (RpAll.set a r)
theorem RpAll.rep {G : Hp} {v : V} {d : D} (r : Rp K G v d) : ∀ n : Nat, RpAll K G (List.replicate n v) (List.replicate n d)
  | 0 => .nil
  | n + 1 => .cons r (RpAll.rep r n)
theorem Rp.int_inv {G : Hp} {v : V} {i : Int} (h : Rp K G v (.int i)) : v = .int i := by cases h; rfl
theorem Rp.bl_inv {G : Hp} {v : V} {b : Bool} (h : Rp K G v (.bl b)) : v = .bl b := by cases h; rfl
theorem Rp.non_inv {G : Hp} {v : V} (h : Rp K G v .non) : v = .non := by cases h; rfl
theorem Rp.seq {G : Hp} {v : V} {ds : List D} (h : Rp K G v (.lst ds)) : ∃ a vs, v = .ref a ∧ G a = some (.lst vs) ∧ RpAll K G vs ds := by
  cases h with
  | lst h a => exact ⟨_, _, rfl, h, a⟩
theorem Rp.tupl {G : Hp} {v : V} {ds : List D} (h : Rp K G v (.tup ds)) : ∃ a vs, v = .ref a ∧ G a = some (.tup vs) ∧ RpAll K G vs ds := by
  cases h with
  | tup h a => exact ⟨_, _, rfl, h, a⟩
/-- a list, one's own or handed in -/
inductive Ls : D → List D → Prop
  | lst {ds : List D} : Ls (.lst ds) ds
  | inp {ds : List D} : Ls (.inp ds) ds
theorem Rp.ls {G : Hp} {v : V} {d : D} {ds : List D} (l : Ls d ds) (h : Rp K G v d) : ∃ a vs, v = .ref a ∧ SqL K G a vs ∧ RpAll K G vs ds := by
  cases l with
  | lst =>
    obtain ⟨a, vs, e, h, q⟩ := h.seq
    exact ⟨a, vs, e, .inl (.inl h), q⟩
  | inp => cases h with
    | inp h a => exact ⟨_, _, rfl, h, a⟩
def dI (ns : List Int) : List D := ns.map D.int
def dB (ns : List Bool) : List D := ns.map D.bl
theorem RpAll.dI_inv {G : Hp} : ∀ {ns : List Int} {vs : List V}, RpAll K G vs (dI ns) → vs = ns.map V.int
  | [], _, .nil => rfl
  | n :: ns, _, .cons r a => by rw [r.int_inv, RpAll.dI_inv (ns := ns) a]; rfl
theorem RpAll.dB_inv {G : Hp} : ∀ {ns : List Bool} {vs : List V}, RpAll K G vs (dB ns) → vs = ns.map V.bl
  | [], _, .nil => rfl
  | n :: ns, _, .cons r a => by rw [r.bl_inv, RpAll.dB_inv (ns := ns) a]; rfl
theorem RpAll.dI {G : Hp} : ∀ ns : List Int, RpAll K G (ns.map V.int) (dI ns)
  | [] => .nil
  | n :: ns => .cons (.int n) (RpAll.dI ns)
/-! ### heaps: G, what is data; H, all that is tracked -/
theorem fresh_of {G H : Hp} {p : Addr} (e : Same G H) (h : H p = none) : G p = none := e.free h
theorem same_upd {H : Hp} {p : Addr} {o : HO} (h : H p = none) : Same H (upd H p o) := fun b x e => by
  rw [upd_ne (ne_of_none e h)]
  exact e
structure Step (G H G' H' : Hp) : Prop where
  g : Same G G'
  h : Same H H'
  s : Same G' H'
  k : ∀ a, H a ≠ none → G a = none → G' a = none
theorem Step.refl {G H : Hp} (s : Same G H) : Step G H G H := ⟨Same.refl G, Same.refl H, s, fun _ _ h => h⟩
theorem Step.trans {G H G1 H1 G2 H2 : Hp} (a : Step G H G1 H1) (b : Step G1 H1 G2 H2) : Step G H G2 H2 :=
  ⟨a.g.trans b.g, a.h.trans b.h, b.s, fun x h1 h2 => b.k x (fun z => h1 (a.h.free z)) (a.k x h1 h2)⟩
/-- a new object that is data at once -/
theorem Step.data {G H : Hp} {p : Addr} {o : HO} (s : Same G H) (hp : H p = none) : Step G H (upd G p o) (upd H p o) := by
  refine ⟨same_upd (fresh_of s hp), same_upd hp, fun b x e => ?_, fun a h1 h2 => ?_⟩
  · by_cases hb : b = p
    · subst hb; rw [upd_same] at e ⊢; exact e
    · rw [upd_ne hb] at e ⊢; exact s b x e
  · rw [upd_ne (fun z => h1 (by rw [z]; exact hp))]; exact h2
/-- a new object that may still be changed -/
theorem Step.fresh {G H : Hp} {p : Addr} {o : HO} (s : Same G H) (hp : H p = none) : Step G H G (upd H p o) :=
  ⟨Same.refl G, same_upd hp, s.trans (same_upd hp), fun _ _ h => h⟩
/-! ### slots -/
inductive AS where
  | no
  | dat (d : D)
  | mu (ds : List D)
structure Env (K : PySem.W.Frag) (G0 H0 G H : Hp) (σ : L2.St) (as : List AS) : Prop where
  st : Step G0 H0 G H
  len : as.length = σ.length
  dat : ∀ (i : Nat) (d : D), as[i]? = some (AS.dat d) → ∃ v, σ[i]? = some (some v) ∧ Rp K G v d
  mu : ∀ (i : Nat) (ds : List D), as[i]? = some (AS.mu ds) → ∃ p vs, σ[i]? = some (some (V.ref p)) ∧ H0 p = none ∧ G p = none ∧ H p = some (.lst vs) ∧ RpAll K G vs ds
  ap : ∀ (i j : Nat) (ds es : List D) (p : Addr), i ≠ j → as[i]? = some (AS.mu ds) → as[j]? = some (AS.mu es) → σ[i]? = some (some (V.ref p)) → σ[j]? = some (some (V.ref p)) → False
theorem Env.step {G0 H0 G H G' H' : Hp} {σ : L2.St} {as : List AS} (E : Env K G0 H0 G H σ as) (s : Step G H G' H') : Env K G0 H0 G' H' σ as := by
  refine ⟨E.st.trans s, E.len, fun i d h => ?_, fun i ds h => ?_, E.ap⟩
  · obtain ⟨v, e, r⟩ := E.dat i d h
    exact ⟨v, e, r.mono s.g⟩
  · obtain ⟨p, vs, e, h0, g, hh, r⟩ := E.mu i ds h
    exact ⟨p, vs, e, h0, s.k p (by rw [hh]; simp) g, s.h _ _ hh, r.mono s.g⟩
/-- a slot's new value is data -/
theorem Env.setD {G0 H0 G H : Hp} {σ : L2.St} {as : List AS} {i : Nat} {v : V} {d : D} (E : Env K G0 H0 G H σ as) (r : Rp K G v d) : Env K G0 H0 G H (σ.set i (some v)) (as.set i (.dat d)) := by
  refine ⟨E.st, by rw [List.length_set, List.length_set, E.len], fun j e h => ?_, fun j ds h => ?_, fun j l ds es p hjl h1 h2 h3 h4 => ?_⟩
  · by_cases hj : i = j
    · subst hj
      have hlt : i < as.length := by
        have := (List.getElem?_eq_some_iff.mp h).1
        rwa [List.length_set] at this
      rw [List.getElem?_set_self hlt] at h
      cases h
      exact ⟨v, List.getElem?_set_self (by rw [← E.len]; exact hlt), r⟩
    · rw [List.getElem?_set_ne hj] at h ⊢
      exact E.dat j e h
  · by_cases hj : i = j
    · subst hj
      have hlt : i < as.length := by
        have := (List.getElem?_eq_some_iff.mp h).1
        rwa [List.length_set] at this
      rw [List.getElem?_set_self hlt] at h
      cases h
    · rw [List.getElem?_set_ne hj] at h ⊢
      exact E.mu j ds h
  · have hj : i ≠ j := fun z => by
      subst z
      have hlt : i < as.length := by
        have := (List.getElem?_eq_some_iff.mp h1).1
        rwa [List.length_set] at this
      rw [List.getElem?_set_self hlt] at h1
      cases h1
    have hl : i ≠ l := fun z => by
      subst z
      have hlt : i < as.length := by
        have := (List.getElem?_eq_some_iff.mp h2).1
        rwa [List.length_set] at this
      rw [List.getElem?_set_self hlt] at h2
      cases h2
    rw [List.getElem?_set_ne hj] at h1 h3
    rw [List.getElem?_set_ne hl] at h2 h4
    exact E.ap j l ds es p hjl h1 h2 h3 h4
/-- a slot's new value is a new list, still to be changed -/
theorem Env.setM {G0 H0 G H G' H' : Hp} {σ : L2.St} {as : List AS} {i : Nat} {p : Addr} {vs : List V} {ds : List D} (E : Env K G0 H0 G H σ as) (s : Step G H G' H') (hp : H p = none) (hg : G' p = none) (hh : H' p = some (.lst vs)) (r : RpAll K G' vs ds) :
    Env K G0 H0 G' H' (σ.set i (some (V.ref p))) (as.set i (.mu ds)) := by
  have E' := E.step s
  have other : ∀ j es, as[j]? = some (AS.mu es) → σ[j]? ≠ some (some (V.ref p)) := fun j es h z => by
    obtain ⟨q, ws, e, _, _, hq, _⟩ := E.mu j es h
    rw [z] at e
    cases e
    rw [hp] at hq
    cases hq
  have at_i : ∀ {x : AS}, (as.set i (.mu ds))[i]? = some x → i < as.length ∧ x = .mu ds := fun {x} h => by
    have hlt : i < as.length := by
      have := (List.getElem?_eq_some_iff.mp h).1
      rwa [List.length_set] at this
    rw [List.getElem?_set_self hlt] at h
    exact ⟨hlt, (Option.some.inj h).symm⟩
  refine ⟨E'.st, by rw [List.length_set, List.length_set, E.len], fun j e h => ?_, fun j es h => ?_, fun j l es fs q hjl h1 h2 h3 h4 => ?_⟩
  · by_cases hj : i = j
    · subst hj; cases (at_i h).2
    · rw [List.getElem?_set_ne hj] at h ⊢
      exact E'.dat j e h
  · by_cases hj : i = j
    · subst hj
      obtain ⟨hlt, e⟩ := at_i h
      cases e
      exact ⟨p, vs, List.getElem?_set_self (by rw [← E.len]; exact hlt), E.st.h.free hp, hg, hh, r⟩
    · rw [List.getElem?_set_ne hj] at h ⊢
      exact E'.mu j es h
  · by_cases hj : i = j
    · subst hj
      rw [List.getElem?_set_ne hjl] at h2 h4
      obtain ⟨hlt, _⟩ := at_i h1
      rw [List.getElem?_set_self (by rw [← E.len]; exact hlt)] at h3
      cases h3
      exact other l fs h2 h4
    · by_cases hl : i = l
      · subst hl
        rw [List.getElem?_set_ne hj] at h1 h3
        obtain ⟨hlt, _⟩ := at_i h2
        rw [List.getElem?_set_self (by rw [← E.len]; exact hlt)] at h4
        cases h4
        exact other j es h1 h3
      · rw [List.getElem?_set_ne hj] at h1 h3
        rw [List.getElem?_set_ne hl] at h2 h4
        exact E.ap j l es fs q hjl h1 h2 h3 h4
/-- the list in a slot is changed -/
theorem Env.chg {G0 H0 G H : Hp} {σ : L2.St} {as : List AS} {i : Nat} {p : Addr} {vs : List V} {ds es : List D} (E : Env K G0 H0 G H σ as) (hi : as[i]? = some (AS.mu ds)) (hs : σ[i]? = some (some (V.ref p))) (r : RpAll K G vs es) :
    Env K G0 H0 G (upd H p (.lst vs)) σ (as.set i (.mu es)) := by
  obtain ⟨q, ws, e, h0, hg, hh, _⟩ := E.mu i ds hi
  rw [hs] at e
  cases e
  have hlt : i < as.length := (List.getElem?_eq_some_iff.mp hi).1
  refine ⟨⟨E.st.g, fun b o e => ?_, fun b o e => ?_, E.st.k⟩, by rw [List.length_set, E.len], fun j d h => ?_, fun j fs h => ?_, fun j l fs gs q hjl h1 h2 h3 h4 => ?_⟩
  · rw [upd_ne (ne_of_none e h0)]; exact E.st.h b o e
  · rw [upd_ne (ne_of_none e hg)]; exact E.st.s b o e
  · by_cases hj : i = j
    · subst hj; rw [List.getElem?_set_self hlt] at h; cases h
    · rw [List.getElem?_set_ne hj] at h; exact E.dat j d h
  · by_cases hj : i = j
    · subst hj
      rw [List.getElem?_set_self hlt] at h
      cases h
      exact ⟨p, vs, hs, h0, hg, upd_same, r⟩
    · rw [List.getElem?_set_ne hj] at h
      obtain ⟨q, us, e, a, b, c, f⟩ := E.mu j fs h
      refine ⟨q, us, e, a, b, ?_, f⟩
      rw [upd_ne (fun z => E.ap i j ds fs p hj hi h hs (by rw [← z]; exact e))]
      exact c
  · have m : ∀ {j : Nat} {fs : List D}, (as.set i (.mu es))[j]? = some (AS.mu fs) → ∃ fs', as[j]? = some (AS.mu fs') := fun {j fs} h => by
      by_cases hj : i = j
      · subst hj; exact ⟨ds, hi⟩
      · rw [List.getElem?_set_ne hj] at h; exact ⟨fs, h⟩
    obtain ⟨fs', h1'⟩ := m h1
    obtain ⟨gs', h2'⟩ := m h2
    exact E.ap j l fs' gs' q hjl h1' h2' h3 h4
/-- the list in a slot is changed no more: it is data -/
theorem Env.frz {G0 H0 G H : Hp} {σ : L2.St} {as : List AS} {i : Nat} {ds : List D} (E : Env K G0 H0 G H σ as) (hi : as[i]? = some (AS.mu ds)) : ∃ G', Env K G0 H0 G' H σ (as.set i (.dat (.lst ds))) := by
  obtain ⟨p, vs, hs, h0, hg, hh, r⟩ := E.mu i ds hi
  have hlt : i < as.length := (List.getElem?_eq_some_iff.mp hi).1
  have sg : Same G (upd G p (.lst vs)) := same_upd hg
  refine ⟨upd G p (.lst vs), ⟨E.st.g.trans sg, E.st.h, fun b o e => ?_, fun a h1 h2 => ?_⟩, by rw [List.length_set, E.len], fun j d h => ?_, fun j fs h => ?_, fun j l fs gs q hjl h1 h2 h3 h4 => ?_⟩
  · by_cases hb : b = p
    · subst hb; rw [upd_same] at e; rw [hh]; exact e
    · rw [upd_ne hb] at e; exact E.st.s b o e
  · rw [upd_ne (fun z => h1 (by rw [z]; exact h0))]; exact E.st.k a h1 h2
  · by_cases hj : i = j
    · subst hj
      rw [List.getElem?_set_self hlt] at h
      cases h
      exact ⟨.ref p, hs, .lst upd_same (r.mono sg)⟩
    · rw [List.getElem?_set_ne hj] at h
      obtain ⟨v, e, q⟩ := E.dat j d h
      exact ⟨v, e, q.mono sg⟩
  · by_cases hj : i = j
    · subst hj; rw [List.getElem?_set_self hlt] at h; cases h
    · rw [List.getElem?_set_ne hj] at h
      obtain ⟨q, us, e, a, b, c, f⟩ := E.mu j fs h
      refine ⟨q, us, e, a, ?_, c, f.mono sg⟩
      rw [upd_ne (fun z => E.ap i j ds fs p hj hi h hs (by rw [← z]; exact e))]
      exact b
  · have m : ∀ {j : Nat} {fs : List D}, (as.set i (.dat (.lst ds)))[j]? = some (AS.mu fs) → as[j]? = some (AS.mu fs) := fun {j fs} h => by
      by_cases hj : i = j
      · subst hj; rw [List.getElem?_set_self hlt] at h; cases h
      · rw [List.getElem?_set_ne hj] at h; exact h
    exact E.ap j l fs gs q hjl (m h1) (m h2) h3 h4
/-- less is said of the slots -/
def Le (bs as : List AS) : Prop := bs.length = as.length ∧ ∀ (i : Nat) (b : AS), bs[i]? = some b → b = AS.no ∨ as[i]? = some b
theorem Env.less {G0 H0 G H : Hp} {σ : L2.St} {as bs : List AS} (E : Env K G0 H0 G H σ as) (l : Le bs as) : Env K G0 H0 G H σ bs := by
  have up : ∀ {i : Nat} {b : AS}, bs[i]? = some b → b ≠ AS.no → as[i]? = some b := fun {i b} h n => (l.2 i b h).resolve_left n
  exact ⟨E.st, l.1.trans E.len, fun i d h => E.dat i d (up h (by simp)), fun i ds h => E.mu i ds (up h (by simp)), fun i j ds es p hij h1 h2 => E.ap i j ds es p hij (up h1 (by simp)) (up h2 (by simp))⟩
end Fw
set_option Elab.async false
set_option linter.all false
set_option maxRecDepth 100000
namespace Fw
open PySem L2
variable {K : PySem.W.Frag}
/-! ### what an expression comes to, in slots as told -/
/-- data | what can be read as such just now | a new list, still to be changed | a test | arguments -/
def EvE (K : PySem.W.Frag) (te : TE) (as : List AS) (d : D) : Prop := ∀ G0 H0 G H σ, Env K G0 H0 G H σ as → ∀ Q : VK, (∀ v G' H', Step G H G' H' → Rp K G' v d → Q v H') → te σ H Q
def EvR (K : PySem.W.Frag) (te : TE) (as : List AS) (d : D) : Prop := ∀ G0 H0 G H σ, Env K G0 H0 G H σ as → ∀ Q : VK, (∀ v G' H', Step G H G' H' → Rp K H' v d → Q v H') → te σ H Q
def EvN (K : PySem.W.Frag) (te : TE) (as : List AS) (ds : List D) : Prop := ∀ G0 H0 G H σ, Env K G0 H0 G H σ as → ∀ Q : VK, (∀ p vs G' H', Step G H G' H' → H p = none → G' p = none → H' p = some (.lst vs) → RpAll K G' vs ds → Q (.ref p) H') → te σ H Q
def EvT (K : PySem.W.Frag) (tt : TT) (as : List AS) (b : Bool) : Prop := ∀ G0 H0 G H σ, Env K G0 H0 G H σ as → ∀ Q : Bool → Hp → Prop, (∀ G' H', Step G H G' H' → Q b H') → tt σ H Q
def EvA (K : PySem.W.Frag) (ta : TA) (as : List AS) (ds : List D) : Prop := ∀ G0 H0 G H σ, Env K G0 H0 G H σ as → ∀ Q : List V → Hp → Prop, (∀ vs G' H', Step G H G' H' → RpAll K G' vs ds → Q vs H') → ta σ H Q
def EvO (K : PySem.W.Frag) (to : TO) (as : List AS) (o : Option Int) : Prop := ∀ G0 H0 G H σ, Env K G0 H0 G H σ as → ∀ Q : Option Int → Hp → Prop, (∀ G' H', Step G H G' H' → Q o H') → to σ H Q
section
variable {as : List AS} {ta tb te : TE} {t u : TT} {d e : D} {i j : Int} {b c : Bool}
theorem Env.refl {G0 H0 G H : Hp} {σ : L2.St} (E : Env K G0 H0 G H σ as) : Step G H G H := Step.refl E.st.s
theorem EvE.r (h : EvE K te as d) : EvR K te as d := fun G0 H0 G H σ E Q q => h G0 H0 G H σ E Q fun v G' H' s r => q v G' H' s (r.mono s.s)
/-- a new list as data -/
theorem EvN.ev {ds : List D} (h : EvN K te as ds) : EvE K te as (.lst ds) := fun G0 H0 G H σ E Q q => h G0 H0 G H σ E Q fun p vs G' H' s hp hg hh r => by
  have sg : Same G' (upd G' p (.lst vs)) := same_upd hg
  refine q _ (upd G' p (.lst vs)) H' ⟨s.g.trans sg, s.h, fun a o e => ?_, fun a h1 h2 => ?_⟩ (.lst upd_same (r.mono sg))
  · by_cases hb : a = p
    · subst hb; rw [upd_same] at e; rw [hh]; exact e
    · rw [upd_ne hb] at e; exact s.s a o e
  · rw [upd_ne (fun z => h1 (by rw [z]; exact hp))]; exact s.k a h1 h2
theorem ev_var {n : Nat} (h : as[n]? = some (AS.dat d)) : EvE K (tVar n) as d := fun _ _ G H _ E Q q => by
  obtain ⟨v, hv, r⟩ := E.dat n d h
  exact ⟨v, hv, q v G H E.refl r⟩
theorem er_mu {n : Nat} {ds : List D} (h : as[n]? = some (AS.mu ds)) : EvR K (tVar n) as (.lst ds) := fun _ _ G H _ E Q q => by
  obtain ⟨p, vs, hv, _, hg, hh, r⟩ := E.mu n ds h
  exact ⟨_, hv, q _ G H E.refl (.lst hh (r.mono E.st.s))⟩
theorem ev_i : EvE K (tC (.int i)) as (.int i) := fun _ _ G H _ E Q q => q _ G H E.refl (.int i)
theorem ev_b : EvE K (tC (.bl b)) as (.bl b) := fun _ _ G H _ E Q q => q _ G H E.refl (.bl b)
theorem ev_non : EvE K (tC .non) as .non := fun _ _ G H _ E Q q => q _ G H E.refl .non
theorem ev_opI {f : Int → Int → Int} (ha : EvR K ta as (.int i)) (hb : EvR K tb as (.int j)) : EvE K (tOp (rI0 fun i j => .int (f i j)) ta tb) as (.int (f i j)) := fun G0 H0 G H σ E Q q =>
  ha G0 H0 G H σ E _ fun v G1 H1 s1 r1 => hb G0 H0 G1 H1 σ (E.step s1) _ fun v2 G2 H2 s2 r2 => ⟨i, j, r1.int_inv, r2.int_inv, q _ G2 H2 (s1.trans s2) (.int _)⟩
theorem ev_opC {C : Int → Int → Prop} {f : Int → Int → Int} (ha : EvR K ta as (.int i)) (hb : EvR K tb as (.int j)) (hc : C i j) : EvE K (tOp (rI C fun i j => .int (f i j)) ta tb) as (.int (f i j)) := fun G0 H0 G H σ E Q q =>
  ha G0 H0 G H σ E _ fun v G1 H1 s1 r1 => hb G0 H0 G1 H1 σ (E.step s1) _ fun v2 G2 H2 s2 r2 => ⟨i, j, r1.int_inv, r2.int_inv, hc, q _ G2 H2 (s1.trans s2) (.int _)⟩
theorem ev_opB {f : Int → Int → Bool} (ha : EvR K ta as (.int i)) (hb : EvR K tb as (.int j)) : EvE K (tOp (rI0 fun i j => .bl (f i j)) ta tb) as (.bl (f i j)) := fun G0 H0 G H σ E Q q =>
  ha G0 H0 G H σ E _ fun v G1 H1 s1 r1 => hb G0 H0 G1 H1 σ (E.step s1) _ fun v2 G2 H2 s2 r2 => ⟨i, j, r1.int_inv, r2.int_inv, q _ G2 H2 (s1.trans s2) (.bl _)⟩
theorem ev_eqI (ha : EvR K ta as (.int i)) (hb : EvR K tb as (.int j)) : EvE K (tOp rEq ta tb) as (.bl (decide (i = j))) := fun G0 H0 G H σ E Q q =>
  ha G0 H0 G H σ E _ fun v G1 H1 s1 r1 => hb G0 H0 G1 H1 σ (E.step s1) _ fun v2 G2 H2 s2 r2 => by
    have e1 := r1.int_inv; have e2 := r2.int_inv; subst e1 e2
    refine ⟨rfl, ?_⟩
    have e : decide (V.int i = V.int j) = decide (i = j) := by
      by_cases h : i = j
      · rw [decide_eq_true h, decide_eq_true (by rw [h])]
      · rw [decide_eq_false h, decide_eq_false (fun z => h (V.int.inj z))]
    rw [e]
    exact q _ G2 H2 (s1.trans s2) (.bl _)
theorem ev_neI (ha : EvR K ta as (.int i)) (hb : EvR K tb as (.int j)) : EvE K (tOp rNe ta tb) as (.bl (!decide (i = j))) := fun G0 H0 G H σ E Q q =>
  ha G0 H0 G H σ E _ fun v G1 H1 s1 r1 => hb G0 H0 G1 H1 σ (E.step s1) _ fun v2 G2 H2 s2 r2 => by
    have e1 := r1.int_inv; have e2 := r2.int_inv; subst e1 e2
    refine ⟨rfl, ?_⟩
    have e : decide (V.int i = V.int j) = decide (i = j) := by
      by_cases h : i = j
      · rw [decide_eq_true h, decide_eq_true (by rw [h])]
      · rw [decide_eq_false h, decide_eq_false (fun z => h (V.int.inj z))]
    rw [e]
    exact q _ G2 H2 (s1.trans s2) (.bl _)
theorem ev_neg (ha : EvR K ta as (.int i)) : EvE K (tUn (rU fun i => .int (-i)) ta) as (.int (-i)) := fun G0 H0 G H σ E Q q =>
  ha G0 H0 G H σ E _ fun v G1 H1 s1 r1 => ⟨i, r1.int_inv, q _ G1 H1 s1 (.int _)⟩
/-- is None -/
def isNon : D → Bool
  | .non => true
  | _ => false
theorem Rp.isNon {G : Hp} {v : V} (h : Rp K G v d) : decide (v = .non) = Fw.isNon d := by
  cases h <;> simp [Fw.isNon]
theorem ev_isN (ha : EvR K ta as d) : EvE K (tIsN ta) as (.bl (isNon d)) := fun G0 H0 G H σ E Q q =>
  ha G0 H0 G H σ E _ fun v G1 H1 s1 r1 => by
    rw [r1.isNon]
    exact q _ G1 H1 s1 (.bl _)
/-! ### tests -/
theorem et_test (h : EvR K te as (.bl b)) : EvT K (tTest te) as b := fun G0 H0 G H σ E Q q => h G0 H0 G H σ E _ fun v G1 H1 s1 r1 => ⟨b, r1.bl_inv, q G1 H1 s1⟩
theorem et_B (h : EvR K te as (.bl b)) : EvT K (tB te) as b := fun G0 H0 G H σ E Q q => h G0 H0 G H σ E _ fun v G1 H1 s1 r1 => ⟨b, r1.bl_inv, q G1 H1 s1⟩
theorem et_not (h : EvT K t as b) : EvT K (tNot t) as (!b) := fun G0 H0 G H σ E Q q => h G0 H0 G H σ E _ fun G1 H1 s1 => q G1 H1 s1
theorem et_and (h1 : EvT K t as b) (h2 : b = true → EvT K u as c) : EvT K (tAnd t u) as (b && c) := fun G0 H0 G H σ E Q q => h1 G0 H0 G H σ E _ fun G1 H1 s1 => by
  cases b with
  | true =>
    show u σ H1 Q
    exact h2 rfl G0 H0 G1 H1 σ (E.step s1) Q fun G2 H2 s2 => q G2 H2 (s1.trans s2)
  | false =>
    show Q false H1
    exact q G1 H1 s1
theorem et_or (h1 : EvT K t as b) (h2 : b = false → EvT K u as c) : EvT K (tOr t u) as (b || c) := fun G0 H0 G H σ E Q q => h1 G0 H0 G H σ E _ fun G1 H1 s1 => by
  cases b with
  | true =>
    show Q true H1
    exact q G1 H1 s1
  | false =>
    show u σ H1 Q
    exact h2 rfl G0 H0 G1 H1 σ (E.step s1) Q fun G2 H2 s2 => q G2 H2 (s1.trans s2)
theorem et_yes : EvT K tYes as true := fun _ _ G H _ E Q q => q G H E.refl
theorem et_is (h : EvT K t as b) (e : b = c) : EvT K t as c := by rw [← e]; exact h
theorem ev_is (h : EvE K te as d) (x : d = e) : EvE K te as e := by rw [← x]; exact h
theorem er_is (h : EvR K te as d) (x : d = e) : EvR K te as e := by rw [← x]; exact h
theorem ev_andV (h1 : EvR K ta as (.bl b)) (h2 : b = true → EvE K tb as (.bl c)) : EvE K (tAndV ta tb) as (.bl (b && c)) := fun G0 H0 G H σ E Q q => h1 G0 H0 G H σ E _ fun v G1 H1 s1 r1 => ⟨b, r1.bl_inv, by
  cases b with
  | true =>
    show tb σ H1 Q
    exact h2 rfl G0 H0 G1 H1 σ (E.step s1) Q fun v2 G2 H2 s2 r2 => q v2 G2 H2 (s1.trans s2) r2
  | false =>
    show Q (.bl false) H1
    exact q _ G1 H1 s1 (.bl _)⟩
theorem ev_orV (h1 : EvR K ta as (.bl b)) (h2 : b = false → EvE K tb as (.bl c)) : EvE K (tOrV ta tb) as (.bl (b || c)) := fun G0 H0 G H σ E Q q => h1 G0 H0 G H σ E _ fun v G1 H1 s1 r1 => ⟨b, r1.bl_inv, by
  cases b with
  | true =>
    show Q (.bl true) H1
    exact q _ G1 H1 s1 (.bl _)
  | false =>
    show tb σ H1 Q
    exact h2 rfl G0 H0 G1 H1 σ (E.step s1) Q fun v2 G2 H2 s2 r2 => q v2 G2 H2 (s1.trans s2) r2⟩
theorem ev_notV (h1 : EvR K ta as (.bl b)) : EvE K (tNotV ta) as (.bl (!b)) := fun G0 H0 G H σ E Q q => h1 G0 H0 G H σ E _ fun v G1 H1 s1 r1 => ⟨b, r1.bl_inv, q _ G1 H1 s1 (.bl _)⟩
theorem ev_if (h : EvT K t as b) (h1 : b = true → EvE K ta as d) (h2 : b = false → EvE K tb as d) : EvE K (tIf t ta tb) as d := fun G0 H0 G H σ E Q q => h G0 H0 G H σ E _ fun G1 H1 s1 => by
  cases b with
  | true =>
    show ta σ H1 Q
    exact h1 rfl G0 H0 G1 H1 σ (E.step s1) Q fun v2 G2 H2 s2 r2 => q v2 G2 H2 (s1.trans s2) r2
  | false =>
    show tb σ H1 Q
    exact h2 rfl G0 H0 G1 H1 σ (E.step s1) Q fun v2 G2 H2 s2 r2 => q v2 G2 H2 (s1.trans s2) r2
/-! ### arguments, displays -/
theorem ea_nil : EvA K tNil as [] := fun _ _ G H _ E Q q => q [] G H E.refl .nil
theorem ea_cons {tr : TA} {ds : List D} (h : EvE K te as d) (hr : EvA K tr as ds) : EvA K (tCons te tr) as (d :: ds) := fun G0 H0 G H σ E Q q =>
  h G0 H0 G H σ E _ fun v G1 H1 s1 r1 => hr G0 H0 G1 H1 σ (E.step s1) _ fun vs G2 H2 s2 r2 => q _ G2 H2 (s1.trans s2) (.cons (r1.mono s2.g) r2)
theorem sz_le {n : Nat} (h : n ≤ 1000000) : n ≤ sizeLine := Nat.le_trans h (by decide)
theorem sz_lt {n : Nat} (h : n < 1000000) : n < sizeLine := Nat.lt_of_lt_of_le h (by decide)
theorem n_lst {ta : TA} {ds : List D} (h : EvA K ta as ds) (hl : ds.length ≤ 1000000) : EvN K (tLst ta) as ds := fun G0 H0 G H σ E Q q => h G0 H0 G H σ E _ fun vs G1 H1 s1 r1 =>
  ⟨sz_le (by rw [r1.len]; exact hl), fun p hp => q p vs G1 _ (s1.trans (Step.fresh s1.s hp)) (s1.h.free hp) (fresh_of s1.s hp) upd_same r1⟩
theorem ev_tup {ta : TA} {ds : List D} (h : EvA K ta as ds) (hl : ds.length ≤ 1000000) : EvE K (tTup ta) as (.tup ds) := fun G0 H0 G H σ E Q q => h G0 H0 G H σ E _ fun vs G1 H1 s1 r1 =>
  ⟨sz_le (by rw [r1.len]; exact hl), fun p hp => q _ (upd G1 p (.tup vs)) _ (s1.trans (Step.data s1.s hp)) (.tup upd_same (r1.mono (same_upd (fresh_of s1.s hp))))⟩
/-! ### lists -/
theorem ev_len {r : List V → Hp → VK → Prop} {ds : List D} (hr : r = fun xs H Q => ∃ p ys, xs = [.ref p] ∧ (SqL K H p ys ∨ SqT K H p ys) ∧ Q (.int ys.length) H) (h : EvR K te as d) (l : Ls d ds) : EvE K (tCB r (tCons te tNil)) as (.int ds.length) := fun G0 H0 G H σ E Q q => h G0 H0 G H σ E _ fun v G1 H1 s1 r1 => by
  obtain ⟨a, vs, rfl, hq, ra⟩ := r1.ls l
  subst hr
  refine ⟨a, vs, rfl, .inl hq, ?_⟩
  rw [ra.len]
  exact q _ G1 H1 s1 (.int _)
theorem atI_some {α : Type} {xs : List α} {k : Nat} {x : α} (h : xs[k]? = some x) : atI xs (k : Int) = some x := atI_nat h
/-- xs[k] -/
theorem ev_ix {ds : List D} {k : Nat} {x : D} (ha : EvE K ta as d) (l : Ls d ds) (hb : EvR K tb as (.int (k : Int))) (hx : ds[k]? = some x) : EvE K (tOp (rIxL K) ta tb) as x := fun G0 H0 G H σ E Q q =>
  ha G0 H0 G H σ E _ fun v G1 H1 s1 r1 => hb G0 H0 G1 H1 σ (E.step s1) _ fun v2 G2 H2 s2 r2 => by
    obtain ⟨a, vs, rfl, hq, ra⟩ := (r1.mono s2.g).ls l
    obtain ⟨y, hy, ry⟩ := ra.get hx
    exact ⟨a, vs, (k : Int), y, rfl, r2.int_inv, s2.s.seq hq, atI_some hy, q _ G2 H2 (s1.trans s2) ry⟩
/-- of a list that may still be changed -/
theorem ev_ixM {ds : List D} {n k : Nat} {x : D} (hn : as[n]? = some (AS.mu ds)) (hb : EvR K tb as (.int (k : Int))) (hx : ds[k]? = some x) : EvE K (tOp (rIxL K) (tVar n) tb) as x := fun G0 H0 G H σ E Q q => by
  obtain ⟨p, vs, hv, _, hg, hh, r⟩ := E.mu n ds hn
  refine ⟨_, hv, hb G0 H0 G H σ E _ fun v2 G2 H2 s2 r2 => ?_⟩
  obtain ⟨y, hy, ry⟩ := r.get hx
  exact ⟨p, vs, (k : Int), y, rfl, r2.int_inv, .inl (.inl (s2.h _ _ hh)), atI_some hy, q _ G2 H2 s2 (ry.mono s2.g)⟩
/-- xs[-1] -/
theorem ev_ixLast {ds : List D} {x : D} (ha : EvE K ta as d) (l : Ls d ds) (hb : EvR K tb as (.int (-1))) (hx : ds.getLast? = some x) : EvE K (tOp (rIxL K) ta tb) as x := fun G0 H0 G H σ E Q q =>
  ha G0 H0 G H σ E _ fun v G1 H1 s1 r1 => hb G0 H0 G1 H1 σ (E.step s1) _ fun v2 G2 H2 s2 r2 => by
    obtain ⟨a, vs, rfl, hq, ra⟩ := (r1.mono s2.g).ls l
    rw [List.getLast?_eq_getElem?] at hx
    obtain ⟨y, hy, ry⟩ := ra.get hx
    have hpos : 0 < vs.length := by
      have := (List.getElem?_eq_some_iff.mp hy).1
      omega
    have e : atI vs (-1) = some y := by
      unfold atI ixN
      rw [if_neg (by omega), if_pos (by omega)]
      show vs[(-1 + (vs.length : Int)).toNat]? = some y
      rw [← ra.len] at hy
      rw [← hy]
      congr 1
      omega
    exact ⟨a, vs, -1, y, rfl, r2.int_inv, s2.s.seq hq, e, q _ G2 H2 (s1.trans s2) ry⟩
/-- t[k] -/
theorem ev_ixT {ds : List D} {k : Nat} {x : D} (ha : EvE K ta as (.tup ds)) (hb : EvR K tb as (.int (k : Int))) (hx : ds[k]? = some x) : EvE K (tOp (rIxT K) ta tb) as x := fun G0 H0 G H σ E Q q =>
  ha G0 H0 G H σ E _ fun v G1 H1 s1 r1 => hb G0 H0 G1 H1 σ (E.step s1) _ fun v2 G2 H2 s2 r2 => by
    obtain ⟨a, vs, rfl, hq, ra⟩ := (r1.mono s2.g).tupl
    obtain ⟨y, hy, ry⟩ := ra.get hx
    exact ⟨a, vs, (k : Int), y, rfl, r2.int_inv, .inl (.inl (s2.s _ _ hq)), atI_some hy, q _ G2 H2 (s1.trans s2) ry⟩
theorem eo_none : EvO K tNoPart as none := fun _ _ G H _ E Q q => q G H E.refl
theorem eo_some (h : EvR K te as (.int i)) : EvO K (tPart te) as (some i) := fun G0 H0 G H σ E Q q => h G0 H0 G H σ E _ fun v G1 H1 s1 r1 => ⟨i, r1.int_inv, q G1 H1 s1⟩
def cut {α : Type} (xs : List α) (lo hi : Option Int) : List α := (xs.drop (HT.sIx xs.length 0 lo)).take (HT.sIx xs.length xs.length hi - HT.sIx xs.length 0 lo)
theorem RpAll.cut {G : Hp} {vs : List V} {ds : List D} {lo hi : Option Int} (h : RpAll K G vs ds) : RpAll K G (cutV vs lo hi) (Fw.cut ds lo hi) := by
  unfold cutV Fw.cut
  rw [h.len]
  exact (h.drop _).take _
theorem n_sl {tl th : TO} {ds : List D} {lo hi : Option Int} (h : EvE K te as d) (l : Ls d ds) (h1 : EvO K tl as lo) (h2 : EvO K th as hi) : EvN K (tSl (rSlL K) te tl th) as (cut ds lo hi) := fun G0 H0 G H σ E Q q =>
  h G0 H0 G H σ E _ fun v G1 H1 s1 r1 => h1 G0 H0 G1 H1 σ (E.step s1) _ fun G2 H2 s2 => h2 G0 H0 G2 H2 σ ((E.step s1).step s2) _ fun G3 H3 s3 => by
    have s := (s1.trans s2).trans s3
    obtain ⟨a, vs, rfl, hq, ra⟩ := ((r1.mono s2.g).mono s3.g).ls l
    exact ⟨a, vs, rfl, s3.s.seq hq, fun p hp => q p _ G3 _ (s.trans (Step.fresh s.s hp)) (s.h.free hp) (fresh_of s.s hp) upd_same ra.cut⟩
theorem cut_from {α : Type} (xs : List α) (k : Nat) : cut xs (some (k : Int)) none = xs.drop k := by
  unfold cut
  rw [HT.sIx_nat, HT.sIx_none]
  by_cases h : k ≤ xs.length
  · rw [Nat.min_eq_left h]
    exact List.take_of_length_le (by rw [List.length_drop]; omega)
  · rw [Nat.min_eq_right (by omega), List.drop_of_length_le (Nat.le_refl _), List.drop_of_length_le (by omega)]
    simp
theorem cut_to {α : Type} (xs : List α) (k : Nat) : cut xs none (some (k : Int)) = xs.take k := by
  unfold cut
  rw [HT.sIx_nat, HT.sIx_none]
  show (xs.drop 0).take _ = _
  rw [List.drop_zero, Nat.sub_zero]
  by_cases h : k ≤ xs.length
  · rw [Nat.min_eq_left h]
  · rw [Nat.min_eq_right (by omega), List.take_of_length_le (Nat.le_refl _), List.take_of_length_le (by omega)]
theorem cut_mid {α : Type} (xs : List α) (a b : Nat) (h : b ≤ xs.length) (hab : a ≤ b) : cut xs (some (a : Int)) (some (b : Int)) = (xs.drop a).take (b - a) := by
  unfold cut
  rw [HT.sIx_nat, HT.sIx_nat, Nat.min_eq_left h, Nat.min_eq_left (by omega)]
theorem n_cat {ds es : List D} (ha : EvE K ta as (.lst ds)) (hb : EvE K tb as (.lst es)) (hl : ds.length + es.length ≤ 1000000) : EvN K (tOp rCat ta tb) as (ds ++ es) := fun G0 H0 G H σ E Q q =>
  ha G0 H0 G H σ E _ fun v G1 H1 s1 r1 => hb G0 H0 G1 H1 σ (E.step s1) _ fun v2 G2 H2 s2 r2 => by
    have s := s1.trans s2
    obtain ⟨a, vs, rfl, hq, ra⟩ := (r1.mono s2.g).seq
    obtain ⟨b, ws, rfl, hq2, rb⟩ := r2.seq
    exact ⟨a, b, vs, ws, rfl, rfl, s2.s _ _ hq, s2.s _ _ hq2, sz_le (by rw [ra.len, rb.len]; exact hl), fun p hp => q p _ G2 _ (s.trans (Step.fresh s.s hp)) (s.h.free hp) (fresh_of s.s hp) upd_same (ra.append rb)⟩
end
end Fw
set_option Elab.async false
set_option linter.all false
set_option maxRecDepth 100000
namespace Fw
open PySem L2
variable {K : PySem.W.Frag}
section
variable {as : List AS} {ta tb te : TE} {t u : TT} {d e : D} {i j : Int} {b c : Bool}
theorem rep_flat {α : Type} : ∀ (n : Nat) (x : α), (List.replicate n [x]).flatten = List.replicate n x
  | 0, _ => rfl
  | n + 1, x => by rw [List.replicate_succ, List.flatten_cons, rep_flat n x]; rfl
/-- [x] * k -/
theorem n_rep {x : D} {k : Nat} (ha : EvE K ta as (.lst [x])) (hb : EvR K tb as (.int (k : Int))) (hk : k ≤ 1000000) : EvN K (tOp rRep ta tb) as (List.replicate k x) := fun G0 H0 G H σ E Q q =>
  ha G0 H0 G H σ E _ fun v G1 H1 s1 r1 => hb G0 H0 G1 H1 σ (E.step s1) _ fun v2 G2 H2 s2 r2 => by
    have s := s1.trans s2
    obtain ⟨a, vs, rfl, hq, ra⟩ := (r1.mono s2.g).seq
    cases ra with
    | cons r0 rn =>
      cases rn
      refine ⟨a, (k : Int), _, rfl, r2.int_inv, s2.s _ _ hq, by omega, by omega, sz_le (by show 1 * (k : Int).toNat ≤ _; omega), fun p hp => ?_⟩
      rw [Int.toNat_natCast, rep_flat]
      exact q p _ G2 _ (s.trans (Step.fresh s.s hp)) (s.h.free hp) (fresh_of s.s hp) upd_same (RpAll.rep r0 k)
/-! ### equal -/
mutual
def toPy : D → PyData
  | .non => .none
  | .bl b => .bool b
  | .int i => .int i
  | .lst xs => .list (toPys xs)
  | .tup xs => .tuple (toPys xs)
  | .inp xs => .list (toPys xs)
def toPys : List D → List PyData
  | [] => []
  | d :: ds => toPy d :: toPys ds
end
mutual
theorem Rp.dp {G : Hp} : ∀ {v : V} {d : D}, Rp K G v d → Dp K G v (toPy d)
  | _, _, .non => .non
  | _, _, .bl b => .bl b
  | _, _, .int i => .int i
  | _, _, .lst h a => .lst (.inl (.inl h)) (RpAll.dp a)
  | _, _, .tup h a => .tup (.inl (.inl h)) (RpAll.dp a)
  | _, _, .inp h a => .lst h (RpAll.dp a)
theorem RpAll.dp {G : Hp} : ∀ {vs : List V} {ds : List D}, RpAll K G vs ds → DpAll K G vs (toPys ds)
  | _, _, .nil => .nil
  | _, _, .cons h a => .cons (Rp.dp h) (RpAll.dp a)
end
def Sh (d : D) : Prop := SeqAt.shaped (toPy d) = true
def eqD (d e : D) : Bool := PyData.eqv (toPy d) (toPy e)
theorem ev_eqD (ha : EvR K ta as d) (hb : EvR K tb as e) (h1 : Sh d) (h2 : Sh e) : EvE K (tOp (rEqD K) ta tb) as (.bl (eqD d e)) := fun G0 H0 G H σ E Q q =>
  ha G0 H0 G H σ E _ fun v G1 H1 s1 r1 => hb G0 H0 G1 H1 σ (E.step s1) _ fun v2 G2 H2 s2 r2 => ⟨_, _, (r1.mono s2.h).dp, r2.dp, h1, h2, q _ G2 H2 (s1.trans s2) (.bl _)⟩
theorem ev_neD (ha : EvR K ta as d) (hb : EvR K tb as e) (h1 : Sh d) (h2 : Sh e) : EvE K (tOp (rNeD K) ta tb) as (.bl (!eqD d e)) := fun G0 H0 G H σ E Q q =>
  ha G0 H0 G H σ E _ fun v G1 H1 s1 r1 => hb G0 H0 G1 H1 σ (E.step s1) _ fun v2 G2 H2 s2 r2 => ⟨_, _, (r1.mono s2.h).dp, r2.dp, h1, h2, q _ G2 H2 (s1.trans s2) (.bl _)⟩
theorem ev_inD {ds : List D} (ha : EvR K ta as d) (hb : EvR K tb as (.lst ds)) (h1 : Sh d) (h2 : Sh (.lst ds)) : EvE K (tOp (rInD K) ta tb) as (.bl ((toPys ds).any fun z => PyData.eqv z (toPy d))) := fun G0 H0 G H σ E Q q =>
  ha G0 H0 G H σ E _ fun v G1 H1 s1 r1 => hb G0 H0 G1 H1 σ (E.step s1) _ fun v2 G2 H2 s2 r2 => ⟨_, _, (r1.mono s2.h).dp, r2.dp, h1, h2, q _ G2 H2 (s1.trans s2) (.bl _)⟩
/-! ### in, index of whole numbers -/
theorem flat_ints (ns : List Int) : (ns.map V.int).all flatV = true := by
  rw [List.all_eq_true]
  intro x hx
  obtain ⟨n, _, rfl⟩ := List.mem_map.mp hx
  rfl
theorem eqV_int (i j : Int) : eqV (V.int i) (V.int j) = decide (i = j) := by
  show (i == j) = _
  by_cases h : i = j
  · subst h; simp
  · rw [decide_eq_false h]; simpa using h
theorem inV_ints (n : Int) : ∀ ns : List Int, inV (.int n) (ns.map V.int) = decide (n ∈ ns)
  | [] => by simp [inV]
  | m :: ns => by
    have ih := inV_ints n ns
    show (eqV (V.int m) (V.int n) || inV (.int n) (ns.map V.int)) = _
    rw [ih, eqV_int]
    by_cases h : m = n
    · simp [h]
    · have h' : ¬ n = m := fun z => h z.symm
      simp [h, h']
theorem ev_inI {neg : Bool} {ns : List Int} (ha : EvR K ta as (.int i)) (hb : EvR K tb as d) (l : Ls d (dI ns)) : EvE K (tOp (rIn K neg) ta tb) as (.bl (if neg then !decide (i ∈ ns) else decide (i ∈ ns))) := fun G0 H0 G H σ E Q q =>
  ha G0 H0 G H σ E _ fun v G1 H1 s1 r1 => hb G0 H0 G1 H1 σ (E.step s1) _ fun v2 G2 H2 s2 r2 => by
    obtain ⟨a, vs, rfl, hq, ra⟩ := r2.ls l
    have e1 := r1.int_inv
    subst e1
    have e2 := ra.dI_inv
    subst e2
    refine ⟨a, _, rfl, .inl hq, rfl, flat_ints ns, ?_⟩
    rw [inV_ints]
    exact q _ G2 H2 (s1.trans s2) (.bl _)
theorem lt_idx {i : Int} : ∀ (ns : List Int) (m : Nat), m < ns.idxOf i → ns[m]? ≠ some i
  | [], m, h => by simp
  | n :: ns, m, h => by
    rw [List.idxOf_cons] at h
    by_cases e : n = i
    · subst e; simp at h
    · have e' : (n == i) = false := by simpa using e
      rw [e'] at h
      cases m with
      | zero => simpa using e
      | succ m => exact lt_idx ns m (by simpa using h)
theorem ev_index {ns : List Int} (ha : EvR K ta as d) (l : Ls d (dI ns)) (hb : EvR K tb as (.int i)) (hi : i ∈ ns) : EvE K (tBM K "list" (rIndex K) ta (tCons tb tNil)) as (.int (ns.idxOf i : Nat)) := fun G0 H0 G H σ E Q q =>
  ha G0 H0 G H σ E _ fun v G1 H1 s1 r1 => by
    obtain ⟨a, vs, rfl, hq, ra⟩ := r1.ls l
    have e2 := ra.dI_inv
    subst e2
    refine ⟨.inl ⟨rfl, _, hq⟩, hb G0 H0 G1 H1 σ (E.step s1) _ fun v2 G2 H2 s2 r2 => ?_⟩
    have e1 := r2.int_inv
    subst e1
    have hlt : ns.idxOf i < ns.length := List.idxOf_lt_length_of_mem hi
    refine ⟨a, _, .int i, ns.idxOf i, .int i, rfl, rfl, s2.h.seq hq, rfl, flat_ints ns, ?_, by rw [eqV_int]; simp, fun m z' hm hz => ?_, q _ G2 H2 (s1.trans s2) (.int _)⟩
    · rw [List.getElem?_map, List.getElem?_eq_getElem hlt, List.getElem_idxOf hlt]; rfl
    · rw [List.getElem?_map, List.getElem?_eq_getElem (by omega)] at hz
      cases hz
      rw [eqV_int, decide_eq_false]
      intro z
      exact lt_idx ns m hm (by rw [List.getElem?_eq_getElem (by omega), z])
/-! ### built-ins -/
theorem ev_abs {r : List V → Hp → VK → Prop} (hr : r = fun xs H Q => ∃ i, xs = [.int i] ∧ Q (.int (if i < 0 then -i else i)) H) (h : EvR K te as (.int i)) : EvE K (tCB r (tCons te tNil)) as (.int i.natAbs) := fun G0 H0 G H σ E Q q => h G0 H0 G H σ E _ fun v G1 H1 s1 r1 => by
  have e1 := r1.int_inv
  subst e1 hr
  refine ⟨i, rfl, ?_⟩
  rw [show (if i < 0 then -i else i) = (i.natAbs : Int) by split <;> omega]
  exact q _ G1 H1 s1 (.int _)
theorem ev_max2 {r : List V → Hp → VK → Prop} (hr : r = fun xs H Q => ∃ i j, xs = [.int i, .int j] ∧ Q (.int (if j > i then j else i)) H) (ha : EvR K ta as (.int i)) (hb : EvR K tb as (.int j)) : EvE K (tCB r (tCons ta (tCons tb tNil))) as (.int (max i j)) := fun G0 H0 G H σ E Q q =>
  ha G0 H0 G H σ E _ fun v G1 H1 s1 r1 => hb G0 H0 G1 H1 σ (E.step s1) _ fun v2 G2 H2 s2 r2 => by
    have e1 := r1.int_inv
    have e2 := r2.int_inv
    subst e1 e2 hr
    refine ⟨i, j, rfl, ?_⟩
    rw [show (if j > i then j else i) = max i j by split <;> omega]
    exact q _ G2 H2 (s1.trans s2) (.int _)
theorem ev_any {bs : List Bool} (h : EvR K te as (.lst (dB bs))) : EvE K (tCB (rAny K) (tCons te tNil)) as (.bl (bs.any id)) := fun G0 H0 G H σ E Q q => h G0 H0 G H σ E _ fun v G1 H1 s1 r1 => by
  obtain ⟨a, vs, rfl, hq, ra⟩ := r1.seq
  have e := ra.dB_inv
  subst e
  exact ⟨a, bs, rfl, .inl (.inl hq), q _ G1 H1 s1 (.bl _)⟩
theorem ev_all {bs : List Bool} (h : EvR K te as (.lst (dB bs))) : EvE K (tCB (rAll K) (tCons te tNil)) as (.bl (bs.all id)) := fun G0 H0 G H σ E Q q => h G0 H0 G H σ E _ fun v G1 H1 s1 r1 => by
  obtain ⟨a, vs, rfl, hq, ra⟩ := r1.seq
  have e := ra.dB_inv
  subst e
  exact ⟨a, bs, rfl, .inl (.inl hq), q _ G1 H1 s1 (.bl _)⟩
theorem ev_sum {ns : List Int} (h : EvR K te as d) (l : Ls d (dI ns)) : EvE K (tCB (rSum K) (tCons te tNil)) as (.int ns.sum) := fun G0 H0 G H σ E Q q => h G0 H0 G H σ E _ fun v G1 H1 s1 r1 => by
  obtain ⟨a, vs, rfl, hq, ra⟩ := r1.ls l
  have e := ra.dI_inv
  subst e
  exact ⟨a, ns, rfl, hq, q _ G1 H1 s1 (.int _)⟩
theorem ev_max {ns : List Int} {m : Int} (h : EvR K te as (.lst (dI ns))) (hm : m ∈ ns) (hx : ∀ y ∈ ns, y ≤ m) : EvE K (tCB (rMax K) (tCons te tNil)) as (.int m) := fun G0 H0 G H σ E Q q => h G0 H0 G H σ E _ fun v G1 H1 s1 r1 => by
  obtain ⟨a, vs, rfl, hq, ra⟩ := r1.seq
  have e := ra.dI_inv
  subst e
  refine ⟨a, ns, rfl, .inl (.inl hq), List.length_pos_of_mem hm, fun m' h1 h2 => ?_⟩
  have : m' = m := Int.le_antisymm (hx m' h1) (h2 m hm)
  rw [this]
  exact q _ G1 H1 s1 (.int _)
theorem ev_min {ns : List Int} {m : Int} (h : EvR K te as (.lst (dI ns))) (hm : m ∈ ns) (hx : ∀ y ∈ ns, m ≤ y) : EvE K (tCB (rMin K) (tCons te tNil)) as (.int m) := fun G0 H0 G H σ E Q q => h G0 H0 G H σ E _ fun v G1 H1 s1 r1 => by
  obtain ⟨a, vs, rfl, hq, ra⟩ := r1.seq
  have e := ra.dI_inv
  subst e
  refine ⟨a, ns, rfl, .inl (.inl hq), List.length_pos_of_mem hm, fun m' h1 h2 => ?_⟩
  have : m' = m := Int.le_antisymm (h2 m hm) (hx m' h1)
  rw [this]
  exact q _ G1 H1 s1 (.int _)
/-! ### a def's promise: R tells what comes back for what is handed in -/
def SpR (K : PySem.W.Frag) (R : List D → D → Prop) : Sp := fun vs H Q _ => ∃ G ds d, Same G H ∧ RpAll K G vs ds ∧ R ds d ∧ ∀ v G' H', Step G H G' H' → Rp K G' v d → Q v H'
theorem ev_call {R : List D → D → Prop} {ta : TA} {ds : List D} {X : XK} (h : EvA K ta as ds) (hr : R ds d) : EvE K (tCall (SpR K R) [] X ta) as d := fun G0 H0 G H σ E Q q => h G0 H0 G H σ E _ fun vs G1 H1 s1 r1 => by
  rw [List.append_nil]
  exact ⟨G1, ds, d, s1.s, r1, hr, fun v G2 H2 s2 r2 => q v G2 H2 (s1.trans s2) r2⟩
end
/-! ### statements -/
/-- from slots as told (since the def's start at G0, H0) on, P is reached -/
def Co (K : PySem.W.Frag) (G0 H0 : Hp) (as : List AS) (P : L2.St → Hp → Prop) : Prop := ∀ σ G H, Env K G0 H0 G H σ as → P σ H
def Rt (K : PySem.W.Frag) (G0 H0 : Hp) (d : D) (Q : VK) : Prop := ∀ v G' H', Step G0 H0 G' H' → Rp K G' v d → Q v H'
/-- what the slots are to be at a turn's end -/
def At (K : PySem.W.Frag) (G0 H0 : Hp) (as : List AS) : L2.St → Hp → Prop := fun σ H => ∃ G, Env K G0 H0 G H σ as
section
variable {G0 H0 : Hp} {as : List AS} {Dn : Ends} {ta tb te : TE} {tt : TT} {tu tw : TS} {d : D} {ds es : List D} {n : Nat} {P : L2.St → Hp → Prop}
theorem c_asg (h : EvE K te as d) (k : Co K G0 H0 (as.set n (.dat d)) Dn.nx) : Co K G0 H0 as (tAsg te (gName n) Dn) := fun σ G H E => h G0 H0 G H σ E _ fun v G1 H1 s1 r1 => k _ G1 H1 ((E.step s1).setD r1)
theorem c_new (h : EvN K te as ds) (k : Co K G0 H0 (as.set n (.mu ds)) Dn.nx) : Co K G0 H0 as (tAsg te (gName n) Dn) := fun σ G H E => h G0 H0 G H σ E _ fun p vs G1 H1 s1 hp hg hh r => k _ G1 H1 (E.setM s1 hp hg hh r)
theorem c_frz (hn : as[n]? = some (AS.mu ds)) (k : Co K G0 H0 (as.set n (.dat (.lst ds))) P) : Co K G0 H0 as P := fun σ G H E => by
  obtain ⟨G', E'⟩ := E.frz hn
  exact k σ G' H E'
theorem c_ret (h : EvE K te as d) (k : Rt K G0 H0 d Dn.rt) : Co K G0 H0 as (tRet te Dn) := fun σ G H E => h G0 H0 G H σ E _ fun v G1 H1 s1 r1 => k v G1 H1 (E.st.trans s1) r1
theorem c_if {b : Bool} (h : EvT K tt as b) (h1 : b = true → Co K G0 H0 as (tu Dn)) (h2 : b = false → Co K G0 H0 as (tw Dn)) : Co K G0 H0 as (tIfS tt tu tw Dn) := fun σ G H E => h G0 H0 G H σ E _ fun G1 H1 s1 => by
  cases b with
  | true =>
    show tu Dn σ H1
    exact h1 rfl σ G1 H1 (E.step s1)
  | false =>
    show tw Dn σ H1
    exact h2 rfl σ G1 H1 (E.step s1)
theorem c_seq (h : Co K G0 H0 as (tu { Dn with nx := tw Dn })) : Co K G0 H0 as (tSeq tu tw Dn) := h
theorem c_next (h : Co K G0 H0 as Dn.nx) : Co K G0 H0 as (tNext Dn) := h
theorem c_less {bs : List AS} (l : Le bs as) (k : Co K G0 H0 bs P) : Co K G0 H0 as P := fun σ G H E => k σ G H (E.less l)
theorem c_at {bs : List AS} (l : Le bs as) : Co K G0 H0 as (At K G0 H0 bs) := fun σ G H E => ⟨G, E.less l⟩
/-- xs.append(e) -/
theorem c_app (hn : as[n]? = some (AS.mu ds)) (h : EvE K te as d) (hz : ds.length < 1000000) (k : Co K G0 H0 (as.set n (.mu (ds ++ [d]))) Dn.nx) : Co K G0 H0 as (tDrop (tBM K "list" rAppend (tVar n) (tCons te tNil)) Dn) := fun σ G H E => by
  obtain ⟨p, vs, hv, _, hg, hh, r⟩ := E.mu n ds hn
  refine ⟨_, hv, .inl ⟨rfl, vs, .inl (.inl hh)⟩, h G0 H0 G H σ E _ fun v G1 H1 s1 r1 => ⟨p, vs, v, rfl, rfl, s1.h _ _ hh, sz_lt (by rw [r.len]; exact hz), ?_⟩⟩
  exact k _ G1 _ ((E.step s1).chg hn hv ((r.mono s1.g).append (.cons r1 .nil)))
/-- xs.extend(e) -/
theorem c_ext (hn : as[n]? = some (AS.mu ds)) (h : EvE K te as (.lst es)) (hz : ds.length + es.length ≤ 1000000) (k : Co K G0 H0 (as.set n (.mu (ds ++ es))) Dn.nx) : Co K G0 H0 as (tDrop (tBM K "list" rExtend (tVar n) (tCons te tNil)) Dn) := fun σ G H E => by
  obtain ⟨p, vs, hv, _, hg, hh, r⟩ := E.mu n ds hn
  refine ⟨_, hv, .inl ⟨rfl, vs, .inl (.inl hh)⟩, h G0 H0 G H σ E _ fun v G1 H1 s1 r1 => ?_⟩
  obtain ⟨a, ws, rfl, hq, ra⟩ := r1.seq
  exact ⟨p, a, vs, ws, rfl, rfl, s1.h _ _ hh, s1.s _ _ hq, sz_le (by rw [r.len, ra.len]; exact hz), k _ G1 _ ((E.step s1).chg hn hv ((r.mono s1.g).append ra))⟩
/-- xs.reverse() -/
theorem c_rev (hn : as[n]? = some (AS.mu ds)) (k : Co K G0 H0 (as.set n (.mu ds.reverse)) Dn.nx) : Co K G0 H0 as (tDrop (tBM0 K "list" rReverse (tVar n)) Dn) := fun σ G H E => by
  obtain ⟨p, vs, hv, _, hg, hh, r⟩ := E.mu n ds hn
  exact ⟨_, hv, .inl ⟨rfl, vs, .inl (.inl hh)⟩, p, vs, rfl, rfl, hh, k _ G _ (E.chg hn hv r.reverse)⟩
/-- xs[k] = e -/
theorem c_set {k : Nat} (hn : as[n]? = some (AS.mu ds)) (h : EvE K te as d) (hb : EvR K tb as (.int (k : Int))) (hk : k < ds.length) (c : Co K G0 H0 (as.set n (.mu (ds.set k d))) Dn.nx) : Co K G0 H0 as (tAsg te (gSub (tVar n) tb rSetL) Dn) := fun σ G H E => by
  obtain ⟨p, vs, hv, _, hg, hh, r⟩ := E.mu n ds hn
  refine h G0 H0 G H σ E _ fun v G1 H1 s1 r1 => ⟨_, hv, hb G0 H0 G1 H1 σ (E.step s1) _ fun v2 G2 H2 s2 r2 => ?_⟩
  have s := s1.trans s2
  refine ⟨p, vs, (k : Int), k, rfl, r2.int_inv, s.h _ _ hh, ?_, c _ G2 _ ((E.step s).chg hn hv ((r.mono s.g).set (r1.mono s2.g)))⟩
  unfold ixN
  rw [if_pos (by omega), if_pos (by rw [r.len]; omega), Int.toNat_natCast]
/-- while: a state s, its slots A s, what holds I s, a measure -/
def Nx (K : PySem.W.Frag) (G0 H0 : Hp) {S : Type} (A : S → List AS) (I : S → Prop) (m : S → Nat) (s : S) : L2.St → Hp → Prop := fun σ H => ∃ s' G, I s' ∧ m s' < m s ∧ Env K G0 H0 G H σ (A s')
theorem c_while {S : Type} (A : S → List AS) (I : S → Prop) (m : S → Nat) (s0 : S) (hA : Le (A s0) as) (hI : I s0)
    (hs : ∀ s, I s → ∃ b, EvT K tt (A s) b ∧ (b = true → Co K G0 H0 (A s) (tu { Dn with nx := Nx K G0 H0 A I m s, ct := Nx K G0 H0 A I m s, bk := Dn.nx })) ∧ (b = false → Co K G0 H0 (A s) Dn.nx)) : Co K G0 H0 as (tWhile tt tu Dn) := fun σ G H E =>
  ⟨fun k σ H => ∃ s G, I s ∧ m s = k ∧ Env K G0 H0 G H σ (A s), ⟨m s0, s0, G, hI, rfl, E.less hA⟩, fun k σ1 H1 hw => by
    obtain ⟨s, G1, hi, rfl, E1⟩ := hw
    obtain ⟨b, hb, h1, h2⟩ := hs s hi
    refine hb G0 H0 G1 H1 σ1 E1 _ fun G2 H2 s2 => ?_
    cases b with
    | true =>
      rw [if_pos rfl]
      exact ⟨Nx K G0 H0 A I m s, fun σ3 H3 hx => let ⟨s', G3, a, b, c⟩ := hx; ⟨m s', b, s', G3, a, rfl, c⟩, h1 rfl σ1 G2 H2 (E1.step s2)⟩
    | false =>
      rw [if_neg Bool.false_ne_true]
      exact h2 rfl σ1 G2 H2 (E1.step s2)⟩
theorem c_nx {S : Type} {A : S → List AS} {I : S → Prop} {m : S → Nat} {s : S} (s' : S) (hl : Le (A s') as) (hi : I s') (hm : m s' < m s) : Co K G0 H0 as (Nx K G0 H0 A I m s) := fun σ G H E => ⟨s', G, hi, hm, E.less hl⟩
end
end Fw
set_option Elab.async false
set_option linter.all false
set_option maxRecDepth 100000
namespace Fw
open PySem PyProof.Rows L2
variable {K : PySem.W.Frag}
/-! ### targets -/
/-- g takes d: the slots become f as; only the slots js are written -/
def TgE (K : PySem.W.Frag) (g : TG) (d : D) (js : List Nat) (f : List AS → List AS) : Prop := ∀ G0 H0 G H σ as v, Env K G0 H0 G H σ as → Rp K G v d → ∀ Q : L2.St → Hp → Prop,
  (∀ σ', Env K G0 H0 G H σ' (f as) → σ'.length = σ.length → (∀ i : Nat, i ∉ js → σ'[i]? = σ[i]?) → Q σ' H) → g v σ H Q
theorem tg_name {d : D} {n : Nat} : TgE K (gName n) d [n] (fun as => as.set n (.dat d)) := fun G0 H0 G H σ as v E r Q q =>
  q _ (E.setD r) List.length_set fun i hi => List.getElem?_set_ne (fun z => hi (by rw [z]; exact List.mem_cons_self ..))
theorem tg_tup2 {d1 d2 : D} {n m : Nat} : TgE K (gTup K 2 (gCons (gName n) (gCons (gName m) gNil))) (.tup [d1, d2]) [n, m] (fun as => (as.set n (.dat d1)).set m (.dat d2)) := fun G0 H0 G H σ as v E r Q q => by
  obtain ⟨a, vs, rfl, hq, ra⟩ := r.tupl
  cases ra with
  | cons r1 ra =>
    cases ra with
    | cons r2 ra =>
      cases ra
      refine ⟨a, _, rfl, .inl (.inl (E.st.s _ _ hq)), rfl, _, _, rfl, _, _, rfl, rfl, ?_⟩
      refine q _ ((E.setD r1).setD r2) (by rw [List.length_set, List.length_set]) fun i hi => ?_
      rw [List.getElem?_set_ne (fun z => hi (by rw [z]; simp)), List.getElem?_set_ne (fun z => hi (by rw [z]; simp))]
theorem tg_tup3 {d1 d2 d3 : D} {n m l : Nat} : TgE K (gTup K 3 (gCons (gName n) (gCons (gName m) (gCons (gName l) gNil)))) (.tup [d1, d2, d3]) [n, m, l] (fun as => ((as.set n (.dat d1)).set m (.dat d2)).set l (.dat d3)) := fun G0 H0 G H σ as v E r Q q => by
  obtain ⟨a, vs, rfl, hq, ra⟩ := r.tupl
  cases ra with
  | cons r1 ra =>
    cases ra with
    | cons r2 ra =>
      cases ra with
      | cons r3 ra =>
        cases ra
        refine ⟨a, _, rfl, .inl (.inl (E.st.s _ _ hq)), rfl, _, _, rfl, _, _, rfl, _, _, rfl, rfl, ?_⟩
        refine q _ (((E.setD r1).setD r2).setD r3) (by rw [List.length_set, List.length_set, List.length_set]) fun i hi => ?_
        rw [List.getElem?_set_ne (fun z => hi (by rw [z]; simp)), List.getElem?_set_ne (fun z => hi (by rw [z]; simp)), List.getElem?_set_ne (fun z => hi (by rw [z]; simp))]
/-! ### what is walked -/
structure Wk (K : PySem.W.Frag) (J : It) (G2 : Hp) (ds : List D) : Prop where
  goes : ∀ i G H, i < ds.length → Same G2 G → Same G H → J.go i H
  stops : ∀ G H, Same G2 G → Same G H → J.stop ds.length H
  yields : ∀ i d G H x H', ds[i]? = some d → Same G2 G → Same G H → J.yld i H x H' → ∃ G', Step G H G' H' ∧ Rp K G' x d
def ItE (K : PySem.W.Frag) (wi : TI) (as : List AS) (ds : List D) : Prop := ∀ G0 H0 G H σ, Env K G0 H0 G H σ as → ∀ R : It → Hp → Prop, (∀ J G' H', Step G H G' H' → Wk K J G' ds → R J H') → wi σ H R
section
variable {as : List AS} {ta tb te tl : TE} {d e : D} {ds es : List D}
theorem wk_list {G : Hp} {a : Addr} {vs : List V} (h : SqL K G a vs) (r : RpAll K G vs ds) : Wk K (Itl K a) G ds := by
  refine ⟨fun i G1 H1 hi e1 e2 => ?_, fun G1 H1 e1 e2 => ?_, fun i d G1 H1 x H' hd e1 e2 y => ?_⟩
  · have hv : i < vs.length := by rw [r.len]; exact hi
    exact ⟨vs, vs[i], e2.seq (e1.seq h), List.getElem?_eq_getElem hv⟩
  · exact ⟨vs, e2.seq (e1.seq h), Nat.le_of_eq r.len⟩
  · obtain ⟨rfl, y⟩ := y
    obtain ⟨v, hv, rv⟩ := r.get hd
    have e := y vs (e2.seq (e1.seq h))
    rw [hv] at e
    cases e
    exact ⟨G1, Step.refl e2, rv.mono e1⟩
theorem it_list (h : EvE K tl as d) (l : Ls d ds) : ItE K (iList K tl) as ds := fun G0 H0 G H σ E R k => h G0 H0 G H σ E _ fun v G1 H1 s1 r1 => by
  obtain ⟨a, vs, rfl, hq, ra⟩ := r1.ls l
  exact ⟨a, rfl, ⟨vs, s1.s.seq hq⟩, k _ G1 H1 s1 (wk_list hq ra)⟩
theorem it_rev (h : EvE K tl as d) (l : Ls d ds) : ItE K (iRev K (tCons tl tNil)) as ds.reverse := fun G0 H0 G H σ E R k => h G0 H0 G H σ E _ fun v G1 H1 s1 r1 => by
  obtain ⟨a, vs, rfl, hq, r⟩ := r1.ls l
  have hlen := r.len
  refine ⟨a, vs, rfl, s1.s.seq hq, k _ G1 H1 s1 ⟨fun i G2 H2 hi e1 e2 => ?_, fun G2 H2 e1 e2 => ?_, fun i d G2 H2 x H' hd e1 e2 y => ?_⟩⟩
  · rw [List.length_reverse] at hi
    have hv : vs.length - 1 - i < vs.length := by omega
    exact ⟨by omega, vs, vs[vs.length - 1 - i], e2.seq (e1.seq hq), List.getElem?_eq_getElem hv⟩
  · show vs.length ≤ ds.reverse.length
    rw [List.length_reverse]; omega
  · obtain ⟨rfl, y⟩ := y
    have hi : i < ds.length := by
      have := (List.getElem?_eq_some_iff.mp hd).1
      rwa [List.length_reverse] at this
    rw [List.getElem?_reverse hi] at hd
    obtain ⟨v, hv, rv⟩ := r.get hd
    have e := y vs (e2.seq (e1.seq hq))
    rw [hlen, hv] at e
    cases e
    exact ⟨G2, Step.refl e2, rv.mono e1⟩
def pairD (x y : D) : D := .tup [x, y]
theorem it_enum (h : EvE K tl as d) (l : Ls d ds) : ItE K (iEnum K (tCons tl tNil)) as (ds.zipIdx.map fun x => pairD (.int (x.2 : Nat)) x.1) := fun G0 H0 G H σ E R k => h G0 H0 G H σ E _ fun v G1 H1 s1 r1 => by
  obtain ⟨a, vs, rfl, hq, r⟩ := r1.ls l
  have hlen := r.len
  refine ⟨a, vs, rfl, s1.s.seq hq, k _ G1 H1 s1 ⟨fun i G2 H2 hi e1 e2 => ?_, fun G2 H2 e1 e2 => ?_, fun i d G2 H2 x H' hd e1 e2 y => ?_⟩⟩
  · have hv : i < vs.length := by
      rw [List.length_map, List.length_zipIdx] at hi
      omega
    exact ⟨vs, vs[i], e2.seq (e1.seq hq), List.getElem?_eq_getElem hv⟩
  · refine ⟨vs, e2.seq (e1.seq hq), ?_⟩
    rw [List.length_map, List.length_zipIdx]; omega
  · obtain ⟨T, z, rfl, nT, rfl, y⟩ := y
    rw [List.getElem?_map, List.getElem?_zipIdx] at hd
    cases ed : ds[i]? with
    | none => rw [ed] at hd; simp at hd
    | some w =>
      rw [ed] at hd
      have hd' : pairD (.int ((0 + i : Nat) : Int)) w = d := by simpa using hd
      obtain ⟨v, hv, rv⟩ := r.get ed
      have e := y vs (e2.seq (e1.seq hq))
      have ez : z = v := Option.some.inj (e.symm.trans hv)
      subst ez
      have sg := same_upd (o := HO.tup [.int (i : Nat), z]) (fresh_of e2 nT)
      refine ⟨upd G2 T (.tup [.int (i : Nat), z]), Step.data e2 nT, ?_⟩
      rw [← hd', Nat.zero_add]
      exact .tup upd_same (.cons (.int _) (.cons ((rv.mono e1).mono sg) .nil))
theorem it_zip {a' b' : D} (ha : EvE K ta as a') (hb : EvE K tb as b') (l1 : Ls a' ds) (l2 : Ls b' es) : ItE K (iZip K (tCons ta (tCons tb tNil))) as ((ds.zip es).map fun x => pairD x.1 x.2) := fun G0 H0 G H σ E R k => ha G0 H0 G H σ E _ fun v G1 H1 s1 r1 => hb G0 H0 G1 H1 σ (E.step s1) _ fun v2 G2 H2 s2 r2 => by
  obtain ⟨a, vs, rfl, hq, r⟩ := (r1.mono s2.g).ls l1
  obtain ⟨b, ws, rfl, hq2, r'⟩ := r2.ls l2
  have hlen := r.len
  have hlen' := r'.len
  refine ⟨a, b, vs, ws, rfl, s2.s.seq hq, s2.s.seq hq2, k _ G2 H2 (s1.trans s2) ⟨fun i G3 H3 hi e1 e2 => ?_, fun G3 H3 e1 e2 => ?_, fun i d G3 H3 x H' hd e1 e2 y => ?_⟩⟩
  · rw [List.length_map, List.length_zip] at hi
    have hv : i < vs.length := by omega
    have hw : i < ws.length := by omega
    exact ⟨vs, ws, vs[i], ws[i], e2.seq (e1.seq hq), e2.seq (e1.seq hq2), List.getElem?_eq_getElem hv, List.getElem?_eq_getElem hw⟩
  · refine ⟨vs, ws, e2.seq (e1.seq hq), e2.seq (e1.seq hq2), ?_⟩
    rw [List.length_map, List.length_zip]; omega
  · obtain ⟨T, z, z', rfl, nT, rfl, y, y'⟩ := y
    rw [List.getElem?_map] at hd
    cases ed : (ds.zip es)[i]? with
    | none => rw [ed] at hd; simp at hd
    | some w =>
      rw [ed] at hd
      have hd' : pairD w.1 w.2 = d := by simpa using hd
      obtain ⟨ed1, ed2⟩ := List.getElem?_zip_eq_some.mp ed
      obtain ⟨v, hv, rv⟩ := r.get ed1
      obtain ⟨v', hv', rv'⟩ := r'.get ed2
      have ez : z = v := Option.some.inj ((y vs (e2.seq (e1.seq hq))).symm.trans hv)
      have ez' : z' = v' := Option.some.inj ((y' ws (e2.seq (e1.seq hq2))).symm.trans hv')
      subst ez ez'
      have sg := same_upd (o := HO.tup [z, z']) (fresh_of e2 nT)
      refine ⟨upd G3 T (.tup [z, z']), Step.data e2 nT, ?_⟩
      rw [← hd']
      exact .tup upd_same (.cons ((rv.mono e1).mono sg) (.cons ((rv'.mono e1).mono sg) .nil))
theorem it_range1 {n : Nat} (h : EvR K te as (.int (n : Int))) (hn : n ≤ 1000000) : ItE K (iRng1 (tCons te tNil)) as ((List.range n).map fun k => D.int (k : Nat)) := fun G0 H0 G H σ E R k => h G0 H0 G H σ E _ fun v G1 H1 s1 r1 => by
  refine ⟨(n : Int), by rw [r1.int_inv], by omega, by omega, k _ G1 H1 s1 ⟨fun i G3 H3 hi e1 e2 => ?_, fun G3 H3 e1 e2 => ?_, fun i d G3 H3 x H' hd e1 e2 y => ?_⟩⟩
  · rw [List.length_map, List.length_range] at hi
    show i < (n : Int).toNat
    omega
  · show (n : Int).toNat ≤ _
    rw [List.length_map, List.length_range]; omega
  · obtain ⟨rfl, rfl⟩ := y
    have hi : i < n := by
      have := (List.getElem?_eq_some_iff.mp hd).1
      rwa [List.length_map, List.length_range] at this
    rw [List.getElem?_map, List.getElem?_range hi] at hd
    cases hd
    refine ⟨G3, Step.refl e2, ?_⟩
    rw [Int.zero_add]
    exact .int _
theorem it_range2 {lo : Int} {n : Int} (h : EvA K (tCons ta (tCons tb tNil)) as [.int lo, .int n]) (h1 : -1000000 ≤ lo ∧ lo ≤ 1000000 ∧ -1000000 ≤ n ∧ n ≤ 1000000) : ItE K (iRng2 (tCons ta (tCons tb tNil))) as ((List.range (n - lo).toNat).map fun k => D.int (lo + (k : Nat))) := fun G0 H0 G H σ E R k => h G0 H0 G H σ E _ fun vs G1 H1 s1 r1 => by
  cases r1 with
  | cons r1 r2 =>
    cases r2 with
    | cons r2 r3 =>
      cases r3
      have x1 := r1.int_inv
      have x2 := r2.int_inv
      subst x1 x2
      refine ⟨lo, n, rfl, by omega, k _ G1 H1 s1 ⟨fun i G3 H3 hi e1 e2 => ?_, fun G3 H3 e1 e2 => ?_, fun i d G3 H3 x H' hd e1 e2 y => ?_⟩⟩
      · rw [List.length_map, List.length_range] at hi
        exact hi
      · show _ ≤ _
        rw [List.length_map, List.length_range]; exact Nat.le_refl _
      · obtain ⟨rfl, rfl⟩ := y
        have hi : i < (n - lo).toNat := by
          have := (List.getElem?_eq_some_iff.mp hd).1
          rwa [List.length_map, List.length_range] at this
        rw [List.getElem?_map, List.getElem?_range hi] at hd
        cases hd
        exact ⟨G3, Step.refl e2, .int _⟩
end
/-! ### a later start -/
structure Sub (G0 H0 B C : Hp) : Prop where
  s : ∀ G H, Step B C G H → Step G0 H0 G H
  n : ∀ p, C p = none → H0 p = none
theorem Sub.refl {G0 H0 : Hp} : Sub G0 H0 G0 H0 := ⟨fun _ _ h => h, fun _ h => h⟩
theorem Env.up {G0 H0 B C G H : Hp} {σ : L2.St} {as : List AS} (u : Sub G0 H0 B C) (E : Env K B C G H σ as) : Env K G0 H0 G H σ as :=
  ⟨u.s _ _ E.st, E.len, E.dat, fun i ds h => let ⟨p, vs, a, b, c⟩ := E.mu i ds h; ⟨p, vs, a, u.n p b, c⟩, E.ap⟩
theorem Co.up {G0 H0 B C : Hp} {as : List AS} {P : L2.St → Hp → Prop} (h : Co K G0 H0 as P) (u : Sub G0 H0 B C) : Co K B C as P := fun σ G H E => h σ G H (E.up u)
theorem Rt.up {G0 H0 B C : Hp} {d : D} {Q : VK} (h : Rt K G0 H0 d Q) (u : Sub G0 H0 B C) : Rt K B C d Q := fun v G H s r => h v G H (u.s _ _ s) r
def join (H G : Hp) : Hp := fun a => match H a with
  | some o => some o
  | none => G a
theorem Env.down {G0 H0 G H : Hp} {σ : L2.St} {as : List AS} (E : Env K G0 H0 G H σ as) : Sub G0 H0 G (join H0 G) ∧ Env K G (join H0 G) G H σ as := by
  have jn : ∀ {p : Addr}, join H0 G p = none → H0 p = none ∧ G p = none := fun {p} h => by
    unfold join at h
    cases e : H0 p with
    | none => rw [e] at h; exact ⟨rfl, h⟩
    | some o => rw [e] at h; cases h
  have js : Same (join H0 G) H := fun b o h => by
    unfold join at h
    cases e : H0 b with
    | none => rw [e] at h; exact E.st.s b o h
    | some o' => rw [e] at h; cases h; exact E.st.h b _ e
  refine ⟨⟨fun G' H' s => ⟨E.st.g.trans s.g, fun b o h => s.h b o (by unfold join; rw [h]), s.s, fun a h1 h2 => s.k a ?_ (E.st.k a h1 h2)⟩, fun p h => (jn h).1⟩, ⟨Same.refl G, js, E.st.s, fun _ _ h => h⟩, E.len, E.dat, fun i ds h => ?_, E.ap⟩
  · unfold join
    cases e : H0 a with
    | none => exact absurd e h1
    | some o => simp
  · obtain ⟨p, vs, a, b, c, r⟩ := E.mu i ds h
    refine ⟨p, vs, a, ?_, c, r⟩
    unfold join
    rw [b]
    exact c
/-! ### for -/
section
variable {G0 H0 : Hp} {as : List AS} {Dn : Ends} {tu : TS} {ds : List D} {wi : TI} {g : TG}
/-- A i: the slots behind i turns -/
theorem c_for (hw : ItE K wi as ds) (A : Nat → List AS) (js : List Nat) (f : D → List AS → List AS) (hg : ∀ d, d ∈ ds → TgE K g d js (f d)) (h0 : Le (A 0) as)
    (hs : ∀ B C, Sub G0 H0 B C → ∀ i d, ds[i]? = some d → Co K B C (f d (A i)) (tu { Dn with nx := At K B C (A (i + 1)), ct := At K B C (A (i + 1)), bk := Dn.nx })) (hd : Co K G0 H0 (A ds.length) Dn.nx) : Co K G0 H0 as (tFor wi g tu Dn) := fun σ G H E =>
  hw G0 H0 G H σ E _ fun J G1 H1 s1 w => by
    obtain ⟨u, E1⟩ := (E.step s1).down
    refine ⟨fun i m σ H => m = ds.length - i ∧ i ≤ ds.length ∧ At K G1 (join H0 G1) (A i) σ H, ⟨ds.length, by simp, Nat.zero_le _, G1, E1.less h0⟩, ?_⟩
    rintro i m σ2 H2 ⟨rfl, hi, G2, E2⟩
    by_cases hlt : i < ds.length
    · refine .inr ⟨w.goes i G2 H2 hlt E2.st.g E2.st.s, At K G1 (join H0 G1) (A (i + 1)), fun σ' H' hx => ⟨ds.length - (i + 1), by omega, rfl, hlt, hx⟩, fun x H' y => ?_⟩
      have hd' : ds[i]? = some ds[i] := List.getElem?_eq_getElem hlt
      obtain ⟨G3, s3, r3⟩ := w.yields i _ G2 H2 x H' hd' E2.st.g E2.st.s y
      exact hg _ (List.mem_of_getElem? hd') _ _ G3 H' σ2 (A i) x (E2.step s3) r3 _ fun σ' E' _ _ => hs _ _ u i _ hd' σ' G3 H' E'
    · have e : i = ds.length := by omega
      subst e
      exact .inl ⟨w.stops G2 H2 E2.st.g E2.st.s, hd σ2 G2 H2 (E2.up u)⟩
end
/-! ### comprehensions -/
def wipeA (as : List AS) : List Nat → List AS
  | [] => as
  | v :: vs => (wipeA as vs).set v .no
theorem Env.wipe {G0 H0 G H : Hp} {σ : L2.St} {as : List AS} (E : Env K G0 H0 G H σ as) : ∀ vs : List Nat, Env K G0 H0 G H (L2.wipe σ vs) (wipeA as vs)
  | [] => E
  | n :: vs => by
    have ih := Env.wipe E vs
    show Env K G0 H0 G H ((L2.wipe σ vs).set n none) ((wipeA as vs).set n .no)
    have m : ∀ {j : Nat} {x : AS}, ((wipeA as vs).set n AS.no)[j]? = some x → x ≠ AS.no → n ≠ j ∧ (wipeA as vs)[j]? = some x := fun {j x} h hx => by
      by_cases hj : n = j
      · subst hj
        have hlt : n < (wipeA as vs).length := by
          have := (List.getElem?_eq_some_iff.mp h).1
          rwa [List.length_set] at this
        rw [List.getElem?_set_self hlt] at h
        cases h
        exact absurd rfl hx
      · rw [List.getElem?_set_ne hj] at h
        exact ⟨hj, h⟩
    refine ⟨ih.st, by rw [List.length_set, List.length_set, ih.len], fun i d h => ?_, fun i ds h => ?_, fun i j ds es p hij h1 h2 h3 h4 => ?_⟩
    · obtain ⟨hj, h⟩ := m h (by simp)
      rw [List.getElem?_set_ne hj]
      exact ih.dat i d h
    · obtain ⟨hj, h⟩ := m h (by simp)
      rw [List.getElem?_set_ne hj]
      exact ih.mu i ds h
    · obtain ⟨hj1, h1⟩ := m h1 (by simp)
      obtain ⟨hj2, h2⟩ := m h2 (by simp)
      rw [List.getElem?_set_ne hj1] at h3
      rw [List.getElem?_set_ne hj2] at h4
      exact ih.ap i j ds es p hij h1 h2 h3 h4
theorem wipe_get {σ : L2.St} {i : Nat} : ∀ {vs : List Nat}, i ∉ vs → (L2.wipe σ vs)[i]? = σ[i]?
  | [], _ => rfl
  | v :: vs, h => by
    show ((L2.wipe σ vs).set v none)[i]? = _
    rw [List.getElem?_set_ne (fun z => h (by rw [z]; exact List.mem_cons_self ..)), wipe_get fun z => h (List.mem_cons_of_mem _ z)]
theorem wipe_in {σ : L2.St} {i : Nat} : ∀ {vs : List Nat}, i ∈ vs → i < σ.length → (L2.wipe σ vs)[i]? = some none
  | [], h, _ => by cases h
  | v :: vs, h, hl => by
    show ((L2.wipe σ vs).set v none)[i]? = _
    by_cases e : v = i
    · subst e
      exact List.getElem?_set_self (by rw [wipe_length]; exact hl)
    · rw [List.getElem?_set_ne e]
      rcases List.mem_cons.mp h with z | z
      · exact absurd z.symm e
      · exact wipe_in z hl
theorem wipe_same {σ τ : L2.St} {vs : List Nat} (hl : τ.length = σ.length) (h : ∀ i : Nat, i ∉ vs → τ[i]? = σ[i]?) : L2.wipe τ vs = L2.wipe σ vs := by
  refine List.ext_getElem? fun i => ?_
  by_cases hi : i ∈ vs
  · by_cases hx : i < σ.length
    · rw [wipe_in hi hx, wipe_in hi (by rw [hl]; exact hx)]
    · rw [List.getElem?_eq_none (by rw [wipe_length]; omega), List.getElem?_eq_none (by rw [wipe_length]; omega)]
  · rw [wipe_get hi, wipe_get hi, h i hi]
section
variable {as : List AS} {ds : List D} {wi : TI} {g : TG} {tt : TT} {te : TE}
/-- what is kept, and what it becomes -/
def picked (p : D → Bool) (f : D → D) (ds : List D) : List D := (ds.filter p).map f
theorem picked_more {p : D → Bool} {f : D → D} {i : Nat} {d : D} (h : ds[i]? = some d) : picked p f (ds.take (i + 1)) = picked p f (ds.take i) ++ (if p d = true then [f d] else []) := by
  unfold picked
  rw [List.take_add_one, h, List.filter_append, List.map_append]
  congr 1
  show (List.filter p [d]).map f = _
  rw [List.filter_cons]
  split <;> rfl
theorem picked_len {p : D → Bool} {f : D → D} : (picked p f ds).length ≤ ds.length := by
  unfold picked
  rw [List.length_map]
  exact List.length_filter_le _ _
/-- [e for target in .. if t] -/
theorem n_lc (hw : ItE K wi as ds) (vs js : List Nat) (up : D → List AS → List AS) (hg : ∀ d, d ∈ ds → TgE K g d js (up d)) (hjs : ∀ j, j ∈ js → j ∈ vs) (p : D → Bool) (f : D → D) (hz : ds.length ≤ 1000000)
    (ht : ∀ d, d ∈ ds → EvT K tt (up d (wipeA as vs)) (p d)) (he : ∀ d, d ∈ ds → p d = true → EvE K te (up d (wipeA as vs)) (f d)) : EvN K (tLc wi g tt te vs) as (picked p f ds) := fun G0 H0 G H σ E Q q =>
  hw G0 H0 G H σ E _ fun J G1 H1 s1 w Dl hD => by
    let Pv : Nat → Hp → Prop := fun i H' => ∃ G' acc, Step G1 H1 G' H' ∧ G' Dl = none ∧ H' Dl = some (.lst acc) ∧ RpAll K G' acc (picked p f (ds.take i))
    refine ⟨fun i m H' => m = ds.length - i ∧ i ≤ ds.length ∧ Pv i H', ⟨ds.length, by simp, Nat.zero_le _, G1, [], Step.fresh s1.s hD, fresh_of s1.s hD, upd_same, .nil⟩, ?_⟩
    rintro i m H2 ⟨rfl, hi, G2, acc, s2, g2, h2, r2⟩
    by_cases hlt : i < ds.length
    · refine .inr ⟨w.goes i G2 H2 hlt s2.g s2.s, Pv (i + 1), fun H' hx => ⟨ds.length - (i + 1), by omega, rfl, hlt, hx⟩, fun x H' y => ?_⟩
      have hd' : ds[i]? = some ds[i] := List.getElem?_eq_getElem hlt
      have hm := List.mem_of_getElem? hd'
      obtain ⟨G3, s3, r3⟩ := w.yields i _ G2 H2 x H' hd' s2.g s2.s y
      have E3 := (((E.step s1).step s2).step s3).wipe vs
      refine hg _ hm G0 H0 G3 H' _ _ x E3 r3 _ fun σ' E' hl hk => ⟨?_, ht _ hm G0 H0 G3 H' σ' E' _ fun G4 H4 s4 => ?_⟩
      · rw [wipe_same (σ := L2.wipe σ vs) hl fun i hi => hk i fun z => hi (hjs i z)]
        exact wipe_same (wipe_length σ vs) fun i hi => wipe_get hi
      · have hne : H2 Dl ≠ none := by rw [h2]; simp
        have g3 : G3 Dl = none := s3.k Dl hne g2
        have h3 : H' Dl = some (.lst acc) := s3.h _ _ h2
        have g4 : G4 Dl = none := s4.k Dl (by rw [h3]; simp) g3
        have h4 : H4 Dl = some (.lst acc) := s4.h _ _ h3
        have st4 := (s2.trans s3).trans s4
        have rr := (r2.mono s3.g).mono s4.g
        have hacc : acc.length < 1000000 := by
          rw [r2.len]
          have := picked_len (p := p) (f := f) (ds := ds.take i)
          rw [List.length_take] at this
          omega
        cases hp : p ds[i] with
        | true =>
          rw [if_pos rfl]
          refine he _ hm hp G0 H0 G4 H4 σ' (E'.step s4) _ fun v G5 H5 s5 r5 => ?_
          have g5 : G5 Dl = none := s5.k Dl (by rw [h4]; simp) g4
          have h5 : H5 Dl = some (.lst acc) := s5.h _ _ h4
          have st5 := st4.trans s5
          refine ⟨acc, h5, sz_lt hacc, G5, acc ++ [v], ⟨st5.g, fun b o e => ?_, fun b o e => ?_, st5.k⟩, g5, upd_same, ?_⟩
          · rw [upd_ne (ne_of_none e hD)]; exact st5.h b o e
          · rw [upd_ne (ne_of_none e g5)]; exact st5.s b o e
          · rw [picked_more hd', hp, if_pos rfl]
            exact (rr.mono s5.g).append (.cons r5 .nil)
        | false =>
          rw [if_neg Bool.false_ne_true]
          refine ⟨G4, acc, st4, g4, h4, ?_⟩
          rw [picked_more hd', hp, if_neg Bool.false_ne_true, List.append_nil]
          exact rr
    · have e : i = ds.length := by omega
      subst e
      rw [List.take_length] at r2
      exact .inl ⟨w.stops G2 H2 s2.g s2.s, q Dl acc G2 H2 (s1.trans s2) (s1.h.free hD) g2 h2 r2⟩
end
/-! ### a def keeps its promise -/
theorem env_start {G H : Hp} {N : List Str} {vs : List V} {ds : List D} (s : Same G H) (r : RpAll K G vs ds) (hl : ds.length ≤ N.length) : Env K G H G H (L2.start N vs) (ds.map AS.dat ++ List.replicate (N.length - ds.length) AS.no) := by
  have hlen := r.len
  have hk : ∀ {i : Nat} {x : AS}, (ds.map AS.dat ++ List.replicate (N.length - ds.length) AS.no)[i]? = some x → x ≠ AS.no → ∃ d, x = AS.dat d ∧ ds[i]? = some d := fun {i x} h hx => by
    by_cases hi : i < ds.length
    · rw [List.getElem?_append_left (by rw [List.length_map]; exact hi), List.getElem?_map, List.getElem?_eq_getElem hi] at h
      exact ⟨ds[i], (Option.some.inj h).symm, List.getElem?_eq_getElem hi⟩
    · rw [List.getElem?_append_right (by rw [List.length_map]; omega), List.getElem?_replicate] at h
      split at h
      · cases h; exact absurd rfl hx
      · cases h
  refine ⟨Step.refl s, ?_, fun i d h => ?_, fun i es h => ?_, fun i j es fs p _ h1 => ?_⟩
  · unfold L2.start
    simp only [List.length_append, List.length_map, List.length_replicate]
    omega
  · obtain ⟨d', e, hd⟩ := hk h (by simp)
    cases e
    obtain ⟨v, hv, rv⟩ := r.get hd
    refine ⟨v, ?_, rv⟩
    unfold L2.start
    have hi : i < vs.length := (List.getElem?_eq_some_iff.mp hv).1
    rw [List.getElem?_append_left (by rw [List.length_map]; exact hi), List.getElem?_map, hv]
    rfl
  · obtain ⟨d', e, _⟩ := hk h (by simp)
    cases e
  · obtain ⟨d', e, _⟩ := hk h1 (by simp)
    cases e
theorem fn_ok {P : Program} {w : World} {mg : Str → Option Value} {base : Heap} {x qual : Str} {st : Stmt} {f : Addr} {fd : FuncData} {N ps : List Str} {k : Nat} {R : List D → D → Prop} (F : Fun K x qual st f fd) (S : FnScope N ps (defScope st)) (hN : ps.length ≤ N.length) (hR : ∀ ds d, R ds d → ds.length = ps.length)
    (hb : ∀ (cdv : Value) (A : Around) (outer : List PySem.Env) (s : Shared) (H : Hp) (E : XK), Room k (A.deeper (envOfC qual (defScope st) s.heap.objs.size f cdv)) →
      ∃ t, PSs (cxOf CX0 P w K mg base N qual (defScope st) f cdv A outer s H E).nox (defBody st) t ∧ ∀ ds d, R ds d → ∀ G0 H0 Q Z, Rt K G0 H0 d Q → Co K G0 H0 (ds.map AS.dat ++ List.replicate (N.length - ds.length) AS.no) (t { nx := Z, rt := Q })) :
    FnOk P w K mg base CX0 (k + 1) f fd ps (SpR K R) := by
  refine F.ok S (fun vs H Q E h => ?_) (fun cdv A outer s H vs Q E hr h => ?_)
  · obtain ⟨G, ds, d, _, r, hr, _⟩ := h
    rw [r.len]
    exact hR ds d hr
  · obtain ⟨G, ds, d, sm, r, hrr, q⟩ := h
    obtain ⟨t, ht, hc⟩ := hb cdv A outer s H E hr
    exact ⟨t, ht, hc ds d hrr G H Q _ (fun v G' H' s' r' => q v G' H' s' r') _ G H (env_start sm r (by rw [hR ds d hrr]; exact hN))⟩
end Fw
set_option Elab.async false
set_option linter.all false
set_option maxRecDepth 100000
set_option maxHeartbeats 2000000
namespace Pg
open PySem PyProof.Rows L2 Fw
/-! ### the text -/
def topS (i : Nat) : Stmt := PySem.Challenge.pw_slopesteps_s01_solve.main.body.getD i (.Pass ⟨0, 0, 0, 0⟩)
/-- which built-in names stand as they are -/
structure Txt (mg : Str → Option Value) : Prop where
  b_len : mg "len" = none
  b_range : mg "range" = none
  b_max : mg "max" = none
  b_min : mg "min" = none
  b_abs : mg "abs" = none
  b_sum : mg "sum" = none
  b_any : mg "any" = none
  b_all : mg "all" = none
  b_enumerate : mg "enumerate" = none
  b_zip : mg "zip" = none
  b_reversed : mg "reversed" = none
  b_list : mg "list" = none
/-- a module's whole number -/
def Num (mg : Str → Option Value) (x : Str) (i : Int) : Prop := ∃ t, mg x = some (.int i t)
/-- a def of the text that keeps its promise -/
structure Cal (P : Program) (w : World) (K : PySem.W.Frag) (mg : Str → Option Value) (base : Heap) (k : Nat) (x : Str) (ps : List Str) (R : List D → D → Prop) : Prop where
  ex : ∃ f fd, FnOk P w K mg base CX0 k f fd ps (SpR K R) ∧ mg x = some (.ref f) ∧ PySem.W.keepIn K (.ref f) = true ∧ Binds K fd ps []
theorem hu65_of {k : Nat} {A : Around} (r : Room k A) : A.units + 65 < cLine := by have := r.un; omega
section
variable {X : Cx}
/-- // of great numbers, whatever the sign -/
def CDivX (_ j : Int) : Prop := j ≠ 0 ∧ j.natAbs.log2 < 9000
theorem op_fdivX : OpR X (binaryOp .FloorDiv) (rI CDivX fun i j => .int (i.fdiv j)) := opI fun i j _ _ _ _ _ hc q => floordiv_int hc.1 q (.inl (PyProof.noPylong_of_log2 hc.2))
end
/-! ### the same rules with the written part named (within a comprehension) -/
theorem ix_listK (K : PySem.W.Frag) {X : Cx} (h : X.K = K := by rfl) : IxR X (rIxL K) := by subst h; exact ix_list
theorem ix_tupK (K : PySem.W.Frag) {X : Cx} (h : X.K = K := by rfl) : IxR X (rIxT K) := by subst h; exact ix_tup
theorem sl_listK (K : PySem.W.Frag) {X : Cx} (h : X.K = K := by rfl) : SlR X (rSlL K) := by subst h; exact sl_list
theorem op_in_seqK (K : PySem.W.Frag) {X : Cx} (h : X.K = K := by rfl) : OpR X (compareOp .In) (rIn K false) := by subst h; exact op_in_seq
theorem op_notIn_seqK (K : PySem.W.Frag) {X : Cx} (h : X.K = K := by rfl) : OpR X (compareOp .NotIn) (rIn K true) := by subst h; exact op_notIn_seq
theorem op_eqDK (K : PySem.W.Frag) {X : Cx} (hu : X.A.units + 64 < cLine) (h : X.K = K := by rfl) : OpR X (compareOp .Eq) (rEqD K) := by subst h; exact op_eqD hu
theorem op_neDK (K : PySem.W.Frag) {X : Cx} (hu : X.A.units + 64 < cLine) (h : X.K = K := by rfl) : OpR X (compareOp .NotEq) (rNeD K) := by subst h; exact op_neD hu
def rLenK (K : PySem.W.Frag) : List V → Hp → VK → Prop := fun xs H Q => ∃ p ys, xs = [.ref p] ∧ (SqL K H p ys ∨ SqT K H p ys) ∧ Q (.int ys.length) H
theorem call_len_seqK (K : PySem.W.Frag) {X : Cx} (h : X.K = K := by rfl) : CallR X (.builtin "len") (rLenK K) := by subst h; exact call_len_seq
theorem pg_tupK (K : PySem.W.Frag) (n : Nat) {X : Cx} {es : List Expr} {k : Nat} {t : TGs} {pos : Pos} (hc : X.calm = true) (h : PGs X es t) (hK : X.K = K := by rfl)
    (hn : (assignEach es X.env).length = n := by rfl) (hst : (assignEach es X.env).findIdx? (·.1) = none := by rfl) : PG X (.Tuple es k pos) (gTup K n t) := by
  subst hK
  exact pg_tup hc h hn hst
/-- what follows an if is shown once, from slots as told -/
theorem c_cut {K : PySem.W.Frag} {G0 H0 : Hp} {as : List AS} {Dn : Ends} {tu tw : TS} (bs : List AS) (h : Co K G0 H0 as (tu { Dn with nx := At K G0 H0 bs })) (k : Co K G0 H0 bs (tw Dn)) : Co K G0 H0 as (Evl.tCut tu tw Dn) := fun σ G H E => ⟨At K G0 H0 bs, h σ G H E, fun σ' H' ⟨G', E'⟩ => k σ' G' H' E'⟩
theorem le_refl (as : List AS) : Le as as := ⟨rfl, fun _ _ h => .inr h⟩
end Pg
set_option Elab.async false
set_option linter.all false
set_option maxRecDepth 100000
set_option maxHeartbeats 2000000
namespace Pg
open PySem PyProof.Rows L2 Fw
theorem le_nil : Le [] [] := le_refl []
theorem le_no {a : AS} {bs as : List AS} (l : Le bs as) : Le (AS.no :: bs) (a :: as) := ⟨by rw [List.length_cons, List.length_cons, l.1], fun i b h => by
  cases i with
  | zero => exact .inl (Option.some.inj h).symm
  | succ i => exact l.2 i b h⟩
theorem le_eq {a b : AS} {bs as : List AS} (e : a = b) (l : Le bs as) : Le (a :: bs) (b :: as) := ⟨by rw [List.length_cons, List.length_cons, l.1], fun i c h => by
  cases i with
  | zero => rw [← e]; exact .inr h
  | succ i => exact l.2 i c h⟩
section
variable {K : PySem.W.Frag} {as : List AS} {ta tb : TE} {i j : Int}
theorem ev_mod (ha : EvR K ta as (.int i)) (hb : EvR K tb as (.int j)) (hc : 0 < j) : EvE K (tOp (rI (fun _ j => 0 < j) fun i j => .int (i % j)) ta tb) as (.int (i % j)) := ev_opC (C := fun _ j => 0 < j) ha hb hc
theorem ev_fdiv (ha : EvR K ta as (.int i)) (hb : EvR K tb as (.int j)) (hc : CDivX i j) : EvE K (tOp (rI CDivX fun i j => .int (i.fdiv j)) ta tb) as (.int (i.fdiv j)) := ev_opC ha hb hc
theorem ev_mul (ha : EvR K ta as (.int i)) (hb : EvR K tb as (.int j)) (hc : CMulW i j) : EvE K (tOp (rI CMulW fun i j => .int (i * j)) ta tb) as (.int (i * j)) := ev_opC ha hb hc
end
def dN (l : List Nat) : List D := l.map fun (b : Nat) => D.int (b : Int)
theorem dN_append (a b : List Nat) : dN (a ++ b) = dN a ++ dN b := List.map_append
theorem dN_reverse (a : List Nat) : dN a.reverse = (dN a).reverse := List.map_reverse
theorem dN_len (a : List Nat) : (dN a).length = a.length := List.length_map ..
theorem dN_dI (a : List Nat) : dN a = dI (a.map fun (b : Nat) => (b : Int)) := by
  unfold dN dI; rw [List.map_map]; rfl
/-! ### equal -/
theorem eqD_int (i j : Int) : eqD (.int i) (.int j) = decide (i = j) := by
  show (i == j) = _
  by_cases h : i = j
  · subst h; simp
  · rw [decide_eq_false h]; simpa using h
theorem eqvAll_dN : ∀ a b : List Nat, PyData.eqvAll (toPys (dN a)) (toPys (dN b)) = decide (a = b)
  | [], [] => rfl
  | [], _ :: _ => rfl
  | _ :: _, [] => rfl
  | x :: a, y :: b => by
    show (PyData.eqv (.int (x : Int)) (.int (y : Int)) && PyData.eqvAll (toPys (dN a)) (toPys (dN b))) = _
    rw [eqvAll_dN a b]
    show (((x : Int) == (y : Int)) && _) = _
    by_cases h : x = y
    · subst h
      by_cases k : a = b
      · subst k; simp
      · simp [k]
    · have : ¬ ((x : Int) = (y : Int)) := by omega
      simp [h, this]
theorem eqD_dN (a b : List Nat) : eqD (.lst (dN a)) (.lst (dN b)) = decide (a = b) := eqvAll_dN a b
theorem eqD_dN' (a b : List Nat) : eqD (.lst (dN a)) (.inp (dN b)) = decide (a = b) := eqvAll_dN a b
/-- == [] -/
theorem eqD_nil (l : List D) : eqD (.lst l) (.lst []) = decide (l = []) := by
  cases l with
  | nil => rfl
  | cons x l => rfl
mutual
theorem canLay_D : ∀ d : D, PyData.canLay0 (toPy d) = true
  | .non => rfl
  | .bl _ => rfl
  | .int _ => rfl
  | .lst xs => canLay_Ds xs
  | .tup xs => canLay_Ds xs
  | .inp xs => canLay_Ds xs
theorem canLay_Ds : ∀ ds : List D, PyData.canLayAll0 (toPys ds) = true
  | [] => rfl
  | d :: ds => by
    show (PyData.canLay0 (toPy d) && PyData.canLayAll0 (toPys ds)) = true
    rw [canLay_D d, canLay_Ds ds]; rfl
end
/-- how deep -/
def Dep (n : Nat) (d : D) : Prop := PyData.depth (toPy d) ≤ n
theorem dep_int (i : Int) (n : Nat) : Dep n (.int i) := Nat.zero_le _
theorem dep_non (n : Nat) : Dep n .non := Nat.zero_le _
theorem dep_all {n : Nat} : ∀ ds : List D, (∀ d ∈ ds, Dep n d) → PyData.depthAll (toPys ds) ≤ n
  | [], _ => Nat.zero_le _
  | d :: ds, h => by
    have h1 := h d (List.mem_cons_self ..)
    have h2 := dep_all ds fun e he => h e (List.mem_cons_of_mem _ he)
    show max (PyData.depth (toPy d)) (PyData.depthAll (toPys ds)) ≤ n
    unfold Dep at h1
    omega
theorem dep_lst {n : Nat} {ds : List D} (h : ∀ d ∈ ds, Dep n d) : Dep (n + 1) (.lst ds) := by
  have := dep_all ds h
  show PyData.depthAll (toPys ds) + 1 ≤ n + 1
  omega
theorem dep_tup {n : Nat} {ds : List D} (h : ∀ d ∈ ds, Dep n d) : Dep (n + 1) (.tup ds) := by
  have := dep_all ds h
  show PyData.depthAll (toPys ds) + 1 ≤ n + 1
  omega
theorem dep_inp {n : Nat} {ds : List D} (h : ∀ d ∈ ds, Dep n d) : Dep (n + 1) (.inp ds) := by
  have := dep_all ds h
  show PyData.depthAll (toPys ds) + 1 ≤ n + 1
  omega
theorem sh_of {n : Nat} {d : D} (h : Dep n d) (hn : n ≤ 64) : Sh d := by
  unfold Sh SeqAt.shaped
  rw [canLay_D, Bool.true_and]
  exact decide_eq_true (Nat.le_trans h hn)
theorem sh_int (i : Int) : Sh (.int i) := sh_of (dep_int i 0) (by decide)
theorem sh_non : Sh .non := sh_of (dep_non 0) (by decide)
theorem dep_dN {l : List Nat} : ∀ d ∈ dN l, Dep 0 d := fun d hd => by
  obtain ⟨b, _, rfl⟩ := List.mem_map.mp hd
  exact dep_int _ 0
theorem dep_dI {l : List Int} : ∀ d ∈ dI l, Dep 0 d := fun d hd => by
  obtain ⟨b, _, rfl⟩ := List.mem_map.mp hd
  exact dep_int _ 0
theorem sh_dN (l : List Nat) : Sh (.lst (dN l)) := sh_of (dep_lst dep_dN) (by decide)
theorem sh_dN' (l : List Nat) : Sh (.inp (dN l)) := sh_of (dep_inp dep_dN) (by decide)
theorem sh_dI (l : List Int) : Sh (.lst (dI l)) := sh_of (dep_lst dep_dI) (by decide)
theorem sh_nil : Sh (.lst []) := sh_dN []
end Pg
set_option Elab.async false
set_option linter.all false
set_option maxRecDepth 100000
set_option maxHeartbeats 2000000
namespace Pg
open PySem PyProof.Rows L2 Fw
section
variable {K : PySem.W.Frag} {G0 H0 : Hp} {as : List AS} {Dn : Ends} {tu : TS} {ds : List D} {wi : TI} {g : TG}
/-- a for whose turns also keep a fact -/
theorem c_forI (hw : ItE K wi as ds) (A : Nat → List AS) (I : Nat → Prop) (js : List Nat) (f : D → List AS → List AS) (hg : ∀ d, d ∈ ds → TgE K g d js (f d)) (h0 : Le (A 0) as) (hI : I 0)
    (hs : ∀ B C, Sub G0 H0 B C → ∀ i d, ds[i]? = some d → I i → Co K B C (f d (A i)) (tu { Dn with nx := fun σ H => I (i + 1) ∧ At K B C (A (i + 1)) σ H, ct := fun σ H => I (i + 1) ∧ At K B C (A (i + 1)) σ H, bk := Dn.nx })) (hd : I ds.length → Co K G0 H0 (A ds.length) Dn.nx) : Co K G0 H0 as (tFor wi g tu Dn) := fun σ G H E =>
  hw G0 H0 G H σ E _ fun J G1 H1 s1 w => by
    obtain ⟨u, E1⟩ := (E.step s1).down
    refine ⟨fun i m σ H => m = ds.length - i ∧ i ≤ ds.length ∧ I i ∧ At K G1 (Fw.join H0 G1) (A i) σ H, ⟨ds.length, by simp, Nat.zero_le _, hI, G1, E1.less h0⟩, ?_⟩
    rintro i m σ2 H2 ⟨rfl, hi, hI2, G2, E2⟩
    by_cases hlt : i < ds.length
    · refine .inr ⟨w.goes i G2 H2 hlt E2.st.g E2.st.s, _, fun σ' H' hx => ⟨ds.length - (i + 1), by omega, rfl, hlt, hx⟩, fun x H' y => ?_⟩
      have hd' : ds[i]? = some ds[i] := List.getElem?_eq_getElem hlt
      obtain ⟨G3, s3, r3⟩ := w.yields i _ G2 H2 x H' hd' E2.st.g E2.st.s y
      exact hg _ (List.mem_of_getElem? hd') _ _ G3 H' σ2 (A i) x (E2.step s3) r3 _ fun σ' E' _ _ => hs _ _ u i _ hd' hI2 σ' G3 H' E'
    · have e : i = ds.length := by omega
      subst e
      exact .inl ⟨w.stops G2 H2 E2.st.g E2.st.s, hd hI2 σ2 G2 H2 (E2.up u)⟩
theorem c_atI {bs : List AS} {p : Prop} (hp : p) (l : Le bs as) : Co K G0 H0 as (fun σ H => p ∧ At K G0 H0 bs σ H) := fun σ G H E => ⟨hp, G, E.less l⟩
end
/-! ### a statement with something behind it -/
section
variable {K : PySem.W.Frag} {G0 H0 : Hp} {as : List AS} {Dn : Ends} {ta tb te : TE} {tt : TT} {tu tw tz : TS} {d : D} {ds es : List D} {n : Nat} {wi : TI} {g : TG}
theorem q_asg (h : EvE K te as d) (k : Co K G0 H0 (as.set n (.dat d)) (tz Dn)) : Co K G0 H0 as (tSeq (tAsg te (gName n)) tz Dn) := c_asg (Dn := { Dn with nx := tz Dn }) h k
theorem q_new (h : EvN K te as ds) (k : Co K G0 H0 (as.set n (.mu ds)) (tz Dn)) : Co K G0 H0 as (tSeq (tAsg te (gName n)) tz Dn) := c_new (Dn := { Dn with nx := tz Dn }) h k
theorem q_app (hn : as[n]? = some (AS.mu ds)) (h : EvE K te as d) (hz : ds.length < 1000000) (k : Co K G0 H0 (as.set n (.mu (ds ++ [d]))) (tz Dn)) : Co K G0 H0 as (tSeq (tDrop (tBM K "list" rAppend (tVar n) (tCons te tNil))) tz Dn) := c_app (Dn := { Dn with nx := tz Dn }) hn h hz k
theorem q_ext (hn : as[n]? = some (AS.mu ds)) (h : EvE K te as (.lst es)) (hz : ds.length + es.length ≤ 1000000) (k : Co K G0 H0 (as.set n (.mu (ds ++ es))) (tz Dn)) : Co K G0 H0 as (tSeq (tDrop (tBM K "list" rExtend (tVar n) (tCons te tNil))) tz Dn) := c_ext (Dn := { Dn with nx := tz Dn }) hn h hz k
theorem q_set {k : Nat} (hn : as[n]? = some (AS.mu ds)) (h : EvE K te as d) (hb : EvR K tb as (.int (k : Int))) (hk : k < ds.length) (c : Co K G0 H0 (as.set n (.mu (ds.set k d))) (tz Dn)) : Co K G0 H0 as (tSeq (tAsg te (gSub (tVar n) tb rSetL)) tz Dn) := c_set (Dn := { Dn with nx := tz Dn }) hn h hb hk c
theorem q_if {b : Bool} (h : EvT K tt as b) (h1 : b = true → Co K G0 H0 as (tu { Dn with nx := tz Dn })) (h2 : b = false → Co K G0 H0 as (tw { Dn with nx := tz Dn })) : Co K G0 H0 as (tSeq (tIfS tt tu tw) tz Dn) := c_if (Dn := { Dn with nx := tz Dn }) h h1 h2
/-- an if without else -/
theorem q_when {b : Bool} (h : EvT K tt as b) (h1 : b = true → Co K G0 H0 as (tu { Dn with nx := tz Dn })) (h2 : b = false → Co K G0 H0 as (tz Dn)) : Co K G0 H0 as (tSeq (tIfS tt tu tNext) tz Dn) := c_if (Dn := { Dn with nx := tz Dn }) h h1 h2
theorem q_for (hw : ItE K wi as ds) (A : Nat → List AS) (js : List Nat) (f : D → List AS → List AS) (hg : ∀ d, d ∈ ds → TgE K g d js (f d)) (h0 : Le (A 0) as)
    (hs : ∀ B C, Sub G0 H0 B C → ∀ i d, ds[i]? = some d → Co K B C (f d (A i)) (tu { Dn with nx := At K B C (A (i + 1)), ct := At K B C (A (i + 1)), bk := tz Dn })) (hd : Co K G0 H0 (A ds.length) (tz Dn)) : Co K G0 H0 as (tSeq (tFor wi g tu) tz Dn) := c_for (Dn := { Dn with nx := tz Dn }) hw A js f hg h0 hs hd
theorem q_forI (hw : ItE K wi as ds) (A : Nat → List AS) (I : Nat → Prop) (js : List Nat) (f : D → List AS → List AS) (hg : ∀ d, d ∈ ds → TgE K g d js (f d)) (h0 : Le (A 0) as) (hI : I 0)
    (hs : ∀ B C, Sub G0 H0 B C → ∀ i d, ds[i]? = some d → I i → Co K B C (f d (A i)) (tu { Dn with nx := fun σ H => I (i + 1) ∧ At K B C (A (i + 1)) σ H, ct := fun σ H => I (i + 1) ∧ At K B C (A (i + 1)) σ H, bk := tz Dn })) (hd : I ds.length → Co K G0 H0 (A ds.length) (tz Dn)) : Co K G0 H0 as (tSeq (tFor wi g tu) tz Dn) := c_forI (Dn := { Dn with nx := tz Dn }) hw A I js f hg h0 hI hs hd
theorem q_while {S : Type} (A : S → List AS) (I : S → Prop) (m : S → Nat) (s0 : S) (hA : Le (A s0) as) (hI : I s0)
    (hs : ∀ s, I s → ∃ b, EvT K tt (A s) b ∧ (b = true → Co K G0 H0 (A s) (tu { Dn with nx := Nx K G0 H0 A I m s, ct := Nx K G0 H0 A I m s, bk := tz Dn })) ∧ (b = false → Co K G0 H0 (A s) (tz Dn))) : Co K G0 H0 as (tSeq (tWhile tt tu) tz Dn) := c_while (Dn := { Dn with nx := tz Dn }) A I m s0 hA hI hs
end
open Sl (Tm)
def dT (t : Tm) : D := .tup [.int (t.p : Int), .int t.n, .int (t.d : Int)]
def dTs (l : List Tm) : List D := l.map dT
def dO (o : Option Nat) : D := match o with
  | none => .non
  | some n => .int (n : Int)
theorem dTs_len (l : List Tm) : (dTs l).length = l.length := List.length_map ..
theorem dT_dep (t : Tm) : Dep 1 (dT t) := dep_tup fun d hd => by
  simp only [List.mem_cons, List.not_mem_nil, or_false] at hd
  rcases hd with rfl | rfl | rfl <;> exact dep_int _ 0
theorem dTs_dep (l : List Tm) : Dep 2 (.lst (dTs l)) := dep_lst fun d hd => by
  obtain ⟨t, _, rfl⟩ := List.mem_map.mp hd
  exact dT_dep t
/-! ### the text so far -/
def wAll : List Tm → List Nat
  | [] => []
  | t :: r => Sl.write (t :: r)
theorem wRest_append (l m : List Tm) : Sl.wRest (l ++ m) = Sl.wRest l ++ Sl.wRest m := List.flatMap_append
theorem wAll_more : ∀ (l : List Tm) (t : Tm), wAll (l ++ [t]) = wAll l ++ ((if l = [] then (if t.n < 0 then [45] else []) else [32, if t.n < 0 then 45 else 43, 32]) ++ Sl.wTerm t.p t.n.natAbs t.d)
  | [], t => by
    show (if t.n < 0 then [45] else []) ++ Sl.wTerm t.p t.n.natAbs t.d ++ Sl.wRest [] = _
    simp [wAll, Sl.wRest]
  | s :: l, t => by
    show (if s.n < 0 then [45] else []) ++ Sl.wTerm s.p s.n.natAbs s.d ++ Sl.wRest (l ++ [t]) = (if s.n < 0 then [45] else []) ++ Sl.wTerm s.p s.n.natAbs s.d ++ Sl.wRest l ++ _
    rw [wRest_append, List.append_assoc, List.append_assoc, List.append_assoc]
    congr 1
    congr 1
    congr 1
    show Sl.wOne t ++ [] = _
    rw [List.append_nil, if_neg (by simp)]
    rfl
theorem wAll_pre (l m : List Tm) : (wAll l).length ≤ (wAll (l ++ m)).length := by
  cases l with
  | nil => exact Nat.zero_le _
  | cons s l =>
    show ((if s.n < 0 then [45] else []) ++ Sl.wTerm s.p s.n.natAbs s.d ++ Sl.wRest l).length ≤ ((if s.n < 0 then [45] else []) ++ Sl.wTerm s.p s.n.natAbs s.d ++ Sl.wRest (l ++ m)).length
    rw [wRest_append, List.length_append, List.length_append (bs := Sl.wRest l ++ Sl.wRest m), List.length_append (as := Sl.wRest l)]
    omega
theorem wAll_take (l : List Tm) (i : Nat) : (wAll (l.take i)).length ≤ (wAll l).length := by
  have := wAll_pre (l.take i) (l.drop i)
  rwa [List.take_append_drop] at this
theorem wAll_nil (l : List Tm) : wAll l = [] ↔ l = [] := by
  cases l with
  | nil => simp [wAll]
  | cons s l =>
    constructor
    · intro h
      have : Sl.wTerm s.p s.n.natAbs s.d = [] := by
        have h' : (if s.n < 0 then [45] else []) ++ Sl.wTerm s.p s.n.natAbs s.d ++ Sl.wRest l = [] := h
        simp only [List.append_eq_nil_iff] at h'
        exact h'.1.2
      exact absurd this (Sl.term_ne _ _ _)
    · intro h; cases h
theorem wAll_write {l : List Tm} (h : l ≠ []) : wAll l = Sl.write l := by
  cases l with
  | nil => exact absurd rfl h
  | cons s l => rfl
/-! ### whole numbers read -/
theorem log2_of_lt {n k : Nat} (h : n < 2 ^ k) (hk : 0 < k) : n.log2 < k := by
  by_cases z : n = 0
  · rw [z]; simpa using hk
  · exact (Nat.log2_lt z).mpr h
theorem mulW_of {i j : Int} {a b : Nat} (h1 : i.natAbs.log2 ≤ a) (h2 : j.natAbs.log2 ≤ b) (h : a + b < 1000000) : CMulW i j := by
  unfold CMulW; omega
end Pg
set_option Elab.async false
set_option linter.all false
set_option maxRecDepth 100000
namespace Pg
open PySem PyProof.Rows L2 Fw
open PySem.W (Codec WData)
theorem rp_ints {K : PySem.W.Frag} {H : Hp} : ∀ {ns : List Int} {vs : List V}, DwAll K H vs (ns.map WData.int) → RpAll K H vs (dI ns)
  | [], _, .nil => .nil
  | n :: ns, _, .cons h r => by
    cases h
    exact .cons (.int n) (rp_ints (ns := ns) r)
theorem rp_inp {K : PySem.W.Frag} {H : Hp} {v : V} {ns : List Int} (h : Dw K H v (.list (ns.map WData.int))) : Rp K H v (.inp (dI ns)) := by
  cases h with
  | lst hs ha => exact .inp hs (rp_ints ha)
theorem rp_rows {K : PySem.W.Frag} {H : Hp} : ∀ {l : List (List Int)} {vs : List V}, DwAll K H vs (l.map fun ns => .list (ns.map WData.int)) → RpAll K H vs (l.map fun ns => .inp (dI ns))
  | [], _, .nil => .nil
  | n :: ns, _, .cons h r => .cons (rp_inp h) (rp_rows (l := ns) r)
theorem rp_inps {K : PySem.W.Frag} {H : Hp} {v : V} {l : List (List Int)} (h : Dw K H v (.list (l.map fun ns => .list (ns.map WData.int)))) : Rp K H v (.inp (l.map fun ns => .inp (dI ns))) := by
  cases h with
  | lst hs ha => exact .inp hs (rp_rows ha)
theorem dw_back {K : PySem.W.Frag} {H : Hp} {v : V} {ns : List Int} (h : Rp K H v (.lst (dI ns))) : Dw K H v (.list (ns.map WData.int)) := by
  obtain ⟨a, vs, rfl, hq, ra⟩ := h.seq
  have e := ra.dI_inv
  subst e
  exact .lst (.inl (.inl hq)) (dw_ints ns)
theorem bytes_nat {t : List Int} (h : ∀ x ∈ t, 0 ≤ x) : dI t = dN (t.map Int.toNat) := by
  unfold dI dN
  rw [List.map_map]
  refine List.map_congr_left fun x hx => ?_
  show D.int x = D.int ((x.toNat : Nat) : Int)
  rw [Int.toNat_of_nonneg (h x hx)]
end Pg
set_option Elab.async false
set_option linter.all false
set_option maxRecDepth 100000
set_option maxHeartbeats 2000000
namespace Pg
open PySem PyProof.Rows L2 Fw
abbrev s_greatest_divisor : Stmt := topS 11
abbrev nm_greatest_divisor : List Str := ["first", "second", "big", "small", "rest"]
theorem sc_greatest_divisor : FnScope nm_greatest_divisor ["first", "second"] (defScope s_greatest_divisor) := ⟨rfl, rfl, rfl, by decide +kernel, rfl, by decide +kernel, by decide +kernel⟩
def R_greatest_divisor : List D → D → Prop := fun ds d => ∃ a b : Int, ds = [.int a, .int b] ∧ d = .int (Nat.gcd a.natAbs b.natAbs)
theorem len_greatest_divisor {ds : List D} {d : D} (h : R_greatest_divisor ds d) : ds.length = 2 := by obtain ⟨a, b, rfl, _⟩ := h; rfl
theorem ok_greatest_divisor {P : Program} {w : World} {K : PySem.W.Frag} {mg : Str → Option Value} {base : Heap} {f : Addr} {fd : FuncData} (T : Txt mg) (F : Fun K "greatest_divisor" "greatest_divisor" s_greatest_divisor f fd) : FnOk P w K mg base CX0 1 f fd ["first", "second"] (SpR K R_greatest_divisor) := by
  refine fn_ok F sc_greatest_divisor (by decide) (fun ds d h => ?_) (fun cdv A outer s H E hr => ?_)
  · exact len_greatest_divisor h
  · have hu65 := hu65_of hr
    refine ⟨_, (pss_cons (ps_set (i := 2) sc_greatest_divisor.nd rfl (Or.inl rfl) (pe_callB call_abs (by rfl) T.b_abs (by decide +kernel) (pa_cons (pv 0) pa_nil)))
      (pss_cons (ps_set (i := 3) sc_greatest_divisor.nd rfl (Or.inl rfl) (pe_callB call_abs (by rfl) T.b_abs (by decide +kernel) (pa_cons (pv 1) pa_nil)))
      (pss_cons (ps_while PassesOwn.never (pt_cmpR op_ne (pv 3) pe_int (nomark _)) (pss_cons (ps_set (i := 4) sc_greatest_divisor.nd rfl (Or.inl rfl) (pe_op op_mod (pv 2) (pv 3)))
      (pss_cons (ps_set (i := 2) sc_greatest_divisor.nd rfl (Or.inl rfl) (pv 3))
      (pss_one (ps_set (i := 3) sc_greatest_divisor.nd rfl (Or.inl rfl) (pv 4))))))
      (pss_one (ps_ret (pv 2)))))), fun ds d hR G0 H0 Q Z k => ?_⟩
    obtain ⟨a, b, rfl, rfl⟩ := hR
    refine c_seq (c_asg (ev_abs rfl (ev_var rfl).r) ?_)
    refine c_seq (c_asg (ev_abs rfl (ev_var rfl).r) ?_)
    refine c_seq (c_while (fun s : Nat × Nat => [.dat (.int a), .dat (.int b), .dat (.int s.1), .dat (.int s.2), .no]) (fun s => Nat.gcd s.1 s.2 = Nat.gcd a.natAbs b.natAbs) (fun s => s.2) (a.natAbs, b.natAbs) (le_refl _) rfl fun s hs => ?_)
    refine ⟨_, et_test (ev_neI (ev_var rfl).r ev_i.r).r, fun hb => ?_, fun hb => ?_⟩
    · have h0 : s.2 ≠ 0 := by
        intro z
        rw [z] at hb
        exact absurd hb (by decide)
      refine c_seq (c_asg (ev_mod (ev_var rfl).r (ev_var rfl).r (by omega)) ?_)
      refine c_seq (c_asg (ev_var rfl) ?_)
      refine c_asg (ev_var rfl) ?_
      refine c_nx (s.2, s.1 % s.2) (le_eq rfl (le_eq rfl (le_eq rfl (le_eq rfl (le_no le_nil))))) ?_ (Nat.mod_lt _ (by omega))
      show Nat.gcd s.2 (s.1 % s.2) = _
      rw [← hs, Nat.gcd_comm s.1 s.2, Nat.gcd_rec s.2 s.1, Nat.gcd_comm]
    · have h0 : s.2 = 0 := by
        have : decide ((s.2 : Int) = 0) = true := by
          cases h : decide ((s.2 : Int) = 0) with
          | true => rfl
          | false => rw [h] at hb; cases hb
        have := of_decide_eq_true this
        omega
      refine c_ret (ev_is (ev_var rfl) ?_) k
      rw [h0, Nat.gcd_zero_right] at hs
      rw [hs]
abbrev s_write_whole : Stmt := topS 52
abbrev nm_write_whole : List Str := ["number", "digits", "rest"]
theorem sc_write_whole : FnScope nm_write_whole ["number"] (defScope s_write_whole) := ⟨rfl, rfl, rfl, by decide +kernel, rfl, by decide +kernel, by decide +kernel⟩
theorem digits_log (n : Nat) : (AlBase.digits n).length ≤ n.log2 + 1 := by
  induction n using Sl.digits_ind with
  | h0 n h => rw [Sl.digits_small h]; simp
  | h1 n h ih =>
    rw [Sl.digits_big h, List.length_append]
    have h1 : (n / 10).log2 + 1 ≤ n.log2 := by
      have e : n.log2 = (n / 2).log2 + 1 := by
        rw [Nat.log2_def, if_pos (by omega)]
      have m : (n / 10).log2 ≤ (n / 2).log2 := by
        by_cases z : n / 10 = 0
        · rw [z]; simp
        · exact (Nat.le_log2 (by omega)).mpr (Nat.le_trans (Nat.log2_self_le z) (by omega))
      omega
    simp only [List.length_cons, List.length_nil]
    omega
def R_write_whole : List D → D → Prop := fun ds d => ∃ n : Nat, ds = [.int n] ∧ n.log2 < 500000 ∧ d = .lst (dN (AlBase.digits n))
theorem len_write_whole {ds : List D} {d : D} (h : R_write_whole ds d) : ds.length = 1 := by obtain ⟨a, rfl, _⟩ := h; rfl
theorem ok_write_whole {P : Program} {w : World} {K : PySem.W.Frag} {mg : Str → Option Value} {base : Heap} {f : Addr} {fd : FuncData} (T : Txt mg) (n_DIGIT_ZERO : Num mg "DIGIT_ZERO" (48)) (F : Fun K "write_whole" "write_whole" s_write_whole f fd) : FnOk P w K mg base CX0 1 f fd ["number"] (SpR K R_write_whole) := by
  obtain ⟨t_DIGIT_ZERO, m_DIGIT_ZERO⟩ := n_DIGIT_ZERO
  refine fn_ok F sc_write_whole (by decide) (fun ds d h => ?_) (fun cdv A outer s H E hr => ?_)
  · exact len_write_whole h
  · have hu65 := hu65_of hr
    refine ⟨_, (pss_cons (ps_set (i := 1) sc_write_whole.nd rfl (Or.inl rfl) (pe_lst pa_nil))
      (pss_cons (ps_set (i := 2) sc_write_whole.nd rfl (Or.inl rfl) (pv 0))
      (pss_cons (ps_while PassesOwn.never (pt_cmpR op_gt (pv 2) pe_int (nomark _)) (pss_cons (ps_expr (pe_bm PySem.F.plainAttrs_list PySem.F.slot_list_append PySem.F.type_list_append mt_append (pv 1) (pa_cons (pe_op op_add (pe_glob (v := .int (48)) (by rfl) m_DIGIT_ZERO ⟨_, rfl⟩) (pe_op op_mod (pv 2) pe_int)) pa_nil)))
      (pss_one (ps_set (i := 2) sc_write_whole.nd rfl (Or.inl rfl) (pe_op op_fdivX (pv 2) pe_int)))))
      (pss_cons (ps_expr (pe_bm PySem.F.plainAttrs_list PySem.F.slot_list_append PySem.F.type_list_append mt_append (pv 1) (pa_cons (pe_op op_add (pe_glob (v := .int (48)) (by rfl) m_DIGIT_ZERO ⟨_, rfl⟩) (pv 2)) pa_nil)))
      (pss_cons (ps_expr (pe_bm0 PySem.F.plainAttrs_list PySem.F.slot_list_reverse PySem.F.type_list_reverse mt_reverse (pv 1)))
      (pss_one (ps_ret (pv 1)))))))), fun ds d hR G0 H0 Q Z k => ?_⟩
    obtain ⟨n, rfl, hn, rfl⟩ := hR
    refine c_seq (c_new (n_lst ea_nil (by decide)) ?_)
    refine c_seq (c_asg (ev_var rfl) ?_)
    refine c_seq (c_while (fun s : List Nat × Nat => [.dat (.int n), .mu (dN s.1), .dat (.int s.2)]) (fun s => AlBase.digits n = AlBase.digits s.2 ++ s.1.reverse) (fun s => s.2) ([], n) (le_refl _) (by simp) fun s hs => ?_)
    have hlen : s.1.length < 500001 := by
      have := digits_log n
      rw [hs, List.length_append, List.length_reverse] at this
      have h1 : 0 < (AlBase.digits s.2).length := List.length_pos_iff.mpr (Sl.digits_ne s.2)
      omega
    refine ⟨_, et_test (ev_opB (ev_var rfl).r ev_i.r).r, fun hb => ?_, fun hb => ?_⟩
    · have h9 : (9 : Int) < s.2 := of_decide_eq_true hb
      refine c_seq (c_app rfl (ev_opI ev_i.r (ev_mod (ev_var rfl).r ev_i.r (by decide)).r) (by rw [dN_len]; omega) ?_)
      refine c_asg (ev_fdiv (ev_var rfl).r ev_i.r (show CDivX _ 10 from ⟨by decide, by decide +kernel⟩)) ?_
      refine c_nx (s.1 ++ [48 + s.2 % 10], s.2 / 10) (le_eq rfl (le_eq ?_ (le_eq ?_ le_nil))) ?_ (by show s.2 / 10 < s.2; omega)
      · rw [dN_append]; rfl
      · show AS.dat (.int ((s.2 / 10 : Nat) : Int)) = AS.dat (.int (Int.fdiv s.2 10))
        rw [Int.fdiv_eq_ediv_of_nonneg _ (by decide)]; rfl
      · show AlBase.digits n = AlBase.digits (s.2 / 10) ++ (s.1 ++ [48 + s.2 % 10]).reverse
        rw [hs, Sl.digits_big (n := s.2) (by omega)]
        simp
    · have h9 : ¬ (9 : Int) < s.2 := of_decide_eq_false hb
      refine c_seq (c_app rfl (ev_opI ev_i.r (ev_var rfl).r) (by rw [dN_len]; omega) ?_)
      refine c_seq (c_rev rfl ?_)
      refine c_frz (n := 1) rfl ?_
      refine c_ret (ev_is (ev_var rfl) ?_) k
      rw [hs, Sl.digits_small (n := s.2) (by omega)]
      show D.lst (dN s.1 ++ [D.int (48 + (s.2 : Int))]).reverse = D.lst (dN ([48 + s.2] ++ s.1.reverse))
      rw [dN_append, dN_reverse, List.reverse_append]
      rfl
end Pg
set_option Elab.async false
set_option linter.all false
set_option maxRecDepth 100000
set_option maxHeartbeats 2000000
namespace Pg
open PySem PyProof.Rows L2 Fw
abbrev s_write_fraction : Stmt := topS 51
abbrev nm_write_fraction : List Str := ["top", "bottom"]
theorem sc_write_fraction : FnScope nm_write_fraction ["top", "bottom"] (defScope s_write_fraction) := ⟨rfl, rfl, rfl, by decide +kernel, rfl, by decide +kernel, by decide +kernel⟩
theorem digits_len5 {n : Nat} (h : n.log2 < 500000) : (AlBase.digits n).length ≤ 500000 := by have := digits_log n; omega
def R_write_fraction : List D → D → Prop := fun ds d => ∃ n m : Nat, ds = [.int n, .int m] ∧ n.log2 < 400000 ∧ m.log2 < 400000 ∧ d = .lst (dN (Sl.wFrac n m))
theorem len_write_fraction {ds : List D} {d : D} (h : R_write_fraction ds d) : ds.length = 2 := by obtain ⟨a, b, rfl, _⟩ := h; rfl
theorem ok_write_fraction {P : Program} {w : World} {K : PySem.W.Frag} {mg : Str → Option Value} {base : Heap} {f : Addr} {fd : FuncData} (T : Txt mg) (c_write_whole : Cal P w K mg base 1 "write_whole" ["number"] R_write_whole) (n_SLASH : Num mg "SLASH" (47)) (F : Fun K "write_fraction" "write_fraction" s_write_fraction f fd) : FnOk P w K mg base CX0 2 f fd ["top", "bottom"] (SpR K R_write_fraction) := by
  obtain ⟨f_write_whole, fd_write_whole, G_write_whole, m_write_whole, k_write_whole, b_write_whole⟩ := c_write_whole.ex
  obtain ⟨t_SLASH, m_SLASH⟩ := n_SLASH
  refine fn_ok F sc_write_fraction (by decide) (fun ds d h => ?_) (fun cdv A outer s H E hr => ?_)
  · exact len_write_fraction h
  · have hu65 := hu65_of hr
    refine ⟨_, (pss_cons (ps_if (pt_cmpR op_eq (pv 1) pe_int (nomark _)) (pss_one (ps_ret (pe_call G_write_whole (hr.mono (by decide)) (by rfl) m_write_whole k_write_whole b_write_whole .nil pass0 (pa_cons (pv 0) pa_nil)))) pss_nil)
      (pss_one (ps_ret (pe_op op_cat (pe_op op_cat (pe_call G_write_whole (hr.mono (by decide)) (by rfl) m_write_whole k_write_whole b_write_whole .nil pass0 (pa_cons (pv 0) pa_nil)) (pe_lst (pa_cons (pe_glob (v := .int (47)) (by rfl) m_SLASH ⟨_, rfl⟩) pa_nil))) (pe_call G_write_whole (hr.mono (by decide)) (by rfl) m_write_whole k_write_whole b_write_whole .nil pass0 (pa_cons (pv 1) pa_nil)))))), fun ds d hR G0 H0 Q Z k => ?_⟩
    obtain ⟨n, m, rfl, hn, hm, rfl⟩ := hR
    have ln := digits_log n
    have lm := digits_log m
    refine c_seq (c_if (et_test (ev_eqI (ev_var rfl).r ev_i.r).r) (fun hb => ?_) (fun hb => ?_))
    · have h1 : m = 1 := by have := of_decide_eq_true hb; omega
      refine c_ret (ev_is (ev_call (ea_cons (ev_var rfl) ea_nil) ⟨n, rfl, by omega, rfl⟩) ?_) k
      unfold Sl.wFrac
      rw [if_pos h1]
    · have h1 : ¬ m = 1 := by have := of_decide_eq_false hb; omega
      refine c_ret (ev_is (n_cat (n_cat (ev_call (ea_cons (ev_var rfl) ea_nil) ⟨n, rfl, by omega, rfl⟩) (n_lst (ea_cons ev_i ea_nil) (by decide)).ev (by rw [dN_len]; simp; omega)).ev (ev_call (ea_cons (ev_var rfl) ea_nil) ⟨m, rfl, by omega, rfl⟩) (by rw [List.length_append, dN_len, dN_len]; simp; omega)).ev ?_) k
      unfold Sl.wFrac
      rw [if_neg h1]
      show D.lst (dN (AlBase.digits n) ++ [D.int 47] ++ dN (AlBase.digits m)) = D.lst (dN (AlBase.digits n ++ 47 :: AlBase.digits m))
      rw [dN_append, List.append_assoc]
      rfl
abbrev s_write_term : Stmt := topS 50
abbrev nm_write_term : List Str := ["power", "top", "bottom", "text"]
theorem sc_write_term : FnScope nm_write_term ["power", "top", "bottom"] (defScope s_write_term) := ⟨rfl, rfl, rfl, by decide +kernel, rfl, by decide +kernel, by decide +kernel⟩
theorem wFrac_len (n m : Nat) : (Sl.wFrac n m).length ≤ n.log2 + m.log2 + 3 := by
  have ln := digits_log n
  have lm := digits_log m
  unfold Sl.wFrac
  split
  · omega
  · rw [List.length_append, List.length_cons]; omega
theorem wPow_len (p : Nat) : (Sl.wPow p).length ≤ p.log2 + 3 := by
  have lm := digits_log p
  unfold Sl.wPow
  split
  · simp
  · simp; omega
theorem wTerm_len (p n m : Nat) : (Sl.wTerm p n m).length ≤ p.log2 + n.log2 + m.log2 + 7 := by
  have l1 := wFrac_len n m
  have l2 := wPow_len p
  unfold Sl.wTerm
  split
  · omega
  · split
    · omega
    · rw [List.length_append, List.length_cons]; omega
def R_write_term : List D → D → Prop := fun ds d => ∃ p n m : Nat, ds = [.int p, .int n, .int m] ∧ p.log2 < 100000 ∧ n.log2 < 100000 ∧ m.log2 < 100000 ∧ d = .lst (dN (Sl.wTerm p n m))
theorem len_write_term {ds : List D} {d : D} (h : R_write_term ds d) : ds.length = 3 := by obtain ⟨p, a, b, rfl, _⟩ := h; rfl
theorem ok_write_term {P : Program} {w : World} {K : PySem.W.Frag} {mg : Str → Option Value} {base : Heap} {f : Addr} {fd : FuncData} (T : Txt mg) (c_write_fraction : Cal P w K mg base 2 "write_fraction" ["top", "bottom"] R_write_fraction) (c_write_whole : Cal P w K mg base 1 "write_whole" ["number"] R_write_whole) (n_STAR : Num mg "STAR" (42)) (n_LETTER_X : Num mg "LETTER_X" (120)) (n_CARET : Num mg "CARET" (94)) (F : Fun K "write_term" "write_term" s_write_term f fd) : FnOk P w K mg base CX0 3 f fd ["power", "top", "bottom"] (SpR K R_write_term) := by
  obtain ⟨f_write_fraction, fd_write_fraction, G_write_fraction, m_write_fraction, k_write_fraction, b_write_fraction⟩ := c_write_fraction.ex
  obtain ⟨f_write_whole, fd_write_whole, G_write_whole, m_write_whole, k_write_whole, b_write_whole⟩ := c_write_whole.ex
  obtain ⟨t_STAR, m_STAR⟩ := n_STAR
  obtain ⟨t_LETTER_X, m_LETTER_X⟩ := n_LETTER_X
  obtain ⟨t_CARET, m_CARET⟩ := n_CARET
  refine fn_ok F sc_write_term (by decide) (fun ds d h => ?_) (fun cdv A outer s H E hr => ?_)
  · exact len_write_term h
  · have hu65 := hu65_of hr
    refine ⟨_, (pss_cons (ps_if (pt_cmpR op_eq (pv 0) pe_int (nomark _)) (pss_one (ps_ret (pe_call G_write_fraction (hr.mono (by decide)) (by rfl) m_write_fraction k_write_fraction b_write_fraction .nil pass0 (pa_cons (pv 1) (pa_cons (pv 2) pa_nil))))) pss_nil)
      (pss_cons (ps_set (i := 3) sc_write_term.nd rfl (Or.inl rfl) (pe_lst pa_nil))
      (Evl.pss_cut (ps_if ((pw_or (pt_cmpR op_ne (pv 1) pe_int (nomark _)) (pw_or1 (pt_cmpR op_ne (pv 2) pe_int (nomark _))))).pt (pss_cons (ps_expr (pe_bm PySem.F.plainAttrs_list PySem.F.slot_list_extend PySem.F.type_list_extend mt_extend (pv 3) (pa_cons (pe_call G_write_fraction (hr.mono (by decide)) (by rfl) m_write_fraction k_write_fraction b_write_fraction .nil pass0 (pa_cons (pv 1) (pa_cons (pv 2) pa_nil))) pa_nil)))
      (pss_one (ps_expr (pe_bm PySem.F.plainAttrs_list PySem.F.slot_list_append PySem.F.type_list_append mt_append (pv 3) (pa_cons (pe_glob (v := .int (42)) (by rfl) m_STAR ⟨_, rfl⟩) pa_nil))))) pss_nil)
      (pss_cons (ps_expr (pe_bm PySem.F.plainAttrs_list PySem.F.slot_list_append PySem.F.type_list_append mt_append (pv 3) (pa_cons (pe_glob (v := .int (120)) (by rfl) m_LETTER_X ⟨_, rfl⟩) pa_nil)))
      (Evl.pss_cut (ps_if (pt_cmpR op_ne (pv 0) pe_int (nomark _)) (pss_cons (ps_expr (pe_bm PySem.F.plainAttrs_list PySem.F.slot_list_append PySem.F.type_list_append mt_append (pv 3) (pa_cons (pe_glob (v := .int (94)) (by rfl) m_CARET ⟨_, rfl⟩) pa_nil)))
      (pss_one (ps_expr (pe_bm PySem.F.plainAttrs_list PySem.F.slot_list_extend PySem.F.type_list_extend mt_extend (pv 3) (pa_cons (pe_call G_write_whole (hr.mono (by decide)) (by rfl) m_write_whole k_write_whole b_write_whole .nil pass0 (pa_cons (pv 0) pa_nil)) pa_nil))))) pss_nil)
      (pss_one (ps_ret (pv 3)))))))), fun ds d hR G0 H0 Q Z k => ?_⟩
    obtain ⟨p, n, m, rfl, hp, hn, hm, rfl⟩ := hR
    have l1 := wFrac_len n m
    have l2 := digits_log p
    refine c_seq (c_if (et_test (ev_eqI (ev_var rfl).r ev_i.r).r) (fun hb => ?_) (fun hb => ?_))
    · have h1 : p = 0 := by have := of_decide_eq_true hb; omega
      refine c_ret (ev_is (ev_call (ea_cons (ev_var rfl) (ea_cons (ev_var rfl) ea_nil)) ⟨n, m, rfl, by omega, by omega, rfl⟩) ?_) k
      unfold Sl.wTerm
      rw [if_pos h1]
    · have h1 : ¬ p = 0 := by have := of_decide_eq_false hb; omega
      refine c_seq (c_new (n_lst ea_nil (by decide)) ?_)
      have c1 : decide ((n : Int) = 1) = decide (n = 1) := by
        by_cases h : n = 1
        · subst h; rfl
        · rw [decide_eq_false h, decide_eq_false (by omega)]
      have c2 : decide ((m : Int) = 1) = decide (m = 1) := by
        by_cases h : m = 1
        · subst h; rfl
        · rw [decide_eq_false h, decide_eq_false (by omega)]
      refine c_cut [.dat (.int p), .dat (.int n), .dat (.int m), .mu (dN (if n = 1 ∧ m = 1 then [] else Sl.wFrac n m ++ [42]))] ?_ ?_
      · refine c_if (et_or (et_test (ev_neI (ev_var rfl).r ev_i.r).r) fun _ => et_test (ev_neI (ev_var rfl).r ev_i.r).r) (fun hb => ?_) (fun hb => ?_)
        · refine c_seq (c_ext rfl (ev_call (ea_cons (ev_var rfl) (ea_cons (ev_var rfl) ea_nil)) ⟨n, m, rfl, by omega, by omega, rfl⟩) (by simp [dN_len]; omega) ?_)
          refine c_app rfl ev_i (by simp [dN_len]; omega) ?_
          refine c_at (le_eq rfl (le_eq rfl (le_eq rfl (le_eq ?_ le_nil))))
          rw [if_neg, dN_append]
          · rfl
          · intro z
            rw [c1, c2, z.1, z.2] at hb
            exact absurd hb (by decide)
        · refine c_at (le_eq rfl (le_eq rfl (le_eq rfl (le_eq ?_ le_nil))))
          rw [if_pos]
          · rfl
          · rw [c1, c2] at hb
            by_cases a : n = 1
            · by_cases b : m = 1
              · exact ⟨a, b⟩
              · rw [decide_eq_true a, decide_eq_false b] at hb; exact absurd hb (by decide)
            · rw [decide_eq_false a] at hb; exact absurd hb (by simp)
      · generalize hu : (if n = 1 ∧ m = 1 then [] else Sl.wFrac n m ++ [42]) = u
        have hul : u.length ≤ 200010 := by
          rw [← hu]; split
          · simp
          · simp; omega
        have e : u ++ Sl.wPow p = Sl.wTerm p n m := by
          unfold Sl.wTerm
          rw [if_neg h1, ← hu]
          split
          · rfl
          · rw [List.append_assoc]; rfl
        refine c_seq (c_app rfl ev_i (by rw [dN_len]; omega) ?_)
        refine c_cut [.dat (.int p), .dat (.int n), .dat (.int m), .mu (dN (u ++ Sl.wPow p))] ?_ ?_
        · refine c_if (et_test (ev_neI (ev_var rfl).r ev_i.r).r) (fun hb => ?_) (fun hb => ?_)
          · have h2 : ¬ p = 1 := by
              intro z; subst z; exact absurd hb (by decide)
            refine c_seq (c_app rfl ev_i (by simp [dN_len]; omega) ?_)
            refine c_ext rfl (ev_call (ea_cons (ev_var rfl) ea_nil) ⟨p, rfl, by omega, rfl⟩) (by simp [dN_len]; omega) ?_
            refine c_at (le_eq rfl (le_eq rfl (le_eq rfl (le_eq ?_ le_nil))))
            unfold Sl.wPow
            rw [if_neg h2]
            show AS.mu _ = AS.mu (dN u ++ [D.int 120] ++ [D.int 94] ++ dN (AlBase.digits p))
            rw [dN_append, List.append_assoc, List.append_assoc]
            rfl
          · have h2 : p = 1 := by
              cases h : decide ((p : Int) = 1) with
              | true => have := of_decide_eq_true h; omega
              | false => rw [h] at hb; cases hb
            refine c_at (le_eq rfl (le_eq rfl (le_eq rfl (le_eq ?_ le_nil))))
            unfold Sl.wPow
            rw [if_pos h2, dN_append]
            rfl
        · refine c_frz (n := 3) rfl ?_
          refine c_ret (ev_is (ev_var rfl) ?_) k
          rw [e]
end Pg
set_option Elab.async false
set_option linter.all false
set_option maxRecDepth 100000
set_option maxHeartbeats 2000000
namespace Pg
open PySem PyProof.Rows L2 Fw
abbrev s_write_polynomial : Stmt := topS 49
abbrev nm_write_polynomial : List Str := ["terms", "text", "power", "top", "bottom"]
theorem sc_write_polynomial : FnScope nm_write_polynomial ["terms"] (defScope s_write_polynomial) := ⟨rfl, rfl, rfl, by decide +kernel, rfl, by decide +kernel, by decide +kernel⟩
structure Okt (t : Sl.Tm) : Prop where
  p : t.p.log2 < 100000
  n : t.n.natAbs.log2 < 100000
  d : t.d.log2 < 100000
def R_write_polynomial : List D → D → Prop := fun ds d => ∃ ts : List Sl.Tm, ds = [.lst (dTs ts)] ∧ (∀ t ∈ ts, Okt t) ∧ (Sl.write ts).length ≤ 900000 ∧ d = .lst (dN (Sl.write ts))
theorem len_write_polynomial {ds : List D} {d : D} (h : R_write_polynomial ds d) : ds.length = 1 := by obtain ⟨a, rfl, _⟩ := h; rfl
theorem ok_write_polynomial {P : Program} {w : World} {K : PySem.W.Frag} {mg : Str → Option Value} {base : Heap} {f : Addr} {fd : FuncData} (T : Txt mg) (c_write_term : Cal P w K mg base 3 "write_term" ["power", "top", "bottom"] R_write_term) (n_DIGIT_ZERO : Num mg "DIGIT_ZERO" (48)) (n_BLANK : Num mg "BLANK" (32)) (n_MINUS : Num mg "MINUS" (45)) (n_PLUS : Num mg "PLUS" (43)) (F : Fun K "write_polynomial" "write_polynomial" s_write_polynomial f fd) : FnOk P w K mg base CX0 4 f fd ["terms"] (SpR K R_write_polynomial) := by
  obtain ⟨f_write_term, fd_write_term, G_write_term, m_write_term, k_write_term, b_write_term⟩ := c_write_term.ex
  obtain ⟨t_DIGIT_ZERO, m_DIGIT_ZERO⟩ := n_DIGIT_ZERO
  obtain ⟨t_BLANK, m_BLANK⟩ := n_BLANK
  obtain ⟨t_MINUS, m_MINUS⟩ := n_MINUS
  obtain ⟨t_PLUS, m_PLUS⟩ := n_PLUS
  refine fn_ok F sc_write_polynomial (by decide) (fun ds d h => ?_) (fun cdv A outer s H E hr => ?_)
  · exact len_write_polynomial h
  · have hu65 := hu65_of hr
    refine ⟨_, (pss_cons (ps_if (pt_cmpR (op_eqD hr.units) (pv 0) (pe_lst pa_nil) (nomark _)) (pss_one (ps_ret (pe_lst (pa_cons (pe_glob (v := .int (48)) (by rfl) m_DIGIT_ZERO ⟨_, rfl⟩) pa_nil)))) pss_nil)
      (pss_cons (ps_set (i := 1) sc_write_polynomial.nd rfl (Or.inl rfl) (pe_lst pa_nil))
      (pss_cons (ps_for PassesOwn.never rfl (pi_list (pv 0)) (pg_tup rfl (pgs_cons (pg_name (i := 2) sc_write_polynomial.nd rfl (Or.inl rfl)) (pgs_cons (pg_name (i := 3) sc_write_polynomial.nd rfl (Or.inl rfl)) (pgs_cons (pg_name (i := 4) sc_write_polynomial.nd rfl (Or.inl rfl)) pgs_nil)))) (Evl.pss_cut (ps_if (pt_cmpR (op_neD hr.units) (pv 1) (pe_lst pa_nil) (nomark _)) (pss_one (ps_expr (pe_bm PySem.F.plainAttrs_list PySem.F.slot_list_extend PySem.F.type_list_extend mt_extend (pv 1) (pa_cons (pe_lst (pa_cons (pe_glob (v := .int (32)) (by rfl) m_BLANK ⟨_, rfl⟩) (pa_cons (pe_ifExp (pt_cmpR op_lt (pv 3) pe_int (nomark _)) (pe_glob (v := .int (45)) (by rfl) m_MINUS ⟨_, rfl⟩) (pe_glob (v := .int (43)) (by rfl) m_PLUS ⟨_, rfl⟩)) (pa_cons (pe_glob (v := .int (32)) (by rfl) m_BLANK ⟨_, rfl⟩) pa_nil)))) pa_nil)))) (pss_one (ps_if (pt_cmpR op_lt (pv 3) pe_int (nomark _)) (pss_one (ps_expr (pe_bm PySem.F.plainAttrs_list PySem.F.slot_list_append PySem.F.type_list_append mt_append (pv 1) (pa_cons (pe_glob (v := .int (45)) (by rfl) m_MINUS ⟨_, rfl⟩) pa_nil)))) pss_nil)))
      (pss_one (ps_expr (pe_bm PySem.F.plainAttrs_list PySem.F.slot_list_extend PySem.F.type_list_extend mt_extend (pv 1) (pa_cons (pe_call G_write_term (hr.mono (by decide)) (by rfl) m_write_term k_write_term b_write_term .nil pass0 (pa_cons (pv 2) (pa_cons (pe_callB call_abs (by rfl) T.b_abs (by decide +kernel) (pa_cons (pv 3) pa_nil)) (pa_cons (pv 4) pa_nil)))) pa_nil))))))
      (pss_one (ps_ret (pv 1)))))), fun ds d hR G0 H0 Q Z k => ?_⟩
    obtain ⟨ts, rfl, hok, hlen, rfl⟩ := hR
    refine c_seq (c_if (et_test (ev_eqD (ev_var rfl).r (n_lst ea_nil (by decide)).ev.r (sh_of (dTs_dep ts) (by decide)) sh_nil).r) (fun hb => ?_) (fun hb => ?_))
    · rw [eqD_nil] at hb
      have e : ts = [] := by
        have := of_decide_eq_true hb
        exact List.map_eq_nil_iff.mp this
      subst e
      exact c_ret (n_lst (ea_cons ev_i ea_nil) (by decide)).ev k
    · rw [eqD_nil] at hb
      have hne : ts ≠ [] := fun z => of_decide_eq_false hb (by rw [z]; rfl)
      refine c_seq (c_new (n_lst ea_nil (by decide)) ?_)
      refine c_seq (c_for (it_list (ev_var rfl) .lst) (fun i => [.dat (.lst (dTs ts)), .mu (dN (wAll (ts.take i))), .no, .no, .no]) [2, 3, 4] (fun d as => match d with
        | .tup [a, b, c] => ((as.set 2 (.dat a)).set 3 (.dat b)).set 4 (.dat c)
        | _ => as) (fun d hd => ?_) (le_refl _) (fun B C sub i d hd => ?_) ?_)
      · obtain ⟨t, _, rfl⟩ := List.mem_map.mp hd
        exact tg_tup3
      · have hd' := hd
        unfold dTs at hd'
        rw [List.getElem?_map] at hd'
        obtain ⟨t, ht, rfl⟩ : ∃ t, ts[i]? = some t ∧ dT t = d := by
          cases e : ts[i]? with
          | none => rw [e] at hd'; cases hd'
          | some t => rw [e] at hd'; exact ⟨t, rfl, Option.some.inj hd'⟩
        have htk : ts.take (i + 1) = ts.take i ++ [t] := by rw [List.take_add_one, ht]; rfl
        have hmo := wAll_more (ts.take i) t
        rw [← htk] at hmo
        have hl1 := wAll_take ts (i + 1)
        rw [wAll_write hne] at hl1
        rw [hmo] at hl1
        simp only [List.length_append] at hl1
        have ho := hok t (List.mem_of_getElem? ht)
        show Co K B C [.dat (.lst (dTs ts)), .mu (dN (wAll (ts.take i))), .dat (.int t.p), .dat (.int t.n), .dat (.int t.d)] _
        generalize hpre : (if ts.take i = [] then (if t.n < 0 then [45] else []) else [32, if t.n < 0 then 45 else 43, 32]) = pre at hmo hl1
        refine c_cut [.dat (.lst (dTs ts)), .mu (dN (wAll (ts.take i) ++ pre)), .dat (.int t.p), .dat (.int t.n), .dat (.int t.d)] ?_ ?_
        · refine c_if (et_test (ev_neD (er_mu rfl) (n_lst ea_nil (by decide)).ev.r (sh_dN _) sh_nil).r) (fun hb => ?_) (fun hb => ?_)
          · have h1 : ts.take i ≠ [] := fun z => by
              rw [eqD_nil, z] at hb
              exact absurd hb (by decide)
            rw [if_neg h1] at hpre
            refine c_ext (es := dN [32, if t.n < 0 then 45 else 43, 32]) rfl (ev_is (n_lst (ea_cons ev_i (ea_cons (ev_if (d := .int (if t.n < 0 then 45 else 43)) (et_test (ev_opB (ev_var rfl).r ev_i.r).r) (fun q => ev_is ev_i (by rw [if_pos (of_decide_eq_true q)])) (fun q => ev_is ev_i (by rw [if_neg (of_decide_eq_false q)]))) (ea_cons ev_i ea_nil))) (by show 3 ≤ 1000000; decide)).ev ?_) (by rw [dN_len, dN_len]; have := wAll_take ts i; rw [wAll_write hne] at this; simp; omega) ?_
            · unfold dN
              simp only [List.map_cons, List.map_nil]
              congr 2
              split <;> rfl
            · refine c_at (le_eq rfl (le_eq ?_ (le_refl _)))
              rw [← hpre, dN_append]
          · have h1 : ts.take i = [] := by
              rw [eqD_nil] at hb
              cases h : decide (dN (wAll (ts.take i)) = []) with
              | true => exact (wAll_nil _).mp (List.map_eq_nil_iff.mp (of_decide_eq_true h))
              | false => rw [h] at hb; cases hb
            rw [if_pos h1] at hpre
            refine c_if (et_test (ev_opB (ev_var rfl).r ev_i.r).r) (fun q => ?_) (fun q => ?_)
            · have q' : t.n < 0 := of_decide_eq_true q
              rw [if_pos q'] at hpre
              refine c_app rfl ev_i (by rw [dN_len]; have := wAll_take ts i; rw [wAll_write hne] at this; omega) ?_
              refine c_at (le_eq rfl (le_eq ?_ (le_refl _)))
              rw [← hpre, dN_append]; rfl
            · have q' : ¬ t.n < 0 := of_decide_eq_false q
              rw [if_neg q'] at hpre
              refine c_at (le_eq rfl (le_eq ?_ (le_refl _)))
              rw [← hpre, List.append_nil]
        · refine c_ext rfl (ev_call (ea_cons (ev_var rfl) (ea_cons (ev_abs rfl (ev_var rfl).r) (ea_cons (ev_var rfl) ea_nil))) ⟨t.p, t.n.natAbs, t.d, rfl, ho.p, ho.n, ho.d, rfl⟩) (by rw [dN_len, dN_len, List.length_append]; omega) ?_
          refine c_at (le_eq rfl (le_eq ?_ (le_no (le_no (le_no le_nil)))))
          rw [hmo, ← dN_append, List.append_assoc]
      · refine c_frz (n := 1) rfl ?_
        refine c_ret (ev_is (ev_var rfl) ?_) k
        rw [dTs_len, List.take_length, wAll_write hne]
abbrev s_lowest_term : Stmt := topS 47
abbrev nm_lowest_term : List Str := ["term", "divisor"]
theorem sc_lowest_term : FnScope nm_lowest_term ["term"] (defScope s_lowest_term) := ⟨rfl, rfl, rfl, by decide +kernel, rfl, by decide +kernel, by decide +kernel⟩
/-- n over m in lowest terms -/
def lowG (n m : Int) : Int := if m < 0 then -(Nat.gcd n.natAbs m.natAbs : Nat) else (Nat.gcd n.natAbs m.natAbs : Nat)
def R_lowest_term : List D → D → Prop := fun ds d => ∃ p n m : Int, ds = [.tup [.int p, .int n, .int m]] ∧ m ≠ 0 ∧ m.natAbs.log2 < 9000 ∧ d = .tup [.int p, .int (n.fdiv (lowG n m)), .int (m.fdiv (lowG n m))]
theorem len_lowest_term {ds : List D} {d : D} (h : R_lowest_term ds d) : ds.length = 1 := by obtain ⟨p, a, b, rfl, _⟩ := h; rfl
theorem lowG_ok {n m : Int} (h : m ≠ 0) (hm : m.natAbs.log2 < 9000) (i : Int) : CDivX i (lowG n m) := by
  have hg : 0 < Nat.gcd n.natAbs m.natAbs := Nat.gcd_pos_of_pos_right _ (by omega)
  have hle : Nat.gcd n.natAbs m.natAbs ≤ m.natAbs := Nat.le_of_dvd (by omega) (Nat.gcd_dvd_right _ _)
  have ea : (lowG n m).natAbs = Nat.gcd n.natAbs m.natAbs := by unfold lowG; split <;> omega
  refine ⟨fun z => by rw [z] at ea; simp at ea; omega, ?_⟩
  rw [ea]
  refine (Nat.log2_lt (by omega)).mpr (Nat.lt_of_le_of_lt hle ((Nat.log2_lt (by omega)).mp hm))
theorem low_nat {t : Sl.Tm} (h : 0 < t.d) : D.tup [.int t.p, .int (t.n.fdiv (lowG t.n t.d)), .int ((t.d : Int).fdiv (lowG t.n t.d))] = dT (Sl.lowest t) := by
  have e : lowG t.n t.d = (Nat.gcd t.n.natAbs t.d : Nat) := by
    unfold lowG
    rw [if_neg (by omega), Int.natAbs_natCast]
  rw [e]
  unfold dT Sl.lowest
  rw [Int.fdiv_eq_ediv_of_nonneg _ (by omega), Int.fdiv_eq_ediv_of_nonneg _ (by omega)]
  rfl
theorem ok_lowest_term {P : Program} {w : World} {K : PySem.W.Frag} {mg : Str → Option Value} {base : Heap} {f : Addr} {fd : FuncData} (T : Txt mg) (c_greatest_divisor : Cal P w K mg base 1 "greatest_divisor" ["first", "second"] R_greatest_divisor) (F : Fun K "lowest_term" "lowest_term" s_lowest_term f fd) : FnOk P w K mg base CX0 2 f fd ["term"] (SpR K R_lowest_term) := by
  obtain ⟨f_greatest_divisor, fd_greatest_divisor, G_greatest_divisor, m_greatest_divisor, k_greatest_divisor, b_greatest_divisor⟩ := c_greatest_divisor.ex
  refine fn_ok F sc_lowest_term (by decide) (fun ds d h => ?_) (fun cdv A outer s H E hr => ?_)
  · exact len_lowest_term h
  · have hu65 := hu65_of hr
    refine ⟨_, (pss_cons (ps_set (i := 1) sc_lowest_term.nd rfl (Or.inl rfl) (pe_call G_greatest_divisor (hr.mono (by decide)) (by rfl) m_greatest_divisor k_greatest_divisor b_greatest_divisor .nil pass0 (pa_cons (pe_ix ix_tup (pv 0) pe_int (fun _ _ => rfl)) (pa_cons (pe_ix ix_tup (pv 0) pe_int (fun _ _ => rfl)) pa_nil))))
      (Evl.pss_cut (ps_if (pt_cmpR op_lt (pe_ix ix_tup (pv 0) pe_int (fun _ _ => rfl)) pe_int (nomark _)) (pss_one (ps_set (i := 1) sc_lowest_term.nd rfl (Or.inl rfl) (pe_un un_neg (pv 1)))) pss_nil)
      (pss_one (ps_ret (pe_tup (pa_cons (pe_ix ix_tup (pv 0) pe_int (fun _ _ => rfl)) (pa_cons (pe_op op_fdivX (pe_ix ix_tup (pv 0) pe_int (fun _ _ => rfl)) (pv 1)) (pa_cons (pe_op op_fdivX (pe_ix ix_tup (pv 0) pe_int (fun _ _ => rfl)) (pv 1)) pa_nil)))))))), fun ds d hR G0 H0 Q Z k => ?_⟩
    obtain ⟨p, n, m, rfl, h0, hm, rfl⟩ := hR
    have hc := fun i => lowG_ok (n := n) h0 hm i
    refine c_seq (c_asg (ev_call (ea_cons (ev_ixT (k := 1) (ev_var rfl) ev_i.r rfl) (ea_cons (ev_ixT (k := 2) (ev_var rfl) ev_i.r rfl) ea_nil)) ⟨n, m, rfl, rfl⟩) ?_)
    refine c_cut [.dat (.tup [.int p, .int n, .int m]), .dat (.int (lowG n m))] ?_ ?_
    · refine c_if (et_test (ev_opB (ev_ixT (k := 2) (ev_var rfl) ev_i.r rfl).r ev_i.r).r) (fun hb => ?_) (fun hb => ?_)
      · have h1 : m < 0 := of_decide_eq_true hb
        refine c_asg (ev_neg (ev_var rfl).r) ?_
        refine c_at (le_eq rfl (le_eq ?_ le_nil))
        unfold lowG
        rw [if_pos h1]
      · have h1 : ¬ m < 0 := of_decide_eq_false hb
        refine c_at (le_eq rfl (le_eq ?_ le_nil))
        unfold lowG
        rw [if_neg h1]
    · refine c_ret (ev_tup (ea_cons (ev_ixT (k := 0) (ev_var rfl) ev_i.r rfl) (ea_cons (ev_fdiv (ev_ixT (k := 1) (ev_var rfl) ev_i.r rfl).r (ev_var rfl).r (hc _)) (ea_cons (ev_fdiv (ev_ixT (k := 2) (ev_var rfl) ev_i.r rfl).r (ev_var rfl).r (hc _)) ea_nil))) (by show 3 ≤ 1000000; decide)) k
end Pg
set_option Elab.async false
set_option linter.all false
set_option maxRecDepth 100000
set_option maxHeartbeats 2000000
namespace Pg
open PySem PyProof.Rows L2 Fw
abbrev s_read_whole : Stmt := topS 45
abbrev nm_read_whole : List Str := ["piece", "number", "byte"]
theorem sc_read_whole : FnScope nm_read_whole ["piece"] (defScope s_read_whole) := ⟨rfl, rfl, rfl, by decide +kernel, rfl, by decide +kernel, by decide +kernel⟩
def val10 (w : List Nat) : Nat := w.foldl (fun (n b : Nat) => 10 * n + (b - 48)) 0
def dig (b : Nat) : Bool := decide (48 ≤ b) && decide (b ≤ 57)
theorem val10_more (w : List Nat) (b : Nat) : val10 (w ++ [b]) = 10 * val10 w + (b - 48) := by
  unfold val10; rw [List.foldl_append]; rfl
theorem val10_lt : ∀ (w : List Nat), w.all dig = true → val10 w < 2 ^ (4 * w.length + 1) := by
  intro w
  generalize hn : w.length = n
  induction n generalizing w with
  | zero =>
    intro _
    have : w = [] := List.eq_nil_of_length_eq_zero hn
    subst this; decide
  | succ n ih =>
    intro h
    obtain ⟨v, b, rfl⟩ : ∃ v b, w = v ++ [b] := ⟨w.dropLast, w.getLast (by intro z; subst z; simp at hn), (List.dropLast_concat_getLast _).symm⟩
    rw [List.length_append] at hn
    rw [List.all_append, Bool.and_eq_true] at h
    have ih' := ih v (by simpa using hn) h.1
    have hb : b ≤ 57 := by
      have := h.2
      simp [dig] at this
      omega
    rw [val10_more]
    have e : 2 ^ (4 * (n + 1) + 1) = 16 * 2 ^ (4 * n + 1) := by
      rw [show 4 * (n + 1) + 1 = (4 * n + 1) + 4 by omega, Nat.pow_add]
      omega
    rw [e]
    omega
def R_read_whole : List D → D → Prop := fun ds d => ∃ w : List Nat, ds = [.lst (dN w)] ∧ w.length ≤ 1000 ∧ d = dO (AlBase.readDigits w)
theorem len_read_whole {ds : List D} {d : D} (h : R_read_whole ds d) : ds.length = 1 := by obtain ⟨a, rfl, _⟩ := h; rfl
theorem ok_read_whole {P : Program} {w : World} {K : PySem.W.Frag} {mg : Str → Option Value} {base : Heap} {f : Addr} {fd : FuncData} (T : Txt mg) (n_DIGIT_NINE : Num mg "DIGIT_NINE" (57)) (n_DIGIT_ZERO : Num mg "DIGIT_ZERO" (48)) (F : Fun K "read_whole" "read_whole" s_read_whole f fd) : FnOk P w K mg base CX0 1 f fd ["piece"] (SpR K R_read_whole) := by
  obtain ⟨t_DIGIT_NINE, m_DIGIT_NINE⟩ := n_DIGIT_NINE
  obtain ⟨t_DIGIT_ZERO, m_DIGIT_ZERO⟩ := n_DIGIT_ZERO
  refine fn_ok F sc_read_whole (by decide) (fun ds d h => ?_) (fun cdv A outer s H E hr => ?_)
  · exact len_read_whole h
  · have hu65 := hu65_of hr
    refine ⟨_, (pss_cons (ps_if (pt_cmpR (op_eqD hr.units) (pv 0) (pe_lst pa_nil) (nomark _)) (pss_one (ps_ret pe_non)) pss_nil)
      (pss_cons (ps_set (i := 1) sc_read_whole.nd rfl (Or.inl rfl) pe_int)
      (pss_cons (ps_for PassesOwn.never rfl (pi_list (pv 0)) (pg_name (i := 2) sc_read_whole.nd rfl (Or.inl rfl)) (pss_cons (ps_if ((pw_or (pt_cmpR op_lt (pv 2) (pe_glob (v := .int (48)) (by rfl) m_DIGIT_ZERO ⟨_, rfl⟩) (nomark _)) (pw_or1 (pt_cmpR op_gt (pv 2) (pe_glob (v := .int (57)) (by rfl) m_DIGIT_NINE ⟨_, rfl⟩) (nomark _))))).pt (pss_one (ps_ret pe_non)) pss_nil)
      (pss_one (ps_set (i := 1) sc_read_whole.nd rfl (Or.inl rfl) (pe_op op_sub (pe_op op_add (pe_op op_mulW (pv 1) pe_int) (pv 2)) (pe_glob (v := .int (48)) (by rfl) m_DIGIT_ZERO ⟨_, rfl⟩))))))
      (pss_one (ps_ret (pv 1)))))), fun ds d hR G0 H0 Q Z k => ?_⟩
    obtain ⟨w, rfl, hw, rfl⟩ := hR
    refine q_when (et_test (ev_eqD (ev_var rfl).r (n_lst ea_nil (by decide)).ev.r (sh_dN w) sh_nil).r) (fun hb => ?_) (fun hb => ?_)
    · rw [eqD_nil] at hb
      have e : w = [] := List.map_eq_nil_iff.mp (of_decide_eq_true hb)
      subst e
      exact c_ret ev_non k
    · rw [eqD_nil] at hb
      have hne : w ≠ [] := fun z => of_decide_eq_false hb (by rw [z]; rfl)
      refine q_asg ev_i ?_
      refine q_forI (it_list (ev_var rfl) .lst) (fun i => [.dat (.lst (dN w)), .dat (.int (val10 (w.take i))), .no]) (fun i => (w.take i).all dig = true) [2] (fun d as => as.set 2 (.dat d)) (fun d _ => tg_name) (le_refl _) (by simp) (fun B C sub i d hd hI => ?_) fun hI => ?_
      · have hd' := hd
        unfold dN at hd'
        rw [List.getElem?_map] at hd'
        obtain ⟨b, hb', rfl⟩ : ∃ b, w[i]? = some b ∧ D.int (b : Int) = d := by
          cases e : w[i]? with
          | none => rw [e] at hd'; cases hd'
          | some t => rw [e] at hd'; exact ⟨t, rfl, Option.some.inj hd'⟩
        have htk : w.take (i + 1) = w.take i ++ [b] := by rw [List.take_add_one, hb']; rfl
        have hlen : (w.take i).length ≤ 1000 := by rw [List.length_take]; omega
        show Co K B C [.dat (.lst (dN w)), .dat (.int (val10 (w.take i))), .dat (.int b)] _
        refine q_when (et_or (et_test (ev_opB (ev_var rfl).r ev_i.r).r) fun _ => et_test (ev_opB (ev_var rfl).r ev_i.r).r) (fun q => ?_) (fun q => ?_)
        · refine c_ret (ev_is ev_non ?_) (k.up sub)
          have hnd : dig b = false := by
            rw [Bool.or_eq_true] at q
            unfold dig
            rcases q with q | q
            · have := of_decide_eq_true q
              rw [decide_eq_false (by omega)]; rfl
            · have := of_decide_eq_true q
              rw [decide_eq_false (p := b ≤ 57) (by omega), Bool.and_false]
          unfold AlBase.readDigits
          rw [if_neg hne, if_pos]
          · rfl
          · show w.all dig = false
            rw [List.all_eq_false]
            exact ⟨b, List.mem_of_getElem? hb', by rw [hnd]; decide⟩
        · have hbd : 48 ≤ b ∧ b ≤ 57 := by
            rw [Bool.or_eq_false_iff] at q
            have h1 := of_decide_eq_false q.1
            have h2 := of_decide_eq_false q.2
            omega
          have hv := log2_of_lt (val10_lt _ hI) (by omega)
          refine c_asg (ev_opI (ev_opI (ev_mul (ev_var rfl).r ev_i.r (mulW_of (a := 5000) (b := 5) (by rw [Int.natAbs_natCast]; omega) (by decide +kernel) (by decide))).r (ev_var rfl).r).r ev_i.r) ?_
          refine c_atI ?_ (le_eq rfl (le_eq ?_ (le_no le_nil)))
          · rw [htk, List.all_append, hI]
            simp [dig, hbd]
          · rw [htk, val10_more]
            congr 2
            omega
      · refine c_ret (ev_is (ev_var rfl) ?_) k
        rw [dN_len, List.take_length] at hI ⊢
        unfold AlBase.readDigits
        rw [if_neg hne, if_neg]
        · rfl
        · intro z
          have z' : w.all dig = false := z
          rw [hI] at z'; cases z'
abbrev s_read_fraction : Stmt := topS 44
abbrev nm_read_fraction : List Str := ["piece", "place", "bottom", "top"]
theorem sc_read_fraction : FnScope nm_read_fraction ["piece"] (defScope s_read_fraction) := ⟨rfl, rfl, rfl, by decide +kernel, rfl, by decide +kernel, by decide +kernel⟩
def dO2 (o : Option (Nat × Nat)) : D := match o with
  | none => .non
  | some x => .tup [.int (x.1 : Int), .int (x.2 : Int)]
theorem isNon_dO (o : Option Nat) : isNon (dO o) = o.isNone := by cases o <;> rfl
theorem isNon_dO2 (o : Option (Nat × Nat)) : isNon (dO2 o) = o.isNone := by cases o <;> rfl
theorem mem_cast (c : Nat) (w : List Nat) : ((c : Int) ∈ w.map fun (b : Nat) => (b : Int)) ↔ c ∈ w := by
  rw [List.mem_map]
  constructor
  · rintro ⟨b, hb, e⟩
    have : b = c := by omega
    rw [← this]; exact hb
  · intro h; exact ⟨c, h, rfl⟩
theorem idx_cast (c : Nat) : ∀ w : List Nat, (w.map fun (b : Nat) => (b : Int)).idxOf (c : Int) = w.idxOf c
  | [] => rfl
  | b :: w => by
    rw [List.map_cons, List.idxOf_cons, List.idxOf_cons, idx_cast c w]
    by_cases h : b = c
    · subst h; simp
    · have : ¬ ((b : Int) = (c : Int)) := by omega
      rw [show ((b : Int) == (c : Int)) = false by simpa using this, show (b == c) = false by simpa using h]
def fracOf : Option Nat → Option Nat → Option (Nat × Nat)
  | some t, some b => if b = 0 then none else some (t, b)
  | _, _ => none
theorem readFraction_of (w : List Nat) : Sl.readFraction w = fracOf (if 47 ∈ w then AlBase.readDigits (w.take (w.idxOf 47)) else AlBase.readDigits w) (if 47 ∈ w then AlBase.readDigits (w.drop (w.idxOf 47 + 1)) else some 1) := by
  unfold Sl.readFraction
  simp only
  split
  · rename_i t b e1 e2
    rw [e1, e2]; rfl
  · rename_i h
    unfold fracOf
    split
    · rename_i t b e1 e2
      exact absurd e2 (h t b e1)
    · rfl
theorem cut_dN_to (w : List Nat) (k : Nat) : cut (dN w) none (some (k : Int)) = dN (w.take k) := by rw [cut_to]; exact List.map_take.symm
theorem cut_dN_from (w : List Nat) (k : Nat) : cut (dN w) (some (k : Int)) none = dN (w.drop k) := by rw [cut_from]; exact List.map_drop.symm
section
variable {K : PySem.W.Frag} {as : List AS} {ta tb te : TE}
/-- c in w, w.index(c) -/
theorem ev_inN {w : List Nat} {c : Nat} (ha : EvR K ta as (.int (c : Int))) (hb : EvR K tb as (.lst (dN w))) : EvE K (tOp (rIn K false) ta tb) as (.bl (decide (c ∈ w))) := by
  rw [dN_dI] at hb
  refine ev_is (ev_inI ha hb .lst) ?_
  show D.bl (decide ((c : Int) ∈ _)) = _
  congr 1
  by_cases h : c ∈ w
  · rw [decide_eq_true h, decide_eq_true ((mem_cast c w).mpr h)]
  · rw [decide_eq_false h, decide_eq_false (fun z => h ((mem_cast c w).mp z))]
theorem ev_indexN {w : List Nat} {c : Nat} (ha : EvR K ta as (.lst (dN w))) (hb : EvR K tb as (.int (c : Int))) (hi : c ∈ w) : EvE K (tBM K "list" (rIndex K) ta (tCons tb tNil)) as (.int (w.idxOf c : Nat)) := by
  rw [dN_dI] at ha
  refine ev_is (ev_index ha .lst hb ((mem_cast c w).mpr hi)) ?_
  rw [idx_cast]
end
def R_read_fraction : List D → D → Prop := fun ds d => ∃ w : List Nat, ds = [.lst (dN w)] ∧ w.length ≤ 1000 ∧ d = dO2 (Sl.readFraction w)
theorem len_read_fraction {ds : List D} {d : D} (h : R_read_fraction ds d) : ds.length = 1 := by obtain ⟨a, rfl, _⟩ := h; rfl
theorem ok_read_fraction {P : Program} {w : World} {K : PySem.W.Frag} {mg : Str → Option Value} {base : Heap} {f : Addr} {fd : FuncData} (T : Txt mg) (c_read_whole : Cal P w K mg base 1 "read_whole" ["piece"] R_read_whole) (n_SLASH : Num mg "SLASH" (47)) (F : Fun K "read_fraction" "read_fraction" s_read_fraction f fd) : FnOk P w K mg base CX0 2 f fd ["piece"] (SpR K R_read_fraction) := by
  obtain ⟨f_read_whole, fd_read_whole, G_read_whole, m_read_whole, k_read_whole, b_read_whole⟩ := c_read_whole.ex
  obtain ⟨t_SLASH, m_SLASH⟩ := n_SLASH
  refine fn_ok F sc_read_fraction (by decide) (fun ds d h => ?_) (fun cdv A outer s H E hr => ?_)
  · exact len_read_fraction h
  · have hu65 := hu65_of hr
    refine ⟨_, (pss_cons (ps_set (i := 1) sc_read_fraction.nd rfl (Or.inl rfl) (pe_callB call_len_seq (by rfl) T.b_len PySem.boot_len (pa_cons (pv 0) pa_nil)))
      (pss_cons (ps_set (i := 2) sc_read_fraction.nd rfl (Or.inl rfl) pe_int)
      (Evl.pss_cut (ps_if (pt_cmpR op_in_seq (pe_glob (v := .int (47)) (by rfl) m_SLASH ⟨_, rfl⟩) (pv 0) (by with_unfolding_all rfl)) (pss_cons (ps_set (i := 1) sc_read_fraction.nd rfl (Or.inl rfl) (pe_bm PySem.F.plainAttrs_list PySem.F.slot_list_index PySem.F.type_list_index mt_index (pv 0) (pa_cons (pe_glob (v := .int (47)) (by rfl) m_SLASH ⟨_, rfl⟩) pa_nil)))
      (pss_one (ps_set (i := 2) sc_read_fraction.nd rfl (Or.inl rfl) (pe_call G_read_whole (hr.mono (by decide)) (by rfl) m_read_whole k_read_whole b_read_whole .nil pass0 (pa_cons (pe_slice sl_list (pv 0) (po_some (pe_op op_add (pv 1) pe_int)) po_none) pa_nil))))) pss_nil)
      (pss_cons (ps_set (i := 3) sc_read_fraction.nd rfl (Or.inl rfl) (pe_call G_read_whole (hr.mono (by decide)) (by rfl) m_read_whole k_read_whole b_read_whole .nil pass0 (pa_cons (pe_slice sl_list (pv 0) po_none (po_some (pv 1))) pa_nil)))
      (pss_cons (ps_if ((pw_or (pt_cmp (pc_isN (pv 3))) (pw_or (pt_cmp (pc_isN (pv 2))) (pw_or1 (pt_cmpR op_eq (pv 2) pe_int (nomark _)))))).pt (pss_one (ps_ret pe_non)) pss_nil)
      (pss_one (ps_ret (pe_tup (pa_cons (pv 3) (pa_cons (pv 2) pa_nil)))))))))), fun ds d hR G0 H0 Q Z k => ?_⟩
    obtain ⟨w, rfl, hw, rfl⟩ := hR
    refine q_asg (ev_len rfl (ev_var rfl).r .lst) ?_
    refine q_asg ev_i ?_
    generalize hb0 : (if 47 ∈ w then AlBase.readDigits (w.drop (w.idxOf 47 + 1)) else some 1) = bo
    refine c_cut [.dat (.lst (dN w)), .dat (.int ((if 47 ∈ w then w.idxOf 47 else w.length : Nat) : Int)), .dat (dO bo), .no] ?_ ?_
    · refine c_if (et_test (ev_inN (c := 47) ev_i.r (ev_var rfl).r).r) (fun hb => ?_) (fun hb => ?_)
      · have h : 47 ∈ w := of_decide_eq_true hb
        rw [if_pos h] at hb0
        refine q_asg (ev_indexN (c := 47) (ev_var rfl).r ev_i.r h) ?_
        refine c_asg (ev_call (ea_cons (ev_is (n_sl (hi := none) (ev_var rfl) .lst (eo_some (ev_opI (ev_var rfl).r ev_i.r).r) eo_none).ev (by
          show D.lst (cut (dN w) (some (((w.idxOf 47 + 1 : Nat)) : Int)) none) = _
          rw [cut_dN_from])) ea_nil) ⟨w.drop (w.idxOf 47 + 1), rfl, by rw [List.length_drop]; omega, rfl⟩) ?_
        refine c_at (le_eq rfl (le_eq ?_ (le_eq ?_ (le_no le_nil))))
        · rw [if_pos h]
        · rw [hb0]
      · have h : ¬ 47 ∈ w := of_decide_eq_false hb
        rw [if_neg h] at hb0
        refine c_at (le_eq rfl (le_eq ?_ (le_eq ?_ (le_no le_nil))))
        · rw [if_neg h, dN_len]
        · rw [← hb0]; rfl
    · generalize ht0 : (if 47 ∈ w then AlBase.readDigits (w.take (w.idxOf 47)) else AlBase.readDigits w) = to
      refine q_asg (d := dO to) (ev_call (ea_cons (ev_is (n_sl (lo := none) (ev_var rfl) .lst eo_none (eo_some (ev_var rfl).r)).ev (by rw [cut_dN_to])) ea_nil) ⟨w.take (if 47 ∈ w then w.idxOf 47 else w.length), rfl, by rw [List.length_take]; omega, ?_⟩) ?_
      · rw [← ht0]
        split
        · rfl
        · rw [List.take_length]
      · have e : Sl.readFraction w = fracOf to bo := by rw [readFraction_of, ht0, hb0]
        cases to with
        | none =>
          refine q_when (b := true) (et_or (b := true) (c := false) (et_is (et_B (ev_isN (ev_var rfl).r).r) rfl) fun z => by cases z) (fun _ => ?_) (fun z => by cases z)
          refine c_ret (ev_is ev_non ?_) k
          rw [e]; rfl
        | some t =>
          cases bo with
          | none =>
            refine q_when (b := true) (et_or (b := false) (c := true) (et_is (et_B (ev_isN (ev_var rfl).r).r) rfl) fun _ => et_or (b := true) (c := false) (et_is (et_B (ev_isN (ev_var rfl).r).r) rfl) fun z => by cases z) (fun _ => ?_) (fun z => by cases z)
            refine c_ret (ev_is ev_non ?_) k
            rw [e]; rfl
          | some b =>
            refine q_when (et_or (b := false) (et_is (et_B (ev_isN (ev_var rfl).r).r) rfl) fun _ => et_or (b := false) (et_is (et_B (ev_isN (ev_var rfl).r).r) rfl) fun _ => et_test (ev_eqI (ev_var rfl).r ev_i.r).r) (fun q => ?_) (fun q => ?_)
            · have q' : decide ((b : Int) = 0) = true := q
              have h0 : b = 0 := by have := of_decide_eq_true q'; omega
              refine c_ret (ev_is ev_non ?_) k
              rw [e]
              show _ = dO2 (if b = 0 then none else some (t, b))
              rw [if_pos h0]; rfl
            · have q' : decide ((b : Int) = 0) = false := q
              have h0 : ¬ b = 0 := by have := of_decide_eq_false q'; omega
              refine c_ret (ev_is (ev_tup (ea_cons (ev_var rfl) (ea_cons (ev_var rfl) ea_nil)) (by show 2 ≤ 1000000; decide)) ?_) k
              rw [e]
              show _ = dO2 (if b = 0 then none else some (t, b))
              rw [if_neg h0]; rfl
abbrev s_read_power : Stmt := topS 43
abbrev nm_read_power : List Str := ["piece"]
theorem sc_read_power : FnScope nm_read_power ["piece"] (defScope s_read_power) := ⟨rfl, rfl, rfl, by decide +kernel, rfl, by decide +kernel, by decide +kernel⟩
def R_read_power : List D → D → Prop := fun ds d => ∃ w : List Nat, ds = [.lst (dN w)] ∧ w.length ≤ 1000 ∧ d = dO (Sl.readPower w)
theorem len_read_power {ds : List D} {d : D} (h : R_read_power ds d) : ds.length = 1 := by obtain ⟨a, rfl, _⟩ := h; rfl
theorem ok_read_power {P : Program} {w : World} {K : PySem.W.Frag} {mg : Str → Option Value} {base : Heap} {f : Addr} {fd : FuncData} (T : Txt mg) (c_read_whole : Cal P w K mg base 1 "read_whole" ["piece"] R_read_whole) (n_LETTER_X : Num mg "LETTER_X" (120)) (n_CARET : Num mg "CARET" (94)) (F : Fun K "read_power" "read_power" s_read_power f fd) : FnOk P w K mg base CX0 2 f fd ["piece"] (SpR K R_read_power) := by
  obtain ⟨f_read_whole, fd_read_whole, G_read_whole, m_read_whole, k_read_whole, b_read_whole⟩ := c_read_whole.ex
  obtain ⟨t_LETTER_X, m_LETTER_X⟩ := n_LETTER_X
  obtain ⟨t_CARET, m_CARET⟩ := n_CARET
  refine fn_ok F sc_read_power (by decide) (fun ds d h => ?_) (fun cdv A outer s H E hr => ?_)
  · exact len_read_power h
  · have hu65 := hu65_of hr
    refine ⟨_, (pss_cons (ps_if (pt_cmpR (op_eqD hr.units) (pv 0) (pe_lst (pa_cons (pe_glob (v := .int (120)) (by rfl) m_LETTER_X ⟨_, rfl⟩) pa_nil)) (nomark _)) (pss_one (ps_ret pe_int)) pss_nil)
      (pss_cons (ps_if (pt_cmpR (op_eqD hr.units) (pe_slice sl_list (pv 0) po_none (po_some pe_int)) (pe_lst (pa_cons (pe_glob (v := .int (120)) (by rfl) m_LETTER_X ⟨_, rfl⟩) (pa_cons (pe_glob (v := .int (94)) (by rfl) m_CARET ⟨_, rfl⟩) pa_nil))) (nomark _)) (pss_one (ps_ret (pe_call G_read_whole (hr.mono (by decide)) (by rfl) m_read_whole k_read_whole b_read_whole .nil pass0 (pa_cons (pe_slice sl_list (pv 0) (po_some pe_int) po_none) pa_nil)))) pss_nil)
      (pss_one (ps_ret pe_non)))), fun ds d hR G0 H0 Q Z k => ?_⟩
    obtain ⟨w, rfl, hw, rfl⟩ := hR
    refine q_when (et_test (ev_eqD (ev_var rfl).r (n_lst (ea_cons ev_i ea_nil) (by decide)).ev.r (sh_dN w) (sh_dN [120])).r) (fun hb => ?_) (fun hb => ?_)
    · have e : w = [120] := of_decide_eq_true ((eqD_dN w [120]).symm.trans hb)
      refine c_ret (ev_is ev_i ?_) k
      unfold Sl.readPower
      rw [if_pos e]; rfl
    · have h1 : ¬ w = [120] := of_decide_eq_false ((eqD_dN w [120]).symm.trans hb)
      refine q_when (et_test (ev_eqD (ev_is (n_sl (lo := none) (ev_var rfl) .lst eo_none (eo_some ev_i.r)).ev (show D.lst (cut (dN w) none (some ((2 : Nat) : Int))) = D.lst (dN (w.take 2)) by rw [cut_dN_to])).r (n_lst (ea_cons ev_i (ea_cons ev_i ea_nil)) (by decide)).ev.r (sh_dN (w.take 2)) (sh_dN [120, 94])).r) (fun hb => ?_) (fun hb => ?_)
      · have h2 : w.take 2 = [120, 94] := of_decide_eq_true ((eqD_dN (w.take 2) [120, 94]).symm.trans hb)
        refine c_ret (d := dO (Sl.readPower w)) (ev_call (ea_cons (ev_is (n_sl (hi := none) (ev_var rfl) .lst (eo_some ev_i.r) eo_none).ev (show D.lst (cut (dN w) (some ((2 : Nat) : Int)) none) = D.lst (dN (w.drop 2)) by rw [cut_dN_from])) ea_nil) ⟨w.drop 2, rfl, by rw [List.length_drop]; omega, ?_⟩) k
        unfold Sl.readPower
        rw [if_neg h1, if_pos h2]
      · have h2 : ¬ w.take 2 = [120, 94] := of_decide_eq_false ((eqD_dN (w.take 2) [120, 94]).symm.trans hb)
        refine c_ret (ev_is ev_non ?_) k
        unfold Sl.readPower
        rw [if_neg h1, if_neg h2]; rfl
end Pg
set_option Elab.async false
set_option linter.all false
set_option maxRecDepth 100000
set_option maxHeartbeats 2000000
namespace Pg
open PySem PyProof.Rows L2 Fw
abbrev s_read_term : Stmt := topS 42
abbrev nm_read_term : List Str := ["sign", "piece", "fraction", "power", "place"]
theorem sc_read_term : FnScope nm_read_term ["sign", "piece"] (defScope s_read_term) := ⟨rfl, rfl, rfl, by decide +kernel, rfl, by decide +kernel, by decide +kernel⟩
def dOT (o : Option Sl.Tm) : D := match o with
  | none => .non
  | some t => dT t
def termOf (s : Int) : Option (Nat × Nat) → Option Nat → Option Sl.Tm
  | some f, some p => some ⟨p, s * f.1, f.2⟩
  | _, _ => none
theorem readTerm_of (s : Int) (w : List Nat) : Sl.readTerm s w = termOf s (if 42 ∈ w then Sl.readFraction (w.take (w.idxOf 42)) else if 120 ∈ w then some (1, 1) else Sl.readFraction w) (if 42 ∈ w then Sl.readPower (w.drop (w.idxOf 42 + 1)) else if 120 ∈ w then Sl.readPower w else some 0) := by
  unfold Sl.readTerm
  simp only
  split
  · rename_i t b e1 e2
    rw [e1, e2]; rfl
  · rename_i h
    unfold termOf
    split
    · rename_i t b e1 e2
      exact absurd e2 (h t b e1)
    · rfl
theorem readDigits_log {w : List Nat} {n : Nat} (h : AlBase.readDigits w = some n) : n.log2 ≤ 4 * w.length := by
  unfold AlBase.readDigits at h
  split at h
  · cases h
  · split at h
    · cases h
    · rename_i h1 h2
      have e : val10 w = n := Option.some.inj h
      have ha : w.all dig = true := by
        cases q : w.all dig with
        | true => rfl
        | false => exact absurd q h2
      rw [← e]
      have := log2_of_lt (val10_lt w ha) (by omega)
      omega
theorem readFraction_log {w : List Nat} {x : Nat × Nat} (h : Sl.readFraction w = some x) : x.1.log2 ≤ 4 * w.length ∧ x.2.log2 ≤ 4 * w.length := by
  rw [readFraction_of] at h
  unfold fracOf at h
  split at h
  · rename_i t b e1 e2
    split at h
    · cases h
    · cases h
      refine ⟨?_, ?_⟩
      · split at e1
        · have := readDigits_log e1
          rw [List.length_take] at this
          show t.log2 ≤ _
          omega
        · exact readDigits_log e1
      · split at e2
        · have := readDigits_log e2
          rw [List.length_drop] at this
          show b.log2 ≤ _
          omega
        · cases e2
          show Nat.log2 1 ≤ _
          rw [show Nat.log2 1 = 0 by decide +kernel]; omega
  · cases h
theorem readPower_log {w : List Nat} {p : Nat} (h : Sl.readPower w = some p) : p.log2 ≤ 4 * w.length := by
  unfold Sl.readPower at h
  split at h
  · cases h
    rw [show Nat.log2 1 = 0 by decide +kernel]; omega
  · split at h
    · have := readDigits_log h
      rw [List.length_drop] at this
      omega
    · cases h
def R_read_term : List D → D → Prop := fun ds d => ∃ (s : Int) (w : List Nat), ds = [.int s, .lst (dN w)] ∧ (s = 1 ∨ s = -1) ∧ w.length ≤ 300 ∧ d = dOT (Sl.readTerm s w)
theorem len_read_term {ds : List D} {d : D} (h : R_read_term ds d) : ds.length = 2 := by obtain ⟨a, b, rfl, _⟩ := h; rfl
theorem ok_read_term {P : Program} {w : World} {K : PySem.W.Frag} {mg : Str → Option Value} {base : Heap} {f : Addr} {fd : FuncData} (T : Txt mg) (c_read_fraction : Cal P w K mg base 2 "read_fraction" ["piece"] R_read_fraction) (c_read_power : Cal P w K mg base 2 "read_power" ["piece"] R_read_power) (n_STAR : Num mg "STAR" (42)) (n_LETTER_X : Num mg "LETTER_X" (120)) (F : Fun K "read_term" "read_term" s_read_term f fd) : FnOk P w K mg base CX0 3 f fd ["sign", "piece"] (SpR K R_read_term) := by
  obtain ⟨f_read_fraction, fd_read_fraction, G_read_fraction, m_read_fraction, k_read_fraction, b_read_fraction⟩ := c_read_fraction.ex
  obtain ⟨f_read_power, fd_read_power, G_read_power, m_read_power, k_read_power, b_read_power⟩ := c_read_power.ex
  obtain ⟨t_STAR, m_STAR⟩ := n_STAR
  obtain ⟨t_LETTER_X, m_LETTER_X⟩ := n_LETTER_X
  refine fn_ok F sc_read_term (by decide) (fun ds d h => ?_) (fun cdv A outer s H E hr => ?_)
  · exact len_read_term h
  · have hu65 := hu65_of hr
    refine ⟨_, (pss_cons (ps_set (i := 2) sc_read_term.nd rfl (Or.inl rfl) (pe_tup (pa_cons pe_int (pa_cons pe_int pa_nil))))
      (pss_cons (ps_set (i := 3) sc_read_term.nd rfl (Or.inl rfl) pe_int)
      (Evl.pss_cut (ps_if (pt_cmpR op_in_seq (pe_glob (v := .int (42)) (by rfl) m_STAR ⟨_, rfl⟩) (pv 1) (by with_unfolding_all rfl)) (pss_cons (ps_set (i := 4) sc_read_term.nd rfl (Or.inl rfl) (pe_bm PySem.F.plainAttrs_list PySem.F.slot_list_index PySem.F.type_list_index mt_index (pv 1) (pa_cons (pe_glob (v := .int (42)) (by rfl) m_STAR ⟨_, rfl⟩) pa_nil)))
      (pss_cons (ps_set (i := 2) sc_read_term.nd rfl (Or.inl rfl) (pe_call G_read_fraction (hr.mono (by decide)) (by rfl) m_read_fraction k_read_fraction b_read_fraction .nil pass0 (pa_cons (pe_slice sl_list (pv 1) po_none (po_some (pv 4))) pa_nil)))
      (pss_one (ps_set (i := 3) sc_read_term.nd rfl (Or.inl rfl) (pe_call G_read_power (hr.mono (by decide)) (by rfl) m_read_power k_read_power b_read_power .nil pass0 (pa_cons (pe_slice sl_list (pv 1) (po_some (pe_op op_add (pv 4) pe_int)) po_none) pa_nil)))))) (pss_one (ps_if (pt_cmpR op_in_seq (pe_glob (v := .int (120)) (by rfl) m_LETTER_X ⟨_, rfl⟩) (pv 1) (by with_unfolding_all rfl)) (pss_one (ps_set (i := 3) sc_read_term.nd rfl (Or.inl rfl) (pe_call G_read_power (hr.mono (by decide)) (by rfl) m_read_power k_read_power b_read_power .nil pass0 (pa_cons (pv 1) pa_nil)))) (pss_one (ps_set (i := 2) sc_read_term.nd rfl (Or.inl rfl) (pe_call G_read_fraction (hr.mono (by decide)) (by rfl) m_read_fraction k_read_fraction b_read_fraction .nil pass0 (pa_cons (pv 1) pa_nil)))))))
      (pss_cons (ps_if ((pw_or (pt_cmp (pc_isN (pv 2))) (pw_or1 (pt_cmp (pc_isN (pv 3)))))).pt (pss_one (ps_ret pe_non)) pss_nil)
      (pss_one (ps_ret (pe_tup (pa_cons (pv 3) (pa_cons (pe_op op_mulW (pv 0) (pe_ix ix_tup (pv 2) pe_int (fun _ _ => rfl))) (pa_cons (pe_ix ix_tup (pv 2) pe_int (fun _ _ => rfl)) pa_nil)))))))))), fun ds d hR G0 H0 Q Z k => ?_⟩
    obtain ⟨sg, w, rfl, hs, hw, rfl⟩ := hR
    refine q_asg (ev_tup (ea_cons ev_i (ea_cons ev_i ea_nil)) (by decide)) ?_
    refine q_asg ev_i ?_
    generalize hf : (if 42 ∈ w then Sl.readFraction (w.take (w.idxOf 42)) else if 120 ∈ w then some (1, 1) else Sl.readFraction w) = fo
    generalize hp : (if 42 ∈ w then Sl.readPower (w.drop (w.idxOf 42 + 1)) else if 120 ∈ w then Sl.readPower w else some 0) = po
    have e : Sl.readTerm sg w = termOf sg fo po := by rw [readTerm_of, hf, hp]
    have hfl : ∀ x, fo = some x → x.1.log2 ≤ 1200 := fun x hx => by
      rw [hx] at hf
      split at hf
      · have := (readFraction_log hf).1
        rw [List.length_take] at this
        omega
      · split at hf
        · cases hf
          rw [show Nat.log2 1 = 0 by decide +kernel]; omega
        · have := (readFraction_log hf).1
          omega
    refine c_cut [.dat (.int sg), .dat (.lst (dN w)), .dat (dO2 fo), .dat (dO po), .no] ?_ ?_
    · refine c_if (et_test (ev_inN (c := 42) ev_i.r (ev_var rfl).r).r) (fun hb => ?_) (fun hb => ?_)
      · have h : 42 ∈ w := of_decide_eq_true hb
        rw [if_pos h] at hf hp
        refine q_asg (ev_indexN (c := 42) (ev_var rfl).r ev_i.r h) ?_
        refine q_asg (d := dO2 fo) (ev_call (ea_cons (ev_is (n_sl (lo := none) (ev_var rfl) .lst eo_none (eo_some (ev_var rfl).r)).ev (by rw [cut_dN_to])) ea_nil) ⟨w.take (w.idxOf 42), rfl, by rw [List.length_take]; omega, by rw [hf]⟩) ?_
        refine c_asg (d := dO po) (ev_call (ea_cons (ev_is (n_sl (hi := none) (ev_var rfl) .lst (eo_some (ev_opI (ev_var rfl).r ev_i.r).r) eo_none).ev (by
          show D.lst (cut (dN w) (some (((w.idxOf 42 + 1 : Nat)) : Int)) none) = _
          rw [cut_dN_from])) ea_nil) ⟨w.drop (w.idxOf 42 + 1), rfl, by rw [List.length_drop]; omega, by rw [hp]⟩) ?_
        exact c_at (le_eq rfl (le_eq rfl (le_eq rfl (le_eq rfl (le_no le_nil)))))
      · have h : ¬ 42 ∈ w := of_decide_eq_false hb
        rw [if_neg h] at hf hp
        refine c_if (et_test (ev_inN (c := 120) ev_i.r (ev_var rfl).r).r) (fun hb => ?_) (fun hb => ?_)
        · have hx : 120 ∈ w := of_decide_eq_true hb
          rw [if_pos hx] at hf hp
          refine c_asg (d := dO po) (ev_call (ea_cons (ev_var rfl) ea_nil) ⟨w, rfl, by omega, by rw [hp]⟩) ?_
          refine c_at (le_eq rfl (le_eq rfl (le_eq ?_ (le_eq rfl (le_no le_nil)))))
          rw [← hf]; rfl
        · have hx : ¬ 120 ∈ w := of_decide_eq_false hb
          rw [if_neg hx] at hf hp
          refine c_asg (d := dO2 fo) (ev_call (ea_cons (ev_var rfl) ea_nil) ⟨w, rfl, by omega, by rw [hf]⟩) ?_
          refine c_at (le_eq rfl (le_eq rfl (le_eq rfl (le_eq ?_ (le_no le_nil)))))
          rw [← hp]; rfl
    · cases fo with
      | none =>
        refine q_when (b := true) (et_or (b := true) (c := false) (et_is (et_B (ev_isN (ev_var rfl).r).r) rfl) fun z => by cases z) (fun _ => ?_) (fun z => by cases z)
        refine c_ret (ev_is ev_non ?_) k
        rw [e]; rfl
      | some fr =>
        cases po with
        | none =>
          refine q_when (b := true) (et_or (b := false) (c := true) (et_is (et_B (ev_isN (ev_var rfl).r).r) rfl) fun _ => et_is (et_B (ev_isN (ev_var rfl).r).r) rfl) (fun _ => ?_) (fun z => by cases z)
          refine c_ret (ev_is ev_non ?_) k
          rw [e]; rfl
        | some po =>
          refine q_when (b := false) (et_or (b := false) (c := false) (et_is (et_B (ev_isN (ev_var rfl).r).r) rfl) fun _ => et_is (et_B (ev_isN (ev_var rfl).r).r) rfl) (fun z => by cases z) (fun _ => ?_)
          have hl := hfl fr rfl
          refine c_ret (ev_is (ev_tup (ea_cons (ev_var rfl) (ea_cons (ev_mul (ev_var rfl).r (ev_ixT (k := 0) (ev_var rfl) ev_i.r rfl).r (mulW_of (a := 5) (b := 1200) ?_ (by rw [Int.natAbs_natCast]; exact hl) (by decide))) (ea_cons (ev_ixT (k := 1) (ev_var rfl) ev_i.r rfl) ea_nil))) (by show 3 ≤ 1000000; decide)) ?_) k
          · rcases hs with rfl | rfl <;> decide +kernel
          · rw [e]; rfl
abbrev s_powers_fall : Stmt := topS 46
abbrev nm_powers_fall : List Str := ["terms", "before", "behind"]
theorem sc_powers_fall : FnScope nm_powers_fall ["terms"] (defScope s_powers_fall) := ⟨rfl, rfl, rfl, by decide +kernel, rfl, by decide +kernel, by decide +kernel⟩
def R_powers_fall : List D → D → Prop := fun ds d => ∃ ts : List Sl.Tm, ds = [.lst (dTs ts)] ∧ ts.length ≤ 1000 ∧ d = .bl (Sl.falls ts)
theorem len_powers_fall {ds : List D} {d : D} (h : R_powers_fall ds d) : ds.length = 1 := by obtain ⟨a, rfl, _⟩ := h; rfl
def pFall : D → Bool
  | .tup [.tup (.int a :: _), .tup (.int b :: _)] => decide (b < a)
  | _ => false
theorem pFall_all : ∀ ts : List Sl.Tm, (((dTs ts).zip ((dTs ts).drop 1)).map fun x => pFall (pairD x.1 x.2)).all id = Sl.falls ts
  | [] => rfl
  | [a] => rfl
  | a :: b :: r => by
    have ih := pFall_all (b :: r)
    show (decide ((b.p : Int) < (a.p : Int)) && ((((dTs (b :: r)).zip ((dTs (b :: r)).drop 1)).map fun x => pFall (pairD x.1 x.2)).all id)) = (decide (b.p < a.p) && Sl.falls (b :: r))
    rw [ih]
    congr 1
    by_cases h : b.p < a.p
    · rw [decide_eq_true h, decide_eq_true (by omega)]
    · rw [decide_eq_false h, decide_eq_false (by omega)]
theorem zip_terms {ts : List Sl.Tm} {d : D} (h : d ∈ ((dTs ts).zip ((dTs ts).drop 1)).map fun x => pairD x.1 x.2) : ∃ a b : Sl.Tm, d = pairD (dT a) (dT b) := by
  obtain ⟨x, hx, rfl⟩ := List.mem_map.mp h
  have h1 := (List.of_mem_zip hx).1
  have h2 := List.mem_of_mem_drop (List.of_mem_zip hx).2
  obtain ⟨a, _, ea⟩ := List.mem_map.mp h1
  obtain ⟨b, _, eb⟩ := List.mem_map.mp h2
  exact ⟨a, b, by rw [ea, eb]⟩
theorem picked_all {p : D → Bool} {f : D → D} {ds : List D} (h : ∀ d ∈ ds, p d = true) : picked p f ds = ds.map f := by
  unfold picked
  rw [List.filter_eq_self.mpr h]
theorem ok_powers_fall {P : Program} {w : World} {K : PySem.W.Frag} {mg : Str → Option Value} {base : Heap} {f : Addr} {fd : FuncData} (T : Txt mg) (F : Fun K "powers_fall" "powers_fall" s_powers_fall f fd) : FnOk P w K mg base CX0 1 f fd ["terms"] (SpR K R_powers_fall) := by
  refine fn_ok F sc_powers_fall (by decide) (fun ds d h => ?_) (fun cdv A outer s H E hr => ?_)
  · exact len_powers_fall h
  · have hu65 := hu65_of hr
    refine ⟨_, (pss_one (ps_ret (pe_callB (cr_all rfl) (by rfl) T.b_all (by decide +kernel) (pa_cons (pe_lc (own := [("before", 1), ("behind", 2)]) rfl sc_powers_fall.nd (pi_zip (by rfl) T.b_zip (pa_cons (pv 0) (pa_cons (pe_slice sl_list (pv 0) (po_some pe_int) po_none) pa_nil))) (blkOk_by (own := [("before", 1), ("behind", 2)]) (N := nm_powers_fall) (sc := defScope s_powers_fall) (by decide +kernel)) (fun _ _ _ _ _ => by exact (by refine pg_tupK K 2 (t := gCons (gName 1) (gCons (gName 2) (gNil))) rfl ?_; exact (pgs_cons (pg_name (i := 1) sc_powers_fall.nd rfl (Or.inl rfl)) (pgs_cons (pg_name (i := 2) sc_powers_fall.nd rfl (Or.inl rfl)) pgs_nil)))) (fun _ _ _ _ _ => by exact pts_nil) (fun _ _ _ _ _ => by exact (pe_cmpR op_gt (pe_ix (ix_tupK K) (pv 1) pe_int (fun _ _ => rfl)) (pe_ix (ix_tupK K) (pv 2) pe_int (fun _ _ => rfl)) (nomark _)))) pa_nil)))), fun ds d hR G0 H0 Q Z k => ?_⟩
    obtain ⟨ts, rfl, hlen, rfl⟩ := hR
    refine c_ret (ev_is (ev_all (bs := ((dTs ts).zip ((dTs ts).drop 1)).map fun x => pFall (pairD x.1 x.2)) (ev_is (n_lc (it_zip (ev_var rfl) (ev_is (n_sl (hi := none) (ev_var rfl) .lst (eo_some ev_i.r) eo_none).ev (show D.lst (cut (dTs ts) (some ((1 : Nat) : Int)) none) = D.lst ((dTs ts).drop 1) by rw [cut_from])) .lst .lst) _ [1, 2] (fun d as => match d with
      | .tup [a, b] => (as.set 1 (.dat a)).set 2 (.dat b)
      | _ => as) (fun d hd => ?_) (by decide) (fun _ => true) (fun d => .bl (pFall d)) ?_ (fun d hd => et_yes) (fun d hd _ => ?_)).ev ?_).r) ?_) k
    · obtain ⟨a, b, rfl⟩ := zip_terms hd
      exact tg_tup2
    · rw [List.length_map, List.length_zip, dTs_len]; omega
    · obtain ⟨a, b, rfl⟩ := zip_terms hd
      refine ev_is (ev_opB (ev_ixT (k := 0) (ev_var (d := dT a) rfl) ev_i.r rfl).r (ev_ixT (k := 0) (ev_var (d := dT b) rfl) ev_i.r rfl).r) ?_
      rfl
    · rw [picked_all (fun _ _ => rfl), List.map_map]
      unfold dB
      rw [List.map_map]
      rfl
    · rw [pFall_all]
end Pg
set_option Elab.async false
set_option linter.all false
set_option maxRecDepth 100000
set_option maxHeartbeats 2000000
namespace Pg
open PySem PyProof.Rows L2 Fw
abbrev s_split_at_signs : Stmt := topS 41
abbrev nm_split_at_signs : List Str := ["text", "pieces", "sign", "piece", "byte"]
theorem sc_split_at_signs : FnScope nm_split_at_signs ["text"] (defScope s_split_at_signs) := ⟨rfl, rfl, rfl, by decide +kernel, rfl, by decide +kernel, by decide +kernel⟩
abbrev SpS := List (Int × List Nat) × Int × List Nat
def stepS (x : SpS) (b : Nat) : SpS := if b = 43 ∨ b = 45 then (x.1 ++ [(x.2.1, x.2.2)], (if b = 43 then 1 else -1), []) else if b = 32 then x else (x.1, x.2.1, x.2.2 ++ [b])
def runS (t : List Nat) : SpS := t.foldl stepS ([], 1, [])
theorem goS : ∀ (t : List Nat) (x : SpS), (t.foldl stepS x).1 ++ [((t.foldl stepS x).2.1, (t.foldl stepS x).2.2)] = x.1 ++ Sl.splitGo t x.2.1 x.2.2
  | [], x => rfl
  | b :: t, x => by
    rw [List.foldl_cons, goS t (stepS x b)]
    unfold stepS
    rw [Sl.splitGo]
    split
    · simp
    · split
      · rfl
      · rfl
theorem runS_all (t : List Nat) : (runS t).1 ++ [((runS t).2.1, (runS t).2.2)] = Sl.splitGo t 1 [] := goS t ([], 1, [])
theorem runS_more (t : List Nat) (b : Nat) : runS (t ++ [b]) = stepS (runS t) b := by unfold runS; rw [List.foldl_append]; rfl
theorem foldS_len : ∀ (t : List Nat) (x : SpS), (t.foldl stepS x).1.length + (t.foldl stepS x).2.2.length ≤ x.1.length + x.2.2.length + t.length
  | [], x => Nat.le_refl _
  | b :: t, x => by
    rw [List.foldl_cons, List.length_cons]
    have := foldS_len t (stepS x b)
    have h : (stepS x b).1.length + (stepS x b).2.2.length ≤ x.1.length + x.2.2.length + 1 := by
      unfold stepS
      split
      · simp
      · split
        · omega
        · simp; omega
    omega
theorem runS_len (t : List Nat) : (runS t).1.length + (runS t).2.2.length ≤ t.length := by
  have := foldS_len t ([], 1, [])
  unfold runS
  simpa using this
/-- each piece: a sign, and no longer than the text -/
theorem foldS_ok (m : Nat) : ∀ (t : List Nat) (x : SpS), (∀ y ∈ x.1, (y.1 = 1 ∨ y.1 = -1) ∧ y.2.length ≤ m) → (x.2.1 = 1 ∨ x.2.1 = -1) → x.2.2.length + t.length ≤ m →
    (∀ y ∈ (t.foldl stepS x).1, (y.1 = 1 ∨ y.1 = -1) ∧ y.2.length ≤ m) ∧ ((t.foldl stepS x).2.1 = 1 ∨ (t.foldl stepS x).2.1 = -1) ∧ (t.foldl stepS x).2.2.length ≤ m
  | [], x, h1, h2, h3 => ⟨h1, h2, by simpa using h3⟩
  | b :: t, x, h1, h2, h3 => by
    rw [List.foldl_cons]
    rw [List.length_cons] at h3
    refine foldS_ok m t (stepS x b) ?_ ?_ ?_
    · unfold stepS
      split
      · intro y hy
        rcases List.mem_append.mp hy with hy | hy
        · exact h1 y hy
        · rw [List.mem_singleton] at hy
          subst hy
          exact ⟨h2, by show x.2.2.length ≤ m; omega⟩
      · split
        · exact h1
        · exact h1
    · unfold stepS
      split
      · show (if b = 43 then (1 : Int) else -1) = 1 ∨ (if b = 43 then (1 : Int) else -1) = -1
        split <;> simp
      · split
        · exact h2
        · exact h2
    · unfold stepS
      split
      · simp; omega
      · split
        · omega
        · simp; omega
theorem split_ok {t : List Nat} {y : Int × List Nat} (h : y ∈ Sl.splitSigns t) : (y.1 = 1 ∨ y.1 = -1) ∧ y.2.length ≤ t.length := by
  have k := foldS_ok t.length t ([], 1, []) (fun y hy => by cases hy) (Or.inl rfl) (by simp)
  have all : ∀ y ∈ Sl.splitGo t 1 [], (y.1 = 1 ∨ y.1 = -1) ∧ y.2.length ≤ t.length := by
    intro y hy
    rw [← runS_all] at hy
    rcases List.mem_append.mp hy with hy | hy
    · exact k.1 y hy
    · rw [List.mem_singleton] at hy
      subst hy
      exact k.2
  unfold Sl.splitSigns at h
  split at h
  · exact all y (List.mem_of_mem_tail h)
  · exact all y h
theorem split_len (t : List Nat) : (Sl.splitSigns t).length ≤ t.length + 1 := by
  have h := runS_len t
  have e : (Sl.splitGo t 1 []).length ≤ t.length + 1 := by
    rw [← runS_all, List.length_append]
    simp; omega
  unfold Sl.splitSigns
  split
  · rw [List.length_tail]; omega
  · exact e
def dP (x : Int × List Nat) : D := .tup [.int x.1, .lst (dN x.2)]
def R_split_at_signs : List D → D → Prop := fun ds d => ∃ t : List Nat, ds = [.inp (dN t)] ∧ t.length ≤ 1000 ∧ d = .lst ((Sl.splitSigns t).map dP)
theorem len_split_at_signs {ds : List D} {d : D} (h : R_split_at_signs ds d) : ds.length = 1 := by obtain ⟨a, rfl, _⟩ := h; rfl
theorem ok_split_at_signs {P : Program} {w : World} {K : PySem.W.Frag} {mg : Str → Option Value} {base : Heap} {f : Addr} {fd : FuncData} (T : Txt mg) (n_MINUS : Num mg "MINUS" (45)) (n_PLUS : Num mg "PLUS" (43)) (n_BLANK : Num mg "BLANK" (32)) (F : Fun K "split_at_signs" "split_at_signs" s_split_at_signs f fd) : FnOk P w K mg base CX0 1 f fd ["text"] (SpR K R_split_at_signs) := by
  obtain ⟨t_MINUS, m_MINUS⟩ := n_MINUS
  obtain ⟨t_PLUS, m_PLUS⟩ := n_PLUS
  obtain ⟨t_BLANK, m_BLANK⟩ := n_BLANK
  refine fn_ok F sc_split_at_signs (by decide) (fun ds d h => ?_) (fun cdv A outer s H E hr => ?_)
  · exact len_split_at_signs h
  · have hu65 := hu65_of hr
    refine ⟨_, (pss_cons (ps_set (i := 1) sc_split_at_signs.nd rfl (Or.inl rfl) (pe_lst pa_nil))
      (pss_cons (ps_set (i := 2) sc_split_at_signs.nd rfl (Or.inl rfl) pe_int)
      (pss_cons (ps_set (i := 3) sc_split_at_signs.nd rfl (Or.inl rfl) (pe_lst pa_nil))
      (pss_cons (ps_for PassesOwn.never rfl (pi_list (pv 0)) (pg_name (i := 4) sc_split_at_signs.nd rfl (Or.inl rfl)) (pss_one (ps_if ((pw_or (pt_cmpR op_eq (pv 4) (pe_glob (v := .int (43)) (by rfl) m_PLUS ⟨_, rfl⟩) (nomark _)) (pw_or1 (pt_cmpR op_eq (pv 4) (pe_glob (v := .int (45)) (by rfl) m_MINUS ⟨_, rfl⟩) (nomark _))))).pt (pss_cons (ps_expr (pe_bm PySem.F.plainAttrs_list PySem.F.slot_list_append PySem.F.type_list_append mt_append (pv 1) (pa_cons (pe_tup (pa_cons (pv 2) (pa_cons (pv 3) pa_nil))) pa_nil)))
      (pss_cons (ps_set (i := 2) sc_split_at_signs.nd rfl (Or.inl rfl) (pe_ifExp (pt_cmpR op_eq (pv 4) (pe_glob (v := .int (43)) (by rfl) m_PLUS ⟨_, rfl⟩) (nomark _)) pe_int (pe_un un_neg pe_int)))
      (pss_one (ps_set (i := 3) sc_split_at_signs.nd rfl (Or.inl rfl) (pe_lst pa_nil))))) (pss_one (ps_if (pt_cmpR op_ne (pv 4) (pe_glob (v := .int (32)) (by rfl) m_BLANK ⟨_, rfl⟩) (nomark _)) (pss_one (ps_expr (pe_bm PySem.F.plainAttrs_list PySem.F.slot_list_append PySem.F.type_list_append mt_append (pv 3) (pa_cons (pv 4) pa_nil)))) pss_nil)))))
      (pss_cons (ps_expr (pe_bm PySem.F.plainAttrs_list PySem.F.slot_list_append PySem.F.type_list_append mt_append (pv 1) (pa_cons (pe_tup (pa_cons (pv 2) (pa_cons (pv 3) pa_nil))) pa_nil)))
      (pss_cons (ps_if (pt_cmpR (op_eqD hr.units) (pe_ix ix_tup (pe_ix ix_list (pv 1) pe_int (fun _ _ => rfl)) pe_int (fun _ _ => rfl)) (pe_lst pa_nil) (nomark _)) (pss_one (ps_ret (pe_slice sl_list (pv 1) (po_some pe_int) po_none))) pss_nil)
      (pss_one (ps_ret (pv 1))))))))), fun ds d hR G0 H0 Q Z k => ?_⟩
    obtain ⟨t, rfl, ht, rfl⟩ := hR
    refine q_new (n_lst ea_nil (by decide)) ?_
    refine q_asg ev_i ?_
    refine q_new (n_lst ea_nil (by decide)) ?_
    refine q_for (it_list (ev_var rfl) .inp) (fun i => [.dat (.inp (dN t)), .mu ((runS (t.take i)).1.map dP), .dat (.int (runS (t.take i)).2.1), .mu (dN (runS (t.take i)).2.2), .no]) [4] (fun d as => as.set 4 (.dat d)) (fun d _ => tg_name) (le_refl _) (fun B C sub i d hd => ?_) ?_
    · have hd' := hd
      unfold dN at hd'
      rw [List.getElem?_map] at hd'
      obtain ⟨b, hb', rfl⟩ : ∃ b, t[i]? = some b ∧ D.int (b : Int) = d := by
        cases e : t[i]? with
        | none => rw [e] at hd'; cases hd'
        | some t => rw [e] at hd'; exact ⟨t, rfl, Option.some.inj hd'⟩
      have htk : t.take (i + 1) = t.take i ++ [b] := by rw [List.take_add_one, hb']; rfl
      have hlen := runS_len (t.take i)
      rw [List.length_take] at hlen
      have hmo := runS_more (t.take i) b
      rw [← htk] at hmo
      rw [hmo]
      generalize runS (t.take i) = x at *
      have c1 : decide ((b : Int) = 43) = decide (b = 43) := by
        by_cases h : b = 43
        · subst h; rfl
        · rw [decide_eq_false h, decide_eq_false (by omega)]
      have c2 : decide ((b : Int) = 45) = decide (b = 45) := by
        by_cases h : b = 45
        · subst h; rfl
        · rw [decide_eq_false h, decide_eq_false (by omega)]
      have c3 : decide ((b : Int) = 32) = decide (b = 32) := by
        by_cases h : b = 32
        · subst h; rfl
        · rw [decide_eq_false h, decide_eq_false (by omega)]
      show Co K B C [.dat (.inp (dN t)), .mu (x.1.map dP), .dat (.int x.2.1), .mu (dN x.2.2), .dat (.int b)] _
      refine c_if (et_or (et_test (ev_eqI (ev_var rfl).r ev_i.r).r) fun _ => et_test (ev_eqI (ev_var rfl).r ev_i.r).r) (fun q => ?_) (fun q => ?_)
      · have h : b = 43 ∨ b = 45 := by
          rw [c1, c2, Bool.or_eq_true] at q
          rcases q with q | q
          · exact .inl (of_decide_eq_true q)
          · exact .inr (of_decide_eq_true q)
        unfold stepS
        rw [if_pos h]
        refine c_frz (n := 3) rfl ?_
        refine q_app rfl (ev_tup (ea_cons (ev_var rfl) (ea_cons (ev_var rfl) ea_nil)) (by show 2 ≤ 1000000; decide)) (by rw [List.length_map]; omega) ?_
        refine q_asg (ev_if (d := .int (if b = 43 then 1 else -1)) (et_test (ev_eqI (ev_var rfl).r ev_i.r).r) (fun q => ev_is ev_i ?_) (fun q => ev_is (ev_neg ev_i.r) ?_)) ?_
        · rw [c1] at q
          rw [if_pos (of_decide_eq_true q)]
        · rw [c1] at q
          rw [if_neg (of_decide_eq_false q)]
        · refine c_new (n_lst ea_nil (by decide)) ?_
          refine c_at (le_eq rfl (le_eq ?_ (le_eq rfl (le_eq rfl (le_no le_nil)))))
          show AS.mu ((x.1 ++ [(x.2.1, x.2.2)]).map dP) = _
          rw [List.map_append]
          rfl
      · have h : ¬ (b = 43 ∨ b = 45) := by
          rw [c1, c2, Bool.or_eq_false_iff] at q
          have h1 := of_decide_eq_false q.1
          have h2 := of_decide_eq_false q.2
          omega
        unfold stepS
        rw [if_neg h]
        refine c_if (et_test (ev_neI (ev_var rfl).r ev_i.r).r) (fun q => ?_) (fun q => ?_)
        · have h3 : ¬ b = 32 := by
            intro z
            rw [c3, decide_eq_true z] at q
            exact absurd q (by decide)
          rw [if_neg h3]
          refine c_app rfl (ev_var rfl) (by rw [dN_len]; omega) ?_
          refine c_at (le_eq rfl (le_eq rfl (le_eq rfl (le_eq ?_ (le_no le_nil)))))
          show AS.mu (dN (x.2.2 ++ [b])) = _
          rw [dN_append]
          rfl
        · have h3 : b = 32 := by
            rw [c3] at q
            cases e : decide (b = 32) with
            | true => exact of_decide_eq_true e
            | false => rw [e] at q; cases q
          rw [if_pos h3]
          exact c_at (le_eq rfl (le_eq rfl (le_eq rfl (le_eq rfl (le_no le_nil)))))
    · rw [dN_len, List.take_length]
      have hlen := runS_len t
      refine c_frz (n := 3) rfl ?_
      refine q_app rfl (ev_tup (ea_cons (ev_var rfl) (ea_cons (ev_var rfl) ea_nil)) (by show 2 ≤ 1000000; decide)) (by rw [List.length_map]; omega) ?_
      refine c_frz (n := 1) rfl ?_
      have e : (runS t).1.map dP ++ [dP ((runS t).2.1, (runS t).2.2)] = (Sl.splitGo t 1 []).map dP := by
        rw [← runS_all, List.map_append]; rfl
      refine c_less (bs := [.no, .dat (.lst ((Sl.splitGo t 1 []).map dP)), .no, .no, .no]) (le_no (le_eq ?_ (le_no (le_no (le_no le_nil))))) ?_
      · rw [← e]; rfl
      · obtain ⟨y, r, er⟩ : ∃ y r, Sl.splitGo t 1 [] = y :: r := by
          cases h : Sl.splitGo t 1 [] with
          | nil => rw [← runS_all] at h; simp at h
          | cons y r => exact ⟨y, r, rfl⟩
        have es : Sl.splitSigns t = if y.2 = [] then r else y :: r := by
          unfold Sl.splitSigns
          rw [er]; rfl
        rw [er]
        refine q_when (et_test (ev_eqD (ev_ixT (k := 1) (ds := [.int y.1, .lst (dN y.2)]) (ev_ix (k := 0) (ev_var rfl) .lst ev_i.r rfl) ev_i.r rfl).r (n_lst ea_nil (by decide)).ev.r (sh_dN _) sh_nil).r) (fun q => ?_) (fun q => ?_)
        · rw [eqD_nil] at q
          have h : y.2 = [] := List.map_eq_nil_iff.mp (of_decide_eq_true q)
          refine c_ret (ev_is (n_sl (hi := none) (ev_var rfl) .lst (eo_some ev_i.r) eo_none).ev ?_) k
          show D.lst (cut ((y :: r).map dP) (some ((1 : Nat) : Int)) none) = _
          rw [cut_from, es, if_pos h]
          rfl
        · rw [eqD_nil] at q
          have h : ¬ y.2 = [] := fun z => of_decide_eq_false q (by rw [z]; rfl)
          refine c_ret (ev_is (ev_var rfl) ?_) k
          rw [es, if_neg h]
end Pg
set_option Elab.async false
set_option linter.all false
set_option maxRecDepth 100000
set_option maxHeartbeats 2000000
namespace Pg
open PySem PyProof.Rows L2 Fw
abbrev s_read_polynomial : Stmt := topS 40
abbrev nm_read_polynomial : List Str := ["text", "terms", "kept", "sign", "piece", "term"]
theorem sc_read_polynomial : FnScope nm_read_polynomial ["text"] (defScope s_read_polynomial) := ⟨rfl, rfl, rfl, by decide +kernel, rfl, by decide +kernel, by decide +kernel⟩
def toN : D → Nat
  | .int i => i.toNat
  | _ => 0
theorem toN_dN (w : List Nat) : (dN w).map toN = w := by
  unfold dN
  rw [List.map_map]
  have := List.map_congr_left (f := toN ∘ fun (b : Nat) => D.int (b : Int)) (g := id) (l := w) fun b _ => by
    show (b : Int).toNat = b
    omega
  rw [this]; simp
def fR : D → D
  | .tup [.int s, .lst l] => dOT (Sl.readTerm s (l.map toN))
  | d => d
theorem fR_dP (y : Int × List Nat) : fR (dP y) = dOT (Sl.readTerm y.1 y.2) := by
  show dOT (Sl.readTerm y.1 ((dN y.2).map toN)) = _
  rw [toN_dN]
def fL : D → D
  | .tup [.int p, .int n, .int m] => .tup [.int p, .int (n.fdiv (lowG n m)), .int (m.fdiv (lowG n m))]
  | d => d
def nzD : D → Bool
  | .tup [_, .int n, _] => !decide (n = 0)
  | _ => false
/-- what is read has numbers of the text's length -/
structure Bdt (m : Nat) (t : Sl.Tm) : Prop where
  p : t.p.log2 ≤ m
  n : t.n.natAbs.log2 ≤ m
  d : t.d.log2 ≤ m
theorem readTerm_log {s : Int} {w : List Nat} {t : Sl.Tm} (hs : s = 1 ∨ s = -1) (h : Sl.readTerm s w = some t) : Bdt (4 * w.length) t := by
  rw [readTerm_of] at h
  unfold termOf at h
  split at h
  · rename_i f p e1 e2
    cases h
    have hf : f.1.log2 ≤ 4 * w.length ∧ f.2.log2 ≤ 4 * w.length := by
      split at e1
      · have := readFraction_log e1
        rw [List.length_take] at this
        omega
      · split at e1
        · cases e1
          rw [show Nat.log2 1 = 0 by decide +kernel]; omega
        · exact readFraction_log e1
    refine ⟨?_, ?_, hf.2⟩
    · show p.log2 ≤ _
      split at e2
      · have := readPower_log e2
        rw [List.length_drop] at this
        omega
      · split at e2
        · exact readPower_log e2
        · cases e2
          rw [show Nat.log2 0 = 0 by decide +kernel]; omega
    · show (s * (f.1 : Int)).natAbs.log2 ≤ _
      rcases hs with rfl | rfl
      · rw [Int.one_mul, Int.natAbs_natCast]; exact hf.1
      · rw [Int.neg_mul, Int.one_mul, Int.natAbs_neg, Int.natAbs_natCast]; exact hf.1
  · cases h
theorem log2_mono {a b : Nat} (h : a ≤ b) : a.log2 ≤ b.log2 := by
  by_cases z : a = 0
  · rw [z]; simp
  · exact (Nat.le_log2 (by omega)).mpr (Nat.le_trans (Nat.log2_self_le z) h)
theorem lowest_bd {m : Nat} {t : Sl.Tm} (h : Bdt m t) : Bdt m (Sl.lowest t) := by
  refine ⟨h.p, Nat.le_trans (log2_mono ?_) h.n, Nat.le_trans (log2_mono (Nat.div_le_self _ _)) h.d⟩
  show (t.n / ((Nat.gcd t.n.natAbs t.d : Nat) : Int)).natAbs ≤ t.n.natAbs
  have gi : ((Nat.gcd t.n.natAbs t.d : Nat) : Int) ∣ t.n := Int.ofNat_dvd_left.mpr (Nat.gcd_dvd_left _ _)
  rw [Int.natAbs_ediv_of_dvd gi, Int.natAbs_natCast]
  exact Nat.div_le_self _ _
theorem wRest_len {m : Nat} : ∀ l : List Sl.Tm, (∀ t ∈ l, Bdt m t) → (Sl.wRest l).length ≤ l.length * (3 * m + 10)
  | [], _ => by simp [Sl.wRest]
  | t :: l, h => by
    have ih := wRest_len l fun s hs => h s (List.mem_cons_of_mem _ hs)
    have ht := h t (List.mem_cons_self ..)
    have h1 := wTerm_len t.p t.n.natAbs t.d
    have h2 := ht.p
    have h3 := ht.n
    have h4 := ht.d
    have e : Sl.wRest (t :: l) = (32 :: (if t.n < 0 then 45 else 43) :: 32 :: Sl.wTerm t.p t.n.natAbs t.d) ++ Sl.wRest l := rfl
    rw [e, List.length_append, List.length_cons, List.length_cons, List.length_cons, List.length_cons, Nat.add_mul]
    omega
theorem write_len {m : Nat} {l : List Sl.Tm} (h : ∀ t ∈ l, Bdt m t) : (Sl.write l).length ≤ l.length * (3 * m + 10) + 1 := by
  cases l with
  | nil => simp [Sl.write]
  | cons t l =>
    have ih := wRest_len l fun s hs => h s (List.mem_cons_of_mem _ hs)
    have ht := h t (List.mem_cons_self ..)
    have h1 := wTerm_len t.p t.n.natAbs t.d
    have h2 := ht.p
    have h3 := ht.n
    have h4 := ht.d
    show ((if t.n < 0 then [45] else []) ++ Sl.wTerm t.p t.n.natAbs t.d ++ Sl.wRest l).length ≤ _
    rw [List.length_append, List.length_append, List.length_cons, Nat.add_mul]
    have : (if t.n < 0 then [45] else [] : List Nat).length ≤ 1 := by split <;> simp
    omega
theorem mapM_none {α β : Type} {f : α → Option β} : ∀ {l : List α}, l.mapM f = none → ∃ x ∈ l, f x = none
  | [], h => by simp at h
  | x :: l, h => by
    rw [List.mapM_cons] at h
    cases e : f x with
    | none => exact ⟨x, List.mem_cons_self .., e⟩
    | some z =>
      rw [e] at h
      cases e2 : l.mapM f with
      | none =>
        obtain ⟨y, hy, ey⟩ := mapM_none e2
        exact ⟨y, List.mem_cons_of_mem _ hy, ey⟩
      | some r => rw [e2] at h; cases h
theorem mapM_map {α β : Type} {f : α → Option β} : ∀ {l : List α} {m : List β}, l.mapM f = some m → l.map f = m.map some
  | [], m, h => by
    have : m = [] := by simpa using h.symm
    subst this; rfl
  | x :: l, m, h => by
    rw [List.mapM_cons] at h
    cases e : f x with
    | none => rw [e] at h; cases h
    | some z =>
      rw [e] at h
      cases e2 : l.mapM f with
      | none => rw [e2] at h; cases h
      | some r =>
        rw [e2] at h
        have : m = z :: r := by simpa using h.symm
        subst this
        rw [List.map_cons, List.map_cons, e, mapM_map e2]
theorem any_none {α : Type} (f : α → Option Sl.Tm) : ∀ l : List α, ((toPys (l.map fun x => dOT (f x))).any fun z => PyData.eqv z (toPy .non)) = l.any fun x => (f x).isNone
  | [] => rfl
  | x :: l => by
    show (PyData.eqv (toPy (dOT (f x))) .none || ((toPys (l.map fun x => dOT (f x))).any fun z => PyData.eqv z (toPy .non))) = _
    rw [any_none f l]
    show _ = ((f x).isNone || l.any fun x => (f x).isNone)
    congr 1
    cases f x <;> rfl
def dOTs (o : Option (List Sl.Tm)) : D := match o with
  | none => .non
  | some l => .lst (dTs l)
theorem dOT_dep (o : Option Sl.Tm) : Dep 1 (dOT o) := by
  cases o with
  | none => exact dep_non 1
  | some t => exact dT_dep t
def R_read_polynomial : List D → D → Prop := fun ds d => ∃ t : List Nat, ds = [.inp (dN t)] ∧ t.length ≤ 200 ∧ d = dOTs (Sl.read t)
theorem len_read_polynomial {ds : List D} {d : D} (h : R_read_polynomial ds d) : ds.length = 1 := by obtain ⟨a, rfl, _⟩ := h; rfl
theorem ok_read_polynomial {P : Program} {w : World} {K : PySem.W.Frag} {mg : Str → Option Value} {base : Heap} {f : Addr} {fd : FuncData} (T : Txt mg) (c_split_at_signs : Cal P w K mg base 1 "split_at_signs" ["text"] R_split_at_signs) (c_read_term : Cal P w K mg base 3 "read_term" ["sign", "piece"] R_read_term) (c_powers_fall : Cal P w K mg base 1 "powers_fall" ["terms"] R_powers_fall) (c_lowest_term : Cal P w K mg base 2 "lowest_term" ["term"] R_lowest_term) (c_write_polynomial : Cal P w K mg base 4 "write_polynomial" ["terms"] R_write_polynomial) (F : Fun K "read_polynomial" "read_polynomial" s_read_polynomial f fd) : FnOk P w K mg base CX0 5 f fd ["text"] (SpR K R_read_polynomial) := by
  obtain ⟨f_split_at_signs, fd_split_at_signs, G_split_at_signs, m_split_at_signs, k_split_at_signs, b_split_at_signs⟩ := c_split_at_signs.ex
  obtain ⟨f_read_term, fd_read_term, G_read_term, m_read_term, k_read_term, b_read_term⟩ := c_read_term.ex
  obtain ⟨f_powers_fall, fd_powers_fall, G_powers_fall, m_powers_fall, k_powers_fall, b_powers_fall⟩ := c_powers_fall.ex
  obtain ⟨f_lowest_term, fd_lowest_term, G_lowest_term, m_lowest_term, k_lowest_term, b_lowest_term⟩ := c_lowest_term.ex
  obtain ⟨f_write_polynomial, fd_write_polynomial, G_write_polynomial, m_write_polynomial, k_write_polynomial, b_write_polynomial⟩ := c_write_polynomial.ex
  refine fn_ok F sc_read_polynomial (by decide) (fun ds d h => ?_) (fun cdv A outer s H E hr => ?_)
  · exact len_read_polynomial h
  · have hu65 := hu65_of hr
    refine ⟨_, (pss_cons (ps_setLc (i := 1) (own := [("sign", 3), ("piece", 4)]) rfl sc_read_polynomial.nd rfl rfl (sw_true rfl rfl rfl (by decide +kernel)) (pi_list (pe_call G_split_at_signs (hr.mono (by decide)) (by rfl) m_split_at_signs k_split_at_signs b_split_at_signs .nil pass0 (pa_cons (pv 0) pa_nil))) (blkOk_by (own := [("sign", 3), ("piece", 4)]) (N := nm_read_polynomial) (sc := defScope s_read_polynomial) (by decide +kernel)) (fun _ _ _ _ _ => by exact (by refine pg_tupK K 2 (t := gCons (gName 3) (gCons (gName 4) (gNil))) rfl ?_; exact (pgs_cons (pg_name (i := 3) sc_read_polynomial.nd rfl (Or.inl rfl)) (pgs_cons (pg_name (i := 4) sc_read_polynomial.nd rfl (Or.inl rfl)) pgs_nil)))) (fun _ _ _ _ _ => by exact pts_nil) (fun _ _ _ _ _ => by exact (pe_call G_read_term (hr.mono (by decide)) (by rfl) m_read_term k_read_term b_read_term .nil pass0 (pa_cons (pv 3) (pa_cons (pv 4) pa_nil)))))
      (pss_cons (ps_if ((pw_or (pt_cmpR (op_inD hu65) pe_non (pv 1) (by with_unfolding_all rfl)) (pw_or1 (pt_not (pt_val (pe_call G_powers_fall (hr.mono (by decide)) (by rfl) m_powers_fall k_powers_fall b_powers_fall .nil pass0 (pa_cons (pv 1) pa_nil))))))).pt (pss_one (ps_ret pe_non)) pss_nil)
      (pss_cons (ps_setLc (i := 2) (own := [("term", 5)]) rfl sc_read_polynomial.nd rfl rfl (sw_true rfl rfl rfl (by decide +kernel)) (pi_list (pv 1)) (blkOk_by (own := [("term", 5)]) (N := nm_read_polynomial) (sc := defScope s_read_polynomial) (by decide +kernel)) (fun _ _ _ _ _ => by exact (pg_name (i := 5) sc_read_polynomial.nd rfl (Or.inl rfl))) (fun _ _ _ _ _ => by exact (pts_one (pt_cmpR op_ne (pe_ix (ix_tupK K) (pv 5) pe_int (fun _ _ => rfl)) pe_int (nomark _)))) (fun _ _ _ _ _ => by exact (pe_call G_lowest_term (hr.mono (by decide)) (by rfl) m_lowest_term k_lowest_term b_lowest_term .nil pass0 (pa_cons (pv 5) pa_nil))))
      (pss_cons (ps_if (pt_cmpR (op_neD hr.units) (pe_call G_write_polynomial (hr.mono (by decide)) (by rfl) m_write_polynomial k_write_polynomial b_write_polynomial .nil pass0 (pa_cons (pv 2) pa_nil)) (pv 0) (nomark _)) (pss_one (ps_ret pe_non)) pss_nil)
      (pss_one (ps_ret (pv 2))))))), fun ds d hR G0 H0 Q Z k => ?_⟩
    obtain ⟨t, rfl, ht, rfl⟩ := hR
    have hsl := split_len t
    have hso := fun y (hy : y ∈ Sl.splitSigns t) => split_ok hy
    refine q_asg (d := .lst ((Sl.splitSigns t).map fun y => dOT (Sl.readTerm y.1 y.2))) (ev_is (n_lc (it_list (ev_call (ea_cons (ev_var rfl) ea_nil) ⟨t, rfl, by omega, rfl⟩) .lst) _ [3, 4] (fun d as => match d with
      | .tup [a, b] => (as.set 3 (.dat a)).set 4 (.dat b)
      | _ => as) (fun d hd => ?_) (by decide) (fun _ => true) fR (by rw [List.length_map]; omega) (fun d hd => et_yes) (fun d hd _ => ?_)).ev ?_) ?_
    · obtain ⟨y, _, rfl⟩ := List.mem_map.mp hd
      exact tg_tup2
    · obtain ⟨y, hy, rfl⟩ := List.mem_map.mp hd
      have h := hso y hy
      exact ev_call (ea_cons (ev_var rfl) (ea_cons (ev_var rfl) ea_nil)) ⟨y.1, y.2, rfl, h.1, by omega, fR_dP y⟩
    · rw [picked_all (fun _ _ => rfl), List.map_map]
      congr 1
      exact List.map_congr_left fun y _ => fR_dP y
    · have hin := any_none (fun y : Int × List Nat => Sl.readTerm y.1 y.2) (Sl.splitSigns t)
      have hsh : Sh (.lst ((Sl.splitSigns t).map fun y => dOT (Sl.readTerm y.1 y.2))) := sh_of (n := 2) (dep_lst fun d hd => by
        obtain ⟨y, _, rfl⟩ := List.mem_map.mp hd
        exact dOT_dep _) (by decide)
      cases ea : Sl.readAll t with
      | none =>
        have hany : ((Sl.splitSigns t).any fun y => (Sl.readTerm y.1 y.2).isNone) = true := by
          obtain ⟨y, hy, ey⟩ := mapM_none (f := fun x : Int × List Nat => Sl.readTerm x.1 x.2) ea
          rw [List.any_eq_true]
          exact ⟨y, hy, by rw [ey]; rfl⟩
        refine q_when (b := true) (et_or (b := true) (c := false) (et_is (et_test (ev_inD ev_non.r (ev_var rfl).r sh_non hsh).r) (hin.trans hany)) fun z => by cases z) (fun _ => ?_) (fun z => by cases z)
        refine c_ret (ev_is ev_non ?_) k
        unfold Sl.read
        rw [ea]; rfl
      | some l =>
        have hany : ((Sl.splitSigns t).any fun y => (Sl.readTerm y.1 y.2).isNone) = false := by
          rw [List.any_eq_false]
          intro y hy z
          have hm := mapM_map (f := fun x : Int × List Nat => Sl.readTerm x.1 x.2) ea
          have h1 : Sl.readTerm y.1 y.2 ∈ l.map some := by
            rw [← hm]
            exact List.mem_map.mpr ⟨y, hy, rfl⟩
          obtain ⟨u, _, eu⟩ := List.mem_map.mp h1
          rw [← eu] at z
          cases z
        have hterms : ((Sl.splitSigns t).map fun y => dOT (Sl.readTerm y.1 y.2)) = dTs l := by
          have hm := mapM_map (f := fun x : Int × List Nat => Sl.readTerm x.1 x.2) ea
          have := congrArg (List.map dOT) hm
          rw [List.map_map, List.map_map] at this
          exact this
        have hbd : ∀ x ∈ l, Bdt 800 x ∧ 0 < x.d := fun x hx => by
          obtain ⟨y, hy, ey⟩ := Sl.mapM_mem (f := fun x : Int × List Nat => Sl.readTerm x.1 x.2) ea x hx
          have h := hso y hy
          have hb := readTerm_log h.1 ey
          have h1 := hb.p
          have h2 := hb.n
          have h3 := hb.d
          exact ⟨⟨by omega, by omega, by omega⟩, Sl.readTerm_d ey⟩
        have hll : l.length ≤ 201 := by
          have hm := congrArg List.length (mapM_map (f := fun x : Int × List Nat => Sl.readTerm x.1 x.2) ea)
          rw [List.length_map, List.length_map] at hm
          omega
        have eread : Sl.read t = if Sl.falls l = false then none else if Sl.write (Sl.keptOf l) ≠ t then none else some (Sl.keptOf l) := by
          unfold Sl.read
          rw [ea]
        rw [hterms] at hin hsh ⊢
        refine q_when (et_or (b := false) (et_is (et_test (ev_inD ev_non.r (ev_var rfl).r sh_non hsh).r) (hin.trans hany)) fun _ => et_not (et_B (ev_call (ea_cons (ev_var rfl) ea_nil) ⟨l, rfl, by omega, rfl⟩).r)) (fun q => ?_) (fun q => ?_)
        · have hf : Sl.falls l = false := by
            cases h : Sl.falls l with
            | false => rfl
            | true => rw [h] at q; cases q
          refine c_ret (ev_is ev_non ?_) k
          rw [eread, if_pos hf]; rfl
        · have hf : ¬ Sl.falls l = false := fun h => by rw [h] at q; cases q
          rw [if_neg hf] at eread
          refine q_asg (d := .lst (dTs (Sl.keptOf l))) (ev_is (n_lc (it_list (ev_var rfl) .lst) _ [5] (fun d as => as.set 5 (.dat d)) (fun d hd => tg_name) (by decide) nzD fL (by rw [dTs_len]; omega) (fun d hd => ?_) (fun d hd _ => ?_)).ev ?_) ?_
          · obtain ⟨x, _, rfl⟩ := List.mem_map.mp hd
            exact et_test (ev_neI (ev_ixT (k := 1) (ev_var (d := dT x) rfl) ev_i.r rfl).r ev_i.r).r
          · obtain ⟨x, hx, rfl⟩ := List.mem_map.mp hd
            have h := hbd x hx
            have h1 := h.1.d
            exact ev_call (ea_cons (ev_var rfl) ea_nil) ⟨x.p, x.n, x.d, rfl, by omega, by rw [Int.natAbs_natCast]; omega, rfl⟩
          · unfold picked dTs Sl.keptOf
            rw [List.filter_map, List.map_map, List.map_map]
            congr 1
            have e1 : l.filter (nzD ∘ dT) = l.filter fun t => decide (t.n ≠ 0) := by
              congr 1
              funext x
              show (!decide (x.n = 0)) = decide (x.n ≠ 0)
              rw [decide_not]
            rw [e1]
            refine List.map_congr_left fun x hx => ?_
            exact low_nat (hbd x (List.mem_filter.mp hx).1).2
          · have hkb : ∀ x ∈ Sl.keptOf l, Bdt 800 x := fun x hx => by
              obtain ⟨y, hy, rfl⟩ := List.mem_map.mp hx
              exact lowest_bd (hbd y (List.mem_filter.mp hy).1).1
            have hkl : (Sl.keptOf l).length ≤ 201 := by
              unfold Sl.keptOf
              rw [List.length_map]
              have := List.length_filter_le (fun t : Sl.Tm => decide (t.n ≠ 0)) l
              omega
            have hwl : (Sl.write (Sl.keptOf l)).length ≤ 900000 := by
              have := write_len hkb
              have h2 : (Sl.keptOf l).length * (3 * 800 + 10) ≤ 201 * (3 * 800 + 10) := Nat.mul_le_mul_right _ hkl
              omega
            refine q_when (et_test (ev_neD (ev_call (ea_cons (ev_var rfl) ea_nil) ⟨Sl.keptOf l, rfl, fun x hx => ⟨by have := (hkb x hx).p; omega, by have := (hkb x hx).n; omega, by have := (hkb x hx).d; omega⟩, hwl, rfl⟩).r (ev_var rfl).r (sh_dN _) (sh_dN' _)).r) (fun q => ?_) (fun q => ?_)
            · rw [eqD_dN'] at q
              have h : Sl.write (Sl.keptOf l) ≠ t := fun z => by
                rw [decide_eq_true z] at q; cases q
              refine c_ret (ev_is ev_non ?_) k
              rw [eread, if_pos h]; rfl
            · rw [eqD_dN'] at q
              have h : ¬ Sl.write (Sl.keptOf l) ≠ t := fun z => by
                rw [decide_eq_false z] at q; cases q
              refine c_ret (ev_is (ev_var rfl) ?_) k
              rw [eread, if_neg h]; rfl
end Pg
set_option Elab.async false
set_option linter.all false
set_option maxRecDepth 100000
set_option maxHeartbeats 2000000
namespace Pg
open PySem PyProof.Rows L2 Fw
abbrev s_trimmed : Stmt := topS 1
abbrev nm_trimmed : List Str := ["numbers", "end"]
theorem sc_trimmed : FnScope nm_trimmed ["numbers"] (defScope s_trimmed) := ⟨rfl, rfl, rfl, by decide +kernel, rfl, by decide +kernel, by decide +kernel⟩
def R_trimmed : List D → D → Prop := fun ds d => ∃ l : List Int, ds = [.lst (dI l)] ∧ l.length ≤ 100000 ∧ d = .lst (dI (Sl.trimI l))
theorem len_trimmed {ds : List D} {d : D} (h : R_trimmed ds d) : ds.length = 1 := by obtain ⟨a, rfl, _⟩ := h; rfl
theorem dI_len (l : List Int) : (dI l).length = l.length := List.length_map ..
theorem dI_append (a b : List Int) : dI (a ++ b) = dI a ++ dI b := List.map_append
theorem dI_get {l : List Int} {i : Nat} (h : i < l.length) : (dI l)[i]? = some (.int (Sl.co l i)) := by
  unfold dI Sl.co
  rw [List.getElem?_map, List.getD_eq_getElem?_getD, List.getElem?_eq_getElem h]; rfl
theorem cut_dI_to (w : List Int) (k : Nat) : cut (dI w) none (some (k : Int)) = dI (w.take k) := by rw [cut_to]; exact List.map_take.symm
theorem cut_dI_from (w : List Int) (k : Nat) : cut (dI w) (some (k : Int)) none = dI (w.drop k) := by rw [cut_from]; exact List.map_drop.symm
theorem take_last {l : List Int} {m : Nat} (h : m < l.length) : l.take (m + 1) = l.take m ++ [Sl.co l m] := by
  unfold Sl.co
  rw [List.take_add_one, List.getD_eq_getElem?_getD, List.getElem?_eq_getElem h]; rfl
theorem ok_trimmed {P : Program} {w : World} {K : PySem.W.Frag} {mg : Str → Option Value} {base : Heap} {f : Addr} {fd : FuncData} (T : Txt mg) (F : Fun K "trimmed" "trimmed" s_trimmed f fd) : FnOk P w K mg base CX0 1 f fd ["numbers"] (SpR K R_trimmed) := by
  refine fn_ok F sc_trimmed (by decide) (fun ds d h => ?_) (fun cdv A outer s H E hr => ?_)
  · exact len_trimmed h
  · have hu65 := hu65_of hr
    refine ⟨_, (pss_cons (ps_set (i := 1) sc_trimmed.nd rfl (Or.inl rfl) (pe_callB call_len_seq (by rfl) T.b_len PySem.boot_len (pa_cons (pv 0) pa_nil)))
      (pss_cons (ps_while PassesOwn.never ((pw_and (pt_cmpR op_gt (pv 1) pe_int (nomark _)) (pw_and1 (pt_cmpR op_eq (pe_ix ix_list (pv 0) (pe_op op_sub (pv 1) pe_int) (fun _ _ => rfl)) pe_int (nomark _))))).pt (pss_one (ps_set (i := 1) sc_trimmed.nd rfl (Or.inl rfl) (pe_op op_sub (pv 1) pe_int))))
      (pss_one (ps_ret (pe_slice sl_list (pv 0) po_none (po_some (pv 1))))))), fun ds d hR G0 H0 Q Z k => ?_⟩
    obtain ⟨l, rfl, hl, rfl⟩ := hR
    refine q_asg (ev_len rfl (ev_var rfl).r .lst) ?_
    refine q_while (fun e : Nat => [.dat (.lst (dI l)), .dat (.int (e : Int))]) (fun e => e ≤ l.length ∧ Sl.trimI (l.take e) = Sl.trimI l) (fun e => e) l.length (le_eq rfl (le_eq (by rw [dI_len]) le_nil)) ⟨Nat.le_refl _, by rw [List.take_length]⟩ fun e he => ?_
    by_cases h0 : e = 0
    · subst h0
      refine ⟨false, et_and (b := false) (c := false) (et_is (et_test (ev_opB (ev_var rfl).r ev_i.r).r) (by decide)) (fun z => by cases z), (fun z => by cases z), fun _ => ?_⟩
      refine c_ret (ev_is (n_sl (lo := none) (ev_var rfl) .lst eo_none (eo_some (ev_var rfl).r)).ev ?_) k
      rw [cut_dI_to, ← he.2]; rfl
    · obtain ⟨m, rfl⟩ : ∃ m, e = m + 1 := ⟨e - 1, by omega⟩
      have hm : m < l.length := by omega
      refine ⟨_, et_and (b := true) (et_is (et_test (ev_opB (ev_var rfl).r ev_i.r).r) (decide_eq_true (by omega))) (fun _ => et_test (ev_eqI (ev_ix (k := m) (ev_var rfl) .lst (er_is (ev_opI (ev_var rfl).r ev_i.r).r (by congr 1; omega)) (dI_get hm)).r ev_i.r).r), fun q => ?_, fun q => ?_⟩
      · have hz : Sl.co l m = 0 := of_decide_eq_true q
        refine c_asg (ev_opI (ev_var rfl).r ev_i.r) ?_
        refine c_nx m (le_eq rfl (le_eq ?_ le_nil)) ⟨by omega, ?_⟩ (by show m < m + 1; omega)
        · congr 2; omega
        · rw [← he.2, take_last hm, hz, Sl.trimI_zero]
      · have hz : Sl.co l m ≠ 0 := of_decide_eq_false q
        refine c_ret (ev_is (n_sl (lo := none) (ev_var rfl) .lst eo_none (eo_some (ev_var rfl).r)).ev ?_) k
        rw [cut_dI_to, ← he.2, take_last hm, Sl.trimI_last hz]
abbrev s_number_at : Stmt := topS 3
abbrev nm_number_at : List Str := ["polynomial", "power"]
theorem sc_number_at : FnScope nm_number_at ["polynomial", "power"] (defScope s_number_at) := ⟨rfl, rfl, rfl, by decide +kernel, rfl, by decide +kernel, by decide +kernel⟩
def R_number_at : List D → D → Prop := fun ds d => ∃ (l : List Int) (i : Nat), ds = [.lst (dI l), .int (i : Int)] ∧ d = .int (Sl.co l i)
theorem len_number_at {ds : List D} {d : D} (h : R_number_at ds d) : ds.length = 2 := by obtain ⟨a, b, rfl, _⟩ := h; rfl
theorem ok_number_at {P : Program} {w : World} {K : PySem.W.Frag} {mg : Str → Option Value} {base : Heap} {f : Addr} {fd : FuncData} (T : Txt mg) (F : Fun K "number_at" "number_at" s_number_at f fd) : FnOk P w K mg base CX0 1 f fd ["polynomial", "power"] (SpR K R_number_at) := by
  refine fn_ok F sc_number_at (by decide) (fun ds d h => ?_) (fun cdv A outer s H E hr => ?_)
  · exact len_number_at h
  · have hu65 := hu65_of hr
    refine ⟨_, (pss_one (ps_ret (pe_ifExp (pt_cmpR op_lt (pv 1) (pe_callB call_len_seq (by rfl) T.b_len PySem.boot_len (pa_cons (pv 0) pa_nil)) (nomark _)) (pe_ix ix_list (pv 0) (pv 1) (fun _ _ => rfl)) pe_int))), fun ds d hR G0 H0 Q Z k => ?_⟩
    obtain ⟨l, i, rfl, rfl⟩ := hR
    refine c_ret (ev_if (et_test (ev_opB (ev_var rfl).r (ev_len rfl (ev_var rfl).r .lst).r).r) (fun q => ?_) (fun q => ?_)) k
    · have h : i < l.length := by
        have := of_decide_eq_true q
        rw [dI_len] at this
        omega
      exact ev_ix (k := i) (ev_var rfl) .lst (ev_var rfl).r (dI_get h)
    · have h : ¬ i < l.length := by
        have := of_decide_eq_false q
        rw [dI_len] at this
        omega
      refine ev_is ev_i ?_
      rw [Sl.co_ge (by omega)]
end Pg
set_option Elab.async false
set_option linter.all false
set_option maxRecDepth 100000
set_option maxHeartbeats 2000000
namespace Pg
open PySem PyProof.Rows L2 Fw
abbrev s_plus : Stmt := topS 2
abbrev nm_plus : List Str := ["first", "second", "count", "power"]
theorem sc_plus : FnScope nm_plus ["first", "second"] (defScope s_plus) := ⟨rfl, rfl, rfl, by decide +kernel, rfl, by decide +kernel, by decide +kernel⟩
def R_plus : List D → D → Prop := fun ds d => ∃ a b : List Int, ds = [.lst (dI a), .lst (dI b)] ∧ a.length ≤ 1000 ∧ b.length ≤ 1000 ∧ d = .lst (dI (Sl.plusI a b))
theorem len_plus {ds : List D} {d : D} (h : R_plus ds d) : ds.length = 2 := by obtain ⟨a, b, rfl, _⟩ := h; rfl
def atD (f : Nat → D) : D → D
  | .int i => f i.toNat
  | d => d
theorem picked_range (n : Nat) (f : Nat → D) : picked (fun _ => true) (atD f) ((List.range n).map fun k => D.int (k : Nat)) = (List.range n).map f := by
  rw [picked_all (fun _ _ => rfl), List.map_map]
  refine List.map_congr_left fun i _ => ?_
  show f (Int.toNat (i : Int)) = f i
  rw [Int.toNat_natCast]
theorem mem_range_D {n : Nat} {d : D} (h : d ∈ (List.range n).map fun k => D.int (k : Nat)) : ∃ i, i < n ∧ d = .int (i : Int) := by
  obtain ⟨i, hi, rfl⟩ := List.mem_map.mp h
  exact ⟨i, List.mem_range.mp hi, rfl⟩
theorem dI_range (n : Nat) (f : Nat → Int) : ((List.range n).map fun i => D.int (f i)) = dI ((List.range n).map f) := by
  unfold dI; rw [List.map_map]; rfl
theorem ok_plus {P : Program} {w : World} {K : PySem.W.Frag} {mg : Str → Option Value} {base : Heap} {f : Addr} {fd : FuncData} (T : Txt mg) (c_trimmed : Cal P w K mg base 1 "trimmed" ["numbers"] R_trimmed) (c_number_at : Cal P w K mg base 1 "number_at" ["polynomial", "power"] R_number_at) (F : Fun K "plus" "plus" s_plus f fd) : FnOk P w K mg base CX0 2 f fd ["first", "second"] (SpR K R_plus) := by
  obtain ⟨f_trimmed, fd_trimmed, G_trimmed, m_trimmed, k_trimmed, b_trimmed⟩ := c_trimmed.ex
  obtain ⟨f_number_at, fd_number_at, G_number_at, m_number_at, k_number_at, b_number_at⟩ := c_number_at.ex
  refine fn_ok F sc_plus (by decide) (fun ds d h => ?_) (fun cdv A outer s H E hr => ?_)
  · exact len_plus h
  · have hu65 := hu65_of hr
    refine ⟨_, (pss_cons (ps_set (i := 2) sc_plus.nd rfl (Or.inl rfl) (pe_callB (call_max2 rfl) (by rfl) T.b_max (by decide +kernel) (pa_cons (pe_callB call_len_seq (by rfl) T.b_len PySem.boot_len (pa_cons (pv 0) pa_nil)) (pa_cons (pe_callB call_len_seq (by rfl) T.b_len PySem.boot_len (pa_cons (pv 1) pa_nil)) pa_nil))))
      (pss_one (ps_ret (pe_call G_trimmed (hr.mono (by decide)) (by rfl) m_trimmed k_trimmed b_trimmed .nil pass0 (pa_cons (pe_lc (own := [("power", 3)]) rfl sc_plus.nd (pi_range1 (by rfl) T.b_range (pa_cons (pv 2) pa_nil)) (blkOk_by (own := [("power", 3)]) (N := nm_plus) (sc := defScope s_plus) (by decide +kernel)) (fun _ _ _ _ _ => by exact (pg_name (i := 3) sc_plus.nd rfl (Or.inl rfl))) (fun _ _ _ _ _ => by exact pts_nil) (fun _ _ _ _ _ => by exact (pe_op op_add (pe_call G_number_at (hr.mono (by decide)) (by rfl) m_number_at k_number_at b_number_at .nil pass0 (pa_cons (pv 0) (pa_cons (pv 3) pa_nil))) (pe_call G_number_at (hr.mono (by decide)) (by rfl) m_number_at k_number_at b_number_at .nil pass0 (pa_cons (pv 1) (pa_cons (pv 3) pa_nil)))))) pa_nil))))), fun ds d hR G0 H0 Q Z k => ?_⟩
    obtain ⟨a, b, rfl, ha, hb, rfl⟩ := hR
    refine q_asg (d := .int (max a.length b.length : Nat)) (ev_is (ev_max2 rfl (ev_len rfl (ev_var rfl).r .lst).r (ev_len rfl (ev_var rfl).r .lst).r) (by rw [dI_len, dI_len]; congr 1; omega)) ?_
    refine c_ret (d := .lst (dI (Sl.plusI a b))) (ev_call (ea_cons (ev_is (n_lc (it_range1 (n := max a.length b.length) (ev_var rfl).r (by omega)) _ [3] (fun d as => as.set 3 (.dat d)) (fun d hd => tg_name) (by decide) (fun _ => true) (atD fun i => .int (Sl.co a i + Sl.co b i)) (by rw [List.length_map, List.length_range]; omega) (fun d hd => et_yes) (fun d hd _ => ?_)).ev ?_) ea_nil) ⟨(List.range (max a.length b.length)).map fun i => Sl.co a i + Sl.co b i, rfl, by rw [List.length_map, List.length_range]; omega, rfl⟩) k
    · obtain ⟨i, hi, rfl⟩ := mem_range_D hd
      refine ev_is (ev_opI (ev_call (ea_cons (ev_var rfl) (ea_cons (ev_var rfl) ea_nil)) ⟨a, i, rfl, rfl⟩).r (ev_call (ea_cons (ev_var rfl) (ea_cons (ev_var rfl) ea_nil)) ⟨b, i, rfl, rfl⟩).r) ?_
      show _ = D.int (Sl.co a (Int.toNat (i : Int)) + Sl.co b (Int.toNat (i : Int)))
      rw [Int.toNat_natCast]
    · rw [picked_range, dI_range]
abbrev s_slope : Stmt := topS 5
abbrev nm_slope : List Str := ["polynomial", "power"]
theorem sc_slope : FnScope nm_slope ["polynomial"] (defScope s_slope) := ⟨rfl, rfl, rfl, by decide +kernel, rfl, by decide +kernel, by decide +kernel⟩
def R_slope : List D → D → Prop := fun ds d => ∃ a : List Int, ds = [.lst (dI a)] ∧ a.length ≤ 1000 ∧ (∀ x ∈ a, x.natAbs.log2 < 500000) ∧ d = .lst (dI (Sl.slopeI a))
theorem len_slope {ds : List D} {d : D} (h : R_slope ds d) : ds.length = 1 := by obtain ⟨a, rfl, _⟩ := h; rfl
theorem co_mem {l : List Int} {i : Nat} (h : i < l.length) : Sl.co l i ∈ l := by
  unfold Sl.co
  rw [List.getD_eq_getElem?_getD, List.getElem?_eq_getElem h]
  exact List.getElem_mem h
theorem small_log {n k : Nat} (h : n < 2 ^ k) (hk : 0 < k) : n.log2 ≤ k := Nat.le_of_lt (log2_of_lt h hk)
theorem ok_slope {P : Program} {w : World} {K : PySem.W.Frag} {mg : Str → Option Value} {base : Heap} {f : Addr} {fd : FuncData} (T : Txt mg) (F : Fun K "slope" "slope" s_slope f fd) : FnOk P w K mg base CX0 1 f fd ["polynomial"] (SpR K R_slope) := by
  refine fn_ok F sc_slope (by decide) (fun ds d h => ?_) (fun cdv A outer s H E hr => ?_)
  · exact len_slope h
  · have hu65 := hu65_of hr
    refine ⟨_, (pss_one (ps_ret (pe_lc (own := [("power", 1)]) rfl sc_slope.nd (pi_range2 (by rfl) T.b_range (pa_cons pe_int (pa_cons (pe_callB call_len_seq (by rfl) T.b_len PySem.boot_len (pa_cons (pv 0) pa_nil)) pa_nil))) (blkOk_by (own := [("power", 1)]) (N := nm_slope) (sc := defScope s_slope) (by decide +kernel)) (fun _ _ _ _ _ => by exact (pg_name (i := 1) sc_slope.nd rfl (Or.inl rfl))) (fun _ _ _ _ _ => by exact pts_nil) (fun _ _ _ _ _ => by exact (pe_op op_mulW (pv 1) (pe_ix (ix_listK K) (pv 0) (pv 1) (fun _ _ => rfl))))))), fun ds d hR G0 H0 Q Z k => ?_⟩
    obtain ⟨a, rfl, ha, hx, rfl⟩ := hR
    have hlen : (((dI a).length : Int) - 1).toNat = a.length - 1 := by rw [dI_len]; omega
    refine c_ret (ev_is (n_lc (it_range2 (lo := 1) (n := ((dI a).length : Int)) (ea_cons ev_i (ea_cons (ev_len rfl (ev_var rfl).r .lst) ea_nil)) (by rw [dI_len]; omega)) _ [1] (fun d as => as.set 1 (.dat d)) (fun d hd => tg_name) (by decide) (fun _ => true) (atD fun i => .int ((i : Int) * Sl.co a i)) (by rw [List.length_map, List.length_range]; omega) (fun d hd => et_yes) (fun d hd _ => ?_)).ev ?_) k
    · obtain ⟨j, hj, rfl⟩ := List.mem_map.mp hd
      have hj' : j < a.length - 1 := by
        have := List.mem_range.mp hj
        omega
      have h1 : j + 1 < a.length := by omega
      have e : (1 : Int) + (j : Nat) = ((j + 1 : Nat) : Int) := by omega
      rw [e]
      refine ev_is (ev_mul (ev_var rfl).r (ev_ix (k := j + 1) (ev_var rfl) .lst (ev_var rfl).r (dI_get h1)).r (mulW_of (a := 20) (b := 500000) ?_ (Nat.le_of_lt (hx _ (co_mem h1))) (by decide))) ?_
      · rw [Int.natAbs_natCast]
        exact small_log (by omega) (by decide)
      · show _ = D.int (((((j + 1 : Nat) : Int).toNat : Nat) : Int) * Sl.co a (((j + 1 : Nat) : Int).toNat))
        rw [Int.toNat_natCast]
    · rw [hlen, picked_all (fun _ _ => rfl), List.map_map]
      unfold Sl.slopeI
      rw [← dI_range]
      congr 1
      refine List.map_congr_left fun i _ => ?_
      show D.int ((((1 + (i : Nat) : Int).toNat : Nat) : Int) * Sl.co a ((1 + (i : Nat) : Int).toNat)) = _
      rw [show (1 + (i : Nat) : Int).toNat = i + 1 by omega]
      rfl
end Pg
set_option Elab.async false
set_option linter.all false
set_option maxRecDepth 100000
set_option maxHeartbeats 2000000
namespace Pg
open PySem PyProof.Rows L2 Fw
abbrev s_times : Stmt := topS 4
abbrev nm_times : List Str := ["first", "second", "product", "low", "number", "high", "other"]
theorem sc_times : FnScope nm_times ["first", "second"] (defScope s_times) := ⟨rfl, rfl, rfl, by decide +kernel, rfl, by decide +kernel, by decide +kernel⟩
def Sz (k : Nat) (l : List Int) : Prop := ∀ x ∈ l, x.natAbs < 2 ^ k
theorem sz_log {k : Nat} {l : List Int} (h : Sz k l) (hk : 0 < k) {x : Int} (hx : x ∈ l) : x.natAbs.log2 < k := log2_of_lt (h x hx) hk
theorem sz_mono {j k : Nat} {l : List Int} (h : Sz j l) (hk : j ≤ k) : Sz k l := fun x hx => Nat.lt_of_lt_of_le (h x hx) (Nat.pow_le_pow_right (by decide) hk)
def R_times : List D → D → Prop := fun ds d => ∃ a b : List Int, ds = [.lst (dI a), .lst (dI b)] ∧ a.length ≤ 1000 ∧ b.length ≤ 1000 ∧ Sz 400000 a ∧ Sz 400000 b ∧ d = .lst (dI (Sl.timesI a b))
theorem len_times {ds : List D} {d : D} (h : R_times ds d) : ds.length = 2 := by obtain ⟨a, b, rfl, _⟩ := h; rfl
def enumD (l : List Int) : List D := (dI l).zipIdx.map fun x => pairD (.int (x.2 : Nat)) x.1
theorem enumD_len (l : List Int) : (enumD l).length = l.length := by
  unfold enumD; rw [List.length_map, List.length_zipIdx, dI_len]
theorem enumD_get {l : List Int} {i : Nat} {d : D} (h : (enumD l)[i]? = some d) : i < l.length ∧ d = pairD (.int (i : Int)) (.int (Sl.co l i)) := by
  have hi : i < l.length := by
    have := (List.getElem?_eq_some_iff.mp h).1
    rwa [enumD_len] at this
  refine ⟨hi, ?_⟩
  unfold enumD at h
  rw [List.getElem?_map, List.getElem?_zipIdx, dI_get hi] at h
  have := Option.some.inj h
  rw [← this]
  show pairD (.int ((0 + i : Nat) : Int)) _ = _
  rw [Nat.zero_add]
def two (i j : Nat) : D → List AS → List AS := fun d as => match d with
  | .tup [a, b] => (as.set i (.dat a)).set j (.dat b)
  | _ => as
theorem enumD_tg {K : PySem.W.Frag} {l : List Int} {i j : Nat} (d : D) (h : d ∈ enumD l) : TgE K (gTup K 2 (gCons (gName i) (gCons (gName j) gNil))) d [i, j] (two i j d) := by
  obtain ⟨k, hk⟩ := List.mem_iff_getElem?.mp h
  rw [(enumD_get hk).2]
  exact tg_tup2
theorem cvI_snoc (g : Nat → Int) (c : Int) : ∀ (a : List Int) (k : Nat), Sl.cvI (a ++ [c]) g k = Sl.cvI a g k + (if a.length ≤ k then c * g (k - a.length) else 0)
  | [], 0 => by show c * g 0 = 0 + _; simp
  | [], k + 1 => by show c * g (k + 1) + 0 = 0 + _; simp
  | d :: a, 0 => by show d * g 0 = d * g 0 + _; simp
  | d :: a, k + 1 => by
    show d * g (k + 1) + Sl.cvI (a ++ [c]) g k = d * g (k + 1) + Sl.cvI a g k + _
    rw [cvI_snoc g c a k, List.length_cons]
    by_cases h : a.length ≤ k
    · rw [if_pos h, if_pos (by omega), show k + 1 - (a.length + 1) = k - a.length by omega]; omega
    · rw [if_neg h, if_neg (by omega)]; omega
theorem set_range (L m : Nat) (f : Nat → Int) (x : Int) : ((List.range L).map f).set m x = (List.range L).map fun k => if k = m then x else f k := by
  refine List.ext_getElem? fun k => ?_
  by_cases h : m = k
  · subst h
    by_cases hm : m < L
    · rw [List.getElem?_set_self (by simpa using hm), List.getElem?_map, List.getElem?_range hm]; simp
    · rw [List.getElem?_eq_none (by simp; omega), List.getElem?_eq_none (by simp; omega)]
  · rw [List.getElem?_set_ne h, List.getElem?_map, List.getElem?_map]
    by_cases hk : k < L
    · rw [List.getElem?_range hk]
      simp only [Option.map_some]
      rw [if_neg (fun z => h z.symm)]
    · rw [List.getElem?_eq_none (by simp; omega)]; rfl
theorem dI_set (l : List Int) (m : Nat) (x : Int) : (dI l).set m (.int x) = dI (l.set m x) := by
  unfold dI; rw [List.map_set]
theorem dI_get' {l : List Int} {i : Nat} (h : i < l.length) : (dI l)[i]? = some (.int (Sl.co l i)) := dI_get h
theorem ok_times {P : Program} {w : World} {K : PySem.W.Frag} {mg : Str → Option Value} {base : Heap} {f : Addr} {fd : FuncData} (T : Txt mg) (F : Fun K "times" "times" s_times f fd) : FnOk P w K mg base CX0 1 f fd ["first", "second"] (SpR K R_times) := by
  refine fn_ok F sc_times (by decide) (fun ds d h => ?_) (fun cdv A outer s H E hr => ?_)
  · exact len_times h
  · have hu65 := hu65_of hr
    refine ⟨_, (pss_cons (ps_if ((pw_or (pt_cmpR (op_eqD hr.units) (pv 0) (pe_lst pa_nil) (nomark _)) (pw_or1 (pt_cmpR (op_eqD hr.units) (pv 1) (pe_lst pa_nil) (nomark _))))).pt (pss_one (ps_ret (pe_lst pa_nil))) pss_nil)
      (pss_cons (ps_set (i := 2) sc_times.nd rfl (Or.inl rfl) (pe_op op_rep (pe_lst (pa_cons pe_int pa_nil)) (pe_op op_sub (pe_op op_add (pe_callB call_len_seq (by rfl) T.b_len PySem.boot_len (pa_cons (pv 0) pa_nil)) (pe_callB call_len_seq (by rfl) T.b_len PySem.boot_len (pa_cons (pv 1) pa_nil))) pe_int)))
      (pss_cons (ps_for PassesOwn.never rfl (pi_enum (by rfl) T.b_enumerate (pa_cons (pv 0) pa_nil)) (pg_tup rfl (pgs_cons (pg_name (i := 3) sc_times.nd rfl (Or.inl rfl)) (pgs_cons (pg_name (i := 4) sc_times.nd rfl (Or.inl rfl)) pgs_nil))) (pss_one (ps_for PassesOwn.never rfl (pi_enum (by rfl) T.b_enumerate (pa_cons (pv 1) pa_nil)) (pg_tup rfl (pgs_cons (pg_name (i := 5) sc_times.nd rfl (Or.inl rfl)) (pgs_cons (pg_name (i := 6) sc_times.nd rfl (Or.inl rfl)) pgs_nil))) (pss_one (ps_asg (pe_op op_add (pe_ix ix_list (pv 2) (pe_op op_add (pv 3) (pv 5)) (fun _ _ => rfl)) (pe_op op_mulW (pv 4) (pv 6))) (pg_sub (pv 2) (pe_op op_add (pv 3) (pv 5)) set_list))))))
      (pss_one (ps_ret (pv 2)))))), fun ds d hR G0 H0 Q Z k => ?_⟩
    obtain ⟨a, b, rfl, ha, hb, sa, sb, rfl⟩ := hR
    have nilq : ∀ l : List Int, eqD (.lst (dI l)) (.lst []) = decide (l = []) := fun l => by
      rw [eqD_nil]
      by_cases h : l = []
      · subst h; rfl
      · have h2 : ¬ dI l = [] := fun z => h (List.map_eq_nil_iff.mp z)
        rw [decide_eq_false h, decide_eq_false h2]
    refine q_when (et_or (et_is (et_test (ev_eqD (ev_var rfl).r (n_lst ea_nil (by decide)).ev.r (sh_dI a) sh_nil).r) (nilq a)) fun _ => et_is (et_test (ev_eqD (ev_var rfl).r (n_lst ea_nil (by decide)).ev.r (sh_dI b) sh_nil).r) (nilq b)) (fun q => ?_) (fun q => ?_)
    · have h : a = [] ∨ b = [] := by
        rw [Bool.or_eq_true] at q
        rcases q with q | q
        · exact .inl (of_decide_eq_true q)
        · exact .inr (of_decide_eq_true q)
      refine c_ret (ev_is (n_lst ea_nil (by decide)).ev ?_) k
      unfold Sl.timesI
      rw [if_pos h]; rfl
    · have h : ¬ (a = [] ∨ b = []) := by
        rw [Bool.or_eq_false_iff] at q
        rintro (z | z)
        · exact of_decide_eq_false q.1 z
        · exact of_decide_eq_false q.2 z
      have ha0 : 0 < a.length := List.length_pos_iff.mpr fun z => h (.inl z)
      have hb0 : 0 < b.length := List.length_pos_iff.mpr fun z => h (.inr z)
      generalize hL : a.length + b.length - 1 = L
      refine q_new (n_rep (k := L) (n_lst (ea_cons ev_i ea_nil) (by decide)).ev (er_is (ev_opI (ev_opI (ev_len rfl (ev_var rfl).r .lst).r (ev_len rfl (ev_var rfl).r .lst).r).r ev_i.r).r (by rw [dI_len, dI_len]; congr 1; omega)) (by omega)) ?_
      have row0 : List.replicate L (D.int 0) = dI ((List.range L).map fun k => Sl.cvI (a.take 0) (Sl.co b) k) := by
        show _ = dI ((List.range L).map fun k => 0)
        unfold dI
        rw [List.map_map]
        refine List.ext_getElem? fun i => ?_
        rw [List.getElem?_replicate, List.getElem?_map]
        split
        · rw [List.getElem?_range (by assumption)]; rfl
        · rw [List.getElem?_eq_none (by simp; omega)]; rfl
      refine q_for (it_enum (ev_var rfl) .lst) (fun i => [.dat (.lst (dI a)), .dat (.lst (dI b)), .mu (dI ((List.range L).map fun k => Sl.cvI (a.take i) (Sl.co b) k)), .no, .no, .no, .no]) [3, 4] (two 3 4) (fun d hd => enumD_tg d hd) (le_eq rfl (le_eq rfl (le_eq (by rw [row0]) (le_refl _)))) (fun B C sub i d hd => ?_) ?_
      · obtain ⟨hi, rfl⟩ := enumD_get hd
        show Co K B C [.dat (.lst (dI a)), .dat (.lst (dI b)), .mu (dI ((List.range L).map fun k => Sl.cvI (a.take i) (Sl.co b) k)), .dat (.int (i : Int)), .dat (.int (Sl.co a i)), .no, .no] _
        have hsn : ∀ m, Sl.cvI (a.take (i + 1)) (Sl.co b) m = Sl.cvI (a.take i) (Sl.co b) m + (if i ≤ m then Sl.co a i * Sl.co b (m - i) else 0) := fun m => by
          rw [take_last hi, cvI_snoc, List.length_take, Nat.min_eq_left (by omega)]
        refine c_for (it_enum (ev_var rfl) .lst) (fun j => [.dat (.lst (dI a)), .dat (.lst (dI b)), .mu (dI ((List.range L).map fun m => Sl.cvI (a.take i) (Sl.co b) m + (if i ≤ m ∧ m < i + j then Sl.co a i * Sl.co b (m - i) else 0))), .dat (.int (i : Int)), .dat (.int (Sl.co a i)), .no, .no]) [5, 6] (two 5 6) (fun d hd => enumD_tg d hd) (le_eq rfl (le_eq rfl (le_eq ?_ (le_refl _)))) (fun B2 C2 sub2 j d2 hd2 => ?_) ?_
        · congr 2
          refine List.map_congr_left fun m _ => ?_
          rw [if_neg (by omega), Int.add_zero]
        · obtain ⟨hj, rfl⟩ := enumD_get hd2
          show Co K B2 C2 [.dat (.lst (dI a)), .dat (.lst (dI b)), .mu (dI ((List.range L).map fun m => Sl.cvI (a.take i) (Sl.co b) m + (if i ≤ m ∧ m < i + j then Sl.co a i * Sl.co b (m - i) else 0))), .dat (.int (i : Int)), .dat (.int (Sl.co a i)), .dat (.int (j : Int)), .dat (.int (Sl.co b j))] _
          have hij : i + j < L := by omega
          have hget : (dI ((List.range L).map fun m => Sl.cvI (a.take i) (Sl.co b) m + (if i ≤ m ∧ m < i + j then Sl.co a i * Sl.co b (m - i) else 0)))[i + j]? = some (.int (Sl.cvI (a.take i) (Sl.co b) (i + j))) := by
            rw [dI_get (by rw [List.length_map, List.length_range]; exact hij), Sl.co_range, if_pos hij, if_neg (by omega), Int.add_zero]
          have hmul := mulW_of (i := Sl.co a i) (j := Sl.co b j) (a := 400000) (b := 400000) (Nat.le_of_lt (sz_log sa (by decide) (co_mem hi))) (Nat.le_of_lt (sz_log sb (by decide) (co_mem hj))) (by decide)
          refine c_set (k := i + j) rfl (ev_opI (ev_ixM (k := i + j) rfl (er_is (ev_opI (ev_var rfl).r (ev_var rfl).r).r rfl) hget).r (ev_mul (ev_var rfl).r (ev_var rfl).r hmul).r) (er_is (ev_opI (ev_var rfl).r (ev_var rfl).r).r rfl) (by rw [dI_len, List.length_map, List.length_range]; exact hij) ?_
          refine c_at (le_eq rfl (le_eq rfl (le_eq ?_ (le_eq rfl (le_eq rfl (le_no (le_no le_nil)))))))
          rw [dI_set, set_range]
          congr 2
          refine List.map_congr_left fun m _ => ?_
          by_cases hm : m = i + j
          · subst hm
            rw [if_pos rfl, if_pos (by omega), show i + j - i = j by omega]
          · rw [if_neg hm]
            by_cases h1 : i ≤ m ∧ m < i + j
            · rw [if_pos h1, if_pos (by omega)]
            · rw [if_neg h1, if_neg (by omega)]
        · refine c_at (le_eq rfl (le_eq rfl (le_eq ?_ (le_no (le_no (le_no (le_no le_nil)))))))
          congr 2
          refine List.map_congr_left fun m _ => ?_
          rw [hsn m]
          congr 1
          show _ = if i ≤ m ∧ m < i + (enumD b).length then _ else _
          rw [enumD_len]
          by_cases h1 : i ≤ m
          · rw [if_pos h1]
            by_cases h2 : m < i + b.length
            · rw [if_pos ⟨h1, h2⟩]
            · rw [if_neg (fun z => h2 z.2), Sl.co_ge (l := b) (by omega), Int.mul_zero]
          · rw [if_neg h1, if_neg (fun z => h1 z.1)]
      · refine c_frz (n := 2) rfl ?_
        refine c_ret (ev_is (ev_var rfl) ?_) k
        unfold Sl.timesI
        rw [if_neg h, hL]
        show D.lst (dI ((List.range L).map fun k => Sl.cvI (a.take (enumD a).length) (Sl.co b) k)) = _
        rw [enumD_len, List.take_length]
end Pg
set_option Elab.async false
set_option linter.all false
set_option maxRecDepth 100000
set_option maxHeartbeats 2000000
namespace Pg
open PySem PyProof.Rows L2 Fw
abbrev s_stepped : Stmt := topS 6
abbrev nm_stepped : List Str := ["polynomial", "result", "number"]
theorem sc_stepped : FnScope nm_stepped ["polynomial"] (defScope s_stepped) := ⟨rfl, rfl, rfl, by decide +kernel, rfl, by decide +kernel, by decide +kernel⟩
theorem timesI_len (a b : List Int) : (Sl.timesI a b).length ≤ a.length + b.length - 1 := by
  unfold Sl.timesI
  split
  · simp
  · simp
theorem plusI_len (a b : List Int) : (Sl.plusI a b).length ≤ max a.length b.length := by
  unfold Sl.plusI
  have := Sl.trimI_len ((List.range (max a.length b.length)).map fun i => Sl.co a i + Sl.co b i)
  rwa [List.length_map, List.length_range] at this
theorem stepI_len : ∀ l : List Int, (Sl.stepI l).length ≤ l.length
  | [] => Nat.le_refl _
  | c :: l => by
    have ih := stepI_len l
    show (Sl.plusI (Sl.timesI (Sl.stepI l) [1, 1]) [c]).length ≤ _
    have h1 := plusI_len (Sl.timesI (Sl.stepI l) [1, 1]) [c]
    have h2 := timesI_len (Sl.stepI l) [1, 1]
    simp only [List.length_cons, List.length_nil] at *
    omega
theorem mem_co {l : List Int} {x : Int} (h : x ∈ l) : ∃ i, i < l.length ∧ x = Sl.co l i := by
  obtain ⟨i, hi, e⟩ := List.getElem_of_mem h
  refine ⟨i, hi, ?_⟩
  unfold Sl.co
  rw [List.getD_eq_getElem?_getD, List.getElem?_eq_getElem hi, ← e]; rfl
theorem sz_co {k : Nat} {l : List Int} (h : Sz k l) (n : Nat) : (Sl.co l n).natAbs < 2 ^ k := by
  by_cases hn : n < l.length
  · exact h _ (co_mem hn)
  · rw [Sl.co_ge (by omega)]; exact Nat.two_pow_pos k
theorem sz_of_co {k : Nat} {l : List Int} (h : ∀ n, (Sl.co l n).natAbs < 2 ^ k) : Sz k l := fun x hx => by
  obtain ⟨i, _, rfl⟩ := mem_co hx
  exact h i
theorem pow_more (k : Nat) : 2 ^ (k + 1) = 2 ^ k + 2 ^ k := by rw [Nat.pow_succ]; omega
theorem stepI_sz {k : Nat} : ∀ l : List Int, Sz k l → Sz (k + l.length) (Sl.stepI l)
  | [], _ => fun x hx => by cases hx
  | c :: l, h => by
    have ih := stepI_sz l fun x hx => h x (List.mem_cons_of_mem _ hx)
    have hc : c.natAbs < 2 ^ (k + l.length) := Nat.lt_of_lt_of_le (h c (List.mem_cons_self ..)) (Nat.pow_le_pow_right (by decide) (by omega))
    refine sz_of_co fun n => ?_
    show (Sl.co (Sl.plusI (Sl.timesI (Sl.stepI l) [1, 1]) [c]) n).natAbs < 2 ^ (k + (l.length + 1))
    rw [Sl.plusI_co, Sl.timesI_co, Sl.cvI_11, ← Nat.add_assoc, pow_more]
    cases n with
    | zero =>
      have h1 := sz_co ih 0
      show (Sl.co (Sl.stepI l) 0 + c).natAbs < _
      omega
    | succ n =>
      have h1 := sz_co ih (n + 1)
      have h2 := sz_co ih n
      show (Sl.co (Sl.stepI l) (n + 1) + Sl.co (Sl.stepI l) n + Sl.co [c] (n + 1)).natAbs < _
      rw [Sl.co_succ, Sl.co_nil]
      omega
def R_stepped : List D → D → Prop := fun ds d => ∃ l : List Int, ds = [.lst (dI l)] ∧ l.length ≤ 100 ∧ Sz 300000 l ∧ d = .lst (dI (Sl.stepI l))
theorem len_stepped {ds : List D} {d : D} (h : R_stepped ds d) : ds.length = 1 := by obtain ⟨a, rfl, _⟩ := h; rfl
theorem ok_stepped {P : Program} {w : World} {K : PySem.W.Frag} {mg : Str → Option Value} {base : Heap} {f : Addr} {fd : FuncData} (T : Txt mg) (c_plus : Cal P w K mg base 2 "plus" ["first", "second"] R_plus) (c_times : Cal P w K mg base 1 "times" ["first", "second"] R_times) (F : Fun K "stepped" "stepped" s_stepped f fd) : FnOk P w K mg base CX0 3 f fd ["polynomial"] (SpR K R_stepped) := by
  obtain ⟨f_plus, fd_plus, G_plus, m_plus, k_plus, b_plus⟩ := c_plus.ex
  obtain ⟨f_times, fd_times, G_times, m_times, k_times, b_times⟩ := c_times.ex
  refine fn_ok F sc_stepped (by decide) (fun ds d h => ?_) (fun cdv A outer s H E hr => ?_)
  · exact len_stepped h
  · have hu65 := hu65_of hr
    refine ⟨_, (pss_cons (ps_set (i := 1) sc_stepped.nd rfl (Or.inl rfl) (pe_lst pa_nil))
      (pss_cons (ps_for PassesOwn.never rfl (pi_reversed (by rfl) T.b_reversed (pa_cons (pv 0) pa_nil)) (pg_name (i := 2) sc_stepped.nd rfl (Or.inl rfl)) (pss_one (ps_set (i := 1) sc_stepped.nd rfl (Or.inl rfl) (pe_call G_plus (hr.mono (by decide)) (by rfl) m_plus k_plus b_plus .nil pass0 (pa_cons (pe_call G_times (hr.mono (by decide)) (by rfl) m_times k_times b_times .nil pass0 (pa_cons (pv 1) (pa_cons (pe_lst (pa_cons pe_int (pa_cons pe_int pa_nil))) pa_nil))) (pa_cons (pe_lst (pa_cons (pv 2) pa_nil)) pa_nil))))))
      (pss_one (ps_ret (pv 1))))), fun ds d hR G0 H0 Q Z k => ?_⟩
    obtain ⟨l, rfl, hl, hs, rfl⟩ := hR
    refine q_asg (n_lst ea_nil (by decide)).ev ?_
    refine q_for (it_rev (ev_var rfl) .lst) (fun i => [.dat (.lst (dI l)), .dat (.lst (dI (Sl.stepI (l.drop (l.length - i))))), .no]) [2] (fun d as => as.set 2 (.dat d)) (fun d _ => tg_name) (le_eq rfl (le_eq ?_ (le_no le_nil))) (fun B C sub i d hd => ?_) ?_
    · rw [Nat.sub_zero, List.drop_length]; rfl
    · have hi : i < l.length := by
        have := (List.getElem?_eq_some_iff.mp hd).1
        rwa [List.length_reverse, dI_len] at this
      rw [List.getElem?_reverse (by rw [dI_len]; exact hi), dI_len, dI_get (by omega)] at hd
      cases hd
      have hdrop : l.drop (l.length - (i + 1)) = Sl.co l (l.length - 1 - i) :: l.drop (l.length - i) := by
        have h1 : l.length - (i + 1) < l.length := by omega
        rw [List.drop_eq_getElem_cons h1]
        congr 1
        · unfold Sl.co
          rw [List.getD_eq_getElem?_getD, show l.length - 1 - i = l.length - (i + 1) by omega, List.getElem?_eq_getElem h1]; rfl
        · rw [show l.length - (i + 1) + 1 = l.length - i by omega]
      have hsz : Sz 300000 (l.drop (l.length - i)) := fun x hx => hs x (List.mem_of_mem_drop hx)
      have hlen := stepI_len (l.drop (l.length - i))
      rw [List.length_drop] at hlen
      have hst := stepI_sz _ hsz
      rw [List.length_drop] at hst
      have htl := timesI_len (Sl.stepI (l.drop (l.length - i))) [1, 1]
      simp only [List.length_cons, List.length_nil] at htl
      refine c_asg (d := .lst (dI (Sl.stepI (l.drop (l.length - (i + 1)))))) (ev_call (ea_cons (ev_call (ea_cons (ev_var rfl) (ea_cons (n_lst (ea_cons ev_i (ea_cons ev_i ea_nil)) (by decide)).ev ea_nil)) ⟨Sl.stepI (l.drop (l.length - i)), [1, 1], rfl, by omega, by decide, sz_mono hst (by omega), ?_, rfl⟩) (ea_cons (n_lst (ea_cons (ev_var rfl) ea_nil) (by show 1 ≤ 1000000; decide)).ev ea_nil)) ⟨Sl.timesI (Sl.stepI (l.drop (l.length - i))) [1, 1], [Sl.co l (l.length - 1 - i)], rfl, by omega, by show 1 ≤ 1000; decide, ?_⟩) ?_
      · intro x hx
        have h2 : (2 : Nat) ^ 1 ≤ 2 ^ 400000 := Nat.pow_le_pow_right (by decide) (by decide)
        simp only [List.mem_cons, List.not_mem_nil, or_false] at hx
        rcases hx with rfl | rfl <;> (show 1 < 2 ^ 400000; omega)
      · rw [hdrop]; rfl
      · exact c_at (le_eq rfl (le_eq rfl (le_no le_nil)))
    · refine c_ret (ev_is (ev_var rfl) ?_) k
      rw [List.length_reverse, dI_len, Nat.sub_self, List.drop_zero]
end Pg
set_option Elab.async false
set_option linter.all false
set_option maxRecDepth 100000
set_option maxHeartbeats 2000000
namespace Pg
open PySem PyProof.Rows L2 Fw
abbrev s_left_side : Stmt := topS 9
abbrev nm_left_side : List Str := ["kind", "parts", "y", "total", "moved", "part"]
theorem sc_left_side : FnScope nm_left_side ["kind", "parts", "y"] (defScope s_left_side) := ⟨rfl, rfl, rfl, by decide +kernel, rfl, by decide +kernel, by decide +kernel⟩
def dLL (l : List (List Int)) : List D := l.map fun p => .lst (dI p)
def toI : D → Int
  | .int i => i
  | _ => 0
theorem toI_dI (w : List Int) : (dI w).map toI = w := by
  unfold dI
  rw [List.map_map]
  have := List.map_congr_left (f := toI ∘ D.int) (g := id) (l := w) fun b _ => rfl
  rw [this]; simp
theorem n_is {K : PySem.W.Frag} {as : List AS} {te : TE} {ds es : List D} (h : EvN K te as ds) (e : ds = es) : EvN K te as es := by rw [← e]; exact h
theorem dLL_len (l : List (List Int)) : (dLL l).length = l.length := List.length_map ..
theorem dLL_get {l : List (List Int)} {i : Nat} {d : D} (h : (dLL l)[i]? = some d) : ∃ p, l[i]? = some p ∧ d = .lst (dI p) := by
  unfold dLL at h
  rw [List.getElem?_map] at h
  cases e : l[i]? with
  | none => rw [e] at h; cases h
  | some b => rw [e] at h; exact ⟨b, rfl, (Option.some.inj h).symm⟩
def leftStep (kind : Nat) (s : List Int × List Int) (p : List Int) : List Int × List Int := (Sl.plusI s.1 (Sl.timesI p s.2), if kind = 0 then Sl.slopeI s.2 else Sl.stepI s.2)
def leftSt (kind : Nat) (ps : List (List Int)) (y : List Int) : List Int × List Int := ps.foldl (leftStep kind) ([], y)
theorem leftGo_st (kind : Nat) : ∀ (ps : List (List Int)) (s : List Int × List Int), Sl.leftGo kind ps s.1 s.2 = (ps.foldl (leftStep kind) s).1
  | [], s => rfl
  | p :: ps, s => by rw [List.foldl_cons, ← leftGo_st kind ps]; rfl
theorem leftI_st (kind : Nat) (ps : List (List Int)) (y : List Int) : Sl.leftI kind ps y = (leftSt kind ps y).1 := leftGo_st kind ps ([], y)
theorem leftSt_more (kind : Nat) (ps : List (List Int)) (p y : List Int) : leftSt kind (ps ++ [p]) y = leftStep kind (leftSt kind ps y) p := by unfold leftSt; rw [List.foldl_append]; rfl
theorem slopeI_len (l : List Int) : (Sl.slopeI l).length ≤ l.length := by unfold Sl.slopeI; rw [List.length_map, List.length_range]; omega
theorem slopeI_sz {k : Nat} {l : List Int} (h : Sz k l) (hl : l.length ≤ 100) : Sz (k + 7) (Sl.slopeI l) := fun x hx => by
  unfold Sl.slopeI at hx
  obtain ⟨i, hi, rfl⟩ := List.mem_map.mp hx
  have hi' := List.mem_range.mp hi
  have h1 := sz_co h (i + 1)
  rw [Int.natAbs_mul, Nat.pow_add, Nat.mul_comm]
  exact Nat.mul_lt_mul'' h1 (by omega)
theorem leftSt_ok {k kind : Nat} {y : List Int} (hy : y.length ≤ 100) (hs : Sz k y) : ∀ ps : List (List Int), (leftSt kind ps y).2.length ≤ 100 ∧ Sz (k + 100 * ps.length) (leftSt kind ps y).2 := by
  intro ps
  generalize hn : ps.length = n
  induction n generalizing ps with
  | zero =>
    have : ps = [] := List.eq_nil_of_length_eq_zero hn
    subst this
    exact ⟨hy, hs⟩
  | succ n ih =>
    obtain ⟨v, b, rfl⟩ : ∃ v b, ps = v ++ [b] := ⟨ps.dropLast, ps.getLast (by intro z; subst z; simp at hn), (List.dropLast_concat_getLast _).symm⟩
    rw [List.length_append] at hn
    obtain ⟨h1, h2⟩ := ih v (by simpa using hn)
    rw [leftSt_more]
    unfold leftStep
    by_cases hk : kind = 0
    · rw [if_pos hk]
      exact ⟨Nat.le_trans (slopeI_len _) h1, sz_mono (slopeI_sz h2 h1) (by omega)⟩
    · rw [if_neg hk]
      exact ⟨Nat.le_trans (stepI_len _) h1, sz_mono (stepI_sz _ h2) (by omega)⟩
theorem le_sum_mem : ∀ {l : List Nat} {x : Nat}, x ∈ l → x ≤ l.sum
  | [], x, h => by cases h
  | y :: l, x, h => by
    rw [List.sum_cons]
    rcases List.mem_cons.mp h with h | h
    · omega
    · have := le_sum_mem h; omega
theorem leftSt_len {kind : Nat} {y : List Int} (hy : y.length ≤ 100) : ∀ ps : List (List Int), (∀ p ∈ ps, p.length ≤ 100) → (leftSt kind ps y).1.length ≤ 300 := by
  intro ps
  generalize hn : ps.length = n
  induction n generalizing ps with
  | zero =>
    intro _
    have : ps = [] := List.eq_nil_of_length_eq_zero hn
    subst this
    exact Nat.zero_le _
  | succ n ih =>
    intro h
    obtain ⟨v, b, rfl⟩ : ∃ v b, ps = v ++ [b] := ⟨ps.dropLast, ps.getLast (by intro z; subst z; simp at hn), (List.dropLast_concat_getLast _).symm⟩
    rw [List.length_append] at hn
    have h1 := ih v (by simpa using hn) fun p hp => h p (List.mem_append.mpr (.inl hp))
    have hb := h b (by simp)
    have hm : (leftSt kind v y).2.length ≤ 100 := by
      have := leftSt_ok (k := (y.map Int.natAbs).sum) (kind := kind) hy (fun x hx => ?_) v
      · exact this.1
      · have : x.natAbs ≤ (y.map Int.natAbs).sum := le_sum_mem (List.mem_map.mpr ⟨x, hx, rfl⟩)
        exact Nat.lt_of_le_of_lt this Nat.lt_two_pow_self
    rw [leftSt_more]
    show (Sl.plusI (leftSt kind v y).1 (Sl.timesI b (leftSt kind v y).2)).length ≤ 300
    have := plusI_len (leftSt kind v y).1 (Sl.timesI b (leftSt kind v y).2)
    have := timesI_len b (leftSt kind v y).2
    omega
def R_left_side : List D → D → Prop := fun ds d => ∃ (kind : Nat) (ps : List (List Int)) (y : List Int), ds = [.int (kind : Int), .lst (dLL ps), .lst (dI y)] ∧ ps.length ≤ 100 ∧ (∀ p ∈ ps, p.length ≤ 100 ∧ Sz 100000 p) ∧ y.length ≤ 100 ∧ Sz 100000 y ∧ d = .lst (dI (Sl.leftI kind ps y))
theorem len_left_side {ds : List D} {d : D} (h : R_left_side ds d) : ds.length = 3 := by obtain ⟨a, b, c, rfl, _⟩ := h; rfl
theorem ok_left_side {P : Program} {w : World} {K : PySem.W.Frag} {mg : Str → Option Value} {base : Heap} {f : Addr} {fd : FuncData} (T : Txt mg) (c_plus : Cal P w K mg base 2 "plus" ["first", "second"] R_plus) (c_times : Cal P w K mg base 1 "times" ["first", "second"] R_times) (c_slope : Cal P w K mg base 1 "slope" ["polynomial"] R_slope) (c_stepped : Cal P w K mg base 3 "stepped" ["polynomial"] R_stepped) (F : Fun K "left_side" "left_side" s_left_side f fd) : FnOk P w K mg base CX0 4 f fd ["kind", "parts", "y"] (SpR K R_left_side) := by
  obtain ⟨f_plus, fd_plus, G_plus, m_plus, k_plus, b_plus⟩ := c_plus.ex
  obtain ⟨f_times, fd_times, G_times, m_times, k_times, b_times⟩ := c_times.ex
  obtain ⟨f_slope, fd_slope, G_slope, m_slope, k_slope, b_slope⟩ := c_slope.ex
  obtain ⟨f_stepped, fd_stepped, G_stepped, m_stepped, k_stepped, b_stepped⟩ := c_stepped.ex
  refine fn_ok F sc_left_side (by decide) (fun ds d h => ?_) (fun cdv A outer s H E hr => ?_)
  · exact len_left_side h
  · have hu65 := hu65_of hr
    refine ⟨_, (pss_cons (ps_set (i := 3) sc_left_side.nd rfl (Or.inl rfl) (pe_lst pa_nil))
      (pss_cons (ps_set (i := 4) sc_left_side.nd rfl (Or.inl rfl) (pv 2))
      (pss_cons (ps_for PassesOwn.never rfl (pi_list (pv 1)) (pg_name (i := 5) sc_left_side.nd rfl (Or.inl rfl)) (pss_cons (ps_set (i := 3) sc_left_side.nd rfl (Or.inl rfl) (pe_call G_plus (hr.mono (by decide)) (by rfl) m_plus k_plus b_plus .nil pass0 (pa_cons (pv 3) (pa_cons (pe_call G_times (hr.mono (by decide)) (by rfl) m_times k_times b_times .nil pass0 (pa_cons (pv 5) (pa_cons (pv 4) pa_nil))) pa_nil))))
      (pss_one (ps_set (i := 4) sc_left_side.nd rfl (Or.inl rfl) (pe_ifExp (pt_cmpR op_eq (pv 0) pe_int (nomark _)) (pe_call G_slope (hr.mono (by decide)) (by rfl) m_slope k_slope b_slope .nil pass0 (pa_cons (pv 4) pa_nil)) (pe_call G_stepped (hr.mono (by decide)) (by rfl) m_stepped k_stepped b_stepped .nil pass0 (pa_cons (pv 4) pa_nil)))))))
      (pss_one (ps_ret (pv 3)))))), fun ds d hR G0 H0 Q Z k => ?_⟩
    obtain ⟨kind, ps, y, rfl, hps, hp, hy, sy, rfl⟩ := hR
    refine q_asg (n_lst ea_nil (by decide)).ev ?_
    refine q_asg (ev_var rfl) ?_
    refine q_for (it_list (ev_var rfl) .lst) (fun i => [.dat (.int (kind : Int)), .dat (.lst (dLL ps)), .dat (.lst (dI y)), .dat (.lst (dI (leftSt kind (ps.take i) y).1)), .dat (.lst (dI (leftSt kind (ps.take i) y).2)), .no]) [5] (fun d as => as.set 5 (.dat d)) (fun d _ => tg_name) (le_refl _) (fun B C sub i d hd => ?_) ?_
    · have hd' := hd
      unfold dLL at hd'
      rw [List.getElem?_map] at hd'
      obtain ⟨p, hpi, rfl⟩ : ∃ p, ps[i]? = some p ∧ D.lst (dI p) = d := by
        cases e : ps[i]? with
        | none => rw [e] at hd'; cases hd'
        | some t => rw [e] at hd'; exact ⟨t, rfl, Option.some.inj hd'⟩
      have htk : ps.take (i + 1) = ps.take i ++ [p] := by rw [List.take_add_one, hpi]; rfl
      have hpm := hp p (List.mem_of_getElem? hpi)
      have hmo := leftSt_more kind (ps.take i) p y
      rw [← htk] at hmo
      obtain ⟨h1, h2⟩ := leftSt_ok (kind := kind) hy sy (ps.take i)
      have h3 := leftSt_len (kind := kind) hy (ps.take i) fun q hq => (hp q (List.mem_of_mem_take hq)).1
      have h4 : (ps.take i).length ≤ 100 := by rw [List.length_take]; omega
      have h2' : Sz 200000 (leftSt kind (ps.take i) y).2 := sz_mono h2 (by omega)
      have h5 := timesI_len p (leftSt kind (ps.take i) y).2
      rw [hmo]
      unfold leftStep
      generalize leftSt kind (ps.take i) y = s at *
      show Co K B C [.dat (.int (kind : Int)), .dat (.lst (dLL ps)), .dat (.lst (dI y)), .dat (.lst (dI s.1)), .dat (.lst (dI s.2)), .dat (.lst (dI p))] _
      refine q_asg (d := .lst (dI (Sl.plusI s.1 (Sl.timesI p s.2)))) (ev_call (ea_cons (ev_var rfl) (ea_cons (ev_call (ea_cons (ev_var rfl) (ea_cons (ev_var rfl) ea_nil)) ⟨p, s.2, rfl, by omega, by omega, sz_mono hpm.2 (by decide), sz_mono h2' (by decide), rfl⟩) ea_nil)) ⟨s.1, Sl.timesI p s.2, rfl, by omega, by omega, rfl⟩) ?_
      refine c_asg (d := .lst (dI (if kind = 0 then Sl.slopeI s.2 else Sl.stepI s.2))) (ev_if (et_test (ev_eqI (ev_var rfl).r ev_i.r).r) (fun q => ?_) (fun q => ?_)) ?_
      · have hk : kind = 0 := by have := of_decide_eq_true q; omega
        rw [if_pos hk]
        exact ev_call (ea_cons (ev_var rfl) ea_nil) ⟨s.2, rfl, by omega, fun x hx => Nat.lt_of_lt_of_le (sz_log h2' (by decide) hx) (by decide), rfl⟩
      · have hk : ¬ kind = 0 := by have := of_decide_eq_false q; omega
        rw [if_neg hk]
        exact ev_call (ea_cons (ev_var rfl) ea_nil) ⟨s.2, rfl, h1, sz_mono h2' (by decide), rfl⟩
      · exact c_at (le_eq rfl (le_eq rfl (le_eq rfl (le_eq rfl (le_eq rfl (le_no le_nil))))))
    · refine c_ret (ev_is (ev_var rfl) ?_) k
      rw [show (dLL ps).length = ps.length from List.length_map .., List.take_length, leftI_st]
end Pg
set_option Elab.async false
set_option linter.all false
set_option maxRecDepth 100000
set_option maxHeartbeats 2000000
namespace Pg
open PySem PyProof.Rows L2 Fw
abbrev s_terms_over : Stmt := topS 48
abbrev nm_terms_over : List Str := ["numbers", "bottom", "powers", "power"]
theorem sc_terms_over : FnScope nm_terms_over ["numbers", "bottom"] (defScope s_terms_over) := ⟨rfl, rfl, rfl, by decide +kernel, rfl, by decide +kernel, by decide +kernel⟩
def R_terms_over : List D → D → Prop := fun ds d => ∃ (l : List Int) (m : Int), ds = [.lst (dI l), .int m] ∧ l.length ≤ 1000 ∧ m ≠ 0 ∧ m.natAbs.log2 < 9000 ∧ d = .lst (dTs (Sl.termsOver l m))
theorem len_terms_over {ds : List D} {d : D} (h : R_terms_over ds d) : ds.length = 2 := by obtain ⟨a, b, rfl, _⟩ := h; rfl
theorem dT_low {i : Nat} {n m : Int} (h : m ≠ 0) : D.tup [.int (i : Int), .int (n.fdiv (lowG n m)), .int (m.fdiv (lowG n m))] = dT (Sl.lowT i n m) := by
  obtain ⟨a, b, ea, eb, hb, _, _⟩ := Sl.low_val (n := n) h
  have e1 : n.fdiv (lowG n m) = a := ea
  have e2 : m.fdiv (lowG n m) = b := eb
  rw [e1, e2]
  unfold dT Sl.lowT
  rw [ea, eb]
  rfl
def nzAt (f : Nat → Int) : D → Bool
  | .int i => !decide (f i.toNat = 0)
  | _ => false
theorem ok_terms_over {P : Program} {w : World} {K : PySem.W.Frag} {mg : Str → Option Value} {base : Heap} {f : Addr} {fd : FuncData} (T : Txt mg) (c_lowest_term : Cal P w K mg base 2 "lowest_term" ["term"] R_lowest_term) (F : Fun K "terms_over" "terms_over" s_terms_over f fd) : FnOk P w K mg base CX0 3 f fd ["numbers", "bottom"] (SpR K R_terms_over) := by
  obtain ⟨f_lowest_term, fd_lowest_term, G_lowest_term, m_lowest_term, k_lowest_term, b_lowest_term⟩ := c_lowest_term.ex
  refine fn_ok F sc_terms_over (by decide) (fun ds d h => ?_) (fun cdv A outer s H E hr => ?_)
  · exact len_terms_over h
  · have hu65 := hu65_of hr
    refine ⟨_, (pss_cons (ps_setLc (i := 2) (own := [("power", 3)]) rfl sc_terms_over.nd rfl rfl (sw_true rfl rfl rfl (by decide +kernel)) (pi_range1 (by rfl) T.b_range (pa_cons (pe_callB call_len_seq (by rfl) T.b_len PySem.boot_len (pa_cons (pv 0) pa_nil)) pa_nil)) (blkOk_by (own := [("power", 3)]) (N := nm_terms_over) (sc := defScope s_terms_over) (by decide +kernel)) (fun _ _ _ _ _ => by exact (pg_name (i := 3) sc_terms_over.nd rfl (Or.inl rfl))) (fun _ _ _ _ _ => by exact (pts_one (pt_cmpR op_ne (pe_ix (ix_listK K) (pv 0) (pv 3) (fun _ _ => rfl)) pe_int (nomark _)))) (fun _ _ _ _ _ => by exact (pv 3)))
      (pss_one (ps_ret (pe_lc (own := [("power", 3)]) rfl sc_terms_over.nd (pi_reversed (by rfl) T.b_reversed (pa_cons (pv 2) pa_nil)) (blkOk_by (own := [("power", 3)]) (N := nm_terms_over) (sc := defScope s_terms_over) (by decide +kernel)) (fun _ _ _ _ _ => by exact (pg_name (i := 3) sc_terms_over.nd rfl (Or.inl rfl))) (fun _ _ _ _ _ => by exact pts_nil) (fun _ _ _ _ _ => by exact (pe_call G_lowest_term (hr.mono (by decide)) (by rfl) m_lowest_term k_lowest_term b_lowest_term .nil pass0 (pa_cons (pe_tup (pa_cons (pv 3) (pa_cons (pe_ix (ix_listK K) (pv 0) (pv 3) (fun _ _ => rfl)) (pa_cons (pv 1) pa_nil)))) pa_nil))))))), fun ds d hR G0 H0 Q Z k => ?_⟩
    obtain ⟨l, m, rfl, hl, hm, hmb, rfl⟩ := hR
    refine q_asg (d := .lst (dN ((List.range l.length).filter fun i => decide (Sl.co l i ≠ 0)))) (ev_is (n_lc (it_range1 (n := l.length) (er_is (ev_len rfl (ev_var rfl).r .lst).r (by rw [dI_len])) (by omega)) _ [3] (fun d as => as.set 3 (.dat d)) (fun d hd => tg_name) (by decide) (nzAt (Sl.co l)) (fun d => d) (by rw [List.length_map, List.length_range]; omega) (fun d hd => ?_) (fun d hd _ => ?_)).ev ?_) ?_
    · obtain ⟨i, hi, rfl⟩ := mem_range_D hd
      refine et_is (et_test (ev_neI (ev_ix (k := i) (ev_var rfl) .lst (ev_var rfl).r (dI_get hi)).r ev_i.r).r) ?_
      show _ = !decide (Sl.co l (Int.toNat (i : Int)) = 0)
      rw [Int.toNat_natCast]
    · obtain ⟨i, hi, rfl⟩ := mem_range_D hd
      exact ev_var rfl
    · unfold picked dN
      rw [List.filter_map, List.map_map]
      have e1 : (List.range l.length).filter (nzAt (Sl.co l) ∘ fun k => D.int (k : Nat)) = (List.range l.length).filter fun i => decide (Sl.co l i ≠ 0) := by
        congr 1
        funext i
        show (!decide (Sl.co l (Int.toNat (i : Int)) = 0)) = _
        rw [Int.toNat_natCast, decide_not]
      rw [e1]
      rfl
    · have hpl : ∀ i ∈ (List.range l.length).filter (fun i => decide (Sl.co l i ≠ 0)), i < l.length := fun i hi => List.mem_range.mp (List.mem_filter.mp hi).1
      have hplen := List.length_filter_le (fun i => decide (Sl.co l i ≠ 0)) (List.range l.length)
      rw [List.length_range] at hplen
      unfold Sl.termsOver at k
      generalize (List.range l.length).filter (fun i => decide (Sl.co l i ≠ 0)) = ps at *
      refine c_ret (ev_is (n_lc (it_rev (ev_var rfl) .lst) _ [3] (fun d as => as.set 3 (.dat d)) (fun d hd => tg_name) (by decide) (fun _ => true) (atD fun i => dT (Sl.lowT i (Sl.co l i) m)) (by rw [List.length_reverse, dN_len]; omega) (fun d hd => et_yes) (fun d hd _ => ?_)).ev ?_) k
      · rw [List.mem_reverse] at hd
        obtain ⟨i, hi, rfl⟩ := List.mem_map.mp hd
        refine ev_is (ev_call (ea_cons (ev_tup (ea_cons (ev_var rfl) (ea_cons (ev_ix (k := i) (ev_var rfl) .lst (ev_var rfl).r (dI_get (hpl i hi))) (ea_cons (ev_var rfl) ea_nil))) (by show 3 ≤ 1000000; decide)) ea_nil) ⟨(i : Int), Sl.co l i, m, rfl, hm, hmb, rfl⟩) ?_
        show _ = dT (Sl.lowT (Int.toNat (i : Int)) (Sl.co l (Int.toNat (i : Int))) m)
        rw [Int.toNat_natCast]
        exact dT_low hm
      · rw [picked_all (fun _ _ => rfl), ← dN_reverse]
        unfold dN dTs
        rw [List.map_map, List.map_map]
        congr 1
end Pg
set_option Elab.async false
set_option linter.all false
set_option maxRecDepth 100000
set_option maxHeartbeats 2000000
namespace Pg
open PySem PyProof.Rows L2 Fw
abbrev s_least_multiple : Stmt := topS 12
abbrev nm_least_multiple : List Str := ["first", "second"]
theorem sc_least_multiple : FnScope nm_least_multiple ["first", "second"] (defScope s_least_multiple) := ⟨rfl, rfl, rfl, by decide +kernel, rfl, by decide +kernel, by decide +kernel⟩
def R_least_multiple : List D → D → Prop := fun ds d => ∃ a b : Nat, ds = [.int (a : Int), .int (b : Int)] ∧ 0 < a ∧ 0 < b ∧ a.log2 < 8000 ∧ b.log2 < 8000 ∧ d = .int (Nat.lcm a b : Nat)
theorem len_least_multiple {ds : List D} {d : D} (h : R_least_multiple ds d) : ds.length = 2 := by obtain ⟨a, b, rfl, _⟩ := h; rfl
theorem lcm_div (a b : Nat) : a / Nat.gcd a b * b = Nat.lcm a b := by
  unfold Nat.lcm
  rw [Nat.div_mul_right_comm (Nat.gcd_dvd_left a b)]
theorem ok_least_multiple {P : Program} {w : World} {K : PySem.W.Frag} {mg : Str → Option Value} {base : Heap} {f : Addr} {fd : FuncData} (T : Txt mg) (c_greatest_divisor : Cal P w K mg base 1 "greatest_divisor" ["first", "second"] R_greatest_divisor) (F : Fun K "least_multiple" "least_multiple" s_least_multiple f fd) : FnOk P w K mg base CX0 2 f fd ["first", "second"] (SpR K R_least_multiple) := by
  obtain ⟨f_greatest_divisor, fd_greatest_divisor, G_greatest_divisor, m_greatest_divisor, k_greatest_divisor, b_greatest_divisor⟩ := c_greatest_divisor.ex
  refine fn_ok F sc_least_multiple (by decide) (fun ds d h => ?_) (fun cdv A outer s H E hr => ?_)
  · exact len_least_multiple h
  · have hu65 := hu65_of hr
    refine ⟨_, (pss_one (ps_ret (pe_op op_mulW (pe_op op_fdivX (pv 0) (pe_call G_greatest_divisor (hr.mono (by decide)) (by rfl) m_greatest_divisor k_greatest_divisor b_greatest_divisor .nil pass0 (pa_cons (pv 0) (pa_cons (pv 1) pa_nil)))) (pv 1)))), fun ds d hR G0 H0 Q Z k => ?_⟩
    obtain ⟨a, b, rfl, ha, hb, la, lb, rfl⟩ := hR
    have hg : 0 < Nat.gcd a b := Nat.gcd_pos_of_pos_left _ ha
    have hgl : (Nat.gcd a b).log2 < 9000 := Nat.lt_of_le_of_lt (log2_mono (Nat.le_of_dvd ha (Nat.gcd_dvd_left a b))) (by omega)
    have e : Int.fdiv (a : Int) ((Nat.gcd a b : Nat) : Int) = ((a / Nat.gcd a b : Nat) : Int) := by
      rw [Int.fdiv_eq_ediv_of_nonneg _ (by omega)]; rfl
    have hdl : (a / Nat.gcd a b).log2 < 9000 := Nat.lt_of_le_of_lt (log2_mono (Nat.div_le_self _ _)) (by omega)
    refine c_ret (ev_is (ev_mul (i := ((a / Nat.gcd a b : Nat) : Int)) (er_is (ev_fdiv (ev_var rfl).r (er_is (ev_call (ea_cons (ev_var rfl) (ea_cons (ev_var rfl) ea_nil)) ⟨(a : Int), (b : Int), rfl, rfl⟩).r (show D.int ((Nat.gcd ((a : Int).natAbs) ((b : Int).natAbs) : Nat) : Int) = D.int ((Nat.gcd a b : Nat) : Int) by rw [Int.natAbs_natCast, Int.natAbs_natCast])) ⟨by omega, by rw [Int.natAbs_natCast]; exact hgl⟩).r (by rw [e])) (ev_var rfl).r (mulW_of (a := 9000) (b := 9000) (by rw [Int.natAbs_natCast]; omega) (by rw [Int.natAbs_natCast]; omega) (by decide))) ?_) k
    rw [← lcm_div a b]
    rfl
abbrev s_whole_numbers : Stmt := topS 69
abbrev nm_whole_numbers : List Str := ["terms", "common", "numbers", "power", "top", "bottom"]
theorem sc_whole_numbers : FnScope nm_whole_numbers ["terms", "common"] (defScope s_whole_numbers) := ⟨rfl, rfl, rfl, by decide +kernel, rfl, by decide +kernel, by decide +kernel⟩
structure Okw (t : Sl.Tm) : Prop where
  p : t.p < 5
  d0 : 0 < t.d
  d : t.d.log2 < 9000
  n : t.n.natAbs.log2 < 100000
def R_whole_numbers : List D → D → Prop := fun ds d => ∃ (ts : List Sl.Tm) (c : Nat), ds = [.lst (dTs ts), .int (c : Int)] ∧ (∀ t ∈ ts, Okw t) ∧ c.log2 < 100000 ∧ d = .lst (dI (Sl.wholeI ts c))
theorem len_whole_numbers {ds : List D} {d : D} (h : R_whole_numbers ds d) : ds.length = 2 := by obtain ⟨a, b, rfl, _⟩ := h; rfl
theorem numsGo_more (c : Nat) : ∀ (ts : List Sl.Tm) (t : Sl.Tm) (l : List Int), Sl.numsGo c (ts ++ [t]) l = (Sl.numsGo c ts l).set t.p (((c / t.d : Nat) : Int) * t.n)
  | [], t, l => rfl
  | s :: ts, t, l => numsGo_more c ts t _
def three (i j m : Nat) : D → List AS → List AS := fun d as => match d with
  | .tup [a, b, c] => ((as.set i (.dat a)).set j (.dat b)).set m (.dat c)
  | _ => as
theorem dTs_get {ts : List Sl.Tm} {i : Nat} {d : D} (h : (dTs ts)[i]? = some d) : ∃ t, ts[i]? = some t ∧ d = dT t ∧ ts.take (i + 1) = ts.take i ++ [t] := by
  unfold dTs at h
  rw [List.getElem?_map] at h
  cases e : ts[i]? with
  | none => rw [e] at h; cases h
  | some t => rw [e] at h; exact ⟨t, rfl, (Option.some.inj h).symm, by rw [List.take_add_one, e]; rfl⟩
theorem dTs_tg {K : PySem.W.Frag} {ts : List Sl.Tm} {i j m : Nat} (d : D) (h : d ∈ dTs ts) : TgE K (gTup K 3 (gCons (gName i) (gCons (gName j) (gCons (gName m) gNil)))) d [i, j, m] (three i j m d) := by
  obtain ⟨t, _, rfl⟩ := List.mem_map.mp h
  exact tg_tup3
theorem ok_whole_numbers {P : Program} {w : World} {K : PySem.W.Frag} {mg : Str → Option Value} {base : Heap} {f : Addr} {fd : FuncData} (T : Txt mg) (c_trimmed : Cal P w K mg base 1 "trimmed" ["numbers"] R_trimmed) (n_MOST_DEGREE : Num mg "MOST_DEGREE" (4)) (F : Fun K "whole_numbers" "whole_numbers" s_whole_numbers f fd) : FnOk P w K mg base CX0 2 f fd ["terms", "common"] (SpR K R_whole_numbers) := by
  obtain ⟨f_trimmed, fd_trimmed, G_trimmed, m_trimmed, k_trimmed, b_trimmed⟩ := c_trimmed.ex
  obtain ⟨t_MOST_DEGREE, m_MOST_DEGREE⟩ := n_MOST_DEGREE
  refine fn_ok F sc_whole_numbers (by decide) (fun ds d h => ?_) (fun cdv A outer s H E hr => ?_)
  · exact len_whole_numbers h
  · have hu65 := hu65_of hr
    refine ⟨_, (pss_cons (ps_set (i := 2) sc_whole_numbers.nd rfl (Or.inl rfl) (pe_op op_rep (pe_lst (pa_cons pe_int pa_nil)) (pe_op op_add (pe_glob (v := .int (4)) (by rfl) m_MOST_DEGREE ⟨_, rfl⟩) pe_int)))
      (pss_cons (ps_for PassesOwn.never rfl (pi_list (pv 0)) (pg_tup rfl (pgs_cons (pg_name (i := 3) sc_whole_numbers.nd rfl (Or.inl rfl)) (pgs_cons (pg_name (i := 4) sc_whole_numbers.nd rfl (Or.inl rfl)) (pgs_cons (pg_name (i := 5) sc_whole_numbers.nd rfl (Or.inl rfl)) pgs_nil)))) (pss_one (ps_asg (pe_op op_mulW (pe_op op_fdivX (pv 1) (pv 5)) (pv 4)) (pg_sub (pv 2) (pv 3) set_list))))
      (pss_one (ps_ret (pe_call G_trimmed (hr.mono (by decide)) (by rfl) m_trimmed k_trimmed b_trimmed .nil pass0 (pa_cons (pv 2) pa_nil)))))), fun ds d hR G0 H0 Q Z k => ?_⟩
    obtain ⟨ts, c, rfl, ht, hc, rfl⟩ := hR
    refine q_new (n_rep (k := 5) (n_lst (ea_cons ev_i ea_nil) (by decide)).ev (er_is (ev_opI ev_i.r ev_i.r).r rfl) (by decide)) ?_
    refine q_for (it_list (ev_var rfl) .lst) (fun i => [.dat (.lst (dTs ts)), .dat (.int (c : Int)), .mu (dI (Sl.numsGo c (ts.take i) (List.replicate 5 0))), .no, .no, .no]) [3, 4, 5] (three 3 4 5) (fun d hd => dTs_tg d hd) (le_eq rfl (le_eq rfl (le_eq rfl (le_refl _)))) (fun B C sub i d hd => ?_) ?_
    · obtain ⟨t, hti, rfl, htk⟩ := dTs_get hd
      have ho := ht t (List.mem_of_getElem? hti)
      show Co K B C [.dat (.lst (dTs ts)), .dat (.int (c : Int)), .mu (dI (Sl.numsGo c (ts.take i) (List.replicate 5 0))), .dat (.int (t.p : Int)), .dat (.int t.n), .dat (.int (t.d : Int))] _
      have e : Int.fdiv (c : Int) (t.d : Int) = ((c / t.d : Nat) : Int) := by
        rw [Int.fdiv_eq_ediv_of_nonneg _ (by omega)]; rfl
      have hdl : (c / t.d).log2 < 100000 := Nat.lt_of_le_of_lt (log2_mono (Nat.div_le_self _ _)) hc
      have h1 := ho.n
      have h2 := ho.d0
      refine c_set (k := t.p) rfl (ev_mul (i := ((c / t.d : Nat) : Int)) (er_is (ev_fdiv (ev_var rfl).r (ev_var rfl).r ⟨by omega, by rw [Int.natAbs_natCast]; exact ho.d⟩).r (by rw [e])) (ev_var rfl).r (mulW_of (a := 100000) (b := 100000) (by rw [Int.natAbs_natCast]; omega) (by omega) (by decide))) (ev_var rfl).r (by rw [dI_len, Sl.numsGo_len]; simpa using ho.p) ?_
      refine c_at (le_eq rfl (le_eq rfl (le_eq ?_ (le_no (le_no (le_no le_nil))))))
      rw [htk, numsGo_more, dI_set]
    · refine c_frz (n := 2) rfl ?_
      refine c_ret (d := .lst (dI (Sl.wholeI ts c))) (ev_call (ea_cons (ev_var rfl) ea_nil) ⟨Sl.numsGo c ts (List.replicate 5 0), ?_, by rw [Sl.numsGo_len]; simp, rfl⟩) k
      rw [dTs_len, List.take_length]
end Pg
set_option Elab.async false
set_option linter.all false
set_option maxRecDepth 100000
set_option maxHeartbeats 2000000
namespace Pg
open PySem PyProof.Rows L2 Fw
abbrev s_common_bottom : Stmt := topS 68
abbrev nm_common_bottom : List Str := ["polynomials", "common", "terms", "power", "top", "bottom"]
theorem sc_common_bottom : FnScope nm_common_bottom ["polynomials"] (defScope s_common_bottom) := ⟨rfl, rfl, rfl, by decide +kernel, rfl, by decide +kernel, by decide +kernel⟩
def dLT (l : List (List Sl.Tm)) : List D := l.map fun ts => .lst (dTs ts)
structure Oks (ts : List Sl.Tm) : Prop where
  len : ts.length ≤ 5
  p : ∀ t ∈ ts, t.p < 5
  d0 : ∀ t ∈ ts, 0 < t.d
  d : ∀ t ∈ ts, t.d < 2 ^ 14
  n : ∀ t ∈ ts, t.n.natAbs < 2 ^ 14
theorem lcmGo_more (c : Nat) : ∀ (ts : List Sl.Tm) (t : Sl.Tm), Sl.lcmGo (ts ++ [t]) c = Nat.lcm (Sl.lcmGo ts c) t.d
  | [], t => rfl
  | s :: ts, t => lcmGo_more _ ts t
theorem lcmAll_more (c : Nat) : ∀ (l : List (List Sl.Tm)) (ts : List Sl.Tm), Sl.lcmAll (l ++ [ts]) c = Sl.lcmGo ts (Sl.lcmAll l c)
  | [], ts => rfl
  | s :: l, ts => lcmAll_more _ l ts
theorem lcmGo_lt {k : Nat} : ∀ (ts : List Sl.Tm) (c : Nat), c < 2 ^ k → (∀ t ∈ ts, t.d < 2 ^ 14) → (∀ t ∈ ts, 0 < t.d) → 0 < c → Sl.lcmGo ts c < 2 ^ (k + 14 * ts.length)
  | [], c, h, _, _, _ => h
  | t :: ts, c, h, hd, h0, hc => by
    have ht := hd t (List.mem_cons_self ..)
    have ht0 := h0 t (List.mem_cons_self ..)
    have h1 : Nat.lcm c t.d < 2 ^ (k + 14) := by
      refine Nat.lt_of_le_of_lt (Nat.le_of_dvd (Nat.mul_pos hc ht0) (Nat.lcm_dvd_mul c t.d)) ?_
      rw [Nat.pow_add]
      exact Nat.mul_lt_mul'' h ht
    have := lcmGo_lt (k := k + 14) ts (Nat.lcm c t.d) h1 (fun s hs => hd s (List.mem_cons_of_mem _ hs)) (fun s hs => h0 s (List.mem_cons_of_mem _ hs)) (Nat.lcm_pos hc ht0)
    rw [List.length_cons, show k + 14 * (ts.length + 1) = k + 14 + 14 * ts.length by omega]
    exact this
theorem lcmAll_lt {k : Nat} : ∀ (l : List (List Sl.Tm)) (c : Nat), c < 2 ^ k → 0 < c → (∀ ts ∈ l, Oks ts) → Sl.lcmAll l c < 2 ^ (k + 70 * l.length)
  | [], c, h, _, _ => h
  | ts :: l, c, h, hc, ho => by
    have h1 := ho ts (List.mem_cons_self ..)
    have h2 := lcmGo_lt ts c h h1.d h1.d0 hc
    have h3 : Sl.lcmGo ts c < 2 ^ (k + 70) := Nat.lt_of_lt_of_le h2 (Nat.pow_le_pow_right (by decide) (by have := h1.len; omega))
    have := lcmAll_lt (k := k + 70) l _ h3 (Sl.lcmGo_pos ts c hc h1.d0) fun s hs => ho s (List.mem_cons_of_mem _ hs)
    rw [List.length_cons, show k + 70 * (l.length + 1) = k + 70 + 70 * l.length by omega]
    exact this
def R_common_bottom : List D → D → Prop := fun ds d => ∃ l : List (List Sl.Tm), ds = [.lst (dLT l)] ∧ l.length ≤ 50 ∧ (∀ ts ∈ l, Oks ts) ∧ d = .int (Sl.lcmAll l 1 : Nat)
theorem len_common_bottom {ds : List D} {d : D} (h : R_common_bottom ds d) : ds.length = 1 := by obtain ⟨a, rfl, _⟩ := h; rfl
def toTm : D → Sl.Tm
  | .tup [.int p, .int n, .int d] => ⟨p.toNat, n, d.toNat⟩
  | _ => ⟨0, 0, 0⟩
theorem toTm_dT (t : Sl.Tm) : toTm (dT t) = t := by
  cases t
  show Sl.Tm.mk _ _ _ = _
  rw [Int.toNat_natCast, Int.toNat_natCast]
theorem toTm_dTs (ts : List Sl.Tm) : (dTs ts).map toTm = ts := by
  unfold dTs
  rw [List.map_map]
  have := List.map_congr_left (f := toTm ∘ dT) (g := id) (l := ts) fun t _ => toTm_dT t
  rw [this]; simp
def onTs (f : List Sl.Tm → D) : D → D
  | .lst l => f (l.map toTm)
  | d => d
theorem onTs_at (f : List Sl.Tm → D) (ts : List Sl.Tm) : onTs f (.lst (dTs ts)) = f ts := by
  show f ((dTs ts).map toTm) = f ts
  rw [toTm_dTs]
theorem dLT_get {l : List (List Sl.Tm)} {i : Nat} {d : D} (h : (dLT l)[i]? = some d) : ∃ ts, l[i]? = some ts ∧ d = .lst (dTs ts) ∧ l.take (i + 1) = l.take i ++ [ts] := by
  unfold dLT at h
  rw [List.getElem?_map] at h
  cases e : l[i]? with
  | none => rw [e] at h; cases h
  | some t => rw [e] at h; exact ⟨t, rfl, (Option.some.inj h).symm, by rw [List.take_add_one, e]; rfl⟩
theorem ok_common_bottom {P : Program} {w : World} {K : PySem.W.Frag} {mg : Str → Option Value} {base : Heap} {f : Addr} {fd : FuncData} (T : Txt mg) (c_least_multiple : Cal P w K mg base 2 "least_multiple" ["first", "second"] R_least_multiple) (F : Fun K "common_bottom" "common_bottom" s_common_bottom f fd) : FnOk P w K mg base CX0 3 f fd ["polynomials"] (SpR K R_common_bottom) := by
  obtain ⟨f_least_multiple, fd_least_multiple, G_least_multiple, m_least_multiple, k_least_multiple, b_least_multiple⟩ := c_least_multiple.ex
  refine fn_ok F sc_common_bottom (by decide) (fun ds d h => ?_) (fun cdv A outer s H E hr => ?_)
  · exact len_common_bottom h
  · have hu65 := hu65_of hr
    refine ⟨_, (pss_cons (ps_set (i := 1) sc_common_bottom.nd rfl (Or.inl rfl) pe_int)
      (pss_cons (ps_for PassesOwn.never rfl (pi_list (pv 0)) (pg_name (i := 2) sc_common_bottom.nd rfl (Or.inl rfl)) (pss_one (ps_for PassesOwn.never rfl (pi_list (pv 2)) (pg_tup rfl (pgs_cons (pg_name (i := 3) sc_common_bottom.nd rfl (Or.inl rfl)) (pgs_cons (pg_name (i := 4) sc_common_bottom.nd rfl (Or.inl rfl)) (pgs_cons (pg_name (i := 5) sc_common_bottom.nd rfl (Or.inl rfl)) pgs_nil)))) (pss_one (ps_set (i := 1) sc_common_bottom.nd rfl (Or.inl rfl) (pe_call G_least_multiple (hr.mono (by decide)) (by rfl) m_least_multiple k_least_multiple b_least_multiple .nil pass0 (pa_cons (pv 1) (pa_cons (pv 5) pa_nil))))))))
      (pss_one (ps_ret (pv 1))))), fun ds d hR G0 H0 Q Z k => ?_⟩
    obtain ⟨l, rfl, hl, ho, rfl⟩ := hR
    refine q_asg ev_i ?_
    refine q_for (it_list (ev_var rfl) .lst) (fun i => [.dat (.lst (dLT l)), .dat (.int (Sl.lcmAll (l.take i) 1 : Nat)), .no, .no, .no, .no]) [2] (fun d as => as.set 2 (.dat d)) (fun d _ => tg_name) (le_refl _) (fun B C sub i d hd => ?_) ?_
    · obtain ⟨ts, hti, rfl, htk⟩ := dLT_get hd
      have hts := ho ts (List.mem_of_getElem? hti)
      have htl : (l.take i).length ≤ 50 := by rw [List.length_take]; omega
      have hot : ∀ s ∈ l.take i, Oks s := fun s hs => ho s (List.mem_of_mem_take hs)
      have hc := lcmAll_lt (k := 1) (l.take i) 1 (by decide) (by decide) hot
      have hc0 := Sl.lcmAll_pos (l.take i) 1 (by decide) fun s hs => (hot s hs).d0
      have hmo := lcmAll_more 1 (l.take i) ts
      rw [← htk] at hmo
      rw [hmo]
      generalize Sl.lcmAll (l.take i) 1 = c at *
      have hc' : c < 2 ^ 3600 := Nat.lt_of_lt_of_le hc (Nat.pow_le_pow_right (by decide) (by omega))
      show Co K B C [.dat (.lst (dLT l)), .dat (.int (c : Int)), .dat (.lst (dTs ts)), .no, .no, .no] _
      refine c_for (it_list (ev_var rfl) .lst) (fun j => [.dat (.lst (dLT l)), .dat (.int (Sl.lcmGo (ts.take j) c : Nat)), .dat (.lst (dTs ts)), .no, .no, .no]) [3, 4, 5] (three 3 4 5) (fun d hd => dTs_tg d hd) (le_refl _) (fun B2 C2 sub2 j d2 hd2 => ?_) ?_
      · obtain ⟨t, htj, rfl, htk2⟩ := dTs_get hd2
        have htm := List.mem_of_getElem? htj
        have hg := lcmGo_lt (ts.take j) c hc' (fun s hs => hts.d s (List.mem_of_mem_take hs)) (fun s hs => hts.d0 s (List.mem_of_mem_take hs)) hc0
        have hg0 := Sl.lcmGo_pos (ts.take j) c hc0 fun s hs => hts.d0 s (List.mem_of_mem_take hs)
        have hjl : (ts.take j).length ≤ 5 := by rw [List.length_take]; have := hts.len; omega
        have hgl := log2_of_lt hg (by omega)
        have htd := log2_of_lt (hts.d t htm) (by decide)
        show Co K B2 C2 [.dat (.lst (dLT l)), .dat (.int (Sl.lcmGo (ts.take j) c : Nat)), .dat (.lst (dTs ts)), .dat (.int (t.p : Int)), .dat (.int t.n), .dat (.int (t.d : Int))] _
        refine c_asg (ev_call (ea_cons (ev_var rfl) (ea_cons (ev_var rfl) ea_nil)) ⟨Sl.lcmGo (ts.take j) c, t.d, rfl, hg0, hts.d0 t htm, by omega, by omega, rfl⟩) ?_
        refine c_at (le_eq rfl (le_eq ?_ (le_eq rfl (le_no (le_no (le_no le_nil))))))
        rw [htk2, lcmGo_more]
      · refine c_at (le_eq rfl (le_eq ?_ (le_no (le_no (le_no (le_no le_nil))))))
        rw [dTs_len, List.take_length]
    · refine c_ret (ev_is (ev_var rfl) ?_) k
      rw [show (dLT l).length = l.length from List.length_map .., List.take_length]
end Pg
set_option Elab.async false
set_option linter.all false
set_option maxRecDepth 100000
set_option maxHeartbeats 2000000
namespace Pg
open PySem PyProof.Rows L2 Fw
abbrev s_too_big : Stmt := topS 66
abbrev nm_too_big : List Str := ["terms", "power", "top", "bottom"]
theorem sc_too_big : FnScope nm_too_big ["terms"] (defScope s_too_big) := ⟨rfl, rfl, rfl, by decide +kernel, rfl, by decide +kernel, by decide +kernel⟩
def R_too_big : List D → D → Prop := fun ds d => ∃ ts : List Sl.Tm, ds = [.lst (dTs ts)] ∧ ts.length ≤ 1000 ∧ d = .bl (Sl.tooBig ts)
theorem len_too_big {ds : List D} {d : D} (h : R_too_big ds d) : ds.length = 1 := by obtain ⟨a, rfl, _⟩ := h; rfl
theorem bigT_int (t : Sl.Tm) : (decide ((4 : Int) < t.p) || (decide ((9999 : Int) < t.n.natAbs) || decide ((9999 : Int) < t.d))) = Sl.bigT t := by
  unfold Sl.bigT
  have c : ∀ a b : Nat, decide ((a : Int) < b) = decide (a < b) := fun a b => by
    by_cases h : a < b
    · rw [decide_eq_true h, decide_eq_true (by omega)]
    · rw [decide_eq_false h, decide_eq_false (by omega)]
  rw [← c 4, ← c 9999, ← c 9999]
  rfl
theorem ok_too_big {P : Program} {w : World} {K : PySem.W.Frag} {mg : Str → Option Value} {base : Heap} {f : Addr} {fd : FuncData} (T : Txt mg) (n_MOST_NUMBER : Num mg "MOST_NUMBER" (9999)) (n_MOST_DEGREE : Num mg "MOST_DEGREE" (4)) (F : Fun K "too_big" "too_big" s_too_big f fd) : FnOk P w K mg base CX0 1 f fd ["terms"] (SpR K R_too_big) := by
  obtain ⟨t_MOST_NUMBER, m_MOST_NUMBER⟩ := n_MOST_NUMBER
  obtain ⟨t_MOST_DEGREE, m_MOST_DEGREE⟩ := n_MOST_DEGREE
  refine fn_ok F sc_too_big (by decide) (fun ds d h => ?_) (fun cdv A outer s H E hr => ?_)
  · exact len_too_big h
  · have hu65 := hu65_of hr
    refine ⟨_, (pss_one (ps_ret (pe_callB (cr_any rfl) (by rfl) T.b_any (by decide +kernel) (pa_cons (pe_lc (own := [("power", 1), ("top", 2), ("bottom", 3)]) rfl sc_too_big.nd (pi_list (pv 0)) (blkOk_by (own := [("power", 1), ("top", 2), ("bottom", 3)]) (N := nm_too_big) (sc := defScope s_too_big) (by decide +kernel)) (fun _ _ _ _ _ => by exact (by refine pg_tupK K 3 (t := gCons (gName 1) (gCons (gName 2) (gCons (gName 3) (gNil)))) rfl ?_; exact (pgs_cons (pg_name (i := 1) sc_too_big.nd rfl (Or.inl rfl)) (pgs_cons (pg_name (i := 2) sc_too_big.nd rfl (Or.inl rfl)) (pgs_cons (pg_name (i := 3) sc_too_big.nd rfl (Or.inl rfl)) pgs_nil))))) (fun _ _ _ _ _ => by exact pts_nil) (fun _ _ _ _ _ => by exact (pe_or (pe_cmpR op_gt (pv 1) (pe_glob (v := .int (4)) (by rfl) m_MOST_DEGREE ⟨_, rfl⟩) (nomark _)) (pe_or (pe_cmpR op_gt (pe_callB call_abs (by rfl) T.b_abs (by decide +kernel) (pa_cons (pv 2) pa_nil)) (pe_glob (v := .int (9999)) (by rfl) m_MOST_NUMBER ⟨_, rfl⟩) (nomark _)) (pe_one (pe_cmpR op_gt (pv 3) (pe_glob (v := .int (9999)) (by rfl) m_MOST_NUMBER ⟨_, rfl⟩) (nomark _))))))) pa_nil)))), fun ds d hR G0 H0 Q Z k => ?_⟩
    obtain ⟨ts, rfl, hl, rfl⟩ := hR
    refine c_ret (ev_is (ev_any (bs := ts.map Sl.bigT) (ev_is (n_lc (it_list (ev_var rfl) .lst) _ [1, 2, 3] (three 1 2 3) (fun d hd => dTs_tg d hd) (by decide) (fun _ => true) (fun d => .bl (Sl.bigT (toTm d))) (by rw [dTs_len]; omega) (fun d hd => et_yes) (fun d hd _ => ?_)).ev ?_).r) ?_) k
    · obtain ⟨t, ht, rfl⟩ := List.mem_map.mp hd
      rw [toTm_dT]
      refine ev_is (ev_orV (ev_opB (ev_var rfl).r ev_i.r).r fun _ => ev_orV (ev_opB (ev_abs rfl (ev_var rfl).r).r ev_i.r).r fun _ => ev_opB (ev_var rfl).r ev_i.r) ?_
      exact congrArg D.bl (bigT_int t)
    · rw [picked_all (fun _ _ => rfl)]
      unfold dTs dB
      rw [List.map_map, List.map_map]
      congr 1
    · unfold Sl.tooBig
      rw [List.any_map]
      rfl
abbrev s_texts_refusal : Stmt := topS 65
abbrev nm_texts_refusal : List Str := ["polynomials", "terms"]
theorem sc_texts_refusal : FnScope nm_texts_refusal ["polynomials"] (defScope s_texts_refusal) := ⟨rfl, rfl, rfl, by decide +kernel, rfl, by decide +kernel, by decide +kernel⟩
def refusal (os : List (Option (List Sl.Tm))) : Int := if os.any (fun o => o.isNone) then -1 else if os.any (fun o => Sl.tooBig (o.getD [])) then -2 else 0
def R_texts_refusal : List D → D → Prop := fun ds d => ∃ os : List (Option (List Sl.Tm)), ds = [.lst (os.map dOTs)] ∧ os.length ≤ 100 ∧ (∀ ts, some ts ∈ os → ts.length ≤ 1000) ∧ d = .int (refusal os)
theorem len_texts_refusal {ds : List D} {d : D} (h : R_texts_refusal ds d) : ds.length = 1 := by obtain ⟨a, rfl, _⟩ := h; rfl
theorem any_none2 : ∀ l : List (Option (List Sl.Tm)), ((toPys (l.map dOTs)).any fun z => PyData.eqv z (toPy .non)) = l.any fun o => o.isNone
  | [] => rfl
  | x :: l => by
    show (PyData.eqv (toPy (dOTs x)) .none || ((toPys (l.map dOTs)).any fun z => PyData.eqv z (toPy .non))) = _
    rw [any_none2 l]
    show _ = (x.isNone || l.any fun o => o.isNone)
    congr 1
    cases x <;> rfl
theorem dOTs_dep (o : Option (List Sl.Tm)) : Dep 2 (dOTs o) := by
  cases o with
  | none => exact dep_non 2
  | some t => exact dTs_dep t
def bigD : D → Bool
  | .lst l => Sl.tooBig (l.map toTm)
  | _ => false
theorem bigD_at (ts : List Sl.Tm) : bigD (.lst (dTs ts)) = Sl.tooBig ts := by
  show Sl.tooBig ((dTs ts).map toTm) = _
  rw [toTm_dTs]
theorem ok_texts_refusal {P : Program} {w : World} {K : PySem.W.Frag} {mg : Str → Option Value} {base : Heap} {f : Addr} {fd : FuncData} (T : Txt mg) (c_too_big : Cal P w K mg base 1 "too_big" ["terms"] R_too_big) (n_NOT_SUCH_A_TEXT : Num mg "NOT_SUCH_A_TEXT" (-1)) (n_TOO_BIG : Num mg "TOO_BIG" (-2)) (F : Fun K "texts_refusal" "texts_refusal" s_texts_refusal f fd) : FnOk P w K mg base CX0 2 f fd ["polynomials"] (SpR K R_texts_refusal) := by
  obtain ⟨f_too_big, fd_too_big, G_too_big, m_too_big, k_too_big, b_too_big⟩ := c_too_big.ex
  obtain ⟨t_NOT_SUCH_A_TEXT, m_NOT_SUCH_A_TEXT⟩ := n_NOT_SUCH_A_TEXT
  obtain ⟨t_TOO_BIG, m_TOO_BIG⟩ := n_TOO_BIG
  refine fn_ok F sc_texts_refusal (by decide) (fun ds d h => ?_) (fun cdv A outer s H E hr => ?_)
  · exact len_texts_refusal h
  · have hu65 := hu65_of hr
    refine ⟨_, (pss_cons (ps_if (pt_cmpR (op_inD hu65) pe_non (pv 0) (by with_unfolding_all rfl)) (pss_one (ps_ret (pe_glob (v := .int (-1)) (by rfl) m_NOT_SUCH_A_TEXT ⟨_, rfl⟩))) pss_nil)
      (pss_cons (ps_if (pt_val (pe_callB (cr_any rfl) (by rfl) T.b_any (by decide +kernel) (pa_cons (pe_lc (own := [("terms", 1)]) rfl sc_texts_refusal.nd (pi_list (pv 0)) (blkOk_by (own := [("terms", 1)]) (N := nm_texts_refusal) (sc := defScope s_texts_refusal) (by decide +kernel)) (fun _ _ _ _ _ => by exact (pg_name (i := 1) sc_texts_refusal.nd rfl (Or.inl rfl))) (fun _ _ _ _ _ => by exact pts_nil) (fun _ _ _ _ _ => by exact (pe_call G_too_big (hr.mono (by decide)) (by rfl) m_too_big k_too_big b_too_big .nil pass0 (pa_cons (pv 1) pa_nil)))) pa_nil))) (pss_one (ps_ret (pe_glob (v := .int (-2)) (by rfl) m_TOO_BIG ⟨_, rfl⟩))) pss_nil)
      (pss_one (ps_ret pe_int)))), fun ds d hR G0 H0 Q Z k => ?_⟩
    obtain ⟨os, rfl, hl, hts, rfl⟩ := hR
    have hsh : Sh (.lst (os.map dOTs)) := sh_of (n := 3) (dep_lst fun d hd => by
      obtain ⟨o, _, rfl⟩ := List.mem_map.mp hd
      exact dOTs_dep o) (by decide)
    refine q_when (et_is (et_test (ev_inD ev_non.r (ev_var rfl).r sh_non hsh).r) (any_none2 os)) (fun q => ?_) (fun q => ?_)
    · refine c_ret (ev_is ev_i ?_) k
      unfold refusal
      rw [if_pos q]
    · have hsome : ∀ o ∈ os, ∃ ts, o = some ts := fun o ho => by
        cases o with
        | none => exact absurd rfl (List.any_eq_false.mp q none ho)
        | some ts => exact ⟨ts, rfl⟩
      refine q_when (et_B (ev_any (bs := os.map fun o => Sl.tooBig (o.getD [])) (ev_is (n_lc (it_list (ev_var rfl) .lst) _ [1] (fun d as => as.set 1 (.dat d)) (fun d hd => tg_name) (by decide) (fun _ => true) (fun d => .bl (bigD d)) (by rw [List.length_map]; omega) (fun d hd => et_yes) (fun d hd _ => ?_)).ev ?_).r).r) (fun q2 => ?_) (fun q2 => ?_)
      · obtain ⟨o, ho, rfl⟩ := List.mem_map.mp hd
        obtain ⟨ts, rfl⟩ := hsome o ho
        exact ev_call (ea_cons (ev_var rfl) ea_nil) ⟨ts, rfl, hts ts ho, congrArg D.bl (bigD_at ts)⟩
      · rw [picked_all (fun _ _ => rfl)]
        unfold dB
        rw [List.map_map, List.map_map]
        congr 1
        refine List.map_congr_left fun o ho => ?_
        obtain ⟨ts, rfl⟩ := hsome o ho
        exact congrArg D.bl (bigD_at ts)
      · refine c_ret (ev_is ev_i ?_) k
        rw [List.any_map] at q2
        unfold refusal
        rw [q, if_neg (by decide), if_pos]
        exact q2
      · refine c_ret (ev_is ev_i ?_) k
        rw [List.any_map] at q2
        unfold refusal
        rw [q, if_neg (by decide), if_neg]
        intro z
        have z' : (os.any (id ∘ fun o => Sl.tooBig (o.getD []))) = true := z
        rw [q2] at z'; cases z'
end Pg
set_option Elab.async false
set_option linter.all false
set_option maxRecDepth 100000
set_option maxHeartbeats 2000000
namespace Pg
open PySem PyProof.Rows L2 Fw
abbrev s_told : Stmt := topS 73
abbrev nm_told : List Str := ["number", "polynomials", "bottom", "answer", "numbers", "text"]
theorem sc_told : FnScope nm_told ["number", "polynomials", "bottom"] (defScope s_told) := ⟨rfl, rfl, rfl, by decide +kernel, rfl, by decide +kernel, by decide +kernel⟩
def told1 (m : Int) (l : List Int) : List Nat := (Sl.write (Sl.termsOver l m)).length :: Sl.write (Sl.termsOver l m)
def toldP (c : Nat) (m : Int) (ps : List (List Int)) (i : Nat) : List Nat := c :: (ps.take i).flatMap (told1 m)
theorem toldP_more {c : Nat} {m : Int} {ps : List (List Int)} {i : Nat} {l : List Int} (h : ps[i]? = some l) : toldP c m ps (i + 1) = toldP c m ps i ++ told1 m l := by
  unfold toldP
  rw [List.take_add_one, h, List.flatMap_append]
  simp
theorem toldP_le (c : Nat) (m : Int) (ps : List (List Int)) : ∀ d i, i + d = ps.length → (toldP c m ps i).length ≤ (toldP c m ps ps.length).length
  | 0, i, h => by have : i = ps.length := by omega
                  rw [this]; exact Nat.le_refl _
  | d + 1, i, h => by
    have ih := toldP_le c m ps d (i + 1) (by omega)
    have hi : i < ps.length := by omega
    rw [toldP_more (List.getElem?_eq_getElem hi), List.length_append] at ih
    omega
def R_told : List D → D → Prop := fun ds d => ∃ (c : Nat) (ps : List (List Int)) (m : Int), ds = [.int (c : Int), .lst (dLL ps), .int m] ∧ m ≠ 0 ∧ m.natAbs.log2 < 9000 ∧ ps.length ≤ 1001 ∧ (∀ l ∈ ps, (l.length ≤ 1000 ∧ (Sl.write (Sl.termsOver l m)).length ≤ 900000) ∧ ∀ t ∈ Sl.termsOver l m, Okt t) ∧ (toldP c m ps ps.length).length ≤ 999000 ∧ d = .lst (dN (toldP c m ps ps.length))
theorem len_told {ds : List D} {d : D} (h : R_told ds d) : ds.length = 3 := by obtain ⟨a, b, c, rfl, _⟩ := h; rfl
theorem ok_told {P : Program} {w : World} {K : PySem.W.Frag} {mg : Str → Option Value} {base : Heap} {f : Addr} {fd : FuncData} (T : Txt mg) (c_write_polynomial : Cal P w K mg base 4 "write_polynomial" ["terms"] R_write_polynomial) (c_terms_over : Cal P w K mg base 3 "terms_over" ["numbers", "bottom"] R_terms_over) (F : Fun K "told" "told" s_told f fd) : FnOk P w K mg base CX0 5 f fd ["number", "polynomials", "bottom"] (SpR K R_told) := by
  obtain ⟨f_write_polynomial, fd_write_polynomial, G_write_polynomial, m_write_polynomial, k_write_polynomial, b_write_polynomial⟩ := c_write_polynomial.ex
  obtain ⟨f_terms_over, fd_terms_over, G_terms_over, m_terms_over, k_terms_over, b_terms_over⟩ := c_terms_over.ex
  refine fn_ok F sc_told (by decide) (fun ds d h => ?_) (fun cdv A outer s H E hr => ?_)
  · exact len_told h
  · have hu65 := hu65_of hr
    refine ⟨_, (pss_cons (ps_set (i := 3) sc_told.nd rfl (Or.inl rfl) (pe_lst (pa_cons (pv 0) pa_nil)))
      (pss_cons (ps_for PassesOwn.never rfl (pi_list (pv 1)) (pg_name (i := 4) sc_told.nd rfl (Or.inl rfl)) (pss_cons (ps_set (i := 5) sc_told.nd rfl (Or.inl rfl) (pe_call G_write_polynomial (hr.mono (by decide)) (by rfl) m_write_polynomial k_write_polynomial b_write_polynomial .nil pass0 (pa_cons (pe_call G_terms_over (hr.mono (by decide)) (by rfl) m_terms_over k_terms_over b_terms_over .nil pass0 (pa_cons (pv 4) (pa_cons (pv 2) pa_nil))) pa_nil)))
      (pss_cons (ps_expr (pe_bm PySem.F.plainAttrs_list PySem.F.slot_list_append PySem.F.type_list_append mt_append (pv 3) (pa_cons (pe_callB call_len_seq (by rfl) T.b_len PySem.boot_len (pa_cons (pv 5) pa_nil)) pa_nil)))
      (pss_one (ps_expr (pe_bm PySem.F.plainAttrs_list PySem.F.slot_list_extend PySem.F.type_list_extend mt_extend (pv 3) (pa_cons (pv 5) pa_nil)))))))
      (pss_one (ps_ret (pv 3))))), fun ds d hR G0 H0 Q Z k => ?_⟩
    obtain ⟨c, ps, m, rfl, m0, ms, hl, ho, hz, rfl⟩ := hR
    refine q_new (ds := dN (toldP c m ps 0)) (n_is (n_lst (ea_cons (ev_var rfl) ea_nil) (by show 1 ≤ 1000000; decide)) (by rfl)) ?_
    refine q_for (ds := dLL ps) (it_list (ev_var rfl) .lst) (fun i => [.dat (.int (c : Int)), .dat (.lst (dLL ps)), .dat (.int m), .mu (dN (toldP c m ps i)), .no, .no]) [4] (fun d as => as.set 4 (.dat d)) (fun d _ => tg_name) (le_eq rfl (le_eq rfl (le_eq rfl (le_eq rfl (le_refl _))))) (fun B C sub i d hd => ?_) ?_
    · obtain ⟨l, hli, rfl⟩ := dLL_get hd
      have hi : i < ps.length := (List.getElem?_eq_some_iff.mp hli).1
      obtain ⟨⟨h1, h9⟩, h2⟩ := ho l (List.mem_of_getElem? hli)
      have hle := toldP_le c m ps (ps.length - (i + 1)) (i + 1) (by omega)
      rw [toldP_more hli, List.length_append] at hle
      rw [toldP_more hli]
      have e1 : (told1 m l).length = (Sl.write (Sl.termsOver l m)).length + 1 := rfl
      have e2 : told1 m l = (Sl.write (Sl.termsOver l m)).length :: Sl.write (Sl.termsOver l m) := rfl
      rw [e2]
      generalize toldP c m ps i = s at *
      show Co K B C [.dat (.int (c : Int)), .dat (.lst (dLL ps)), .dat (.int m), .mu (dN s), .dat (.lst (dI l)), .no] _
      refine q_asg (d := .lst (dN (Sl.write (Sl.termsOver l m)))) (ev_call (ea_cons (ev_call (ea_cons (ev_var rfl) (ea_cons (ev_var rfl) ea_nil)) ⟨l, m, rfl, h1, m0, ms, rfl⟩) ea_nil) ⟨_, rfl, h2, h9, rfl⟩) ?_
      refine q_app rfl (ev_len rfl (ev_var rfl).r .lst) (by rw [dN_len]; omega) ?_
      refine c_ext rfl (ev_var rfl) (by rw [List.length_append, dN_len, dN_len]; show _ + 1 + _ ≤ _; omega) ?_
      refine c_at (le_eq rfl (le_eq rfl (le_eq rfl (le_eq ?_ (le_no (le_no le_nil))))))
      rw [dN_len, dN_append]
      show AS.mu (dN s ++ D.int _ :: dN _) = AS.mu (dN s ++ [D.int _] ++ dN _)
      rw [List.append_assoc]
      rfl
    · refine c_frz (n := 3) rfl ?_
      refine c_ret (ev_is (ev_var rfl) ?_) k
      rw [dLL_len]
end Pg
set_option Elab.async false
set_option linter.all false
set_option maxRecDepth 100000
namespace Pg
open PySem PyProof.Rows L2 Fw
open Sl (Tm Valid Rel RelAll Tr TrI)
open AlOne (Uni)
/-! ### the texts, as data -/
def dTx (texts : List (List Nat)) : List D := texts.map fun t => D.inp (dN t)
def osOf (texts : List (List Nat)) : List (Option (List Sl.Tm)) := texts.map Sl.read
def lsOf (texts : List (List Nat)) : List (List Sl.Tm) := (osOf texts).map fun o => o.getD []
def readD : D → D
  | .inp l => dOTs (Sl.read (l.map fun x => (toI x).toNat))
  | d => d
theorem readD_at (t : List Nat) : readD (.inp (dN t)) = dOTs (Sl.read t) := by
  show dOTs (Sl.read ((dN t).map fun x => (toI x).toNat)) = _
  unfold dN
  rw [List.map_map]
  have : (t.map ((fun x => (toI x).toNat) ∘ fun (b : Nat) => D.int (b : Int))) = t := by
    have := List.map_congr_left (f := (fun x => (toI x).toNat) ∘ fun (b : Nat) => D.int (b : Int)) (g := id) (l := t) fun b _ => rfl
    rw [this]; simp
  rw [this]
theorem os_ls {os : List (Option (List Sl.Tm))} (h : refusal os = 0) : os.map dOTs = dLT (os.map fun o => o.getD []) := by
  unfold refusal at h
  split at h
  · cases h
  · rename_i q
    unfold dLT
    rw [List.map_map]
    refine List.map_congr_left fun o ho => ?_
    cases o with
    | none => exact absurd (List.any_eq_true.mpr ⟨none, ho, rfl⟩) q
    | some ts => rfl
/-! ### what was read, if nothing is refused -/
theorem fall_len5 : ∀ (l : List Tm) (m : Nat), (l.Pairwise fun a b => b.p < a.p) → (∀ t ∈ l, t.p < m) → l.length ≤ m
  | [], _, _, _ => Nat.zero_le _
  | t :: l, m, h, hp => by
    obtain ⟨h1, h2⟩ := List.pairwise_cons.mp h
    have ht := hp t (List.mem_cons_self ..)
    have := fall_len5 l t.p h2 h1
    rw [List.length_cons]
    omega
theorem oks_of {l : List Tm} (h : Valid l) (hb : Sl.tooBig l = false) : Oks l := by
  have hs : ∀ t ∈ l, t.p < 5 ∧ t.n.natAbs < 2 ^ 14 ∧ t.d < 2 ^ 14 := fun t ht => by
    have := List.any_eq_false.mp hb t ht
    unfold Sl.bigT at this
    simp at this
    omega
  exact ⟨fall_len5 l 5 h.fall fun t ht => (hs t ht).1, fun t ht => (hs t ht).1, fun t ht => (h.good t ht).d0, fun t ht => (hs t ht).2.2, fun t ht => (hs t ht).2.1⟩
theorem refusal_zero {os : List (Option (List Tm))} (h : refusal os = 0) : ∀ o ∈ os, ∃ ts, o = some ts ∧ Sl.tooBig ts = false := fun o ho => by
  unfold refusal at h
  split at h
  · cases h
  · rename_i q
    split at h
    · cases h
    · rename_i q2
      cases o with
      | none => exact absurd (List.any_eq_true.mpr ⟨none, ho, rfl⟩) q
      | some ts =>
        refine ⟨ts, rfl, ?_⟩
        have := mt (fun z => List.any_eq_true.mpr ⟨some ts, ho, z⟩) q2
        simpa using this
theorem ls_ok {texts : List (List Nat)} (h : refusal (osOf texts) = 0) : ∀ ts ∈ lsOf texts, Valid ts ∧ Sl.tooBig ts = false ∧ Oks ts := fun ts hm => by
  obtain ⟨o, ho, rfl⟩ := List.mem_map.mp hm
  obtain ⟨ts, rfl, hb⟩ := refusal_zero h o ho
  obtain ⟨t, _, e⟩ := List.mem_map.mp ho
  have hv := (Sl.read_sound e).1
  exact ⟨hv, hb, oks_of hv hb⟩
theorem rest_ge : ∀ l : List Tm, l.length ≤ (Sl.wRest l).length
  | [] => Nat.zero_le _
  | t :: l => by
    have ih := rest_ge l
    have e : Sl.wRest (t :: l) = Sl.wOne t ++ Sl.wRest l := rfl
    have h1 : 1 ≤ (Sl.wOne t).length := by
      unfold Sl.wOne
      rw [List.length_cons]; omega
    rw [e, List.length_append, List.length_cons]
    omega
theorem write_ge (l : List Tm) : l.length ≤ (Sl.write l).length + 1 := by
  cases l with
  | nil => exact Nat.zero_le _
  | cons t l =>
    have := rest_ge l
    show (t :: l).length ≤ ((if t.n < 0 then [45] else []) ++ Sl.wTerm t.p t.n.natAbs t.d ++ Sl.wRest l).length + 1
    rw [List.length_append, List.length_append, List.length_cons]
    omega
theorem os_len {texts : List (List Nat)} (h : ∀ t ∈ texts, t.length ≤ 200) : ∀ ts, some ts ∈ osOf texts → ts.length ≤ 1000 := fun ts hm => by
  obtain ⟨t, ht, e⟩ := List.mem_map.mp hm
  have h1 := (Sl.read_sound e).2
  have h2 := write_ge ts
  have h3 := h t ht
  rw [h1] at h2
  omega
/-! ### whole numbers of them -/
theorem nums_sz {c k : Nat} (hc : c < 2 ^ k) : ∀ (ts : List Tm) (l : List Int), (∀ t ∈ ts, t.n.natAbs < 2 ^ 14) → Sz (k + 14) l → Sz (k + 14) (Sl.numsGo c ts l)
  | [], l, _, h => h
  | t :: ts, l, hn, h => nums_sz hc ts _ (fun s hs => hn s (List.mem_cons_of_mem _ hs)) fun x hx => by
    rcases List.mem_or_eq_of_mem_set hx with q | q
    · exact h x q
    · rw [q, Int.natAbs_mul, Int.natAbs_natCast, Nat.pow_add]
      exact Nat.mul_lt_mul'' (Nat.lt_of_le_of_lt (Nat.div_le_self _ _) hc) (hn t (List.mem_cons_self ..))
theorem whole_ok {ts : List Tm} {c k : Nat} (ho : Oks ts) (hc : c < 2 ^ k) : (Sl.wholeI ts c).length ≤ 5 ∧ Sz (k + 14) (Sl.wholeI ts c) ∧ Sl.TrI (Sl.wholeI ts c) := by
  unfold Sl.wholeI
  refine ⟨Nat.le_trans (Sl.trimI_len _) (by rw [Sl.numsGo_len]; simp), fun x hx => ?_, Sl.trimI_tr _⟩
  refine nums_sz hc ts _ ho.n (fun y hy => ?_) x (Sl.trimI_mem _ _ hx)
  rw [List.eq_of_mem_replicate hy]; exact Nat.two_pow_pos _
def uniT (ts : List Tm) : Uni := Sl.uniOf (ts.map Sl.xr)
structure Rd (ts : List Tm) : Prop where
  v : Valid ts
  b : Sl.tooBig ts = false
  o : Oks ts
theorem rel_all {c : Nat} (hc : 0 < c) : ∀ l : List (List Tm), (∀ ts ∈ l, Rd ts) → (∀ ts ∈ l, ∀ t ∈ ts, t.d ∣ c) → RelAll (c : Rat) (l.map fun ts => Sl.wholeI ts c) (l.map uniT)
  | [], _, _ => .nil
  | ts :: l, h, hd => .cons (Sl.whole_rel (h ts (List.mem_cons_self ..)).v (h ts (List.mem_cons_self ..)).b hc (hd ts (List.mem_cons_self ..))) (rel_all hc l (fun s hs => h s (List.mem_cons_of_mem _ hs)) fun s hs => hd s (List.mem_cons_of_mem _ hs))
theorem rel_take {s : Rat} : ∀ (n : Nat) {as : List (List Int)} {ps : List Uni}, RelAll s as ps → RelAll s (as.take n) (ps.take n)
  | 0, _, _, _ => by rw [List.take_zero, List.take_zero]; exact .nil
  | n + 1, _, _, .nil => .nil
  | n + 1, _, _, .cons h r => .cons h (rel_take n r)
theorem rel_get {s : Rat} : ∀ (n : Nat) {as : List (List Int)} {ps : List Uni}, RelAll s as ps → Rel s (as.getD n []) (ps.getD n [])
  | n, _, _, .nil => fun m => by
    rw [List.getD_nil, List.getD_nil, Sl.co_nil, Sl.cq_nil]
    show (0 : Rat) = s * 0
    grind
  | 0, _, _, .cons h r => h
  | n + 1, _, _, .cons h r => by
    have := rel_get n r
    simpa using this
/-! ### how great a left side's numbers are -/
theorem cvI_lt {i j : Nat} {g : Nat → Int} (hg : ∀ n, (g n).natAbs < 2 ^ j) : ∀ (a : List Int) (n : Nat), Sz i a → (Sl.cvI a g n).natAbs ≤ a.length * 2 ^ (i + j)
  | [], n, _ => by show (0 : Int).natAbs ≤ _; simp
  | c :: a, n, h => by
    have hc := h c (List.mem_cons_self ..)
    have h1 : (c * g n).natAbs ≤ 2 ^ (i + j) := by
      rw [Int.natAbs_mul, Nat.pow_add]
      exact Nat.mul_le_mul (Nat.le_of_lt hc) (Nat.le_of_lt (hg n))
    rw [List.length_cons, Nat.add_mul, Nat.one_mul]
    cases n with
    | zero =>
      show (c * g 0).natAbs ≤ _
      exact Nat.le_trans h1 (Nat.le_add_left _ _)
    | succ n =>
      have ih := cvI_lt hg a n fun x hx => h x (List.mem_cons_of_mem _ hx)
      show (c * g (n + 1) + Sl.cvI a g n).natAbs ≤ _
      exact Nat.le_trans (Int.natAbs_add_le _ _) (by omega)
theorem timesI_sz {i j m : Nat} {a b : List Int} (ha : Sz i a) (hb : Sz j b) (hl : a.length < 2 ^ m) : Sz (i + j + m) (Sl.timesI a b) := sz_of_co fun n => by
  rw [Sl.timesI_co]
  refine Nat.lt_of_le_of_lt (cvI_lt (fun n => sz_co hb n) a n ha) ?_
  rw [Nat.pow_add 2 (i + j) m, Nat.mul_comm]
  exact Nat.mul_lt_mul_of_pos_left hl (Nat.two_pow_pos _)
theorem plusI_sz {k : Nat} {a b : List Int} (ha : Sz k a) (hb : Sz k b) : Sz (k + 1) (Sl.plusI a b) := sz_of_co fun n => by
  rw [Sl.plusI_co, pow_more]
  have h1 := sz_co ha n
  have h2 := sz_co hb n
  omega
theorem leftSt_sz {k i kind : Nat} {y : List Int} (hy : y.length ≤ 100) (hs : Sz k y) : ∀ ps : List (List Int), (∀ p ∈ ps, p.length ≤ 100 ∧ Sz i p) → Sz (i + k + 7 + 101 * ps.length) (leftSt kind ps y).1 := by
  intro ps
  generalize hn : ps.length = n
  induction n generalizing ps with
  | zero =>
    intro _
    have : ps = [] := List.eq_nil_of_length_eq_zero hn
    subst this
    intro x hx; cases hx
  | succ n ih =>
    intro h
    obtain ⟨v, b, rfl⟩ : ∃ v b, ps = v ++ [b] := ⟨ps.dropLast, ps.getLast (by intro z; subst z; simp at hn), (List.dropLast_concat_getLast _).symm⟩
    rw [List.length_append] at hn
    have hv : v.length = n := by simpa using hn
    have h1 := ih v hv fun p hp => h p (List.mem_append.mpr (.inl hp))
    have hb := h b (by simp)
    obtain ⟨h2, h3⟩ := leftSt_ok (kind := kind) hy hs v
    rw [hv] at h3
    rw [leftSt_more]
    have ht := timesI_sz (m := 7) hb.2 h3 (by omega)
    exact sz_mono (plusI_sz (sz_mono h1 (by omega : _ ≤ i + k + 7 + 101 * n + 100)) (sz_mono ht (by omega))) (by omega)
theorem leftI_sz {k i kind : Nat} {y : List Int} {ps : List (List Int)} (hy : y.length ≤ 100) (hs : Sz k y) (h : ∀ p ∈ ps, p.length ≤ 100 ∧ Sz i p) : Sz (i + k + 7 + 101 * ps.length) (Sl.leftI kind ps y) := by rw [leftI_st]; exact leftSt_sz hy hs ps h
theorem leftI_len {kind : Nat} {y : List Int} {ps : List (List Int)} (hy : y.length ≤ 100) (h : ∀ p ∈ ps, p.length ≤ 100) : (Sl.leftI kind ps y).length ≤ 300 := by rw [leftI_st]; exact leftSt_len hy ps h
theorem leftSt_len2 {a b kind : Nat} {y : List Int} (hy : y.length ≤ a) : ∀ ps : List (List Int), (∀ p ∈ ps, p.length ≤ b) → (leftSt kind ps y).2.length ≤ a ∧ (leftSt kind ps y).1.length ≤ a + b := by
  intro ps
  generalize hn : ps.length = n
  induction n generalizing ps with
  | zero =>
    intro _
    have : ps = [] := List.eq_nil_of_length_eq_zero hn
    subst this
    exact ⟨hy, Nat.zero_le _⟩
  | succ n ih =>
    intro h
    obtain ⟨v, c, rfl⟩ : ∃ v b, ps = v ++ [b] := ⟨ps.dropLast, ps.getLast (by intro z; subst z; simp at hn), (List.dropLast_concat_getLast _).symm⟩
    rw [List.length_append] at hn
    obtain ⟨h1, h2⟩ := ih v (by simpa using hn) fun p hp => h p (List.mem_append.mpr (.inl hp))
    have hc := h c (by simp)
    rw [leftSt_more]
    refine ⟨?_, ?_⟩
    · unfold leftStep
      by_cases hk : kind = 0
      · rw [if_pos hk]; exact Nat.le_trans (slopeI_len _) h1
      · rw [if_neg hk]; exact Nat.le_trans (stepI_len _) h1
    · show (Sl.plusI (leftSt kind v y).1 (Sl.timesI c (leftSt kind v y).2)).length ≤ a + b
      have := plusI_len (leftSt kind v y).1 (Sl.timesI c (leftSt kind v y).2)
      have := timesI_len c (leftSt kind v y).2
      omega
theorem leftI_len2 {a b kind : Nat} {y : List Int} {ps : List (List Int)} (hy : y.length ≤ a) (h : ∀ p ∈ ps, p.length ≤ b) : (Sl.leftI kind ps y).length ≤ a + b := by rw [leftI_st]; exact (leftSt_len2 hy ps h).2
/-! ### the terms' numbers -/
theorem lowT_le {i : Nat} {n m : Int} (hm : m ≠ 0) : (Sl.lowT i n m).n.natAbs ≤ n.natAbs ∧ (Sl.lowT i n m).d ≤ m.natAbs := by
  obtain ⟨a, b, ea, eb, hb, _, h0⟩ := Sl.low_parts (n := n) hm
  have hg : 1 ≤ (Sl.lowG n m).natAbs := by omega
  unfold Sl.lowT
  constructor
  · show (n.fdiv (Sl.lowG n m)).natAbs ≤ n.natAbs
    generalize Sl.lowG n m = g at *
    rw [ea, Int.mul_fdiv_cancel_left a h0, Int.natAbs_mul]
    exact Nat.le_mul_of_pos_left _ hg
  · show (m.fdiv (Sl.lowG n m)).toNat ≤ m.natAbs
    generalize Sl.lowG n m = g at *
    rw [eb, Int.mul_fdiv_cancel_left _ h0, Int.natAbs_mul, Int.toNat_natCast, Int.natAbs_natCast]
    exact Nat.le_mul_of_pos_left _ hg
theorem terms_bd {k : Nat} {l : List Int} {m : Int} (hm : m ≠ 0) (hk : l.length ≤ k) (hs : Sz k l) (hb : m.natAbs < 2 ^ k) (h1 : 0 < k) : ∀ t ∈ Sl.termsOver l m, Bdt k t := fun t ht => by
  unfold Sl.termsOver at ht
  obtain ⟨i, hi, rfl⟩ := List.mem_map.mp ht
  have hi' := List.mem_range.mp (List.mem_filter.mp (List.mem_reverse.mp hi)).1
  obtain ⟨a, b⟩ := lowT_le (i := i) (n := Sl.co l i) hm
  refine ⟨?_, ?_, ?_⟩
  · show i.log2 ≤ k
    exact Nat.le_trans (Nat.log2_le_self i) (by omega)
  · exact Nat.le_of_lt (log2_of_lt (Nat.lt_of_le_of_lt a (sz_co hs i)) h1)
  · exact Nat.le_of_lt (log2_of_lt (Nat.lt_of_le_of_lt b hb) h1)
theorem terms_len (l : List Int) (m : Int) : (Sl.termsOver l m).length ≤ l.length := by
  unfold Sl.termsOver
  rw [List.length_map, List.length_reverse]
  have := List.length_filter_le (fun i => decide (Sl.co l i ≠ 0)) (List.range l.length)
  rwa [List.length_range] at this
theorem okt_of {k : Nat} {t : Tm} (h : Bdt k t) (hk : k < 100000) : Okt t := ⟨Nat.lt_of_le_of_lt h.p hk, Nat.lt_of_le_of_lt h.n hk, Nat.lt_of_le_of_lt h.d hk⟩
end Pg
set_option Elab.async false
set_option linter.all false
set_option maxRecDepth 100000
namespace Pg
open PySem PyProof.Rows L2 Fw
open Sl (Tm Valid Rel RelAll Tr TrI)
open AlOne (Uni)
/-! ### the texts, by the specification -/
theorem mapM_os : ∀ t : List (List Nat), t.mapM AlOne.read = if (osOf t).any (fun o => o.isNone) = true then none else some ((lsOf t).map uniT)
  | [] => by simp [osOf, lsOf]
  | x :: t => by
    have ih := mapM_os t
    rw [List.mapM_cons, Sl.read_spec x]
    have e1 : osOf (x :: t) = Sl.read x :: osOf t := rfl
    have e2 : lsOf (x :: t) = (Sl.read x).getD [] :: lsOf t := rfl
    rw [e1, e2, List.any_cons]
    cases e : Sl.read x with
    | none => rfl
    | some l =>
      show ((t.mapM AlOne.read).bind fun r => some (uniT l :: r)) = _
      rw [ih]
      show _ = if (osOf t).any (fun o => o.isNone) = true then none else some (uniT l :: (lsOf t).map uniT)
      by_cases q : (osOf t).any (fun o => o.isNone) = true
      · rw [if_pos q, if_pos q]; rfl
      · rw [if_neg q, if_neg q]; rfl
theorem all_fits : ∀ t : List (List Nat), ¬ (osOf t).any (fun o => o.isNone) = true → ((lsOf t).map uniT).all Al10.fits = !((osOf t).any fun o => Sl.tooBig (o.getD []))
  | [], _ => rfl
  | x :: t, h => by
    have e1 : osOf (x :: t) = Sl.read x :: osOf t := rfl
    have e2 : lsOf (x :: t) = (Sl.read x).getD [] :: lsOf t := rfl
    rw [e1, List.any_cons] at h
    cases e : Sl.read x with
    | none => rw [e] at h; exact absurd rfl h
    | some l =>
      rw [e] at h
      have h' : ¬ (osOf t).any (fun o => o.isNone) = true := fun z => h (by rw [z]; rfl)
      have ih := all_fits t h'
      rw [e1, e2, e, List.map_cons, List.all_cons, List.any_cons, ih]
      show (Al10.fits (uniT l) && _) = !(Sl.tooBig l || _)
      unfold uniT
      rw [Sl.fits_spec (Sl.read_sound e).1, Bool.not_or]
theorem polys_is (t : List (List Nat)) (go : List Uni → Al10.Ans) : Al10.polys t go = if refusal (osOf t) ≠ 0 then Al10.no (refusal (osOf t)) else go ((lsOf t).map uniT) := by
  unfold Al10.polys
  rw [mapM_os]
  by_cases q : (osOf t).any (fun o => o.isNone) = true
  · have r : refusal (osOf t) = -1 := by unfold refusal; rw [if_pos q]
    rw [if_pos q, r, if_pos (by decide)]
  · rw [if_neg q]
    have hf := all_fits t q
    show (if ((lsOf t).map uniT).all Al10.fits = false then Al10.no (-2) else go ((lsOf t).map uniT)) = _
    rw [hf]
    by_cases q2 : ((osOf t).any fun o => Sl.tooBig (o.getD [])) = true
    · have r : refusal (osOf t) = -2 := by unfold refusal; rw [if_neg q, if_pos q2]
      rw [q2, r, if_pos (by decide), if_pos (by decide)]
    · have r : refusal (osOf t) = 0 := by unfold refusal; rw [if_neg q, if_neg q2]
      rw [r, if_neg (by simpa using q2), if_neg (by decide)]
theorem nats_back (t : List Nat) : Al10Neutral.nats (t.map fun (b : Nat) => (b : Int)) = t := by
  unfold Al10Neutral.nats
  rw [List.map_map]
  have := List.map_congr_left (f := Int.toNat ∘ fun (b : Nat) => (b : Int)) (g := id) (l := t) fun b _ => rfl
  rw [this]; simp
theorem nats_all (ts : List (List Nat)) : (ts.map fun t => t.map fun (b : Nat) => (b : Int)).map Al10Neutral.nats = ts := by
  rw [List.map_map]
  have := List.map_congr_left (f := Al10Neutral.nats ∘ fun t => t.map fun (b : Nat) => (b : Int)) (g := id) (l := ts) fun t _ => nats_back t
  rw [this]; simp
theorem rds_of {texts : List (List Nat)} (h : refusal (osOf texts) = 0) : ∀ ts ∈ lsOf texts, Rd ts := fun ts ht => let ⟨a, b, c⟩ := ls_ok h ts ht; ⟨a, b, c⟩
/-! ### what is handed in -/
open PySem.W (Codec)
theorem and_l {a b : Type} {p : a → Bool} {q : b → Bool} {x : a × b} (h : Codec.inPair p q x = true) : p x.1 = true := (Bool.and_eq_true_iff.mp h).1
theorem and_r {a b : Type} {p : a → Bool} {q : b → Bool} {x : a × b} (h : Codec.inPair p q x = true) : q x.2 = true := (Bool.and_eq_true_iff.mp h).2
theorem int_lo {hi x : Int} (h : Codec.within (.int (Int.ofNat 0) hi) x = true) : 0 ≤ x := by
  have h' : (decide (Int.ofNat 0 ≤ x) && decide (x ≤ hi)) = true := h
  have := (Bool.and_eq_true_iff.mp h').1
  exact of_decide_eq_true this
theorem list_in {m : Nat} {c : Codec} {l : List c.denote} (h : Codec.within (.list 0 m c) l = true) : l.length ≤ m ∧ ∀ x ∈ l, c.within x = true := by
  have h' : ((decide (0 ≤ l.length) && decide (l.length ≤ m)) && l.all c.within) = true := h
  obtain ⟨h1, h2⟩ := Bool.and_eq_true_iff.mp h'
  exact ⟨of_decide_eq_true (Bool.and_eq_true_iff.mp h1).2, List.all_eq_true.mp h2⟩
theorem texts_nat {n : Nat} : ∀ {l : List (List Int)}, (∀ t ∈ l, t.length ≤ n ∧ ∀ b ∈ t, 0 ≤ b) → ∃ ns : List (List Nat), l = (ns.map fun t => t.map fun (b : Nat) => (b : Int)) ∧ ∀ t ∈ ns, t.length ≤ n := fun {l} h => by
  refine ⟨l.map fun t => t.map Int.toNat, ?_, fun t ht => ?_⟩
  · rw [List.map_map]
    have := List.map_congr_left (f := (fun t => t.map fun (b : Nat) => (b : Int)) ∘ fun (t : List Int) => t.map Int.toNat) (g := id) (l := l) fun t ht => by
      show (t.map Int.toNat).map (fun (b : Nat) => (b : Int)) = t
      rw [List.map_map]
      have h2 := List.map_congr_left (f := (fun (b : Nat) => (b : Int)) ∘ Int.toNat) (g := id) (l := t) fun b hb => Int.toNat_of_nonneg ((h t ht).2 b hb)
      rw [h2]; simp
    rw [this]; simp
  · obtain ⟨s, hs, rfl⟩ := List.mem_map.mp ht
    rw [List.length_map]
    exact (h s hs).1
end Pg
set_option Elab.async false
set_option linter.all false
set_option maxRecDepth 100000
set_option maxHeartbeats 2000000
namespace Pg
open PySem PyProof.Rows L2 Fw
abbrev s_value_at : Stmt := topS 8
abbrev nm_value_at : List Str := ["polynomial", "place", "value", "number"]
theorem sc_value_at : FnScope nm_value_at ["polynomial", "place"] (defScope s_value_at) := ⟨rfl, rfl, rfl, by decide +kernel, rfl, by decide +kernel, by decide +kernel⟩
theorem val_sz {k j : Nat} {x : Int} (hx : x.natAbs < 2 ^ j) : ∀ l : List Int, Sz k l → (Ht.valI l x).natAbs < 2 ^ (k + (j + 1) * l.length)
  | [], _ => by show 0 < _; exact Nat.two_pow_pos _
  | c :: l, h => by
    have ih := val_sz hx l fun y hy => h y (List.mem_cons_of_mem _ hy)
    have hc := h c (List.mem_cons_self ..)
    show (Ht.valI l x * x + c).natAbs < _
    have h1 : (Ht.valI l x * x).natAbs < 2 ^ (k + (j + 1) * l.length + j) := by
      rw [Int.natAbs_mul, Nat.pow_add]
      exact Nat.mul_lt_mul'' ih hx
    have h2 : c.natAbs < 2 ^ (k + (j + 1) * l.length + j) := Nat.lt_of_lt_of_le hc (Nat.pow_le_pow_right (by decide) (by omega))
    have e : k + (j + 1) * (l.length + 1) = (k + (j + 1) * l.length + j) + 1 := by rw [Nat.mul_add]; omega
    rw [List.length_cons, e, pow_more]
    omega
def R_value_at : List D → D → Prop := fun ds d => ∃ (l : List Int) (x : Int), ds = [.lst (dI l), .int x] ∧ l.length ≤ 30 ∧ Sz 10000 l ∧ x.natAbs < 2 ^ 10000 ∧ d = .int (Ht.valI l x)
theorem len_value_at {ds : List D} {d : D} (h : R_value_at ds d) : ds.length = 2 := by obtain ⟨a, b, rfl, _⟩ := h; rfl
theorem drop_more {l : List Int} {i : Nat} (hi : i < l.length) : l.drop (l.length - (i + 1)) = Sl.co l (l.length - 1 - i) :: l.drop (l.length - i) := by
  have h1 : l.length - (i + 1) < l.length := by omega
  rw [List.drop_eq_getElem_cons h1]
  congr 1
  · unfold Sl.co
    rw [List.getD_eq_getElem?_getD, show l.length - 1 - i = l.length - (i + 1) by omega, List.getElem?_eq_getElem h1]; rfl
  · rw [show l.length - (i + 1) + 1 = l.length - i by omega]
theorem ok_value_at {P : Program} {w : World} {K : PySem.W.Frag} {mg : Str → Option Value} {base : Heap} {f : Addr} {fd : FuncData} (T : Txt mg) (F : Fun K "value_at" "value_at" s_value_at f fd) : FnOk P w K mg base CX0 1 f fd ["polynomial", "place"] (SpR K R_value_at) := by
  refine fn_ok F sc_value_at (by decide) (fun ds d h => ?_) (fun cdv A outer s H E hr => ?_)
  · exact len_value_at h
  · have hu65 := hu65_of hr
    refine ⟨_, (pss_cons (ps_set (i := 2) sc_value_at.nd rfl (Or.inl rfl) pe_int)
      (pss_cons (ps_for PassesOwn.never rfl (pi_reversed (by rfl) T.b_reversed (pa_cons (pv 0) pa_nil)) (pg_name (i := 3) sc_value_at.nd rfl (Or.inl rfl)) (pss_one (ps_set (i := 2) sc_value_at.nd rfl (Or.inl rfl) (pe_op op_add (pe_op op_mulW (pv 2) (pv 1)) (pv 3)))))
      (pss_one (ps_ret (pv 2))))), fun ds d hR G0 H0 Q Z k => ?_⟩
    obtain ⟨l, x, rfl, hl, hs, hx, rfl⟩ := hR
    refine q_asg ev_i ?_
    refine q_for (it_rev (ev_var rfl) .lst) (fun i => [.dat (.lst (dI l)), .dat (.int x), .dat (.int (Ht.valI (l.drop (l.length - i)) x)), .no]) [3] (fun d as => as.set 3 (.dat d)) (fun d _ => tg_name) (le_eq rfl (le_eq rfl (le_eq ?_ (le_no le_nil)))) (fun B C sub i d hd => ?_) ?_
    · rw [Nat.sub_zero, List.drop_length]; rfl
    · have hi : i < l.length := by
        have := (List.getElem?_eq_some_iff.mp hd).1
        rwa [List.length_reverse, dI_len] at this
      rw [List.getElem?_reverse (by rw [dI_len]; exact hi), dI_len, dI_get (by omega)] at hd
      cases hd
      have hsz : Sz 10000 (l.drop (l.length - i)) := fun y hy => hs y (List.mem_of_mem_drop hy)
      have hv := val_sz hx _ hsz
      rw [List.length_drop] at hv
      have hb : 10000 + (10000 + 1) * (l.length - (l.length - i)) ≤ 400000 := by
        have : (10000 + 1) * (l.length - (l.length - i)) ≤ (10000 + 1) * 30 := Nat.mul_le_mul_left _ (by omega)
        omega
      have hv' := log2_of_lt (Nat.lt_of_lt_of_le hv (Nat.pow_le_pow_right (by decide) hb)) (by decide)
      have hx' := log2_of_lt hx (by decide)
      refine c_asg (ev_opI (ev_mul (ev_var rfl).r (ev_var rfl).r (mulW_of (a := 400000) (b := 10000) (Nat.le_of_lt hv') (Nat.le_of_lt hx') (by decide))).r (ev_var rfl).r) ?_
      refine c_at (le_eq rfl (le_eq rfl (le_eq ?_ (le_no le_nil))))
      rw [drop_more hi]
      rfl
    · refine c_ret (ev_is (ev_var rfl) ?_) k
      rw [List.length_reverse, dI_len, Nat.sub_self, List.drop_zero]
abbrev s_sign_at : Stmt := topS 21
abbrev nm_sign_at : List Str := ["polynomial", "place", "value"]
theorem sc_sign_at : FnScope nm_sign_at ["polynomial", "place"] (defScope s_sign_at) := ⟨rfl, rfl, rfl, by decide +kernel, rfl, by decide +kernel, by decide +kernel⟩
def R_sign_at : List D → D → Prop := fun ds d => ∃ (l : List Int) (x : Int), ds = [.lst (dI l), .int x] ∧ l.length ≤ 30 ∧ Sz 10000 l ∧ x.natAbs < 2 ^ 10000 ∧ d = .int (Ht.sgn (Ht.valI l x))
theorem len_sign_at {ds : List D} {d : D} (h : R_sign_at ds d) : ds.length = 2 := by obtain ⟨a, b, rfl, _⟩ := h; rfl
theorem ok_sign_at {P : Program} {w : World} {K : PySem.W.Frag} {mg : Str → Option Value} {base : Heap} {f : Addr} {fd : FuncData} (T : Txt mg) (c_value_at : Cal P w K mg base 1 "value_at" ["polynomial", "place"] R_value_at) (F : Fun K "sign_at" "sign_at" s_sign_at f fd) : FnOk P w K mg base CX0 2 f fd ["polynomial", "place"] (SpR K R_sign_at) := by
  obtain ⟨f_value_at, fd_value_at, G_value_at, m_value_at, k_value_at, b_value_at⟩ := c_value_at.ex
  refine fn_ok F sc_sign_at (by decide) (fun ds d h => ?_) (fun cdv A outer s H E hr => ?_)
  · exact len_sign_at h
  · have hu65 := hu65_of hr
    refine ⟨_, (pss_cons (ps_set (i := 2) sc_sign_at.nd rfl (Or.inl rfl) (pe_call G_value_at (hr.mono (by decide)) (by rfl) m_value_at k_value_at b_value_at .nil pass0 (pa_cons (pv 0) (pa_cons (pv 1) pa_nil))))
      (pss_cons (ps_if (pt_cmpR op_eq (pv 2) pe_int (nomark _)) (pss_one (ps_ret pe_int)) pss_nil)
      (pss_one (ps_ret (pe_ifExp (pt_cmpR op_gt (pv 2) pe_int (nomark _)) pe_int (pe_un un_neg pe_int)))))), fun ds d hR G0 H0 Q Z k => ?_⟩
    obtain ⟨l, x, rfl, hl, hs, hx, rfl⟩ := hR
    refine q_asg (ev_call (ea_cons (ev_var rfl) (ea_cons (ev_var rfl) ea_nil)) ⟨l, x, rfl, hl, hs, hx, rfl⟩) ?_
    generalize Ht.valI l x = y at *
    unfold Ht.sgn at k
    refine q_when (et_test (ev_eqI (ev_var rfl).r ev_i.r).r) (fun q => ?_) (fun q => ?_)
    · have h := of_decide_eq_true q
      rw [if_pos h] at k
      exact c_ret ev_i k
    · have h := of_decide_eq_false q
      rw [if_neg h] at k
      refine c_ret (ev_if (et_test (ev_opB (ev_var rfl).r ev_i.r).r) (fun w => ev_is ev_i ?_) (fun w => ev_is (ev_neg ev_i.r) ?_)) k
      · rw [if_pos (of_decide_eq_true w)]
      · rw [if_neg (of_decide_eq_false w)]
end Pg
set_option Elab.async false
set_option linter.all false
set_option maxRecDepth 100000
set_option maxHeartbeats 2000000
namespace Pg
open PySem PyProof.Rows L2 Fw
abbrev s_difference : Stmt := topS 7
abbrev nm_difference : List Str := ["polynomial"]
theorem sc_difference : FnScope nm_difference ["polynomial"] (defScope s_difference) := ⟨rfl, rfl, rfl, by decide +kernel, rfl, by decide +kernel, by decide +kernel⟩
def R_difference : List D → D → Prop := fun ds d => ∃ l : List Int, ds = [.lst (dI l)] ∧ l.length ≤ 30 ∧ Sz 10000 l ∧ d = .lst (dI (Ht.diffI l))
theorem len_difference {ds : List D} {d : D} (h : R_difference ds d) : ds.length = 1 := by obtain ⟨a, rfl, _⟩ := h; rfl
theorem one_sz {k : Nat} (hk : 0 < k) : ∀ x ∈ [(-1 : Int)], x.natAbs < 2 ^ k := fun x hx => by
  rw [List.mem_singleton] at hx
  subst hx
  exact Nat.one_lt_two_pow (by omega)
theorem ok_difference {P : Program} {w : World} {K : PySem.W.Frag} {mg : Str → Option Value} {base : Heap} {f : Addr} {fd : FuncData} (T : Txt mg) (c_plus : Cal P w K mg base 2 "plus" ["first", "second"] R_plus) (c_stepped : Cal P w K mg base 3 "stepped" ["polynomial"] R_stepped) (c_times : Cal P w K mg base 1 "times" ["first", "second"] R_times) (F : Fun K "difference" "difference" s_difference f fd) : FnOk P w K mg base CX0 4 f fd ["polynomial"] (SpR K R_difference) := by
  obtain ⟨f_plus, fd_plus, G_plus, m_plus, k_plus, b_plus⟩ := c_plus.ex
  obtain ⟨f_stepped, fd_stepped, G_stepped, m_stepped, k_stepped, b_stepped⟩ := c_stepped.ex
  obtain ⟨f_times, fd_times, G_times, m_times, k_times, b_times⟩ := c_times.ex
  refine fn_ok F sc_difference (by decide) (fun ds d h => ?_) (fun cdv A outer s H E hr => ?_)
  · exact len_difference h
  · have hu65 := hu65_of hr
    refine ⟨_, (pss_one (ps_ret (pe_call G_plus (hr.mono (by decide)) (by rfl) m_plus k_plus b_plus .nil pass0 (pa_cons (pe_call G_stepped (hr.mono (by decide)) (by rfl) m_stepped k_stepped b_stepped .nil pass0 (pa_cons (pv 0) pa_nil)) (pa_cons (pe_call G_times (hr.mono (by decide)) (by rfl) m_times k_times b_times .nil pass0 (pa_cons (pe_lst (pa_cons (pe_un un_neg pe_int) pa_nil)) (pa_cons (pv 0) pa_nil))) pa_nil))))), fun ds d hR G0 H0 Q Z k => ?_⟩
    obtain ⟨l, rfl, hl, hs, rfl⟩ := hR
    have h1 := stepI_len l
    have h2 := timesI_len [-1] l
    simp only [List.length_cons, List.length_nil] at h2
    refine c_ret (d := .lst (dI (Ht.diffI l))) (ev_call (ea_cons (ev_call (ea_cons (ev_var rfl) ea_nil) ⟨l, rfl, by omega, sz_mono hs (by decide), rfl⟩) (ea_cons (ev_call (ea_cons (n_lst (ea_cons (ev_neg ev_i.r) ea_nil) (by show 1 ≤ 1000000; decide)).ev (ea_cons (ev_var rfl) ea_nil)) ⟨[-1], l, rfl, by decide, by omega, one_sz (by decide), sz_mono hs (by decide), rfl⟩) ea_nil)) ⟨Sl.stepI l, Sl.timesI [-1] l, rfl, by omega, by omega, rfl⟩) k
abbrev s_first_change : Stmt := topS 20
abbrev nm_first_change : List Str := ["polynomial", "start", "end", "sign", "low", "high", "middle"]
theorem sc_first_change : FnScope nm_first_change ["polynomial", "start", "end"] (defScope s_first_change) := ⟨rfl, rfl, rfl, by decide +kernel, rfl, by decide +kernel, by decide +kernel⟩
def fI (l : List Int) : Nat → Int := fun x => Ht.valI l (x : Int)
def R_first_change : List D → D → Prop := fun ds d => ∃ (l : List Int) (s e p : Nat), ds = [.lst (dI l), .int (s : Int), .int (e : Int)] ∧ l.length ≤ 30 ∧ Sz 10000 l ∧ e < 2 ^ 10000 ∧ Ht.First (fI l) s e p ∧ d = .int (p : Int)
theorem len_first_change {ds : List D} {d : D} (h : R_first_change ds d) : ds.length = 3 := by obtain ⟨a, b, c, p, rfl, _⟩ := h; rfl
theorem ok_first_change {P : Program} {w : World} {K : PySem.W.Frag} {mg : Str → Option Value} {base : Heap} {f : Addr} {fd : FuncData} (T : Txt mg) (c_sign_at : Cal P w K mg base 2 "sign_at" ["polynomial", "place"] R_sign_at) (F : Fun K "first_change" "first_change" s_first_change f fd) : FnOk P w K mg base CX0 3 f fd ["polynomial", "start", "end"] (SpR K R_first_change) := by
  obtain ⟨f_sign_at, fd_sign_at, G_sign_at, m_sign_at, k_sign_at, b_sign_at⟩ := c_sign_at.ex
  refine fn_ok F sc_first_change (by decide) (fun ds d h => ?_) (fun cdv A outer s H E hr => ?_)
  · exact len_first_change h
  · have hu65 := hu65_of hr
    refine ⟨_, (pss_cons (ps_set (i := 3) sc_first_change.nd rfl (Or.inl rfl) (pe_call G_sign_at (hr.mono (by decide)) (by rfl) m_sign_at k_sign_at b_sign_at .nil pass0 (pa_cons (pv 0) (pa_cons (pv 1) pa_nil))))
      (pss_cons (ps_set (i := 4) sc_first_change.nd rfl (Or.inl rfl) (pv 1))
      (pss_cons (ps_set (i := 5) sc_first_change.nd rfl (Or.inl rfl) (pv 2))
      (pss_cons (ps_while PassesOwn.never (pt_cmpR op_gt (pe_op op_sub (pv 5) (pv 4)) pe_int (nomark _)) (pss_cons (ps_set (i := 6) sc_first_change.nd rfl (Or.inl rfl) (pe_op op_fdivX (pe_op op_add (pv 4) (pv 5)) pe_int))
      (pss_one (ps_if (pt_cmpR op_eq (pe_call G_sign_at (hr.mono (by decide)) (by rfl) m_sign_at k_sign_at b_sign_at .nil pass0 (pa_cons (pv 0) (pa_cons (pv 6) pa_nil))) (pv 3) (nomark _)) (pss_one (ps_set (i := 4) sc_first_change.nd rfl (Or.inl rfl) (pv 6))) (pss_one (ps_set (i := 5) sc_first_change.nd rfl (Or.inl rfl) (pv 6)))))))
      (pss_one (ps_ret (pv 5))))))), fun ds d hR G0 H0 Q Z k => ?_⟩
    obtain ⟨l, st, en, p, rfl, hl, hs, he, hf, rfl⟩ := hR
    have hlt := hf.lt
    have hle := hf.le
    refine q_asg (ev_call (ea_cons (ev_var rfl) (ea_cons (ev_var rfl) ea_nil)) ⟨l, st, rfl, hl, hs, by rw [Int.natAbs_natCast]; omega, rfl⟩) ?_
    refine q_asg (ev_var rfl) ?_
    refine q_asg (ev_var rfl) ?_
    refine q_while (fun s : Nat × Nat => [.dat (.lst (dI l)), .dat (.int (st : Int)), .dat (.int (en : Int)), .dat (.int (Ht.sgn (fI l st))), .dat (.int (s.1 : Int)), .dat (.int (s.2 : Int)), .no]) (fun s => st ≤ s.1 ∧ s.1 < p ∧ p ≤ s.2 ∧ s.2 ≤ en) (fun s => s.2 - s.1) (st, en) (le_refl _) ⟨Nat.le_refl _, hlt, hle, Nat.le_refl _⟩ fun s hi => ?_
    obtain ⟨i1, i2, i3, i4⟩ := hi
    refine ⟨_, et_test (ev_opB (ev_opI (ev_var rfl).r (ev_var rfl).r).r ev_i.r).r, fun q => ?_, fun q => ?_⟩
    · have q' := of_decide_eq_true q
      have em : Int.fdiv ((s.1 : Int) + (s.2 : Int)) 2 = (((s.1 + s.2) / 2 : Nat) : Int) := by
        rw [Int.fdiv_eq_ediv_of_nonneg _ (by decide)]; omega
      refine q_asg (d := .int (((s.1 + s.2) / 2 : Nat) : Int)) (ev_is (ev_fdiv (ev_opI (ev_var rfl).r (ev_var rfl).r).r ev_i.r (show CDivX _ 2 from ⟨by decide, by decide +kernel⟩)) (by rw [em])) ?_
      refine c_if (et_test (ev_eqI (ev_call (ea_cons (ev_var rfl) (ea_cons (ev_var rfl) ea_nil)) ⟨l, (((s.1 + s.2) / 2 : Nat) : Int), rfl, hl, hs, by rw [Int.natAbs_natCast]; omega, rfl⟩).r (ev_var rfl).r).r) (fun w => ?_) (fun w => ?_)
      · have w' : Ht.sgn (fI l ((s.1 + s.2) / 2)) = Ht.sgn (fI l st) := of_decide_eq_true w
        have hmp : (s.1 + s.2) / 2 < p := by
          refine Nat.lt_of_not_le fun z => ?_
          exact hf.high _ z (by omega) w'
        refine c_asg (ev_var rfl) ?_
        exact c_nx ((s.1 + s.2) / 2, s.2) (le_eq rfl (le_eq rfl (le_eq rfl (le_eq rfl (le_eq rfl (le_eq rfl (le_no le_nil))))))) ⟨by show st ≤ (s.1 + s.2) / 2; omega, hmp, i3, i4⟩ (by show s.2 - (s.1 + s.2) / 2 < s.2 - s.1; omega)
      · have w' : ¬ Ht.sgn (fI l ((s.1 + s.2) / 2)) = Ht.sgn (fI l st) := of_decide_eq_false w
        have hmp : p ≤ (s.1 + s.2) / 2 := by
          refine Nat.le_of_not_lt fun z => ?_
          exact w' (hf.low _ (by omega) z)
        refine c_asg (ev_var rfl) ?_
        exact c_nx (s.1, (s.1 + s.2) / 2) (le_eq rfl (le_eq rfl (le_eq rfl (le_eq rfl (le_eq rfl (le_eq rfl (le_no le_nil))))))) ⟨i1, i2, hmp, by show (s.1 + s.2) / 2 ≤ en; omega⟩ (by show (s.1 + s.2) / 2 - s.1 < s.2 - s.1; omega)
    · have q' := of_decide_eq_false q
      refine c_ret (ev_is (ev_var rfl) ?_) k
      congr 1
      omega
end Pg
set_option Elab.async false
set_option linter.all false
set_option maxRecDepth 100000
set_option maxHeartbeats 2000000
namespace Pg
open PySem PyProof.Rows L2 Fw
abbrev s_sign_changes : Stmt := topS 19
abbrev nm_sign_changes : List Str := ["polynomial", "top", "edges", "changes", "start", "end", "place"]
theorem sc_sign_changes : FnScope nm_sign_changes ["polynomial", "top"] (defScope s_sign_changes) := ⟨rfl, rfl, rfl, by decide +kernel, rfl, by decide +kernel, by decide +kernel⟩
theorem diffI_sz {k : Nat} {l : List Int} (h : Sz k l) : Sz (k + l.length + 1) (Ht.diffI l) := sz_of_co fun n => by
  unfold Ht.diffI
  rw [Sl.plusI_co, Sl.timesI_co]
  have e1 : Sl.cvI [-1] (Sl.co l) n = -Sl.co l n := by
    cases n with
    | zero => show -1 * Sl.co l 0 = _; omega
    | succ n => show -1 * Sl.co l (n + 1) + 0 = _; omega
  rw [e1, pow_more]
  have h1 := sz_co (stepI_sz l h) n
  have h2 := Nat.lt_of_lt_of_le (sz_co h n) (Nat.pow_le_pow_right (n := 2) (by decide) (show k ≤ k + l.length by omega))
  omega
def R_sc : Nat → List D → D → Prop
  | 0 => fun _ _ => False
  | n + 1 => fun ds d => ∃ (l : List Int) (top : Nat), ds = [.lst (dI l), .int (top : Int)] ∧ l.length ≤ n ∧ n ≤ 10 ∧ Sz (9000 - 20 * n) l ∧ 1 ≤ top ∧ top < 2 ^ 10000 ∧ d = .lst (dN (Ht.chgR (fI l) 0 top))
theorem len_sc {n : Nat} {ds : List D} {d : D} (h : R_sc n ds d) : ds.length = 2 := by
  cases n with
  | zero => exact h.elim
  | succ n => obtain ⟨a, b, rfl, _⟩ := h; rfl
theorem zip_edges {E : List Nat} {i : Nat} {d : D} (h : (((dN E).zip ((dN E).drop 1)).map fun x => pairD x.1 x.2)[i]? = some d) : ∃ x y, E[i]? = some x ∧ E[i + 1]? = some y ∧ d = pairD (.int (x : Int)) (.int (y : Int)) := by
  rw [List.getElem?_map] at h
  cases e : ((dN E).zip ((dN E).drop 1))[i]? with
  | none => rw [e] at h; cases h
  | some w =>
    rw [e] at h
    obtain ⟨e1, e2⟩ := List.getElem?_zip_eq_some.mp e
    rw [List.getElem?_drop, Nat.add_comm 1 i] at e2
    unfold dN at e1 e2
    rw [List.getElem?_map] at e1 e2
    cases f1 : E[i]? with
    | none => rw [f1] at e1; cases e1
    | some x =>
      cases f2 : E[i + 1]? with
      | none => rw [f2] at e2; cases e2
      | some y =>
        rw [f1] at e1
        rw [f2] at e2
        refine ⟨x, y, rfl, rfl, ?_⟩
        have := Option.some.inj h
        rw [← this]
        show pairD w.1 w.2 = _
        rw [← Option.some.inj e1, ← Option.some.inj e2]
theorem ok_sign_changes {P : Program} {w : World} {K : PySem.W.Frag} {mg : Str → Option Value} {base : Heap} {f : Addr} {fd : FuncData} (n : Nat) (T : Txt mg) (c_sign_changes : Cal P w K mg base (5 + n) "sign_changes" ["polynomial", "top"] (R_sc n)) (c_difference : Cal P w K mg base 4 "difference" ["polynomial"] R_difference) (c_sign_at : Cal P w K mg base 2 "sign_at" ["polynomial", "place"] R_sign_at) (c_first_change : Cal P w K mg base 3 "first_change" ["polynomial", "start", "end"] R_first_change) (F : Fun K "sign_changes" "sign_changes" s_sign_changes f fd) : FnOk P w K mg base CX0 (5 + n + 1) f fd ["polynomial", "top"] (SpR K (R_sc (n + 1))) := by
  obtain ⟨f_sign_changes, fd_sign_changes, G_sign_changes, m_sign_changes, k_sign_changes, b_sign_changes⟩ := c_sign_changes.ex
  obtain ⟨f_difference, fd_difference, G_difference, m_difference, k_difference, b_difference⟩ := c_difference.ex
  obtain ⟨f_sign_at, fd_sign_at, G_sign_at, m_sign_at, k_sign_at, b_sign_at⟩ := c_sign_at.ex
  obtain ⟨f_first_change, fd_first_change, G_first_change, m_first_change, k_first_change, b_first_change⟩ := c_first_change.ex
  refine fn_ok F sc_sign_changes (by decide) (fun ds d h => ?_) (fun cdv A outer s H E hr => ?_)
  · exact len_sc h
  · have hu65 := hu65_of hr
    refine ⟨_, (pss_cons (ps_if (pt_cmpR op_le (pe_callB call_len_seq (by rfl) T.b_len PySem.boot_len (pa_cons (pv 0) pa_nil)) pe_int (nomark _)) (pss_one (ps_ret (pe_lst pa_nil))) pss_nil)
      (pss_cons (ps_set (i := 2) sc_sign_changes.nd rfl (Or.inl rfl) (pe_op op_cat (pe_op op_cat (pe_lst (pa_cons pe_int pa_nil)) (pe_call G_sign_changes (hr.mono (by omega)) (by rfl) m_sign_changes k_sign_changes b_sign_changes .nil pass0 (pa_cons (pe_call G_difference (hr.mono (by omega)) (by rfl) m_difference k_difference b_difference .nil pass0 (pa_cons (pv 0) pa_nil)) (pa_cons (pv 1) pa_nil)))) (pe_lst (pa_cons (pv 1) pa_nil))))
      (pss_cons (ps_set (i := 3) sc_sign_changes.nd rfl (Or.inl rfl) (pe_lst pa_nil))
      (pss_cons (ps_for PassesOwn.never rfl (pi_zip (by rfl) T.b_zip (pa_cons (pv 2) (pa_cons (pe_slice sl_list (pv 2) (po_some pe_int) po_none) pa_nil))) (pg_tup rfl (pgs_cons (pg_name (i := 4) sc_sign_changes.nd rfl (Or.inl rfl)) (pgs_cons (pg_name (i := 5) sc_sign_changes.nd rfl (Or.inl rfl)) pgs_nil))) (pss_cons (ps_set (i := 6) sc_sign_changes.nd rfl (Or.inl rfl) (pv 4))
      (pss_one (ps_while PassesOwn.never (pt_cmpR op_ne (pe_call G_sign_at (hr.mono (by omega)) (by rfl) m_sign_at k_sign_at b_sign_at .nil pass0 (pa_cons (pv 0) (pa_cons (pv 6) pa_nil))) (pe_call G_sign_at (hr.mono (by omega)) (by rfl) m_sign_at k_sign_at b_sign_at .nil pass0 (pa_cons (pv 0) (pa_cons (pv 5) pa_nil))) (nomark _)) (pss_cons (ps_set (i := 6) sc_sign_changes.nd rfl (Or.inl rfl) (pe_call G_first_change (hr.mono (by omega)) (by rfl) m_first_change k_first_change b_first_change .nil pass0 (pa_cons (pv 0) (pa_cons (pv 6) (pa_cons (pv 5) pa_nil)))))
      (pss_one (ps_expr (pe_bm PySem.F.plainAttrs_list PySem.F.slot_list_append PySem.F.type_list_append mt_append (pv 3) (pa_cons (pv 6) pa_nil)))))))))
      (pss_one (ps_ret (pv 3))))))), fun ds d hR G0 H0 Q Z k => ?_⟩
    obtain ⟨l, top, rfl, hl, hn, hs, ht1, ht, rfl⟩ := hR
    have hs9 : Sz 10000 l := sz_mono hs (by omega)
    have hcb := Ht.chg_bound n l top hl
    have hp10 : 2 ^ (n + 1) ≤ 2 ^ 11 := Nat.pow_le_pow_right (by decide) (by omega)
    have h11 : (2 : Nat) ^ 11 = 2048 := by decide
    refine q_when (et_test (ev_opB (ev_len rfl (ev_var rfl).r .lst).r ev_i.r).r) (fun q => ?_) (fun q => ?_)
    · have hl1 : l.length ≤ 1 := by
        have := of_decide_eq_true q
        rw [dI_len] at this
        omega
      refine c_ret (ev_is (n_lst ea_nil (by decide)).ev ?_) k
      rw [Ht.chg_none _ fun i _ _ => ?_]
      · rfl
      · match l, hl1 with
        | [], _ => rfl
        | [c], _ => show Ht.sgn (0 * _ + c) = Ht.sgn (0 * _ + c); simp
    · have hl1 : ¬ l.length ≤ 1 := by
        have := of_decide_eq_false q
        rw [dI_len] at this
        omega
      obtain ⟨m, rfl⟩ : ∃ m, n = m + 1 := ⟨n - 1, by omega⟩
      have hdl := Ht.diff_len (l := l) (by omega)
      have hds : Sz (9000 - 20 * m) (Ht.diffI l) := sz_mono (diffI_sz hs) (by omega)
      have hdb := Ht.chg_bound m (Ht.diffI l) top (by omega)
      have hp9 : 2 ^ (m + 1) ≤ 2 ^ 11 := Nat.pow_le_pow_right (by decide) (by omega)
      have hgf : ∀ x : Nat, fI (Ht.diffI l) x = fI l (x + 1) - fI l x := fun x => by
        unfold fI
        rw [Ht.val_diff]; rfl
      have hel := Ht.edges_len (fI (Ht.diffI l)) top
      have hdb' : (Ht.chgR (fI (Ht.diffI l)) 0 top).length ≤ 2 ^ (m + 1) - 2 := hdb
      refine q_asg (d := .lst (dN (Ht.edges (fI (Ht.diffI l)) top))) (ev_is (n_cat (n_cat (n_lst (ea_cons ev_i ea_nil) (by decide)).ev (ev_call (ea_cons (ev_call (ea_cons (ev_var rfl) ea_nil) ⟨l, rfl, by omega, hs9, rfl⟩) (ea_cons (ev_var rfl) ea_nil)) ⟨Ht.diffI l, top, rfl, by omega, by omega, hds, ht1, ht, rfl⟩) (by rw [dN_len]; simp; omega)).ev (n_lst (ea_cons (ev_var rfl) ea_nil) (by show 1 ≤ 1000000; decide)).ev (by rw [List.length_append, dN_len]; simp; omega)).ev ?_) ?_
      · show D.lst ([D.int 0] ++ dN (Ht.chgR (fI (Ht.diffI l)) 0 top) ++ [D.int (top : Int)]) = _
        unfold Ht.edges
        rw [List.append_assoc, show (0 :: (Ht.chgR (fI (Ht.diffI l)) 0 top ++ [top]) : List Nat) = [0] ++ (Ht.chgR (fI (Ht.diffI l)) 0 top ++ [top]) from rfl, dN_append, dN_append]
        rfl
      · refine q_new (n_lst ea_nil (by decide)) ?_
        generalize hE : Ht.edges (fI (Ht.diffI l)) top = E at *
        refine q_for (it_zip (ev_var rfl) (ev_is (n_sl (hi := none) (ev_var rfl) .lst (eo_some ev_i.r) eo_none).ev (show D.lst (cut (dN E) (some ((1 : Nat) : Int)) none) = D.lst ((dN E).drop 1) by rw [cut_from])) .lst .lst) (fun i => [.dat (.lst (dI l)), .dat (.int (top : Int)), .dat (.lst (dN E)), .mu (dN (Ht.chgR (fI l) 0 (E.getD i 0))), .no, .no, .no]) [4, 5] (two 4 5) (fun d hd => ?_) (le_eq rfl (le_eq rfl (le_eq rfl (le_eq ?_ (le_refl _))))) (fun B C sub i d hd => ?_) ?_
        · obtain ⟨i, hi⟩ := List.mem_iff_getElem?.mp hd
          obtain ⟨x, y, _, _, rfl⟩ := zip_edges hi
          exact tg_tup2
        · rw [← hE]
          show AS.mu (dN (Ht.chgR (fI l) 0 0)) = _
          unfold Ht.chgR
          rfl
        · obtain ⟨x, y, hx, hy, rfl⟩ := zip_edges hd
          rw [List.getD_eq_getElem?_getD, List.getD_eq_getElem?_getD, hx, hy]
          show Co K B C [.dat (.lst (dI l)), .dat (.int (top : Int)), .dat (.lst (dN E)), .mu (dN (Ht.chgR (fI l) 0 x)), .dat (.int (x : Int)), .dat (.int (y : Int)), .no] _
          rw [← hE] at hx hy
          have hm := Ht.seg_mono hgf hx hy
          obtain ⟨hxy, hyt, _⟩ := Ht.edges_at hx hy
          refine q_asg (ev_var rfl) ?_
          refine c_while (fun p : Nat => [.dat (.lst (dI l)), .dat (.int (top : Int)), .dat (.lst (dN E)), .mu (dN (Ht.chgR (fI l) 0 p)), .dat (.int (x : Int)), .dat (.int (y : Int)), .dat (.int (p : Int))]) (fun p => x ≤ p ∧ p ≤ y) (fun p => y - p) x (le_refl _) ⟨Nat.le_refl _, hxy⟩ fun p hp => ?_
          have hplen : (Ht.chgR (fI l) 0 p).length ≤ 2 ^ (m + 1 + 1) - 2 := Ht.chg_bound (m + 1) l p hl
          have hmp : Ht.MonoAll (fI l) p y := fun a h1 h2 => hm a (by omega) h2
          refine ⟨_, et_test (ev_neI (ev_call (ea_cons (ev_var rfl) (ea_cons (ev_var rfl) ea_nil)) ⟨l, (p : Int), rfl, by omega, hs9, by rw [Int.natAbs_natCast]; omega, rfl⟩).r (ev_call (ea_cons (ev_var rfl) (ea_cons (ev_var rfl) ea_nil)) ⟨l, (y : Int), rfl, by omega, hs9, by rw [Int.natAbs_natCast]; omega, rfl⟩).r).r, fun w => ?_, fun w => ?_⟩
          · have w' : Ht.sgn (fI l p) ≠ Ht.sgn (fI l y) := fun z => by
              have z' : decide (Ht.sgn (Ht.valI l (p : Int)) = Ht.sgn (Ht.valI l (y : Int))) = true := decide_eq_true z
              rw [z'] at w; cases w
            obtain ⟨p2, hf⟩ := Ht.first_ex (f := fI l) (s := p) (y - p) y (by omega) (hmp p (Nat.le_refl p) hp.2) w'
            have hlt := hf.lt
            have hle := hf.le
            refine q_asg (ev_call (ea_cons (ev_var rfl) (ea_cons (ev_var rfl) (ea_cons (ev_var rfl) ea_nil))) ⟨l, p, y, p2, rfl, by omega, hs9, by omega, hf, rfl⟩) ?_
            refine c_app rfl (ev_var rfl) (by rw [dN_len]; omega) ?_
            refine c_nx p2 (le_eq rfl (le_eq rfl (le_eq rfl (le_eq ?_ (le_eq rfl (le_eq rfl (le_eq rfl le_nil))))))) ⟨by omega, hle⟩ (by show y - p2 < y - p; omega)
            rw [Ht.chg_split (fI l) (a := 0) (b := p) (c := p2) (Nat.zero_le _) (by omega), Ht.chg_first hf, dN_append]
            rfl
          · have w' : Ht.sgn (fI l p) = Ht.sgn (fI l y) := by
              cases z : decide (Ht.sgn (Ht.valI l (p : Int)) = Ht.sgn (Ht.valI l (y : Int))) with
              | true => exact of_decide_eq_true z
              | false => rw [z] at w; cases w
            refine c_at (le_eq rfl (le_eq rfl (le_eq rfl (le_eq ?_ (le_no (le_no (le_no le_nil)))))))
            show AS.mu (dN (Ht.chgR (fI l) 0 y)) = _
            rw [Ht.chg_split (fI l) (a := 0) (b := p) (c := y) (Nat.zero_le _) hp.2, Ht.chg_same hmp hp.2 w', List.append_nil]
        · refine c_frz (n := 3) rfl ?_
          refine c_ret (ev_is (ev_var rfl) ?_) k
          have hlz : (((dN E).zip ((dN E).drop 1)).map fun x => pairD x.1 x.2).length = (Ht.chgR (fI (Ht.diffI l)) 0 top).length + 1 := by
            rw [List.length_map, List.length_zip, List.length_drop, dN_len, hel]; omega
          rw [hlz, ← hE, List.getD_eq_getElem?_getD, Ht.edges_last]
          rfl
end Pg
set_option Elab.async false
set_option linter.all false
set_option maxRecDepth 100000
set_option maxHeartbeats 2000000
namespace Pg
open PySem PyProof.Rows L2 Fw
abbrev s_greatest_whole_root : Stmt := topS 18
abbrev nm_greatest_whole_root : List Str := ["polynomial", "top", "greatest", "place", "number"]
theorem sc_greatest_whole_root : FnScope nm_greatest_whole_root ["polynomial"] (defScope s_greatest_whole_root) := ⟨rfl, rfl, rfl, by decide +kernel, rfl, by decide +kernel, by decide +kernel⟩
abbrev R_sign_changes : List D → D → Prop := R_sc 5
def R_greatest_whole_root : List D → D → Prop := fun ds d => ∃ l : List Int, ds = [.lst (dI l)] ∧ l ≠ [] ∧ l.length ≤ 4 ∧ Sz 8000 l ∧ d = .int (Ht.gRoot l)
theorem len_greatest_whole_root {ds : List D} {d : D} (h : R_greatest_whole_root ds d) : ds.length = 1 := by obtain ⟨a, rfl, _⟩ := h; rfl
def absD : D → D
  | .int i => .int (i.natAbs : Int)
  | d => d
theorem top_sz {k : Nat} {l : List Int} (h : Sz k l) (h0 : l ≠ []) : Ht.topN l < 2 ^ (k + 1) := by
  obtain ⟨x, hx, e⟩ := List.mem_map.mp (Ht.maxN_mem h0)
  have := h x hx
  unfold Ht.topN
  rw [pow_more]
  omega
theorem gfold_take (f : Nat → Int) (L : List Nat) {i p : Nat} (h : L[i]? = some p) : (L.take (i + 1)).foldl (Ht.gStep f) (-1) = Ht.gStep f ((L.take i).foldl (Ht.gStep f) (-1)) p := by
  rw [List.take_add_one, h, List.foldl_append]; rfl
theorem dN_get {w : List Nat} {i : Nat} {d : D} (h : (dN w)[i]? = some d) : ∃ b, w[i]? = some b ∧ d = .int (b : Int) := by
  unfold dN at h
  rw [List.getElem?_map] at h
  cases e : w[i]? with
  | none => rw [e] at h; cases h
  | some b => rw [e] at h; exact ⟨b, rfl, (Option.some.inj h).symm⟩
theorem ok_greatest_whole_root {P : Program} {w : World} {K : PySem.W.Frag} {mg : Str → Option Value} {base : Heap} {f : Addr} {fd : FuncData} (T : Txt mg) (c_sign_changes : Cal P w K mg base 10 "sign_changes" ["polynomial", "top"] R_sign_changes) (c_value_at : Cal P w K mg base 1 "value_at" ["polynomial", "place"] R_value_at) (F : Fun K "greatest_whole_root" "greatest_whole_root" s_greatest_whole_root f fd) : FnOk P w K mg base CX0 11 f fd ["polynomial"] (SpR K R_greatest_whole_root) := by
  obtain ⟨f_sign_changes, fd_sign_changes, G_sign_changes, m_sign_changes, k_sign_changes, b_sign_changes⟩ := c_sign_changes.ex
  obtain ⟨f_value_at, fd_value_at, G_value_at, m_value_at, k_value_at, b_value_at⟩ := c_value_at.ex
  refine fn_ok F sc_greatest_whole_root (by decide) (fun ds d h => ?_) (fun cdv A outer s H E hr => ?_)
  · exact len_greatest_whole_root h
  · have hu65 := hu65_of hr
    refine ⟨_, (pss_cons (ps_set (i := 1) sc_greatest_whole_root.nd rfl (Or.inl rfl) (pe_op op_add pe_int (pe_callB (cr_max rfl) (by rfl) T.b_max (by decide +kernel) (pa_cons (pe_lc (own := [("number", 4)]) rfl sc_greatest_whole_root.nd (pi_list (pv 0)) (blkOk_by (own := [("number", 4)]) (N := nm_greatest_whole_root) (sc := defScope s_greatest_whole_root) (by decide +kernel)) (fun _ _ _ _ _ => by exact (pg_name (i := 4) sc_greatest_whole_root.nd rfl (Or.inl rfl))) (fun _ _ _ _ _ => by exact pts_nil) (fun _ _ _ _ _ => by exact (pe_callB call_abs (by rfl) T.b_abs (by decide +kernel) (pa_cons (pv 4) pa_nil)))) pa_nil))))
      (pss_cons (ps_set (i := 2) sc_greatest_whole_root.nd rfl (Or.inl rfl) (pe_un un_neg pe_int))
      (pss_cons (ps_for PassesOwn.never rfl (pi_list (pe_call G_sign_changes (hr.mono (by decide)) (by rfl) m_sign_changes k_sign_changes b_sign_changes .nil pass0 (pa_cons (pv 0) (pa_cons (pv 1) pa_nil)))) (pg_name (i := 3) sc_greatest_whole_root.nd rfl (Or.inl rfl)) (pss_one (ps_if (pt_cmpR op_eq (pe_call G_value_at (hr.mono (by decide)) (by rfl) m_value_at k_value_at b_value_at .nil pass0 (pa_cons (pv 0) (pa_cons (pe_op op_sub (pv 3) pe_int) pa_nil))) pe_int (nomark _)) (pss_one (ps_set (i := 2) sc_greatest_whole_root.nd rfl (Or.inl rfl) (pe_op op_sub (pv 3) pe_int))) pss_nil)))
      (pss_one (ps_ret (pv 2)))))), fun ds d hR G0 H0 Q Z k => ?_⟩
    obtain ⟨l, rfl, h0, hl, hs, rfl⟩ := hR
    have htop := top_sz hs h0
    have hcb := Ht.chg_bound 4 l (Ht.topN l) hl
    have ht1 : 1 ≤ Ht.topN l := by unfold Ht.topN; omega
    have htt : Ht.topN l < 2 ^ 10000 := Nat.lt_of_lt_of_le htop (Nat.pow_le_pow_right (by decide) (by decide))
    refine q_asg (d := .int (Ht.topN l : Nat)) (ev_is (ev_opI ev_i.r (ev_max (ns := l.map fun x => (x.natAbs : Int)) (m := (Ht.maxN l : Int)) (ev_is (n_lc (it_list (ev_var rfl) .lst) _ [4] (fun d as => as.set 4 (.dat d)) (fun d hd => tg_name) (by decide) (fun _ => true) absD (by rw [dI_len]; omega) (fun d hd => et_yes) (fun d hd _ => ?_)).ev ?_).r ?_ ?_).r) ?_) ?_
    · obtain ⟨x, _, rfl⟩ := List.mem_map.mp hd
      exact ev_abs rfl (ev_var rfl).r
    · rw [picked_all (fun _ _ => rfl)]
      unfold dI
      rw [List.map_map, List.map_map]
      rfl
    · obtain ⟨x, hx, e⟩ := List.mem_map.mp (Ht.maxN_mem h0)
      exact List.mem_map.mpr ⟨x, hx, by rw [e]⟩
    · intro y hy
      obtain ⟨x, hx, rfl⟩ := List.mem_map.mp hy
      have := Ht.maxN_ge hx
      omega
    · unfold Ht.topN
      congr 1
    · refine q_asg (ev_neg ev_i.r) ?_
      refine q_for (it_list (ev_call (ea_cons (ev_var rfl) (ea_cons (ev_var rfl) ea_nil)) ⟨l, Ht.topN l, rfl, hl, by decide, sz_mono hs (by decide), ht1, htt, rfl⟩) .lst) (fun i => [.dat (.lst (dI l)), .dat (.int (Ht.topN l : Nat)), .dat (.int (((Ht.chgR (fI l) 0 (Ht.topN l)).take i).foldl (Ht.gStep (fI l)) (-1))), .no, .no]) [3] (fun d as => as.set 3 (.dat d)) (fun d _ => tg_name) (le_refl _) (fun B C sub i d hd => ?_) ?_
      · obtain ⟨p, hp, rfl⟩ := dN_get hd
        have hm := (Ht.chg_mem _).mp (List.mem_of_getElem? hp)
        rw [gfold_take (fI l) _ hp]
        generalize ((Ht.chgR (fI l) 0 (Ht.topN l)).take i).foldl (Ht.gStep (fI l)) (-1) = g
        show Co K B C [.dat (.lst (dI l)), .dat (.int (Ht.topN l : Nat)), .dat (.int g), .dat (.int (p : Int)), .no] _
        have ep : (p : Int) - 1 = ((p - 1 : Nat) : Int) := by omega
        refine c_if (et_test (ev_eqI (ev_call (ea_cons (ev_var rfl) (ea_cons (ev_is (ev_opI (ev_var rfl).r ev_i.r) (show D.int ((p : Int) - 1) = D.int ((p - 1 : Nat) : Int) by rw [ep])) ea_nil)) ⟨l, ((p - 1 : Nat) : Int), rfl, by omega, sz_mono hs (by decide), by rw [Int.natAbs_natCast]; omega, rfl⟩).r ev_i.r).r) (fun w => ?_) (fun w => ?_)
        · have w' : fI l (p - 1) = 0 := of_decide_eq_true w
          refine c_asg (ev_opI (ev_var rfl).r ev_i.r) ?_
          refine c_at (le_eq rfl (le_eq rfl (le_eq ?_ (le_no (le_no le_nil)))))
          unfold Ht.gStep
          rw [if_pos w', ep]
        · have w' : ¬ fI l (p - 1) = 0 := of_decide_eq_false w
          refine c_at (le_eq rfl (le_eq rfl (le_eq ?_ (le_no (le_no le_nil)))))
          unfold Ht.gStep
          rw [if_neg w']
      · refine c_ret (ev_is (ev_var rfl) ?_) k
        rw [dN_len, List.take_length]
        rfl
abbrev s_falling_product : Stmt := topS 17
abbrev nm_falling_product : List Str := ["order", "product", "less"]
theorem sc_falling_product : FnScope nm_falling_product ["order"] (defScope s_falling_product) := ⟨rfl, rfl, rfl, by decide +kernel, rfl, by decide +kernel, by decide +kernel⟩
def fallI : Nat → List Int
  | 0 => [1]
  | n + 1 => Sl.timesI (fallI n) [-(n : Int), 1]
def R_falling_product : List D → D → Prop := fun ds d => ∃ n : Nat, ds = [.int (n : Int)] ∧ n ≤ 10 ∧ d = .lst (dI (fallI n))
theorem len_falling_product {ds : List D} {d : D} (h : R_falling_product ds d) : ds.length = 1 := by obtain ⟨a, rfl, _⟩ := h; rfl
theorem fall_len : ∀ n, (fallI n).length ≤ n + 1
  | 0 => by decide
  | n + 1 => by
    have := fall_len n
    have h := timesI_len (fallI n) [-(n : Int), 1]
    simp only [List.length_cons, List.length_nil] at h
    show (Sl.timesI (fallI n) [-(n : Int), 1]).length ≤ _
    omega
theorem cvI_two (a : Int) (l : List Int) (n : Nat) : Sl.cvI l (Sl.co [a, 1]) n = Sl.co l n * a + (match n with | 0 => 0 | m + 1 => Sl.co l m) := by
  induction l generalizing n with
  | nil => cases n <;> simp [Sl.cvI, Sl.co]
  | cons c l ih =>
    cases n with
    | zero => show c * a = c * a + 0; omega
    | succ n =>
      show c * Sl.co [a, 1] (n + 1) + Sl.cvI l (Sl.co [a, 1]) n = Sl.co (c :: l) (n + 1) * a + Sl.co (c :: l) n
      rw [ih, Sl.co_succ c l n]
      cases n with
      | zero => show c * 1 + (Sl.co l 0 * a + 0) = Sl.co l 0 * a + c; omega
      | succ n =>
        rw [show Sl.co [a, 1] (n + 1 + 1) = 0 from Sl.co_ge (by simp), Sl.co_succ c l n, Int.mul_zero]
        show 0 + (Sl.co l (n + 1) * a + Sl.co l n) = _
        omega
theorem fall_sz : ∀ n, n ≤ 10 → Sz (5 * n + 1) (fallI n)
  | 0, _ => fun x hx => by
    have : x = 1 := by simpa [fallI] using hx
    subst this; decide
  | n + 1, hn => by
    have ih := fall_sz n (by omega)
    refine sz_of_co fun m => ?_
    show (Sl.co (Sl.timesI (fallI n) [-(n : Int), 1]) m).natAbs < _
    rw [Sl.timesI_co, cvI_two]
    have h1 := sz_co ih m
    have e : 2 ^ (5 * (n + 1) + 1) = 2 ^ (5 * n + 1) * 32 := by rw [show 5 * (n + 1) + 1 = (5 * n + 1) + 5 by omega, Nat.pow_add]
    have h2 : (Sl.co (fallI n) m * -(n : Int)).natAbs ≤ 2 ^ (5 * n + 1) * 10 := by
      rw [Int.natAbs_mul]
      refine Nat.mul_le_mul (Nat.le_of_lt h1) (by omega)
    rw [e]
    cases m with
    | zero => show (Sl.co (fallI n) 0 * -(n : Int) + 0).natAbs < _; omega
    | succ m =>
      have h3 := sz_co ih m
      show (Sl.co (fallI n) (m + 1) * -(n : Int) + Sl.co (fallI n) m).natAbs < _
      omega
theorem pair_sz {a : Int} {k : Nat} (h : a.natAbs < 2 ^ k) (hk : 0 < k) : Sz k [a, 1] := fun x hx => by
  simp only [List.mem_cons, List.not_mem_nil, or_false] at hx
  rcases hx with rfl | rfl
  · exact h
  · exact Nat.one_lt_two_pow (by omega)
theorem ok_falling_product {P : Program} {w : World} {K : PySem.W.Frag} {mg : Str → Option Value} {base : Heap} {f : Addr} {fd : FuncData} (T : Txt mg) (c_times : Cal P w K mg base 1 "times" ["first", "second"] R_times) (F : Fun K "falling_product" "falling_product" s_falling_product f fd) : FnOk P w K mg base CX0 2 f fd ["order"] (SpR K R_falling_product) := by
  obtain ⟨f_times, fd_times, G_times, m_times, k_times, b_times⟩ := c_times.ex
  refine fn_ok F sc_falling_product (by decide) (fun ds d h => ?_) (fun cdv A outer s H E hr => ?_)
  · exact len_falling_product h
  · have hu65 := hu65_of hr
    refine ⟨_, (pss_cons (ps_set (i := 1) sc_falling_product.nd rfl (Or.inl rfl) (pe_lst (pa_cons pe_int pa_nil)))
      (pss_cons (ps_for PassesOwn.never rfl (pi_range1 (by rfl) T.b_range (pa_cons (pv 0) pa_nil)) (pg_name (i := 2) sc_falling_product.nd rfl (Or.inl rfl)) (pss_one (ps_set (i := 1) sc_falling_product.nd rfl (Or.inl rfl) (pe_call G_times (hr.mono (by decide)) (by rfl) m_times k_times b_times .nil pass0 (pa_cons (pv 1) (pa_cons (pe_lst (pa_cons (pe_un un_neg (pv 2)) (pa_cons pe_int pa_nil))) pa_nil))))))
      (pss_one (ps_ret (pv 1))))), fun ds d hR G0 H0 Q Z k => ?_⟩
    obtain ⟨n, rfl, hn, rfl⟩ := hR
    refine q_asg (d := .lst (dI (fallI 0))) (n_lst (ea_cons ev_i ea_nil) (by decide)).ev ?_
    refine q_for (it_range1 (n := n) (ev_var rfl).r (by omega)) (fun i => [.dat (.int (n : Int)), .dat (.lst (dI (fallI i))), .no]) [2] (fun d as => as.set 2 (.dat d)) (fun d _ => tg_name) (le_refl _) (fun B C sub i d hd => ?_) ?_
    · have hi : i < n := by
        have := (List.getElem?_eq_some_iff.mp hd).1
        rwa [List.length_map, List.length_range] at this
      rw [List.getElem?_map, List.getElem?_range hi] at hd
      cases hd
      have h1 := fall_len i
      have h2 := fall_sz i (by omega)
      refine c_asg (d := .lst (dI (fallI (i + 1)))) (ev_call (ea_cons (ev_var rfl) (ea_cons (n_lst (ea_cons (ev_neg (ev_var rfl).r) (ea_cons ev_i ea_nil)) (by show 2 ≤ 1000000; decide)).ev ea_nil)) ⟨fallI i, [-(i : Int), 1], rfl, by omega, by simp, sz_mono h2 (by omega), sz_mono (pair_sz (k := 4) (by omega) (by decide)) (by decide), rfl⟩) ?_
      exact c_at (le_eq rfl (le_eq rfl (le_no le_nil)))
    · refine c_ret (ev_is (ev_var rfl) ?_) k
      rw [List.length_map, List.length_range]
end Pg
set_option Elab.async false
set_option linter.all false
set_option maxRecDepth 100000
set_option maxHeartbeats 2000000
namespace Pg
open PySem PyProof.Rows L2 Fw
abbrev s_by_differences : Stmt := topS 15
abbrev nm_by_differences : List Str := ["parts", "shares", "part", "same", "further"]
theorem sc_by_differences : FnScope nm_by_differences ["parts"] (defScope s_by_differences) := ⟨rfl, rfl, rfl, by decide +kernel, rfl, by decide +kernel, by decide +kernel⟩
theorem it_is {K : PySem.W.Frag} {as : List AS} {wi : TI} {ds es : List D} (h : ItE K wi as ds) (e : ds = es) : ItE K wi as es := by rw [← e]; exact h
def zipP (S : List (List Int)) : List (List Int) := ((S ++ [[]]).zip ([] :: S)).map fun (x : List Int × List Int) => Sl.plusI x.1 x.2
def byStep (p : List Int) (S : List (List Int)) : List (List Int) := (zipP S).set 0 (Sl.plusI ((zipP S).getD 0 []) p)
def byD (ps : List (List Int)) : List (List Int) := ps.foldr byStep []
theorem zipP_len (S : List (List Int)) : (zipP S).length = S.length + 1 := by
  unfold zipP
  rw [List.length_map, List.length_zip, List.length_append, List.length_cons]
  simp
theorem byStep_len (p : List Int) (S : List (List Int)) : (byStep p S).length = S.length + 1 := by
  unfold byStep; rw [List.length_set, zipP_len]
theorem byD_len (ps : List (List Int)) : (byD ps).length = ps.length := by
  induction ps with
  | nil => rfl
  | cons p ps ih => show (byStep p (byD ps)).length = _; rw [byStep_len, ih, List.length_cons]
/-- how long and how great -/
def Okl (k : Nat) (l : List Int) : Prop := l.length ≤ 100 ∧ Sz k l
theorem plusI_ok {k : Nat} {a b : List Int} (ha : Okl k a) (hb : Okl k b) : Okl (k + 1) (Sl.plusI a b) := by
  refine ⟨Nat.le_trans (plusI_len a b) (by have := ha.1; have := hb.1; omega), sz_of_co fun n => ?_⟩
  rw [Sl.plusI_co, pow_more]
  have h1 := sz_co ha.2 n
  have h2 := sz_co hb.2 n
  omega
theorem okl_mono {j k : Nat} {l : List Int} (h : Okl j l) (hk : j ≤ k) : Okl k l := ⟨h.1, sz_mono h.2 hk⟩
theorem okl_nil (k : Nat) : Okl k [] := ⟨by simp, fun x hx => by cases hx⟩
theorem zipP_ok {k : Nat} {S : List (List Int)} (h : ∀ l ∈ S, Okl k l) : ∀ l ∈ zipP S, Okl (k + 1) l := fun l hl => by
  obtain ⟨x, hx, rfl⟩ := List.mem_map.mp hl
  have h1 := (List.of_mem_zip hx).1
  have h2 := (List.of_mem_zip hx).2
  refine plusI_ok ?_ ?_
  · rcases List.mem_append.mp h1 with q | q
    · exact h _ q
    · rw [List.mem_singleton] at q; rw [q]; exact okl_nil k
  · rcases List.mem_cons.mp h2 with q | q
    · rw [q]; exact okl_nil k
    · exact h _ q
theorem zipP_head {k : Nat} {S : List (List Int)} (h : ∀ l ∈ S, Okl k l) : Okl (k + 1) ((zipP S).getD 0 []) := by
  have hl : 0 < (zipP S).length := by rw [zipP_len]; omega
  rw [List.getD_eq_getElem?_getD, List.getElem?_eq_getElem hl]
  exact zipP_ok h _ (List.getElem_mem hl)
theorem byStep_ok {k : Nat} {p : List Int} {S : List (List Int)} (hp : Okl k p) (h : ∀ l ∈ S, Okl k l) : ∀ l ∈ byStep p S, Okl (k + 2) l := fun l hl => by
  unfold byStep at hl
  rcases List.mem_or_eq_of_mem_set hl with q | q
  · exact okl_mono (zipP_ok h l q) (by omega)
  · rw [q]
    exact plusI_ok (zipP_head h) (okl_mono hp (by omega))
theorem byD_cons (p : List Int) (ps : List (List Int)) : byD (p :: ps) = byStep p (byD ps) := rfl
theorem byD_ok {k : Nat} : ∀ ps : List (List Int), (∀ p ∈ ps, Okl k p) → ∀ l ∈ byD ps, Okl (k + 2 * ps.length) l
  | [], _, l, h => by cases h
  | p :: ps, hp, l, h => by
    have ih := byD_ok ps fun q hq => hp q (List.mem_cons_of_mem _ hq)
    have := byStep_ok (k := k + 2 * ps.length) (okl_mono (hp p (List.mem_cons_self ..)) (by omega)) ih l h
    rw [List.length_cons]
    exact okl_mono this (by omega)
def R_by_differences : List D → D → Prop := fun ds d => ∃ ps : List (List Int), ds = [.lst (dLL ps)] ∧ ps.length ≤ 20 ∧ (∀ p ∈ ps, Okl 50000 p) ∧ d = .lst (dLL (byD ps))
theorem len_by_differences {ds : List D} {d : D} (h : R_by_differences ds d) : ds.length = 1 := by obtain ⟨a, rfl, _⟩ := h; rfl
def plusD : D → D
  | .tup [.lst a, .lst b] => .lst (dI (Sl.plusI (a.map toI) (b.map toI)))
  | d => d
theorem plusD_at (a b : List Int) : plusD (pairD (.lst (dI a)) (.lst (dI b))) = .lst (dI (Sl.plusI a b)) := by
  show D.lst (dI (Sl.plusI ((dI a).map toI) ((dI b).map toI))) = _
  rw [toI_dI, toI_dI]
theorem dLL_append (a b : List (List Int)) : dLL (a ++ b) = dLL a ++ dLL b := List.map_append
theorem dLL_zip (a b : List (List Int)) : ((dLL a).zip (dLL b)).map (fun x => pairD x.1 x.2) = (a.zip b).map fun x => pairD (.lst (dI x.1)) (.lst (dI x.2)) := by
  unfold dLL
  rw [List.zip_map, List.map_map]
  rfl
theorem dLL_set (l : List (List Int)) (i : Nat) (x : List Int) : (dLL l).set i (.lst (dI x)) = dLL (l.set i x) := by
  unfold dLL; rw [List.map_set]
theorem drop_more' {l : List (List Int)} {i : Nat} {p : List Int} (hi : i < l.length) (hp : l[l.length - 1 - i]? = some p) : l.drop (l.length - (i + 1)) = p :: l.drop (l.length - i) := by
  have h1 : l.length - (i + 1) < l.length := by omega
  rw [List.drop_eq_getElem_cons h1]
  congr 1
  · rw [show l.length - 1 - i = l.length - (i + 1) by omega, List.getElem?_eq_getElem h1] at hp
    exact Option.some.inj hp
  · rw [show l.length - (i + 1) + 1 = l.length - i by omega]
theorem ok_by_differences {P : Program} {w : World} {K : PySem.W.Frag} {mg : Str → Option Value} {base : Heap} {f : Addr} {fd : FuncData} (T : Txt mg) (c_plus : Cal P w K mg base 2 "plus" ["first", "second"] R_plus) (F : Fun K "by_differences" "by_differences" s_by_differences f fd) : FnOk P w K mg base CX0 3 f fd ["parts"] (SpR K R_by_differences) := by
  obtain ⟨f_plus, fd_plus, G_plus, m_plus, k_plus, b_plus⟩ := c_plus.ex
  refine fn_ok F sc_by_differences (by decide) (fun ds d h => ?_) (fun cdv A outer s H E hr => ?_)
  · exact len_by_differences h
  · have hu65 := hu65_of hr
    refine ⟨_, (pss_cons (ps_set (i := 1) sc_by_differences.nd rfl (Or.inl rfl) (pe_lst pa_nil))
      (pss_cons (ps_for PassesOwn.never rfl (pi_reversed (by rfl) T.b_reversed (pa_cons (pv 0) pa_nil)) (pg_name (i := 2) sc_by_differences.nd rfl (Or.inl rfl)) (pss_cons (ps_setLc (i := 1) (own := [("same", 3), ("further", 4)]) rfl sc_by_differences.nd rfl rfl (sw_true rfl rfl rfl (by decide +kernel)) (pi_zip (by rfl) T.b_zip (pa_cons (pe_op op_cat (pv 1) (pe_lst (pa_cons (pe_lst pa_nil) pa_nil))) (pa_cons (pe_op op_cat (pe_lst (pa_cons (pe_lst pa_nil) pa_nil)) (pv 1)) pa_nil))) (blkOk_by (own := [("same", 3), ("further", 4)]) (N := nm_by_differences) (sc := defScope s_by_differences) (by decide +kernel)) (fun _ _ _ _ _ => by exact (by refine pg_tupK K 2 (t := gCons (gName 3) (gCons (gName 4) (gNil))) rfl ?_; exact (pgs_cons (pg_name (i := 3) sc_by_differences.nd rfl (Or.inl rfl)) (pgs_cons (pg_name (i := 4) sc_by_differences.nd rfl (Or.inl rfl)) pgs_nil)))) (fun _ _ _ _ _ => by exact pts_nil) (fun _ _ _ _ _ => by exact (pe_call G_plus (hr.mono (by decide)) (by rfl) m_plus k_plus b_plus .nil pass0 (pa_cons (pv 3) (pa_cons (pv 4) pa_nil)))))
      (pss_one (ps_asg (pe_call G_plus (hr.mono (by decide)) (by rfl) m_plus k_plus b_plus .nil pass0 (pa_cons (pe_ix ix_list (pv 1) pe_int (fun _ _ => rfl)) (pa_cons (pv 2) pa_nil))) (pg_sub (pv 1) pe_int set_list)))))
      (pss_one (ps_ret (pv 1))))), fun ds d hR G0 H0 Q Z k => ?_⟩
    obtain ⟨ps, rfl, hl, ho, rfl⟩ := hR
    refine q_asg (d := .lst (dLL [])) (n_lst ea_nil (by decide)).ev ?_
    refine q_for (it_rev (ev_var rfl) .lst) (fun i => [.dat (.lst (dLL ps)), .dat (.lst (dLL (byD (ps.drop (ps.length - i))))), .no, .no, .no]) [2] (fun d as => as.set 2 (.dat d)) (fun d _ => tg_name) (le_eq rfl (le_eq ?_ (le_refl _))) (fun B C sub i d hd => ?_) ?_
    · rw [Nat.sub_zero, List.drop_length]; rfl
    · have hi : i < ps.length := by
        have := (List.getElem?_eq_some_iff.mp hd).1
        rwa [List.length_reverse, dLL_len] at this
      rw [List.getElem?_reverse (by rw [dLL_len]; exact hi), dLL_len] at hd
      obtain ⟨p, hp, rfl⟩ := dLL_get hd
      have hdr := drop_more' hi hp
      have hSl : (byD (ps.drop (ps.length - i))).length ≤ 20 := by rw [byD_len, List.length_drop]; omega
      have hSo := byD_ok (k := 50000) (ps.drop (ps.length - i)) fun q hq => ho q (List.mem_of_mem_drop hq)
      have hSo' : ∀ l ∈ byD (ps.drop (ps.length - i)), Okl 60000 l := fun l h => okl_mono (hSo l h) (by rw [List.length_drop]; omega)
      have hpo := ho p (List.mem_of_getElem? hp)
      rw [hdr, byD_cons]
      generalize byD (ps.drop (ps.length - i)) = S at *
      have hz := zipP_ok hSo'
      have hzh := zipP_head hSo'
      refine q_new (ds := dLL (zipP S)) (n_is (n_lc (ds := ((S ++ [[]]).zip ([] :: S)).map fun (x : List Int × List Int) => pairD (D.lst (dI x.1)) (D.lst (dI x.2))) (it_is (it_zip (n_cat (ev_var rfl) (n_lst (ea_cons (n_lst ea_nil (by decide)).ev ea_nil) (by show 1 ≤ 1000000; decide)).ev (by rw [dLL_len]; simp; omega)).ev (n_cat (n_lst (ea_cons (n_lst ea_nil (by decide)).ev ea_nil) (by show 1 ≤ 1000000; decide)).ev (ev_var rfl) (by rw [dLL_len]; simp; omega)).ev .lst .lst) ?_) _ [3, 4] (two 3 4) (fun d hd => ?_) (by decide) (fun _ => true) plusD (by rw [List.length_map, List.length_zip, List.length_append, List.length_cons]; simp; omega) (fun d hd => et_yes) (fun d hd _ => ?_)) ?_) ?_
      · have e := dLL_zip (S ++ [[]]) ([] :: S)
        rw [dLL_append] at e
        exact e
      · obtain ⟨x, _, rfl⟩ := List.mem_map.mp hd
        exact tg_tup2
      · obtain ⟨x, hx, rfl⟩ := List.mem_map.mp hd
        have h1 := (List.of_mem_zip hx).1
        have h2 := (List.of_mem_zip hx).2
        have l1 : x.1.length ≤ 100 := by
          rcases List.mem_append.mp h1 with q | q
          · exact (hSo' _ q).1
          · rw [List.mem_singleton] at q; rw [q]; simp
        have l2 : x.2.length ≤ 100 := by
          rcases List.mem_cons.mp h2 with q | q
          · rw [q]; simp
          · exact (hSo' _ q).1
        exact ev_call (ea_cons (ev_var rfl) (ea_cons (ev_var rfl) ea_nil)) ⟨x.1, x.2, rfl, by omega, by omega, plusD_at x.1 x.2⟩
      · rw [picked_all (fun _ _ => rfl)]
        unfold zipP dLL
        rw [List.map_map, List.map_map]
        exact List.map_congr_left fun x _ => plusD_at x.1 x.2
      · have hzl := zipP_len S
        have hg0 : (dLL (zipP S))[0]? = some (.lst (dI ((zipP S).getD 0 []))) := by
          unfold dLL
          rw [List.getElem?_map, List.getD_eq_getElem?_getD, List.getElem?_eq_getElem (show 0 < (zipP S).length by omega)]
          rfl
        refine c_set (k := 0) rfl (ev_call (ea_cons (ev_ixM (k := 0) rfl ev_i.r hg0) (ea_cons (ev_var rfl) ea_nil)) ⟨(zipP S).getD 0 [], p, rfl, by have := hzh.1; omega, by have := hpo.1; omega, rfl⟩) ev_i.r (by rw [dLL_len]; omega) ?_
        refine c_frz (n := 1) rfl ?_
        refine c_at (le_eq rfl (le_eq ?_ (le_no (le_no (le_no le_nil)))))
        unfold byStep
        rw [← dLL_set]
    · refine c_ret (ev_is (ev_var rfl) ?_) k
      rw [List.length_reverse, dLL_len, Nat.sub_self, List.drop_zero]
end Pg
set_option Elab.async false
set_option linter.all false
set_option maxRecDepth 100000
set_option maxHeartbeats 2000000
namespace Pg
open PySem PyProof.Rows L2 Fw
abbrev s_leading : Stmt := topS 16
abbrev nm_leading : List Str := ["shares", "rise", "total", "order", "share"]
theorem sc_leading : FnScope nm_leading ["shares", "rise"] (defScope s_leading) := ⟨rfl, rfl, rfl, by decide +kernel, rfl, by decide +kernel, by decide +kernel⟩
def leadStep (rise : Int) (t : List Int) (x : List Int × Nat) : List Int := if x.1 ≠ [] ∧ (x.1.length : Int) - 1 - (x.2 : Int) = rise then Sl.plusI t (Sl.timesI [x.1.getLastD 0] (fallI x.2)) else t
def leadI (S : List (List Int)) (rise : Int) : List Int := S.zipIdx.foldl (leadStep rise) []
def R_leading : List D → D → Prop := fun ds d => ∃ (S : List (List Int)) (rise : Int), ds = [.lst (dLL S), .int rise] ∧ S.length ≤ 10 ∧ (∀ p ∈ S, Okl 100000 p) ∧ d = .lst (dI (leadI S rise))
theorem len_leading {ds : List D} {d : D} (h : R_leading ds d) : ds.length = 2 := by obtain ⟨a, b, rfl, _⟩ := h; rfl
def leadN (S : List (List Int)) (rise : Int) (i : Nat) : List Int := (S.zipIdx.take i).foldl (leadStep rise) []
theorem leadN_more {S : List (List Int)} {rise : Int} {i : Nat} {p : List Int} (h : S[i]? = some p) : leadN S rise (i + 1) = leadStep rise (leadN S rise i) (p, i) := by
  unfold leadN
  have e : S.zipIdx[i]? = some (p, i) := by
    rw [List.getElem?_zipIdx, h]
    show some (p, 0 + i) = _
    rw [Nat.zero_add]
  rw [List.take_add_one, e, List.foldl_append]
  rfl
theorem leadStep_len {rise : Int} {t : List Int} {x : List Int × Nat} (h : x.2 ≤ 10) (ht : t.length ≤ 50) : (leadStep rise t x).length ≤ 50 := by
  unfold leadStep
  split
  · have h1 := plusI_len t (Sl.timesI [x.1.getLastD 0] (fallI x.2))
    have h2 := timesI_len [x.1.getLastD 0] (fallI x.2)
    have h3 := fall_len x.2
    simp only [List.length_cons, List.length_nil] at h2
    omega
  · exact ht
theorem leadN_len (S : List (List Int)) (rise : Int) (hS : S.length ≤ 10) : ∀ i, i ≤ S.length → (leadN S rise i).length ≤ 50
  | 0, _ => by unfold leadN; simp
  | i + 1, h => by
    rw [leadN_more (p := S[i]'(by omega)) (List.getElem?_eq_getElem (by omega))]
    exact leadStep_len (by show i ≤ 10; omega) (leadN_len S rise hS i (by omega))
def enumLL (S : List (List Int)) : List D := (dLL S).zipIdx.map fun x => pairD (.int (x.2 : Nat)) x.1
theorem enumLL_len (S : List (List Int)) : (enumLL S).length = S.length := by
  unfold enumLL; rw [List.length_map, List.length_zipIdx, dLL_len]
theorem enumLL_get {S : List (List Int)} {i : Nat} {d : D} (h : (enumLL S)[i]? = some d) : ∃ p, S[i]? = some p ∧ d = pairD (.int (i : Int)) (.lst (dI p)) := by
  unfold enumLL at h
  rw [List.getElem?_map, List.getElem?_zipIdx] at h
  cases e : (dLL S)[i]? with
  | none => rw [e] at h; cases h
  | some x =>
    rw [e] at h
    obtain ⟨p, hp, rfl⟩ := dLL_get e
    refine ⟨p, hp, ?_⟩
    have := Option.some.inj h
    rw [← this]
    show pairD (.int ((0 + i : Nat) : Int)) _ = _
    rw [Nat.zero_add]
theorem enumLL_tg {K : PySem.W.Frag} {S : List (List Int)} {i j : Nat} (d : D) (h : d ∈ enumLL S) : TgE K (gTup K 2 (gCons (gName i) (gCons (gName j) gNil))) d [i, j] (two i j d) := by
  obtain ⟨k, hk⟩ := List.mem_iff_getElem?.mp h
  obtain ⟨p, _, rfl⟩ := enumLL_get hk
  exact tg_tup2
theorem nil_dI (l : List Int) : eqD (.lst (dI l)) (.lst []) = decide (l = []) := by
  rw [eqD_nil]
  cases l <;> simp [dI]
theorem dI_last {p : List Int} (h : p ≠ []) : (dI p).getLast? = some (.int (p.getLastD 0)) := by
  unfold dI
  rw [List.getLast?_map, List.getLast?_eq_some_getLast h]
  cases p with
  | nil => exact absurd rfl h
  | cons a l => rfl
theorem sz_one {k : Nat} {a : Int} (h : a.natAbs < 2 ^ k) : Sz k [a] := fun x hx => by rw [List.mem_singleton] at hx; rw [hx]; exact h
theorem last_mem {p : List Int} (h : p ≠ []) : p.getLastD 0 ∈ p := by
  have := List.getLast_mem h
  cases p with
  | nil => exact absurd rfl h
  | cons a l => exact this
theorem ok_leading {P : Program} {w : World} {K : PySem.W.Frag} {mg : Str → Option Value} {base : Heap} {f : Addr} {fd : FuncData} (T : Txt mg) (c_plus : Cal P w K mg base 2 "plus" ["first", "second"] R_plus) (c_times : Cal P w K mg base 1 "times" ["first", "second"] R_times) (c_falling_product : Cal P w K mg base 2 "falling_product" ["order"] R_falling_product) (F : Fun K "leading" "leading" s_leading f fd) : FnOk P w K mg base CX0 3 f fd ["shares", "rise"] (SpR K R_leading) := by
  obtain ⟨f_plus, fd_plus, G_plus, m_plus, k_plus, b_plus⟩ := c_plus.ex
  obtain ⟨f_times, fd_times, G_times, m_times, k_times, b_times⟩ := c_times.ex
  obtain ⟨f_falling_product, fd_falling_product, G_falling_product, m_falling_product, k_falling_product, b_falling_product⟩ := c_falling_product.ex
  refine fn_ok F sc_leading (by decide) (fun ds d h => ?_) (fun cdv A outer s H E hr => ?_)
  · exact len_leading h
  · have hu65 := hu65_of hr
    refine ⟨_, (pss_cons (ps_set (i := 2) sc_leading.nd rfl (Or.inl rfl) (pe_lst pa_nil))
      (pss_cons (ps_for PassesOwn.never rfl (pi_enum (by rfl) T.b_enumerate (pa_cons (pv 0) pa_nil)) (pg_tup rfl (pgs_cons (pg_name (i := 3) sc_leading.nd rfl (Or.inl rfl)) (pgs_cons (pg_name (i := 4) sc_leading.nd rfl (Or.inl rfl)) pgs_nil))) (pss_one (ps_if ((pw_and (pt_cmpR (op_neD hr.units) (pv 4) (pe_lst pa_nil) (nomark _)) (pw_and1 (pt_cmpR op_eq (pe_op op_sub (pe_op op_sub (pe_callB call_len_seq (by rfl) T.b_len PySem.boot_len (pa_cons (pv 4) pa_nil)) pe_int) (pv 3)) (pv 1) (nomark _))))).pt (pss_one (ps_set (i := 2) sc_leading.nd rfl (Or.inl rfl) (pe_call G_plus (hr.mono (by decide)) (by rfl) m_plus k_plus b_plus .nil pass0 (pa_cons (pv 2) (pa_cons (pe_call G_times (hr.mono (by decide)) (by rfl) m_times k_times b_times .nil pass0 (pa_cons (pe_lst (pa_cons (pe_ix ix_list (pv 4) (pe_un un_neg pe_int) (fun _ _ => rfl)) pa_nil)) (pa_cons (pe_call G_falling_product (hr.mono (by decide)) (by rfl) m_falling_product k_falling_product b_falling_product .nil pass0 (pa_cons (pv 3) pa_nil)) pa_nil))) pa_nil))))) pss_nil)))
      (pss_one (ps_ret (pv 2))))), fun ds d hR G0 H0 Q Z k => ?_⟩
    obtain ⟨S, rise, rfl, hl, ho, rfl⟩ := hR
    refine q_asg (n_lst ea_nil (by decide)).ev ?_
    refine q_for (it_enum (ev_var rfl) .lst) (fun i => [.dat (.lst (dLL S)), .dat (.int rise), .dat (.lst (dI (leadN S rise i))), .no, .no]) [3, 4] (two 3 4) (fun d hd => enumLL_tg d hd) (le_refl _) (fun B C sub i d hd => ?_) ?_
    · obtain ⟨p, hp, rfl⟩ := enumLL_get hd
      have hi : i < S.length := (List.getElem?_eq_some_iff.mp hp).1
      have hpo := ho p (List.mem_of_getElem? hp)
      have hn := leadN_len S rise hl i (by omega)
      have hn' := leadN_len S rise hl (i + 1) (by omega)
      rw [leadN_more hp]
      generalize leadN S rise i = t at *
      show Co K B C [.dat (.lst (dLL S)), .dat (.int rise), .dat (.lst (dI t)), .dat (.int (i : Int)), .dat (.lst (dI p))] _
      refine c_if (b := decide (p ≠ [] ∧ (p.length : Int) - 1 - (i : Int) = rise)) (et_is (et_and (et_test (ev_neD (ev_var rfl).r (n_lst ea_nil (by decide)).ev.r (sh_dI p) sh_nil).r) (fun _ => et_test (ev_eqI (ev_opI (ev_opI (ev_len rfl (ev_var rfl).r .lst).r ev_i.r).r (ev_var rfl).r).r (ev_var rfl).r).r)) ?_) (fun q => ?_) (fun q => ?_)
      · rw [nil_dI, dI_len, Bool.decide_and]
        congr 1
        by_cases h : p = [] <;> simp [h]
      · obtain ⟨h1, h2⟩ := of_decide_eq_true q
        have f1 := fall_len i
        have f2 := fall_sz i (by omega)
        have t1 := timesI_len [p.getLastD 0] (fallI i)
        simp only [List.length_cons, List.length_nil] at t1
        have s1 : Sz 100000 [p.getLastD 0] := sz_one (hpo.2 _ (last_mem h1))
        refine c_asg (d := .lst (dI (Sl.plusI t (Sl.timesI [p.getLastD 0] (fallI i))))) (ev_call (ea_cons (ev_var rfl) (ea_cons (ev_call (ea_cons (n_lst (ea_cons (ev_ixLast (ev_var rfl) .lst (ev_neg ev_i.r).r (dI_last h1)) ea_nil) (by show 1 ≤ 1000000; decide)).ev (ea_cons (ev_call (ea_cons (ev_var rfl) ea_nil) ⟨i, rfl, by omega, rfl⟩) ea_nil)) ⟨[p.getLastD 0], fallI i, rfl, by simp, by omega, sz_mono s1 (by decide), sz_mono f2 (by omega), rfl⟩) ea_nil)) ⟨t, Sl.timesI [p.getLastD 0] (fallI i), rfl, by omega, by omega, rfl⟩) ?_
        refine c_at (le_eq rfl (le_eq rfl (le_eq ?_ (le_no (le_no le_nil)))))
        unfold leadStep
        rw [if_pos ⟨h1, h2⟩]
      · have h := of_decide_eq_false q
        refine c_at (le_eq rfl (le_eq rfl (le_eq ?_ (le_no (le_no le_nil)))))
        unfold leadStep
        rw [if_neg h]
    · refine c_ret (ev_is (ev_var rfl) ?_) k
      rw [show ((dLL S).zipIdx.map fun x => pairD (.int (x.2 : Nat)) x.1).length = S.length from enumLL_len S]
      unfold leadN leadI
      rw [List.take_of_length_le (by rw [List.length_zipIdx]; exact Nat.le_refl _)]
end Pg
set_option Elab.async false
set_option linter.all false
set_option maxRecDepth 100000
set_option maxHeartbeats 2000000
namespace Pg
open PySem PyProof.Rows L2 Fw
abbrev s_how_high : Stmt := topS 14
abbrev nm_how_high : List Str := ["kind", "parts", "right", "shares", "rise", "highest", "order", "share"]
theorem sc_how_high : FnScope nm_how_high ["kind", "parts", "right"] (defScope s_how_high) := ⟨rfl, rfl, rfl, by decide +kernel, rfl, by decide +kernel, by decide +kernel⟩
theorem cvI_one (c : Int) (g : Nat → Int) : ∀ n, Sl.cvI [c] g n = c * g n
  | 0 => rfl
  | n + 1 => by show c * g (n + 1) + 0 = _; omega
theorem fall_top : ∀ n, Sl.co (fallI n) n = 1
  | 0 => rfl
  | n + 1 => by
    show Sl.co (Sl.timesI (fallI n) [-(n : Int), 1]) (n + 1) = 1
    rw [Sl.timesI_co, cvI_two]
    show Sl.co (fallI n) (n + 1) * -(n : Int) + Sl.co (fallI n) n = 1
    rw [fall_top n, Sl.co_ge (fall_len n)]
    omega
theorem tr_last {p : List Int} (h : Sl.TrI p) (h0 : p ≠ []) : p.getLastD 0 ≠ 0 := by
  unfold Sl.TrI at h
  cases p with
  | nil => exact absurd rfl h0
  | cons a l => intro z; exact h (by rw [List.getLast?_eq_some_getLast h0]; exact congrArg some z)
theorem co_ne {l : List Int} {n : Nat} (h : Sl.co l n ≠ 0) : n < l.length := by
  apply Classical.byContradiction
  intro q
  exact h (Sl.co_ge (by omega))
theorem lead_co (t : List Int) (c : Int) (i n : Nat) : Sl.co (Sl.plusI t (Sl.timesI [c] (fallI i))) n = Sl.co t n + c * Sl.co (fallI i) n := by
  rw [Sl.plusI_co, Sl.timesI_co, cvI_one]
theorem len_of_co {l : List Int} {n : Nat} (ht : Sl.TrI l) (h : ∀ m, n ≤ m → Sl.co l m = 0) : l.length ≤ n := by
  apply Classical.byContradiction
  intro q
  have h0 : l ≠ [] := by intro z; subst z; simp at q
  refine tr_last ht h0 ?_
  have e := h (l.length - 1) (by omega)
  unfold Sl.co at e
  rw [List.getD_eq_getElem?_getD, ← List.getLast?_eq_getElem?, List.getLast?_eq_some_getLast h0] at e
  cases l with
  | nil => exact absurd rfl h0
  | cons a l => exact e
structure Good (k i : Nat) (t : List Int) : Prop where
  tr : Sl.TrI t
  len : t.length ≤ i
  sz : ∀ n, (Sl.co t n).natAbs ≤ i * 2 ^ (k + 16)
theorem good_step {k i : Nat} {t : List Int} {c : Int} (h : Good k i t) (hi : i ≤ 3) (hc : c.natAbs < 2 ^ k) : Good k (i + 1) (Sl.plusI t (Sl.timesI [c] (fallI i))) := by
  refine ⟨Sl.plusI_tr _ _, len_of_co (Sl.plusI_tr _ _) fun m hm => ?_, fun n => ?_⟩
  · rw [lead_co, Sl.co_ge (by have := h.len; omega), Sl.co_ge (by have := fall_len i; omega)]; omega
  · rw [lead_co]
    have h1 := h.sz n
    have h2 : (Sl.co (fallI i) n).natAbs < 2 ^ 16 := Nat.lt_of_lt_of_le (sz_co (fall_sz i (by omega)) n) (Nat.pow_le_pow_right (by decide) (by omega))
    have h3 : (c * Sl.co (fallI i) n).natAbs ≤ 2 ^ (k + 16) := by
      rw [Int.natAbs_mul, Nat.pow_add]
      exact Nat.mul_le_mul (Nat.le_of_lt hc) (Nat.le_of_lt h2)
    rw [Nat.add_mul, Nat.one_mul]
    omega
theorem good_mono {k i : Nat} {t : List Int} (h : Good k i t) : Good k (i + 1) t := ⟨h.tr, by have := h.len; omega, fun n => by have := h.sz n; rw [Nat.add_mul]; omega⟩
theorem leadN_good {k : Nat} {S : List (List Int)} (rise : Int) (hS : S.length ≤ 4) (ho : ∀ p ∈ S, Okl k p) : ∀ i, i ≤ S.length → Good k i (leadN S rise i)
  | 0, _ => by
    refine ⟨?_, Nat.le_refl _, fun n => ?_⟩
    · show Sl.TrI []; unfold Sl.TrI; simp
    · show (Sl.co [] n).natAbs ≤ _; rw [Sl.co_ge (Nat.zero_le _)]; exact Nat.zero_le _
  | i + 1, h => by
    have ih := leadN_good rise hS ho i (by omega)
    rw [leadN_more (p := S[i]'(by omega)) (List.getElem?_eq_getElem (by omega))]
    unfold leadStep
    split
    · rename_i q
      exact good_step ih (by omega) ((ho _ (List.getElem_mem (by omega))).2 _ (last_mem q.1))
    · exact good_mono ih
theorem leadN_ne {k : Nat} {S : List (List Int)} {rise : Int} (hS : S.length ≤ 4) (ho : ∀ p ∈ S, Okl k p) (ht : ∀ p ∈ S, Sl.TrI p) {j : Nat} {p : List Int} (hp : S[j]? = some p) (h0 : p ≠ []) (hr : (p.length : Int) - 1 - (j : Int) = rise) : ∀ i, j < i → i ≤ S.length → leadN S rise i ≠ []
  | 0, h, _ => by omega
  | i + 1, h, hi => by
    have g := leadN_good rise hS ho i (by omega)
    have hm : S[i]'(by omega) ∈ S := List.getElem_mem (by omega)
    rw [leadN_more (p := S[i]'(by omega)) (List.getElem?_eq_getElem (by omega))]
    unfold leadStep
    split
    · rename_i q
      intro z
      have e := lead_co (leadN S rise i) ((S[i]'(by omega)).getLastD 0) i i
      have g' := Sl.co_ge g.len
      rw [show Sl.plusI (leadN S rise i) (Sl.timesI [(S[i]'(by omega)).getLastD 0] (fallI i)) = [] from z, g', fall_top, show Sl.co [] i = 0 from rfl] at e
      have := tr_last (ht _ hm) q.1
      apply this
      omega
    · rename_i q
      by_cases hj : j = i
      · subst hj
        rw [List.getElem?_eq_getElem (by omega)] at hp
        have := Option.some.inj hp
        rw [this] at q
        exact absurd ⟨h0, hr⟩ q
      · exact leadN_ne hS ho ht hp h0 hr i (by omega) (by omega)
theorem leadN_all (S : List (List Int)) (rise : Int) : leadN S rise S.length = leadI S rise := by
  unfold leadN leadI
  rw [List.take_of_length_le (by rw [List.length_zipIdx]; exact Nat.le_refl _)]
def maxL : List Int → Int
  | [] => 0
  | a :: l => l.foldl max a
theorem maxf (l : List Int) : ∀ a : Int, a ≤ l.foldl max a ∧ (∀ x ∈ l, x ≤ l.foldl max a) ∧ (l.foldl max a = a ∨ l.foldl max a ∈ l) := by
  induction l with
  | nil => intro a; exact ⟨Int.le_refl _, (fun x h => by cases h), .inl rfl⟩
  | cons b l ih =>
    intro a
    obtain ⟨h1, h2, h3⟩ := ih (max a b)
    show a ≤ l.foldl max (max a b) ∧ (∀ x ∈ b :: l, x ≤ l.foldl max (max a b)) ∧ (l.foldl max (max a b) = a ∨ l.foldl max (max a b) ∈ b :: l)
    refine ⟨by omega, fun x hx => ?_, ?_⟩
    · rcases List.mem_cons.mp hx with rfl | hx
      · omega
      · exact h2 x hx
    · rcases h3 with h3 | h3
      · rw [h3]
        by_cases q : a ≤ b
        · exact .inr (by rw [Int.max_eq_right q]; exact List.mem_cons_self ..)
        · exact .inl (by rw [Int.max_eq_left (by omega)])
      · exact .inr (List.mem_cons_of_mem _ h3)
theorem maxL_mem {l : List Int} (h : l ≠ []) : maxL l ∈ l := by
  cases l with
  | nil => exact absurd rfl h
  | cons a l =>
    rcases (maxf l a).2.2 with e | e
    · show l.foldl max a ∈ _; rw [e]; exact List.mem_cons_self ..
    · exact List.mem_cons_of_mem _ e
theorem maxL_ge {l : List Int} {x : Int} (h : x ∈ l) : x ≤ maxL l := by
  cases l with
  | nil => cases h
  | cons a l =>
    rcases List.mem_cons.mp h with rfl | h
    · exact (maxf l x).1
    · exact (maxf l a).2.1 x h
def risesI (S : List (List Int)) : List Int := (S.zipIdx.filter fun x => decide (x.1 ≠ [])).map fun x => (x.1.length : Int) - 1 - (x.2 : Int)
def riseI (S : List (List Int)) : Int := maxL (risesI S)
theorem rises_mem {S : List (List Int)} {r : Int} : r ∈ risesI S ↔ ∃ (j : Nat) (p : List Int), S[j]? = some p ∧ p ≠ [] ∧ (p.length : Int) - 1 - (j : Int) = r := by
  unfold risesI
  constructor
  · intro h
    obtain ⟨x, hx, rfl⟩ := List.mem_map.mp h
    obtain ⟨h1, h2⟩ := List.mem_filter.mp hx
    exact ⟨x.2, x.1, List.mem_zipIdx_iff_getElem?.mp h1, of_decide_eq_true h2, rfl⟩
  · rintro ⟨j, p, h1, h2, rfl⟩
    exact List.mem_map.mpr ⟨(p, j), List.mem_filter.mpr ⟨List.mem_zipIdx_iff_getElem?.mpr h1, decide_eq_true h2⟩, rfl⟩
theorem rises_ne {S : List (List Int)} (h : ∃ p ∈ S, p ≠ []) : risesI S ≠ [] := by
  obtain ⟨p, hp, h0⟩ := h
  obtain ⟨j, hj⟩ := List.mem_iff_getElem?.mp hp
  intro z
  have := rises_mem.mpr ⟨j, p, hj, h0, rfl⟩
  rw [z] at this
  cases this
theorem lead_facts {k : Nat} {S : List (List Int)} (hS : S.length ≤ 4) (ho : ∀ p ∈ S, Okl k p) (ht : ∀ p ∈ S, Sl.TrI p) (h : ∃ p ∈ S, p ≠ []) : leadI S (riseI S) ≠ [] ∧ Sl.TrI (leadI S (riseI S)) ∧ (leadI S (riseI S)).length ≤ 4 ∧ Sz (k + 19) (leadI S (riseI S)) := by
  obtain ⟨j, p, h1, h2, h3⟩ := rises_mem.mp (maxL_mem (rises_ne h))
  have hj := (List.getElem?_eq_some_iff.mp h1).1
  have g := leadN_good (riseI S) hS ho S.length (Nat.le_refl _)
  have n := leadN_ne hS ho ht h1 h2 h3 S.length hj (Nat.le_refl _)
  rw [show maxL (risesI S) = riseI S from rfl] at n
  rw [leadN_all] at g n
  refine ⟨n, g.tr, by have := g.len; omega, sz_of_co fun m => ?_⟩
  have h5 := g.sz m
  have h6 : 0 < 2 ^ (k + 16) := Nat.two_pow_pos _
  have h7 : 2 ^ (k + 19) = 2 ^ (k + 16) * 8 := by rw [show k + 19 = (k + 16) + 3 by omega, Nat.pow_add]
  rw [h7]
  generalize 2 ^ (k + 16) = z at *
  have h8 : S.length * z ≤ 4 * z := Nat.mul_le_mul_right _ hS
  omega
theorem zipP_get (S : List (List Int)) (j : Nat) (hj : j ≤ S.length) : (zipP S)[j]? = some (Sl.plusI (S.getD j []) (match j with | 0 => [] | i + 1 => S.getD i [])) := by
  unfold zipP
  rw [List.getElem?_map, List.getElem?_zip_eq_some (z := (S.getD j [], match j with | 0 => [] | i + 1 => S.getD i [])) |>.mpr ⟨?_, ?_⟩]
  · rfl
  · by_cases h : j < S.length
    · rw [List.getElem?_append_left h, List.getD_eq_getElem?_getD, List.getElem?_eq_getElem h]; rfl
    · have : j = S.length := by omega
      subst this
      rw [List.getElem?_append_right (Nat.le_refl _), List.getD_eq_getElem?_getD, List.getElem?_eq_none (Nat.le_refl _)]
      simp
  · cases j with
    | zero => rfl
    | succ i =>
      show S[i]? = some (S.getD i [])
      rw [List.getD_eq_getElem?_getD, List.getElem?_eq_getElem (by omega)]; rfl
theorem byStep_get (p : List Int) (S : List (List Int)) (j : Nat) (hj : j < S.length) : (byStep p S)[j + 1]? = some (Sl.plusI (S.getD (j + 1) []) (S.getD j [])) := by
  unfold byStep
  rw [List.getElem?_set_ne (by omega), zipP_get S (j + 1) (by omega)]
theorem byStep_zero (p : List Int) (S : List (List Int)) : (byStep p S)[0]? = some (Sl.plusI (Sl.plusI (S.getD 0 []) []) p) := by
  unfold byStep
  have h := zipP_get S 0 (Nat.zero_le _)
  rw [List.getElem?_set_self (by rw [zipP_len]; omega), List.getD_eq_getElem?_getD, h]
  rfl
theorem tr_nil {l : List Int} (ht : Sl.TrI l) (h : ∀ n, Sl.co l n = 0) : l = [] := List.eq_nil_of_length_eq_zero (Nat.le_zero.mp (len_of_co (n := 0) ht fun m _ => h m))
theorem byStep_nil {p : List Int} {S : List (List Int)} (hp : Sl.TrI p) (hS : ∀ l ∈ S, Sl.TrI l) (h : ∀ l ∈ byStep p S, l = []) : p = [] ∧ ∀ l ∈ S, l = [] := by
  have key : ∀ d j, j + d = S.length → ∀ n, Sl.co (S.getD j []) n = 0 := by
    intro d
    induction d with
    | zero =>
      intro j hj n
      rw [List.getD_eq_getElem?_getD, List.getElem?_eq_none (by omega)]
      rfl
    | succ d ih =>
      intro j hj n
      have h1 := ih (j + 1) (by omega) n
      have h2 := h _ (List.mem_of_getElem? (byStep_get p S j (by omega)))
      have h3 := Sl.plusI_co (S.getD (j + 1) []) (S.getD j []) n
      rw [h2, h1, show Sl.co [] n = 0 from rfl] at h3
      omega
  constructor
  · have h2 := h _ (List.mem_of_getElem? (byStep_zero p S))
    refine tr_nil hp fun n => ?_
    have h3 := Sl.plusI_co (Sl.plusI (S.getD 0 []) []) p n
    rw [h2, Sl.plusI_co, key S.length 0 (by omega) n, show Sl.co [] n = 0 from rfl] at h3
    omega
  · intro l hl
    obtain ⟨j, hj⟩ := List.mem_iff_getElem?.mp hl
    have hj' := (List.getElem?_eq_some_iff.mp hj).1
    refine tr_nil (hS l hl) fun n => ?_
    have := key (S.length - j) j (by omega) n
    rw [List.getD_eq_getElem?_getD, hj] at this
    exact this
theorem byStep_tr (p : List Int) (S : List (List Int)) : ∀ l ∈ byStep p S, Sl.TrI l := fun l hl => by
  unfold byStep at hl
  rcases List.mem_or_eq_of_mem_set hl with q | q
  · unfold zipP at q
    obtain ⟨x, _, rfl⟩ := List.mem_map.mp q
    exact Sl.plusI_tr _ _
  · rw [q]; exact Sl.plusI_tr _ _
theorem byD_tr : ∀ ps : List (List Int), ∀ l ∈ byD ps, Sl.TrI l
  | [], l, h => by cases h
  | p :: ps, l, h => byStep_tr p (byD ps) l h
theorem byD_nil : ∀ ps : List (List Int), (∀ p ∈ ps, Sl.TrI p) → (∀ l ∈ byD ps, l = []) → ∀ p ∈ ps, p = []
  | [], _, _, p, h => by cases h
  | q :: ps, ht, h, p, hp => by
    obtain ⟨h1, h2⟩ := byStep_nil (ht q (List.mem_cons_self ..)) (byD_tr ps) h
    rcases List.mem_cons.mp hp with e | hp
    · rw [e]; exact h1
    · exact byD_nil ps (fun x hx => ht x (List.mem_cons_of_mem _ hx)) h2 p hp
theorem byD_ne {ps : List (List Int)} (ht : ∀ p ∈ ps, Sl.TrI p) (h : ∃ p ∈ ps, p ≠ []) : ∃ p ∈ byD ps, p ≠ [] := by
  obtain ⟨p, hp, h0⟩ := h
  apply Classical.byContradiction
  intro q
  refine h0 (byD_nil ps ht (fun l hl => ?_) p hp)
  apply Classical.byContradiction
  exact fun z => q ⟨l, hl, z⟩
def sharesI (kind : Nat) (ps : List (List Int)) : List (List Int) := if kind = 0 then ps else byD ps
def highI (kind : Nat) (ps : List (List Int)) (f : List Int) : Int :=
  if f = [] then Ht.gRoot (leadI (sharesI kind ps) (riseI (sharesI kind ps))) else max (Ht.gRoot (leadI (sharesI kind ps) (riseI (sharesI kind ps)))) ((f.length : Int) - 1 - riseI (sharesI kind ps))
def R_how_high : List D → D → Prop := fun ds d => ∃ (kind : Nat) (ps : List (List Int)) (f : List Int), ds = [.int (kind : Int), .lst (dLL ps), .lst (dI f)] ∧ ps.length ≤ 4 ∧ (∀ p ∈ ps, Okl 7900 p) ∧ (∀ p ∈ ps, Sl.TrI p) ∧ (∃ p ∈ ps, p ≠ []) ∧ d = .int (highI kind ps f)
theorem len_how_high {ds : List D} {d : D} (h : R_how_high ds d) : ds.length = 3 := by obtain ⟨a, b, c, rfl, _⟩ := h; rfl
theorem shares_ok {kind : Nat} {ps : List (List Int)} (hl : ps.length ≤ 4) (ho : ∀ p ∈ ps, Okl 7900 p) (ht : ∀ p ∈ ps, Sl.TrI p) (h : ∃ p ∈ ps, p ≠ []) : (sharesI kind ps).length ≤ 4 ∧ (∀ p ∈ sharesI kind ps, Okl 7950 p) ∧ (∀ p ∈ sharesI kind ps, Sl.TrI p) ∧ ∃ p ∈ sharesI kind ps, p ≠ [] := by
  unfold sharesI
  by_cases q : kind = 0
  · rw [if_pos q]
    exact ⟨hl, fun p hp => okl_mono (ho p hp) (by decide), ht, h⟩
  · rw [if_neg q]
    exact ⟨by rw [byD_len]; exact hl, fun p hp => okl_mono (byD_ok ps ho p hp) (by omega), byD_tr ps, byD_ne ht h⟩
def someD : D → Bool
  | .tup [_, .lst []] => false
  | _ => true
def riseD : D → D
  | .tup [.int i, .lst l] => .int ((l.length : Int) - 1 - i)
  | d => d
theorem picked_rises (S : List (List Int)) : picked someD riseD (enumLL S) = dI (risesI S) := by
  unfold enumLL dLL risesI picked dI
  rw [List.zipIdx_map, List.map_map, List.filter_map, List.map_map, List.map_map]
  have e : (S.zipIdx.filter (someD ∘ ((fun x : D × Nat => pairD (.int (x.2 : Nat)) x.1) ∘ Prod.map (fun p => D.lst (List.map D.int p)) id))) = S.zipIdx.filter fun x => decide (x.1 ≠ []) := by
    refine List.filter_congr fun x _ => ?_
    obtain ⟨a, b⟩ := x
    cases a with
    | nil => rfl
    | cons c l => simp; rfl
  rw [e]
  refine List.map_congr_left fun x _ => ?_
  show D.int (((List.map D.int x.1).length : Int) - 1 - (x.2 : Int)) = D.int _
  rw [List.length_map]
theorem ok_how_high {P : Program} {w : World} {K : PySem.W.Frag} {mg : Str → Option Value} {base : Heap} {f : Addr} {fd : FuncData} (T : Txt mg) (c_by_differences : Cal P w K mg base 3 "by_differences" ["parts"] R_by_differences) (c_greatest_whole_root : Cal P w K mg base 11 "greatest_whole_root" ["polynomial"] R_greatest_whole_root) (c_leading : Cal P w K mg base 3 "leading" ["shares", "rise"] R_leading) (F : Fun K "how_high" "how_high" s_how_high f fd) : FnOk P w K mg base CX0 12 f fd ["kind", "parts", "right"] (SpR K R_how_high) := by
  obtain ⟨f_by_differences, fd_by_differences, G_by_differences, m_by_differences, k_by_differences, b_by_differences⟩ := c_by_differences.ex
  obtain ⟨f_greatest_whole_root, fd_greatest_whole_root, G_greatest_whole_root, m_greatest_whole_root, k_greatest_whole_root, b_greatest_whole_root⟩ := c_greatest_whole_root.ex
  obtain ⟨f_leading, fd_leading, G_leading, m_leading, k_leading, b_leading⟩ := c_leading.ex
  refine fn_ok F sc_how_high (by decide) (fun ds d h => ?_) (fun cdv A outer s H E hr => ?_)
  · exact len_how_high h
  · have hu65 := hu65_of hr
    refine ⟨_, (pss_cons (ps_set (i := 3) sc_how_high.nd rfl (Or.inl rfl) (pe_ifExp (pt_cmpR op_eq (pv 0) pe_int (nomark _)) (pv 1) (pe_call G_by_differences (hr.mono (by decide)) (by rfl) m_by_differences k_by_differences b_by_differences .nil pass0 (pa_cons (pv 1) pa_nil))))
      (pss_cons (ps_set (i := 4) sc_how_high.nd rfl (Or.inl rfl) (pe_callB (cr_max rfl) (by rfl) T.b_max (by decide +kernel) (pa_cons (pe_lc (own := [("order", 6), ("share", 7)]) rfl sc_how_high.nd (pi_enum (by rfl) T.b_enumerate (pa_cons (pv 3) pa_nil)) (blkOk_by (own := [("order", 6), ("share", 7)]) (N := nm_how_high) (sc := defScope s_how_high) (by decide +kernel)) (fun _ _ _ _ _ => by exact (by refine pg_tupK K 2 (t := gCons (gName 6) (gCons (gName 7) (gNil))) rfl ?_; exact (pgs_cons (pg_name (i := 6) sc_how_high.nd rfl (Or.inl rfl)) (pgs_cons (pg_name (i := 7) sc_how_high.nd rfl (Or.inl rfl)) pgs_nil)))) (fun _ _ _ _ _ => by exact (pts_one (pt_cmpR (op_neDK K hr.units) (pv 7) (pe_lst pa_nil) (nomark _)))) (fun _ _ _ _ _ => by exact (pe_op op_sub (pe_op op_sub (pe_callB (call_len_seqK K) (by rfl) T.b_len PySem.boot_len (pa_cons (pv 7) pa_nil)) pe_int) (pv 6)))) pa_nil)))
      (pss_cons (ps_set (i := 5) sc_how_high.nd rfl (Or.inl rfl) (pe_call G_greatest_whole_root (hr.mono (by decide)) (by rfl) m_greatest_whole_root k_greatest_whole_root b_greatest_whole_root .nil pass0 (pa_cons (pe_call G_leading (hr.mono (by decide)) (by rfl) m_leading k_leading b_leading .nil pass0 (pa_cons (pv 3) (pa_cons (pv 4) pa_nil))) pa_nil)))
      (pss_cons (ps_if (pt_cmpR (op_eqD hr.units) (pv 2) (pe_lst pa_nil) (nomark _)) (pss_one (ps_ret (pv 5))) pss_nil)
      (pss_one (ps_ret (pe_callB (call_max2 rfl) (by rfl) T.b_max (by decide +kernel) (pa_cons (pv 5) (pa_cons (pe_op op_sub (pe_op op_sub (pe_callB call_len_seq (by rfl) T.b_len PySem.boot_len (pa_cons (pv 2) pa_nil)) pe_int) (pv 4)) pa_nil))))))))), fun ds d hR G0 H0 Q Z k => ?_⟩
    obtain ⟨kind, ps, r, rfl, hl, ho, ht, h0, rfl⟩ := hR
    obtain ⟨h1, h2, h3, h4⟩ := shares_ok (kind := kind) hl ho ht h0
    obtain ⟨l1, l2, l3, l4⟩ := lead_facts h1 h2 h3 h4
    have hhi : highI kind ps r = if r = [] then Ht.gRoot (leadI (sharesI kind ps) (riseI (sharesI kind ps))) else max (Ht.gRoot (leadI (sharesI kind ps) (riseI (sharesI kind ps)))) ((r.length : Int) - 1 - riseI (sharesI kind ps)) := rfl
    refine q_asg (d := .lst (dLL (sharesI kind ps))) (ev_if (et_test (ev_eqI (ev_var rfl).r ev_i.r).r) (fun q => ?_) (fun q => ?_)) ?_
    · have hk : kind = 0 := by have := of_decide_eq_true q; omega
      unfold sharesI
      rw [if_pos hk]
      exact ev_var rfl
    · have hk : ¬ kind = 0 := by have := of_decide_eq_false q; omega
      unfold sharesI
      rw [if_neg hk]
      exact ev_call (ea_cons (ev_var rfl) ea_nil) ⟨ps, rfl, by omega, fun p hp => okl_mono (ho p hp) (by decide), rfl⟩
    · rw [hhi] at k
      generalize sharesI kind ps = S at *
      refine q_asg (d := .int (riseI S)) (ev_max (ns := risesI S) (m := riseI S) (ev_is (n_lc (it_enum (ev_var rfl) .lst) _ [6, 7] (two 6 7) (fun d hd => enumLL_tg d hd) (by decide) someD riseD (by rw [show ((dLL S).zipIdx.map fun x => pairD (.int (x.2 : Nat)) x.1).length = S.length from enumLL_len S]; omega) (fun d hd => ?_) (fun d hd hq => ?_)).ev ?_).r (maxL_mem (rises_ne h4)) (fun y hy => maxL_ge hy)) ?_
      · obtain ⟨j, hj⟩ := List.mem_iff_getElem?.mp hd
        obtain ⟨p, hp, rfl⟩ := enumLL_get hj
        refine et_is (et_test (ev_neD (ev_var rfl).r (n_lst ea_nil (by decide)).ev.r (sh_dI p) sh_nil).r) ?_
        rw [nil_dI]
        cases p with
        | nil => rfl
        | cons c l => simp; rfl
      · obtain ⟨j, hj⟩ := List.mem_iff_getElem?.mp hd
        obtain ⟨p, hp, rfl⟩ := enumLL_get hj
        exact ev_opI (ev_opI (ev_len rfl (ev_var rfl).r .lst).r ev_i.r).r (ev_var rfl).r
      · exact congrArg D.lst (picked_rises S)
      · refine q_asg (d := .int (Ht.gRoot (leadI S (riseI S)))) (ev_call (ea_cons (ev_call (ea_cons (ev_var rfl) (ea_cons (ev_var rfl) ea_nil)) ⟨S, riseI S, rfl, by omega, fun p hp => okl_mono (h2 p hp) (by decide), rfl⟩) ea_nil) ⟨_, rfl, l1, l3, sz_mono l4 (by decide), rfl⟩) ?_
        refine q_when (et_test (ev_eqD (ev_var rfl).r (n_lst ea_nil (by decide)).ev.r (sh_dI r) sh_nil).r) (fun q => ?_) (fun q => ?_)
        · have hr0 : r = [] := of_decide_eq_true ((nil_dI r).symm.trans q)
          refine c_ret (ev_is (ev_var rfl) ?_) k
          rw [if_pos hr0]
        · have hr0 : ¬ r = [] := of_decide_eq_false ((nil_dI r).symm.trans q)
          refine c_ret (ev_is (ev_max2 rfl (ev_var rfl).r (ev_opI (ev_opI (ev_len rfl (ev_var rfl).r .lst).r ev_i.r).r (ev_var rfl).r).r) ?_) k
          rw [if_neg hr0, dI_len]
end Pg
set_option Elab.async false
set_option linter.all false
set_option maxRecDepth 100000
set_option maxHeartbeats 2000000
namespace Pg
open PySem PyProof.Rows L2 Fw
abbrev s_all_zero : Stmt := topS 70
abbrev nm_all_zero : List Str := ["parts", "part"]
theorem sc_all_zero : FnScope nm_all_zero ["parts"] (defScope s_all_zero) := ⟨rfl, rfl, rfl, by decide +kernel, rfl, by decide +kernel, by decide +kernel⟩
def zeroD : D → D
  | .lst [] => .bl true
  | _ => .bl false
theorem zeroD_dI (p : List Int) : zeroD (.lst (dI p)) = .bl (decide (p = [])) := by
  cases p with
  | nil => rfl
  | cons c l => simp [dI, zeroD]
def R_all_zero : List D → D → Prop := fun ds d => ∃ ps : List (List Int), ds = [.lst (dLL ps)] ∧ ps.length ≤ 1000 ∧ d = .bl (ps.all fun p => decide (p = []))
theorem len_all_zero {ds : List D} {d : D} (h : R_all_zero ds d) : ds.length = 1 := by obtain ⟨a, rfl, _⟩ := h; rfl
theorem ok_all_zero {P : Program} {w : World} {K : PySem.W.Frag} {mg : Str → Option Value} {base : Heap} {f : Addr} {fd : FuncData} (T : Txt mg) (F : Fun K "all_zero" "all_zero" s_all_zero f fd) : FnOk P w K mg base CX0 1 f fd ["parts"] (SpR K R_all_zero) := by
  refine fn_ok F sc_all_zero (by decide) (fun ds d h => ?_) (fun cdv A outer s H E hr => ?_)
  · exact len_all_zero h
  · have hu65 := hu65_of hr
    refine ⟨_, (pss_one (ps_ret (pe_callB (cr_all rfl) (by rfl) T.b_all (by decide +kernel) (pa_cons (pe_lc (own := [("part", 1)]) rfl sc_all_zero.nd (pi_list (pv 0)) (blkOk_by (own := [("part", 1)]) (N := nm_all_zero) (sc := defScope s_all_zero) (by decide +kernel)) (fun _ _ _ _ _ => by exact (pg_name (i := 1) sc_all_zero.nd rfl (Or.inl rfl))) (fun _ _ _ _ _ => by exact pts_nil) (fun _ _ _ _ _ => by exact (pe_cmpR (op_eqDK K hr.units) (pv 1) (pe_lst pa_nil) (nomark _)))) pa_nil)))), fun ds d hR G0 H0 Q Z k => ?_⟩
    obtain ⟨ps, rfl, hl, rfl⟩ := hR
    refine c_ret (ev_is (ev_all (bs := ps.map fun p => decide (p = [])) (ev_is (n_lc (it_list (ev_var rfl) .lst) _ [1] (fun d as => as.set 1 (.dat d)) (fun d hd => tg_name) (by decide) (fun _ => true) zeroD (by rw [dLL_len]; omega) (fun d hd => et_yes) (fun d hd _ => ?_)).ev ?_).r) ?_) k
    · obtain ⟨p, hp, rfl⟩ := List.mem_map.mp hd
      rw [zeroD_dI]
      exact ev_is (ev_eqD (ev_var rfl).r (n_lst ea_nil (by decide)).ev.r (sh_dI p) sh_nil) (congrArg D.bl (nil_dI p))
    · rw [picked_all (fun _ _ => rfl)]
      unfold dLL dB
      rw [List.map_map, List.map_map]
      exact congrArg D.lst (List.map_congr_left fun p _ => zeroD_dI p)
    · rw [List.all_map]
      rfl
abbrev s_row_at : Stmt := topS 72
abbrev nm_row_at : List Str := ["columns", "power", "column"]
theorem sc_row_at : FnScope nm_row_at ["columns", "power"] (defScope s_row_at) := ⟨rfl, rfl, rfl, by decide +kernel, rfl, by decide +kernel, by decide +kernel⟩
def atI (i : Nat) : D → D
  | .lst l => .int (Sl.co (l.map toI) i)
  | d => d
theorem atI_dI (i : Nat) (l : List Int) : atI i (.lst (dI l)) = .int (Sl.co l i) := by
  show D.int (Sl.co ((dI l).map toI) i) = _
  rw [toI_dI]
def R_row_at : List D → D → Prop := fun ds d => ∃ (cs : List (List Int)) (i : Nat), ds = [.lst (dLL cs), .int (i : Int)] ∧ cs.length ≤ 1000 ∧ d = .lst (dI (cs.map fun c => Sl.co c i))
theorem len_row_at {ds : List D} {d : D} (h : R_row_at ds d) : ds.length = 2 := by obtain ⟨a, b, rfl, _⟩ := h; rfl
theorem ok_row_at {P : Program} {w : World} {K : PySem.W.Frag} {mg : Str → Option Value} {base : Heap} {f : Addr} {fd : FuncData} (T : Txt mg) (c_number_at : Cal P w K mg base 1 "number_at" ["polynomial", "power"] R_number_at) (F : Fun K "row_at" "row_at" s_row_at f fd) : FnOk P w K mg base CX0 2 f fd ["columns", "power"] (SpR K R_row_at) := by
  obtain ⟨f_number_at, fd_number_at, G_number_at, m_number_at, k_number_at, b_number_at⟩ := c_number_at.ex
  refine fn_ok F sc_row_at (by decide) (fun ds d h => ?_) (fun cdv A outer s H E hr => ?_)
  · exact len_row_at h
  · have hu65 := hu65_of hr
    refine ⟨_, (pss_one (ps_ret (pe_lc (own := [("column", 2)]) rfl sc_row_at.nd (pi_list (pv 0)) (blkOk_by (own := [("column", 2)]) (N := nm_row_at) (sc := defScope s_row_at) (by decide +kernel)) (fun _ _ _ _ _ => by exact (pg_name (i := 2) sc_row_at.nd rfl (Or.inl rfl))) (fun _ _ _ _ _ => by exact pts_nil) (fun _ _ _ _ _ => by exact (pe_call G_number_at (hr.mono (by decide)) (by rfl) m_number_at k_number_at b_number_at .nil pass0 (pa_cons (pv 2) (pa_cons (pv 1) pa_nil))))))), fun ds d hR G0 H0 Q Z k => ?_⟩
    obtain ⟨cs, i, rfl, hl, rfl⟩ := hR
    refine c_ret (ev_is (n_lc (it_list (ev_var rfl) .lst) _ [2] (fun d as => as.set 2 (.dat d)) (fun d hd => tg_name) (by decide) (fun _ => true) (atI i) (by rw [dLL_len]; omega) (fun d hd => et_yes) (fun d hd _ => ?_)).ev ?_) k
    · obtain ⟨c, hc, rfl⟩ := List.mem_map.mp hd
      rw [atI_dI]
      exact ev_call (ea_cons (ev_var rfl) (ea_cons (ev_var rfl) ea_nil)) ⟨c, i, rfl, rfl⟩
    · rw [picked_all (fun _ _ => rfl)]
      unfold dLL dI
      rw [List.map_map, List.map_map]
      exact congrArg D.lst (List.map_congr_left fun c _ => atI_dI i c)
end Pg
set_option Elab.async false
set_option linter.all false
set_option maxRecDepth 100000
set_option maxHeartbeats 2000000
namespace Pg
open PySem PyProof.Rows L2 Fw
abbrev s_find_pivot : Stmt := topS 24
abbrev nm_find_pivot : List Str := ["rows", "rank", "column", "place"]
theorem sc_find_pivot : FnScope nm_find_pivot ["rows", "rank", "column"] (defScope s_find_pivot) := ⟨rfl, rfl, rfl, by decide +kernel, rfl, by decide +kernel, by decide +kernel⟩
def findP (rows : List (List Int)) (rank col : Nat) : Nat := rank + (rows.drop rank).findIdx fun r => decide (Sl.co r col ≠ 0)
theorem findP_more {rows : List (List Int)} {e col : Nat} {r : List Int} (h : rows[e]? = some r) : findP rows e col = if Sl.co r col = 0 then findP rows (e + 1) col else e := by
  unfold findP
  obtain ⟨he, rfl⟩ := List.getElem?_eq_some_iff.mp h
  rw [List.drop_eq_getElem_cons he, List.findIdx_cons]
  by_cases q : Sl.co rows[e] col = 0
  · rw [if_pos q, decide_eq_false (by simpa using q)]
    show e + ((rows.drop (e + 1)).findIdx _ + 1) = _
    omega
  · rw [if_neg q, decide_eq_true q]
    rfl
theorem findP_end (rows : List (List Int)) (col : Nat) : findP rows rows.length col = rows.length := by
  unfold findP
  rw [List.drop_length]
  rfl
def R_find_pivot : List D → D → Prop := fun ds d => ∃ (rows : List (List Int)) (rank col : Nat), ds = [.lst (dLL rows), .int (rank : Int), .int (col : Int)] ∧ rank ≤ rows.length ∧ (∀ r ∈ rows, col < r.length) ∧ d = .int (findP rows rank col : Nat)
theorem len_find_pivot {ds : List D} {d : D} (h : R_find_pivot ds d) : ds.length = 3 := by obtain ⟨a, b, c, rfl, _⟩ := h; rfl
theorem dLL_at {l : List (List Int)} {i : Nat} {p : List Int} (h : l[i]? = some p) : (dLL l)[i]? = some (.lst (dI p)) := by
  unfold dLL; rw [List.getElem?_map, h]; rfl
theorem ok_find_pivot {P : Program} {w : World} {K : PySem.W.Frag} {mg : Str → Option Value} {base : Heap} {f : Addr} {fd : FuncData} (T : Txt mg) (F : Fun K "find_pivot" "find_pivot" s_find_pivot f fd) : FnOk P w K mg base CX0 1 f fd ["rows", "rank", "column"] (SpR K R_find_pivot) := by
  refine fn_ok F sc_find_pivot (by decide) (fun ds d h => ?_) (fun cdv A outer s H E hr => ?_)
  · exact len_find_pivot h
  · have hu65 := hu65_of hr
    refine ⟨_, (pss_cons (ps_set (i := 3) sc_find_pivot.nd rfl (Or.inl rfl) (pv 1))
      (pss_cons (ps_while PassesOwn.never ((pw_and (pt_cmpR op_lt (pv 3) (pe_callB call_len_seq (by rfl) T.b_len PySem.boot_len (pa_cons (pv 0) pa_nil)) (nomark _)) (pw_and1 (pt_cmpR op_eq (pe_ix ix_list (pe_ix ix_list (pv 0) (pv 3) (fun _ _ => rfl)) (pv 2) (fun _ _ => rfl)) pe_int (nomark _))))).pt (pss_one (ps_set (i := 3) sc_find_pivot.nd rfl (Or.inl rfl) (pe_op op_add (pv 3) pe_int))))
      (pss_one (ps_ret (pv 3))))), fun ds d hR G0 H0 Q Z k => ?_⟩
    obtain ⟨rows, rank, col, rfl, hr, hc, rfl⟩ := hR
    refine q_asg (ev_var rfl) ?_
    refine q_while (fun e : Nat => [.dat (.lst (dLL rows)), .dat (.int (rank : Int)), .dat (.int (col : Int)), .dat (.int (e : Int))]) (fun e => e ≤ rows.length ∧ findP rows e col = findP rows rank col) (fun e => rows.length - e) rank (le_refl _) ⟨hr, rfl⟩ fun e he => ?_
    by_cases h0 : e = rows.length
    · refine ⟨false, et_and (b := false) (c := false) (et_is (et_test (ev_opB (ev_var rfl).r (ev_len rfl (ev_var rfl).r .lst).r).r) (decide_eq_false (by rw [dLL_len]; omega))) (fun z => by cases z), (fun z => by cases z), fun _ => ?_⟩
      refine c_ret (ev_is (ev_var rfl) ?_) k
      rw [← he.2, h0, findP_end]
    · have hm : e < rows.length := by have := he.1; omega
      have hg : rows[e]? = some rows[e] := List.getElem?_eq_getElem hm
      have hfm := findP_more (col := col) hg
      refine ⟨_, et_and (b := true) (et_is (et_test (ev_opB (ev_var rfl).r (ev_len rfl (ev_var rfl).r .lst).r).r) (decide_eq_true (by rw [dLL_len]; omega))) (fun _ => et_test (ev_eqI (ev_ix (k := col) (ev_ix (k := e) (ev_var rfl) .lst (ev_var rfl).r (dLL_at hg)) .lst (ev_var rfl).r (dI_get (hc _ (List.getElem_mem hm)))).r ev_i.r).r), fun q => ?_, fun q => ?_⟩
      · have hz : Sl.co rows[e] col = 0 := of_decide_eq_true q
        refine c_asg (ev_opI (ev_var rfl).r ev_i.r) ?_
        refine c_nx (e + 1) (le_refl _) ⟨by omega, ?_⟩ (by show rows.length - (e + 1) < rows.length - e; omega)
        rw [← he.2, hfm, if_pos hz]
      · have hz : Sl.co rows[e] col ≠ 0 := of_decide_eq_false q
        refine c_ret (ev_is (ev_var rfl) ?_) k
        rw [← he.2, hfm, if_neg hz]
end Pg
set_option Elab.async false
set_option linter.all false
set_option maxRecDepth 100000
set_option maxHeartbeats 2000000
namespace Pg
open PySem PyProof.Rows L2 Fw
abbrev s_exchanged : Stmt := topS 25
abbrev nm_exchanged : List Str := ["rows", "first", "second", "result"]
theorem sc_exchanged : FnScope nm_exchanged ["rows", "first", "second"] (defScope s_exchanged) := ⟨rfl, rfl, rfl, by decide +kernel, rfl, by decide +kernel, by decide +kernel⟩
theorem n_listOf {K : PySem.W.Frag} {as : List AS} {te : TE} {d : D} {ds : List D} {r : List V → Hp → VK → Prop} (hr : r = fun xs H Q => ∃ p ys, xs = [.ref p] ∧ (SqL K H p ys ∨ SqT K H p ys) ∧ ∀ l : Addr, H l = none → Q (.ref l) (upd H l (.lst ys))) (h : EvE K te as d) (l : Ls d ds) : EvN K (tCB r (tCons te tNil)) as ds := fun G0 H0 G H σ E Q q =>
  h G0 H0 G H σ E _ fun v G1 H1 s1 r1 => by
    obtain ⟨a, vs, rfl, hq, ra⟩ := r1.ls l
    subst hr
    exact ⟨a, vs, rfl, .inl (s1.s.seq hq), fun p hp => q p _ G1 _ (s1.trans (Step.fresh s1.s hp)) (s1.h.free hp) (fresh_of s1.s hp) upd_same ra⟩
def swapI (rows : List (List Int)) (i j : Nat) : List (List Int) := (rows.set i (rows.getD j [])).set j (rows.getD i [])
def R_exchanged : List D → D → Prop := fun ds d => ∃ (rows : List (List Int)) (i j : Nat), ds = [.lst (dLL rows), .int (i : Int), .int (j : Int)] ∧ i < rows.length ∧ j < rows.length ∧ d = .lst (dLL (swapI rows i j))
theorem len_exchanged {ds : List D} {d : D} (h : R_exchanged ds d) : ds.length = 3 := by obtain ⟨a, b, c, rfl, _⟩ := h; rfl
theorem dLL_atD {l : List (List Int)} {i : Nat} (h : i < l.length) : (dLL l)[i]? = some (.lst (dI (l.getD i []))) := by
  rw [List.getD_eq_getElem?_getD, List.getElem?_eq_getElem h]
  exact dLL_at (List.getElem?_eq_getElem h)
theorem ok_exchanged {P : Program} {w : World} {K : PySem.W.Frag} {mg : Str → Option Value} {base : Heap} {f : Addr} {fd : FuncData} (T : Txt mg) (F : Fun K "exchanged" "exchanged" s_exchanged f fd) : FnOk P w K mg base CX0 1 f fd ["rows", "first", "second"] (SpR K R_exchanged) := by
  refine fn_ok F sc_exchanged (by decide) (fun ds d h => ?_) (fun cdv A outer s H E hr => ?_)
  · exact len_exchanged h
  · have hu65 := hu65_of hr
    refine ⟨_, (pss_cons (ps_set (i := 3) sc_exchanged.nd rfl (Or.inl rfl) (pe_callTy call_list_of (by rfl) T.b_list (by decide +kernel) (pa_cons (pv 0) pa_nil)))
      (pss_cons (ps_asg (pe_ix ix_list (pv 0) (pv 2) (fun _ _ => rfl)) (pg_sub (pv 3) (pv 1) set_list))
      (pss_cons (ps_asg (pe_ix ix_list (pv 0) (pv 1) (fun _ _ => rfl)) (pg_sub (pv 3) (pv 2) set_list))
      (pss_one (ps_ret (pv 3)))))), fun ds d hR G0 H0 Q Z k => ?_⟩
    obtain ⟨rows, i, j, rfl, hi, hj, rfl⟩ := hR
    refine q_new (n_listOf rfl (ev_var rfl) .lst) ?_
    refine q_set (k := i) rfl (ev_ix (k := j) (ev_var rfl) .lst (ev_var rfl).r (dLL_atD hj)) (ev_var rfl).r (by rw [dLL_len]; exact hi) ?_
    refine q_set (k := j) rfl (ev_ix (k := i) (ev_var rfl) .lst (ev_var rfl).r (dLL_atD hi)) (ev_var rfl).r (by rw [List.length_set, dLL_len]; exact hj) ?_
    refine c_frz (n := 3) rfl ?_
    refine c_ret (ev_is (ev_var rfl) ?_) k
    unfold swapI
    rw [← dLL_set, ← dLL_set]
end Pg
set_option Elab.async false
set_option linter.all false
set_option maxRecDepth 100000
set_option maxHeartbeats 2000000
namespace Pg
open PySem PyProof.Rows L2 Fw
abbrev s_special_solution : Stmt := topS 28
abbrev nm_special_solution : List Str := ["rows", "pivots", "count", "solution", "place", "column"]
theorem sc_special_solution : FnScope nm_special_solution ["rows", "pivots", "count"] (defScope s_special_solution) := ⟨rfl, rfl, rfl, by decide +kernel, rfl, by decide +kernel, by decide +kernel⟩
def enumG (ds : List D) : List D := ds.zipIdx.map fun x => pairD (.int (x.2 : Nat)) x.1
theorem enumG_len (ds : List D) : (enumG ds).length = ds.length := by
  unfold enumG; rw [List.length_map, List.length_zipIdx]
theorem enumG_get {ds : List D} {i : Nat} {d : D} (h : (enumG ds)[i]? = some d) : ∃ x, ds[i]? = some x ∧ d = pairD (.int (i : Int)) x := by
  unfold enumG at h
  rw [List.getElem?_map, List.getElem?_zipIdx] at h
  cases e : ds[i]? with
  | none => rw [e] at h; cases h
  | some x =>
    rw [e] at h
    refine ⟨x, rfl, ?_⟩
    have := Option.some.inj h
    rw [← this]
    show pairD (.int ((0 + i : Nat) : Int)) _ = _
    rw [Nat.zero_add]
theorem enumG_tg {K : PySem.W.Frag} {ds : List D} {i j : Nat} (d : D) (h : d ∈ enumG ds) : TgE K (gTup K 2 (gCons (gName i) (gCons (gName j) gNil))) d [i, j] (two i j d) := by
  obtain ⟨k, hk⟩ := List.mem_iff_getElem?.mp h
  obtain ⟨p, _, rfl⟩ := enumG_get hk
  exact tg_tup2
/-- numbers set, one for each pivot -/
def setsI (v : Nat → Int) (ps : List Nat) (s : List Int) (i : Nat) : List Int := (ps.zipIdx.take i).foldl (fun s x => s.set x.1 (v x.2)) s
theorem sets_more {v : Nat → Int} {ps : List Nat} {s : List Int} {i c : Nat} (h : ps[i]? = some c) : setsI v ps s (i + 1) = (setsI v ps s i).set c (v i) := by
  unfold setsI
  have e : ps.zipIdx[i]? = some (c, i) := by
    rw [List.getElem?_zipIdx, h]
    show some (c, 0 + i) = _
    rw [Nat.zero_add]
  rw [List.take_add_one, e, List.foldl_append]
  rfl
theorem setsf_len (v : Nat → Int) : ∀ (l : List (Nat × Nat)) (s : List Int), (l.foldl (fun s x => s.set x.1 (v x.2)) s).length = s.length
  | [], s => rfl
  | x :: l, s => by rw [List.foldl_cons, setsf_len v l, List.length_set]
theorem sets_len (v : Nat → Int) (ps : List Nat) (s : List Int) (i : Nat) : (setsI v ps s i).length = s.length := setsf_len v _ s
def specialI (rows : List (List Int)) (ps : List Nat) (count : Nat) : List Int := setsI (fun i => Sl.co (rows.getD i []) count) ps (List.replicate count 0) ps.length
def R_special_solution : List D → D → Prop := fun ds d => ∃ (rows : List (List Int)) (ps : List Nat) (count : Nat), ds = [.lst (dLL rows), .lst (dN ps), .int (count : Int)] ∧ count ≤ 1000 ∧ ps.length ≤ rows.length ∧ (∀ c ∈ ps, c < count) ∧ (∀ r ∈ rows, count < r.length) ∧ d = .lst (dI (specialI rows ps count))
theorem len_special_solution {ds : List D} {d : D} (h : R_special_solution ds d) : ds.length = 3 := by obtain ⟨a, b, c, rfl, _⟩ := h; rfl
theorem getD_mem {l : List (List Int)} {i : Nat} (h : i < l.length) : l.getD i [] ∈ l := by
  rw [List.getD_eq_getElem?_getD, List.getElem?_eq_getElem h]
  exact List.getElem_mem h
theorem dI_rep (n : Nat) : dI (List.replicate n 0) = List.replicate n (D.int 0) := by unfold dI; rw [List.map_replicate]
theorem ok_special_solution {P : Program} {w : World} {K : PySem.W.Frag} {mg : Str → Option Value} {base : Heap} {f : Addr} {fd : FuncData} (T : Txt mg) (F : Fun K "special_solution" "special_solution" s_special_solution f fd) : FnOk P w K mg base CX0 1 f fd ["rows", "pivots", "count"] (SpR K R_special_solution) := by
  refine fn_ok F sc_special_solution (by decide) (fun ds d h => ?_) (fun cdv A outer s H E hr => ?_)
  · exact len_special_solution h
  · have hu65 := hu65_of hr
    refine ⟨_, (pss_cons (ps_set (i := 3) sc_special_solution.nd rfl (Or.inl rfl) (pe_op op_rep (pe_lst (pa_cons pe_int pa_nil)) (pv 2)))
      (pss_cons (ps_for PassesOwn.never rfl (pi_enum (by rfl) T.b_enumerate (pa_cons (pv 1) pa_nil)) (pg_tup rfl (pgs_cons (pg_name (i := 4) sc_special_solution.nd rfl (Or.inl rfl)) (pgs_cons (pg_name (i := 5) sc_special_solution.nd rfl (Or.inl rfl)) pgs_nil))) (pss_one (ps_asg (pe_ix ix_list (pe_ix ix_list (pv 0) (pv 4) (fun _ _ => rfl)) (pv 2) (fun _ _ => rfl)) (pg_sub (pv 3) (pv 5) set_list))))
      (pss_one (ps_ret (pv 3))))), fun ds d hR G0 H0 Q Z k => ?_⟩
    obtain ⟨rows, ps, count, rfl, hc, hl, hp, hr, rfl⟩ := hR
    refine q_new (ds := dI (List.replicate count 0)) (n_is (n_rep (k := count) (n_lst (ea_cons ev_i ea_nil) (by decide)).ev (ev_var rfl).r (by omega)) (dI_rep count).symm) ?_
    refine q_for (it_enum (ev_var rfl) .lst) (fun i => [.dat (.lst (dLL rows)), .dat (.lst (dN ps)), .dat (.int (count : Int)), .mu (dI (setsI (fun i => Sl.co (rows.getD i []) count) ps (List.replicate count 0) i)), .no, .no]) [4, 5] (two 4 5) (fun d hd => enumG_tg d hd) (le_eq rfl (le_eq rfl (le_eq rfl (le_eq rfl (le_refl _))))) (fun B C sub i d hd => ?_) ?_
    · obtain ⟨x, hx, rfl⟩ := enumG_get hd
      obtain ⟨c, hcc, rfl⟩ := dN_get hx
      have hi : i < ps.length := (List.getElem?_eq_some_iff.mp hcc).1
      have hcm := hp c (List.mem_of_getElem? hcc)
      have hir : i < rows.length := by omega
      show Co K B C [.dat (.lst (dLL rows)), .dat (.lst (dN ps)), .dat (.int (count : Int)), .mu (dI (setsI (fun i => Sl.co (rows.getD i []) count) ps (List.replicate count 0) i)), .dat (.int (i : Int)), .dat (.int (c : Int))] _
      refine c_set (k := c) rfl (ev_ix (k := count) (ev_ix (k := i) (ev_var rfl) .lst (ev_var rfl).r (dLL_atD hir)) .lst (ev_var rfl).r (dI_get (hr _ (getD_mem hir)))) (ev_var rfl).r (by rw [dI_len, sets_len, List.length_replicate]; exact hcm) ?_
      refine c_at (le_eq rfl (le_eq rfl (le_eq rfl (le_eq ?_ (le_no (le_no le_nil))))))
      rw [sets_more hcc, dI_set]
    · refine c_frz (n := 3) rfl ?_
      refine c_ret (ev_is (ev_var rfl) ?_) k
      rw [show ((dN ps).zipIdx.map fun x => pairD (.int (x.2 : Nat)) x.1).length = (dN ps).length from enumG_len _, dN_len]
      rfl
abbrev s_free_solution : Stmt := topS 29
abbrev nm_free_solution : List Str := ["rows", "pivots", "count", "free", "bottom", "solution", "place", "column"]
theorem sc_free_solution : FnScope nm_free_solution ["rows", "pivots", "count", "free", "bottom"] (defScope s_free_solution) := ⟨rfl, rfl, rfl, by decide +kernel, rfl, by decide +kernel, by decide +kernel⟩
def freeI (rows : List (List Int)) (ps : List Nat) (count free : Nat) (bottom : Int) : List Int := setsI (fun i => -Sl.co (rows.getD i []) free) ps ((List.replicate count 0).set free bottom) ps.length
def R_free_solution : List D → D → Prop := fun ds d => ∃ (rows : List (List Int)) (ps : List Nat) (count free : Nat) (bottom : Int), ds = [.lst (dLL rows), .lst (dN ps), .int (count : Int), .int (free : Int), .int bottom] ∧ count ≤ 1000 ∧ free < count ∧ ps.length ≤ rows.length ∧ (∀ c ∈ ps, c < count) ∧ (∀ r ∈ rows, count < r.length) ∧ d = .lst (dI (freeI rows ps count free bottom))
theorem len_free_solution {ds : List D} {d : D} (h : R_free_solution ds d) : ds.length = 5 := by obtain ⟨a, b, c, e, g, rfl, _⟩ := h; rfl
theorem ok_free_solution {P : Program} {w : World} {K : PySem.W.Frag} {mg : Str → Option Value} {base : Heap} {f : Addr} {fd : FuncData} (T : Txt mg) (F : Fun K "free_solution" "free_solution" s_free_solution f fd) : FnOk P w K mg base CX0 1 f fd ["rows", "pivots", "count", "free", "bottom"] (SpR K R_free_solution) := by
  refine fn_ok F sc_free_solution (by decide) (fun ds d h => ?_) (fun cdv A outer s H E hr => ?_)
  · exact len_free_solution h
  · have hu65 := hu65_of hr
    refine ⟨_, (pss_cons (ps_set (i := 5) sc_free_solution.nd rfl (Or.inl rfl) (pe_op op_rep (pe_lst (pa_cons pe_int pa_nil)) (pv 2)))
      (pss_cons (ps_asg (pv 4) (pg_sub (pv 5) (pv 3) set_list))
      (pss_cons (ps_for PassesOwn.never rfl (pi_enum (by rfl) T.b_enumerate (pa_cons (pv 1) pa_nil)) (pg_tup rfl (pgs_cons (pg_name (i := 6) sc_free_solution.nd rfl (Or.inl rfl)) (pgs_cons (pg_name (i := 7) sc_free_solution.nd rfl (Or.inl rfl)) pgs_nil))) (pss_one (ps_asg (pe_un un_neg (pe_ix ix_list (pe_ix ix_list (pv 0) (pv 6) (fun _ _ => rfl)) (pv 3) (fun _ _ => rfl))) (pg_sub (pv 5) (pv 7) set_list))))
      (pss_one (ps_ret (pv 5)))))), fun ds d hR G0 H0 Q Z k => ?_⟩
    obtain ⟨rows, ps, count, free, bottom, rfl, hc, hf, hl, hp, hr, rfl⟩ := hR
    refine q_new (ds := dI (List.replicate count 0)) (n_is (n_rep (k := count) (n_lst (ea_cons ev_i ea_nil) (by decide)).ev (ev_var rfl).r (by omega)) (dI_rep count).symm) ?_
    refine q_set (k := free) rfl (ev_var rfl) (ev_var rfl).r (by rw [dI_len, List.length_replicate]; exact hf) ?_
    refine q_for (it_enum (ev_var rfl) .lst) (fun i => [.dat (.lst (dLL rows)), .dat (.lst (dN ps)), .dat (.int (count : Int)), .dat (.int (free : Int)), .dat (.int bottom), .mu (dI (setsI (fun i => -Sl.co (rows.getD i []) free) ps ((List.replicate count 0).set free bottom) i)), .no, .no]) [6, 7] (two 6 7) (fun d hd => enumG_tg d hd) (le_eq rfl (le_eq rfl (le_eq rfl (le_eq rfl (le_eq rfl (le_eq ?_ (le_refl _))))))) (fun B C sub i d hd => ?_) ?_
    · show _ = AS.mu ((dI (List.replicate count 0)).set free (.int bottom))
      rw [dI_set]; rfl
    · obtain ⟨x, hx, rfl⟩ := enumG_get hd
      obtain ⟨c, hcc, rfl⟩ := dN_get hx
      have hi : i < ps.length := (List.getElem?_eq_some_iff.mp hcc).1
      have hcm := hp c (List.mem_of_getElem? hcc)
      have hir : i < rows.length := by omega
      show Co K B C [.dat (.lst (dLL rows)), .dat (.lst (dN ps)), .dat (.int (count : Int)), .dat (.int (free : Int)), .dat (.int bottom), .mu (dI (setsI (fun i => -Sl.co (rows.getD i []) free) ps ((List.replicate count 0).set free bottom) i)), .dat (.int (i : Int)), .dat (.int (c : Int))] _
      refine c_set (k := c) rfl (ev_neg (ev_ix (k := free) (ev_ix (k := i) (ev_var rfl) .lst (ev_var rfl).r (dLL_atD hir)) .lst (ev_var rfl).r (dI_get (by have := hr _ (getD_mem hir); omega))).r) (ev_var rfl).r (by rw [dI_len, sets_len, List.length_set, List.length_replicate]; exact hcm) ?_
      refine c_at (le_eq rfl (le_eq rfl (le_eq rfl (le_eq rfl (le_eq rfl (le_eq ?_ (le_no (le_no le_nil))))))))
      rw [sets_more hcc, dI_set]
    · refine c_frz (n := 5) rfl ?_
      refine c_ret (ev_is (ev_var rfl) ?_) k
      rw [show ((dN ps).zipIdx.map fun x => pairD (.int (x.2 : Nat)) x.1).length = (dN ps).length from enumG_len _, dN_len]
      rfl
end Pg
set_option Elab.async false
set_option linter.all false
set_option maxRecDepth 100000
set_option maxHeartbeats 2000000
namespace Pg
open PySem PyProof.Rows L2 Fw
abbrev s_cleared_row : Stmt := topS 27
abbrev nm_cleared_row : List Str := ["row", "head", "column", "former", "pivot", "share", "number", "other"]
theorem sc_cleared_row : FnScope nm_cleared_row ["row", "head", "column", "former"] (defScope s_cleared_row) := ⟨rfl, rfl, rfl, by decide +kernel, rfl, by decide +kernel, by decide +kernel⟩
def clearI (row head : List Int) (col : Nat) (former : Int) : List Int := (row.zip head).map fun (x : Int × Int) => (Sl.co head col * x.1 - Sl.co row col * x.2).fdiv former
def R_cleared_row : List D → D → Prop := fun ds d => ∃ (row head : List Int) (col : Nat) (former : Int), ds = [.lst (dI row), .lst (dI head), .int (col : Int), .int former] ∧ row.length ≤ 1000 ∧ col < row.length ∧ col < head.length ∧ former ≠ 0 ∧ former.natAbs.log2 < 9000 ∧ Sz 20000 row ∧ Sz 20000 head ∧ d = .lst (dI (clearI row head col former))
theorem len_cleared_row {ds : List D} {d : D} (h : R_cleared_row ds d) : ds.length = 4 := by obtain ⟨a, b, c, e, rfl, _⟩ := h; rfl
def clearD (p s f : Int) : D → D
  | .tup [.int a, .int b] => .int ((p * a - s * b).fdiv f)
  | d => d
theorem dI_zip (a b : List Int) : ((dI a).zip (dI b)).map (fun x => pairD x.1 x.2) = (a.zip b).map fun x => pairD (.int x.1) (.int x.2) := by
  unfold dI
  rw [List.zip_map, List.map_map]
  rfl
theorem co_log {l : List Int} (h : Sz 20000 l) (n : Nat) : (Sl.co l n).natAbs.log2 < 20000 := log2_of_lt (sz_co h n) (by decide)
theorem ok_cleared_row {P : Program} {w : World} {K : PySem.W.Frag} {mg : Str → Option Value} {base : Heap} {f : Addr} {fd : FuncData} (T : Txt mg) (F : Fun K "cleared_row" "cleared_row" s_cleared_row f fd) : FnOk P w K mg base CX0 1 f fd ["row", "head", "column", "former"] (SpR K R_cleared_row) := by
  refine fn_ok F sc_cleared_row (by decide) (fun ds d h => ?_) (fun cdv A outer s H E hr => ?_)
  · exact len_cleared_row h
  · have hu65 := hu65_of hr
    refine ⟨_, (pss_cons (ps_set (i := 4) sc_cleared_row.nd rfl (Or.inr rfl) (pe_ix ix_list (pv 1) (pv 2) (fun _ _ => rfl)))
      (pss_cons (ps_set (i := 5) sc_cleared_row.nd rfl (Or.inr rfl) (pe_ix ix_list (pv 0) (pv 2) (fun _ _ => rfl)))
      (pss_one (ps_ret (pe_lc (own := [("number", 6), ("other", 7)]) rfl sc_cleared_row.nd (pi_zip (by rfl) T.b_zip (pa_cons (pv 0) (pa_cons (pv 1) pa_nil))) (blkOk_by (own := [("number", 6), ("other", 7)]) (N := nm_cleared_row) (sc := defScope s_cleared_row) (by decide +kernel)) (fun _ _ _ _ _ => by exact (by refine pg_tupK K 2 (t := gCons (gName 6) (gCons (gName 7) (gNil))) rfl ?_; exact (pgs_cons (pg_name (i := 6) sc_cleared_row.nd rfl (Or.inl rfl)) (pgs_cons (pg_name (i := 7) sc_cleared_row.nd rfl (Or.inl rfl)) pgs_nil)))) (fun _ _ _ _ _ => by exact pts_nil) (fun _ _ _ _ _ => by exact (pe_op op_fdivX (pe_op op_sub (pe_op op_mulW (pv 4) (pv 6)) (pe_op op_mulW (pv 5) (pv 7))) (pv 3)))))))), fun ds d hR G0 H0 Q Z k => ?_⟩
    obtain ⟨row, head, col, former, rfl, hl, hc, hh, f0, fs, sr, sh, rfl⟩ := hR
    refine q_asg (ev_ix (k := col) (ev_var rfl) .lst (ev_var rfl).r (dI_get hh)) ?_
    refine q_asg (ev_ix (k := col) (ev_var rfl) .lst (ev_var rfl).r (dI_get hc)) ?_
    refine c_ret (ev_is (n_lc (ds := (row.zip head).map fun (x : Int × Int) => pairD (D.int x.1) (D.int x.2)) (it_is (it_zip (ev_var rfl) (ev_var rfl) .lst .lst) (dI_zip row head)) _ [6, 7] (two 6 7) (fun d hd => ?_) (by decide) (fun _ => true) (clearD (Sl.co head col) (Sl.co row col) former) (by rw [List.length_map, List.length_zip]; omega) (fun d hd => et_yes) (fun d hd _ => ?_)).ev ?_) k
    · obtain ⟨x, _, rfl⟩ := List.mem_map.mp hd
      exact tg_tup2
    · obtain ⟨x, hx, rfl⟩ := List.mem_map.mp hd
      have h1 := log2_of_lt (sr _ (List.of_mem_zip hx).1) (by decide)
      have h2 := log2_of_lt (sh _ (List.of_mem_zip hx).2) (by decide)
      have h3 := co_log sr col
      have h4 := co_log sh col
      exact ev_fdiv (ev_opI (ev_mul (ev_var rfl).r (ev_var rfl).r (mulW_of (a := 20000) (b := 20000) (by omega) (by omega) (by decide))).r (ev_mul (ev_var rfl).r (ev_var rfl).r (mulW_of (a := 20000) (b := 20000) (by omega) (by omega) (by decide))).r).r (ev_var rfl).r ⟨f0, fs⟩
    · rw [picked_all (fun _ _ => rfl)]
      unfold clearI dI
      rw [List.map_map, List.map_map]
      rfl
abbrev s_cleared : Stmt := topS 26
abbrev nm_cleared : List Str := ["rows", "rank", "column", "former", "head", "place", "row"]
theorem sc_cleared : FnScope nm_cleared ["rows", "rank", "column", "former"] (defScope s_cleared) := ⟨rfl, rfl, rfl, by decide +kernel, rfl, by decide +kernel, by decide +kernel⟩
def clearedI (rows : List (List Int)) (rank col : Nat) (former : Int) : List (List Int) := rows.zipIdx.map fun (x : List Int × Nat) => if x.2 = rank then x.1 else clearI x.1 (rows.getD rank []) col former
def R_cleared : List D → D → Prop := fun ds d => ∃ (rows : List (List Int)) (rank col : Nat) (former : Int), ds = [.lst (dLL rows), .int (rank : Int), .int (col : Int), .int former] ∧ rows.length ≤ 1000 ∧ rank < rows.length ∧ (∀ r ∈ rows, col < r.length ∧ r.length ≤ 1000 ∧ Sz 20000 r) ∧ former ≠ 0 ∧ former.natAbs.log2 < 9000 ∧ d = .lst (dLL (clearedI rows rank col former))
theorem len_cleared {ds : List D} {d : D} (h : R_cleared ds d) : ds.length = 4 := by obtain ⟨a, b, c, e, rfl, _⟩ := h; rfl
def clD (head : List Int) (rank col : Nat) (former : Int) : D → D
  | .tup [.int i, .lst l] => if i = (rank : Int) then .lst l else .lst (dI (clearI (l.map toI) head col former))
  | d => d
theorem clD_at (head : List Int) (rank col : Nat) (former : Int) (i : Nat) (p : List Int) : clD head rank col former (pairD (.int (i : Int)) (.lst (dI p))) = .lst (dI (if i = rank then p else clearI p head col former)) := by
  show (if (i : Int) = (rank : Int) then D.lst (dI p) else .lst (dI (clearI ((dI p).map toI) head col former))) = _
  rw [toI_dI]
  by_cases h : i = rank
  · rw [if_pos h, if_pos (by omega)]
  · rw [if_neg h, if_neg (by omega)]
theorem ok_cleared {P : Program} {w : World} {K : PySem.W.Frag} {mg : Str → Option Value} {base : Heap} {f : Addr} {fd : FuncData} (T : Txt mg) (c_cleared_row : Cal P w K mg base 1 "cleared_row" ["row", "head", "column", "former"] R_cleared_row) (F : Fun K "cleared" "cleared" s_cleared f fd) : FnOk P w K mg base CX0 2 f fd ["rows", "rank", "column", "former"] (SpR K R_cleared) := by
  obtain ⟨f_cleared_row, fd_cleared_row, G_cleared_row, m_cleared_row, k_cleared_row, b_cleared_row⟩ := c_cleared_row.ex
  refine fn_ok F sc_cleared (by decide) (fun ds d h => ?_) (fun cdv A outer s H E hr => ?_)
  · exact len_cleared h
  · have hu65 := hu65_of hr
    refine ⟨_, (pss_cons (ps_set (i := 4) sc_cleared.nd rfl (Or.inr rfl) (pe_ix ix_list (pv 0) (pv 1) (fun _ _ => rfl)))
      (pss_one (ps_ret (pe_lc (own := [("place", 5), ("row", 6)]) rfl sc_cleared.nd (pi_enum (by rfl) T.b_enumerate (pa_cons (pv 0) pa_nil)) (blkOk_by (own := [("place", 5), ("row", 6)]) (N := nm_cleared) (sc := defScope s_cleared) (by decide +kernel)) (fun _ _ _ _ _ => by exact (by refine pg_tupK K 2 (t := gCons (gName 5) (gCons (gName 6) (gNil))) rfl ?_; exact (pgs_cons (pg_name (i := 5) sc_cleared.nd rfl (Or.inl rfl)) (pgs_cons (pg_name (i := 6) sc_cleared.nd rfl (Or.inl rfl)) pgs_nil)))) (fun _ _ _ _ _ => by exact pts_nil) (fun _ _ _ _ _ => by exact (pe_ifExp (pt_cmpR op_eq (pv 5) (pv 1) (nomark _)) (pv 6) (pe_call G_cleared_row (hr.mono (by decide)) (by rfl) m_cleared_row k_cleared_row b_cleared_row .nil pass0 (pa_cons (pv 6) (pa_cons (pv 4) (pa_cons (pv 2) (pa_cons (pv 3) pa_nil))))))))))), fun ds d hR G0 H0 Q Z k => ?_⟩
    obtain ⟨rows, rank, col, former, rfl, hl, hr, ho, f0, fs, rfl⟩ := hR
    have hm := ho _ (getD_mem hr)
    refine q_asg (ev_ix (k := rank) (ev_var rfl) .lst (ev_var rfl).r (dLL_atD hr)) ?_
    refine c_ret (ev_is (n_lc (it_enum (ev_var rfl) .lst) _ [5, 6] (two 5 6) (fun d hd => enumLL_tg d hd) (by decide) (fun _ => true) (clD (rows.getD rank []) rank col former) (by rw [show ((dLL rows).zipIdx.map fun x => pairD (.int (x.2 : Nat)) x.1).length = rows.length from enumLL_len rows]; omega) (fun d hd => et_yes) (fun d hd _ => ?_)).ev ?_) k
    · obtain ⟨j, hj⟩ := List.mem_iff_getElem?.mp hd
      obtain ⟨p, hp, rfl⟩ := enumLL_get hj
      have hpo := ho p (List.mem_of_getElem? hp)
      rw [clD_at]
      refine ev_if (et_test (ev_eqI (ev_var rfl).r (ev_var rfl).r).r) (fun q => ?_) (fun q => ?_)
      · have e : j = rank := by have := of_decide_eq_true q; omega
        rw [if_pos e]
        exact ev_var rfl
      · have e : ¬ j = rank := by have := of_decide_eq_false q; omega
        rw [if_neg e]
        exact ev_call (ea_cons (ev_var rfl) (ea_cons (ev_var rfl) (ea_cons (ev_var rfl) (ea_cons (ev_var rfl) ea_nil)))) ⟨p, _, col, former, rfl, hpo.2.1, hpo.1, hm.1, f0, fs, hpo.2.2, hm.2.2, rfl⟩
    · rw [picked_all (fun _ _ => rfl)]
      unfold clearedI dLL
      rw [List.zipIdx_map, List.map_map, List.map_map, List.map_map]
      exact congrArg D.lst (List.map_congr_left fun x _ => clD_at _ rank col former x.2 x.1)
end Pg
set_option Elab.async false
set_option linter.all false
set_option maxRecDepth 100000
set_option maxHeartbeats 2000000
namespace Pg
open PySem PyProof.Rows L2 Fw
abbrev s_counts_fit : Stmt := topS 64
abbrev nm_counts_fit : List Str := ["kind", "sizes", "count", "size"]
theorem sc_counts_fit : FnScope nm_counts_fit ["kind", "sizes", "count"] (defScope s_counts_fit) := ⟨rfl, rfl, rfl, by decide +kernel, rfl, by decide +kernel, by decide +kernel⟩
def badS (s : Nat) : Bool := decide (s < 1) || decide (4 < s)
def fitB (kind : Nat) (sizes : List Nat) (count : Nat) : Bool := if 1 < kind ∨ sizes.length < 1 ∨ 2 < sizes.length then false else if sizes.any badS = true then false else decide (count = sizes.sum + sizes.length)
def fitZ (kind : Nat) (sizes : List Nat) (count : Int) : Bool := if 1 < kind ∨ sizes.length < 1 ∨ 2 < sizes.length then false else if sizes.any badS = true then false else decide (count = ((sizes.sum : Nat) : Int) + ((sizes.length : Nat) : Int))
theorem fitZ_nat (kind : Nat) (sizes : List Nat) (count : Nat) : fitZ kind sizes (count : Int) = fitB kind sizes count := by
  unfold fitZ fitB
  have e : decide ((count : Int) = ((sizes.sum : Nat) : Int) + ((sizes.length : Nat) : Int)) = decide (count = sizes.sum + sizes.length) := by
    by_cases e : count = sizes.sum + sizes.length
    · rw [decide_eq_true e, decide_eq_true (by omega)]
    · rw [decide_eq_false e, decide_eq_false (by omega)]
  rw [e]
def R_counts_fit : List D → D → Prop := fun ds d => ∃ (kind : Nat) (sizes : List Nat) (count : Int) (sd : D), ds = [.int (kind : Int), sd, .int count] ∧ Ls sd (dN sizes) ∧ sizes.length ≤ 1000000 ∧ d = .bl (fitZ kind sizes count)
theorem len_counts_fit {ds : List D} {d : D} (h : R_counts_fit ds d) : ds.length = 3 := by obtain ⟨a, b, c, e, rfl, _⟩ := h; rfl
def badD : D → D
  | .int i => .bl (badS i.toNat)
  | d => d
theorem badD_at (s : Nat) : badD (.int (s : Int)) = .bl (badS s) := by show D.bl (badS (Int.toNat (s : Int))) = _; rw [Int.toNat_natCast]
theorem sum_cast : ∀ w : List Nat, (w.map fun (b : Nat) => (b : Int)).sum = (w.sum : Nat)
  | [] => rfl
  | a :: w => by rw [List.map_cons, List.sum_cons, List.sum_cons, sum_cast w]; omega
theorem dec_int (a b : Nat) : decide ((a : Int) < b) = decide (a < b) := by
  by_cases h : a < b
  · rw [decide_eq_true h, decide_eq_true (by omega)]
  · rw [decide_eq_false h, decide_eq_false (by omega)]
theorem ok_counts_fit {P : Program} {w : World} {K : PySem.W.Frag} {mg : Str → Option Value} {base : Heap} {f : Addr} {fd : FuncData} (T : Txt mg) (n_MOST_PARTS : Num mg "MOST_PARTS" (4)) (F : Fun K "counts_fit" "counts_fit" s_counts_fit f fd) : FnOk P w K mg base CX0 1 f fd ["kind", "sizes", "count"] (SpR K R_counts_fit) := by
  obtain ⟨t_MOST_PARTS, m_MOST_PARTS⟩ := n_MOST_PARTS
  refine fn_ok F sc_counts_fit (by decide) (fun ds d h => ?_) (fun cdv A outer s H E hr => ?_)
  · exact len_counts_fit h
  · have hu65 := hu65_of hr
    refine ⟨_, (pss_cons (ps_if ((pw_or (pt_cmpR op_gt (pv 0) pe_int (nomark _)) (pw_or (pt_cmpR op_lt (pe_callB call_len_seq (by rfl) T.b_len PySem.boot_len (pa_cons (pv 1) pa_nil)) pe_int (nomark _)) (pw_or1 (pt_cmpR op_gt (pe_callB call_len_seq (by rfl) T.b_len PySem.boot_len (pa_cons (pv 1) pa_nil)) pe_int (nomark _)))))).pt (pss_one (ps_ret pe_bl)) pss_nil)
      (pss_cons (ps_if (pt_val (pe_callB (cr_any rfl) (by rfl) T.b_any (by decide +kernel) (pa_cons (pe_lc (own := [("size", 3)]) rfl sc_counts_fit.nd (pi_list (pv 1)) (blkOk_by (own := [("size", 3)]) (N := nm_counts_fit) (sc := defScope s_counts_fit) (by decide +kernel)) (fun _ _ _ _ _ => by exact (pg_name (i := 3) sc_counts_fit.nd rfl (Or.inl rfl))) (fun _ _ _ _ _ => by exact pts_nil) (fun _ _ _ _ _ => by exact (pe_or (pe_cmpR op_lt (pv 3) pe_int (nomark _)) (pe_one (pe_cmpR op_gt (pv 3) (pe_glob (v := .int (4)) (by rfl) m_MOST_PARTS ⟨_, rfl⟩) (nomark _)))))) pa_nil))) (pss_one (ps_ret pe_bl)) pss_nil)
      (pss_one (ps_ret (pe_cmpR op_eq (pv 2) (pe_op op_add (pe_callB (cr_sum rfl) (by rfl) T.b_sum (by decide +kernel) (pa_cons (pv 1) pa_nil)) (pe_callB call_len_seq (by rfl) T.b_len PySem.boot_len (pa_cons (pv 1) pa_nil))) (nomark _)))))), fun ds d hR G0 H0 Q Z k => ?_⟩
    obtain ⟨kind, sizes, count, sd, rfl, hs, hz, rfl⟩ := hR
    unfold fitZ at k
    refine q_when (b := decide (1 < kind ∨ sizes.length < 1 ∨ 2 < sizes.length)) (et_is (et_or (et_test (ev_opB (ev_var rfl).r ev_i.r).r) fun _ => et_or (et_test (ev_opB (ev_len rfl (ev_var rfl).r hs).r ev_i.r).r) fun _ => et_test (ev_opB (ev_len rfl (ev_var rfl).r hs).r ev_i.r).r) ?_) (fun q => ?_) (fun q => ?_)
    · rw [dN_len, Bool.decide_or, Bool.decide_or]
      exact congr (congrArg or (dec_int 1 kind)) (congr (congrArg or (dec_int sizes.length 1)) (dec_int 2 sizes.length))
    · rw [if_pos (of_decide_eq_true q)] at k
      exact c_ret ev_b k
    · rw [if_neg (of_decide_eq_false q)] at k
      refine q_when (et_B (ev_any (bs := sizes.map badS) (ev_is (n_lc (it_list (ev_var rfl) hs) _ [3] (fun d as => as.set 3 (.dat d)) (fun d hd => tg_name) (by decide) (fun _ => true) badD (by rw [dN_len]; omega) (fun d hd => et_yes) (fun d hd _ => ?_)).ev ?_).r).r) (fun q2 => ?_) (fun q2 => ?_)
      · obtain ⟨s, hsm, rfl⟩ := List.mem_map.mp hd
        rw [badD_at]
        refine ev_is (ev_orV (ev_opB (ev_var rfl).r ev_i.r).r fun _ => ev_opB (ev_var rfl).r ev_i.r) ?_
        exact congrArg D.bl (congr (congrArg or (dec_int s 1)) (dec_int 4 s))
      · rw [picked_all (fun _ _ => rfl)]
        unfold dN dB
        rw [List.map_map, List.map_map]
        exact congrArg D.lst (List.map_congr_left fun s _ => badD_at s)
      · rw [List.any_map] at q2
        rw [if_pos (by simpa using q2)] at k
        exact c_ret ev_b k
      · rw [List.any_map] at q2
        rw [if_neg (by simpa using q2)] at k
        refine c_ret (ev_is (ev_eqI (ev_var rfl).r (ev_opI (ev_sum (ns := sizes.map fun (b : Nat) => (b : Int)) (ev_var rfl).r (by rw [← dN_dI]; exact hs)).r (ev_len rfl (ev_var rfl).r hs).r).r) ?_) k
        rw [sum_cast, dN_len]
end Pg
set_option Elab.async false
set_option linter.all false
set_option maxRecDepth 100000
set_option maxHeartbeats 2000000
namespace Pg
open PySem PyProof.Rows L2 Fw
abbrev s_whole_equations : Stmt := topS 67
abbrev nm_whole_equations : List Str := ["sizes", "polynomials", "equations", "start", "size", "end", "common", "scaled", "terms"]
theorem sc_whole_equations : FnScope nm_whole_equations ["sizes", "polynomials"] (defScope s_whole_equations) := ⟨rfl, rfl, rfl, by decide +kernel, rfl, by decide +kernel, by decide +kernel⟩
abbrev EqI := List (List Int) × List Int
def dE (e : EqI) : D := pairD (.lst (dLL e.1)) (.lst (dI e.2))
def dEs (es : List EqI) : List D := es.map dE
def wholes (l : List (List Sl.Tm)) : List (List Int) := l.map fun ts => Sl.wholeI ts (Sl.lcmAll l 1)
def eqAt (n : Nat) (l : List (List Sl.Tm)) : EqI := ((wholes (l.take (n + 1))).take n, (wholes (l.take (n + 1))).getD n [])
def eqsI : List Nat → List (List Sl.Tm) → List EqI
  | [], _ => []
  | n :: ns, l => eqAt n l :: eqsI ns (l.drop (n + 1))
def upTo (ns : List Nat) : Nat := ns.sum + ns.length
theorem eqs_more : ∀ (ns : List Nat) (n : Nat) (l : List (List Sl.Tm)), eqsI (ns ++ [n]) l = eqsI ns l ++ [eqAt n (l.drop (upTo ns))]
  | [], n, l => rfl
  | m :: ns, n, l => by
    show eqAt m l :: eqsI (ns ++ [n]) (l.drop (m + 1)) = eqAt m l :: eqsI ns (l.drop (m + 1)) ++ [_]
    rw [eqs_more ns n, List.drop_drop, List.cons_append]
    unfold upTo
    rw [List.sum_cons, List.length_cons, show m + 1 + (ns.sum + ns.length) = m + ns.sum + (ns.length + 1) by omega]
theorem eqs_len : ∀ (ns : List Nat) (l : List (List Sl.Tm)), (eqsI ns l).length = ns.length
  | [], l => rfl
  | m :: ns, l => by show (eqsI ns _).length + 1 = _; rw [eqs_len ns, List.length_cons]
theorem upTo_more (ns : List Nat) (n : Nat) : upTo (ns ++ [n]) = upTo ns + n + 1 := by
  unfold upTo; rw [List.sum_append, List.length_append]; simp; omega
theorem upTo_take (ns : List Nat) (i : Nat) : upTo (ns.take i) ≤ upTo ns := by
  have h := List.take_append_drop i ns
  have e : upTo ns = upTo (ns.take i ++ ns.drop i) := by rw [h]
  rw [e]
  unfold upTo
  rw [List.sum_append, List.length_append]
  omega
def R_whole_equations : List D → D → Prop := fun ds d => ∃ (sizes : List Nat) (l : List (List Sl.Tm)) (sd : D), ds = [sd, .lst (dLT l)] ∧ Ls sd (dN sizes) ∧ sizes.length ≤ 1000 ∧ (∀ n ∈ sizes, n ≤ 4) ∧ l.length = upTo sizes ∧ (∀ ts ∈ l, Oks ts) ∧ d = .lst (dEs (eqsI sizes l))
theorem len_whole_equations {ds : List D} {d : D} (h : R_whole_equations ds d) : ds.length = 2 := by obtain ⟨a, b, c, rfl, _⟩ := h; rfl
theorem dEs_len (es : List EqI) : (dEs es).length = es.length := List.length_map ..
theorem ok_whole_equations {P : Program} {w : World} {K : PySem.W.Frag} {mg : Str → Option Value} {base : Heap} {f : Addr} {fd : FuncData} (T : Txt mg) (c_common_bottom : Cal P w K mg base 3 "common_bottom" ["polynomials"] R_common_bottom) (c_whole_numbers : Cal P w K mg base 2 "whole_numbers" ["terms", "common"] R_whole_numbers) (F : Fun K "whole_equations" "whole_equations" s_whole_equations f fd) : FnOk P w K mg base CX0 4 f fd ["sizes", "polynomials"] (SpR K R_whole_equations) := by
  obtain ⟨f_common_bottom, fd_common_bottom, G_common_bottom, m_common_bottom, k_common_bottom, b_common_bottom⟩ := c_common_bottom.ex
  obtain ⟨f_whole_numbers, fd_whole_numbers, G_whole_numbers, m_whole_numbers, k_whole_numbers, b_whole_numbers⟩ := c_whole_numbers.ex
  refine fn_ok F sc_whole_equations (by decide) (fun ds d h => ?_) (fun cdv A outer s H E hr => ?_)
  · exact len_whole_equations h
  · have hu65 := hu65_of hr
    refine ⟨_, (pss_cons (ps_set (i := 2) sc_whole_equations.nd rfl (Or.inl rfl) (pe_lst pa_nil))
      (pss_cons (ps_set (i := 3) sc_whole_equations.nd rfl (Or.inl rfl) pe_int)
      (pss_cons (ps_for PassesOwn.never rfl (pi_list (pv 0)) (pg_name (i := 4) sc_whole_equations.nd rfl (Or.inl rfl)) (pss_cons (ps_set (i := 5) sc_whole_equations.nd rfl (Or.inl rfl) (pe_op op_add (pe_op op_add (pv 3) (pv 4)) pe_int))
      (pss_cons (ps_set (i := 6) sc_whole_equations.nd rfl (Or.inr rfl) (pe_call G_common_bottom (hr.mono (by decide)) (by rfl) m_common_bottom k_common_bottom b_common_bottom .nil pass0 (pa_cons (pe_slice sl_list (pv 1) (po_some (pv 3)) (po_some (pv 5))) pa_nil)))
      (pss_cons (ps_setLc (i := 7) (own := [("terms", 8)]) rfl sc_whole_equations.nd rfl rfl (sw_true rfl rfl rfl (by decide +kernel)) (pi_list (pe_slice sl_list (pv 1) (po_some (pv 3)) (po_some (pv 5)))) (blkOk_by (own := [("terms", 8)]) (N := nm_whole_equations) (sc := defScope s_whole_equations) (by decide +kernel)) (fun _ _ _ _ _ => by exact (pg_name (i := 8) sc_whole_equations.nd rfl (Or.inl rfl))) (fun _ _ _ _ _ => by exact pts_nil) (fun _ _ _ _ _ => by exact (pe_call G_whole_numbers (hr.mono (by decide)) (by rfl) m_whole_numbers k_whole_numbers b_whole_numbers .nil pass0 (pa_cons (pv 8) (pa_cons (pv 6) pa_nil)))))
      (pss_cons (ps_expr (pe_bm PySem.F.plainAttrs_list PySem.F.slot_list_append PySem.F.type_list_append mt_append (pv 2) (pa_cons (pe_tup (pa_cons (pe_slice sl_list (pv 7) po_none (po_some (pv 4))) (pa_cons (pe_ix ix_list (pv 7) (pv 4) (fun _ _ => rfl)) pa_nil))) pa_nil)))
      (pss_one (ps_set (i := 3) sc_whole_equations.nd rfl (Or.inl rfl) (pv 5))))))))
      (pss_one (ps_ret (pv 2)))))), fun ds d hR G0 H0 Q Z k => ?_⟩
    obtain ⟨sizes, l, sd, rfl, hsd, hs, h4, hl, ho, rfl⟩ := hR
    refine q_new (ds := dEs (eqsI (sizes.take 0) l)) (n_lst ea_nil (by show 0 ≤ 1000000; decide)) ?_
    refine q_asg (d := .int ((upTo (sizes.take 0) : Nat) : Int)) ev_i ?_
    refine q_for (it_list (ev_var rfl) hsd) (fun i => [.dat sd, .dat (.lst (dLT l)), .mu (dEs (eqsI (sizes.take i) l)), .dat (.int ((upTo (sizes.take i) : Nat) : Int)), .no, .no, .no, .no, .no]) [4] (fun d as => as.set 4 (.dat d)) (fun d _ => tg_name) (le_eq rfl (le_eq rfl (le_eq rfl (le_eq rfl (le_refl _))))) (fun B C sub i d hd => ?_) ?_
    · obtain ⟨n, hn, rfl⟩ := dN_get hd
      have hi : i < sizes.length := (List.getElem?_eq_some_iff.mp hn).1
      have hn4 := h4 n (List.mem_of_getElem? hn)
      have htk : sizes.take (i + 1) = sizes.take i ++ [n] := by rw [List.take_add_one, hn]; rfl
      have hle := upTo_take sizes (i + 1)
      have hel := eqs_len (sizes.take i) l
      rw [List.length_take] at hel
      rw [htk, upTo_more] at hle
      rw [htk, upTo_more, eqs_more]
      generalize upTo (sizes.take i) = u at *
      generalize eqsI (sizes.take i) l = es at *
      show Co K B C [.dat sd, .dat (.lst (dLT l)), .mu (dEs es), .dat (.int (u : Int)), .dat (.int (n : Int)), .no, .no, .no, .no] _
      have hwl : (wholes ((l.drop u).take (n + 1))).length = n + 1 := by
        unfold wholes
        rw [List.length_map, List.length_take, List.length_drop]; omega
      have hsl : D.lst (cut (dLT l) (some ((u : Nat) : Int)) (some ((u + n + 1 : Nat) : Int))) = .lst (dLT ((l.drop u).take (n + 1))) := by
        rw [cut_mid _ _ _ (by unfold dLT; rw [List.length_map]; omega) (by omega), show u + n + 1 - u = n + 1 by omega]
        unfold dLT
        rw [List.map_take, List.map_drop]
      have hol : ∀ ts ∈ (l.drop u).take (n + 1), Oks ts := fun ts hts => ho ts (List.mem_of_mem_drop (List.mem_of_mem_take hts))
      have hll : ((l.drop u).take (n + 1)).length ≤ 5 := by rw [List.length_take]; omega
      refine q_asg (d := .int ((u + n + 1 : Nat) : Int)) (ev_is (ev_opI (ev_opI (ev_var rfl).r (ev_var rfl).r).r ev_i.r) (by congr 1)) ?_
      refine q_asg (d := .int ((Sl.lcmAll ((l.drop u).take (n + 1)) 1 : Nat) : Int)) (ev_call (ea_cons (ev_is (n_sl (ev_var rfl) .lst (eo_some (ev_var rfl).r) (eo_some (ev_var rfl).r)).ev hsl) ea_nil) ⟨(l.drop u).take (n + 1), rfl, by omega, hol, rfl⟩) ?_
      have hc := lcmAll_lt (k := 1) ((l.drop u).take (n + 1)) 1 (by decide) (by decide) hol
      have hcl : (Sl.lcmAll ((l.drop u).take (n + 1)) 1).log2 < 100000 := Nat.lt_of_lt_of_le (log2_of_lt hc (by omega)) (by omega)
      refine q_asg (d := .lst (dLL (wholes ((l.drop u).take (n + 1))))) (ev_is (n_lc (ds := dLT ((l.drop u).take (n + 1))) (it_list (ev_is (n_sl (ev_var rfl) .lst (eo_some (ev_var rfl).r) (eo_some (ev_var rfl).r)).ev hsl) .lst) _ [8] (fun d as => as.set 8 (.dat d)) (fun d hd => tg_name) (by decide) (fun _ => true) (onTs fun ts => .lst (dI (Sl.wholeI ts (Sl.lcmAll ((l.drop u).take (n + 1)) 1)))) (by rw [show (dLT ((l.drop u).take (n + 1))).length = ((l.drop u).take (n + 1)).length from List.length_map ..]; omega) (fun d hd => et_yes) (fun d hd _ => ?_)).ev ?_) ?_
      · obtain ⟨ts, hts, rfl⟩ := List.mem_map.mp hd
        have h := hol ts hts
        refine ev_call (ea_cons (ev_var rfl) (ea_cons (ev_var rfl) ea_nil)) ⟨ts, Sl.lcmAll ((l.drop u).take (n + 1)) 1, rfl, fun t ht => ⟨h.p t ht, h.d0 t ht, ?_, ?_⟩, hcl, onTs_at _ ts⟩
        · have := log2_of_lt (h.d t ht) (by decide); omega
        · have := log2_of_lt (h.n t ht) (by decide); omega
      · rw [picked_all (fun _ _ => rfl)]
        unfold wholes dLL dLT
        rw [List.map_map, List.map_map]
        congr 1
        exact List.map_congr_left fun ts _ => onTs_at _ ts
      · refine q_app (d := dE (eqAt n (l.drop u))) rfl (ev_tup (ea_cons (ev_is (n_sl (lo := none) (ev_var rfl) .lst eo_none (eo_some (ev_var rfl).r)).ev (show D.lst (cut (dLL (wholes ((l.drop u).take (n + 1)))) none (some ((n : Nat) : Int))) = .lst (dLL (eqAt n (l.drop u)).1) from ?_)) (ea_cons (ev_ix (k := n) (ev_var rfl) .lst (ev_var rfl).r (dLL_atD (by omega))) ea_nil)) (by show 2 ≤ 1000000; decide)) (by rw [dEs_len]; omega) ?_
        · rw [cut_to]
          unfold dLL eqAt
          rw [List.map_take]
        · refine c_asg (ev_var rfl) ?_
          refine c_at (le_eq rfl (le_eq rfl (le_eq ?_ (le_eq rfl (le_no (le_no (le_no (le_no (le_no le_nil)))))))))
          unfold dEs
          rw [List.map_append]
          rfl
    · refine c_frz (n := 2) rfl ?_
      refine c_ret (ev_is (ev_var rfl) ?_) k
      rw [dN_len, List.take_length]
end Pg
set_option Elab.async false
set_option linter.all false
set_option maxRecDepth 100000
set_option maxHeartbeats 2000000
namespace Pg
open PySem PyProof.Rows L2 Fw
abbrev s_equation_rows : Stmt := topS 71
abbrev nm_equation_rows : List Str := ["kind", "equations", "count", "rows", "parts", "right", "columns", "powers", "power", "column"]
theorem sc_equation_rows : FnScope nm_equation_rows ["kind", "equations", "count"] (defScope s_equation_rows) := ⟨rfl, rfl, rfl, by decide +kernel, rfl, by decide +kernel, by decide +kernel⟩
def colsI (kind : Nat) (e : EqI) (count : Nat) : List (List Int) := (List.range count).map (fun n => Sl.leftI kind e.1 (List.replicate n 0 ++ [1])) ++ [e.2]
def tall (cs : List (List Int)) : Nat := (cs.map List.length).foldl max 0
def rowsOf (cs : List (List Int)) : List (List Int) := (List.range (tall cs)).map fun p => cs.map fun c => Sl.co c p
def rowsI (kind : Nat) (es : List EqI) (count : Nat) : List (List Int) := es.flatMap fun e => rowsOf (colsI kind e count)
structure OkE (e : EqI) : Prop where
  l : e.1.length ≤ 100
  p : ∀ p ∈ e.1, p.length ≤ 100 ∧ Sz 100000 p
  r : e.2.length ≤ 300
def R_equation_rows : List D → D → Prop := fun ds d => ∃ (kind : Nat) (es : List EqI) (count : Nat), ds = [.int (kind : Int), .lst (dEs es), .int (count : Int)] ∧ es.length ≤ 10 ∧ (∀ e ∈ es, OkE e) ∧ count ≤ 90 ∧ d = .lst (dLL (rowsI kind es count))
theorem len_equation_rows {ds : List D} {d : D} (h : R_equation_rows ds d) : ds.length = 3 := by obtain ⟨a, b, c, rfl, _⟩ := h; rfl
theorem colsI_len (kind : Nat) (e : EqI) (count : Nat) : (colsI kind e count).length = count + 1 := by
  unfold colsI; rw [List.length_append, List.length_map, List.length_range]; rfl
theorem unit_len (n : Nat) : (List.replicate n (0 : Int) ++ [1]).length = n + 1 := by simp
theorem unit_sz (n : Nat) : Sz 100000 (List.replicate n (0 : Int) ++ [1]) := fun x hx => by
  rcases List.mem_append.mp hx with h | h
  · rw [List.eq_of_mem_replicate h]; exact Nat.two_pow_pos _
  · rw [List.mem_singleton] at h; rw [h]; exact Nat.one_lt_two_pow (by decide)
theorem cols_short {kind : Nat} {e : EqI} {count : Nat} (h : OkE e) (hc : count ≤ 90) : ∀ c ∈ colsI kind e count, c.length ≤ 300 := fun c hm => by
  rcases List.mem_append.mp hm with q | q
  · obtain ⟨n, hn, rfl⟩ := List.mem_map.mp q
    have := List.mem_range.mp hn
    rw [leftI_st]
    exact leftSt_len (by rw [unit_len]; omega) e.1 fun p hp => (h.p p hp).1
  · rw [List.mem_singleton] at q; rw [q]; exact h.r
theorem tall_le {cs : List (List Int)} {m : Nat} (h : ∀ c ∈ cs, c.length ≤ m) : tall cs ≤ m := by
  unfold tall
  rcases Ht.fold_max_mem (cs.map List.length) 0 with q | q
  · omega
  · obtain ⟨c, hc, e⟩ := List.mem_map.mp q
    rw [← e]; exact h c hc
theorem tall_ge {cs : List (List Int)} {c : List Int} (h : c ∈ cs) : c.length ≤ tall cs := (St.max_fold (cs.map List.length) 0).2 _ (List.mem_map.mpr ⟨c, h, rfl⟩)
theorem tall_mem {cs : List (List Int)} (h : cs ≠ []) : (tall cs : Int) ∈ cs.map fun c => (c.length : Int) := by
  rcases Ht.fold_max_mem (cs.map List.length) 0 with q | q
  · cases cs with
    | nil => exact absurd rfl h
    | cons c cs =>
      have h1 : c.length ≤ tall (c :: cs) := tall_ge (List.mem_cons_self ..)
      have h2 : tall (c :: cs) = 0 := q
      exact List.mem_map.mpr ⟨c, List.mem_cons_self .., by omega⟩
  · obtain ⟨c, hc, e⟩ := List.mem_map.mp q
    exact List.mem_map.mpr ⟨c, hc, by show (c.length : Int) = ((tall cs : Nat) : Int); unfold tall; rw [e]⟩
theorem rowsOf_len (cs : List (List Int)) : (rowsOf cs).length = tall cs := by unfold rowsOf; rw [List.length_map, List.length_range]
theorem rows_more {kind : Nat} {es : List EqI} {count i : Nat} {e : EqI} (h : es[i]? = some e) : rowsI kind (es.take (i + 1)) count = rowsI kind (es.take i) count ++ rowsOf (colsI kind e count) := by
  unfold rowsI
  rw [List.take_add_one, h, List.flatMap_append]
  simp
theorem rows_len {kind : Nat} {count : Nat} (hc : count ≤ 90) : ∀ es : List EqI, (∀ e ∈ es, OkE e) → (rowsI kind es count).length ≤ 300 * es.length
  | [], _ => by unfold rowsI; simp
  | e :: es, h => by
    have ih := rows_len (kind := kind) hc es fun x hx => h x (List.mem_cons_of_mem _ hx)
    have h1 := tall_le (cols_short (kind := kind) (h e (List.mem_cons_self ..)) hc)
    have e1 : rowsI kind (e :: es) count = rowsOf (colsI kind e count) ++ rowsI kind es count := rfl
    rw [e1, List.length_append, rowsOf_len, List.length_cons]
    omega
theorem dEs_get {es : List EqI} {i : Nat} {d : D} (h : (dEs es)[i]? = some d) : ∃ e, es[i]? = some e ∧ d = dE e := by
  unfold dEs at h
  rw [List.getElem?_map] at h
  cases q : es[i]? with
  | none => rw [q] at h; cases h
  | some b => rw [q] at h; exact ⟨b, rfl, (Option.some.inj h).symm⟩
theorem dEs_tg {K : PySem.W.Frag} {es : List EqI} {i j : Nat} (d : D) (h : d ∈ dEs es) : TgE K (gTup K 2 (gCons (gName i) (gCons (gName j) gNil))) d [i, j] (two i j d) := by
  obtain ⟨e, _, rfl⟩ := List.mem_map.mp h
  exact tg_tup2
def lenD : D → D
  | .lst l => .int l.length
  | d => d
theorem ok_equation_rows {P : Program} {w : World} {K : PySem.W.Frag} {mg : Str → Option Value} {base : Heap} {f : Addr} {fd : FuncData} (T : Txt mg) (c_left_side : Cal P w K mg base 4 "left_side" ["kind", "parts", "y"] R_left_side) (c_row_at : Cal P w K mg base 2 "row_at" ["columns", "power"] R_row_at) (F : Fun K "equation_rows" "equation_rows" s_equation_rows f fd) : FnOk P w K mg base CX0 5 f fd ["kind", "equations", "count"] (SpR K R_equation_rows) := by
  obtain ⟨f_left_side, fd_left_side, G_left_side, m_left_side, k_left_side, b_left_side⟩ := c_left_side.ex
  obtain ⟨f_row_at, fd_row_at, G_row_at, m_row_at, k_row_at, b_row_at⟩ := c_row_at.ex
  refine fn_ok F sc_equation_rows (by decide) (fun ds d h => ?_) (fun cdv A outer s H E hr => ?_)
  · exact len_equation_rows h
  · have hu65 := hu65_of hr
    refine ⟨_, (pss_cons (ps_set (i := 3) sc_equation_rows.nd rfl (Or.inl rfl) (pe_lst pa_nil))
      (pss_cons (ps_for PassesOwn.never rfl (pi_list (pv 1)) (pg_tup rfl (pgs_cons (pg_name (i := 4) sc_equation_rows.nd rfl (Or.inr rfl)) (pgs_cons (pg_name (i := 5) sc_equation_rows.nd rfl (Or.inl rfl)) pgs_nil))) (pss_cons (ps_set (i := 6) sc_equation_rows.nd rfl (Or.inr rfl) (pe_op op_cat (pe_lc (own := [("power", 8)]) rfl sc_equation_rows.nd (pi_range1 (by rfl) T.b_range (pa_cons (pv 2) pa_nil)) (blkOk_by (own := [("power", 8)]) (N := nm_equation_rows) (sc := defScope s_equation_rows) (by decide +kernel)) (fun _ _ _ _ _ => by exact (pg_name (i := 8) sc_equation_rows.nd rfl (Or.inl rfl))) (fun _ _ _ _ _ => by exact pts_nil) (fun _ _ _ _ _ => by exact (pe_call G_left_side (hr.mono (by decide)) (by rfl) m_left_side k_left_side b_left_side .nil pass0 (pa_cons (pv 0) (pa_cons (pv 4) (pa_cons (pe_op op_cat (pe_op op_rep (pe_lst (pa_cons pe_int pa_nil)) (pv 8)) (pe_lst (pa_cons pe_int pa_nil))) pa_nil)))))) (pe_lst (pa_cons (pv 5) pa_nil))))
      (pss_cons (ps_set (i := 7) sc_equation_rows.nd rfl (Or.inl rfl) (pe_callB (cr_max rfl) (by rfl) T.b_max (by decide +kernel) (pa_cons (pe_lc (own := [("column", 9)]) rfl sc_equation_rows.nd (pi_list (pv 6)) (blkOk_by (own := [("column", 9)]) (N := nm_equation_rows) (sc := defScope s_equation_rows) (by decide +kernel)) (fun _ _ _ _ _ => by exact (pg_name (i := 9) sc_equation_rows.nd rfl (Or.inl rfl))) (fun _ _ _ _ _ => by exact pts_nil) (fun _ _ _ _ _ => by exact (pe_callB (call_len_seqK K) (by rfl) T.b_len PySem.boot_len (pa_cons (pv 9) pa_nil)))) pa_nil)))
      (pss_one (ps_expr (pe_bm PySem.F.plainAttrs_list PySem.F.slot_list_extend PySem.F.type_list_extend mt_extend (pv 3) (pa_cons (pe_lc (own := [("power", 8)]) rfl sc_equation_rows.nd (pi_range1 (by rfl) T.b_range (pa_cons (pv 7) pa_nil)) (blkOk_by (own := [("power", 8)]) (N := nm_equation_rows) (sc := defScope s_equation_rows) (by decide +kernel)) (fun _ _ _ _ _ => by exact (pg_name (i := 8) sc_equation_rows.nd rfl (Or.inl rfl))) (fun _ _ _ _ _ => by exact pts_nil) (fun _ _ _ _ _ => by exact (pe_call G_row_at (hr.mono (by decide)) (by rfl) m_row_at k_row_at b_row_at .nil pass0 (pa_cons (pv 6) (pa_cons (pv 8) pa_nil))))) pa_nil)))))))
      (pss_one (ps_ret (pv 3))))), fun ds d hR G0 H0 Q Z k => ?_⟩
    obtain ⟨kind, es, count, rfl, hl, ho, hc, rfl⟩ := hR
    refine q_new (ds := dLL (rowsI kind (es.take 0) count)) (n_lst ea_nil (by show 0 ≤ 1000000; decide)) ?_
    refine q_for (it_list (ev_var rfl) .lst) (fun i => [.dat (.int (kind : Int)), .dat (.lst (dEs es)), .dat (.int (count : Int)), .mu (dLL (rowsI kind (es.take i) count)), .no, .no, .no, .no, .no, .no]) [4, 5] (two 4 5) (fun d hd => dEs_tg d hd) (le_eq rfl (le_eq rfl (le_eq rfl (le_eq rfl (le_refl _))))) (fun B C sub i d hd => ?_) ?_
    · obtain ⟨e, he, rfl⟩ := dEs_get hd
      have hoe := ho e (List.mem_of_getElem? he)
      have hrl := rows_len (kind := kind) hc (es.take i) fun x hx => ho x (List.mem_of_mem_take hx)
      rw [List.length_take] at hrl
      rw [rows_more he]
      generalize rowsI kind (es.take i) count = rs at *
      have hcl := colsI_len kind e count
      have htl := tall_le (cols_short (kind := kind) hoe hc)
      have hcn : colsI kind e count ≠ [] := fun z => by rw [z] at hcl; simp at hcl
      show Co K B C [.dat (.int (kind : Int)), .dat (.lst (dEs es)), .dat (.int (count : Int)), .mu (dLL rs), .dat (.lst (dLL e.1)), .dat (.lst (dI e.2)), .no, .no, .no, .no] _
      refine q_asg (d := .lst (dLL (colsI kind e count))) (ev_is (n_cat (n_lc (it_range1 (n := count) (ev_var rfl).r (by omega)) _ [8] (fun d as => as.set 8 (.dat d)) (fun d hd => tg_name) (by decide) (fun _ => true) (atD fun n => .lst (dI (Sl.leftI kind e.1 (List.replicate n 0 ++ [1])))) (by rw [List.length_map, List.length_range]; omega) (fun d hd => et_yes) (fun d hd _ => ?_)).ev (n_lst (ea_cons (ev_var rfl) ea_nil) (by show 1 ≤ 1000000; decide)).ev ?_).ev ?_) ?_
      · obtain ⟨n, hn, rfl⟩ := mem_range_D hd
        refine ev_is (ev_call (ea_cons (ev_var rfl) (ea_cons (ev_var rfl) (ea_cons (ev_is (n_cat (n_rep (k := n) (n_lst (ea_cons ev_i ea_nil) (by decide)).ev (ev_var rfl).r (by omega)).ev (n_lst (ea_cons ev_i ea_nil) (by show 1 ≤ 1000000; decide)).ev (by rw [List.length_replicate]; show n + 1 ≤ _; omega)).ev (show D.lst (List.replicate n (D.int 0) ++ [D.int 1]) = .lst (dI (List.replicate n 0 ++ [1])) from ?_)) ea_nil))) ⟨kind, e.1, List.replicate n 0 ++ [1], rfl, hoe.l, hoe.p, by rw [unit_len]; omega, unit_sz n, rfl⟩) ?_
        · unfold dI; rw [List.map_append, List.map_replicate]; rfl
        · show _ = D.lst (dI (Sl.leftI kind e.1 (List.replicate (Int.toNat (n : Int)) 0 ++ [1])))
          rw [Int.toNat_natCast]
      · rw [picked_range, List.length_map, List.length_range]; show count + 1 ≤ _; omega
      · rw [picked_range]
        unfold colsI
        rw [dLL_append]
        unfold dLL
        rw [List.map_map]
        rfl
      · generalize colsI kind e count = cs at *
        refine q_asg (d := .int (tall cs : Nat)) (ev_max (ns := cs.map fun c => (c.length : Int)) (m := (tall cs : Nat)) (ev_is (n_lc (it_list (ev_var rfl) .lst) _ [9] (fun d as => as.set 9 (.dat d)) (fun d hd => tg_name) (by decide) (fun _ => true) lenD (by rw [dLL_len]; omega) (fun d hd => et_yes) (fun d hd _ => ?_)).ev ?_).r (tall_mem hcn) (fun y hy => ?_)) ?_
        · obtain ⟨c, _, rfl⟩ := List.mem_map.mp hd
          exact ev_len rfl (ev_var rfl).r .lst
        · rw [picked_all (fun _ _ => rfl)]
          unfold dLL
          rw [List.map_map]
          refine congrArg D.lst ?_
          conv => rhs; unfold dI
          rw [List.map_map]
          refine List.map_congr_left fun c _ => ?_
          show D.int ((dI c).length : Nat) = _
          rw [dI_len]; rfl
        · obtain ⟨c, hcm, rfl⟩ := List.mem_map.mp hy
          have := tall_ge hcm
          omega
        · refine c_ext (es := dLL (rowsOf cs)) rfl (ev_is (n_lc (it_range1 (n := tall cs) (ev_var rfl).r (by omega)) _ [8] (fun d as => as.set 8 (.dat d)) (fun d hd => tg_name) (by decide) (fun _ => true) (atD fun p => .lst (dI (cs.map fun c => Sl.co c p))) (by rw [List.length_map, List.length_range]; omega) (fun d hd => et_yes) (fun d hd _ => ?_)).ev ?_) (by rw [dLL_len, dLL_len, rowsOf_len]; omega) ?_
          · obtain ⟨n, hn, rfl⟩ := mem_range_D hd
            refine ev_is (ev_call (ea_cons (ev_var rfl) (ea_cons (ev_var rfl) ea_nil)) ⟨cs, n, rfl, by omega, rfl⟩) ?_
            show _ = D.lst (dI (cs.map fun c => Sl.co c (Int.toNat (n : Int))))
            rw [Int.toNat_natCast]
          · rw [picked_range]
            unfold rowsOf dLL
            rw [List.map_map]
            rfl
          · refine c_at (le_eq rfl (le_eq rfl (le_eq rfl (le_eq ?_ (le_no (le_no (le_no (le_no (le_no (le_no le_nil))))))))))
            rw [dLL_append]
    · refine c_frz (n := 3) rfl ?_
      refine c_ret (ev_is (ev_var rfl) ?_) k
      rw [dEs_len, List.take_length]
end Pg
set_option Elab.async false
set_option linter.all false
set_option maxRecDepth 100000
set_option maxHeartbeats 2000000
namespace Pg
open PySem PyProof.Rows L2 Fw
abbrev s_all_solutions : Stmt := topS 23
abbrev nm_all_solutions : List Str := ["rows", "count", "pivots", "former", "column", "free", "y0", "rank", "found", "row"]
theorem sc_all_solutions : FnScope nm_all_solutions ["rows", "count"] (defScope s_all_solutions) := ⟨rfl, rfl, rfl, by decide +kernel, rfl, by decide +kernel, by decide +kernel⟩
theorem ev_lenM {K : PySem.W.Frag} {as : List AS} {r : List V → Hp → VK → Prop} {ds : List D} {n : Nat} (hr : r = fun xs H Q => ∃ p ys, xs = [.ref p] ∧ (SqL K H p ys ∨ SqT K H p ys) ∧ Q (.int ys.length) H) (hn : as[n]? = some (AS.mu ds)) : EvE K (tCB r (tCons (tVar n) tNil)) as (.int ds.length) := fun G0 H0 G H σ E Q q => by
  obtain ⟨p, vs, hv, _, hg, hh, ra⟩ := E.mu n ds hn
  subst hr
  refine ⟨_, hv, p, vs, rfl, .inl (.inl (.inl hh)), ?_⟩
  rw [ra.len]
  exact q _ G H E.refl (.int _)
structure ElS where
  rows : List (List Int)
  piv : List Nat
  former : Int
def elNext (s : ElS) (c : Nat) : List (List Int) := clearedI (swapI s.rows s.piv.length (findP s.rows s.piv.length c)) s.piv.length c s.former
def elStep (s : ElS) (c : Nat) : ElS := if findP s.rows s.piv.length c < s.rows.length then ⟨elNext s c, s.piv ++ [c], Sl.co ((elNext s c).getD s.piv.length []) c⟩ else s
def elAt (rows : List (List Int)) (i : Nat) : ElS := (List.range i).foldl elStep ⟨rows, [], 1⟩
theorem el_more (rows : List (List Int)) (i : Nat) : elAt rows (i + 1) = elStep (elAt rows i) i := by
  unfold elAt; rw [List.range_succ, List.foldl_append]; rfl
structure OkEl (count : Nat) (s : ElS) : Prop where
  n : s.rows.length ≤ 1000
  p : s.piv.length ≤ s.rows.length
  r : ∀ r ∈ s.rows, count < r.length ∧ r.length ≤ 1000 ∧ Sz 20000 r
  f : s.former ≠ 0 ∧ s.former.natAbs.log2 < 9000
  c : ∀ c ∈ s.piv, c < count
def freeOf (count : Nat) (piv : List Nat) : List Nat := (List.range count).filter fun c => decide (c ∉ piv)
def elAns (count : Nat) (s : ElS) : D := if (s.rows.drop s.piv.length).any (fun r => decide (Sl.co r count ≠ 0)) = true then .non else .tup [.int s.former, .lst (dI (specialI s.rows s.piv count)), .lst (dLL ((freeOf count s.piv).map fun c => freeI s.rows s.piv count c s.former))]
def R_all_solutions : List D → D → Prop := fun ds d => ∃ (rows : List (List Int)) (count : Nat), ds = [.lst (dLL rows), .int (count : Int)] ∧ count ≤ 90 ∧ (∀ i, i ≤ count → OkEl count (elAt rows i)) ∧ d = elAns count (elAt rows count)
theorem len_all_solutions {ds : List D} {d : D} (h : R_all_solutions ds d) : ds.length = 2 := by obtain ⟨a, b, rfl, _⟩ := h; rfl
theorem swap_len (rows : List (List Int)) (i j : Nat) : (swapI rows i j).length = rows.length := by unfold swapI; rw [List.length_set, List.length_set]
theorem swap_mem {rows : List (List Int)} {i j : Nat} (hi : i < rows.length) (hj : j < rows.length) : ∀ r ∈ swapI rows i j, r ∈ rows := fun r hr => by
  unfold swapI at hr
  rcases List.mem_or_eq_of_mem_set hr with q | q
  · rcases List.mem_or_eq_of_mem_set q with q | q
    · exact q
    · rw [q]; exact getD_mem hj
  · rw [q]; exact getD_mem hi
theorem cleared_len (rows : List (List Int)) (i c : Nat) (f : Int) : (clearedI rows i c f).length = rows.length := by unfold clearedI; rw [List.length_map, List.length_zipIdx]
theorem cleared_get {rows : List (List Int)} {i : Nat} (c : Nat) (f : Int) (hi : i < rows.length) : (clearedI rows i c f).getD i [] = rows.getD i [] := by
  unfold clearedI
  rw [List.getD_eq_getElem?_getD, List.getElem?_map, List.getElem?_zipIdx, List.getElem?_eq_getElem hi, List.getD_eq_getElem?_getD, List.getElem?_eq_getElem hi]
  show (if 0 + i = i then rows[i] else _) = rows[i]
  rw [if_pos (by omega)]
def nzC (count : Nat) : D → D
  | .lst l => .bl (decide (Sl.co (l.map toI) count ≠ 0))
  | d => d
theorem nzC_at (count : Nat) (r : List Int) : nzC count (.lst (dI r)) = .bl (decide (Sl.co r count ≠ 0)) := by
  show D.bl (decide (Sl.co ((dI r).map toI) count ≠ 0)) = _
  rw [toI_dI]
theorem cut_dLL_from (w : List (List Int)) (k : Nat) : cut (dLL w) (some (k : Int)) none = dLL (w.drop k) := by rw [cut_from]; exact List.map_drop.symm
def notIn (w : List Nat) : D → Bool
  | .int i => decide (i.toNat ∉ w)
  | _ => false
theorem ev_notN {K : PySem.W.Frag} {as : List AS} {ta tb : TE} {w : List Nat} {c : Nat} (ha : EvR K ta as (.int (c : Int))) (hb : EvR K tb as (.lst (dN w))) : EvE K (tOp (rIn K true) ta tb) as (.bl (decide (c ∉ w))) := by
  rw [dN_dI] at hb
  refine ev_is (ev_inI ha hb .lst) ?_
  show D.bl (!decide ((c : Int) ∈ _)) = _
  congr 1
  by_cases h : c ∈ w
  · rw [decide_eq_true ((mem_cast c w).mpr h), decide_eq_false (by simpa using h)]; rfl
  · rw [decide_eq_false fun z => h ((mem_cast c w).mp z), decide_eq_true h]; rfl
theorem ok_all_solutions {P : Program} {w : World} {K : PySem.W.Frag} {mg : Str → Option Value} {base : Heap} {f : Addr} {fd : FuncData} (T : Txt mg) (c_find_pivot : Cal P w K mg base 1 "find_pivot" ["rows", "rank", "column"] R_find_pivot) (c_cleared : Cal P w K mg base 2 "cleared" ["rows", "rank", "column", "former"] R_cleared) (c_exchanged : Cal P w K mg base 1 "exchanged" ["rows", "first", "second"] R_exchanged) (c_special_solution : Cal P w K mg base 1 "special_solution" ["rows", "pivots", "count"] R_special_solution) (c_free_solution : Cal P w K mg base 1 "free_solution" ["rows", "pivots", "count", "free", "bottom"] R_free_solution) (F : Fun K "all_solutions" "all_solutions" s_all_solutions f fd) : FnOk P w K mg base CX0 3 f fd ["rows", "count"] (SpR K R_all_solutions) := by
  obtain ⟨f_find_pivot, fd_find_pivot, G_find_pivot, m_find_pivot, k_find_pivot, b_find_pivot⟩ := c_find_pivot.ex
  obtain ⟨f_cleared, fd_cleared, G_cleared, m_cleared, k_cleared, b_cleared⟩ := c_cleared.ex
  obtain ⟨f_exchanged, fd_exchanged, G_exchanged, m_exchanged, k_exchanged, b_exchanged⟩ := c_exchanged.ex
  obtain ⟨f_special_solution, fd_special_solution, G_special_solution, m_special_solution, k_special_solution, b_special_solution⟩ := c_special_solution.ex
  obtain ⟨f_free_solution, fd_free_solution, G_free_solution, m_free_solution, k_free_solution, b_free_solution⟩ := c_free_solution.ex
  refine fn_ok F sc_all_solutions (by decide) (fun ds d h => ?_) (fun cdv A outer s H E hr => ?_)
  · exact len_all_solutions h
  · have hu65 := hu65_of hr
    refine ⟨_, (pss_cons (ps_set (i := 2) sc_all_solutions.nd rfl (Or.inr rfl) (pe_lst pa_nil))
      (pss_cons (ps_set (i := 3) sc_all_solutions.nd rfl (Or.inr rfl) pe_int)
      (pss_cons (ps_for PassesOwn.never rfl (pi_range1 (by rfl) T.b_range (pa_cons (pv 1) pa_nil)) (pg_name (i := 4) sc_all_solutions.nd rfl (Or.inl rfl)) (pss_cons (ps_set (i := 7) sc_all_solutions.nd rfl (Or.inl rfl) (pe_callB call_len_seq (by rfl) T.b_len PySem.boot_len (pa_cons (pv 2) pa_nil)))
      (pss_cons (ps_set (i := 8) sc_all_solutions.nd rfl (Or.inl rfl) (pe_call G_find_pivot (hr.mono (by decide)) (by rfl) m_find_pivot k_find_pivot b_find_pivot .nil pass0 (pa_cons (pv 0) (pa_cons (pv 7) (pa_cons (pv 4) pa_nil)))))
      (pss_one (ps_if (pt_cmpR op_lt (pv 8) (pe_callB call_len_seq (by rfl) T.b_len PySem.boot_len (pa_cons (pv 0) pa_nil)) (nomark _)) (pss_cons (ps_set (i := 0) sc_all_solutions.nd rfl (Or.inr rfl) (pe_call G_cleared (hr.mono (by decide)) (by rfl) m_cleared k_cleared b_cleared .nil pass0 (pa_cons (pe_call G_exchanged (hr.mono (by decide)) (by rfl) m_exchanged k_exchanged b_exchanged .nil pass0 (pa_cons (pv 0) (pa_cons (pv 7) (pa_cons (pv 8) pa_nil)))) (pa_cons (pv 7) (pa_cons (pv 4) (pa_cons (pv 3) pa_nil))))))
      (pss_cons (ps_set (i := 3) sc_all_solutions.nd rfl (Or.inr rfl) (pe_ix ix_list (pe_ix ix_list (pv 0) (pv 7) (fun _ _ => rfl)) (pv 4) (fun _ _ => rfl)))
      (pss_one (ps_expr (pe_bm PySem.F.plainAttrs_list PySem.F.slot_list_append PySem.F.type_list_append mt_append (pv 2) (pa_cons (pv 4) pa_nil)))))) pss_nil)))))
      (pss_cons (ps_if (pt_val (pe_callB (cr_any rfl) (by rfl) T.b_any (by decide +kernel) (pa_cons (pe_lc (own := [("row", 9)]) rfl sc_all_solutions.nd (pi_list (pe_slice sl_list (pv 0) (po_some (pe_callB call_len_seq (by rfl) T.b_len PySem.boot_len (pa_cons (pv 2) pa_nil))) po_none)) (blkOk_by (own := [("row", 9)]) (N := nm_all_solutions) (sc := defScope s_all_solutions) (by decide +kernel)) (fun _ _ _ _ _ => by exact (pg_name (i := 9) sc_all_solutions.nd rfl (Or.inl rfl))) (fun _ _ _ _ _ => by exact pts_nil) (fun _ _ _ _ _ => by exact (pe_cmpR op_ne (pe_ix (ix_listK K) (pv 9) (pv 1) (fun _ _ => rfl)) pe_int (nomark _)))) pa_nil))) (pss_one (ps_ret pe_non)) pss_nil)
      (pss_cons (ps_setLc (i := 5) (own := [("column", 4)]) rfl sc_all_solutions.nd rfl rfl (sw_true rfl rfl rfl (by decide +kernel)) (pi_range1 (by rfl) T.b_range (pa_cons (pv 1) pa_nil)) (blkOk_by (own := [("column", 4)]) (N := nm_all_solutions) (sc := defScope s_all_solutions) (by decide +kernel)) (fun _ _ _ _ _ => by exact (pg_name (i := 4) sc_all_solutions.nd rfl (Or.inl rfl))) (fun _ _ _ _ _ => by exact (pts_one (pt_cmpR (op_notIn_seqK K) (pv 4) (pv 2) (by with_unfolding_all rfl)))) (fun _ _ _ _ _ => by exact (pv 4)))
      (pss_cons (ps_set (i := 6) sc_all_solutions.nd rfl (Or.inl rfl) (pe_call G_special_solution (hr.mono (by decide)) (by rfl) m_special_solution k_special_solution b_special_solution .nil pass0 (pa_cons (pv 0) (pa_cons (pv 2) (pa_cons (pv 1) pa_nil)))))
      (pss_one (ps_ret (pe_tup (pa_cons (pv 3) (pa_cons (pv 6) (pa_cons (pe_lc (own := [("column", 4)]) rfl sc_all_solutions.nd (pi_list (pv 5)) (blkOk_by (own := [("column", 4)]) (N := nm_all_solutions) (sc := defScope s_all_solutions) (by decide +kernel)) (fun _ _ _ _ _ => by exact (pg_name (i := 4) sc_all_solutions.nd rfl (Or.inl rfl))) (fun _ _ _ _ _ => by exact pts_nil) (fun _ _ _ _ _ => by exact (pe_call G_free_solution (hr.mono (by decide)) (by rfl) m_free_solution k_free_solution b_free_solution .nil pass0 (pa_cons (pv 0) (pa_cons (pv 2) (pa_cons (pv 1) (pa_cons (pv 4) (pa_cons (pv 3) pa_nil)))))))) pa_nil)))))))))))), fun ds d hR G0 H0 Q Z k => ?_⟩
    obtain ⟨rows, count, rfl, hc, ho, rfl⟩ := hR
    refine q_new (ds := dN (elAt rows 0).piv) (n_lst ea_nil (by show 0 ≤ 1000000; decide)) ?_
    refine q_asg (d := .int (elAt rows 0).former) ev_i ?_
    refine q_for (it_range1 (n := count) (ev_var rfl).r (by omega)) (fun i => [.dat (.lst (dLL (elAt rows i).rows)), .dat (.int (count : Int)), .mu (dN (elAt rows i).piv), .dat (.int (elAt rows i).former), .no, .no, .no, .no, .no, .no]) [4] (fun d as => as.set 4 (.dat d)) (fun d _ => tg_name) (le_eq rfl (le_eq rfl (le_eq rfl (le_eq rfl (le_refl _))))) (fun B C sub i d hd => ?_) ?_
    · have hi : i < count := by
        have := (List.getElem?_eq_some_iff.mp hd).1
        rwa [List.length_map, List.length_range] at this
      rw [List.getElem?_map, List.getElem?_range hi] at hd
      cases hd
      have o := ho i (by omega)
      rw [el_more]
      generalize elAt rows i = s at *
      have hn := o.n
      have hp := o.p
      show Co K B C [.dat (.lst (dLL s.rows)), .dat (.int (count : Int)), .mu (dN s.piv), .dat (.int s.former), .dat (.int (i : Int)), .no, .no, .no, .no, .no] _
      refine q_asg (d := .int (s.piv.length : Nat)) (ev_is (ev_lenM rfl rfl) (by rw [dN_len])) ?_
      refine q_asg (d := .int (findP s.rows s.piv.length i : Nat)) (ev_call (ea_cons (ev_var rfl) (ea_cons (ev_var rfl) (ea_cons (ev_var rfl) ea_nil))) ⟨s.rows, s.piv.length, i, rfl, hp, fun r hr => by have := (o.r r hr).1; omega, rfl⟩) ?_
      refine c_if (et_test (ev_opB (ev_var rfl).r (ev_len rfl (ev_var rfl).r .lst).r).r) (fun q => ?_) (fun q => ?_)
      · have hf : findP s.rows s.piv.length i < s.rows.length := by
          have := of_decide_eq_true q
          rw [dLL_len] at this
          omega
        have hr : s.piv.length < s.rows.length := by unfold findP at hf; omega
        have hsl := swap_len s.rows s.piv.length (findP s.rows s.piv.length i)
        have hnl : (elNext s i).length = s.rows.length := by unfold elNext; rw [cleared_len, hsl]
        have hg0 : (elNext s i).getD s.piv.length [] = (swapI s.rows s.piv.length (findP s.rows s.piv.length i)).getD s.piv.length [] := cleared_get _ _ (by omega)
        have hgl : i < ((elNext s i).getD s.piv.length []).length := by
          rw [hg0]
          have := (o.r _ (swap_mem hr hf _ (getD_mem (show s.piv.length < (swapI s.rows s.piv.length (findP s.rows s.piv.length i)).length by omega)))).1
          omega
        refine q_asg (d := .lst (dLL (elNext s i))) (ev_call (ea_cons (ev_call (ea_cons (ev_var rfl) (ea_cons (ev_var rfl) (ea_cons (ev_var rfl) ea_nil))) ⟨s.rows, s.piv.length, findP s.rows s.piv.length i, rfl, hr, hf, rfl⟩) (ea_cons (ev_var rfl) (ea_cons (ev_var rfl) (ea_cons (ev_var rfl) ea_nil)))) ⟨swapI s.rows s.piv.length (findP s.rows s.piv.length i), s.piv.length, i, s.former, rfl, by omega, by omega, fun r hrm => by have := o.r r (swap_mem hr hf r hrm); exact ⟨by omega, this.2⟩, o.f.1, o.f.2, rfl⟩) ?_
        refine q_asg (d := .int (Sl.co ((elNext s i).getD s.piv.length []) i)) (ev_ix (k := i) (ev_ix (k := s.piv.length) (ev_var rfl) .lst (ev_var rfl).r (dLL_atD (by omega))) .lst (ev_var rfl).r (dI_get hgl)) ?_
        refine c_app rfl (ev_var rfl) (by rw [dN_len]; omega) ?_
        unfold elStep
        rw [if_pos hf]
        refine c_at (le_eq rfl (le_eq rfl (le_eq ?_ (le_eq rfl (le_no (le_no (le_no (le_no (le_no (le_no le_nil))))))))))
        rw [dN_append]; rfl
      · have hf : ¬ findP s.rows s.piv.length i < s.rows.length := by
          have := of_decide_eq_false q
          rw [dLL_len] at this
          omega
        unfold elStep
        rw [if_neg hf]
        exact c_at (le_eq rfl (le_eq rfl (le_eq rfl (le_eq rfl (le_no (le_no (le_no (le_no (le_no (le_no le_nil))))))))))
    · rw [List.length_map, List.length_range]
      have o := ho count (Nat.le_refl _)
      generalize elAt rows count = s at *
      have hn := o.n
      have hp := o.p
      refine c_frz (n := 2) rfl ?_
      unfold elAns at k
      refine q_when (et_B (ev_any (bs := (s.rows.drop s.piv.length).map fun r => decide (Sl.co r count ≠ 0)) (ev_is (n_lc (ds := dLL (s.rows.drop s.piv.length)) (it_is (it_list (n_sl (hi := none) (ev_var rfl) .lst (eo_some (ev_len rfl (ev_var rfl).r .lst).r) eo_none).ev .lst) (by rw [dN_len, cut_dLL_from])) _ [9] (fun d as => as.set 9 (.dat d)) (fun d hd => tg_name) (by decide) (fun _ => true) (nzC count) (by rw [dLL_len, List.length_drop]; omega) (fun d hd => et_yes) (fun d hd _ => ?_)).ev ?_).r).r) (fun q2 => ?_) (fun q2 => ?_)
      · obtain ⟨r, hr, rfl⟩ := List.mem_map.mp hd
        rw [nzC_at]
        refine ev_is (ev_neI (ev_ix (k := count) (ev_var rfl) .lst (ev_var rfl).r (dI_get (o.r r (List.mem_of_mem_drop hr)).1)).r ev_i.r) ?_
        rw [decide_not]
      · rw [picked_all (fun _ _ => rfl)]
        unfold dLL dB
        rw [List.map_map, List.map_map]
        exact congrArg D.lst (List.map_congr_left fun r _ => nzC_at count r)
      · rw [List.any_map] at q2
        rw [if_pos (by exact q2)] at k
        exact c_ret ev_non k
      · rw [List.any_map] at q2
        rw [if_neg (by intro z; have z' : ((s.rows.drop s.piv.length).any (id ∘ fun r => decide (Sl.co r count ≠ 0))) = true := z; rw [q2] at z'; cases z')] at k
        refine q_asg (d := .lst (dN (freeOf count s.piv))) (ev_is (n_lc (it_range1 (n := count) (ev_var rfl).r (by omega)) _ [4] (fun d as => as.set 4 (.dat d)) (fun d hd => tg_name) (by decide) (notIn s.piv) (fun d => d) (by rw [List.length_map, List.length_range]; omega) (fun d hd => ?_) (fun d hd _ => ?_)).ev ?_) ?_
        · obtain ⟨c, hcm, rfl⟩ := mem_range_D hd
          refine et_is (et_test (ev_notN (ev_var rfl).r (ev_var rfl).r).r) ?_
          show _ = decide (Int.toNat (c : Int) ∉ s.piv)
          rw [Int.toNat_natCast]
        · obtain ⟨c, hcm, rfl⟩ := mem_range_D hd
          exact ev_var rfl
        · unfold picked dN freeOf
          rw [List.filter_map, List.map_map]
          rfl
        · have hfl : (freeOf count s.piv).length ≤ count := by
            have := List.length_filter_le (fun c => decide (c ∉ s.piv)) (List.range count)
            rwa [List.length_range] at this
          have hfm : ∀ c ∈ freeOf count s.piv, c < count := fun c hcm => List.mem_range.mp (List.mem_filter.mp hcm).1
          refine q_asg (d := .lst (dI (specialI s.rows s.piv count))) (ev_call (ea_cons (ev_var rfl) (ea_cons (ev_var rfl) (ea_cons (ev_var rfl) ea_nil))) ⟨s.rows, s.piv, count, rfl, by omega, hp, o.c, fun r hr => (o.r r hr).1, rfl⟩) ?_
          refine c_ret (ev_tup (ea_cons (ev_var rfl) (ea_cons (ev_var rfl) (ea_cons (ev_is (n_lc (it_list (ev_var rfl) .lst) _ [4] (fun d as => as.set 4 (.dat d)) (fun d hd => tg_name) (by decide) (fun _ => true) (atD fun c => .lst (dI (freeI s.rows s.piv count c s.former))) (by rw [dN_len]; omega) (fun d hd => et_yes) (fun d hd _ => ?_)).ev ?_) ea_nil))) (by show 3 ≤ 1000000; decide)) k
          · obtain ⟨c, hcm, rfl⟩ := List.mem_map.mp hd
            refine ev_is (ev_call (ea_cons (ev_var rfl) (ea_cons (ev_var rfl) (ea_cons (ev_var rfl) (ea_cons (ev_var rfl) (ea_cons (ev_var rfl) ea_nil))))) ⟨s.rows, s.piv, count, c, s.former, rfl, by omega, hfm c hcm, hp, o.c, fun r hr => (o.r r hr).1, rfl⟩) ?_
            show _ = D.lst (dI (freeI s.rows s.piv count (Int.toNat (c : Int)) s.former))
            rw [Int.toNat_natCast]
          · rw [picked_all (fun _ _ => rfl)]
            unfold dN dLL
            rw [List.map_map, List.map_map]
            refine congrArg D.lst (List.map_congr_left fun c _ => ?_)
            show D.lst (dI (freeI s.rows s.piv count (Int.toNat (c : Int)) s.former)) = _
            rw [Int.toNat_natCast]; rfl
end Pg
set_option Elab.async false
set_option linter.all false
set_option maxRecDepth 100000
set_option maxHeartbeats 2000000
namespace Pg
open PySem PyProof.Rows L2 Fw
abbrev s_solve : Stmt := topS 63
abbrev nm_solve : List Str := ["kind", "sizes", "texts", "polynomials", "refusal", "equations", "height", "solutions", "text", "parts", "right"]
theorem sc_solve : FnScope nm_solve ["kind", "sizes", "texts"] (defScope s_solve) := ⟨rfl, rfl, rfl, by decide +kernel, rfl, by decide +kernel, by decide +kernel⟩
def minL (l : List Int) : Int := -(maxL (l.map fun x => -x))
theorem minL_mem {l : List Int} (h : l ≠ []) : minL l ∈ l := by
  have h1 : l.map (fun x => -x) ≠ [] := fun z => h (List.map_eq_nil_iff.mp z)
  obtain ⟨x, hx, e⟩ := List.mem_map.mp (maxL_mem h1)
  unfold minL
  rw [← e, Int.neg_neg]; exact hx
theorem minL_le {l : List Int} {x : Int} (h : x ∈ l) : minL l ≤ x := by
  have := maxL_ge (List.mem_map.mpr ⟨x, h, rfl⟩ : -x ∈ l.map fun x => -x)
  unfold minL; omega
def esOf (sizes : List Nat) (texts : List (List Nat)) : List EqI := eqsI sizes (lsOf texts)
def hiOf (kind : Nat) (es : List EqI) : Int := minL (es.map fun e => highI kind e.1 e.2)
def zeroE (e : EqI) : Bool := e.1.all fun p => decide (p = [])
def othersI (count : Nat) (s : ElS) : List (List Int) := (freeOf count s.piv).map fun c => freeI s.rows s.piv count c s.former
def toldOf (count : Nat) (s : ElS) : List Nat := toldP (othersI count s).length s.former (specialI s.rows s.piv count :: othersI count s) ((othersI count s).length + 1)
def noneI (count : Nat) (s : ElS) : Bool := (s.rows.drop s.piv.length).any fun r => decide (Sl.co r count ≠ 0)
def endI (count : Nat) (s : ElS) : List Int := if noneI count s = true then [-5] else (toldOf count s).map fun (b : Nat) => (b : Int)
def cntOf (kind : Nat) (es : List EqI) : Nat := (hiOf kind es + 1).toNat
def elOf (kind : Nat) (es : List EqI) (i : Nat) : ElS := elAt (rowsI kind es (cntOf kind es)) i
def solveI (kind : Nat) (sizes : List Nat) (texts : List (List Nat)) : List Int :=
  if fitB kind sizes texts.length = false then [-6]
  else if refusal (osOf texts) ≠ 0 then [refusal (osOf texts)]
  else if (esOf sizes texts).any zeroE = true then [-3]
  else if 24 < hiOf kind (esOf sizes texts) then [-2]
  else endI (cntOf kind (esOf sizes texts)) (elOf kind (esOf sizes texts) (cntOf kind (esOf sizes texts)))
/-- what the walk asks of the numbers; to be shown of every input -/
structure SvOk (kind : Nat) (sizes : List Nat) (texts : List (List Nat)) : Prop where
  tl : texts.length ≤ 100
  tt : ∀ t ∈ texts, t.length ≤ 200
  sl : sizes.length ≤ 1000000
  ol : ∀ ts, some ts ∈ osOf texts → ts.length ≤ 1000
  ls : refusal (osOf texts) = 0 → ∀ ts ∈ lsOf texts, Oks ts
  es : fitB kind sizes texts.length = true → refusal (osOf texts) = 0 → ∀ e ∈ esOf sizes texts, e.1.length ≤ 4 ∧ (∀ p ∈ e.1, Okl 7900 p) ∧ (∀ p ∈ e.1, Sl.TrI p) ∧ OkE e
  el : fitB kind sizes texts.length = true → refusal (osOf texts) = 0 → (esOf sizes texts).any zeroE = false → -1 ≤ hiOf kind (esOf sizes texts) ∧ (hiOf kind (esOf sizes texts) ≤ 24 → (∀ i, i ≤ cntOf kind (esOf sizes texts) → OkEl (cntOf kind (esOf sizes texts)) (elOf kind (esOf sizes texts) i)) ∧ ∀ s, s = elOf kind (esOf sizes texts) (cntOf kind (esOf sizes texts)) → noneI (cntOf kind (esOf sizes texts)) s = false → (∀ l ∈ specialI s.rows s.piv (cntOf kind (esOf sizes texts)) :: othersI (cntOf kind (esOf sizes texts)) s, (l.length ≤ 1000 ∧ (Sl.write (Sl.termsOver l s.former)).length ≤ 900000) ∧ ∀ t ∈ Sl.termsOver l s.former, Okt t) ∧ (toldOf (cntOf kind (esOf sizes texts)) s).length ≤ 999000)
def R_solve : List D → D → Prop := fun ds d => ∃ (kind : Nat) (sizes : List Nat) (texts : List (List Nat)), ds = [.int (kind : Int), .inp (dN sizes), .inp (dTx texts)] ∧ SvOk kind sizes texts ∧ d = .lst (dI (solveI kind sizes texts))
theorem len_solve {ds : List D} {d : D} (h : R_solve ds d) : ds.length = 3 := by obtain ⟨a, b, c, rfl, _⟩ := h; rfl
theorem fit_facts {kind : Nat} {sizes : List Nat} {count : Nat} (h : fitB kind sizes count = true) : kind ≤ 1 ∧ 1 ≤ sizes.length ∧ sizes.length ≤ 2 ∧ (∀ n ∈ sizes, 1 ≤ n ∧ n ≤ 4) ∧ count = upTo sizes := by
  unfold fitB at h
  split at h
  · cases h
  · rename_i q
    split at h
    · cases h
    · rename_i q2
      refine ⟨by omega, by omega, by omega, fun n hn => ?_, of_decide_eq_true h⟩
      have := mt (fun z => List.any_eq_true.mpr ⟨n, hn, z⟩) q2
      unfold badS at this
      simp at this
      omega
def toL : D → List Int
  | .lst l => l.map toI
  | _ => []
def toE : D → EqI
  | .tup [.lst a, .lst b] => (a.map toL, b.map toI)
  | _ => ([], [])
theorem toE_dE (e : EqI) : toE (dE e) = e := by
  show ((dLL e.1).map toL, (dI e.2).map toI) = e
  rw [toI_dI]
  unfold dLL
  rw [List.map_map]
  have := List.map_congr_left (f := toL ∘ fun p => D.lst (dI p)) (g := id) (l := e.1) fun p _ => by show (dI p).map toI = p; exact toI_dI p
  rw [this]; simp
theorem ok_solve {P : Program} {w : World} {K : PySem.W.Frag} {mg : Str → Option Value} {base : Heap} {f : Addr} {fd : FuncData} (T : Txt mg) (c_counts_fit : Cal P w K mg base 1 "counts_fit" ["kind", "sizes", "count"] R_counts_fit) (c_read_polynomial : Cal P w K mg base 5 "read_polynomial" ["text"] R_read_polynomial) (c_texts_refusal : Cal P w K mg base 2 "texts_refusal" ["polynomials"] R_texts_refusal) (c_whole_equations : Cal P w K mg base 4 "whole_equations" ["sizes", "polynomials"] R_whole_equations) (c_all_zero : Cal P w K mg base 1 "all_zero" ["parts"] R_all_zero) (c_how_high : Cal P w K mg base 12 "how_high" ["kind", "parts", "right"] R_how_high) (c_all_solutions : Cal P w K mg base 3 "all_solutions" ["rows", "count"] R_all_solutions) (c_equation_rows : Cal P w K mg base 5 "equation_rows" ["kind", "equations", "count"] R_equation_rows) (c_told : Cal P w K mg base 5 "told" ["number", "polynomials", "bottom"] R_told) (n_WRONG_COUNT : Num mg "WRONG_COUNT" (-6)) (n_NO_LEFT_SIDE : Num mg "NO_LEFT_SIDE" (-3)) (n_MOST_HEIGHT : Num mg "MOST_HEIGHT" (24)) (n_TOO_BIG : Num mg "TOO_BIG" (-2)) (n_NO_SOLUTION : Num mg "NO_SOLUTION" (-5)) (F : Fun K "solve" "solve" s_solve f fd) : FnOk P w K mg base CX0 13 f fd ["kind", "sizes", "texts"] (SpR K R_solve) := by
  obtain ⟨f_counts_fit, fd_counts_fit, G_counts_fit, m_counts_fit, k_counts_fit, b_counts_fit⟩ := c_counts_fit.ex
  obtain ⟨f_read_polynomial, fd_read_polynomial, G_read_polynomial, m_read_polynomial, k_read_polynomial, b_read_polynomial⟩ := c_read_polynomial.ex
  obtain ⟨f_texts_refusal, fd_texts_refusal, G_texts_refusal, m_texts_refusal, k_texts_refusal, b_texts_refusal⟩ := c_texts_refusal.ex
  obtain ⟨f_whole_equations, fd_whole_equations, G_whole_equations, m_whole_equations, k_whole_equations, b_whole_equations⟩ := c_whole_equations.ex
  obtain ⟨f_all_zero, fd_all_zero, G_all_zero, m_all_zero, k_all_zero, b_all_zero⟩ := c_all_zero.ex
  obtain ⟨f_how_high, fd_how_high, G_how_high, m_how_high, k_how_high, b_how_high⟩ := c_how_high.ex
  obtain ⟨f_all_solutions, fd_all_solutions, G_all_solutions, m_all_solutions, k_all_solutions, b_all_solutions⟩ := c_all_solutions.ex
  obtain ⟨f_equation_rows, fd_equation_rows, G_equation_rows, m_equation_rows, k_equation_rows, b_equation_rows⟩ := c_equation_rows.ex
  obtain ⟨f_told, fd_told, G_told, m_told, k_told, b_told⟩ := c_told.ex
  obtain ⟨t_WRONG_COUNT, m_WRONG_COUNT⟩ := n_WRONG_COUNT
  obtain ⟨t_NO_LEFT_SIDE, m_NO_LEFT_SIDE⟩ := n_NO_LEFT_SIDE
  obtain ⟨t_MOST_HEIGHT, m_MOST_HEIGHT⟩ := n_MOST_HEIGHT
  obtain ⟨t_TOO_BIG, m_TOO_BIG⟩ := n_TOO_BIG
  obtain ⟨t_NO_SOLUTION, m_NO_SOLUTION⟩ := n_NO_SOLUTION
  refine fn_ok F sc_solve (by decide) (fun ds d h => ?_) (fun cdv A outer s H E hr => ?_)
  · exact len_solve h
  · have hu65 := hu65_of hr
    refine ⟨_, (pss_cons (ps_if (pt_not (pt_val (pe_call G_counts_fit (hr.mono (by decide)) (by rfl) m_counts_fit k_counts_fit b_counts_fit .nil pass0 (pa_cons (pv 0) (pa_cons (pv 1) (pa_cons (pe_callB call_len_seq (by rfl) T.b_len PySem.boot_len (pa_cons (pv 2) pa_nil)) pa_nil)))))) (pss_one (ps_ret (pe_lst (pa_cons (pe_glob (v := .int (-6)) (by rfl) m_WRONG_COUNT ⟨_, rfl⟩) pa_nil)))) pss_nil)
      (pss_cons (ps_setLc (i := 3) (own := [("text", 8)]) rfl sc_solve.nd rfl rfl (sw_true rfl rfl rfl (by decide +kernel)) (pi_list (pv 2)) (blkOk_by (own := [("text", 8)]) (N := nm_solve) (sc := defScope s_solve) (by decide +kernel)) (fun _ _ _ _ _ => by exact (pg_name (i := 8) sc_solve.nd rfl (Or.inl rfl))) (fun _ _ _ _ _ => by exact pts_nil) (fun _ _ _ _ _ => by exact (pe_call G_read_polynomial (hr.mono (by decide)) (by rfl) m_read_polynomial k_read_polynomial b_read_polynomial .nil pass0 (pa_cons (pv 8) pa_nil))))
      (pss_cons (ps_set (i := 4) sc_solve.nd rfl (Or.inl rfl) (pe_call G_texts_refusal (hr.mono (by decide)) (by rfl) m_texts_refusal k_texts_refusal b_texts_refusal .nil pass0 (pa_cons (pv 3) pa_nil)))
      (pss_cons (ps_if (pt_cmpR op_ne (pv 4) pe_int (nomark _)) (pss_one (ps_ret (pe_lst (pa_cons (pv 4) pa_nil)))) pss_nil)
      (pss_cons (ps_set (i := 5) sc_solve.nd rfl (Or.inl rfl) (pe_call G_whole_equations (hr.mono (by decide)) (by rfl) m_whole_equations k_whole_equations b_whole_equations .nil pass0 (pa_cons (pv 1) (pa_cons (pv 3) pa_nil))))
      (pss_cons (ps_if (pt_val (pe_callB (cr_any rfl) (by rfl) T.b_any (by decide +kernel) (pa_cons (pe_lc (own := [("parts", 9), ("right", 10)]) rfl sc_solve.nd (pi_list (pv 5)) (blkOk_by (own := [("parts", 9), ("right", 10)]) (N := nm_solve) (sc := defScope s_solve) (by decide +kernel)) (fun _ _ _ _ _ => by exact (by refine pg_tupK K 2 (t := gCons (gName 9) (gCons (gName 10) (gNil))) rfl ?_; exact (pgs_cons (pg_name (i := 9) sc_solve.nd rfl (Or.inl rfl)) (pgs_cons (pg_name (i := 10) sc_solve.nd rfl (Or.inl rfl)) pgs_nil)))) (fun _ _ _ _ _ => by exact pts_nil) (fun _ _ _ _ _ => by exact (pe_call G_all_zero (hr.mono (by decide)) (by rfl) m_all_zero k_all_zero b_all_zero .nil pass0 (pa_cons (pv 9) pa_nil)))) pa_nil))) (pss_one (ps_ret (pe_lst (pa_cons (pe_glob (v := .int (-3)) (by rfl) m_NO_LEFT_SIDE ⟨_, rfl⟩) pa_nil)))) pss_nil)
      (pss_cons (ps_set (i := 6) sc_solve.nd rfl (Or.inl rfl) (pe_callB (cr_min rfl) (by rfl) T.b_min (by decide +kernel) (pa_cons (pe_lc (own := [("parts", 9), ("right", 10)]) rfl sc_solve.nd (pi_list (pv 5)) (blkOk_by (own := [("parts", 9), ("right", 10)]) (N := nm_solve) (sc := defScope s_solve) (by decide +kernel)) (fun _ _ _ _ _ => by exact (by refine pg_tupK K 2 (t := gCons (gName 9) (gCons (gName 10) (gNil))) rfl ?_; exact (pgs_cons (pg_name (i := 9) sc_solve.nd rfl (Or.inl rfl)) (pgs_cons (pg_name (i := 10) sc_solve.nd rfl (Or.inl rfl)) pgs_nil)))) (fun _ _ _ _ _ => by exact pts_nil) (fun _ _ _ _ _ => by exact (pe_call G_how_high (hr.mono (by decide)) (by rfl) m_how_high k_how_high b_how_high .nil pass0 (pa_cons (pv 0) (pa_cons (pv 9) (pa_cons (pv 10) pa_nil)))))) pa_nil)))
      (pss_cons (ps_if (pt_cmpR op_gt (pv 6) (pe_glob (v := .int (24)) (by rfl) m_MOST_HEIGHT ⟨_, rfl⟩) (nomark _)) (pss_one (ps_ret (pe_lst (pa_cons (pe_glob (v := .int (-2)) (by rfl) m_TOO_BIG ⟨_, rfl⟩) pa_nil)))) pss_nil)
      (pss_cons (ps_set (i := 7) sc_solve.nd rfl (Or.inl rfl) (pe_call G_all_solutions (hr.mono (by decide)) (by rfl) m_all_solutions k_all_solutions b_all_solutions .nil pass0 (pa_cons (pe_call G_equation_rows (hr.mono (by decide)) (by rfl) m_equation_rows k_equation_rows b_equation_rows .nil pass0 (pa_cons (pv 0) (pa_cons (pv 5) (pa_cons (pe_op op_add (pv 6) pe_int) pa_nil)))) (pa_cons (pe_op op_add (pv 6) pe_int) pa_nil))))
      (pss_cons (ps_if (pt_cmp (pc_isN (pv 7))) (pss_one (ps_ret (pe_lst (pa_cons (pe_glob (v := .int (-5)) (by rfl) m_NO_SOLUTION ⟨_, rfl⟩) pa_nil)))) pss_nil)
      (pss_one (ps_ret (pe_call G_told (hr.mono (by decide)) (by rfl) m_told k_told b_told .nil pass0 (pa_cons (pe_callB call_len_seq (by rfl) T.b_len PySem.boot_len (pa_cons (pe_ix ix_tup (pv 7) pe_int (fun _ _ => rfl)) pa_nil)) (pa_cons (pe_op op_cat (pe_lst (pa_cons (pe_ix ix_tup (pv 7) pe_int (fun _ _ => rfl)) pa_nil)) (pe_ix ix_tup (pv 7) pe_int (fun _ _ => rfl))) (pa_cons (pe_ix ix_tup (pv 7) pe_int (fun _ _ => rfl)) pa_nil)))))))))))))))), fun ds d hR G0 H0 Q Z k => ?_⟩
    obtain ⟨kind, sizes, texts, rfl, o, rfl⟩ := hR
    have htl := o.tl
    unfold solveI at k
    refine q_when (et_not (et_B (ev_call (d := .bl (fitB kind sizes texts.length)) (ea_cons (ev_var rfl) (ea_cons (ev_var rfl) (ea_cons (ev_is (ev_len rfl (ev_var rfl).r .inp) (show D.int ((dTx texts).length : Nat) = .int (texts.length : Nat) by unfold dTx; rw [List.length_map])) ea_nil))) ⟨kind, sizes, (texts.length : Nat), .inp (dN sizes), rfl, .inp, o.sl, congrArg D.bl (fitZ_nat kind sizes texts.length).symm⟩).r)) (fun q => ?_) (fun q => ?_)
    · have q' : fitB kind sizes texts.length = false := by simpa using q
      rw [if_pos q'] at k
      exact c_ret (n_lst (ea_cons ev_i ea_nil) (by decide)).ev k
    · have q' : fitB kind sizes texts.length = true := by simpa using q
      rw [if_neg (by rw [q']; decide)] at k
      obtain ⟨f1, f2, f3, f4, f5⟩ := fit_facts q'
      refine q_asg (d := .lst ((osOf texts).map dOTs)) (ev_is (n_lc (it_list (ev_var rfl) .inp) _ [8] (fun d as => as.set 8 (.dat d)) (fun d hd => tg_name) (by decide) (fun _ => true) readD (by unfold dTx; rw [List.length_map]; omega) (fun d hd => et_yes) (fun d hd _ => ?_)).ev ?_) ?_
      · obtain ⟨t, ht, rfl⟩ := List.mem_map.mp hd
        rw [readD_at]
        exact ev_call (ea_cons (ev_var rfl) ea_nil) ⟨t, rfl, o.tt t ht, rfl⟩
      · rw [picked_all (fun _ _ => rfl)]
        unfold dTx osOf
        rw [List.map_map, List.map_map]
        exact congrArg D.lst (List.map_congr_left fun t _ => readD_at t)
      · refine q_asg (d := .int (refusal (osOf texts))) (ev_call (ea_cons (ev_var rfl) ea_nil) ⟨osOf texts, rfl, by unfold osOf; rw [List.length_map]; exact htl, o.ol, rfl⟩) ?_
        refine q_when (et_test (ev_neI (ev_var rfl).r ev_i.r).r) (fun q2 => ?_) (fun q2 => ?_)
        · have r0 : refusal (osOf texts) ≠ 0 := by simpa using q2
          rw [if_pos r0] at k
          exact c_ret (n_lst (ea_cons (ev_var rfl) ea_nil) (by show 1 ≤ 1000000; decide)).ev k
        · have r0 : refusal (osOf texts) = 0 := by simpa using q2
          rw [if_neg (by rw [r0]; decide)] at k
          have hls := o.ls r0
          have hes := o.es q' r0
          have hel := o.el q' r0
          have hll : (lsOf texts).length = upTo sizes := by unfold lsOf osOf; rw [List.length_map, List.length_map]; exact f5
          refine q_asg (d := .lst (dEs (esOf sizes texts))) (ev_call (ea_cons (ev_var rfl) (ea_cons (ev_is (ev_var rfl) (show D.lst ((osOf texts).map dOTs) = .lst (dLT (lsOf texts)) from congrArg D.lst (os_ls r0))) ea_nil)) ⟨sizes, lsOf texts, .inp (dN sizes), rfl, .inp, by omega, fun n hn => (f4 n hn).2, hll, hls, rfl⟩) ?_
          have hel2 := eqs_len sizes (lsOf texts)
          rw [show eqsI sizes (lsOf texts) = esOf sizes texts from rfl] at hel2
          generalize esOf sizes texts = es at *
          refine q_when (et_B (ev_any (bs := es.map zeroE) (ev_is (n_lc (it_list (ev_var rfl) .lst) _ [9, 10] (two 9 10) (fun d hd => dEs_tg d hd) (by decide) (fun _ => true) (fun d => .bl (zeroE (toE d))) (by rw [dEs_len]; omega) (fun d hd => et_yes) (fun d hd _ => ?_)).ev ?_).r).r) (fun q3 => ?_) (fun q3 => ?_)
          · obtain ⟨e, he, rfl⟩ := List.mem_map.mp hd
            rw [toE_dE]
            exact ev_call (ea_cons (ev_var rfl) ea_nil) ⟨e.1, rfl, by have := (hes e he).1; omega, rfl⟩
          · rw [picked_all (fun _ _ => rfl)]
            unfold dEs dB
            rw [List.map_map, List.map_map]
            refine congrArg D.lst (List.map_congr_left fun e _ => ?_)
            show D.bl (zeroE (toE (dE e))) = _
            rw [toE_dE]; rfl
          · rw [List.any_map] at q3
            rw [if_pos (by exact q3)] at k
            exact c_ret (n_lst (ea_cons ev_i ea_nil) (by decide)).ev k
          · rw [List.any_map] at q3
            have z0 : es.any zeroE = false := q3
            rw [if_neg (by rw [z0]; decide)] at k
            obtain ⟨hm1, hrest⟩ := hel z0
            have hne : es ≠ [] := fun z => by rw [z] at hel2; simp at hel2; omega
            have hnz : ∀ e ∈ es, ∃ p ∈ e.1, p ≠ [] := fun e he => by
              have := List.any_eq_false.mp z0 e he
              unfold zeroE at this
              simpa using this
            refine q_asg (d := .int (hiOf kind es)) (ev_min (ns := es.map fun e => highI kind e.1 e.2) (m := hiOf kind es) (ev_is (n_lc (it_list (ev_var rfl) .lst) _ [9, 10] (two 9 10) (fun d hd => dEs_tg d hd) (by decide) (fun _ => true) (fun d => .int (highI kind (toE d).1 (toE d).2)) (by rw [dEs_len]; omega) (fun d hd => et_yes) (fun d hd _ => ?_)).ev ?_).r (minL_mem fun z => hne (List.map_eq_nil_iff.mp z)) (fun y hy => minL_le hy)) ?_
            · obtain ⟨e, he, rfl⟩ := List.mem_map.mp hd
              have h := hes e he
              rw [toE_dE]
              exact ev_call (ea_cons (ev_var rfl) (ea_cons (ev_var rfl) (ea_cons (ev_var rfl) ea_nil))) ⟨kind, e.1, e.2, rfl, h.1, h.2.1, h.2.2.1, hnz e he, rfl⟩
            · rw [picked_all (fun _ _ => rfl)]
              unfold dEs dI
              rw [List.map_map, List.map_map]
              refine congrArg D.lst (List.map_congr_left fun e _ => ?_)
              show D.int (highI kind (toE (dE e)).1 (toE (dE e)).2) = _
              rw [toE_dE]; rfl
            · refine q_when (et_test (ev_opB (ev_var rfl).r ev_i.r).r) (fun q4 => ?_) (fun q4 => ?_)
              · have h24 : 24 < hiOf kind es := by have := of_decide_eq_true q4; omega
                rw [if_pos h24] at k
                exact c_ret (n_lst (ea_cons ev_i ea_nil) (by decide)).ev k
              · have h24 : ¬ 24 < hiOf kind es := by have := of_decide_eq_false q4; omega
                rw [if_neg h24] at k
                obtain ⟨hok, htold⟩ := hrest (by omega)
                have hce : hiOf kind es + 1 = ((cntOf kind es : Nat) : Int) := by unfold cntOf; omega
                have hcl : cntOf kind es ≤ 25 := by omega
                have hev : D.int (hiOf kind es + 1) = .int ((cntOf kind es : Nat) : Int) := by rw [hce]
                have htold := htold _ rfl
                have oks := hok (cntOf kind es) (Nat.le_refl _)
                refine q_asg (d := elAns (cntOf kind es) (elOf kind es (cntOf kind es))) (ev_call (ea_cons (ev_call (ea_cons (ev_var rfl) (ea_cons (ev_var rfl) (ea_cons (ev_is (ev_opI (ev_var rfl).r ev_i.r) hev) ea_nil))) ⟨kind, es, cntOf kind es, rfl, by omega, fun e he => (hes e he).2.2.2, by omega, rfl⟩) (ea_cons (ev_is (ev_opI (ev_var rfl).r ev_i.r) hev) ea_nil)) ⟨rowsI kind es (cntOf kind es), cntOf kind es, rfl, by omega, hok, rfl⟩) ?_
                generalize elOf kind es (cntOf kind es) = s at *
                generalize cntOf kind es = c at *
                unfold endI at k
                have hA : elAns c s = if noneI c s = true then .non else .tup [.int s.former, .lst (dI (specialI s.rows s.piv c)), .lst (dLL (othersI c s))] := rfl
                rw [hA]
                refine q_when (b := noneI c s) (et_is (et_B (ev_isN (ev_var rfl).r).r) ?_) (fun q5 => ?_) (fun q5 => ?_)
                · by_cases n : noneI c s = true
                  · rw [if_pos n, n]; rfl
                  · rw [if_neg n]
                    have : noneI c s = false := by simpa using n
                    rw [this]; rfl
                · rw [if_pos q5] at k
                  exact c_ret (n_lst (ea_cons ev_i ea_nil) (by decide)).ev k
                · have n5 : ¬ noneI c s = true := by rw [q5]; decide
                  rw [if_neg n5] at k
                  rw [if_neg n5]
                  obtain ⟨t1, t2⟩ := htold q5
                  have hol : (othersI c s).length ≤ 1000 := by
                    unfold othersI freeOf
                    rw [List.length_map]
                    have := List.length_filter_le (fun x => decide (x ∉ s.piv)) (List.range c)
                    rw [List.length_range] at this
                    omega
                  refine c_ret (ev_is (ev_call (ea_cons (ev_is (ev_len rfl (ev_ixT (k := 2) (ev_var rfl) ev_i.r rfl).r .lst) (show D.int ((dLL (othersI c s)).length : Nat) = .int ((othersI c s).length : Nat) by rw [dLL_len])) (ea_cons (ev_is (n_cat (n_lst (ea_cons (ev_ixT (k := 1) (ev_var rfl) ev_i.r rfl) ea_nil) (by show 1 ≤ 1000000; decide)).ev (ev_ixT (k := 2) (ev_var rfl) ev_i.r rfl) (by rw [dLL_len]; show 1 + _ ≤ _; omega)).ev (show D.lst ([D.lst (dI (specialI s.rows s.piv c))] ++ dLL (othersI c s)) = .lst (dLL (specialI s.rows s.piv c :: othersI c s)) from rfl)) (ea_cons (ev_ixT (k := 0) (ev_var rfl) ev_i.r rfl) ea_nil))) ⟨(othersI c s).length, specialI s.rows s.piv c :: othersI c s, s.former, rfl, oks.f.1, oks.f.2, by rw [List.length_cons]; omega, t1, t2, rfl⟩) ?_) k
                  rw [← dN_dI]
                  rfl
end Pg
set_option Elab.async false
set_option linter.all false
namespace Hd
open AlOne (Uni value)
open Sl (co cq Rel RelAll Tr TrI ra)
open Pg
/-! ### by differences -/
def bsI (j : Nat) : Nat → List (List Int) → Nat → Int
  | _, [], _ => 0
  | i, p :: l, n => (Al10.binomial i j : Int) * co p n + bsI j (i + 1) l n
def bsQ (j : Nat) : Nat → List Uni → Nat → Rat
  | _, [], _ => 0
  | i, p :: l, n => (Al10.binomial i j : Rat) * cq p n + bsQ j (i + 1) l n
theorem bin_one (n : Nat) : Al10.binomial n 0 = 1 := by cases n <;> rfl
theorem bin_zero : ∀ (i j : Nat), i < j → Al10.binomial i j = 0
  | i, 0, h => by omega
  | 0, j + 1, _ => rfl
  | i + 1, j + 1, h => by
    show Al10.binomial i j + Al10.binomial i (j + 1) = 0
    rw [bin_zero i j (by omega), bin_zero i (j + 1) (by omega)]
theorem bs_zero (j n : Nat) : ∀ (l : List (List Int)) (i : Nat), i + l.length ≤ j → bsI j i l n = 0
  | [], _, _ => rfl
  | p :: l, i, h => by
    rw [List.length_cons] at h
    show (Al10.binomial i j : Int) * co p n + bsI j (i + 1) l n = 0
    rw [bin_zero i j (by omega), bs_zero j n l (i + 1) (by omega)]
    simp
theorem bs_first (n : Nat) : ∀ (l : List (List Int)) (i : Nat), bsI 0 (i + 1) l n = bsI 0 i l n
  | [], _ => rfl
  | p :: l, i => by
    show (Al10.binomial (i + 1) 0 : Int) * co p n + bsI 0 (i + 1 + 1) l n = (Al10.binomial i 0 : Int) * co p n + bsI 0 (i + 1) l n
    rw [bin_one, bin_one, bs_first n l (i + 1)]
theorem bs_next (j n : Nat) : ∀ (l : List (List Int)) (i : Nat), bsI (j + 1) (i + 1) l n = bsI j i l n + bsI (j + 1) i l n
  | [], _ => rfl
  | p :: l, i => by
    show ((Al10.binomial i j + Al10.binomial i (j + 1) : Nat) : Int) * co p n + bsI (j + 1) (i + 1 + 1) l n = ((Al10.binomial i j : Int) * co p n + bsI j (i + 1) l n) + ((Al10.binomial i (j + 1) : Int) * co p n + bsI (j + 1) (i + 1) l n)
    rw [bs_next j n l (i + 1), Int.natCast_add, Int.add_mul]
    omega
theorem byD_co : ∀ (as : List (List Int)) (j n : Nat), co ((byD as).getD j []) n = bsI j 0 as n
  | [], j, n => by
    show co (([] : List (List Int)).getD j []) n = 0
    rw [List.getD_nil]; rfl
  | p :: as, j, n => by
    rw [byD_cons]
    cases j with
    | zero =>
      rw [List.getD_eq_getElem?_getD, byStep_zero]
      show co (Sl.plusI (Sl.plusI ((byD as).getD 0 []) []) p) n = (Al10.binomial 0 0 : Int) * co p n + bsI 0 1 as n
      rw [Sl.plusI_co, Sl.plusI_co, byD_co as 0 n, bs_first, bin_one, Sl.co_nil]
      omega
    | succ j =>
      show _ = (Al10.binomial 0 (j + 1) : Int) * co p n + bsI (j + 1) (0 + 1) as n
      rw [bs_next, bin_zero 0 (j + 1) (by omega)]
      by_cases h : j < (byD as).length
      · rw [List.getD_eq_getElem?_getD, byStep_get _ _ _ h]
        show co (Sl.plusI ((byD as).getD (j + 1) []) ((byD as).getD j [])) n = _
        rw [Sl.plusI_co, byD_co as (j + 1) n, byD_co as j n]
        omega
      · have hl := byD_len as
        rw [List.getD_eq_getElem?_getD, List.getElem?_eq_none (by rw [byStep_len]; omega), bs_zero j n as 0 (by omega), bs_zero (j + 1) n as 0 (by omega)]
        show co [] n = _
        rw [Sl.co_nil]; simp
theorem slopes_fold (j n : Nat) : ∀ (ps : List Uni) (i : Nat) (s : Uni), cq (((ps.zip (List.range' i ps.length)).map fun (x : Uni × Nat) => AlOne.scale (Al10.binomial x.2 j : Rat) x.1).foldl AlOne.add s) n = cq s n + bsQ j i ps n
  | [], i, s => by show cq s n = cq s n + 0; grind
  | p :: ps, i, s => by
    rw [List.length_cons, List.range'_succ, List.zip_cons_cons, List.map_cons, List.foldl_cons, slopes_fold j n ps (i + 1), Sl.add_cq, Sl.scale_cq]
    show cq s n + (Al10.binomial i j : Rat) * cq p n + bsQ j (i + 1) ps n = cq s n + ((Al10.binomial i j : Rat) * cq p n + bsQ j (i + 1) ps n)
    grind
theorem bs_rel {s : Rat} {as : List (List Int)} {ps : List Uni} (h : RelAll s as ps) (j n : Nat) : ∀ i, (bsI j i as n : Rat) = s * bsQ j i ps n := by
  induction h with
  | nil => intro i; show ((0 : Int) : Rat) = s * 0; rw [show ((0 : Int) : Rat) = 0 from rfl]; grind
  | cons ha hr ih =>
    intro i
    rename_i a p as ps
    show (((Al10.binomial i j : Int) * co a n + bsI j (i + 1) as n : Int) : Rat) = s * ((Al10.binomial i j : Rat) * cq p n + bsQ j (i + 1) ps n)
    rw [Rat.intCast_add, Rat.intCast_mul, ih (i + 1), ha n, Rat.intCast_natCast]
    grind
theorem relAll_len {s : Rat} {as : List (List Int)} {ps : List Uni} (h : RelAll s as ps) : as.length = ps.length := by
  induction h with
  | nil => rfl
  | cons _ _ ih => simp [ih]
theorem relAll_of {s : Rat} : ∀ {as : List (List Int)} {ps : List Uni}, as.length = ps.length → (∀ j, j < as.length → Rel s (as.getD j []) (ps.getD j [])) → RelAll s as ps
  | [], [], _, _ => .nil
  | [], _ :: _, h, _ => by simp at h
  | _ :: _, [], h, _ => by simp at h
  | a :: as, p :: ps, h, hr => .cons (hr 0 (by simp)) (relAll_of (by simpa using h) fun j hj => hr (j + 1) (by simpa using hj))
theorem shares_rel {s : Rat} {as : List (List Int)} {ps : List Uni} (kind : Nat) (h : RelAll s as ps) : RelAll s (sharesI kind as) (Al10.bySlopes kind ps) := by
  unfold sharesI Al10.bySlopes
  by_cases q : kind = 0
  · rw [if_pos q, if_pos q]; exact h
  · rw [if_neg q, if_neg q]
    have hl := relAll_len h
    refine relAll_of (by rw [byD_len, List.length_map, List.length_range, hl]) fun j hj n => ?_
    rw [byD_len] at hj
    rw [byD_co, List.getD_eq_getElem?_getD, List.getElem?_map, List.getElem?_range (by omega)]
    show (bsI j 0 as n : Rat) = s * cq (((ps.zip (List.range ps.length)).map fun (x : Uni × Nat) => AlOne.scale (Al10.binomial x.2 j : Rat) x.1).foldl AlOne.add []) n
    rw [List.range_eq_range', slopes_fold, bs_rel h, Sl.cq_nil]
    grind
theorem fold_tr : ∀ (l : List Uni) (s : Uni), Tr s → Tr (l.foldl AlOne.add s)
  | [], s, h => h
  | p :: l, s, h => fold_tr l _ (Sl.add_tr _ _)
theorem bySlopes_tr {ps : List Uni} (kind : Nat) (h : ∀ p ∈ ps, Tr p) : ∀ q ∈ Al10.bySlopes kind ps, Tr q := by
  unfold Al10.bySlopes
  by_cases q : kind = 0
  · rw [if_pos q]; exact h
  · rw [if_neg q]
    intro x hx
    obtain ⟨j, _, rfl⟩ := List.mem_map.mp hx
    exact fold_tr _ _ Sl.tr_nil
/-! ### lengths and last numbers -/
theorem rat_zero {s : Rat} {a b : Rat} (hs : s ≠ 0) (h : a = s * b) : a = 0 ↔ b = 0 := by
  constructor
  · intro z
    rw [z] at h
    rcases Rat.mul_eq_zero.mp h.symm with e | e
    · exact absurd e hs
    · exact e
  · intro z; rw [h, z]; grind
theorem int_zero {a : Int} : (a : Rat) = 0 ↔ a = 0 := by
  constructor
  · intro h; exact Rat.intCast_inj.mp h
  · intro h; rw [h]; rfl
theorem co_zero_iff {s : Rat} {a : List Int} {p : Uni} (hs : s ≠ 0) (h : Rel s a p) (n : Nat) : co a n = 0 ↔ cq p n = 0 := int_zero.symm.trans (rat_zero hs (h n))
theorem cq_ge {p : Uni} {n : Nat} (h : p.length ≤ n) : cq p n = 0 := by
  unfold cq; rw [List.getD_eq_getElem?_getD, List.getElem?_eq_none h]; rfl
theorem rel_len {s : Rat} {a : List Int} {p : Uni} (hs : s ≠ 0) (h : Rel s a p) (ha : TrI a) (hp : Tr p) : a.length = p.length := by
  have h1 : a.length ≤ p.length := len_of_co ha fun m hm => (co_zero_iff hs h m).mpr (cq_ge hm)
  have h2 : p.length ≤ a.length := St.len_of hp fun m hm => (co_zero_iff hs h m).mp (Sl.co_ge hm)
  omega
theorem rel_nil {s : Rat} {a : List Int} {p : Uni} (hs : s ≠ 0) (h : Rel s a p) (ha : TrI a) (hp : Tr p) : a = [] ↔ p = [] := by
  rw [← List.length_eq_zero_iff, ← List.length_eq_zero_iff, rel_len hs h ha hp]
theorem last_co {a : List Int} (h : a ≠ []) : a.getLastD 0 = co a (a.length - 1) := by
  unfold co
  rw [List.getD_eq_getElem?_getD, ← List.getLast?_eq_getElem?, List.getLast?_eq_some_getLast h]
  cases a with
  | nil => exact absurd rfl h
  | cons c l => rfl
theorem rel_last {s : Rat} {a : List Int} {p : Uni} (hs : s ≠ 0) (h : Rel s a p) (ha : TrI a) (hp : Tr p) (h0 : a ≠ []) : ((a.getLastD 0 : Int) : Rat) = s * AlOne.lead p := by
  have hp0 : p ≠ [] := fun z => h0 ((rel_nil hs h ha hp).mpr z)
  rw [last_co h0, St.lead_cq hp0, rel_len hs h ha hp]
  exact h _
theorem fall_rel : ∀ n, Rel 1 (fallI n) (Al10.falling n)
  | 0 => fun n => by
    show ((co [1] n : Int) : Rat) = 1 * cq [1] n
    cases n with
    | zero => rw [Sl.co_zero, Sl.cq_zero, show ((1 : Int) : Rat) = 1 from rfl]; grind
    | succ n => rw [Sl.co_succ, Sl.cq_succ, Sl.co_nil, Sl.cq_nil, show ((0 : Int) : Rat) = 0 from rfl]; grind
  | n + 1 => by
    have h := Sl.times_rel (fall_rel n) (show Rel 1 [-(n : Int), 1] (AlOne.trim [-((n : Nat) : Rat), 1]) from fun m => by
      rw [Sl.trim_cq]
      match m with
      | 0 => show ((-(n : Int) : Int) : Rat) = 1 * -((n : Nat) : Rat); rw [Rat.intCast_neg, Rat.intCast_natCast]; grind
      | 1 => rw [Sl.co_succ, Sl.cq_succ, Sl.co_zero, Sl.cq_zero, show ((1 : Int) : Rat) = 1 from rfl]; grind
      | m + 2 => rw [Sl.co_ge (by simp), cq_ge (by simp), show ((0 : Int) : Rat) = 0 from rfl]; grind)
    intro m
    have := h m
    rw [show (1 : Rat) * 1 = 1 by grind] at this
    exact this
/-! ### the growth -/
def rsI : Nat → List (List Int) → List Int
  | _, [] => []
  | i, a :: l => if a ≠ [] then ((a.length : Int) - 1 - (i : Int)) :: rsI (i + 1) l else rsI (i + 1) l
theorem rs_eq : ∀ (S : List (List Int)) (i : Nat), ((S.zipIdx i).filter fun x => decide (x.1 ≠ [])).map (fun x => (x.1.length : Int) - 1 - (x.2 : Int)) = rsI i S
  | [], _ => rfl
  | a :: S, i => by
    rw [List.zipIdx_cons, List.filter_cons]
    unfold rsI
    by_cases h : a ≠ []
    · rw [if_pos h, if_pos (decide_eq_true h), List.map_cons, rs_eq S (i + 1)]
    · rw [if_neg h, if_neg (by simpa using h), rs_eq S (i + 1)]
def og (s : Option Int) (d : Int) : Option Int := some (match s with | none => d | some e => max e d)
theorem og_some : ∀ (l : List Int) (e : Int), l.foldl og (some e) = some (l.foldl max e)
  | [], _ => rfl
  | d :: l, e => og_some l (max e d)
theorem og_max (l : List Int) (h : l ≠ []) : l.foldl og none = some (maxL l) := by
  cases l with
  | nil => exact absurd rfl h
  | cons d l => exact og_some l d
theorem growth_from {s : Rat} (hs : s ≠ 0) {S : List (List Int)} {qs : List Uni} (h : RelAll s S qs) : (∀ a ∈ S, TrI a) → (∀ q ∈ qs, Tr q) → ∀ (i : Nat) (o : Option Int), (((qs.zip (List.range' i qs.length)).filter fun (x : Uni × Nat) => decide (x.1 ≠ [])).foldl (fun (s : Option Int) (x : Uni × Nat) =>
  let d : Int := (AlOne.degree x.1 : Int) - (x.2 : Int)
  some (match s with
    | none => d
    | some e => max e d)) o) = (rsI i S).foldl og o := by
  induction h with
  | nil => intro _ _ i o; rfl
  | cons ha hr ih =>
    rename_i a q S qs
    intro hS hq i o
    have ta := hS a (List.mem_cons_self ..)
    have tq := hq q (List.mem_cons_self ..)
    have ih' := ih (fun x hx => hS x (List.mem_cons_of_mem _ hx)) (fun x hx => hq x (List.mem_cons_of_mem _ hx)) (i + 1)
    have hn := rel_nil hs ha ta tq
    rw [List.length_cons, List.range'_succ, List.zip_cons_cons, List.filter_cons]
    unfold rsI
    by_cases h0 : a = []
    · rw [if_neg (by simpa using hn.mp h0), if_neg (by simpa using h0)]
      exact ih' o
    · have q0 : q ≠ [] := fun z => h0 (hn.mpr z)
      rw [if_pos (decide_eq_true q0), if_pos h0, List.foldl_cons, List.foldl_cons]
      have hd : (AlOne.degree q : Int) - (i : Int) = (a.length : Int) - 1 - (i : Int) := by
        unfold AlOne.degree
        have hl := rel_len hs ha ta tq
        have : 0 < q.length := List.length_pos_iff.mpr q0
        omega
      have e : og o ((a.length : Int) - 1 - (i : Int)) = some (match o with | none => (AlOne.degree q : Int) - (i : Int) | some e => max e ((AlOne.degree q : Int) - (i : Int))) := by rw [hd]; rfl
      rw [e]
      exact ih' _
theorem growth_is {s : Rat} (hs : s ≠ 0) {S : List (List Int)} {qs : List Uni} (h : RelAll s S qs) (hS : ∀ a ∈ S, TrI a) (hq : ∀ q ∈ qs, Tr q) (h0 : ∃ p ∈ S, p ≠ []) : Al10.growth qs = some (riseI S) := by
  unfold Al10.growth
  rw [List.range_eq_range']
  refine _root_.Eq.trans (growth_from hs h hS hq 0 none) ?_
  have e : rsI 0 S = risesI S := (rs_eq S 0).symm
  rw [e]
  exact og_max _ (rises_ne h0)
/-! ### what stands at the highest power -/
theorem top_from {s : Rat} (hs : s ≠ 0) {S : List (List Int)} {qs : List Uni} (h : RelAll s S qs) (b : Int) : (∀ a ∈ S, TrI a) → (∀ q ∈ qs, Tr q) → ∀ (i : Nat) (t : List Int) (T : Uni), Rel s t T → Rel s ((S.zipIdx i).foldl (leadStep b) t) (((qs.zip (List.range' i qs.length)).map fun (x : Uni × Nat) => if x.1 ≠ [] ∧ (AlOne.degree x.1 : Int) - (x.2 : Int) = b then AlOne.scale (AlOne.lead x.1) (Al10.falling x.2) else []).foldl AlOne.add T) := by
  induction h with
  | nil => intro _ _ i t T h; exact h
  | cons ha hr ih =>
    rename_i a q S qs
    intro hS hq i t T hT
    have ta := hS a (List.mem_cons_self ..)
    have tq := hq q (List.mem_cons_self ..)
    have ih' := ih (fun x hx => hS x (List.mem_cons_of_mem _ hx)) (fun x hx => hq x (List.mem_cons_of_mem _ hx)) (i + 1)
    have hn := rel_nil hs ha ta tq
    rw [List.length_cons, List.range'_succ, List.zip_cons_cons, List.zipIdx_cons, List.map_cons, List.foldl_cons, List.foldl_cons]
    refine ih' _ _ ?_
    unfold leadStep
    have hc : (q ≠ [] ∧ (AlOne.degree q : Int) - (i : Int) = b) ↔ (a ≠ [] ∧ (a.length : Int) - 1 - (i : Int) = b) := by
      have hl := rel_len hs ha ta tq
      unfold AlOne.degree
      constructor
      · rintro ⟨h1, h2⟩
        have : 0 < q.length := List.length_pos_iff.mpr h1
        exact ⟨fun z => h1 (hn.mp z), by omega⟩
      · rintro ⟨h1, h2⟩
        have : 0 < a.length := List.length_pos_iff.mpr h1
        exact ⟨fun z => h1 (hn.mpr z), by omega⟩
    by_cases q1 : a ≠ [] ∧ (a.length : Int) - 1 - (i : Int) = b
    · rw [if_pos q1, if_pos (hc.mpr q1)]
      intro n
      show ((co (Sl.plusI t (Sl.timesI [a.getLastD 0] (fallI i))) n : Int) : Rat) = _
      rw [lead_co, Sl.add_cq, Sl.scale_cq, Rat.intCast_add, Rat.intCast_mul, hT n, rel_last hs ha ta tq q1.1, fall_rel i n]
      grind
    · rw [if_neg q1, if_neg fun z => q1 (hc.mp z)]
      intro n
      rw [Sl.add_cq, Sl.cq_nil, hT n]
      grind
theorem top_rel {s : Rat} (hs : s ≠ 0) {S : List (List Int)} {qs : List Uni} (h : RelAll s S qs) (b : Int) (hS : ∀ a ∈ S, TrI a) (hq : ∀ q ∈ qs, Tr q) : Rel s (leadI S b) (Al10.topOf qs b) := by
  unfold leadI Al10.topOf
  rw [List.range_eq_range']
  exact top_from hs h b hS hq 0 [] [] fun n => by rw [Sl.co_nil, Sl.cq_nil]; show (0 : Rat) = s * 0; grind
theorem top_tr (qs : List Uni) (b : Int) : Tr (Al10.topOf qs b) := fold_tr _ _ Sl.tr_nil
theorem val_rel {s : Rat} (hs : s ≠ 0) {a : List Int} {p : Uni} (h : Rel s a p) (k : Nat) : Ht.valI a (k : Int) = 0 ↔ value (k : Rat) p = 0 := by
  have e : value (k : Rat) (ra a) = s * value (k : Rat) p := by
    rw [← St.value_scale]
    exact Ht.value_congr _ _ _ fun n => by rw [Sl.ra_cq, Sl.scale_cq, h n]
  have e2 := Ht.valI_cast (k : Int) a
  rw [Rat.intCast_natCast, e] at e2
  exact int_zero.symm.trans (rat_zero hs e2)
set_option maxHeartbeats 2000000
/-- **how high a solution may be** -/
theorem high_is {s : Rat} (hs : s ≠ 0) {kind : Nat} {as : List (List Int)} {f : List Int} {e : Al10.Eq} (h : RelAll s as e.ps) (hf : Rel s f e.f) (ta : ∀ a ∈ as, TrI a) (tp : ∀ p ∈ e.ps, Tr p) (tf : TrI f) (tg : Tr e.f) (hl : as.length ≤ 4) (ho : ∀ a ∈ as, Okl 7900 a) (h0 : ∃ p ∈ as, p ≠ []) : Al10.high kind e = if highI kind as f < 0 then none else some (highI kind as f).toNat := by
  obtain ⟨s1, s2, s3, s4⟩ := shares_ok (kind := kind) hl ho ta h0
  obtain ⟨l1, l2, l3, l4⟩ := lead_facts s1 s2 s3 s4
  have hr := shares_rel kind h
  have tq := bySlopes_tr kind tp
  have hg := growth_is hs hr s3 tq s4
  have htop := top_rel hs hr (riseI (sharesI kind as)) s3 tq
  have tt := top_tr (Al10.bySlopes kind e.ps) (riseI (sharesI kind as))
  unfold Al10.high
  show (match Al10.growth (Al10.bySlopes kind e.ps) with
    | none => none
    | some b =>
      let l := Al10.naturals (Al03.ratRoots (Al10.topOf (Al10.bySlopes kind e.ps) b)) ++ (if e.f = [] ∨ (AlOne.degree e.f : Int) < b then [] else [((AlOne.degree e.f : Int) - b).toNat])
      if l = [] then none else some (l.foldl max 0)) = _
  rw [hg]
  show (if (Al10.naturals (Al03.ratRoots (Al10.topOf (Al10.bySlopes kind e.ps) (riseI (sharesI kind as)))) ++ (if e.f = [] ∨ (AlOne.degree e.f : Int) < riseI (sharesI kind as) then [] else [((AlOne.degree e.f : Int) - riseI (sharesI kind as)).toNat])) = [] then none else some ((Al10.naturals (Al03.ratRoots (Al10.topOf (Al10.bySlopes kind e.ps) (riseI (sharesI kind as)))) ++ (if e.f = [] ∨ (AlOne.degree e.f : Int) < riseI (sharesI kind as) then [] else [((AlOne.degree e.f : Int) - riseI (sharesI kind as)).toNat])).foldl max 0)) = _
  unfold highI
  generalize sharesI kind as = S at *
  generalize riseI S = b at *
  generalize Al10.topOf (Al10.bySlopes kind e.ps) b = T at *
  have hT0 : T ≠ [] := fun z => l1 ((rel_nil hs htop l2 tt).mpr z)
  have hTl : T.length ≤ 4 := by rw [← rel_len hs htop l2 tt]; exact l3
  obtain ⟨g1, g2, g3⟩ := Ht.gRoot_is l2 l1
  have hmem : ∀ x : Nat, x ∈ Al10.naturals (Al03.ratRoots T) ↔ Ht.valI (leadI S b) (x : Int) = 0 := fun x => (St.nat_roots tt hT0 hTl x).trans (val_rel hs htop x).symm
  generalize Al10.naturals (Al03.ratRoots T) = N at *
  generalize Ht.gRoot (leadI S b) = g at *
  clear s2 l4 ho hg htop tt tq hr s3 s4 s1 l2 l3 hT0 hTl ta tp h h0 l1
  have hfl := rel_len hs hf tf tg
  have hfn := rel_nil hs hf tf tg
  have fin : ∀ (l : List Nat) (H : Int), (∀ x ∈ l, (x : Int) ≤ H) → (0 ≤ H → H.toNat ∈ l) → (if l = [] then none else some (l.foldl max 0)) = if H < 0 then none else some H.toNat := by
    intro l H a1 a2
    by_cases q : H < 0
    · have : l = [] := by
        cases l with
        | nil => rfl
        | cons x l => have := a1 x (List.mem_cons_self ..); omega
      rw [if_pos q, if_pos this]
    · have m := a2 (by omega)
      have n : l ≠ [] := fun z => by rw [z] at m; cases m
      rw [if_neg q, if_neg n]
      have u1 := (St.max_fold l 0).2 _ m
      have u2 : l.foldl max 0 ≤ H.toNat := by
        rcases Ht.fold_max_mem l 0 with w | w
        · omega
        · have := a1 _ w; omega
      congr 1
      omega
  refine fin _ _ (fun x hx => ?_) (fun hH => ?_)
  · rcases List.mem_append.mp hx with w | w
    · have := g3 x ((hmem x).mp w)
      split
      · exact this
      · omega
    · split at w
      · cases w
      · rename_i q
        rw [List.mem_singleton] at w
        have q1 : e.f ≠ [] := fun z => q (.inl z)
        have q2 : ¬ (AlOne.degree e.f : Int) < b := fun z => q (.inr z)
        rw [if_neg fun z => q1 (hfn.mp z)]
        have : 0 < e.f.length := List.length_pos_iff.mpr q1
        unfold AlOne.degree at *
        omega
  · have root : 0 ≤ g → g.toNat ∈ N := fun hg0 => by
      rcases g1 with w | ⟨k, w1, w2⟩
      · omega
      · have : g.toNat = k := by omega
        rw [this]
        exact (hmem _).mpr w2
    by_cases q : f = []
    · rw [if_pos q]
      rw [if_pos q] at hH
      exact List.mem_append.mpr (.inl (root hH))
    · rw [if_neg q]
      rw [if_neg q] at hH
      by_cases q2 : (f.length : Int) - 1 - b ≤ g
      · rw [Int.max_eq_left q2]
        rw [Int.max_eq_left q2] at hH
        exact List.mem_append.mpr (.inl (root hH))
      · have q3 : g ≤ (f.length : Int) - 1 - b := by omega
        rw [Int.max_eq_right q3]
        rw [Int.max_eq_right q3] at hH
        have q1 : e.f ≠ [] := fun z => q (hfn.mpr z)
        have : 0 < e.f.length := List.length_pos_iff.mpr q1
        refine List.mem_append.mpr (.inr ?_)
        unfold AlOne.degree
        rw [if_neg (by rintro (z | z); exact q1 z; omega), List.mem_singleton]
        omega
end Hd
set_option Elab.async false
set_option linter.all false
namespace Hd
open AlOne (Uni)
open Sl (Rel RelAll Tr TrI)
open Pg
/-- an equation, s times the specification's -/
structure EqOk (s : Rat) (a : EqI) (e : Al10.Eq) : Prop where
  s0 : s ≠ 0
  ps : RelAll s a.1 e.ps
  f : Rel s a.2 e.f
  ta : ∀ p ∈ a.1, TrI p
  tp : ∀ p ∈ e.ps, Tr p
  tf : TrI a.2
  tg : Tr e.f
  l : a.1.length ≤ 4
  o : ∀ p ∈ a.1, Okl 7900 p
def optH (h : Int) : Option Nat := if h < 0 then none else some h.toNat
theorem high_eq {s : Rat} {a : EqI} {e : Al10.Eq} {kind : Nat} (h : EqOk s a e) (h0 : ∃ p ∈ a.1, p ≠ []) : Al10.high kind e = optH (highI kind a.1 a.2) := high_is h.s0 h.ps h.f h.ta h.tp h.tf h.tg h.l h.o h0
theorem high_one {s : Rat} {a : EqI} {e : Al10.Eq} {kind : Nat} (h : EqOk s a e) (h0 : ∃ p ∈ a.1, p ≠ []) : Al10.highAll kind [e] = optH (highI kind a.1 a.2) := high_eq h h0
theorem high_two {s t : Rat} {a b : EqI} {e g : Al10.Eq} {kind : Nat} (h : EqOk s a e) (h0 : ∃ p ∈ a.1, p ≠ []) (k : EqOk t b g) (k0 : ∃ p ∈ b.1, p ≠ []) : Al10.highAll kind [e, g] = optH (min (highI kind a.1 a.2) (highI kind b.1 b.2)) := by
  show ((Al10.high kind e).bind fun (x : Nat) => (Al10.high kind g).map fun (y : Nat) => min x y) = _
  rw [high_eq h h0, high_eq k k0]
  generalize highI kind a.1 a.2 = x
  generalize highI kind b.1 b.2 = y
  unfold optH
  by_cases hx : x < 0
  · rw [if_pos hx, if_pos (show min x y < 0 by omega)]; rfl
  · by_cases hy : y < 0
    · rw [if_neg hx, if_pos hy, if_pos (show min x y < 0 by omega)]; rfl
    · rw [if_neg hx, if_neg hy, if_neg (show ¬ min x y < 0 by omega)]
      show some (min x.toNat y.toNat) = some _
      congr 1
      omega
/-- nothing on the left side, in both -/
theorem zero_eq {s : Rat} {a : EqI} {e : Al10.Eq} (h : EqOk s a e) : (a.1.all fun p => decide (p = [])) = e.ps.all fun p => decide (p = []) := by
  have key : ∀ {as : List (List Int)} {ps : List Uni}, RelAll s as ps → (∀ p ∈ as, TrI p) → (∀ p ∈ ps, Tr p) → (as.all fun p => decide (p = [])) = ps.all fun p => decide (p = []) := by
    intro as ps hr
    induction hr with
    | nil => intro _ _; rfl
    | cons ha hr ih =>
      rename_i x p as ps
      intro h1 h2
      rw [List.all_cons, List.all_cons, ih (fun q hq => h1 q (List.mem_cons_of_mem _ hq)) (fun q hq => h2 q (List.mem_cons_of_mem _ hq))]
      congr 1
      have hn := rel_nil h.s0 ha (h1 x (List.mem_cons_self ..)) (h2 p (List.mem_cons_self ..))
      by_cases q : x = []
      · rw [decide_eq_true q, decide_eq_true (hn.mp q)]
      · rw [decide_eq_false q, decide_eq_false fun z => q (hn.mpr z)]
  exact key h.ps h.ta h.tp
end Hd
set_option Elab.async false
set_option linter.all false
namespace Pg
open El (Mat Inv sw clr num)
/-! ### the lists of the program, as tables -/
def mat (rows : List (List Int)) : Mat := fun i j => Sl.co (rows.getD i []) j
theorem getD_set {α : Type} (l : List α) (i k : Nat) (x d : α) : (l.set i x).getD k d = if i = k ∧ i < l.length then x else l.getD k d := by
  rw [List.getD_eq_getElem?_getD, List.getElem?_set, List.getD_eq_getElem?_getD]
  by_cases h : i = k
  · subst h
    by_cases h2 : i < l.length
    · simp [h2]
    · simp [h2]
  · simp [h]
theorem mat_swap {rows : List (List Int)} {r f : Nat} (hr : r < rows.length) (hf : f < rows.length) (i j : Nat) : mat (swapI rows r f) i j = mat rows (sw r f i) j := by
  unfold mat swapI sw
  rw [getD_set, getD_set, List.length_set]
  by_cases h1 : i = r
  · subst h1
    rw [if_pos rfl]
    by_cases h2 : f = i
    · subst h2; rw [if_pos ⟨rfl, hf⟩]
    · rw [if_neg (fun z => h2 z.1), if_pos ⟨rfl, hr⟩]
  · rw [if_neg h1]
    by_cases h2 : i = f
    · subst h2; rw [if_pos ⟨rfl, hf⟩, if_pos rfl]
    · rw [if_neg (fun z => h2 z.1.symm), if_neg (fun z => h1 z.1.symm), if_neg h2]
theorem swap_wid {rows : List (List Int)} {r f w : Nat} (hr : r < rows.length) (hf : f < rows.length) (h : ∀ x ∈ rows, x.length = w) : ∀ x ∈ swapI rows r f, x.length = w := fun x hx => h x (swap_mem hr hf x hx)
theorem co_zipI {a b : List Int} (f : Int × Int → Int) (h : a.length = b.length) (h0 : f (0, 0) = 0) (j : Nat) : Sl.co ((a.zip b).map f) j = f (Sl.co a j, Sl.co b j) := by
  by_cases hj : j < a.length
  · have hb : j < b.length := by omega
    unfold Sl.co
    have hz : (a.zip b)[j]? = some (a[j], b[j]) := List.getElem?_zip_eq_some.mpr ⟨List.getElem?_eq_getElem hj, List.getElem?_eq_getElem hb⟩
    rw [List.getD_eq_getElem?_getD, List.getElem?_map, hz]
    rw [List.getD_eq_getElem?_getD, List.getElem?_eq_getElem hj, List.getD_eq_getElem?_getD, List.getElem?_eq_getElem hb]
    rfl
  · rw [Sl.co_ge (l := a) (by omega), Sl.co_ge (l := b) (by omega), h0, Sl.co_ge]
    rw [List.length_map, List.length_zip]; omega
theorem clear_wid {a b : List Int} {c : Nat} {d : Int} (h : a.length = b.length) : (clearI a b c d).length = a.length := by
  unfold clearI; rw [List.length_map, List.length_zip]; omega
theorem cleared_at {rows : List (List Int)} {r c i : Nat} {d : Int} (hi : i < rows.length) : (clearedI rows r c d).getD i [] = if i = r then rows.getD i [] else clearI (rows.getD i []) (rows.getD r []) c d := by
  unfold clearedI
  rw [List.getD_eq_getElem?_getD, List.getElem?_map, List.getElem?_zipIdx, List.getElem?_eq_getElem hi]
  show (if 0 + i = r then rows[i] else clearI rows[i] (rows.getD r []) c d) = _
  rw [List.getD_eq_getElem?_getD (l := rows) (i := i), List.getElem?_eq_getElem hi, Nat.zero_add]
  rfl
theorem wid_at {rows : List (List Int)} {w i : Nat} (h : ∀ x ∈ rows, x.length = w) (hi : i < rows.length) : (rows.getD i []).length = w := h _ (getD_mem hi)
theorem mat_clear {rows : List (List Int)} {r c w i : Nat} {d : Int} (h : ∀ x ∈ rows, x.length = w) (hr : r < rows.length) (hi : i < rows.length) (j : Nat) : mat (clearedI rows r c d) i j = clr (mat rows) r c d i j := by
  unfold mat
  rw [cleared_at hi]
  unfold clr
  by_cases e : i = r
  · rw [if_pos e, if_pos e, e]
  · rw [if_neg e, if_neg e]
    unfold clearI
    rw [co_zipI _ (by rw [wid_at h hi, wid_at h hr]) (by simp)]
    rfl
theorem cleared_wid {rows : List (List Int)} {r c w : Nat} {d : Int} (h : ∀ x ∈ rows, x.length = w) (hr : r < rows.length) : ∀ x ∈ clearedI rows r c d, x.length = w := fun x hx => by
  obtain ⟨i, hi, e⟩ := List.getElem_of_mem hx
  have hi' : i < rows.length := by rw [cleared_len] at hi; exact hi
  have := cleared_at (r := r) (c := c) (d := d) hi'
  rw [List.getD_eq_getElem?_getD, List.getElem?_eq_getElem hi] at this
  have e2 : x = if i = r then rows.getD i [] else clearI (rows.getD i []) (rows.getD r []) c d := by rw [← e]; exact this
  rw [e2]
  split
  · exact wid_at h hi'
  · rw [clear_wid (by rw [wid_at h hi', wid_at h hr]), wid_at h hi']
theorem find_is {rows : List (List Int)} {r c : Nat} (hr : r ≤ rows.length) : r ≤ findP rows r c ∧ (findP rows r c < rows.length → mat rows (findP rows r c) c ≠ 0) ∧ (¬ findP rows r c < rows.length → ∀ i, r ≤ i → i < rows.length → mat rows i c = 0) := by
  unfold findP
  refine ⟨by omega, fun h => ?_, fun h i hi him => ?_⟩
  · have hl : (rows.drop r).findIdx (fun x => decide (Sl.co x c ≠ 0)) < (rows.drop r).length := by rw [List.length_drop]; omega
    have := List.findIdx_getElem (w := hl)
    unfold mat
    rw [List.getD_eq_getElem?_getD, List.getElem?_eq_getElem h]
    have e := of_decide_eq_true this
    rw [List.getElem_drop] at e
    exact e
  · have hl : (rows.drop r).findIdx (fun x => decide (Sl.co x c ≠ 0)) = (rows.drop r).length := by
      have := List.findIdx_le_length (xs := rows.drop r) (p := fun x => decide (Sl.co x c ≠ 0))
      rw [List.length_drop] at *
      omega
    have := List.findIdx_eq_length.mp hl rows[i] (by
      rw [List.mem_iff_getElem?]
      exact ⟨i - r, by rw [List.getElem?_drop, show r + (i - r) = i by omega, List.getElem?_eq_getElem him]⟩)
    unfold mat
    rw [List.getD_eq_getElem?_getD, List.getElem?_eq_getElem him]
    have e := of_decide_eq_false this
    exact Decidable.not_not.mp e
/-! ### relations -/
def sm : Nat → (Nat → Rat) → (Nat → Int) → Rat
  | 0, _, _ => 0
  | n + 1, x, a => sm n x a + x n * (a n : Rat)
theorem sm_lin {n : Nat} {x : Nat → Rat} {a b e : Nat → Int} {p s d : Int} (h : ∀ j, j < n → d * e j = p * a j - s * b j) : (d : Rat) * sm n x e = (p : Rat) * sm n x a - (s : Rat) * sm n x b := by
  induction n with
  | zero => show (d : Rat) * 0 = p * 0 - s * 0; grind
  | succ n ih =>
    have ih := ih fun j hj => h j (by omega)
    have h1 : (d : Rat) * (e n : Rat) = (p : Rat) * (a n : Rat) - (s : Rat) * (b n : Rat) := by
      rw [← Rat.intCast_mul, ← Rat.intCast_mul, ← Rat.intCast_mul, ← Rat.intCast_sub, h n (by omega)]
    show (d : Rat) * (sm n x e + x n * (e n : Rat)) = (p : Rat) * (sm n x a + x n * (a n : Rat)) - (s : Rat) * (sm n x b + x n * (b n : Rat))
    grind
theorem sm_congr {n : Nat} {x : Nat → Rat} {a b : Nat → Int} (h : ∀ j, j < n → a j = b j) : sm n x a = sm n x b := by
  induction n with
  | zero => rfl
  | succ n ih => show sm n x a + _ = sm n x b + _; rw [ih fun j hj => h j (by omega), h n (by omega)]
structure ElOk (rows : List (List Int)) (w : Nat) (s : ElS) (c : Nat) : Prop where
  len : s.rows.length = rows.length
  wid : ∀ x ∈ s.rows, x.length = w
  inv : ∃ A : Mat, (∀ i, i < rows.length → ∃ k, k < rows.length ∧ A i = mat rows k) ∧ Inv rows.length w A (mat s.rows) s.piv.reverse s.former c
  rel : ∀ x : Nat → Rat, (∀ i, i < rows.length → sm w x (mat s.rows i) = 0) ↔ ∀ i, i < rows.length → sm w x (mat rows i) = 0
theorem inv_congr {m w : Nat} {A M N : Mat} {q : List Nat} {d : Int} {c : Nat} (h : Inv m w A M q d c) (e : ∀ i, i < m → ∀ j, M i j = N i j) : Inv m w A N q d c := by
  have hl : ∀ {xs p ys}, q = xs ++ p :: ys → ys.length < m := fun {xs p ys} hq => by
    have h1 : ys.length < q.length := by rw [hq]; simp; omega
    have := h.rm
    omega
  refine ⟨h.rm, h.qc, h.dec, h.d0, h.d1, fun xs p ys hq j hj => ?_, fun i hi him j hj => ?_, fun i hi j hj => ?_, fun xs p ys hq k hk => ?_, fun p hp i hi him => ?_, fun j hj hn i hi him => ?_, fun xs p ys hq j hj hn => ?_⟩
  · rw [← e _ (hl hq)]; exact h.top xs p ys hq j hj
  · rw [← e _ him]; exact h.low i hi him j hj
  · rw [h.rel i hi j hj, ← e i hi]
    congr 1
    exact El.sq_congr q fun k p hk _ => by rw [e k (by have := h.rm; omega)]
  · rw [← e _ (by have := h.rm; omega)]; exact h.pt xs p ys hq k hk
  · rw [← e _ him]; exact h.pl p hp i hi him
  · rw [← e _ him]; exact h.zl j hj hn i hi him
  · rw [← e _ (hl hq)]; exact h.zt xs p ys hq j hj hn
theorem el_ok {rows : List (List Int)} {w : Nat} (hw : ∀ x ∈ rows, x.length = w) : ∀ c, c ≤ w → ElOk rows w (elAt rows c) c
  | 0, _ => ⟨rfl, hw, ⟨mat rows, fun i hi => ⟨i, hi, rfl⟩, El.inv_start _ _ _⟩, fun x => Iff.rfl⟩
  | c + 1, hc => by
    have ih := el_ok hw c (by omega)
    rw [el_more]
    generalize elAt rows c = s at *
    obtain ⟨A, hA, hI⟩ := ih.inv
    have hrl : s.piv.reverse.length = s.piv.length := List.length_reverse
    have hrm := hI.rm
    rw [hrl] at hrm
    obtain ⟨f1, f2, f3⟩ := find_is (rows := s.rows) (r := s.piv.length) (c := c) (by rw [ih.len]; exact hrm)
    unfold elStep
    by_cases q : findP s.rows s.piv.length c < s.rows.length
    · rw [if_pos q]
      have nz := f2 q
      generalize hf : findP s.rows s.piv.length c = f at *
      have hr : s.piv.length < s.rows.length := by omega
      have hfm : f < rows.length := by rw [← ih.len]; exact q
      have hrm' : s.piv.length < rows.length := by rw [← ih.len]; exact hr
      have I1 := El.inv_swap hI (f := f) (by rw [hrl]; exact f1) hfm
      rw [hrl] at I1
      have I2 := inv_congr (N := mat (swapI s.rows s.piv.length f)) I1 fun i _ j => (mat_swap hr q i j).symm
      have hsl : (swapI s.rows s.piv.length f).length = rows.length := by rw [swap_len, ih.len]
      have hsw := swap_wid hr q ih.wid
      have hp : mat (swapI s.rows s.piv.length f) s.piv.length c ≠ 0 := by
        rw [mat_swap hr q]
        unfold sw
        rw [if_pos rfl]; exact nz
      have I3 := El.inv_clear I2 (by rw [hrl]; exact hrm') (by omega) (by rw [hrl]; exact hp)
      rw [hrl] at I3
      have I4 := inv_congr (N := mat (clearedI (swapI s.rows s.piv.length f) s.piv.length c s.former)) I3 fun i hi j => (mat_clear hsw (by omega) (by omega) j).symm
      have e0 : elNext s c = clearedI (swapI s.rows s.piv.length f) s.piv.length c s.former := by unfold elNext; rw [hf]
      have e1 : Sl.co ((elNext s c).getD s.piv.length []) c = mat (swapI s.rows s.piv.length f) s.piv.length c := by
        rw [e0, cleared_get _ _ (by omega)]; rfl
      have e2 : (s.piv ++ [c]).reverse = c :: s.piv.reverse := by simp
      refine ⟨?_, ?_, ⟨fun i => A (sw s.piv.length f i), fun i hi => ?_, ?_⟩, fun x => ?_⟩
      · show (elNext s c).length = _
        rw [e0, cleared_len]; exact hsl
      · show ∀ x ∈ elNext s c, x.length = w
        rw [e0]; exact cleared_wid hsw (by omega)
      · exact hA _ (El.sw_lt hrm' hfm hi)
      · show Inv _ _ _ (mat (elNext s c)) (s.piv ++ [c]).reverse (Sl.co ((elNext s c).getD s.piv.length []) c) (c + 1)
        rw [e1, e0, e2]; exact I4
      · rw [← ih.rel x]
        show (∀ i, i < rows.length → sm w x (mat (elNext s c) i) = 0) ↔ _
        rw [e0]
        have hS : (∀ i, i < rows.length → sm w x (mat (swapI s.rows s.piv.length f) i) = 0) ↔ ∀ i, i < rows.length → sm w x (mat s.rows i) = 0 := by
          have em : ∀ i, sm w x (mat (swapI s.rows s.piv.length f) i) = sm w x (mat s.rows (sw s.piv.length f i)) := fun i => sm_congr fun j _ => mat_swap hr q i j
          constructor
          · intro h i hi
            have := h (sw s.piv.length f i) (El.sw_lt hrm' hfm hi)
            rw [em, El.sw_sw] at this; exact this
          · intro h i hi
            rw [em]; exact h _ (El.sw_lt hrm' hfm hi)
        rw [← hS]
        generalize swapI s.rows s.piv.length f = S at *
        have hd0 : ((s.former : Int) : Rat) ≠ 0 := fun z => hI.d0 (Rat.intCast_eq_zero_iff.mp z)
        have hp0 : ((mat S s.piv.length c : Int) : Rat) ≠ 0 := fun z => hp (Rat.intCast_eq_zero_iff.mp z)
        have hh : sm w x (mat (clearedI S s.piv.length c s.former) s.piv.length) = sm w x (mat S s.piv.length) := sm_congr fun j _ => by
          rw [mat_clear hsw (by omega) (by omega)]; exact El.clr_head
        have hk : ∀ i, i < rows.length → i ≠ s.piv.length → (s.former : Rat) * sm w x (mat (clearedI S s.piv.length c s.former) i) = (mat S s.piv.length c : Rat) * sm w x (mat S i) - (mat S i c : Rat) * sm w x (mat S s.piv.length) := fun i hi hne => sm_lin fun j hj => by
          rw [mat_clear hsw (by omega) (by omega), El.clr_at hne]
          have := El.key_any I2 (by rw [hrl]; exact hrm') (by omega) (by rw [hrl]; exact hp) (i := i) (by rw [hrl]; exact hne) hi hj
          rw [hrl] at this
          rw [← this]; rfl
        constructor
        · intro h i hi
          have h0 := h s.piv.length hrm'
          rw [hh] at h0
          by_cases e : i = s.piv.length
          · rw [e]; exact h0
          · have h1 := hk i hi e
            rw [h i hi, h0] at h1
            have h2 : ((mat S s.piv.length c : Int) : Rat) * sm w x (mat S i) = 0 := by grind
            rcases Rat.mul_eq_zero.mp h2 with z | z
            · exact absurd z hp0
            · exact z
        · intro h i hi
          by_cases e : i = s.piv.length
          · rw [e, hh]; exact h _ hrm'
          · have h1 := hk i hi e
            rw [h i hi, h _ hrm'] at h1
            have h2 : ((s.former : Int) : Rat) * sm w x (mat (clearedI S s.piv.length c s.former) i) = 0 := by grind
            rcases Rat.mul_eq_zero.mp h2 with z | z
            · exact absurd z hd0
            · exact z
    · rw [if_neg q]
      refine ⟨ih.len, ih.wid, ⟨A, hA, El.inv_skip hI fun i hi him => ?_⟩, ih.rel⟩
      rw [hrl] at hi
      exact f3 q i hi (by rw [ih.len]; exact him)
end Pg
set_option Elab.async false
set_option linter.all false
namespace Pg
open El (Mat Inv)
/-! ### what the cleared rows tell of relations -/
theorem sm_zero {x : Nat → Rat} {a : Nat → Int} : ∀ {n : Nat}, (∀ j, j < n → x j * (a j : Rat) = 0) → sm n x a = 0
  | 0, _ => rfl
  | n + 1, h => by
    show sm n x a + x n * (a n : Rat) = 0
    rw [sm_zero fun j hj => h j (by omega), h n (by omega)]; grind
theorem sm_one {x : Nat → Rat} {a : Nat → Int} {p : Nat} : ∀ {n : Nat}, p < n → (∀ j, j < n → j ≠ p → x j * (a j : Rat) = 0) → sm n x a = x p * (a p : Rat)
  | 0, h, _ => by omega
  | n + 1, hp, h => by
    show sm n x a + x n * (a n : Rat) = _
    by_cases e : n = p
    · subst e
      rw [sm_zero fun j hj => h j (by omega) (by omega)]; grind
    · rw [sm_one (by omega) fun j hj => h j (by omega), h n (by omega) e]; grind
theorem sm_two {x : Nat → Rat} {a : Nat → Int} {p q : Nat} : ∀ {n : Nat}, p < n → q < n → p ≠ q → (∀ j, j < n → j ≠ p → j ≠ q → x j * (a j : Rat) = 0) → sm n x a = x p * (a p : Rat) + x q * (a q : Rat)
  | 0, h, _, _, _ => by omega
  | n + 1, hp, hq, hne, h => by
    show sm n x a + x n * (a n : Rat) = _
    by_cases e : n = p
    · subst e
      rw [sm_one (p := q) (by omega) fun j hj hj2 => h j (by omega) (by omega) hj2]; grind
    · by_cases e2 : n = q
      · subst e2
        rw [sm_one (p := p) (by omega) fun j hj hj2 => h j (by omega) hj2 (by omega)]
      · rw [sm_two (p := p) (q := q) (by omega) (by omega) hne fun j hj => h j (by omega), h n (by omega) e e2]; grind
theorem ratI {a : Int} (h : a = 0) : (a : Rat) = 0 := by rw [h]; rfl
section
variable {m N : Nat} {A M : Mat} {q : List Nat} {d : Int}
/-- the numbers of the pivot's row at other pivots -/
theorem piv_row (h : Inv m (N + 1) A M q d N) {xs ys : List Nat} {p : Nat} (hq : q = xs ++ p :: ys) {j : Nat} (hj : j ∈ q) (hne : j ≠ p) : M ys.length j = 0 := by
  obtain ⟨us, vs, hu⟩ := List.append_of_mem hj
  have hl : ys.length < q.length := by rw [hq]; simp; omega
  rw [h.pt us j vs hu ys.length hl, if_neg]
  intro e
  have : xs.length = us.length := by
    have a := congrArg List.length hq
    have b := congrArg List.length hu
    simp at a b; omega
  have := List.append_inj (hq.symm.trans hu) this
  have := this.2
  simp at this
  exact hne this.1.symm
theorem piv_self (h : Inv m (N + 1) A M q d N) {xs ys : List Nat} {p : Nat} (hq : q = xs ++ p :: ys) : M ys.length p = d := by
  have hl : ys.length < q.length := by rw [hq]; simp; omega
  rw [h.pt xs p ys hq ys.length hl, if_pos rfl]
/-- on the pivots alone there is no relation -/
theorem uniq (h : Inv m (N + 1) A M q d N) {x : Nat → Rat} (hx : ∀ i, i < m → sm (N + 1) x (M i) = 0) (hs : ∀ j, j < N + 1 → j ∉ q → x j = 0) : ∀ j, j < N + 1 → x j = 0 := fun j hj => by
  by_cases hm : j ∈ q
  · obtain ⟨xs, ys, hq⟩ := List.append_of_mem hm
    have hl : ys.length < q.length := by rw [hq]; simp; omega
    have h1 := hx ys.length (by have := h.rm; omega)
    rw [sm_one (p := j) hj fun t ht hne => by
      by_cases hq2 : t ∈ q
      · rw [piv_row h hq hq2 hne]; show x t * ((0 : Int) : Rat) = 0; rw [ratI rfl]; grind
      · rw [hs t ht hq2]; grind, piv_self h hq] at h1
    rcases Rat.mul_eq_zero.mp h1 with z | z
    · exact z
    · exact absurd (Rat.intCast_eq_zero_iff.mp z) h.d0
  · exact hs j hj hm
/-- a pivot's column isn't made of those before it -/
theorem piv_not (h : Inv m (N + 1) A M q d N) {x : Nat → Rat} (hx : ∀ i, i < m → sm (N + 1) x (M i) = 0) {p : Nat} (hp : p ∈ q) (hs : ∀ j, p < j → x j = 0) : x p = 0 := by
  obtain ⟨xs, ys, hq⟩ := List.append_of_mem hp
  have hl : ys.length < q.length := by rw [hq]; simp; omega
  have h1 := hx ys.length (by have := h.rm; omega)
  have hpN := h.qc p hp
  rw [sm_one (p := p) (by omega) fun t ht hne => by
    by_cases hlt : p < t
    · rw [hs t hlt]; grind
    · by_cases hq2 : t ∈ q
      · rw [piv_row h hq hq2 hne, ratI rfl]; grind
      · rw [h.zt xs p ys hq t (by omega) hq2, ratI rfl]; grind, piv_self h hq] at h1
  rcases Rat.mul_eq_zero.mp h1 with z | z
  · exact z
  · exact absurd (Rat.intCast_eq_zero_iff.mp z) h.d0
/-- the vector with v at the pivots, and e at one other place -/
structure Vec (M : Mat) (q : List Nat) (v : Nat → Rat) (f : Nat) (e : Rat) (x : Nat → Rat) : Prop where
  at_ : ∀ xs p ys, q = xs ++ p :: ys → x p = v ys.length
  fr : x f = e
  o : ∀ j, j ∉ q → j ≠ f → x j = 0
theorem vec_rel (h : Inv m (N + 1) A M q d N) {f : Nat} (hf : f ∉ q) (hfN : f < N + 1) {e : Rat} {v : Nat → Rat} {x : Nat → Rat} (hv : ∀ k, k < q.length → v k * (d : Rat) + e * (M k f : Rat) = 0) (hz : ∀ i, q.length ≤ i → i < m → M i f = 0) (hx : Vec M q v f e x) : ∀ i, i < m → sm (N + 1) x (M i) = 0 := fun i hi => by
  by_cases hl : i < q.length
  · obtain ⟨xs, p, ys, hq, rfl⟩ := El.split_at hl
    have hpm : p ∈ q := by rw [hq]; simp
    have hpN := h.qc p hpm
    rw [sm_two (p := p) (q := f) (by omega) hfN (fun z => hf (by rw [← z]; exact hpm)) fun t ht h1 h2 => by
      by_cases hq2 : t ∈ q
      · rw [piv_row h hq hq2 h1, ratI rfl]; grind
      · rw [hx.o t hq2 h2]; grind, piv_self h hq, hx.at_ xs p ys hq, hx.fr]
    exact hv _ hl
  · refine sm_zero fun t ht => ?_
    by_cases hq2 : t ∈ q
    · rw [h.pl t hq2 i (by omega) hi, ratI rfl]; grind
    · by_cases e2 : t = f
      · rw [e2, hz i (by omega) hi, ratI rfl]; grind
      · rw [hx.o t hq2 e2]; grind
/-- a row without unknowns -/
theorem last_not (h : Inv m (N + 1) A M q d N) {x : Nat → Rat} (hx : ∀ i, i < m → sm (N + 1) x (M i) = 0) {i : Nat} (hi : q.length ≤ i) (him : i < m) (hn : M i N ≠ 0) : x N = 0 := by
  have h1 := hx i him
  rw [sm_one (p := N) (by omega) fun t ht hne => by
    by_cases hq2 : t ∈ q
    · rw [h.pl t hq2 i hi him, ratI rfl]; grind
    · rw [h.zl t (by omega) hq2 i hi him, ratI rfl]; grind] at h1
  rcases Rat.mul_eq_zero.mp h1 with z | z
  · exact z
  · exact absurd (Rat.intCast_eq_zero_iff.mp z) hn
end
/-! ### the lists of the answers -/
theorem sets_co {v : Nat → Int} {ps : List Nat} {s : List Int} (hs : ∀ c ∈ ps, c < s.length) (hn : ps.Pairwise (fun a b => a < b)) : ∀ i, i ≤ ps.length → (∀ k c, k < i → ps[k]? = some c → Sl.co (setsI v ps s i) c = v k) ∧ ∀ n, (∀ k, k < i → ps[k]? ≠ some n) → Sl.co (setsI v ps s i) n = Sl.co s n
  | 0, _ => ⟨fun k c h => by omega, fun n _ => rfl⟩
  | i + 1, hi => by
    obtain ⟨h1, h2⟩ := sets_co hs hn i (by omega)
    have hg : ps[i]? = some ps[i] := List.getElem?_eq_getElem (by omega)
    have hl : ps[i] < (setsI v ps s i).length := by rw [sets_len]; exact hs _ (List.getElem_mem _)
    rw [sets_more hg]
    refine ⟨fun k c hk hc => ?_, fun n hn2 => ?_⟩
    · rw [Sl.co_set hl]
      by_cases e : k = i
      · subst e
        rw [hg] at hc
        cases hc
        rw [if_pos rfl]
      · have hkc : c = ps[k] := by rw [List.getElem?_eq_getElem (by omega)] at hc; exact (Option.some.inj hc).symm
        have hlt : ps[k] < ps[i] := List.pairwise_iff_getElem.mp hn k i (by omega) (by omega) (by omega)
        rw [if_neg (by omega)]
        exact h1 k c (by omega) hc
    · rw [Sl.co_set hl, if_neg (fun z => hn2 i (by omega) (by rw [hg, z]))]
      exact h2 n fun k hk => hn2 k (by omega)
end Pg
set_option Elab.async false
set_option linter.all false
namespace Pg
open Sl (Tm Valid)
/-! ### the whole equations' numbers -/
theorem wholes_ok {l : List (List Tm)} (hl : l.length ≤ 5) (ho : ∀ ts ∈ l, Oks ts) : ∀ p ∈ wholes l, p.length ≤ 5 ∧ Sz 400 p ∧ Sl.TrI p := fun p hp => by
  obtain ⟨ts, ht, rfl⟩ := List.mem_map.mp hp
  have h1 := lcmAll_lt (k := 1) l 1 (by decide) (by decide) ho
  obtain ⟨a, b, c⟩ := whole_ok (ho ts ht) h1
  exact ⟨a, sz_mono b (by omega), c⟩
theorem eqAt_ok {n : Nat} {l : List (List Tm)} (hn : n ≤ 4) (ho : ∀ ts ∈ l, Oks ts) (h : n < l.length) : (eqAt n l).1.length ≤ 4 ∧ (∀ p ∈ (eqAt n l).1, Okl 7900 p) ∧ (∀ p ∈ (eqAt n l).1, Sl.TrI p) ∧ Sl.TrI (eqAt n l).2 ∧ OkE (eqAt n l) := by
  have hw := wholes_ok (l := l.take (n + 1)) (by rw [List.length_take]; omega) fun ts ht => ho ts (List.mem_of_mem_take ht)
  have hm : ∀ p ∈ (eqAt n l).1, p ∈ wholes (l.take (n + 1)) := fun p hp => List.mem_of_mem_take hp
  have hwl : (wholes (l.take (n + 1))).length = n + 1 := by unfold wholes; rw [List.length_map, List.length_take]; omega
  have hf := hw _ (getD_mem (l := wholes (l.take (n + 1))) (i := n) (by omega))
  have hlen : (eqAt n l).1.length ≤ 4 := by
    show ((wholes (l.take (n + 1))).take n).length ≤ 4
    rw [List.length_take]; omega
  refine ⟨hlen, fun p hp => ?_, fun p hp => (hw p (hm p hp)).2.2, hf.2.2, ⟨by omega, fun p hp => ?_, ?_⟩⟩
  · have := hw p (hm p hp)
    exact ⟨by omega, sz_mono this.2.1 (by decide)⟩
  · have := hw p (hm p hp)
    exact ⟨by omega, sz_mono this.2.1 (by decide)⟩
  · have := hf.1
    show ((wholes (l.take (n + 1))).getD n []).length ≤ 300
    omega
theorem eqs_ok : ∀ (sizes : List Nat) (l : List (List Tm)), (∀ n ∈ sizes, n ≤ 4) → l.length = upTo sizes → (∀ ts ∈ l, Oks ts) → ∀ e ∈ eqsI sizes l, e.1.length ≤ 4 ∧ (∀ p ∈ e.1, Okl 7900 p) ∧ (∀ p ∈ e.1, Sl.TrI p) ∧ Sl.TrI e.2 ∧ OkE e
  | [], l, _, _, _, e, he => by cases he
  | n :: ns, l, hn, hl, ho, e, he => by
    have hu : upTo (n :: ns) = n + 1 + upTo ns := by unfold upTo; rw [List.sum_cons, List.length_cons]; omega
    rcases List.mem_cons.mp he with q | q
    · rw [q]; exact eqAt_ok (hn n (List.mem_cons_self ..)) ho (by omega)
    · exact eqs_ok ns (l.drop (n + 1)) (fun m hm => hn m (List.mem_cons_of_mem _ hm)) (by rw [List.length_drop]; omega) (fun ts ht => ho ts (List.mem_of_mem_drop ht)) e q
theorem es_ok {kind : Nat} {sizes : List Nat} {texts : List (List Nat)} (hf : fitB kind sizes texts.length = true) (h : refusal (osOf texts) = 0) : ∀ e ∈ esOf sizes texts, e.1.length ≤ 4 ∧ (∀ p ∈ e.1, Okl 7900 p) ∧ (∀ p ∈ e.1, Sl.TrI p) ∧ Sl.TrI e.2 ∧ OkE e := by
  obtain ⟨_, _, _, f4, f5⟩ := fit_facts hf
  refine eqs_ok sizes (lsOf texts) (fun n hn => (f4 n hn).2) ?_ fun ts ht => (ls_ok h ts ht).2.2
  unfold lsOf osOf
  rw [List.length_map, List.length_map]
  exact f5
end Pg
set_option Elab.async false
set_option linter.all false
namespace Pg
open Sl (Tm Valid Rel RelAll Tr TrI)
open AlOne (Uni)
/-! ### the equations are those of the specification, times a number -/
theorem eqAt_rel {n : Nat} {l : List (List Tm)} (hn : n ≤ 4) (h : ∀ ts ∈ l, Rd ts) (hl : n < l.length) : ∃ s : Rat, Hd.EqOk s (eqAt n l) ⟨(l.map uniT).take n, (l.map uniT).getD n []⟩ := by
  have h' : ∀ ts ∈ l.take (n + 1), Rd ts := fun ts ht => h ts (List.mem_of_mem_take ht)
  have hc := Sl.lcmAll_pos (l.take (n + 1)) 1 (by decide) fun ts ht t hm => (h' ts ht).o.d0 t hm
  have hd := (Sl.lcmAll_dvd (l.take (n + 1)) 1).2
  have hr := rel_all hc (l.take (n + 1)) h' hd
  obtain ⟨a, b, c, d, e⟩ := eqAt_ok hn (fun ts ht => (h ts ht).o) hl
  have e1 : ((l.take (n + 1)).map uniT).take n = (l.map uniT).take n := by
    rw [List.map_take, List.take_take]; congr 1; omega
  have e2 : ((l.take (n + 1)).map uniT).getD n [] = (l.map uniT).getD n [] := by
    rw [List.map_take, List.getD_eq_getElem?_getD, List.getD_eq_getElem?_getD, List.getElem?_take_of_lt (by omega)]
  have r1 := rel_take n hr
  have r2 := rel_get n hr
  rw [e1] at r1
  rw [e2] at r2
  have tr : ∀ p ∈ l.map uniT, Tr p := fun p hp => by
    obtain ⟨ts, ht, rfl⟩ := List.mem_map.mp hp
    exact Sl.uni_tr (h ts ht).b
  refine ⟨_, ⟨?_, r1, r2, c, fun p hp => tr p (List.mem_of_mem_take hp), d, ?_, a, b⟩⟩
  · intro z
    have : ((Sl.lcmAll (l.take (n + 1)) 1 : Nat) : Rat) = ((0 : Nat) : Rat) := z
    have := Rat.natCast_inj.mp this
    omega
  · show Tr ((l.map uniT).getD n [])
    rw [List.getD_eq_getElem?_getD, List.getElem?_eq_getElem (by rw [List.length_map]; exact hl)]
    exact tr _ (List.getElem_mem _)
/-- one behind another -/
inductive EqsOk : List EqI → List Al10.Eq → Prop
  | nil : EqsOk [] []
  | cons {s : Rat} {a : EqI} {e : Al10.Eq} {as : List EqI} {es : List Al10.Eq} : Hd.EqOk s a e → EqsOk as es → EqsOk (a :: as) (e :: es)
theorem eqs_rel : ∀ (sizes : List Nat) (l : List (List Tm)), (∀ n ∈ sizes, n ≤ 4) → l.length = upTo sizes → (∀ ts ∈ l, Rd ts) → EqsOk (eqsI sizes l) (Al10.eqsOf sizes (l.map uniT))
  | [], l, _, _, _ => .nil
  | n :: ns, l, hn, hl, h => by
    have hu : upTo (n :: ns) = n + 1 + upTo ns := by unfold upTo; rw [List.sum_cons, List.length_cons]; omega
    obtain ⟨s, hs⟩ := eqAt_rel (hn n (List.mem_cons_self ..)) h (by omega)
    refine .cons hs ?_
    rw [← List.map_drop]
    exact eqs_rel ns (l.drop (n + 1)) (fun m hm => hn m (List.mem_cons_of_mem _ hm)) (by rw [List.length_drop]; omega) fun ts ht => h ts (List.mem_of_mem_drop ht)
end Pg
set_option Elab.async false
set_option linter.all false
namespace Pg
open Sl (Tm Valid Rel RelAll Tr TrI)
/-! ### the height, the left sides that are 0 -/
theorem high_ge {kind : Nat} {e : EqI} (h1 : e.1.length ≤ 4) (h2 : ∀ p ∈ e.1, Okl 7900 p) (h3 : ∀ p ∈ e.1, TrI p) (h0 : ∃ p ∈ e.1, p ≠ []) : -1 ≤ highI kind e.1 e.2 := by
  obtain ⟨s1, s2, s3, s4⟩ := shares_ok (kind := kind) h1 h2 h3 h0
  obtain ⟨l1, l2, l3, l4⟩ := lead_facts s1 s2 s3 s4
  have := (Ht.gRoot_is l2 l1).2.1
  unfold highI
  split <;> omega
theorem hi_ge {kind : Nat} {es : List EqI} (hne : es ≠ []) (h : ∀ e ∈ es, -1 ≤ highI kind e.1 e.2) : -1 ≤ hiOf kind es := by
  have hm := minL_mem (l := es.map fun e => highI kind e.1 e.2) fun z => hne (List.map_eq_nil_iff.mp z)
  obtain ⟨e, he, q⟩ := List.mem_map.mp hm
  unfold hiOf
  rw [← q]
  exact h e he
theorem zero_any {as : List EqI} {es : List Al10.Eq} (h : EqsOk as es) : as.any zeroE = es.any fun e => e.ps.all fun p => decide (p = []) := by
  induction h with
  | nil => rfl
  | cons h _ ih => rw [List.any_cons, List.any_cons, ih]; congr 1; exact Hd.zero_eq h
theorem nz_of {as : List EqI} (h : as.any zeroE = false) : ∀ e ∈ as, ∃ p ∈ e.1, p ≠ [] := fun e he => by
  have := List.any_eq_false.mp h e he
  unfold zeroE at this
  simpa using this
theorem high_all {kind : Nat} {as : List EqI} {es : List Al10.Eq} (h : EqsOk as es) (h1 : 1 ≤ as.length) (h2 : as.length ≤ 2) (h0 : as.any zeroE = false) : Al10.highAll kind es = Hd.optH (hiOf kind as) := by
  have hz := nz_of h0
  match h, h1, h2 with
  | .nil, h1, _ => simp at h1
  | .cons ha .nil, _, _ =>
    rw [Hd.high_one ha (hz _ (List.mem_cons_self ..))]
    congr 1
    show _ = -(-(highI kind _ _))
    omega
  | .cons ha (.cons hb .nil), _, _ =>
    rw [Hd.high_two ha (hz _ (List.mem_cons_self ..)) hb (hz _ (List.mem_cons_of_mem _ (List.mem_cons_self ..)))]
    congr 1
    rename_i a e b g
    show _ = -(max (-(highI kind _ _)) (-(highI kind _ _)))
    omega
  | .cons ha (.cons hb (.cons hc hd)), _, h2 => simp at h2
end Pg
set_option Elab.async false
set_option linter.all false
namespace Pg
open Sl (Rel RelAll Tr TrI cq co)
open Sp (im Cs Fs)
/-! ### the same relations in the program's rows and in the specification's -/
def gI (kind N : Nat) (a : EqI) (j : Nat) : List Int := if j < N then Sl.leftI kind a.1 (List.replicate j 0 ++ [1]) else a.2
theorem cols_get {kind N : Nat} {a : EqI} {j : Nat} (hj : j < N + 1) : (colsI kind a N).getD j [] = gI kind N a j := by
  unfold colsI gI
  rw [List.getD_eq_getElem?_getD]
  by_cases h : j < N
  · rw [if_pos h, List.getElem?_append_left (by rw [List.length_map, List.length_range]; exact h), List.getElem?_map, List.getElem?_range h]
    rfl
  · have : j = N := by omega
    subst this
    rw [if_neg h, List.getElem?_append_right (by rw [List.length_map, List.length_range]; omega), List.length_map, List.length_range, Nat.sub_self]
    rfl
theorem rel_rows {rows : List (List Int)} {w : Nat} {x : Nat → Rat} : (∀ i, i < rows.length → sm w x (mat rows i) = 0) ↔ ∀ r ∈ rows, sm w x (co r) = 0 := by
  constructor
  · intro h r hr
    obtain ⟨i, hi, e⟩ := List.getElem_of_mem hr
    have := h i hi
    unfold mat at this
    rw [List.getD_eq_getElem?_getD, List.getElem?_eq_getElem hi] at this
    rw [← e]; exact this
  · intro h i hi
    exact h _ (getD_mem hi)
theorem row_co (cs : List (List Int)) (p j : Nat) : co (cs.map fun c => co c p) j = co (cs.getD j []) p := by
  unfold Sl.co
  rw [List.getD_eq_getElem?_getD, List.getElem?_map, List.getD_eq_getElem?_getD (l := cs)]
  cases cs[j]? with
  | none => rfl
  | some c => rfl
theorem rowsI_rel {kind N : Nat} {as : List EqI} {x : Nat → Rat} : (∀ r ∈ rowsI kind as N, sm (N + 1) x (co r) = 0) ↔ ∀ a ∈ as, ∀ p, sm (N + 1) x (fun j => co (gI kind N a j) p) = 0 := by
  have key : ∀ (a : EqI) (p : Nat), sm (N + 1) x (co ((colsI kind a N).map fun c => co c p)) = sm (N + 1) x (fun j => co (gI kind N a j) p) := fun a p => sm_congr fun j hj => by
    rw [row_co, cols_get hj]
  constructor
  · intro h a ha p
    by_cases hp : p < tall (colsI kind a N)
    · rw [← key]
      refine h _ (List.mem_flatMap.mpr ⟨a, ha, ?_⟩)
      unfold rowsOf
      exact List.mem_map.mpr ⟨p, List.mem_range.mpr hp, rfl⟩
    · refine sm_zero fun j hj => ?_
      have hm : gI kind N a j ∈ colsI kind a N := by
        rw [← cols_get hj]
        exact getD_mem (by rw [colsI_len]; exact hj)
      have := tall_ge hm
      rw [Sl.co_ge (l := gI kind N a j) (by omega), ratI rfl]; grind
  · intro h r hr
    obtain ⟨a, ha, hm⟩ := List.mem_flatMap.mp hr
    obtain ⟨p, _, rfl⟩ := List.mem_map.mp hm
    rw [key]; exact h a ha p
theorem pad_cq (n : Nat) (p b : List Rat) (r : Nat) : cq (Al10.padded n p ++ b) r = if r < n then cq p r else cq b (r - n) := by
  have hl : (Al10.padded n p).length = n := by unfold Al10.padded; rw [List.length_map, List.length_range]
  unfold Sl.cq
  rw [List.getD_eq_getElem?_getD]
  by_cases h : r < n
  · rw [if_pos h, List.getElem?_append_left (by omega)]
    unfold Al10.padded
    rw [List.getElem?_map, List.getElem?_range h]; rfl
  · rw [if_neg h, List.getElem?_append_right (by omega), hl, List.getD_eq_getElem?_getD]
theorem im_pad {kind n N : Nat} {e : Al10.Eq} {es : List Al10.Eq} {x : Nat → Rat} {r : Nat} : im (Cs kind n (e :: es)) N x r = if r < n then im (fun j => Al10.left kind e.ps (AlOne.xpow j)) N x r else im (Cs kind n es) N x (r - n) := by
  induction N with
  | zero => show (0 : Rat) = if r < n then 0 else 0; split <;> rfl
  | succ N ih =>
    show im (Cs kind n (e :: es)) N x r + x N * cq (Cs kind n (e :: es) N) r = _
    have e1 : Cs kind n (e :: es) N = Al10.padded n (Al10.left kind e.ps (AlOne.xpow N)) ++ Cs kind n es N := rfl
    rw [ih, e1, pad_cq]
    by_cases h : r < n
    · rw [if_pos h, if_pos h, if_pos h]; rfl
    · rw [if_neg h, if_neg h, if_neg h]; rfl
def gS (kind N : Nat) (e : Al10.Eq) (x : Nat → Rat) (p : Nat) : Rat := im (fun j => Al10.left kind e.ps (AlOne.xpow j)) N x p + x N * cq e.f p
theorem spec_rel {kind n N : Nat} {x : Nat → Rat} : ∀ es : List Al10.Eq, (∀ r, im (Cs kind n es) N x r + x N * cq (Fs n es) r = 0) ↔ ∀ e ∈ es, ∀ p, p < n → gS kind N e x p = 0
  | [] => by
    constructor
    · intro _ e he; cases he
    · intro _ r
      have e1 : ∀ j, cq (Cs kind n [] j) r = 0 := fun j => rfl
      have e2 : ∀ N, im (Cs kind n []) N x r = 0 := fun N => by
        induction N with
        | zero => rfl
        | succ N ih => show im _ N x r + x N * cq (Cs kind n [] N) r = 0; rw [ih, e1]; grind
      rw [e2]
      show 0 + x N * 0 = (0 : Rat); grind
  | e :: es => by
    have ih := spec_rel (kind := kind) (n := n) (N := N) (x := x) es
    have eF : Fs n (e :: es) = Al10.padded n e.f ++ Fs n es := rfl
    constructor
    · intro h e' he p hp
      rcases List.mem_cons.mp he with q | q
      · rw [q]
        have := h p
        rw [im_pad, eF, pad_cq, if_pos hp, if_pos hp] at this
        exact this
      · refine ih.mp (fun r => ?_) e' q p hp
        have := h (r + n)
        rw [im_pad, eF, pad_cq, if_neg (by omega), if_neg (by omega), Nat.add_sub_cancel] at this
        exact this
    · intro h r
      rw [im_pad, eF, pad_cq]
      by_cases hr : r < n
      · rw [if_pos hr, if_pos hr]
        exact h e (List.mem_cons_self ..) r hr
      · rw [if_neg hr, if_neg hr]
        exact ih.mpr (fun e' he => h e' (List.mem_cons_of_mem _ he)) _
theorem unit_rel (j : Nat) : Rel 1 (List.replicate j 0 ++ [1]) (AlOne.xpow j) := fun n => by
  unfold AlOne.xpow Sl.co Sl.cq
  rw [List.getD_eq_getElem?_getD, List.getD_eq_getElem?_getD]
  by_cases h : n < j
  · rw [List.getElem?_append_left (by simpa using h), List.getElem?_append_left (by simpa using h), List.getElem?_replicate, List.getElem?_replicate, if_pos h, if_pos h]
    show ((0 : Int) : Rat) = 1 * 0
    rw [ratI rfl]; grind
  · rw [List.getElem?_append_right (by simpa using h), List.getElem?_append_right (by simpa using h), List.length_replicate, List.length_replicate]
    cases n - j with
    | zero => show ((1 : Int) : Rat) = 1 * 1; rw [show ((1 : Int) : Rat) = 1 from rfl]; grind
    | succ k => show ((0 : Int) : Rat) = 1 * 0; rw [ratI rfl]; grind
theorem side_rel {kind N : Nat} {s : Rat} {a : EqI} {e : Al10.Eq} (h : Hd.EqOk s a e) (x : Nat → Rat) (p : Nat) : sm (N + 1) x (fun j => co (gI kind N a j) p) = s * gS kind N e x p := by
  have hj : ∀ j, j < N → (co (gI kind N a j) p : Rat) = s * cq (Al10.left kind e.ps (AlOne.xpow j)) p := fun j hj => by
    have := Sl.left_rel (kind := kind) h.ps (unit_rel j) p
    unfold gI
    rw [if_pos hj, this]; grind
  have hN : (co (gI kind N a N) p : Rat) = s * cq e.f p := by
    unfold gI
    rw [if_neg (by omega)]; exact h.f p
  have hs : ∀ n, n ≤ N → sm n x (fun j => co (gI kind N a j) p) = s * im (fun j => Al10.left kind e.ps (AlOne.xpow j)) n x p := fun n => by
    induction n with
    | zero => intro _; show (0 : Rat) = s * 0; grind
    | succ n ih =>
      intro hn
      show sm n x _ + x n * (co (gI kind N a n) p : Rat) = s * (im _ n x p + x n * cq (Al10.left kind e.ps (AlOne.xpow n)) p)
      rw [ih (by omega), hj n (by omega)]; grind
  show sm N x _ + x N * (co (gI kind N a N) p : Rat) = s * (im _ N x p + x N * cq e.f p)
  rw [hs N (Nat.le_refl _), hN]; grind
theorem max_len : ∀ (l : List AlOne.Uni) (m : Nat), m ≤ l.foldl (fun (m : Nat) (p : AlOne.Uni) => max m p.length) m ∧ ∀ p ∈ l, p.length ≤ l.foldl (fun (m : Nat) (p : AlOne.Uni) => max m p.length) m
  | [], m => ⟨Nat.le_refl _, fun p hp => by cases hp⟩
  | q :: l, m => by
    obtain ⟨h1, h2⟩ := max_len l (max m q.length)
    rw [List.foldl_cons]
    refine ⟨by omega, fun p hp => ?_⟩
    rcases List.mem_cons.mp hp with e | e
    · rw [e]; omega
    · exact h2 p e
theorem eqs_mem {as : List EqI} {es : List Al10.Eq} (h : EqsOk as es) : (∀ a ∈ as, ∃ e ∈ es, ∃ s, Hd.EqOk s a e) ∧ ∀ e ∈ es, ∃ a ∈ as, ∃ s, Hd.EqOk s a e := by
  induction h with
  | nil => exact ⟨fun a h => by (cases h), fun e h => by (cases h)⟩
  | cons h _ ih =>
    refine ⟨fun a ha => ?_, fun e he => ?_⟩
    · rcases List.mem_cons.mp ha with q | q
      · rw [q]; exact ⟨_, List.mem_cons_self .., _, h⟩
      · obtain ⟨e, he, s, hs⟩ := ih.1 a q
        exact ⟨e, List.mem_cons_of_mem _ he, s, hs⟩
    · rcases List.mem_cons.mp he with q | q
      · rw [q]; exact ⟨_, List.mem_cons_self .., _, h⟩
      · obtain ⟨a, ha, s, hs⟩ := ih.2 e q
        exact ⟨a, List.mem_cons_of_mem _ ha, s, hs⟩
theorem mem_rel {s : Rat} {as : List (List Int)} {ps : List AlOne.Uni} (h : RelAll s as ps) : ∀ a ∈ as, ∃ p ∈ ps, Rel s a p := by
  induction h with
  | nil => intro a ha; cases ha
  | cons h _ ih =>
    intro a ha
    rcases List.mem_cons.mp ha with q | q
    · rw [q]; exact ⟨_, List.mem_cons_self .., h⟩
    · obtain ⟨p, hp, hr⟩ := ih a q
      exact ⟨p, List.mem_cons_of_mem _ hp, hr⟩
theorem rel_same {kind n d : Nat} {as : List EqI} {es : List Al10.Eq} (h : EqsOk as es) (hn : n = Al10.wide d es) (x : Nat → Rat) : (∀ r ∈ rowsI kind as (d + 1), sm (d + 2) x (co r) = 0) ↔ ∀ r, im (Cs kind n es) (d + 1) x r + x (d + 1) * cq (Fs n es) r = 0 := by
  rw [rowsI_rel, spec_rel]
  obtain ⟨m1, m2⟩ := eqs_mem h
  constructor
  · intro hr e he p _
    obtain ⟨a, ha, s, hs⟩ := m2 e he
    have := hr a ha p
    rw [side_rel hs] at this
    rcases Rat.mul_eq_zero.mp this with z | z
    · exact absurd z hs.s0
    · exact z
  · intro hr a ha p
    obtain ⟨e, he, s, hs⟩ := m1 a ha
    by_cases hp : p < n
    · rw [side_rel hs, hr e he p hp]; grind
    · have hX := (max_len (es.flatMap fun (e : Al10.Eq) => e.f :: e.ps) 0).2
      have hw : n = (es.flatMap fun (e : Al10.Eq) => e.f :: e.ps).foldl (fun (m : Nat) (p : AlOne.Uni) => max m p.length) 0 + d + 1 := hn
      generalize (es.flatMap fun (e : Al10.Eq) => e.f :: e.ps).foldl (fun (m : Nat) (p : AlOne.Uni) => max m p.length) 0 = X at *
      refine sm_zero fun j hj => ?_
      have hlen : (gI kind (d + 1) a j).length ≤ p := by
        unfold gI
        by_cases q : j < d + 1
        · rw [if_pos q]
          have := leftI_len2 (kind := kind) (a := j + 1) (b := X) (y := List.replicate j 0 ++ [1]) (ps := a.1) (by rw [unit_len]; omega) fun u hu => by
            obtain ⟨v, hv, hrv⟩ := mem_rel hs.ps u hu
            rw [Hd.rel_len hs.s0 hrv (hs.ta u hu) (hs.tp v hv)]
            exact hX v (List.mem_flatMap.mpr ⟨e, he, List.mem_cons_of_mem _ hv⟩)
          omega
        · rw [if_neg q, Hd.rel_len hs.s0 hs.f hs.tf hs.tg]
          have := hX e.f (List.mem_flatMap.mpr ⟨e, he, List.mem_cons_self ..⟩)
          omega
      rw [Sl.co_ge (l := gI kind (d + 1) a j) hlen, ratI rfl]; grind
theorem cs_len {kind n : Nat} : ∀ (es : List Al10.Eq) (i : Nat), (Cs kind n es i).length = n * es.length
  | [], i => rfl
  | e :: es, i => by
    have e1 : Cs kind n (e :: es) i = Al10.padded n (Al10.left kind e.ps (AlOne.xpow i)) ++ Cs kind n es i := rfl
    rw [e1, List.length_append, cs_len es i, List.length_cons]
    unfold Al10.padded
    rw [List.length_map, List.length_range, Nat.mul_add]; omega
theorem fs_len {n : Nat} : ∀ es : List Al10.Eq, (Fs n es).length = n * es.length
  | [] => rfl
  | e :: es => by
    have e1 : Fs n (e :: es) = Al10.padded n e.f ++ Fs n es := rfl
    rw [e1, List.length_append, fs_len es, List.length_cons]
    unfold Al10.padded
    rw [List.length_map, List.length_range, Nat.mul_add]; omega
end Pg
set_option Elab.async false
set_option linter.all false
namespace Pg
open Sl (Rel RelAll Tr TrI cq co)
open Sp (im Cs Fs Zr Ys ZAll)
open El (Mat Inv)
/-! ### the answers of both are the same -/
theorem piv_at {piv xs ys : List Nat} {p : Nat} (h : piv.reverse = xs ++ p :: ys) : piv[ys.length]? = some p := by
  have e : piv = ys.reverse ++ p :: xs.reverse := by
    rw [← List.reverse_reverse piv, h]; simp
  rw [e, List.getElem?_append_right (by simp)]
  simp
section
variable {m N : Nat} {A : Mat} {s : ElS}
theorem sets_facts (h : Inv m (N + 1) A (mat s.rows) s.piv.reverse s.former N) (v : Nat → Int) (l : List Int) (hl : l.length = N) : (∀ xs p ys, s.piv.reverse = xs ++ p :: ys → co (setsI v s.piv l s.piv.length) p = v ys.length) ∧ ∀ n, n ∉ s.piv → co (setsI v s.piv l s.piv.length) n = co l n := by
  have hp : s.piv.Pairwise (fun a b => a < b) := by
    have := h.dec
    rwa [List.pairwise_reverse] at this
  obtain ⟨h1, h2⟩ := sets_co (v := v) (s := l) (fun c hc => by rw [hl]; exact h.qc c (List.mem_reverse.mpr hc)) hp s.piv.length (Nat.le_refl _)
  refine ⟨fun xs p ys hq => ?_, fun n hn => ?_⟩
  · have hlt : ys.length < s.piv.length := by
      have := congrArg List.length hq
      simp at this; omega
    exact h1 _ _ hlt (piv_at hq)
  · exact h2 n fun k _ z => hn (List.mem_of_getElem? z)
theorem special_facts (h : Inv m (N + 1) A (mat s.rows) s.piv.reverse s.former N) : (∀ xs p ys, s.piv.reverse = xs ++ p :: ys → co (specialI s.rows s.piv N) p = mat s.rows ys.length N) ∧ ∀ n, n ∉ s.piv → co (specialI s.rows s.piv N) n = 0 := by
  obtain ⟨h1, h2⟩ := sets_facts h (fun i => co (s.rows.getD i []) N) (List.replicate N 0) (by simp)
  refine ⟨h1, fun n hn => ?_⟩
  unfold specialI
  rw [h2 n hn]
  unfold Sl.co
  rw [List.getD_eq_getElem?_getD, List.getElem?_replicate]
  split <;> rfl
theorem free_facts (h : Inv m (N + 1) A (mat s.rows) s.piv.reverse s.former N) {f : Nat} (hf : f < N) (hfp : f ∉ s.piv) : (∀ xs p ys, s.piv.reverse = xs ++ p :: ys → co (freeI s.rows s.piv N f s.former) p = -mat s.rows ys.length f) ∧ co (freeI s.rows s.piv N f s.former) f = s.former ∧ ∀ n, n ∉ s.piv → n ≠ f → co (freeI s.rows s.piv N f s.former) n = 0 := by
  obtain ⟨h1, h2⟩ := sets_facts h (fun i => -co (s.rows.getD i []) f) ((List.replicate N 0).set f s.former) (by simp)
  have hr : ∀ n, co ((List.replicate N (0 : Int)).set f s.former) n = if f = n then s.former else 0 := fun n => by
    rw [Sl.co_set (by simpa using hf)]
    by_cases e : f = n
    · rw [if_pos e, if_pos e]
    · rw [if_neg e, if_neg e]
      unfold Sl.co
      rw [List.getD_eq_getElem?_getD, List.getElem?_replicate]
      split <;> rfl
  refine ⟨h1, ?_, fun n hn hne => ?_⟩
  · unfold freeI
    rw [h2 f hfp, hr, if_pos rfl]
  · unfold freeI
    rw [h2 n hn, hr, if_neg (fun z => hne z.symm)]
end
theorem rows_wid {kind N : Nat} {as : List EqI} : ∀ r ∈ rowsI kind as N, r.length = N + 1 := fun r hr => by
  obtain ⟨a, _, hm⟩ := List.mem_flatMap.mp hr
  obtain ⟨p, _, rfl⟩ := List.mem_map.mp hm
  rw [List.length_map, colsI_len]
theorem none_iff {N : Nat} {s : ElS} (hrm : s.piv.length ≤ s.rows.length) : noneI N s = true ↔ ∃ i, s.piv.length ≤ i ∧ i < s.rows.length ∧ mat s.rows i N ≠ 0 := by
  unfold noneI mat
  rw [List.any_eq_true]
  constructor
  · rintro ⟨r, hr, hd⟩
    obtain ⟨k, hk, e⟩ := List.getElem_of_mem hr
    rw [List.getElem_drop] at e
    rw [List.length_drop] at hk
    refine ⟨s.piv.length + k, by omega, by omega, ?_⟩
    rw [List.getD_eq_getElem?_getD, List.getElem?_eq_getElem (by omega)]
    show co s.rows[s.piv.length + k] N ≠ 0
    rw [e]; exact of_decide_eq_true hd
  · rintro ⟨i, h1, h2, h3⟩
    rw [List.getD_eq_getElem?_getD, List.getElem?_eq_getElem h2] at h3
    refine ⟨s.rows[i], ?_, decide_eq_true h3⟩
    rw [List.mem_iff_getElem?]
    exact ⟨i - s.piv.length, by rw [List.getElem?_drop, show s.piv.length + (i - s.piv.length) = i by omega, List.getElem?_eq_getElem h2]⟩
/-- a list's text over the common bottom -/
def oneT (d : Int) (l : List Int) : List Nat := Sl.write (Sl.termsOver l d)
theorem solve_same {kind d : Nat} {as : List EqI} {es : List Al10.Eq} (h : EqsOk as es) (hh : Al10.highAll kind es = some d) :
    (noneI (d + 1) (elAt (rowsI kind as (d + 1)) (d + 1)) = false → ∃ y0 zs, Al10.solve kind es = some (y0, zs) ∧ AlOne.text y0 = oneT (elAt (rowsI kind as (d + 1)) (d + 1)).former (specialI (elAt (rowsI kind as (d + 1)) (d + 1)).rows (elAt (rowsI kind as (d + 1)) (d + 1)).piv (d + 1)) ∧ zs.map AlOne.text = (othersI (d + 1) (elAt (rowsI kind as (d + 1)) (d + 1))).map (oneT (elAt (rowsI kind as (d + 1)) (d + 1)).former)) ∧
    (noneI (d + 1) (elAt (rowsI kind as (d + 1)) (d + 1)) = true → Al10.solve kind es = none) := by
  have hok := el_ok (rows := rowsI kind as (d + 1)) (w := d + 1 + 1) rows_wid (d + 1) (by omega)
  have hrel : ∀ x : Nat → Rat, (∀ i, i < (rowsI kind as (d + 1)).length → sm (d + 1 + 1) x (mat (elAt (rowsI kind as (d + 1)) (d + 1)).rows i) = 0) ↔ ∀ r, im (Cs kind (Al10.wide d es) es) (d + 1) x r + x (d + 1) * cq (Fs (Al10.wide d es) es) r = 0 := fun x => by
    rw [hok.rel x, rel_rows]
    exact rel_same h rfl x
  have hlen := hok.len
  obtain ⟨A, _, hI⟩ := hok.inv
  generalize hs : elAt (rowsI kind as (d + 1)) (d + 1) = s at *
  generalize (rowsI kind as (d + 1)).length = m at *
  generalize hC : Cs kind (Al10.wide d es) es = C at *
  generalize hF : Fs (Al10.wide d es) es = F at *
  have hd0 : ((s.former : Int) : Rat) ≠ 0 := fun z => hI.d0 (Rat.intCast_eq_zero_iff.mp z)
  have hrm : s.piv.length ≤ s.rows.length := by
    have := hI.rm
    rw [List.length_reverse] at this
    omega
  have mem : ∀ {p}, p ∈ s.piv → p ∈ s.piv.reverse := fun h => List.mem_reverse.mpr h
  have nmem : ∀ {p}, p ∉ s.piv → p ∉ s.piv.reverse := fun h z => h (List.mem_reverse.mp z)
  have hpl : ∀ p ∈ s.piv, p < d + 1 := fun p hp => hI.qc p (mem hp)
  have hN : d + 1 ∉ s.piv := fun z => by have := hpl _ z; omega
  -- relations without the right side
  have hrel0 : ∀ x : Nat → Rat, x (d + 1) = 0 → (∀ r, im C (d + 1) x r = 0) → ∀ i, i < m → sm (d + 1 + 1) x (mat s.rows i) = 0 := fun x h0 hx => (hrel x).mpr fun r => by rw [hx r, h0]; grind
  have huq : ∀ x : Nat → Rat, x (d + 1) = 0 → (∀ r, im C (d + 1) x r = 0) → (∀ j, j ∉ s.piv → x j = 0) → ∀ j, x j = 0 := fun x h0 hx hsup j => by
    by_cases hj : j < d + 1 + 1
    · exact uniq hI (hrel0 x h0 hx) (fun t _ ht => hsup t fun z => ht (mem z)) j hj
    · exact hsup j fun z => by have := hpl _ z; omega
  have H1 : ∀ i, i < d + 1 → i ∈ s.piv → ∀ x : Nat → Rat, (∀ r, im C (d + 1) x r = 0) → (∀ j, i < j → x j = 0) → x i = 0 := fun i hi hp x hx hz => piv_not hI (hrel0 x (hz _ hi) hx) (mem hp) hz
  have hfree : ∀ i, i < d + 1 → i ∉ s.piv → Zr C (d + 1) s.piv i (fun j => (co (freeI s.rows s.piv (d + 1) i s.former) j : Rat) / (s.former : Rat)) := fun i hi hp => by
    obtain ⟨f1, f2, f3⟩ := free_facts hI hi hp
    have hz0 : ∀ n, n ∉ s.piv → n ≠ i → (co (freeI s.rows s.piv (d + 1) i s.former) n : Rat) / (s.former : Rat) = 0 := fun n hn hne => by
      rw [f3 n hn hne, ratI rfl]; grind
    have hv : El.Mat := mat s.rows
    have hvec := vec_rel hI (f := i) (nmem hp) (by omega) (e := 1) (v := fun k => -(mat s.rows k i : Rat) / (s.former : Rat)) (x := fun j => (co (freeI s.rows s.piv (d + 1) i s.former) j : Rat) / (s.former : Rat)) (fun k _ => by grind) (fun t ht htm => hI.zl i hi (nmem hp) t ht htm) ⟨fun xs p ys hq => by
        show (co _ p : Rat) / _ = _
        rw [f1 xs p ys hq, Rat.intCast_neg], by show (co _ i : Rat) / _ = 1; rw [f2]; grind, fun j hj hne => hz0 j (fun z => hj (mem z)) hne⟩
    have hr := (hrel _).mp hvec
    refine ⟨by show (co _ i : Rat) / _ = 1; rw [f2]; grind, fun r => ?_, fun j hj hn => ?_⟩
    · have := hr r
      rw [hz0 (d + 1) hN (by omega)] at this
      grind
    · by_cases hjp : j ∈ s.piv
      · obtain ⟨xs, ys, hq⟩ := List.append_of_mem (mem hjp)
        show (co _ j : Rat) / _ = 0
        have hij : i < j := by
          have : ¬ j < i := fun z => hn ⟨hjp, z⟩
          omega
        rw [f1 xs j ys hq, hI.zt xs j ys hq i hij (nmem hp)]
        show ((-0 : Int) : Rat) / _ = 0
        rw [ratI (by decide)]; grind
      · exact hz0 j hjp hj
  have H2 : ∀ i, i < d + 1 → i ∉ s.piv → ∃ z, Zr C (d + 1) s.piv i z := fun i hi hp => ⟨_, hfree i hi hp⟩
  obtain ⟨S1, S2⟩ := Sp.solve_is (piv := s.piv) hh rfl (fun i => cs_len es i) (fs_len es) hpl (by rw [hC]; exact H1) (by rw [hC]; exact H2)
  rw [hC, hF] at S1 S2
  constructor
  · intro hno
    have hz : ∀ i, s.piv.reverse.length ≤ i → i < m → mat s.rows i (d + 1) = 0 := fun i hi him => by
      rw [List.length_reverse] at hi
      refine Decidable.byContradiction fun z => ?_
      have := (none_iff (N := d + 1) hrm).mpr ⟨i, hi, by omega, z⟩
      rw [hno] at this; cases this
    obtain ⟨f1, f2⟩ := special_facts hI
    have hsp : ∀ r, im C (d + 1) (fun j => (co (specialI s.rows s.piv (d + 1)) j : Rat) / (s.former : Rat)) r = cq F r := by
      have hvec := vec_rel hI (f := d + 1) (nmem hN) (by omega) (e := -1) (v := fun k => (mat s.rows k (d + 1) : Rat) / (s.former : Rat)) (x := fun j => if j = d + 1 then -1 else (co (specialI s.rows s.piv (d + 1)) j : Rat) / (s.former : Rat)) (fun k _ => by grind) hz ⟨fun xs p ys hq => by
          have hp : p ≠ d + 1 := fun z => nmem hN (by rw [hq, ← z]; simp)
          show (if p = d + 1 then (-1 : Rat) else _) = _
          rw [if_neg hp, f1 xs p ys hq], if_pos rfl, fun j hj hne => by
          show (if j = d + 1 then (-1 : Rat) else _) = 0
          rw [if_neg hne, f2 j (fun z => hj (mem z)), ratI rfl]; grind⟩
      have hr := (hrel _).mp hvec
      intro r
      have := hr r
      rw [Sp.im_congr (y := fun j => (co (specialI s.rows s.piv (d + 1)) j : Rat) / (s.former : Rat)) fun j hj => if_neg (by omega), if_pos rfl] at this
      grind
    have hY : Ys C (d + 1) F s.piv (fun j => (co (specialI s.rows s.piv (d + 1)) j : Rat) / (s.former : Rat)) := ⟨hsp, fun j hj => by show (co _ j : Rat) / _ = 0; rw [f2 j hj, ratI rfl]; grind⟩
    obtain ⟨y0, zs, e1, e2, e3⟩ := S1 ⟨_, hY⟩
    refine ⟨y0, zs, e1, ?_, ?_⟩
    · refine Sl.text_over hI.d0 fun n => ?_
      have := huq (fun j => 1 * cq y0 j + -1 * ((co (specialI s.rows s.piv (d + 1)) j : Rat) / (s.former : Rat))) (by
        show 1 * cq y0 (d + 1) + -1 * ((co (specialI s.rows s.piv (d + 1)) (d + 1) : Rat) / (s.former : Rat)) = 0
        rw [e2.sup _ hN, f2 _ hN, ratI rfl]; grind) (fun r => by rw [Sp.im_lin, e2.im r, hsp r]; grind) (fun j hj => by
        show 1 * cq y0 j + -1 * ((co (specialI s.rows s.piv (d + 1)) j : Rat) / (s.former : Rat)) = 0
        rw [e2.sup j hj, f2 j hj, ratI rfl]; grind) n
      have h2 : 1 * cq y0 n + -1 * ((co (specialI s.rows s.piv (d + 1)) n : Rat) / (s.former : Rat)) = 0 := this
      grind
    · unfold othersI freeOf
      have key : ∀ (is : List Nat) (zs : List AlOne.Uni), (∀ i ∈ is, i < d + 1 ∧ i ∉ s.piv) → ZAll C (d + 1) s.piv is zs → zs.map AlOne.text = (is.map fun c => freeI s.rows s.piv (d + 1) c s.former).map (oneT s.former) := fun is zs hi hz => by
        induction hz with
        | nil => rfl
        | @cons i z is zs hz _ ih =>
          obtain ⟨h1, h2⟩ := hi i (List.mem_cons_self ..)
          rw [List.map_cons, List.map_cons, List.map_cons, ih fun j hj => hi j (List.mem_cons_of_mem _ hj)]
          congr 1
          refine Sl.text_over hI.d0 fun n => ?_
          have hp := hfree i h1 h2
          have s1 : ∀ j, j ∉ s.piv → 1 * cq z j + -1 * ((co (freeI s.rows s.piv (d + 1) i s.former) j : Rat) / (s.former : Rat)) = 0 := fun j hj => by
            by_cases e : j = i
            · subst e
              have a := hz.one
              have b : (co (freeI s.rows s.piv (d + 1) j s.former) j : Rat) / (s.former : Rat) = 1 := hp.one
              rw [a, b]; grind
            · have a := hz.sup j e fun q => hj q.1
              have b : (co (freeI s.rows s.piv (d + 1) i s.former) j : Rat) / (s.former : Rat) = 0 := hp.sup j e fun q => hj q.1
              rw [a, b]; grind
          have := huq (fun j => 1 * cq z j + -1 * ((co (freeI s.rows s.piv (d + 1) i s.former) j : Rat) / (s.former : Rat))) (s1 _ hN) (fun r => by rw [Sp.im_lin, hz.im r, hp.im r]; grind) s1 n
          have h3 : 1 * cq z n + -1 * ((co (freeI s.rows s.piv (d + 1) i s.former) n : Rat) / (s.former : Rat)) = 0 := this
          grind
      exact key _ zs (fun i hi => by
        obtain ⟨a, b⟩ := List.mem_filter.mp hi
        exact ⟨List.mem_range.mp a, of_decide_eq_true b⟩) e3
  · intro hno
    obtain ⟨i, h1, h2, h3⟩ := (none_iff (N := d + 1) hrm).mp hno
    refine S2 fun ⟨y, hy⟩ => ?_
    have hx := (hrel (fun j => if j = d + 1 then -1 else y j)).mpr fun r => by
      rw [Sp.im_congr (y := y) fun j hj => if_neg (by omega), hy r, if_pos rfl]; grind
    have := last_not hI hx (i := i) (by rw [List.length_reverse]; exact h1) (by omega) h3
    have h4 : (if d + 1 = d + 1 then (-1 : Rat) else y (d + 1)) = 0 := this
    rw [if_pos rfl] at h4
    exact absurd h4 (by decide)
end Pg
set_option Elab.async false
set_option linter.all false
namespace Pg
open Sl (Tm co)
open El (prodN fact)
/-! ### how great the whole numbers of an equation are -/
def lf : List Nat → Nat → Nat
  | [], c => c
  | d :: ds, c => lf ds (Nat.lcm c d)
theorem lf_append : ∀ (a b : List Nat) (c : Nat), lf (a ++ b) c = lf b (lf a c)
  | [], b, c => rfl
  | d :: a, b, c => lf_append a b _
theorem lcmGo_lf : ∀ (ts : List Tm) (c : Nat), Sl.lcmGo ts c = lf (ts.map fun t => t.d) c
  | [], c => rfl
  | t :: ts, c => lcmGo_lf ts _
def dsOf (l : List (List Tm)) : List Nat := l.flatMap fun ts => ts.map fun t => t.d
theorem lcmAll_lf : ∀ (l : List (List Tm)) (c : Nat), Sl.lcmAll l c = lf (dsOf l) c
  | [], c => rfl
  | ts :: l, c => by
    have e : dsOf (ts :: l) = (ts.map fun t => t.d) ++ dsOf l := rfl
    rw [e, lf_append, ← lcmGo_lf, ← lcmAll_lf l]; rfl
theorem lf_le : ∀ (ds : List Nat) (c : Nat), 0 < c → (∀ d ∈ ds, 0 < d) → lf ds c ≤ c * prodN ds
  | [], c, _, _ => by show c ≤ c * 1; omega
  | d :: ds, c, hc, h => by
    have hd := h d (List.mem_cons_self ..)
    have h1 := lf_le ds (Nat.lcm c d) (Nat.lcm_pos hc hd) fun x hx => h x (List.mem_cons_of_mem _ hx)
    have h2 : Nat.lcm c d ≤ c * d := Nat.le_of_dvd (Nat.mul_pos hc hd) (Nat.lcm_dvd_mul c d)
    show lf ds (Nat.lcm c d) ≤ c * (d * prodN ds)
    rw [← Nat.mul_assoc]
    exact Nat.le_trans h1 (Nat.mul_le_mul_right _ h2)
theorem prod_le_pow {X : Nat} : ∀ ds : List Nat, (∀ d ∈ ds, d ≤ X) → prodN ds ≤ X ^ ds.length
  | [], _ => Nat.le_refl _
  | d :: ds, h => by
    show d * prodN ds ≤ X ^ (ds.length + 1)
    rw [Nat.pow_succ, Nat.mul_comm]
    exact Nat.mul_le_mul (prod_le_pow ds fun x hx => h x (List.mem_cons_of_mem _ hx)) (h d (List.mem_cons_self ..))
theorem prod_but {X : Nat} : ∀ (ds : List Nat) (e : Nat), e ∈ ds → (∀ d ∈ ds, d ≤ X) → prodN ds ≤ e * X ^ (ds.length - 1)
  | [], e, h, _ => by cases h
  | d :: ds, e, h, hx => by
    show d * prodN ds ≤ e * X ^ (ds.length + 1 - 1)
    rw [Nat.add_sub_cancel]
    by_cases q : e = d
    · rw [q]
      exact Nat.mul_le_mul_left _ (prod_le_pow ds fun x hx2 => hx x (List.mem_cons_of_mem _ hx2))
    · have hm : e ∈ ds := by
        rcases List.mem_cons.mp h with z | z
        · exact absurd z q
        · exact z
      have ih := prod_but ds e hm fun x hx2 => hx x (List.mem_cons_of_mem _ hx2)
      have hl : 0 < ds.length := List.length_pos_of_mem hm
      have e1 : X ^ ds.length = X ^ (ds.length - 1) * X := by rw [← Nat.pow_succ]; congr 1; omega
      rw [e1, Nat.mul_comm d, ← Nat.mul_assoc]
      exact Nat.mul_le_mul ih (hx d (List.mem_cons_self ..))
theorem small_of {ts : List Tm} (h : Sl.tooBig ts = false) : ∀ t ∈ ts, t.n.natAbs ≤ 9999 ∧ t.d ≤ 9999 := fun t ht => by
  have := List.any_eq_false.mp h t ht
  unfold Sl.bigT at this
  simp at this
  omega
theorem ds_len : ∀ l : List (List Tm), (∀ ts ∈ l, ts.length ≤ 5) → (dsOf l).length ≤ 5 * l.length
  | [], _ => Nat.le_refl _
  | ts :: l, h => by
    have ih := ds_len l fun x hx => h x (List.mem_cons_of_mem _ hx)
    have h1 := h ts (List.mem_cons_self ..)
    have e : dsOf (ts :: l) = (ts.map fun t => t.d) ++ dsOf l := rfl
    rw [e, List.length_append, List.length_map, List.length_cons]; omega
def BIG : Nat := 10 ^ 100
theorem big_is : 9999 ^ 24 * 9999 ≤ BIG := by decide +kernel
theorem quot_le {l : List (List Tm)} (hl : l.length ≤ 5) (h : ∀ ts ∈ l, Rd ts) {ts : List Tm} (hts : ts ∈ l) {t : Tm} (ht : t ∈ ts) : Sl.lcmAll l 1 / t.d * t.n.natAbs ≤ BIG := by
  have hd0 : ∀ d ∈ dsOf l, 0 < d ∧ d ≤ 9999 := fun d hd => by
    obtain ⟨us, hu, hm⟩ := List.mem_flatMap.mp hd
    obtain ⟨u, hu2, rfl⟩ := List.mem_map.mp hm
    exact ⟨(h us hu).o.d0 u hu2, (small_of (h us hu).b u hu2).2⟩
  have hmem : t.d ∈ dsOf l := List.mem_flatMap.mpr ⟨ts, hts, List.mem_map.mpr ⟨t, ht, rfl⟩⟩
  have h1 := lf_le (dsOf l) 1 (by decide) fun d hd => (hd0 d hd).1
  have h2 := prod_but (dsOf l) t.d hmem fun d hd => (hd0 d hd).2
  have h3 := ds_len l fun us hu => (h us hu).o.len
  have h4 : 9999 ^ ((dsOf l).length - 1) ≤ 9999 ^ 24 := Nat.pow_le_pow_right (by decide) (by omega)
  have h5 : Sl.lcmAll l 1 ≤ t.d * 9999 ^ 24 := by
    rw [lcmAll_lf]
    rw [Nat.one_mul] at h1
    exact Nat.le_trans h1 (Nat.le_trans h2 (Nat.mul_le_mul_left _ h4))
  have h6 : Sl.lcmAll l 1 / t.d ≤ 9999 ^ 24 := Nat.div_le_of_le_mul h5
  exact Nat.le_trans (Nat.mul_le_mul h6 (small_of (h ts hts).b t ht).1) big_is
theorem nums_le {c X : Nat} : ∀ (ts : List Tm) (l : List Int), (∀ t ∈ ts, c / t.d * t.n.natAbs ≤ X) → (∀ x ∈ l, x.natAbs ≤ X) → ∀ x ∈ Sl.numsGo c ts l, x.natAbs ≤ X
  | [], l, _, h => h
  | t :: ts, l, ht, h => nums_le ts _ (fun s hs => ht s (List.mem_cons_of_mem _ hs)) fun x hx => by
    rcases List.mem_or_eq_of_mem_set hx with q | q
    · exact h x q
    · rw [q, Int.natAbs_mul, Int.natAbs_natCast]; exact ht t (List.mem_cons_self ..)
def Le1 (X : Nat) (l : List Int) : Prop := ∀ x ∈ l, x.natAbs ≤ X
theorem le1_co {X : Nat} {l : List Int} (h : Le1 X l) (n : Nat) : (co l n).natAbs ≤ X := by
  by_cases hn : n < l.length
  · exact h _ (co_mem hn)
  · rw [Sl.co_ge (by omega)]; exact Nat.zero_le _
theorem wholes_le {l : List (List Tm)} (hl : l.length ≤ 5) (h : ∀ ts ∈ l, Rd ts) : ∀ p ∈ wholes l, Le1 BIG p := fun p hp => by
  obtain ⟨ts, ht, rfl⟩ := List.mem_map.mp hp
  intro x hx
  unfold Sl.wholeI at hx
  refine nums_le ts _ (fun t htm => quot_le hl h ht htm) (fun y hy => ?_) x (Sl.trimI_mem _ _ hx)
  rw [List.eq_of_mem_replicate hy]; exact Nat.zero_le _
theorem eqs_le : ∀ (sizes : List Nat) (l : List (List Tm)), (∀ n ∈ sizes, n ≤ 4) → l.length = upTo sizes → (∀ ts ∈ l, Rd ts) → ∀ e ∈ eqsI sizes l, (∀ p ∈ e.1, Le1 BIG p) ∧ Le1 BIG e.2
  | [], l, _, _, _, e, he => by cases he
  | n :: ns, l, hn, hl, ho, e, he => by
    have hu : upTo (n :: ns) = n + 1 + upTo ns := by unfold upTo; rw [List.sum_cons, List.length_cons]; omega
    rcases List.mem_cons.mp he with q | q
    · have hn4 := hn n (List.mem_cons_self ..)
      have hw := wholes_le (l := l.take (n + 1)) (by rw [List.length_take]; omega) fun ts ht => ho ts (List.mem_of_mem_take ht)
      have hwl : (wholes (l.take (n + 1))).length = n + 1 := by unfold wholes; rw [List.length_map, List.length_take]; omega
      rw [q]
      exact ⟨fun p hp => hw p (List.mem_of_mem_take hp), hw _ (getD_mem (l := wholes (l.take (n + 1))) (i := n) (by omega))⟩
    · exact eqs_le ns (l.drop (n + 1)) (fun m hm => hn m (List.mem_cons_of_mem _ hm)) (by rw [List.length_drop]; omega) (fun ts ht => ho ts (List.mem_of_mem_drop ht)) e q
/-! ### how great a left side's numbers are, of a power of x -/
def norm (l : List Int) : Nat := (l.map Int.natAbs).sum
def psum (g : Nat → Int) : Nat → Nat
  | 0 => (g 0).natAbs
  | n + 1 => psum g n + (g (n + 1)).natAbs
theorem cvI_le {P : Nat} {g : Nat → Int} : ∀ (a : List Int) (n : Nat), Le1 P a → (Sl.cvI a g n).natAbs ≤ P * psum g n
  | [], n, _ => by show (0 : Int).natAbs ≤ _; simp
  | c :: a, 0, h => by
    show (c * g 0).natAbs ≤ P * (g 0).natAbs
    rw [Int.natAbs_mul]; exact Nat.mul_le_mul_right _ (h c (List.mem_cons_self ..))
  | c :: a, n + 1, h => by
    have ih := cvI_le (g := g) a n fun x hx => h x (List.mem_cons_of_mem _ hx)
    show (c * g (n + 1) + Sl.cvI a g n).natAbs ≤ P * (psum g n + (g (n + 1)).natAbs)
    refine Nat.le_trans (Int.natAbs_add_le _ _) ?_
    rw [Int.natAbs_mul, Nat.mul_add]
    have := Nat.mul_le_mul_right (g (n + 1)).natAbs (h c (List.mem_cons_self ..))
    omega
theorem psum_tail (c : Int) (l : List Int) : ∀ n, psum (co (c :: l)) (n + 1) = c.natAbs + psum (co l) n
  | 0 => by
    show (co (c :: l) 0).natAbs + (co (c :: l) 1).natAbs = c.natAbs + (co l 0).natAbs
    rw [Sl.co_succ, Sl.co_zero]
  | n + 1 => by
    have ih := psum_tail c l n
    show psum (co (c :: l)) (n + 1) + (co (c :: l) (n + 2)).natAbs = c.natAbs + (psum (co l) n + (co l (n + 1)).natAbs)
    rw [ih, Sl.co_succ]; omega
theorem psum_le : ∀ (l : List Int) (n : Nat), psum (co l) n ≤ norm l
  | [], n => by
    have : ∀ n, psum (co []) n = 0 := fun n => by
      induction n with
      | zero => rfl
      | succ n ih => show psum (co []) n + (co [] (n + 1)).natAbs = 0; rw [ih, Sl.co_nil]; rfl
    rw [this]; exact Nat.zero_le _
  | c :: l, 0 => by
    show (co (c :: l) 0).natAbs ≤ norm (c :: l)
    unfold norm
    rw [Sl.co_zero, List.map_cons, List.sum_cons]; omega
  | c :: l, n + 1 => by
    have := psum_le l n
    rw [psum_tail]
    unfold norm at *
    rw [List.map_cons, List.sum_cons]; omega
def mv (kind : Nat) (y : List Int) : Nat → List Int
  | 0 => y
  | n + 1 => if kind = 0 then Sl.slopeI (mv kind y n) else Sl.stepI (mv kind y n)
def nsum (kind : Nat) (y : List Int) : Nat → Nat
  | 0 => 0
  | n + 1 => nsum kind y n + norm (mv kind y n)
theorem left_le {P kind : Nat} {y : List Int} : ∀ (n : Nat) (ps : List (List Int)), ps.length = n → (∀ p ∈ ps, Le1 P p) → (leftSt kind ps y).2 = mv kind y n ∧ ∀ t, (co (leftSt kind ps y).1 t).natAbs ≤ P * nsum kind y n
  | 0, ps, hn, _ => by
    have : ps = [] := List.eq_nil_of_length_eq_zero hn
    subst this
    exact ⟨rfl, fun t => by show (co [] t).natAbs ≤ _; rw [Sl.co_nil]; exact Nat.zero_le _⟩
  | n + 1, ps, hn, h => by
    obtain ⟨v, b, rfl⟩ : ∃ v b, ps = v ++ [b] := ⟨ps.dropLast, ps.getLast (by intro z; subst z; simp at hn), (List.dropLast_concat_getLast _).symm⟩
    rw [List.length_append] at hn
    obtain ⟨h1, h2⟩ := left_le (kind := kind) (y := y) n v (by simpa using hn) fun p hp => h p (List.mem_append.mpr (.inl hp))
    rw [leftSt_more]
    refine ⟨?_, fun t => ?_⟩
    · show (if kind = 0 then _ else _) = (if kind = 0 then _ else _)
      rw [h1]
    · show (co (Sl.plusI (leftSt kind v y).1 (Sl.timesI b (leftSt kind v y).2)) t).natAbs ≤ P * (nsum kind y n + norm (mv kind y n))
      rw [Sl.plusI_co, Sl.timesI_co, h1, Nat.mul_add]
      have e1 := h2 t
      have e2 := cvI_le (P := P) (g := co (mv kind y n)) b t (h b (by simp))
      have e3 := Nat.mul_le_mul_left P (psum_le (mv kind y n) t)
      exact Nat.le_trans (Int.natAbs_add_le _ _) (by omega)
def NN (l : List Int) : Prop := ∀ n, 0 ≤ co l n
theorem nn_step : ∀ l : List Int, NN l → NN (Sl.stepI l)
  | [], _ => fun n => by show 0 ≤ co [] n; rw [Sl.co_nil]; omega
  | c :: l, h => by
    have ih := nn_step l fun n => by have := h (n + 1); rwa [Sl.co_succ] at this
    have hc : 0 ≤ c := h 0
    intro n
    show 0 ≤ co (Sl.plusI (Sl.timesI (Sl.stepI l) [1, 1]) [c]) n
    rw [Sl.plusI_co, Sl.timesI_co, Sl.cvI_11]
    cases n with
    | zero =>
      have h1 := ih 0
      show 0 ≤ co (Sl.stepI l) 0 + c
      omega
    | succ n =>
      have h1 := ih (n + 1)
      have h2 := ih n
      show 0 ≤ co (Sl.stepI l) (n + 1) + co (Sl.stepI l) n + co [c] (n + 1)
      rw [Sl.co_succ, Sl.co_nil]; omega
theorem norm_val : ∀ l : List Int, NN l → (norm l : Int) = Ht.valI l 1
  | [], _ => rfl
  | c :: l, h => by
    have ih := norm_val l fun n => by have := h (n + 1); rwa [Sl.co_succ] at this
    have hc : 0 ≤ c := h 0
    show ((norm (c :: l) : Nat) : Int) = Ht.valI l 1 * 1 + c
    unfold norm at *
    rw [List.map_cons, List.sum_cons]
    omega
theorem val_unit (x : Int) : ∀ n : Nat, Ht.valI (List.replicate n 0 ++ [1]) x = x ^ n
  | 0 => by show (0 : Int) * x + 1 = x ^ 0; simp
  | n + 1 => by
    have ih := val_unit x n
    rw [List.replicate_succ, List.cons_append]
    show Ht.valI (List.replicate n 0 ++ [1]) x * x + 0 = _
    rw [ih, Int.pow_succ]; omega
theorem nn_unit (n : Nat) : NN (List.replicate n 0 ++ [1]) := fun k => by
  by_cases hk : k < (List.replicate n (0 : Int) ++ [1]).length
  · rcases List.mem_append.mp (co_mem hk) with h | h
    · rw [List.eq_of_mem_replicate h]; omega
    · rw [List.mem_singleton.mp h]; omega
  · rw [Sl.co_ge (by omega)]; omega
theorem mv_step {kind : Nat} (hk : kind ≠ 0) {y : List Int} (hy : NN y) (x : Int) : ∀ i : Nat, NN (mv kind y i) ∧ Ht.valI (mv kind y i) x = Ht.valI y (x + i)
  | 0 => ⟨hy, by show Ht.valI y x = Ht.valI y (x + 0); rw [Int.add_zero]⟩
  | i + 1 => by
    obtain ⟨h1, h2⟩ := mv_step hk hy (x + 1) i
    show NN (if kind = 0 then _ else _) ∧ Ht.valI (if kind = 0 then _ else _) x = _
    rw [if_neg hk]
    refine ⟨nn_step _ h1, ?_⟩
    rw [Ht.val_step, h2]
    congr 1; omega
theorem sum_le_mul {X : Nat} (f g : Nat → Nat) : ∀ l : List Nat, (∀ i ∈ l, f i ≤ X * g i) → (l.map f).sum ≤ X * (l.map g).sum
  | [], _ => Nat.zero_le _
  | i :: l, h => by
    rw [List.map_cons, List.map_cons, List.sum_cons, List.sum_cons, Nat.mul_add]
    have h1 := h i (List.mem_cons_self ..)
    have h2 := sum_le_mul f g l fun j hj => h j (List.mem_cons_of_mem _ hj)
    omega
theorem norm_slope (l : List Int) : norm (Sl.slopeI l) ≤ (l.length - 1) * norm l := by
  have e : norm l = ((List.range l.length).map fun i => (co l i).natAbs).sum := by
    unfold norm
    congr 1
    refine List.ext_getElem? fun i => ?_
    rw [List.getElem?_map, List.getElem?_map]
    by_cases h : i < l.length
    · rw [List.getElem?_eq_getElem h, List.getElem?_range h]
      unfold Sl.co
      simp [h]
    · rw [List.getElem?_eq_none (by omega), List.getElem?_eq_none (by simp; omega)]; rfl
  cases l with
  | nil => exact Nat.zero_le _
  | cons c l =>
    have e2 : norm (Sl.slopeI (c :: l)) = ((List.range l.length).map fun (i : Nat) => (((i : Int) + 1) * co (c :: l) (i + 1)).natAbs).sum := by
      unfold norm Sl.slopeI
      rw [List.map_map, List.length_cons, Nat.add_sub_cancel]; rfl
    rw [e2, e, List.length_cons, Nat.add_sub_cancel, List.range_succ_eq_map, List.map_cons, List.sum_cons, List.map_map]
    refine Nat.le_trans (sum_le_mul (X := l.length) _ (fun i => (co (c :: l) (i + 1)).natAbs) _ fun i hi => ?_) (Nat.mul_le_mul_left _ (Nat.le_add_left _ _))
    have := List.mem_range.mp hi
    rw [Int.natAbs_mul]
    exact Nat.mul_le_mul_right _ (by omega)
theorem mv_slope {y : List Int} {n : Nat} (hl : y.length ≤ n + 1) : ∀ i : Nat, (mv 0 y i).length ≤ n + 1 ∧ norm (mv 0 y i) ≤ n ^ i * norm y
  | 0 => ⟨hl, by show norm y ≤ n ^ 0 * norm y; simp⟩
  | i + 1 => by
    obtain ⟨h1, h2⟩ := mv_slope hl i
    show (if (0 : Nat) = 0 then Sl.slopeI (mv 0 y i) else _).length ≤ _ ∧ norm (if (0 : Nat) = 0 then Sl.slopeI (mv 0 y i) else _) ≤ _
    rw [if_pos rfl]
    refine ⟨Nat.le_trans (slopeI_len _) h1, Nat.le_trans (norm_slope _) ?_⟩
    rw [Nat.pow_succ, Nat.mul_right_comm, Nat.mul_comm]
    exact Nat.mul_le_mul h2 (by omega)
def SS (n : Nat) : Nat := 1 + 2 ^ n + 3 ^ n + 4 ^ n
theorem ss_pos (n : Nat) : 0 < SS n := Nat.lt_of_lt_of_le Nat.one_pos (Nat.le_trans (Nat.le_trans (Nat.le_add_right 1 (2 ^ n)) (Nat.le_add_right _ (3 ^ n))) (Nat.le_add_right _ (4 ^ n)))
theorem norm_unit (kind n i : Nat) (hn : n < 25) (hi : i < 4) : norm (mv kind (List.replicate n 0 ++ [1]) i) ≤ (i + 1) ^ n := by
  have hu : norm (List.replicate n (0 : Int) ++ [1]) = 1 := by
    have h := norm_val _ (nn_unit n)
    rw [val_unit, Int.one_pow] at h
    omega
  by_cases hk : kind = 0
  · subst hk
    have h := (mv_slope (y := List.replicate n (0 : Int) ++ [1]) (n := n) (by rw [unit_len]; omega) i).2
    rw [hu, Nat.mul_one] at h
    refine Nat.le_trans h ?_
    have key : ∀ n, n < 25 → ∀ i, i < 4 → n ^ i ≤ (i + 1) ^ n := by decide +kernel
    exact key n hn i hi
  · obtain ⟨h1, h2⟩ := mv_step hk (nn_unit n) 1 i
    have h := norm_val _ h1
    rw [h2, val_unit] at h
    have e : ((1 : Int) + (i : Int)) ^ n = (((i + 1) ^ n : Nat) : Int) := by
      rw [Int.natCast_pow]; congr 1; omega
    rw [e] at h
    omega
theorem nsum_unit (kind n : Nat) (hn : n < 25) {k : Nat} (hk : k ≤ 4) : nsum kind (List.replicate n 0 ++ [1]) k ≤ SS n := by
  have h := fun i hi => norm_unit kind n i hn hi
  have h0 := h 0 (by decide)
  have h1 := h 1 (by decide)
  have h2 := h 2 (by decide)
  have h3 := h 3 (by decide)
  rw [Nat.zero_add, Nat.one_pow] at h0
  rw [show (1 + 1 : Nat) = 2 from rfl] at h1
  rw [show (2 + 1 : Nat) = 3 from rfl] at h2
  rw [show (3 + 1 : Nat) = 4 from rfl] at h3
  have mono : ∀ a b, a ≤ b → nsum kind (List.replicate n 0 ++ [1]) a ≤ nsum kind (List.replicate n 0 ++ [1]) b := fun a b hab => by
    induction b with
    | zero => have : a = 0 := by omega
              rw [this]; exact Nat.le_refl _
    | succ b ih =>
      by_cases e : a = b + 1
      · rw [e]; exact Nat.le_refl _
      · have := ih (by omega)
        show _ ≤ nsum kind _ b + _
        omega
  refine Nat.le_trans (mono k 4 hk) ?_
  show 0 + norm (mv kind _ 0) + norm (mv kind _ 1) + norm (mv kind _ 2) + norm (mv kind _ 3) ≤ 1 + 2 ^ n + 3 ^ n + 4 ^ n
  omega
/-- the bound of a column -/
def BB (n : Nat) : Nat := BIG * SS n
theorem col_le {kind N : Nat} {a : EqI} (hN : N ≤ 25) (hl : a.1.length ≤ 4) (h1 : ∀ p ∈ a.1, Le1 BIG p) (h2 : Le1 BIG a.2) (j t : Nat) : (co (gI kind N a j) t).natAbs ≤ BB j := by
  unfold gI BB
  by_cases h : j < N
  · rw [if_pos h, leftI_st]
    exact Nat.le_trans ((left_le (kind := kind) (y := List.replicate j 0 ++ [1]) a.1.length a.1 rfl h1).2 t) (Nat.mul_le_mul_left _ (nsum_unit kind j (by omega) hl))
  · rw [if_neg h]
    exact Nat.le_trans (le1_co h2 t) (Nat.le_mul_of_pos_right _ (ss_pos j))
theorem rows_le {kind N : Nat} {as : List EqI} (hN : N ≤ 25) (h : ∀ a ∈ as, a.1.length ≤ 4 ∧ (∀ p ∈ a.1, Le1 BIG p) ∧ Le1 BIG a.2) : ∀ r ∈ rowsI kind as N, ∀ j, (co r j).natAbs ≤ BB j := fun r hr j => by
  obtain ⟨a, ha, hm⟩ := List.mem_flatMap.mp hr
  obtain ⟨p, _, rfl⟩ := List.mem_map.mp hm
  by_cases hj : j < N + 1
  · rw [row_co, cols_get hj]
    obtain ⟨b1, b2, b3⟩ := h a ha
    exact col_le hN b1 b2 b3 j p
  · rw [Sl.co_ge (by rw [List.length_map, colsI_len]; omega)]; exact Nat.zero_le _
end Pg
set_option Elab.async false
set_option linter.all false
namespace Pg
open Sl (Tm co)
open El (prodN fact Inv Mat cl det fst snd)
/-! ### how great the numbers of the elimination are -/
theorem bb_pos (n : Nat) : 0 < BB n := Nat.mul_pos (by unfold BIG; exact Nat.pow_pos (by decide)) (ss_pos n)
theorem bb_mono {j k : Nat} (h : j ≤ k) : BB j ≤ BB k := by
  unfold BB SS
  refine Nat.mul_le_mul_left _ ?_
  have h2 := Nat.pow_le_pow_right (n := 2) (by decide) h
  have h3 := Nat.pow_le_pow_right (n := 3) (by decide) h
  have h4 := Nat.pow_le_pow_right (n := 4) (by decide) h
  exact Nat.add_le_add (Nat.add_le_add (Nat.add_le_add_left h2 1) h3) h4
def XX : Nat := BB 25
def prodUp : Nat → Nat
  | 0 => 1
  | n + 1 => BB n * prodUp n
theorem prodUp_mono : ∀ {a b : Nat}, a ≤ b → prodUp a ≤ prodUp b
  | a, 0, h => by have : a = 0 := by omega
                  rw [this]; exact Nat.le_refl _
  | a, b + 1, h => by
    by_cases e : a = b + 1
    · rw [e]; exact Nat.le_refl _
    · exact Nat.le_trans (prodUp_mono (b := b) (by omega)) (Nat.le_mul_of_pos_left _ (bb_pos b))
theorem prod_dec : ∀ (q : List Nat) (N : Nat), q.Pairwise (fun a b => b < a) → (∀ p ∈ q, p < N) → prodN (q.map BB) ≤ prodUp N ∧ q.length ≤ N
  | [], N, _, _ => ⟨prodUp_mono (Nat.zero_le N), Nat.zero_le _⟩
  | p :: ys, N, h, hN => by
    obtain ⟨h1, h2⟩ := List.pairwise_cons.mp h
    obtain ⟨i1, i2⟩ := prod_dec ys p h2 h1
    have hp := hN p (List.mem_cons_self ..)
    refine ⟨Nat.le_trans (Nat.mul_le_mul_left _ i1 : BB p * prodN (ys.map BB) ≤ prodUp (p + 1)) (prodUp_mono hp), by rw [List.length_cons]; omega⟩
theorem fact_pos : ∀ n, 0 < fact n
  | 0 => by decide
  | n + 1 => Nat.mul_pos (by omega) (fact_pos n)
theorem fact_mono : ∀ {a b : Nat}, a ≤ b → fact a ≤ fact b
  | a, 0, h => by have : a = 0 := by omega
                  rw [this]; exact Nat.le_refl _
  | a, b + 1, h => by
    by_cases e : a = b + 1
    · rw [e]; exact Nat.le_refl _
    · exact Nat.le_trans (fact_mono (b := b) (by omega)) (Nat.le_mul_of_pos_left _ (by omega))
theorem fact_pow : ∀ r, r ≤ 25 → fact r ≤ 25 ^ r
  | 0, _ => by decide
  | r + 1, h => by
    show (r + 1) * fact r ≤ 25 ^ (r + 1)
    rw [Nat.pow_succ, Nat.mul_comm]
    exact Nat.mul_le_mul (fact_pow r (by omega)) h
theorem former_num : fact 25 * prodUp 25 < 2 ^ 9000 := by decide +kernel
theorem low_num : fact 26 * XX ^ 26 < 2 ^ 20000 := by decide +kernel
theorem pow_num : 25 * XX ≤ 10 ^ 117 := by decide +kernel
theorem xx_pos : 0 < XX := bb_pos 25
section
variable {m N c : Nat} {A M : Mat} {q : List Nat} {d : Int}
theorem det_bd {n : Nat} {t : Nat → Nat} (js : List Nat) (hl : js.length = n) (hA : ∀ i, i < m → ∀ j, (A i j).natAbs ≤ BB j) (ht : ∀ k, k < n → t k < m) : (det n (js.map (cl A t))).natAbs ≤ fact n * prodN (js.map BB) := by
  have h := El.det_le n (js.map fun j => (cl A t j, BB j)) (by rw [List.length_map]; exact hl) fun x hx k hk => by
    obtain ⟨j, _, rfl⟩ := List.mem_map.mp hx
    exact hA _ (ht k hk) j
  have e1 : fst (js.map fun j => (cl A t j, BB j)) = js.map (cl A t) := by unfold fst; rw [List.map_map]; rfl
  have e2 : snd (js.map fun j => (cl A t j, BB j)) = js.map BB := by unfold snd; rw [List.map_map]; rfl
  rw [e1, e2] at h
  exact h
theorem prod_xx (js : List Nat) (h : ∀ j ∈ js, j ≤ 25) : prodN (js.map BB) ≤ XX ^ js.length := by
  have := prod_le_pow (X := XX) (js.map BB) fun b hb => by
    obtain ⟨j, hj, rfl⟩ := List.mem_map.mp hb
    exact bb_mono (h j hj)
  rwa [List.length_map] at this
theorem former_lt (h : Inv m (N + 1) A M q d c) (hc : c ≤ N) (hN : N ≤ 25) (hA : ∀ i, i < m → ∀ j, (A i j).natAbs ≤ BB j) : d.natAbs < 2 ^ 9000 := by
  obtain ⟨h1, h2⟩ := prod_dec q c h.dec h.qc
  have hb := det_bd (t := id) q rfl hA fun k hk => Nat.lt_of_lt_of_le hk h.rm
  rw [← h.d1] at hb
  refine Nat.lt_of_le_of_lt hb (Nat.lt_of_le_of_lt (Nat.mul_le_mul (fact_mono (by omega : q.length ≤ 25)) (Nat.le_trans h1 (prodUp_mono (by omega : c ≤ 25)))) former_num)
theorem cols25 (h : Inv m (N + 1) A M q d c) (hc : c ≤ N) (hN : N ≤ 25) : ∀ p ∈ q, p ≤ 25 := fun p hp => by have := h.qc p hp; omega
theorem top_bd (h : Inv m (N + 1) A M q d c) (hc : c ≤ N) (hN : N ≤ 25) (hA : ∀ i, i < m → ∀ j, (A i j).natAbs ≤ BB j) {k j : Nat} (hk : k < q.length) (hj : j < N + 1) : (M k j).natAbs ≤ fact q.length * XX ^ q.length := by
  obtain ⟨xs, p, ys, hq, rfl⟩ := El.split_at hk
  have h25 := cols25 h hc hN
  have e : (xs ++ j :: ys).length = q.length := by rw [hq]; simp
  have hb := det_bd (t := id) (n := q.length) (xs ++ j :: ys) e hA fun k hk => Nat.lt_of_lt_of_le hk h.rm
  have hx := prod_xx (xs ++ j :: ys) fun x hx => by
    rcases List.mem_append.mp hx with z | z
    · exact h25 x (by rw [hq]; exact List.mem_append.mpr (.inl z))
    · rcases List.mem_cons.mp z with y | y
      · omega
      · exact h25 x (by rw [hq]; exact List.mem_append.mpr (.inr (List.mem_cons_of_mem _ y)))
  rw [h.top xs p ys hq j hj]
  have e2 : xs.map (cl A id) ++ cl A id j :: ys.map (cl A id) = (xs ++ j :: ys).map (cl A id) := by simp
  rw [e2]
  rw [e] at hx
  exact Nat.le_trans hb (Nat.mul_le_mul_left _ hx)
theorem form_bd (h : Inv m (N + 1) A M q d c) (hc : c ≤ N) (hN : N ≤ 25) (hA : ∀ i, i < m → ∀ j, (A i j).natAbs ≤ BB j) : d.natAbs ≤ fact q.length * XX ^ q.length := by
  have hb := det_bd (t := id) q rfl hA fun k hk => Nat.lt_of_lt_of_le hk h.rm
  rw [← h.d1] at hb
  exact Nat.le_trans hb (Nat.mul_le_mul_left _ (prod_xx q (cols25 h hc hN)))
theorem low_bd (h : Inv m (N + 1) A M q d c) (hc : c ≤ N) (hN : N ≤ 25) (hA : ∀ i, i < m → ∀ j, (A i j).natAbs ≤ BB j) {i j : Nat} (hi : q.length ≤ i) (him : i < m) (hj : j < N + 1) : (M i j).natAbs ≤ fact (q.length + 1) * XX ^ (q.length + 1) := by
  have h25 := cols25 h hc hN
  have hb := det_bd (t := El.iota q.length i) (n := q.length + 1) (j :: q) rfl hA fun k hk => by
    unfold El.iota
    split
    · omega
    · exact him
  have hx := prod_xx (j :: q) fun x hx => by
    rcases List.mem_cons.mp hx with y | y
    · omega
    · exact h25 x y
  rw [h.low i hi him j hj]
  exact Nat.le_trans hb (Nat.mul_le_mul_left _ hx)
theorem any_lt (h : Inv m (N + 1) A M q d c) (hc : c ≤ N) (hN : N ≤ 25) (hA : ∀ i, i < m → ∀ j, (A i j).natAbs ≤ BB j) {i j : Nat} (him : i < m) (hj : j < N + 1) : (M i j).natAbs < 2 ^ 20000 := by
  have h2 := (prod_dec q c h.dec h.qc).2
  by_cases hi : i < q.length
  · refine Nat.lt_of_le_of_lt (top_bd h hc hN hA hi hj) (Nat.lt_of_le_of_lt (Nat.mul_le_mul (fact_mono (by omega : q.length ≤ 26)) (Nat.pow_le_pow_right xx_pos (by omega : q.length ≤ 26))) low_num)
  · refine Nat.lt_of_le_of_lt (low_bd h hc hN hA (by omega) him hj) (Nat.lt_of_le_of_lt (Nat.mul_le_mul (fact_mono (by omega : q.length + 1 ≤ 26)) (Nat.pow_le_pow_right xx_pos (by omega : q.length + 1 ≤ 26))) low_num)
/-- in figures -/
theorem fig_of {r x : Nat} (hr : r ≤ 25) (h : x ≤ fact r * XX ^ r) : x ≤ 10 ^ (117 * r) := by
  refine Nat.le_trans h (Nat.le_trans (Nat.mul_le_mul_right _ (fact_pow r hr)) ?_)
  rw [← Nat.mul_pow, Nat.pow_mul]
  exact Nat.pow_le_pow_left pow_num r
end
/-! ### how long the answer is -/
theorem term_fig {p n d k : Nat} (hp : p < 100) (hn : n < 10 ^ (k + 1)) (hd : d < 10 ^ (k + 1)) : (Sl.wTerm p n d).length ≤ 2 * (k + 1) + 6 := by
  have l1 := Sl.digits_len n k hn
  have l2 := Sl.digits_len d k hd
  have l3 := Sl.digits_len p 1 hp
  have f : (Sl.wFrac n d).length ≤ 2 * (k + 1) + 1 := by
    unfold Sl.wFrac
    split
    · omega
    · rw [List.length_append, List.length_cons]; omega
  have w : (Sl.wPow p).length ≤ 4 := by
    unfold Sl.wPow
    split
    · simp
    · rw [List.length_cons, List.length_cons]; omega
  unfold Sl.wTerm
  split
  · omega
  · split
    · omega
    · rw [List.length_append, List.length_cons]; omega
structure Fg (k : Nat) (t : Tm) : Prop where
  p : t.p < 100
  n : t.n.natAbs < 10 ^ (k + 1)
  d : t.d < 10 ^ (k + 1)
theorem rest_fig {k : Nat} : ∀ l : List Tm, (∀ t ∈ l, Fg k t) → (Sl.wRest l).length ≤ l.length * (2 * (k + 1) + 9)
  | [], _ => by simp [Sl.wRest]
  | t :: l, h => by
    have ih := rest_fig l fun s hs => h s (List.mem_cons_of_mem _ hs)
    have ht := h t (List.mem_cons_self ..)
    have h1 := term_fig ht.p ht.n ht.d
    have e : Sl.wRest (t :: l) = (32 :: (if t.n < 0 then 45 else 43) :: 32 :: Sl.wTerm t.p t.n.natAbs t.d) ++ Sl.wRest l := rfl
    rw [e, List.length_append, List.length_cons, List.length_cons, List.length_cons, List.length_cons, Nat.add_mul]
    omega
theorem write_fig {k : Nat} {l : List Tm} (h : ∀ t ∈ l, Fg k t) : (Sl.write l).length ≤ l.length * (2 * (k + 1) + 9) + 1 := by
  cases l with
  | nil => simp [Sl.write]
  | cons t l =>
    have ih := rest_fig l fun s hs => h s (List.mem_cons_of_mem _ hs)
    have ht := h t (List.mem_cons_self ..)
    have h1 := term_fig ht.p ht.n ht.d
    show ((if t.n < 0 then [45] else []) ++ Sl.wTerm t.p t.n.natAbs t.d ++ Sl.wRest l).length ≤ _
    rw [List.length_append, List.length_append, List.length_cons, Nat.add_mul]
    have : (if t.n < 0 then [45] else [] : List Nat).length ≤ 1 := by split <;> simp
    omega
theorem terms_fig {k : Nat} {l : List Int} {m : Int} (hm : m ≠ 0) (hl : l.length ≤ 25) (hs : ∀ n, (co l n).natAbs ≤ 10 ^ k) (hb : m.natAbs ≤ 10 ^ k) : ∀ t ∈ Sl.termsOver l m, Fg k t := fun t ht => by
  unfold Sl.termsOver at ht
  obtain ⟨i, hi, rfl⟩ := List.mem_map.mp ht
  have hi' := List.mem_range.mp (List.mem_filter.mp (List.mem_reverse.mp hi)).1
  obtain ⟨a, b⟩ := lowT_le (i := i) (n := co l i) hm
  have hp : 10 ^ k < 10 ^ (k + 1) := Nat.pow_lt_pow_right (by decide) (by omega)
  exact ⟨by show i < 100; omega, Nat.lt_of_le_of_lt (Nat.le_trans a (hs i)) hp, Nat.lt_of_le_of_lt (Nat.le_trans b hb) hp⟩
theorem one_fig {k : Nat} {l : List Int} {m : Int} (hm : m ≠ 0) (hl : l.length ≤ 25) (hs : ∀ n, (co l n).natAbs ≤ 10 ^ k) (hb : m.natAbs ≤ 10 ^ k) : (told1 m l).length ≤ 25 * (2 * (k + 1) + 9) + 2 := by
  have h1 := write_fig (terms_fig hm hl hs hb)
  have h2 := terms_len l m
  have h3 : (Sl.termsOver l m).length * (2 * (k + 1) + 9) ≤ 25 * (2 * (k + 1) + 9) := Nat.mul_le_mul_right _ (by omega)
  show (Sl.write (Sl.termsOver l m)).length + 1 ≤ _
  omega
theorem flat_fig {f : List Int → List Nat} {X : Nat} : ∀ ls : List (List Int), (∀ l ∈ ls, (f l).length ≤ X) → (ls.flatMap f).length ≤ ls.length * X
  | [], _ => Nat.zero_le _
  | l :: ls, h => by
    have ih := flat_fig (f := f) ls fun x hx => h x (List.mem_cons_of_mem _ hx)
    have h1 := h l (List.mem_cons_self ..)
    rw [List.flatMap_cons, List.length_append, List.length_cons, Nat.add_mul]
    omega
theorem free_count : ∀ (q : List Nat) (N : Nat), q.Pairwise (fun a b => b < a) → (∀ p ∈ q, p < N) → ((List.range N).filter fun c => decide (c ∉ q)).length + q.length = N
  | [], N, _, _ => by
    rw [List.filter_eq_self.mpr fun c _ => by simp]
    simp
  | p :: ys, N, h, hN => by
    obtain ⟨h1, h2⟩ := List.pairwise_cons.mp h
    have ih := free_count ys p h2 h1
    have hp := hN p (List.mem_cons_self ..)
    obtain ⟨k, rfl⟩ : ∃ k, N = p + (k + 1) := ⟨N - p - 1, by omega⟩
    rw [List.range_add, List.filter_append, List.length_append]
    have e1 : (List.range p).filter (fun c => decide (c ∉ p :: ys)) = (List.range p).filter fun c => decide (c ∉ ys) := List.filter_congr fun c hc => by
      have := List.mem_range.mp hc
      have hne : c ≠ p := by omega
      simp [hne]
    have e2 : (((List.range (k + 1)).map fun x => p + x).filter fun c => decide (c ∉ p :: ys)).length = k := by
      rw [List.range_succ_eq_map, List.map_cons, List.filter_cons, if_neg (by simp), List.map_map, List.filter_eq_self.mpr fun c hc => ?_]
      · simp
      · obtain ⟨x, _, rfl⟩ := List.mem_map.mp hc
        have hlt : ¬ p + (x + 1) ∈ p :: ys := fun z => by
          rcases List.mem_cons.mp z with y | y
          · omega
          · have := h1 _ y; omega
        exact decide_eq_true hlt
    rw [e1, e2, List.length_cons]
    omega
end Pg
set_option Elab.async false
set_option linter.all false
namespace Pg
open Sl (Tm co)
open El (fact Inv Mat)
/-! ### what the walk asks of the numbers holds of every input -/
theorem len_num : ∀ r, r < 26 → (26 - r) * (25 * (2 * (117 * r + 1) + 9) + 2) + 1 ≤ 999000 := by decide +kernel
theorem one_num : ∀ r, r < 26 → 25 * (2 * (117 * r + 1) + 9) + 1 ≤ 900000 := by decide +kernel
theorem okt_fig {k : Nat} {t : Tm} (h : Fg k t) (hk : k ≤ 3000) : Okt t := by
  have key : ∀ x, x < 10 ^ (k + 1) → x.log2 < 100000 := fun x hx => by
    have h1 : (10 : Nat) ^ (k + 1) ≤ (2 ^ 4) ^ (k + 1) := Nat.pow_le_pow_left (by decide) _
    rw [← Nat.pow_mul] at h1
    exact Nat.lt_of_lt_of_le (log2_of_lt (Nat.lt_of_lt_of_le hx h1) (by omega)) (by omega)
  refine ⟨Nat.lt_of_le_of_lt (Nat.log2_le_self _) (Nat.lt_trans h.p (by decide)), key _ h.n, key _ h.d⟩
section
variable {kind N : Nat} {as : List EqI}
theorem el_sizes (hN : N ≤ 25) (ha : ∀ a ∈ as, a.1.length ≤ 4 ∧ (∀ p ∈ a.1, Le1 BIG p) ∧ Le1 BIG a.2) (hm : (rowsI kind as N).length ≤ 1000) {i : Nat} (hi : i ≤ N) : OkEl N (elAt (rowsI kind as N) i) := by
  have hok := el_ok (rows := rowsI kind as N) (w := N + 1) rows_wid i (by omega)
  have hle := rows_le (kind := kind) hN ha
  generalize rowsI kind as N = rows at *
  generalize elAt rows i = s at *
  obtain ⟨A, hA, hI⟩ := hok.inv
  have hA' : ∀ i, i < rows.length → ∀ j, (A i j).natAbs ≤ BB j := fun t ht j => by
    obtain ⟨k, hk, e⟩ := hA t ht
    rw [e]
    exact hle _ (getD_mem hk) j
  have hrl : s.piv.reverse.length = s.piv.length := List.length_reverse
  have hrm := hI.rm
  rw [hrl] at hrm
  refine ⟨by rw [hok.len]; exact hm, by rw [hok.len]; exact hrm, fun r hr => ⟨?_, ?_, fun x hx => ?_⟩, ⟨hI.d0, log2_of_lt (former_lt hI hi hN hA') (by decide)⟩, fun c hc => ?_⟩
  · rw [hok.wid r hr]; omega
  · rw [hok.wid r hr]; omega
  · obtain ⟨j, hj, rfl⟩ := mem_co hx
    obtain ⟨k, hk, e⟩ := List.getElem_of_mem hr
    have hkl : k < rows.length := by rw [← hok.len]; exact hk
    have := any_lt hI hi hN hA' (i := k) (j := j) hkl (by rw [hok.wid r hr] at hj; exact hj)
    unfold mat at this
    rw [List.getD_eq_getElem?_getD, List.getElem?_eq_getElem hk] at this
    rw [← e]; exact this
  · have := hI.qc c (List.mem_reverse.mpr hc); omega
theorem el_told (hN : N ≤ 25) (ha : ∀ a ∈ as, a.1.length ≤ 4 ∧ (∀ p ∈ a.1, Le1 BIG p) ∧ Le1 BIG a.2) {s : ElS} (hs : s = elAt (rowsI kind as N) N) : (∀ l ∈ specialI s.rows s.piv N :: othersI N s, (l.length ≤ 1000 ∧ (Sl.write (Sl.termsOver l s.former)).length ≤ 900000) ∧ ∀ t ∈ Sl.termsOver l s.former, Okt t) ∧ (toldOf N s).length ≤ 999000 := by
  have hok := el_ok (rows := rowsI kind as N) (w := N + 1) rows_wid N (by omega)
  have hle := rows_le (kind := kind) hN ha
  rw [← hs] at hok
  generalize rowsI kind as N = rows at *
  obtain ⟨A, hA, hI⟩ := hok.inv
  have hA' : ∀ i, i < rows.length → ∀ j, (A i j).natAbs ≤ BB j := fun t ht j => by
    obtain ⟨k, hk, e⟩ := hA t ht
    rw [e]
    exact hle _ (getD_mem hk) j
  have hrl : s.piv.reverse.length = s.piv.length := List.length_reverse
  have hrN := (prod_dec _ N hI.dec hI.qc).2
  rw [hrl] at hrN
  have hr26 : s.piv.length < 26 := by omega
  have hform : s.former.natAbs ≤ 10 ^ (117 * s.piv.length) := by
    have := form_bd hI (Nat.le_refl _) hN hA'
    rw [hrl] at this
    exact fig_of (by omega) this
  have htop : ∀ k j, k < s.piv.length → j < N + 1 → (mat s.rows k j).natAbs ≤ 10 ^ (117 * s.piv.length) := fun k j hk hj => by
    have := top_bd hI (Nat.le_refl _) hN hA' (k := k) (j := j) (by rw [hrl]; exact hk) hj
    rw [hrl] at this
    exact fig_of (by omega) this
  have hall : ∀ l ∈ specialI s.rows s.piv N :: othersI N s, l.length ≤ 25 ∧ ∀ n, (co l n).natAbs ≤ 10 ^ (117 * s.piv.length) := fun l hl => by
    rcases List.mem_cons.mp hl with e | e
    · rw [e]
      obtain ⟨f1, f2⟩ := special_facts hI
      refine ⟨by unfold specialI; rw [sets_len]; simpa using hN, fun n => ?_⟩
      by_cases hn : n ∈ s.piv
      · obtain ⟨xs, ys, hq⟩ := List.append_of_mem (List.mem_reverse.mpr hn)
        rw [f1 xs n ys hq]
        exact htop _ _ (by have := congrArg List.length hq; simp at this; omega) (by omega)
      · rw [f2 n hn]; exact Nat.zero_le _
    · obtain ⟨f, hf, rfl⟩ := List.mem_map.mp e
      obtain ⟨hf1, hf2⟩ := List.mem_filter.mp hf
      have hfN := List.mem_range.mp hf1
      have hfp : f ∉ s.piv := of_decide_eq_true hf2
      obtain ⟨f1, f2, f3⟩ := free_facts hI hfN hfp
      refine ⟨by unfold freeI; rw [sets_len]; simpa using hN, fun n => ?_⟩
      by_cases hn : n ∈ s.piv
      · obtain ⟨xs, ys, hq⟩ := List.append_of_mem (List.mem_reverse.mpr hn)
        rw [f1 xs n ys hq, Int.natAbs_neg]
        exact htop _ _ (by have := congrArg List.length hq; simp at this; omega) (by omega)
      · by_cases e2 : n = f
        · rw [e2, f2]; exact hform
        · rw [f3 n hn e2]; exact Nat.zero_le _
  refine ⟨fun l hl => ?_, ?_⟩
  · obtain ⟨h1, h2⟩ := hall l hl
    have hfg := terms_fig hI.d0 h1 h2 hform
    have h3 := write_fig hfg
    have h4 := terms_len l s.former
    have h5 : (Sl.termsOver l s.former).length * (2 * (117 * s.piv.length + 1) + 9) ≤ 25 * (2 * (117 * s.piv.length + 1) + 9) := Nat.mul_le_mul_right _ (by omega)
    have h6 := one_num _ hr26
    exact ⟨⟨by omega, by omega⟩, fun t ht => okt_fig (hfg t ht) (by omega)⟩
  · unfold toldOf toldP
    have hol : (othersI N s).length + s.piv.length = N := by
      have := free_count s.piv.reverse N hI.dec hI.qc
      rw [hrl] at this
      have e : (List.range N).filter (fun c => decide (c ∉ s.piv.reverse)) = (List.range N).filter fun c => decide (c ∉ s.piv) := List.filter_congr fun c _ => by simp
      rw [e] at this
      unfold othersI freeOf
      rw [List.length_map]; exact this
    have hfl := flat_fig (f := told1 s.former) (X := 25 * (2 * (117 * s.piv.length + 1) + 9) + 2) (specialI s.rows s.piv N :: othersI N s) fun l hl => one_fig hI.d0 (hall l hl).1 (hall l hl).2 hform
    have e1 : (specialI s.rows s.piv N :: othersI N s).take ((othersI N s).length + 1) = specialI s.rows s.piv N :: othersI N s := List.take_of_length_le (by simp)
    rw [e1, List.length_cons]
    have h6 := len_num _ hr26
    rw [List.length_cons] at hfl
    have h7 : ((othersI N s).length + 1) * (25 * (2 * (117 * s.piv.length + 1) + 9) + 2) ≤ (26 - s.piv.length) * (25 * (2 * (117 * s.piv.length + 1) + 9) + 2) := Nat.mul_le_mul_right _ (by omega)
    omega
end
theorem sv_ok {kind : Nat} {sizes : List Nat} {texts : List (List Nat)} (hs : sizes.length ≤ 1000000) (htl : texts.length ≤ 100) (htt : ∀ t ∈ texts, t.length ≤ 200) : SvOk kind sizes texts := by
  refine ⟨htl, htt, hs, os_len htt, fun r0 ts ht => (ls_ok r0 ts ht).2.2, fun hf r0 e he => ?_, fun hf r0 z0 => ?_⟩
  · obtain ⟨a, b, c, _, g⟩ := es_ok hf r0 e he
    exact ⟨a, b, c, g⟩
  · have hes := es_ok hf r0
    obtain ⟨f1, f2, f3, f4, f5⟩ := fit_facts hf
    have hll : (lsOf texts).length = upTo sizes := by unfold lsOf osOf; rw [List.length_map, List.length_map]; exact f5
    have hle := eqs_le sizes (lsOf texts) (fun n hn => (f4 n hn).2) hll (rds_of r0)
    have hel : (esOf sizes texts).length = sizes.length := eqs_len sizes (lsOf texts)
    have hle' : ∀ a ∈ esOf sizes texts, a.1.length ≤ 4 ∧ (∀ p ∈ a.1, Le1 BIG p) ∧ Le1 BIG a.2 := fun a ha => ⟨(hes a ha).1, (hle a ha).1, (hle a ha).2⟩
    generalize esOf sizes texts = as at *
    have hne : as ≠ [] := fun z => by rw [z] at hel; simp at hel; omega
    have hnz := nz_of z0
    refine ⟨hi_ge hne fun e he => high_ge (hes e he).1 (hes e he).2.1 (hes e he).2.2.1 (hnz e he), fun h24 => ?_⟩
    have hN : cntOf kind as ≤ 25 := by unfold cntOf; omega
    have hm : (rowsI kind as (cntOf kind as)).length ≤ 1000 := by
      have := rows_len (kind := kind) (count := cntOf kind as) (by omega) as fun e he => (hes e he).2.2.2.2
      omega
    refine ⟨fun i hi => el_sizes hN hle' hm hi, fun s hs _ => el_told hN hle' hs⟩
end Pg
set_option Elab.async false
set_option linter.all false
set_option maxRecDepth 100000
namespace Pg
open PySem PyProof.Rows L2 Fw
open Sl (Tm Valid Rel RelAll Tr TrI co cq)
open AlOne (Uni)
/-! ### what solve answers is what is due -/
theorem ans_solve (kind : Nat) (sizes : List Nat) (t : List (List Nat)) : Al10.answer (.solve kind sizes t) = if 1 < kind ∨ sizes.length < 1 ∨ 2 < sizes.length ∨ (sizes.any fun (n : Nat) => decide (n < 1) || decide (4 < n)) = true ∨ t.length ≠ (sizes.map fun (n : Nat) => n + 1).sum then Al10.no (-6) else Al10.polys t fun ps =>
    if ((Al10.eqsOf sizes ps).any fun (e : Al10.Eq) => e.ps.all fun (p : Uni) => decide (p = [])) = true then Al10.no (-3) else if Al10.MOST < (Al10.highAll kind (Al10.eqsOf sizes ps)).getD 0 then Al10.no (-2) else (match Al10.solve kind (Al10.eqsOf sizes ps) with
      | none => Al10.no (-5)
      | some x => ⟨(x.2.length : Nat), AlOne.text x.1 :: x.2.map AlOne.text⟩) := rfl
theorem sum_up : ∀ l : List Nat, (l.map fun (n : Nat) => n + 1).sum = l.sum + l.length
  | [] => rfl
  | n :: l => by rw [List.map_cons, List.sum_cons, List.sum_cons, List.length_cons, sum_up l]; omega
theorem fit_is (kind : Nat) (sizes : List Nat) (c : Nat) : fitB kind sizes c = false ↔ (1 < kind ∨ sizes.length < 1 ∨ 2 < sizes.length ∨ (sizes.any fun (n : Nat) => decide (n < 1) || decide (4 < n)) = true ∨ c ≠ (sizes.map fun (n : Nat) => n + 1).sum) := by
  rw [sum_up]
  unfold fitB
  have e : (sizes.any fun (n : Nat) => decide (n < 1) || decide (4 < n)) = sizes.any badS := rfl
  rw [e]
  by_cases h1 : 1 < kind ∨ sizes.length < 1 ∨ 2 < sizes.length
  · rw [if_pos h1]
    constructor
    · intro _
      rcases h1 with z | z | z
      · exact .inl z
      · exact .inr (.inl z)
      · exact .inr (.inr (.inl z))
    · intro _; rfl
  · rw [if_neg h1]
    by_cases h2 : sizes.any badS = true
    · rw [if_pos h2]
      exact ⟨fun _ => .inr (.inr (.inr (.inl h2))), fun _ => rfl⟩
    · rw [if_neg h2]
      constructor
      · intro h; exact .inr (.inr (.inr (.inr (of_decide_eq_false h))))
      · intro h
        refine decide_eq_false ?_
        rcases h with z | z | z | z | z
        · exact absurd (.inl z) h1
        · exact absurd (.inr (.inl z)) h1
        · exact absurd (.inr (.inr z)) h1
        · exact absurd z h2
        · exact z
theorem told_flat (d : Int) : ∀ ls : List (List Int), (ls.flatMap (told1 d)).map (fun (b : Nat) => (b : Int)) = (ls.map (oneT d)).flatMap Al10Neutral.shownText
  | [] => rfl
  | l :: ls => by
    rw [List.flatMap_cons, List.map_append, told_flat d ls, List.map_cons, List.flatMap_cons]
    rfl
theorem told_is (N : Nat) (s : ElS) : (toldOf N s).map (fun (b : Nat) => (b : Int)) = ((othersI N s).length : Int) :: (oneT s.former (specialI s.rows s.piv N) :: (othersI N s).map (oneT s.former)).flatMap Al10Neutral.shownText := by
  unfold toldOf toldP
  rw [List.take_of_length_le (by simp), List.map_cons, told_flat, List.map_cons]
/-- nothing is named for the height: 0 alone may be a solution -/
theorem none_zero {kind : Nat} {as : List EqI} {es : List Al10.Eq} (h : EqsOk as es) : noneI 0 (elAt (rowsI kind as 0) 0) = !(es.all fun (e : Al10.Eq) => decide (e.f = [])) := by
  show ((rowsI kind as 0).drop 0).any (fun r => decide (co r 0 ≠ 0)) = _
  rw [List.drop_zero]
  have key : (rowsI kind as 0).any (fun r => decide (co r 0 ≠ 0)) = as.any fun a => decide (a.2 ≠ []) := by
    have : ∀ as : List EqI, (∀ a ∈ as, TrI a.2) → (rowsI kind as 0).any (fun r => decide (co r 0 ≠ 0)) = as.any fun a => decide (a.2 ≠ []) := fun as => by
      induction as with
      | nil => intro _; rfl
      | cons a as ih =>
        intro ht
        have e1 : rowsI kind (a :: as) 0 = rowsOf (colsI kind a 0) ++ rowsI kind as 0 := rfl
        rw [e1, List.any_append, List.any_cons, ih fun x hx => ht x (List.mem_cons_of_mem _ hx)]
        congr 1
        have hc : colsI kind a 0 = [a.2] := rfl
        rw [hc]
        have hta := ht a (List.mem_cons_self ..)
        by_cases q : a.2 = []
        · rw [q]; rfl
        · rw [decide_eq_true (show a.2 ≠ [] from q), List.any_eq_true]
          have hl : 0 < a.2.length := List.length_pos_iff.mpr q
          refine ⟨[a.2].map fun c => co c (a.2.length - 1), List.mem_map.mpr ⟨a.2.length - 1, List.mem_range.mpr ?_, rfl⟩, decide_eq_true ?_⟩
          · show a.2.length - 1 < max 0 a.2.length
            omega
          · show co a.2 (a.2.length - 1) ≠ 0
            unfold TrI at hta
            rw [List.getLast?_eq_getElem?, List.getElem?_eq_getElem (by omega)] at hta
            unfold Sl.co
            rw [List.getD_eq_getElem?_getD, List.getElem?_eq_getElem (by omega)]
            intro z
            exact hta (congrArg some z)
    exact this as fun a ha => by
      obtain ⟨e, _, s, hs⟩ := (eqs_mem h).1 a ha
      exact hs.tf
  rw [key]
  induction h with
  | nil => rfl
  | @cons s a e as es ha hr ih =>
    have ih' : (as.any fun a => decide (a.2 ≠ [])) = !(es.all fun (e : Al10.Eq) => decide (e.f = [])) := by
      clear ih key
      induction hr with
      | nil => rfl
      | @cons s a e as es ha hr ih =>
        rw [List.any_cons, List.all_cons, ih, Bool.not_and]
        congr 1
        have hn := Hd.rel_nil ha.s0 ha.f ha.tf ha.tg
        by_cases q : a.2 = []
        · rw [decide_eq_false (by simpa using q), decide_eq_true (hn.mp q)]; rfl
        · rw [decide_eq_true q, decide_eq_false fun z => q (hn.mpr z)]; rfl
    rw [List.any_cons, List.all_cons, ih', Bool.not_and]
    congr 1
    have hn := Hd.rel_nil ha.s0 ha.f ha.tf ha.tg
    by_cases q : a.2 = []
    · rw [decide_eq_false (by simpa using q), decide_eq_true (hn.mp q)]; rfl
    · rw [decide_eq_true q, decide_eq_false fun z => q (hn.mpr z)]; rfl
theorem solve_answer (kind : Nat) (sizes : List Nat) (texts : List (List Nat)) : solveI kind sizes texts = (Al10.answer (.solve kind sizes texts)).code :: (Al10.answer (.solve kind sizes texts)).texts.flatMap Al10Neutral.shownText := by
  rw [ans_solve]
  unfold solveI
  by_cases q : fitB kind sizes texts.length = false
  · rw [if_pos q, if_pos ((fit_is _ _ _).mp q)]; rfl
  · rw [if_neg q, if_neg (fun z => q ((fit_is _ _ _).mpr z)), polys_is]
    have q' : fitB kind sizes texts.length = true := by simpa using q
    obtain ⟨f1, f2, f3, f4, f5⟩ := fit_facts q'
    by_cases r0 : refusal (osOf texts) ≠ 0
    · rw [if_pos r0, if_pos r0]; rfl
    · rw [if_neg r0, if_neg r0]
      have r : refusal (osOf texts) = 0 := Decidable.not_not.mp r0
      have hll : (lsOf texts).length = upTo sizes := by unfold lsOf osOf; rw [List.length_map, List.length_map]; exact f5
      have hE := eqs_rel sizes (lsOf texts) (fun n hn => (f4 n hn).2) hll (rds_of r)
      have hes := es_ok q' r
      have hel : (esOf sizes texts).length = sizes.length := eqs_len sizes (lsOf texts)
      have hE' : EqsOk (esOf sizes texts) (Al10.eqsOf sizes ((lsOf texts).map uniT)) := hE
      generalize Al10.eqsOf sizes ((lsOf texts).map uniT) = es at *
      generalize esOf sizes texts = as at *
      rw [zero_any hE']
      by_cases z : (es.any fun (e : Al10.Eq) => e.ps.all fun (p : Uni) => decide (p = [])) = true
      · rw [if_pos z, if_pos z]; rfl
      · rw [if_neg z, if_neg z]
        have z0 : as.any zeroE = false := by rw [zero_any hE']; simpa using z
        have hh := high_all (kind := kind) hE' (by omega) (by omega) z0
        have hne : as ≠ [] := fun y => by rw [y] at hel; simp at hel; omega
        have hge := hi_ge (kind := kind) hne fun e he => high_ge (hes e he).1 (hes e he).2.1 (hes e he).2.2.1 (nz_of z0 e he)
        by_cases hneg : hiOf kind as < 0
        · have hm1 : hiOf kind as = -1 := by omega
          have hh0 : Al10.highAll kind es = none := by rw [hh]; unfold Hd.optH; rw [if_pos hneg]
          have hc0 : cntOf kind as = 0 := by unfold cntOf; rw [hm1]; rfl
          rw [if_neg (by omega), hh0, if_neg (by decide), hc0]
          have hs : Al10.solve kind es = if (es.all fun (e : Al10.Eq) => decide (e.f = [])) = true then some ([], []) else none := by unfold Al10.solve; rw [hh0]
          rw [hs]
          unfold endI elOf
          rw [hc0, none_zero hE']
          by_cases hf : (es.all fun (e : Al10.Eq) => decide (e.f = [])) = true
          · rw [hf, if_neg (by decide), if_pos rfl]; rfl
          · have hf' : (es.all fun (e : Al10.Eq) => decide (e.f = [])) = false := by simpa using hf
            rw [hf', if_pos (by decide), if_neg (by decide)]; rfl
        · obtain ⟨d, hd⟩ : ∃ d : Nat, hiOf kind as = (d : Int) := ⟨(hiOf kind as).toNat, by omega⟩
          have hh1 : Al10.highAll kind es = some d := by rw [hh]; unfold Hd.optH; rw [if_neg hneg, hd]; rfl
          have hc1 : cntOf kind as = d + 1 := by unfold cntOf; rw [hd]; omega
          rw [hh1, hd, show (some d).getD 0 = d from rfl]
          by_cases h24 : (24 : Int) < (d : Int)
          · rw [if_pos h24, if_pos (show Al10.MOST < d from by unfold Al10.MOST; omega)]; rfl
          · rw [if_neg h24, if_neg (show ¬ Al10.MOST < d from by unfold Al10.MOST; omega), hc1]
            obtain ⟨S1, S2⟩ := solve_same hE' hh1
            unfold endI elOf
            rw [hc1]
            by_cases hn : noneI (d + 1) (elAt (rowsI kind as (d + 1)) (d + 1)) = true
            · rw [if_pos hn, S2 hn]; rfl
            · have hn' : noneI (d + 1) (elAt (rowsI kind as (d + 1)) (d + 1)) = false := by simpa using hn
              obtain ⟨y0, zs, e1, e2, e3⟩ := S1 hn'
              rw [if_neg hn, told_is, e1]
              show _ = ((zs.length : Nat) : Int) :: (AlOne.text y0 :: zs.map AlOne.text).flatMap Al10Neutral.shownText
              rw [e2, e3]
              have : zs.length = (othersI (d + 1) (elAt (rowsI kind as (d + 1)) (d + 1))).length := by
                have := congrArg List.length e3
                simpa using this
              rw [this]
theorem solve_due (kind : Nat) (sizes : List Nat) (texts : List (List Nat)) : solveI kind sizes texts = PyAl10.solve (kind : Int) (sizes.map fun (n : Nat) => (n : Int)) (texts.map fun t => t.map fun (b : Nat) => (b : Int)) := by
  rw [solve_answer]
  unfold PyAl10.solve Al10Neutral.f
  show _ = (Al10.answer (.solve (Int.toNat (kind : Int)) (Al10Neutral.nats (sizes.map fun (n : Nat) => (n : Int))) ((texts.map fun t => t.map fun (b : Nat) => (b : Int)).map Al10Neutral.nats))).code :: (Al10.answer (.solve (Int.toNat (kind : Int)) (Al10Neutral.nats (sizes.map fun (n : Nat) => (n : Int))) ((texts.map fun t => t.map fun (b : Nat) => (b : Int)).map Al10Neutral.nats))).texts.flatMap Al10Neutral.shownText
  rw [nats_all, nats_back, Int.toNat_natCast]
open PySem.W (Codec WData)
theorem spec_solve (K : PySem.W.Frag) (H : Hp) (xs : List V) (a : Codec.denoteAll PySem.Challenge.rw_slopesteps_s01_solve.args) (hw : Codec.withinAll PySem.Challenge.rw_slopesteps_s01_solve.args a = true) (hx : DwAll K H xs (Codec.encAll PySem.Challenge.rw_slopesteps_s01_solve.args a)) :
    SpR K R_solve xs H (fun v H' => Dw K H' v (PySem.Challenge.rw_slopesteps_s01_solve.ret.enc (Codec.app PySem.Challenge.rw_slopesteps_s01_solve.args PySem.Challenge.rw_slopesteps_s01_solve.f a))) (fun _ _ _ => False) := by
  obtain ⟨kind, sizes, texts, u⟩ := a
  have hk : 0 ≤ kind := int_lo (and_l hw)
  obtain ⟨z1, z2⟩ := list_in (and_l (and_r hw))
  have hz : ∀ x ∈ sizes, 0 ≤ x := fun x hm => int_lo (z2 x hm)
  obtain ⟨t1, t2⟩ := list_in (and_l (and_r (and_r hw)))
  have ht : ∀ t ∈ texts, t.length ≤ 200 ∧ ∀ b ∈ t, 0 ≤ b := fun t hm => by
    obtain ⟨s1, s2⟩ := list_in (t2 t hm)
    exact ⟨s1, fun b hb => int_lo (s2 b hb)⟩
  obtain ⟨ns, hns, hn⟩ := texts_nat (n := 200) ht
  subst hns
  obtain ⟨kn, rfl⟩ : ∃ kn : Nat, kind = (kn : Int) := ⟨kind.toNat, (Int.toNat_of_nonneg hk).symm⟩
  obtain ⟨zs, rfl⟩ : ∃ zs : List Nat, sizes = zs.map fun (n : Nat) => (n : Int) := ⟨sizes.map Int.toNat, by
    rw [List.map_map]
    have h2 := List.map_congr_left (f := (fun (b : Nat) => (b : Int)) ∘ Int.toNat) (g := id) (l := sizes) fun b hb => Int.toNat_of_nonneg (hz b hb)
    rw [h2]; simp⟩
  have hx' : DwAll K H xs [.int (kn : Int), .list ((zs.map fun (n : Nat) => (n : Int)).map WData.int), .list ((ns.map fun t => t.map fun (b : Nat) => (b : Int)).map fun l => .list (l.map WData.int))] := hx
  cases hx' with
  | cons h1 h2 =>
    cases h2 with
    | cons h3 h4 =>
      cases h4 with
      | cons h5 h6 =>
        cases h6
        cases h1
        refine ⟨H, [.int (kn : Int), .inp (dN zs), .inp (dTx ns)], .lst (dI (solveI kn zs ns)), Same.refl H, .cons (.int _) (.cons ?_ (.cons ?_ .nil)), ⟨kn, zs, ns, rfl, sv_ok ?_ ?_ hn, rfl⟩, fun v G' H' st r => ?_⟩
        · have := rp_inp h3
          rw [← dN_dI] at this
          exact this
        · have := rp_inps h5
          rw [List.map_map] at this
          unfold dTx
          have e : (fun t : List Nat => D.inp (dN t)) = (fun ns : List Int => D.inp (dI ns)) ∘ fun (t : List Nat) => t.map fun (b : Nat) => (b : Int) := by
            funext t; show D.inp (dN t) = D.inp (dI _); rw [dN_dI]
          rw [e]; exact this
        · have := z1
          rw [List.length_map] at this
          omega
        · have := t1
          rw [List.length_map] at this
          omega
        · have := dw_back (r.mono st.s)
          rw [solve_due] at this
          exact this
end Pg
set_option Elab.async false
set_option linter.all false
set_option maxRecDepth 100000
set_option maxHeartbeats 4000000
namespace Pg
open PySem PyProof.Rows L2 Fw
theorem all_mk {P : Program} {w : World} {K : PySem.W.Frag} {h : Heap} {mg : Str → Option Value} {fa : Addr} (X : K.In h) (G : h.Ns mainGlobals mg) (hfa : mg "solve" = some (.ref fa))
    {f_greatest_divisor : Addr} {od_greatest_divisor an_greatest_divisor : Option Addr} {sl_greatest_divisor : Array (Option Value)} {oc_greatest_divisor kV_greatest_divisor dc_greatest_divisor pm_greatest_divisor cd_greatest_divisor ct_greatest_divisor : Value}
    (a_greatest_divisor : PySem.W.nsIn K mainGlobals "greatest_divisor" = some (some (.ref f_greatest_divisor))) (l_greatest_divisor : K.lookup f_greatest_divisor = some ⟨oc_greatest_divisor, od_greatest_divisor, .func (PySem.W.fnOf "greatest_divisor" "greatest_divisor" (defArgs s_greatest_divisor) (defBody s_greatest_divisor) (defScope s_greatest_divisor) .none kV_greatest_divisor dc_greatest_divisor pm_greatest_divisor an_greatest_divisor cd_greatest_divisor ct_greatest_divisor), sl_greatest_divisor⟩) (c_greatest_divisor : PySem.W.codeIn K cd_greatest_divisor "greatest_divisor" = true) (k_greatest_divisor : PySem.W.keepIn K (.ref f_greatest_divisor) = true)
    {f_write_whole : Addr} {od_write_whole an_write_whole : Option Addr} {sl_write_whole : Array (Option Value)} {oc_write_whole kV_write_whole dc_write_whole pm_write_whole cd_write_whole ct_write_whole : Value}
    (a_write_whole : PySem.W.nsIn K mainGlobals "write_whole" = some (some (.ref f_write_whole))) (l_write_whole : K.lookup f_write_whole = some ⟨oc_write_whole, od_write_whole, .func (PySem.W.fnOf "write_whole" "write_whole" (defArgs s_write_whole) (defBody s_write_whole) (defScope s_write_whole) .none kV_write_whole dc_write_whole pm_write_whole an_write_whole cd_write_whole ct_write_whole), sl_write_whole⟩) (c_write_whole : PySem.W.codeIn K cd_write_whole "write_whole" = true) (k_write_whole : PySem.W.keepIn K (.ref f_write_whole) = true)
    {f_write_fraction : Addr} {od_write_fraction an_write_fraction : Option Addr} {sl_write_fraction : Array (Option Value)} {oc_write_fraction kV_write_fraction dc_write_fraction pm_write_fraction cd_write_fraction ct_write_fraction : Value}
    (a_write_fraction : PySem.W.nsIn K mainGlobals "write_fraction" = some (some (.ref f_write_fraction))) (l_write_fraction : K.lookup f_write_fraction = some ⟨oc_write_fraction, od_write_fraction, .func (PySem.W.fnOf "write_fraction" "write_fraction" (defArgs s_write_fraction) (defBody s_write_fraction) (defScope s_write_fraction) .none kV_write_fraction dc_write_fraction pm_write_fraction an_write_fraction cd_write_fraction ct_write_fraction), sl_write_fraction⟩) (c_write_fraction : PySem.W.codeIn K cd_write_fraction "write_fraction" = true) (k_write_fraction : PySem.W.keepIn K (.ref f_write_fraction) = true)
    {f_write_term : Addr} {od_write_term an_write_term : Option Addr} {sl_write_term : Array (Option Value)} {oc_write_term kV_write_term dc_write_term pm_write_term cd_write_term ct_write_term : Value}
    (a_write_term : PySem.W.nsIn K mainGlobals "write_term" = some (some (.ref f_write_term))) (l_write_term : K.lookup f_write_term = some ⟨oc_write_term, od_write_term, .func (PySem.W.fnOf "write_term" "write_term" (defArgs s_write_term) (defBody s_write_term) (defScope s_write_term) .none kV_write_term dc_write_term pm_write_term an_write_term cd_write_term ct_write_term), sl_write_term⟩) (c_write_term : PySem.W.codeIn K cd_write_term "write_term" = true) (k_write_term : PySem.W.keepIn K (.ref f_write_term) = true)
    {f_write_polynomial : Addr} {od_write_polynomial an_write_polynomial : Option Addr} {sl_write_polynomial : Array (Option Value)} {oc_write_polynomial kV_write_polynomial dc_write_polynomial pm_write_polynomial cd_write_polynomial ct_write_polynomial : Value}
    (a_write_polynomial : PySem.W.nsIn K mainGlobals "write_polynomial" = some (some (.ref f_write_polynomial))) (l_write_polynomial : K.lookup f_write_polynomial = some ⟨oc_write_polynomial, od_write_polynomial, .func (PySem.W.fnOf "write_polynomial" "write_polynomial" (defArgs s_write_polynomial) (defBody s_write_polynomial) (defScope s_write_polynomial) .none kV_write_polynomial dc_write_polynomial pm_write_polynomial an_write_polynomial cd_write_polynomial ct_write_polynomial), sl_write_polynomial⟩) (c_write_polynomial : PySem.W.codeIn K cd_write_polynomial "write_polynomial" = true) (k_write_polynomial : PySem.W.keepIn K (.ref f_write_polynomial) = true)
    {f_lowest_term : Addr} {od_lowest_term an_lowest_term : Option Addr} {sl_lowest_term : Array (Option Value)} {oc_lowest_term kV_lowest_term dc_lowest_term pm_lowest_term cd_lowest_term ct_lowest_term : Value}
    (a_lowest_term : PySem.W.nsIn K mainGlobals "lowest_term" = some (some (.ref f_lowest_term))) (l_lowest_term : K.lookup f_lowest_term = some ⟨oc_lowest_term, od_lowest_term, .func (PySem.W.fnOf "lowest_term" "lowest_term" (defArgs s_lowest_term) (defBody s_lowest_term) (defScope s_lowest_term) .none kV_lowest_term dc_lowest_term pm_lowest_term an_lowest_term cd_lowest_term ct_lowest_term), sl_lowest_term⟩) (c_lowest_term : PySem.W.codeIn K cd_lowest_term "lowest_term" = true) (k_lowest_term : PySem.W.keepIn K (.ref f_lowest_term) = true)
    {f_read_whole : Addr} {od_read_whole an_read_whole : Option Addr} {sl_read_whole : Array (Option Value)} {oc_read_whole kV_read_whole dc_read_whole pm_read_whole cd_read_whole ct_read_whole : Value}
    (a_read_whole : PySem.W.nsIn K mainGlobals "read_whole" = some (some (.ref f_read_whole))) (l_read_whole : K.lookup f_read_whole = some ⟨oc_read_whole, od_read_whole, .func (PySem.W.fnOf "read_whole" "read_whole" (defArgs s_read_whole) (defBody s_read_whole) (defScope s_read_whole) .none kV_read_whole dc_read_whole pm_read_whole an_read_whole cd_read_whole ct_read_whole), sl_read_whole⟩) (c_read_whole : PySem.W.codeIn K cd_read_whole "read_whole" = true) (k_read_whole : PySem.W.keepIn K (.ref f_read_whole) = true)
    {f_read_fraction : Addr} {od_read_fraction an_read_fraction : Option Addr} {sl_read_fraction : Array (Option Value)} {oc_read_fraction kV_read_fraction dc_read_fraction pm_read_fraction cd_read_fraction ct_read_fraction : Value}
    (a_read_fraction : PySem.W.nsIn K mainGlobals "read_fraction" = some (some (.ref f_read_fraction))) (l_read_fraction : K.lookup f_read_fraction = some ⟨oc_read_fraction, od_read_fraction, .func (PySem.W.fnOf "read_fraction" "read_fraction" (defArgs s_read_fraction) (defBody s_read_fraction) (defScope s_read_fraction) .none kV_read_fraction dc_read_fraction pm_read_fraction an_read_fraction cd_read_fraction ct_read_fraction), sl_read_fraction⟩) (c_read_fraction : PySem.W.codeIn K cd_read_fraction "read_fraction" = true) (k_read_fraction : PySem.W.keepIn K (.ref f_read_fraction) = true)
    {f_read_power : Addr} {od_read_power an_read_power : Option Addr} {sl_read_power : Array (Option Value)} {oc_read_power kV_read_power dc_read_power pm_read_power cd_read_power ct_read_power : Value}
    (a_read_power : PySem.W.nsIn K mainGlobals "read_power" = some (some (.ref f_read_power))) (l_read_power : K.lookup f_read_power = some ⟨oc_read_power, od_read_power, .func (PySem.W.fnOf "read_power" "read_power" (defArgs s_read_power) (defBody s_read_power) (defScope s_read_power) .none kV_read_power dc_read_power pm_read_power an_read_power cd_read_power ct_read_power), sl_read_power⟩) (c_read_power : PySem.W.codeIn K cd_read_power "read_power" = true) (k_read_power : PySem.W.keepIn K (.ref f_read_power) = true)
    {f_read_term : Addr} {od_read_term an_read_term : Option Addr} {sl_read_term : Array (Option Value)} {oc_read_term kV_read_term dc_read_term pm_read_term cd_read_term ct_read_term : Value}
    (a_read_term : PySem.W.nsIn K mainGlobals "read_term" = some (some (.ref f_read_term))) (l_read_term : K.lookup f_read_term = some ⟨oc_read_term, od_read_term, .func (PySem.W.fnOf "read_term" "read_term" (defArgs s_read_term) (defBody s_read_term) (defScope s_read_term) .none kV_read_term dc_read_term pm_read_term an_read_term cd_read_term ct_read_term), sl_read_term⟩) (c_read_term : PySem.W.codeIn K cd_read_term "read_term" = true) (k_read_term : PySem.W.keepIn K (.ref f_read_term) = true)
    {f_powers_fall : Addr} {od_powers_fall an_powers_fall : Option Addr} {sl_powers_fall : Array (Option Value)} {oc_powers_fall kV_powers_fall dc_powers_fall pm_powers_fall cd_powers_fall ct_powers_fall : Value}
    (a_powers_fall : PySem.W.nsIn K mainGlobals "powers_fall" = some (some (.ref f_powers_fall))) (l_powers_fall : K.lookup f_powers_fall = some ⟨oc_powers_fall, od_powers_fall, .func (PySem.W.fnOf "powers_fall" "powers_fall" (defArgs s_powers_fall) (defBody s_powers_fall) (defScope s_powers_fall) .none kV_powers_fall dc_powers_fall pm_powers_fall an_powers_fall cd_powers_fall ct_powers_fall), sl_powers_fall⟩) (c_powers_fall : PySem.W.codeIn K cd_powers_fall "powers_fall" = true) (k_powers_fall : PySem.W.keepIn K (.ref f_powers_fall) = true)
    {f_split_at_signs : Addr} {od_split_at_signs an_split_at_signs : Option Addr} {sl_split_at_signs : Array (Option Value)} {oc_split_at_signs kV_split_at_signs dc_split_at_signs pm_split_at_signs cd_split_at_signs ct_split_at_signs : Value}
    (a_split_at_signs : PySem.W.nsIn K mainGlobals "split_at_signs" = some (some (.ref f_split_at_signs))) (l_split_at_signs : K.lookup f_split_at_signs = some ⟨oc_split_at_signs, od_split_at_signs, .func (PySem.W.fnOf "split_at_signs" "split_at_signs" (defArgs s_split_at_signs) (defBody s_split_at_signs) (defScope s_split_at_signs) .none kV_split_at_signs dc_split_at_signs pm_split_at_signs an_split_at_signs cd_split_at_signs ct_split_at_signs), sl_split_at_signs⟩) (c_split_at_signs : PySem.W.codeIn K cd_split_at_signs "split_at_signs" = true) (k_split_at_signs : PySem.W.keepIn K (.ref f_split_at_signs) = true)
    {f_read_polynomial : Addr} {od_read_polynomial an_read_polynomial : Option Addr} {sl_read_polynomial : Array (Option Value)} {oc_read_polynomial kV_read_polynomial dc_read_polynomial pm_read_polynomial cd_read_polynomial ct_read_polynomial : Value}
    (a_read_polynomial : PySem.W.nsIn K mainGlobals "read_polynomial" = some (some (.ref f_read_polynomial))) (l_read_polynomial : K.lookup f_read_polynomial = some ⟨oc_read_polynomial, od_read_polynomial, .func (PySem.W.fnOf "read_polynomial" "read_polynomial" (defArgs s_read_polynomial) (defBody s_read_polynomial) (defScope s_read_polynomial) .none kV_read_polynomial dc_read_polynomial pm_read_polynomial an_read_polynomial cd_read_polynomial ct_read_polynomial), sl_read_polynomial⟩) (c_read_polynomial : PySem.W.codeIn K cd_read_polynomial "read_polynomial" = true) (k_read_polynomial : PySem.W.keepIn K (.ref f_read_polynomial) = true)
    {f_trimmed : Addr} {od_trimmed an_trimmed : Option Addr} {sl_trimmed : Array (Option Value)} {oc_trimmed kV_trimmed dc_trimmed pm_trimmed cd_trimmed ct_trimmed : Value}
    (a_trimmed : PySem.W.nsIn K mainGlobals "trimmed" = some (some (.ref f_trimmed))) (l_trimmed : K.lookup f_trimmed = some ⟨oc_trimmed, od_trimmed, .func (PySem.W.fnOf "trimmed" "trimmed" (defArgs s_trimmed) (defBody s_trimmed) (defScope s_trimmed) .none kV_trimmed dc_trimmed pm_trimmed an_trimmed cd_trimmed ct_trimmed), sl_trimmed⟩) (c_trimmed : PySem.W.codeIn K cd_trimmed "trimmed" = true) (k_trimmed : PySem.W.keepIn K (.ref f_trimmed) = true)
    {f_number_at : Addr} {od_number_at an_number_at : Option Addr} {sl_number_at : Array (Option Value)} {oc_number_at kV_number_at dc_number_at pm_number_at cd_number_at ct_number_at : Value}
    (a_number_at : PySem.W.nsIn K mainGlobals "number_at" = some (some (.ref f_number_at))) (l_number_at : K.lookup f_number_at = some ⟨oc_number_at, od_number_at, .func (PySem.W.fnOf "number_at" "number_at" (defArgs s_number_at) (defBody s_number_at) (defScope s_number_at) .none kV_number_at dc_number_at pm_number_at an_number_at cd_number_at ct_number_at), sl_number_at⟩) (c_number_at : PySem.W.codeIn K cd_number_at "number_at" = true) (k_number_at : PySem.W.keepIn K (.ref f_number_at) = true)
    {f_plus : Addr} {od_plus an_plus : Option Addr} {sl_plus : Array (Option Value)} {oc_plus kV_plus dc_plus pm_plus cd_plus ct_plus : Value}
    (a_plus : PySem.W.nsIn K mainGlobals "plus" = some (some (.ref f_plus))) (l_plus : K.lookup f_plus = some ⟨oc_plus, od_plus, .func (PySem.W.fnOf "plus" "plus" (defArgs s_plus) (defBody s_plus) (defScope s_plus) .none kV_plus dc_plus pm_plus an_plus cd_plus ct_plus), sl_plus⟩) (c_plus : PySem.W.codeIn K cd_plus "plus" = true) (k_plus : PySem.W.keepIn K (.ref f_plus) = true)
    {f_slope : Addr} {od_slope an_slope : Option Addr} {sl_slope : Array (Option Value)} {oc_slope kV_slope dc_slope pm_slope cd_slope ct_slope : Value}
    (a_slope : PySem.W.nsIn K mainGlobals "slope" = some (some (.ref f_slope))) (l_slope : K.lookup f_slope = some ⟨oc_slope, od_slope, .func (PySem.W.fnOf "slope" "slope" (defArgs s_slope) (defBody s_slope) (defScope s_slope) .none kV_slope dc_slope pm_slope an_slope cd_slope ct_slope), sl_slope⟩) (c_slope : PySem.W.codeIn K cd_slope "slope" = true) (k_slope : PySem.W.keepIn K (.ref f_slope) = true)
    {f_times : Addr} {od_times an_times : Option Addr} {sl_times : Array (Option Value)} {oc_times kV_times dc_times pm_times cd_times ct_times : Value}
    (a_times : PySem.W.nsIn K mainGlobals "times" = some (some (.ref f_times))) (l_times : K.lookup f_times = some ⟨oc_times, od_times, .func (PySem.W.fnOf "times" "times" (defArgs s_times) (defBody s_times) (defScope s_times) .none kV_times dc_times pm_times an_times cd_times ct_times), sl_times⟩) (c_times : PySem.W.codeIn K cd_times "times" = true) (k_times : PySem.W.keepIn K (.ref f_times) = true)
    {f_stepped : Addr} {od_stepped an_stepped : Option Addr} {sl_stepped : Array (Option Value)} {oc_stepped kV_stepped dc_stepped pm_stepped cd_stepped ct_stepped : Value}
    (a_stepped : PySem.W.nsIn K mainGlobals "stepped" = some (some (.ref f_stepped))) (l_stepped : K.lookup f_stepped = some ⟨oc_stepped, od_stepped, .func (PySem.W.fnOf "stepped" "stepped" (defArgs s_stepped) (defBody s_stepped) (defScope s_stepped) .none kV_stepped dc_stepped pm_stepped an_stepped cd_stepped ct_stepped), sl_stepped⟩) (c_stepped : PySem.W.codeIn K cd_stepped "stepped" = true) (k_stepped : PySem.W.keepIn K (.ref f_stepped) = true)
    {f_left_side : Addr} {od_left_side an_left_side : Option Addr} {sl_left_side : Array (Option Value)} {oc_left_side kV_left_side dc_left_side pm_left_side cd_left_side ct_left_side : Value}
    (a_left_side : PySem.W.nsIn K mainGlobals "left_side" = some (some (.ref f_left_side))) (l_left_side : K.lookup f_left_side = some ⟨oc_left_side, od_left_side, .func (PySem.W.fnOf "left_side" "left_side" (defArgs s_left_side) (defBody s_left_side) (defScope s_left_side) .none kV_left_side dc_left_side pm_left_side an_left_side cd_left_side ct_left_side), sl_left_side⟩) (c_left_side : PySem.W.codeIn K cd_left_side "left_side" = true) (k_left_side : PySem.W.keepIn K (.ref f_left_side) = true)
    {f_terms_over : Addr} {od_terms_over an_terms_over : Option Addr} {sl_terms_over : Array (Option Value)} {oc_terms_over kV_terms_over dc_terms_over pm_terms_over cd_terms_over ct_terms_over : Value}
    (a_terms_over : PySem.W.nsIn K mainGlobals "terms_over" = some (some (.ref f_terms_over))) (l_terms_over : K.lookup f_terms_over = some ⟨oc_terms_over, od_terms_over, .func (PySem.W.fnOf "terms_over" "terms_over" (defArgs s_terms_over) (defBody s_terms_over) (defScope s_terms_over) .none kV_terms_over dc_terms_over pm_terms_over an_terms_over cd_terms_over ct_terms_over), sl_terms_over⟩) (c_terms_over : PySem.W.codeIn K cd_terms_over "terms_over" = true) (k_terms_over : PySem.W.keepIn K (.ref f_terms_over) = true)
    {f_least_multiple : Addr} {od_least_multiple an_least_multiple : Option Addr} {sl_least_multiple : Array (Option Value)} {oc_least_multiple kV_least_multiple dc_least_multiple pm_least_multiple cd_least_multiple ct_least_multiple : Value}
    (a_least_multiple : PySem.W.nsIn K mainGlobals "least_multiple" = some (some (.ref f_least_multiple))) (l_least_multiple : K.lookup f_least_multiple = some ⟨oc_least_multiple, od_least_multiple, .func (PySem.W.fnOf "least_multiple" "least_multiple" (defArgs s_least_multiple) (defBody s_least_multiple) (defScope s_least_multiple) .none kV_least_multiple dc_least_multiple pm_least_multiple an_least_multiple cd_least_multiple ct_least_multiple), sl_least_multiple⟩) (c_least_multiple : PySem.W.codeIn K cd_least_multiple "least_multiple" = true) (k_least_multiple : PySem.W.keepIn K (.ref f_least_multiple) = true)
    {f_whole_numbers : Addr} {od_whole_numbers an_whole_numbers : Option Addr} {sl_whole_numbers : Array (Option Value)} {oc_whole_numbers kV_whole_numbers dc_whole_numbers pm_whole_numbers cd_whole_numbers ct_whole_numbers : Value}
    (a_whole_numbers : PySem.W.nsIn K mainGlobals "whole_numbers" = some (some (.ref f_whole_numbers))) (l_whole_numbers : K.lookup f_whole_numbers = some ⟨oc_whole_numbers, od_whole_numbers, .func (PySem.W.fnOf "whole_numbers" "whole_numbers" (defArgs s_whole_numbers) (defBody s_whole_numbers) (defScope s_whole_numbers) .none kV_whole_numbers dc_whole_numbers pm_whole_numbers an_whole_numbers cd_whole_numbers ct_whole_numbers), sl_whole_numbers⟩) (c_whole_numbers : PySem.W.codeIn K cd_whole_numbers "whole_numbers" = true) (k_whole_numbers : PySem.W.keepIn K (.ref f_whole_numbers) = true)
    {f_common_bottom : Addr} {od_common_bottom an_common_bottom : Option Addr} {sl_common_bottom : Array (Option Value)} {oc_common_bottom kV_common_bottom dc_common_bottom pm_common_bottom cd_common_bottom ct_common_bottom : Value}
    (a_common_bottom : PySem.W.nsIn K mainGlobals "common_bottom" = some (some (.ref f_common_bottom))) (l_common_bottom : K.lookup f_common_bottom = some ⟨oc_common_bottom, od_common_bottom, .func (PySem.W.fnOf "common_bottom" "common_bottom" (defArgs s_common_bottom) (defBody s_common_bottom) (defScope s_common_bottom) .none kV_common_bottom dc_common_bottom pm_common_bottom an_common_bottom cd_common_bottom ct_common_bottom), sl_common_bottom⟩) (c_common_bottom : PySem.W.codeIn K cd_common_bottom "common_bottom" = true) (k_common_bottom : PySem.W.keepIn K (.ref f_common_bottom) = true)
    {f_too_big : Addr} {od_too_big an_too_big : Option Addr} {sl_too_big : Array (Option Value)} {oc_too_big kV_too_big dc_too_big pm_too_big cd_too_big ct_too_big : Value}
    (a_too_big : PySem.W.nsIn K mainGlobals "too_big" = some (some (.ref f_too_big))) (l_too_big : K.lookup f_too_big = some ⟨oc_too_big, od_too_big, .func (PySem.W.fnOf "too_big" "too_big" (defArgs s_too_big) (defBody s_too_big) (defScope s_too_big) .none kV_too_big dc_too_big pm_too_big an_too_big cd_too_big ct_too_big), sl_too_big⟩) (c_too_big : PySem.W.codeIn K cd_too_big "too_big" = true) (k_too_big : PySem.W.keepIn K (.ref f_too_big) = true)
    {f_texts_refusal : Addr} {od_texts_refusal an_texts_refusal : Option Addr} {sl_texts_refusal : Array (Option Value)} {oc_texts_refusal kV_texts_refusal dc_texts_refusal pm_texts_refusal cd_texts_refusal ct_texts_refusal : Value}
    (a_texts_refusal : PySem.W.nsIn K mainGlobals "texts_refusal" = some (some (.ref f_texts_refusal))) (l_texts_refusal : K.lookup f_texts_refusal = some ⟨oc_texts_refusal, od_texts_refusal, .func (PySem.W.fnOf "texts_refusal" "texts_refusal" (defArgs s_texts_refusal) (defBody s_texts_refusal) (defScope s_texts_refusal) .none kV_texts_refusal dc_texts_refusal pm_texts_refusal an_texts_refusal cd_texts_refusal ct_texts_refusal), sl_texts_refusal⟩) (c_texts_refusal : PySem.W.codeIn K cd_texts_refusal "texts_refusal" = true) (k_texts_refusal : PySem.W.keepIn K (.ref f_texts_refusal) = true)
    {f_told : Addr} {od_told an_told : Option Addr} {sl_told : Array (Option Value)} {oc_told kV_told dc_told pm_told cd_told ct_told : Value}
    (a_told : PySem.W.nsIn K mainGlobals "told" = some (some (.ref f_told))) (l_told : K.lookup f_told = some ⟨oc_told, od_told, .func (PySem.W.fnOf "told" "told" (defArgs s_told) (defBody s_told) (defScope s_told) .none kV_told dc_told pm_told an_told cd_told ct_told), sl_told⟩) (c_told : PySem.W.codeIn K cd_told "told" = true) (k_told : PySem.W.keepIn K (.ref f_told) = true)
    {f_value_at : Addr} {od_value_at an_value_at : Option Addr} {sl_value_at : Array (Option Value)} {oc_value_at kV_value_at dc_value_at pm_value_at cd_value_at ct_value_at : Value}
    (a_value_at : PySem.W.nsIn K mainGlobals "value_at" = some (some (.ref f_value_at))) (l_value_at : K.lookup f_value_at = some ⟨oc_value_at, od_value_at, .func (PySem.W.fnOf "value_at" "value_at" (defArgs s_value_at) (defBody s_value_at) (defScope s_value_at) .none kV_value_at dc_value_at pm_value_at an_value_at cd_value_at ct_value_at), sl_value_at⟩) (c_value_at : PySem.W.codeIn K cd_value_at "value_at" = true) (k_value_at : PySem.W.keepIn K (.ref f_value_at) = true)
    {f_sign_at : Addr} {od_sign_at an_sign_at : Option Addr} {sl_sign_at : Array (Option Value)} {oc_sign_at kV_sign_at dc_sign_at pm_sign_at cd_sign_at ct_sign_at : Value}
    (a_sign_at : PySem.W.nsIn K mainGlobals "sign_at" = some (some (.ref f_sign_at))) (l_sign_at : K.lookup f_sign_at = some ⟨oc_sign_at, od_sign_at, .func (PySem.W.fnOf "sign_at" "sign_at" (defArgs s_sign_at) (defBody s_sign_at) (defScope s_sign_at) .none kV_sign_at dc_sign_at pm_sign_at an_sign_at cd_sign_at ct_sign_at), sl_sign_at⟩) (c_sign_at : PySem.W.codeIn K cd_sign_at "sign_at" = true) (k_sign_at : PySem.W.keepIn K (.ref f_sign_at) = true)
    {f_difference : Addr} {od_difference an_difference : Option Addr} {sl_difference : Array (Option Value)} {oc_difference kV_difference dc_difference pm_difference cd_difference ct_difference : Value}
    (a_difference : PySem.W.nsIn K mainGlobals "difference" = some (some (.ref f_difference))) (l_difference : K.lookup f_difference = some ⟨oc_difference, od_difference, .func (PySem.W.fnOf "difference" "difference" (defArgs s_difference) (defBody s_difference) (defScope s_difference) .none kV_difference dc_difference pm_difference an_difference cd_difference ct_difference), sl_difference⟩) (c_difference : PySem.W.codeIn K cd_difference "difference" = true) (k_difference : PySem.W.keepIn K (.ref f_difference) = true)
    {f_first_change : Addr} {od_first_change an_first_change : Option Addr} {sl_first_change : Array (Option Value)} {oc_first_change kV_first_change dc_first_change pm_first_change cd_first_change ct_first_change : Value}
    (a_first_change : PySem.W.nsIn K mainGlobals "first_change" = some (some (.ref f_first_change))) (l_first_change : K.lookup f_first_change = some ⟨oc_first_change, od_first_change, .func (PySem.W.fnOf "first_change" "first_change" (defArgs s_first_change) (defBody s_first_change) (defScope s_first_change) .none kV_first_change dc_first_change pm_first_change an_first_change cd_first_change ct_first_change), sl_first_change⟩) (c_first_change : PySem.W.codeIn K cd_first_change "first_change" = true) (k_first_change : PySem.W.keepIn K (.ref f_first_change) = true)
    {f_sign_changes : Addr} {od_sign_changes an_sign_changes : Option Addr} {sl_sign_changes : Array (Option Value)} {oc_sign_changes kV_sign_changes dc_sign_changes pm_sign_changes cd_sign_changes ct_sign_changes : Value}
    (a_sign_changes : PySem.W.nsIn K mainGlobals "sign_changes" = some (some (.ref f_sign_changes))) (l_sign_changes : K.lookup f_sign_changes = some ⟨oc_sign_changes, od_sign_changes, .func (PySem.W.fnOf "sign_changes" "sign_changes" (defArgs s_sign_changes) (defBody s_sign_changes) (defScope s_sign_changes) .none kV_sign_changes dc_sign_changes pm_sign_changes an_sign_changes cd_sign_changes ct_sign_changes), sl_sign_changes⟩) (c_sign_changes : PySem.W.codeIn K cd_sign_changes "sign_changes" = true) (k_sign_changes : PySem.W.keepIn K (.ref f_sign_changes) = true)
    {f_greatest_whole_root : Addr} {od_greatest_whole_root an_greatest_whole_root : Option Addr} {sl_greatest_whole_root : Array (Option Value)} {oc_greatest_whole_root kV_greatest_whole_root dc_greatest_whole_root pm_greatest_whole_root cd_greatest_whole_root ct_greatest_whole_root : Value}
    (a_greatest_whole_root : PySem.W.nsIn K mainGlobals "greatest_whole_root" = some (some (.ref f_greatest_whole_root))) (l_greatest_whole_root : K.lookup f_greatest_whole_root = some ⟨oc_greatest_whole_root, od_greatest_whole_root, .func (PySem.W.fnOf "greatest_whole_root" "greatest_whole_root" (defArgs s_greatest_whole_root) (defBody s_greatest_whole_root) (defScope s_greatest_whole_root) .none kV_greatest_whole_root dc_greatest_whole_root pm_greatest_whole_root an_greatest_whole_root cd_greatest_whole_root ct_greatest_whole_root), sl_greatest_whole_root⟩) (c_greatest_whole_root : PySem.W.codeIn K cd_greatest_whole_root "greatest_whole_root" = true) (k_greatest_whole_root : PySem.W.keepIn K (.ref f_greatest_whole_root) = true)
    {f_falling_product : Addr} {od_falling_product an_falling_product : Option Addr} {sl_falling_product : Array (Option Value)} {oc_falling_product kV_falling_product dc_falling_product pm_falling_product cd_falling_product ct_falling_product : Value}
    (a_falling_product : PySem.W.nsIn K mainGlobals "falling_product" = some (some (.ref f_falling_product))) (l_falling_product : K.lookup f_falling_product = some ⟨oc_falling_product, od_falling_product, .func (PySem.W.fnOf "falling_product" "falling_product" (defArgs s_falling_product) (defBody s_falling_product) (defScope s_falling_product) .none kV_falling_product dc_falling_product pm_falling_product an_falling_product cd_falling_product ct_falling_product), sl_falling_product⟩) (c_falling_product : PySem.W.codeIn K cd_falling_product "falling_product" = true) (k_falling_product : PySem.W.keepIn K (.ref f_falling_product) = true)
    {f_by_differences : Addr} {od_by_differences an_by_differences : Option Addr} {sl_by_differences : Array (Option Value)} {oc_by_differences kV_by_differences dc_by_differences pm_by_differences cd_by_differences ct_by_differences : Value}
    (a_by_differences : PySem.W.nsIn K mainGlobals "by_differences" = some (some (.ref f_by_differences))) (l_by_differences : K.lookup f_by_differences = some ⟨oc_by_differences, od_by_differences, .func (PySem.W.fnOf "by_differences" "by_differences" (defArgs s_by_differences) (defBody s_by_differences) (defScope s_by_differences) .none kV_by_differences dc_by_differences pm_by_differences an_by_differences cd_by_differences ct_by_differences), sl_by_differences⟩) (c_by_differences : PySem.W.codeIn K cd_by_differences "by_differences" = true) (k_by_differences : PySem.W.keepIn K (.ref f_by_differences) = true)
    {f_leading : Addr} {od_leading an_leading : Option Addr} {sl_leading : Array (Option Value)} {oc_leading kV_leading dc_leading pm_leading cd_leading ct_leading : Value}
    (a_leading : PySem.W.nsIn K mainGlobals "leading" = some (some (.ref f_leading))) (l_leading : K.lookup f_leading = some ⟨oc_leading, od_leading, .func (PySem.W.fnOf "leading" "leading" (defArgs s_leading) (defBody s_leading) (defScope s_leading) .none kV_leading dc_leading pm_leading an_leading cd_leading ct_leading), sl_leading⟩) (c_leading : PySem.W.codeIn K cd_leading "leading" = true) (k_leading : PySem.W.keepIn K (.ref f_leading) = true)
    {f_how_high : Addr} {od_how_high an_how_high : Option Addr} {sl_how_high : Array (Option Value)} {oc_how_high kV_how_high dc_how_high pm_how_high cd_how_high ct_how_high : Value}
    (a_how_high : PySem.W.nsIn K mainGlobals "how_high" = some (some (.ref f_how_high))) (l_how_high : K.lookup f_how_high = some ⟨oc_how_high, od_how_high, .func (PySem.W.fnOf "how_high" "how_high" (defArgs s_how_high) (defBody s_how_high) (defScope s_how_high) .none kV_how_high dc_how_high pm_how_high an_how_high cd_how_high ct_how_high), sl_how_high⟩) (c_how_high : PySem.W.codeIn K cd_how_high "how_high" = true) (k_how_high : PySem.W.keepIn K (.ref f_how_high) = true)
    {f_all_zero : Addr} {od_all_zero an_all_zero : Option Addr} {sl_all_zero : Array (Option Value)} {oc_all_zero kV_all_zero dc_all_zero pm_all_zero cd_all_zero ct_all_zero : Value}
    (a_all_zero : PySem.W.nsIn K mainGlobals "all_zero" = some (some (.ref f_all_zero))) (l_all_zero : K.lookup f_all_zero = some ⟨oc_all_zero, od_all_zero, .func (PySem.W.fnOf "all_zero" "all_zero" (defArgs s_all_zero) (defBody s_all_zero) (defScope s_all_zero) .none kV_all_zero dc_all_zero pm_all_zero an_all_zero cd_all_zero ct_all_zero), sl_all_zero⟩) (c_all_zero : PySem.W.codeIn K cd_all_zero "all_zero" = true) (k_all_zero : PySem.W.keepIn K (.ref f_all_zero) = true)
    {f_row_at : Addr} {od_row_at an_row_at : Option Addr} {sl_row_at : Array (Option Value)} {oc_row_at kV_row_at dc_row_at pm_row_at cd_row_at ct_row_at : Value}
    (a_row_at : PySem.W.nsIn K mainGlobals "row_at" = some (some (.ref f_row_at))) (l_row_at : K.lookup f_row_at = some ⟨oc_row_at, od_row_at, .func (PySem.W.fnOf "row_at" "row_at" (defArgs s_row_at) (defBody s_row_at) (defScope s_row_at) .none kV_row_at dc_row_at pm_row_at an_row_at cd_row_at ct_row_at), sl_row_at⟩) (c_row_at : PySem.W.codeIn K cd_row_at "row_at" = true) (k_row_at : PySem.W.keepIn K (.ref f_row_at) = true)
    {f_find_pivot : Addr} {od_find_pivot an_find_pivot : Option Addr} {sl_find_pivot : Array (Option Value)} {oc_find_pivot kV_find_pivot dc_find_pivot pm_find_pivot cd_find_pivot ct_find_pivot : Value}
    (a_find_pivot : PySem.W.nsIn K mainGlobals "find_pivot" = some (some (.ref f_find_pivot))) (l_find_pivot : K.lookup f_find_pivot = some ⟨oc_find_pivot, od_find_pivot, .func (PySem.W.fnOf "find_pivot" "find_pivot" (defArgs s_find_pivot) (defBody s_find_pivot) (defScope s_find_pivot) .none kV_find_pivot dc_find_pivot pm_find_pivot an_find_pivot cd_find_pivot ct_find_pivot), sl_find_pivot⟩) (c_find_pivot : PySem.W.codeIn K cd_find_pivot "find_pivot" = true) (k_find_pivot : PySem.W.keepIn K (.ref f_find_pivot) = true)
    {f_exchanged : Addr} {od_exchanged an_exchanged : Option Addr} {sl_exchanged : Array (Option Value)} {oc_exchanged kV_exchanged dc_exchanged pm_exchanged cd_exchanged ct_exchanged : Value}
    (a_exchanged : PySem.W.nsIn K mainGlobals "exchanged" = some (some (.ref f_exchanged))) (l_exchanged : K.lookup f_exchanged = some ⟨oc_exchanged, od_exchanged, .func (PySem.W.fnOf "exchanged" "exchanged" (defArgs s_exchanged) (defBody s_exchanged) (defScope s_exchanged) .none kV_exchanged dc_exchanged pm_exchanged an_exchanged cd_exchanged ct_exchanged), sl_exchanged⟩) (c_exchanged : PySem.W.codeIn K cd_exchanged "exchanged" = true) (k_exchanged : PySem.W.keepIn K (.ref f_exchanged) = true)
    {f_special_solution : Addr} {od_special_solution an_special_solution : Option Addr} {sl_special_solution : Array (Option Value)} {oc_special_solution kV_special_solution dc_special_solution pm_special_solution cd_special_solution ct_special_solution : Value}
    (a_special_solution : PySem.W.nsIn K mainGlobals "special_solution" = some (some (.ref f_special_solution))) (l_special_solution : K.lookup f_special_solution = some ⟨oc_special_solution, od_special_solution, .func (PySem.W.fnOf "special_solution" "special_solution" (defArgs s_special_solution) (defBody s_special_solution) (defScope s_special_solution) .none kV_special_solution dc_special_solution pm_special_solution an_special_solution cd_special_solution ct_special_solution), sl_special_solution⟩) (c_special_solution : PySem.W.codeIn K cd_special_solution "special_solution" = true) (k_special_solution : PySem.W.keepIn K (.ref f_special_solution) = true)
    {f_free_solution : Addr} {od_free_solution an_free_solution : Option Addr} {sl_free_solution : Array (Option Value)} {oc_free_solution kV_free_solution dc_free_solution pm_free_solution cd_free_solution ct_free_solution : Value}
    (a_free_solution : PySem.W.nsIn K mainGlobals "free_solution" = some (some (.ref f_free_solution))) (l_free_solution : K.lookup f_free_solution = some ⟨oc_free_solution, od_free_solution, .func (PySem.W.fnOf "free_solution" "free_solution" (defArgs s_free_solution) (defBody s_free_solution) (defScope s_free_solution) .none kV_free_solution dc_free_solution pm_free_solution an_free_solution cd_free_solution ct_free_solution), sl_free_solution⟩) (c_free_solution : PySem.W.codeIn K cd_free_solution "free_solution" = true) (k_free_solution : PySem.W.keepIn K (.ref f_free_solution) = true)
    {f_cleared_row : Addr} {od_cleared_row an_cleared_row : Option Addr} {sl_cleared_row : Array (Option Value)} {oc_cleared_row kV_cleared_row dc_cleared_row pm_cleared_row cd_cleared_row ct_cleared_row : Value}
    (a_cleared_row : PySem.W.nsIn K mainGlobals "cleared_row" = some (some (.ref f_cleared_row))) (l_cleared_row : K.lookup f_cleared_row = some ⟨oc_cleared_row, od_cleared_row, .func (PySem.W.fnOf "cleared_row" "cleared_row" (defArgs s_cleared_row) (defBody s_cleared_row) (defScope s_cleared_row) .none kV_cleared_row dc_cleared_row pm_cleared_row an_cleared_row cd_cleared_row ct_cleared_row), sl_cleared_row⟩) (c_cleared_row : PySem.W.codeIn K cd_cleared_row "cleared_row" = true) (k_cleared_row : PySem.W.keepIn K (.ref f_cleared_row) = true)
    {f_cleared : Addr} {od_cleared an_cleared : Option Addr} {sl_cleared : Array (Option Value)} {oc_cleared kV_cleared dc_cleared pm_cleared cd_cleared ct_cleared : Value}
    (a_cleared : PySem.W.nsIn K mainGlobals "cleared" = some (some (.ref f_cleared))) (l_cleared : K.lookup f_cleared = some ⟨oc_cleared, od_cleared, .func (PySem.W.fnOf "cleared" "cleared" (defArgs s_cleared) (defBody s_cleared) (defScope s_cleared) .none kV_cleared dc_cleared pm_cleared an_cleared cd_cleared ct_cleared), sl_cleared⟩) (c_cleared : PySem.W.codeIn K cd_cleared "cleared" = true) (k_cleared : PySem.W.keepIn K (.ref f_cleared) = true)
    {f_counts_fit : Addr} {od_counts_fit an_counts_fit : Option Addr} {sl_counts_fit : Array (Option Value)} {oc_counts_fit kV_counts_fit dc_counts_fit pm_counts_fit cd_counts_fit ct_counts_fit : Value}
    (a_counts_fit : PySem.W.nsIn K mainGlobals "counts_fit" = some (some (.ref f_counts_fit))) (l_counts_fit : K.lookup f_counts_fit = some ⟨oc_counts_fit, od_counts_fit, .func (PySem.W.fnOf "counts_fit" "counts_fit" (defArgs s_counts_fit) (defBody s_counts_fit) (defScope s_counts_fit) .none kV_counts_fit dc_counts_fit pm_counts_fit an_counts_fit cd_counts_fit ct_counts_fit), sl_counts_fit⟩) (c_counts_fit : PySem.W.codeIn K cd_counts_fit "counts_fit" = true) (k_counts_fit : PySem.W.keepIn K (.ref f_counts_fit) = true)
    {f_whole_equations : Addr} {od_whole_equations an_whole_equations : Option Addr} {sl_whole_equations : Array (Option Value)} {oc_whole_equations kV_whole_equations dc_whole_equations pm_whole_equations cd_whole_equations ct_whole_equations : Value}
    (a_whole_equations : PySem.W.nsIn K mainGlobals "whole_equations" = some (some (.ref f_whole_equations))) (l_whole_equations : K.lookup f_whole_equations = some ⟨oc_whole_equations, od_whole_equations, .func (PySem.W.fnOf "whole_equations" "whole_equations" (defArgs s_whole_equations) (defBody s_whole_equations) (defScope s_whole_equations) .none kV_whole_equations dc_whole_equations pm_whole_equations an_whole_equations cd_whole_equations ct_whole_equations), sl_whole_equations⟩) (c_whole_equations : PySem.W.codeIn K cd_whole_equations "whole_equations" = true) (k_whole_equations : PySem.W.keepIn K (.ref f_whole_equations) = true)
    {f_equation_rows : Addr} {od_equation_rows an_equation_rows : Option Addr} {sl_equation_rows : Array (Option Value)} {oc_equation_rows kV_equation_rows dc_equation_rows pm_equation_rows cd_equation_rows ct_equation_rows : Value}
    (a_equation_rows : PySem.W.nsIn K mainGlobals "equation_rows" = some (some (.ref f_equation_rows))) (l_equation_rows : K.lookup f_equation_rows = some ⟨oc_equation_rows, od_equation_rows, .func (PySem.W.fnOf "equation_rows" "equation_rows" (defArgs s_equation_rows) (defBody s_equation_rows) (defScope s_equation_rows) .none kV_equation_rows dc_equation_rows pm_equation_rows an_equation_rows cd_equation_rows ct_equation_rows), sl_equation_rows⟩) (c_equation_rows : PySem.W.codeIn K cd_equation_rows "equation_rows" = true) (k_equation_rows : PySem.W.keepIn K (.ref f_equation_rows) = true)
    {f_all_solutions : Addr} {od_all_solutions an_all_solutions : Option Addr} {sl_all_solutions : Array (Option Value)} {oc_all_solutions kV_all_solutions dc_all_solutions pm_all_solutions cd_all_solutions ct_all_solutions : Value}
    (a_all_solutions : PySem.W.nsIn K mainGlobals "all_solutions" = some (some (.ref f_all_solutions))) (l_all_solutions : K.lookup f_all_solutions = some ⟨oc_all_solutions, od_all_solutions, .func (PySem.W.fnOf "all_solutions" "all_solutions" (defArgs s_all_solutions) (defBody s_all_solutions) (defScope s_all_solutions) .none kV_all_solutions dc_all_solutions pm_all_solutions an_all_solutions cd_all_solutions ct_all_solutions), sl_all_solutions⟩) (c_all_solutions : PySem.W.codeIn K cd_all_solutions "all_solutions" = true) (k_all_solutions : PySem.W.keepIn K (.ref f_all_solutions) = true)
    {f_solve : Addr} {od_solve an_solve : Option Addr} {sl_solve : Array (Option Value)} {oc_solve kV_solve dc_solve pm_solve cd_solve ct_solve : Value}
    (a_solve : PySem.W.nsIn K mainGlobals "solve" = some (some (.ref f_solve))) (l_solve : K.lookup f_solve = some ⟨oc_solve, od_solve, .func (PySem.W.fnOf "solve" "solve" (defArgs s_solve) (defBody s_solve) (defScope s_solve) .none kV_solve dc_solve pm_solve an_solve cd_solve ct_solve), sl_solve⟩) (c_solve : PySem.W.codeIn K cd_solve "solve" = true) (k_solve : PySem.W.keepIn K (.ref f_solve) = true)
    {t_DIGIT_ZERO : Tok} (v_DIGIT_ZERO : PySem.W.nsIn K mainGlobals "DIGIT_ZERO" = some (some (.int (48) t_DIGIT_ZERO)))
    {t_SLASH : Tok} (v_SLASH : PySem.W.nsIn K mainGlobals "SLASH" = some (some (.int (47) t_SLASH)))
    {t_STAR : Tok} (v_STAR : PySem.W.nsIn K mainGlobals "STAR" = some (some (.int (42) t_STAR)))
    {t_LETTER_X : Tok} (v_LETTER_X : PySem.W.nsIn K mainGlobals "LETTER_X" = some (some (.int (120) t_LETTER_X)))
    {t_CARET : Tok} (v_CARET : PySem.W.nsIn K mainGlobals "CARET" = some (some (.int (94) t_CARET)))
    {t_BLANK : Tok} (v_BLANK : PySem.W.nsIn K mainGlobals "BLANK" = some (some (.int (32) t_BLANK)))
    {t_MINUS : Tok} (v_MINUS : PySem.W.nsIn K mainGlobals "MINUS" = some (some (.int (45) t_MINUS)))
    {t_PLUS : Tok} (v_PLUS : PySem.W.nsIn K mainGlobals "PLUS" = some (some (.int (43) t_PLUS)))
    {t_DIGIT_NINE : Tok} (v_DIGIT_NINE : PySem.W.nsIn K mainGlobals "DIGIT_NINE" = some (some (.int (57) t_DIGIT_NINE)))
    {t_MOST_DEGREE : Tok} (v_MOST_DEGREE : PySem.W.nsIn K mainGlobals "MOST_DEGREE" = some (some (.int (4) t_MOST_DEGREE)))
    {t_MOST_NUMBER : Tok} (v_MOST_NUMBER : PySem.W.nsIn K mainGlobals "MOST_NUMBER" = some (some (.int (9999) t_MOST_NUMBER)))
    {t_NOT_SUCH_A_TEXT : Tok} (v_NOT_SUCH_A_TEXT : PySem.W.nsIn K mainGlobals "NOT_SUCH_A_TEXT" = some (some (.int (-1) t_NOT_SUCH_A_TEXT)))
    {t_TOO_BIG : Tok} (v_TOO_BIG : PySem.W.nsIn K mainGlobals "TOO_BIG" = some (some (.int (-2) t_TOO_BIG)))
    {t_MOST_PARTS : Tok} (v_MOST_PARTS : PySem.W.nsIn K mainGlobals "MOST_PARTS" = some (some (.int (4) t_MOST_PARTS)))
    {t_WRONG_COUNT : Tok} (v_WRONG_COUNT : PySem.W.nsIn K mainGlobals "WRONG_COUNT" = some (some (.int (-6) t_WRONG_COUNT)))
    {t_NO_LEFT_SIDE : Tok} (v_NO_LEFT_SIDE : PySem.W.nsIn K mainGlobals "NO_LEFT_SIDE" = some (some (.int (-3) t_NO_LEFT_SIDE)))
    {t_MOST_HEIGHT : Tok} (v_MOST_HEIGHT : PySem.W.nsIn K mainGlobals "MOST_HEIGHT" = some (some (.int (24) t_MOST_HEIGHT)))
    {t_NO_SOLUTION : Tok} (v_NO_SOLUTION : PySem.W.nsIn K mainGlobals "NO_SOLUTION" = some (some (.int (-5) t_NO_SOLUTION)))
    (z_len : PySem.W.nsIn K mainGlobals "len" = some none)
    (z_range : PySem.W.nsIn K mainGlobals "range" = some none)
    (z_max : PySem.W.nsIn K mainGlobals "max" = some none)
    (z_min : PySem.W.nsIn K mainGlobals "min" = some none)
    (z_abs : PySem.W.nsIn K mainGlobals "abs" = some none)
    (z_sum : PySem.W.nsIn K mainGlobals "sum" = some none)
    (z_any : PySem.W.nsIn K mainGlobals "any" = some none)
    (z_all : PySem.W.nsIn K mainGlobals "all" = some none)
    (z_enumerate : PySem.W.nsIn K mainGlobals "enumerate" = some none)
    (z_zip : PySem.W.nsIn K mainGlobals "zip" = some none)
    (z_reversed : PySem.W.nsIn K mainGlobals "reversed" = some none)
    (z_list : PySem.W.nsIn K mainGlobals "list" = some none)
    : ∃ fd : FuncData, (∀ (s : Shared) (us : List Value), us.length = (["kind", "sizes", "texts"] : List Str).length → BindsTo s fd ⟨us, []⟩ ((["kind", "sizes", "texts"] : List Str).zip us)) ∧ ∀ base : Heap, K.In base → base.Ns mainGlobals mg → FnOk P w K mg base CX0 13 fa fd ["kind", "sizes", "texts"] (SpR K R_solve) := by
  have e := hfa.symm.trans (PySem.W.mg_of X G a_solve)
  cases e
  have T : Txt mg := ⟨PySem.W.mg_none_of X G z_len, PySem.W.mg_none_of X G z_range, PySem.W.mg_none_of X G z_max, PySem.W.mg_none_of X G z_min, PySem.W.mg_none_of X G z_abs, PySem.W.mg_none_of X G z_sum, PySem.W.mg_none_of X G z_any, PySem.W.mg_none_of X G z_all, PySem.W.mg_none_of X G z_enumerate, PySem.W.mg_none_of X G z_zip, PySem.W.mg_none_of X G z_reversed, PySem.W.mg_none_of X G z_list⟩
  have n_DIGIT_ZERO : Num mg "DIGIT_ZERO" (48) := ⟨_, PySem.W.mg_of X G v_DIGIT_ZERO⟩
  have n_SLASH : Num mg "SLASH" (47) := ⟨_, PySem.W.mg_of X G v_SLASH⟩
  have n_STAR : Num mg "STAR" (42) := ⟨_, PySem.W.mg_of X G v_STAR⟩
  have n_LETTER_X : Num mg "LETTER_X" (120) := ⟨_, PySem.W.mg_of X G v_LETTER_X⟩
  have n_CARET : Num mg "CARET" (94) := ⟨_, PySem.W.mg_of X G v_CARET⟩
  have n_BLANK : Num mg "BLANK" (32) := ⟨_, PySem.W.mg_of X G v_BLANK⟩
  have n_MINUS : Num mg "MINUS" (45) := ⟨_, PySem.W.mg_of X G v_MINUS⟩
  have n_PLUS : Num mg "PLUS" (43) := ⟨_, PySem.W.mg_of X G v_PLUS⟩
  have n_DIGIT_NINE : Num mg "DIGIT_NINE" (57) := ⟨_, PySem.W.mg_of X G v_DIGIT_NINE⟩
  have n_MOST_DEGREE : Num mg "MOST_DEGREE" (4) := ⟨_, PySem.W.mg_of X G v_MOST_DEGREE⟩
  have n_MOST_NUMBER : Num mg "MOST_NUMBER" (9999) := ⟨_, PySem.W.mg_of X G v_MOST_NUMBER⟩
  have n_NOT_SUCH_A_TEXT : Num mg "NOT_SUCH_A_TEXT" (-1) := ⟨_, PySem.W.mg_of X G v_NOT_SUCH_A_TEXT⟩
  have n_TOO_BIG : Num mg "TOO_BIG" (-2) := ⟨_, PySem.W.mg_of X G v_TOO_BIG⟩
  have n_MOST_PARTS : Num mg "MOST_PARTS" (4) := ⟨_, PySem.W.mg_of X G v_MOST_PARTS⟩
  have n_WRONG_COUNT : Num mg "WRONG_COUNT" (-6) := ⟨_, PySem.W.mg_of X G v_WRONG_COUNT⟩
  have n_NO_LEFT_SIDE : Num mg "NO_LEFT_SIDE" (-3) := ⟨_, PySem.W.mg_of X G v_NO_LEFT_SIDE⟩
  have n_MOST_HEIGHT : Num mg "MOST_HEIGHT" (24) := ⟨_, PySem.W.mg_of X G v_MOST_HEIGHT⟩
  have n_NO_SOLUTION : Num mg "NO_SOLUTION" (-5) := ⟨_, PySem.W.mg_of X G v_NO_SOLUTION⟩
  have F_greatest_divisor := fun_mk (st := s_greatest_divisor) l_greatest_divisor c_greatest_divisor k_greatest_divisor
  have F_write_whole := fun_mk (st := s_write_whole) l_write_whole c_write_whole k_write_whole
  have F_write_fraction := fun_mk (st := s_write_fraction) l_write_fraction c_write_fraction k_write_fraction
  have F_write_term := fun_mk (st := s_write_term) l_write_term c_write_term k_write_term
  have F_write_polynomial := fun_mk (st := s_write_polynomial) l_write_polynomial c_write_polynomial k_write_polynomial
  have F_lowest_term := fun_mk (st := s_lowest_term) l_lowest_term c_lowest_term k_lowest_term
  have F_read_whole := fun_mk (st := s_read_whole) l_read_whole c_read_whole k_read_whole
  have F_read_fraction := fun_mk (st := s_read_fraction) l_read_fraction c_read_fraction k_read_fraction
  have F_read_power := fun_mk (st := s_read_power) l_read_power c_read_power k_read_power
  have F_read_term := fun_mk (st := s_read_term) l_read_term c_read_term k_read_term
  have F_powers_fall := fun_mk (st := s_powers_fall) l_powers_fall c_powers_fall k_powers_fall
  have F_split_at_signs := fun_mk (st := s_split_at_signs) l_split_at_signs c_split_at_signs k_split_at_signs
  have F_read_polynomial := fun_mk (st := s_read_polynomial) l_read_polynomial c_read_polynomial k_read_polynomial
  have F_trimmed := fun_mk (st := s_trimmed) l_trimmed c_trimmed k_trimmed
  have F_number_at := fun_mk (st := s_number_at) l_number_at c_number_at k_number_at
  have F_plus := fun_mk (st := s_plus) l_plus c_plus k_plus
  have F_slope := fun_mk (st := s_slope) l_slope c_slope k_slope
  have F_times := fun_mk (st := s_times) l_times c_times k_times
  have F_stepped := fun_mk (st := s_stepped) l_stepped c_stepped k_stepped
  have F_left_side := fun_mk (st := s_left_side) l_left_side c_left_side k_left_side
  have F_terms_over := fun_mk (st := s_terms_over) l_terms_over c_terms_over k_terms_over
  have F_least_multiple := fun_mk (st := s_least_multiple) l_least_multiple c_least_multiple k_least_multiple
  have F_whole_numbers := fun_mk (st := s_whole_numbers) l_whole_numbers c_whole_numbers k_whole_numbers
  have F_common_bottom := fun_mk (st := s_common_bottom) l_common_bottom c_common_bottom k_common_bottom
  have F_too_big := fun_mk (st := s_too_big) l_too_big c_too_big k_too_big
  have F_texts_refusal := fun_mk (st := s_texts_refusal) l_texts_refusal c_texts_refusal k_texts_refusal
  have F_told := fun_mk (st := s_told) l_told c_told k_told
  have F_value_at := fun_mk (st := s_value_at) l_value_at c_value_at k_value_at
  have F_sign_at := fun_mk (st := s_sign_at) l_sign_at c_sign_at k_sign_at
  have F_difference := fun_mk (st := s_difference) l_difference c_difference k_difference
  have F_first_change := fun_mk (st := s_first_change) l_first_change c_first_change k_first_change
  have F_sign_changes := fun_mk (st := s_sign_changes) l_sign_changes c_sign_changes k_sign_changes
  have F_greatest_whole_root := fun_mk (st := s_greatest_whole_root) l_greatest_whole_root c_greatest_whole_root k_greatest_whole_root
  have F_falling_product := fun_mk (st := s_falling_product) l_falling_product c_falling_product k_falling_product
  have F_by_differences := fun_mk (st := s_by_differences) l_by_differences c_by_differences k_by_differences
  have F_leading := fun_mk (st := s_leading) l_leading c_leading k_leading
  have F_how_high := fun_mk (st := s_how_high) l_how_high c_how_high k_how_high
  have F_all_zero := fun_mk (st := s_all_zero) l_all_zero c_all_zero k_all_zero
  have F_row_at := fun_mk (st := s_row_at) l_row_at c_row_at k_row_at
  have F_find_pivot := fun_mk (st := s_find_pivot) l_find_pivot c_find_pivot k_find_pivot
  have F_exchanged := fun_mk (st := s_exchanged) l_exchanged c_exchanged k_exchanged
  have F_special_solution := fun_mk (st := s_special_solution) l_special_solution c_special_solution k_special_solution
  have F_free_solution := fun_mk (st := s_free_solution) l_free_solution c_free_solution k_free_solution
  have F_cleared_row := fun_mk (st := s_cleared_row) l_cleared_row c_cleared_row k_cleared_row
  have F_cleared := fun_mk (st := s_cleared) l_cleared c_cleared k_cleared
  have F_counts_fit := fun_mk (st := s_counts_fit) l_counts_fit c_counts_fit k_counts_fit
  have F_whole_equations := fun_mk (st := s_whole_equations) l_whole_equations c_whole_equations k_whole_equations
  have F_equation_rows := fun_mk (st := s_equation_rows) l_equation_rows c_equation_rows k_equation_rows
  have F_all_solutions := fun_mk (st := s_all_solutions) l_all_solutions c_all_solutions k_all_solutions
  have F_solve := fun_mk (st := s_solve) l_solve c_solve k_solve
  refine ⟨PySem.W.fnOf "solve" "solve" (defArgs s_solve) (defBody s_solve) (defScope s_solve) .none kV_solve dc_solve pm_solve an_solve cd_solve ct_solve, fun s us hu => match us, hu with | [_, _, _], _ => .of_eq rfl, fun base _ _ => ?_⟩
  have C_greatest_divisor : Cal P w K mg base 1 "greatest_divisor" ["first", "second"] R_greatest_divisor := ⟨_, _, ok_greatest_divisor T F_greatest_divisor, PySem.W.mg_of X G a_greatest_divisor, F_greatest_divisor.kp, F_greatest_divisor.binds (ps := ["first", "second"]) fun _ _ _ _ _ _ us hl => match us, hl with | [_, _], _ => rfl⟩
  have C_write_whole : Cal P w K mg base 1 "write_whole" ["number"] R_write_whole := ⟨_, _, ok_write_whole T n_DIGIT_ZERO F_write_whole, PySem.W.mg_of X G a_write_whole, F_write_whole.kp, F_write_whole.binds (ps := ["number"]) fun _ _ _ _ _ _ us hl => match us, hl with | [_], _ => rfl⟩
  have C_write_fraction : Cal P w K mg base 2 "write_fraction" ["top", "bottom"] R_write_fraction := ⟨_, _, ok_write_fraction T C_write_whole n_SLASH F_write_fraction, PySem.W.mg_of X G a_write_fraction, F_write_fraction.kp, F_write_fraction.binds (ps := ["top", "bottom"]) fun _ _ _ _ _ _ us hl => match us, hl with | [_, _], _ => rfl⟩
  have C_write_term : Cal P w K mg base 3 "write_term" ["power", "top", "bottom"] R_write_term := ⟨_, _, ok_write_term T C_write_fraction C_write_whole n_STAR n_LETTER_X n_CARET F_write_term, PySem.W.mg_of X G a_write_term, F_write_term.kp, F_write_term.binds (ps := ["power", "top", "bottom"]) fun _ _ _ _ _ _ us hl => match us, hl with | [_, _, _], _ => rfl⟩
  have C_write_polynomial : Cal P w K mg base 4 "write_polynomial" ["terms"] R_write_polynomial := ⟨_, _, ok_write_polynomial T C_write_term n_DIGIT_ZERO n_BLANK n_MINUS n_PLUS F_write_polynomial, PySem.W.mg_of X G a_write_polynomial, F_write_polynomial.kp, F_write_polynomial.binds (ps := ["terms"]) fun _ _ _ _ _ _ us hl => match us, hl with | [_], _ => rfl⟩
  have C_lowest_term : Cal P w K mg base 2 "lowest_term" ["term"] R_lowest_term := ⟨_, _, ok_lowest_term T C_greatest_divisor F_lowest_term, PySem.W.mg_of X G a_lowest_term, F_lowest_term.kp, F_lowest_term.binds (ps := ["term"]) fun _ _ _ _ _ _ us hl => match us, hl with | [_], _ => rfl⟩
  have C_read_whole : Cal P w K mg base 1 "read_whole" ["piece"] R_read_whole := ⟨_, _, ok_read_whole T n_DIGIT_NINE n_DIGIT_ZERO F_read_whole, PySem.W.mg_of X G a_read_whole, F_read_whole.kp, F_read_whole.binds (ps := ["piece"]) fun _ _ _ _ _ _ us hl => match us, hl with | [_], _ => rfl⟩
  have C_read_fraction : Cal P w K mg base 2 "read_fraction" ["piece"] R_read_fraction := ⟨_, _, ok_read_fraction T C_read_whole n_SLASH F_read_fraction, PySem.W.mg_of X G a_read_fraction, F_read_fraction.kp, F_read_fraction.binds (ps := ["piece"]) fun _ _ _ _ _ _ us hl => match us, hl with | [_], _ => rfl⟩
  have C_read_power : Cal P w K mg base 2 "read_power" ["piece"] R_read_power := ⟨_, _, ok_read_power T C_read_whole n_LETTER_X n_CARET F_read_power, PySem.W.mg_of X G a_read_power, F_read_power.kp, F_read_power.binds (ps := ["piece"]) fun _ _ _ _ _ _ us hl => match us, hl with | [_], _ => rfl⟩
  have C_read_term : Cal P w K mg base 3 "read_term" ["sign", "piece"] R_read_term := ⟨_, _, ok_read_term T C_read_fraction C_read_power n_STAR n_LETTER_X F_read_term, PySem.W.mg_of X G a_read_term, F_read_term.kp, F_read_term.binds (ps := ["sign", "piece"]) fun _ _ _ _ _ _ us hl => match us, hl with | [_, _], _ => rfl⟩
  have C_powers_fall : Cal P w K mg base 1 "powers_fall" ["terms"] R_powers_fall := ⟨_, _, ok_powers_fall T F_powers_fall, PySem.W.mg_of X G a_powers_fall, F_powers_fall.kp, F_powers_fall.binds (ps := ["terms"]) fun _ _ _ _ _ _ us hl => match us, hl with | [_], _ => rfl⟩
  have C_split_at_signs : Cal P w K mg base 1 "split_at_signs" ["text"] R_split_at_signs := ⟨_, _, ok_split_at_signs T n_MINUS n_PLUS n_BLANK F_split_at_signs, PySem.W.mg_of X G a_split_at_signs, F_split_at_signs.kp, F_split_at_signs.binds (ps := ["text"]) fun _ _ _ _ _ _ us hl => match us, hl with | [_], _ => rfl⟩
  have C_read_polynomial : Cal P w K mg base 5 "read_polynomial" ["text"] R_read_polynomial := ⟨_, _, ok_read_polynomial T C_split_at_signs C_read_term C_powers_fall C_lowest_term C_write_polynomial F_read_polynomial, PySem.W.mg_of X G a_read_polynomial, F_read_polynomial.kp, F_read_polynomial.binds (ps := ["text"]) fun _ _ _ _ _ _ us hl => match us, hl with | [_], _ => rfl⟩
  have C_trimmed : Cal P w K mg base 1 "trimmed" ["numbers"] R_trimmed := ⟨_, _, ok_trimmed T F_trimmed, PySem.W.mg_of X G a_trimmed, F_trimmed.kp, F_trimmed.binds (ps := ["numbers"]) fun _ _ _ _ _ _ us hl => match us, hl with | [_], _ => rfl⟩
  have C_number_at : Cal P w K mg base 1 "number_at" ["polynomial", "power"] R_number_at := ⟨_, _, ok_number_at T F_number_at, PySem.W.mg_of X G a_number_at, F_number_at.kp, F_number_at.binds (ps := ["polynomial", "power"]) fun _ _ _ _ _ _ us hl => match us, hl with | [_, _], _ => rfl⟩
  have C_plus : Cal P w K mg base 2 "plus" ["first", "second"] R_plus := ⟨_, _, ok_plus T C_trimmed C_number_at F_plus, PySem.W.mg_of X G a_plus, F_plus.kp, F_plus.binds (ps := ["first", "second"]) fun _ _ _ _ _ _ us hl => match us, hl with | [_, _], _ => rfl⟩
  have C_slope : Cal P w K mg base 1 "slope" ["polynomial"] R_slope := ⟨_, _, ok_slope T F_slope, PySem.W.mg_of X G a_slope, F_slope.kp, F_slope.binds (ps := ["polynomial"]) fun _ _ _ _ _ _ us hl => match us, hl with | [_], _ => rfl⟩
  have C_times : Cal P w K mg base 1 "times" ["first", "second"] R_times := ⟨_, _, ok_times T F_times, PySem.W.mg_of X G a_times, F_times.kp, F_times.binds (ps := ["first", "second"]) fun _ _ _ _ _ _ us hl => match us, hl with | [_, _], _ => rfl⟩
  have C_stepped : Cal P w K mg base 3 "stepped" ["polynomial"] R_stepped := ⟨_, _, ok_stepped T C_plus C_times F_stepped, PySem.W.mg_of X G a_stepped, F_stepped.kp, F_stepped.binds (ps := ["polynomial"]) fun _ _ _ _ _ _ us hl => match us, hl with | [_], _ => rfl⟩
  have C_left_side : Cal P w K mg base 4 "left_side" ["kind", "parts", "y"] R_left_side := ⟨_, _, ok_left_side T C_plus C_times C_slope C_stepped F_left_side, PySem.W.mg_of X G a_left_side, F_left_side.kp, F_left_side.binds (ps := ["kind", "parts", "y"]) fun _ _ _ _ _ _ us hl => match us, hl with | [_, _, _], _ => rfl⟩
  have C_terms_over : Cal P w K mg base 3 "terms_over" ["numbers", "bottom"] R_terms_over := ⟨_, _, ok_terms_over T C_lowest_term F_terms_over, PySem.W.mg_of X G a_terms_over, F_terms_over.kp, F_terms_over.binds (ps := ["numbers", "bottom"]) fun _ _ _ _ _ _ us hl => match us, hl with | [_, _], _ => rfl⟩
  have C_least_multiple : Cal P w K mg base 2 "least_multiple" ["first", "second"] R_least_multiple := ⟨_, _, ok_least_multiple T C_greatest_divisor F_least_multiple, PySem.W.mg_of X G a_least_multiple, F_least_multiple.kp, F_least_multiple.binds (ps := ["first", "second"]) fun _ _ _ _ _ _ us hl => match us, hl with | [_, _], _ => rfl⟩
  have C_whole_numbers : Cal P w K mg base 2 "whole_numbers" ["terms", "common"] R_whole_numbers := ⟨_, _, ok_whole_numbers T C_trimmed n_MOST_DEGREE F_whole_numbers, PySem.W.mg_of X G a_whole_numbers, F_whole_numbers.kp, F_whole_numbers.binds (ps := ["terms", "common"]) fun _ _ _ _ _ _ us hl => match us, hl with | [_, _], _ => rfl⟩
  have C_common_bottom : Cal P w K mg base 3 "common_bottom" ["polynomials"] R_common_bottom := ⟨_, _, ok_common_bottom T C_least_multiple F_common_bottom, PySem.W.mg_of X G a_common_bottom, F_common_bottom.kp, F_common_bottom.binds (ps := ["polynomials"]) fun _ _ _ _ _ _ us hl => match us, hl with | [_], _ => rfl⟩
  have C_too_big : Cal P w K mg base 1 "too_big" ["terms"] R_too_big := ⟨_, _, ok_too_big T n_MOST_NUMBER n_MOST_DEGREE F_too_big, PySem.W.mg_of X G a_too_big, F_too_big.kp, F_too_big.binds (ps := ["terms"]) fun _ _ _ _ _ _ us hl => match us, hl with | [_], _ => rfl⟩
  have C_texts_refusal : Cal P w K mg base 2 "texts_refusal" ["polynomials"] R_texts_refusal := ⟨_, _, ok_texts_refusal T C_too_big n_NOT_SUCH_A_TEXT n_TOO_BIG F_texts_refusal, PySem.W.mg_of X G a_texts_refusal, F_texts_refusal.kp, F_texts_refusal.binds (ps := ["polynomials"]) fun _ _ _ _ _ _ us hl => match us, hl with | [_], _ => rfl⟩
  have C_told : Cal P w K mg base 5 "told" ["number", "polynomials", "bottom"] R_told := ⟨_, _, ok_told T C_write_polynomial C_terms_over F_told, PySem.W.mg_of X G a_told, F_told.kp, F_told.binds (ps := ["number", "polynomials", "bottom"]) fun _ _ _ _ _ _ us hl => match us, hl with | [_, _, _], _ => rfl⟩
  have C_value_at : Cal P w K mg base 1 "value_at" ["polynomial", "place"] R_value_at := ⟨_, _, ok_value_at T F_value_at, PySem.W.mg_of X G a_value_at, F_value_at.kp, F_value_at.binds (ps := ["polynomial", "place"]) fun _ _ _ _ _ _ us hl => match us, hl with | [_, _], _ => rfl⟩
  have C_sign_at : Cal P w K mg base 2 "sign_at" ["polynomial", "place"] R_sign_at := ⟨_, _, ok_sign_at T C_value_at F_sign_at, PySem.W.mg_of X G a_sign_at, F_sign_at.kp, F_sign_at.binds (ps := ["polynomial", "place"]) fun _ _ _ _ _ _ us hl => match us, hl with | [_, _], _ => rfl⟩
  have C_difference : Cal P w K mg base 4 "difference" ["polynomial"] R_difference := ⟨_, _, ok_difference T C_plus C_stepped C_times F_difference, PySem.W.mg_of X G a_difference, F_difference.kp, F_difference.binds (ps := ["polynomial"]) fun _ _ _ _ _ _ us hl => match us, hl with | [_], _ => rfl⟩
  have C_first_change : Cal P w K mg base 3 "first_change" ["polynomial", "start", "end"] R_first_change := ⟨_, _, ok_first_change T C_sign_at F_first_change, PySem.W.mg_of X G a_first_change, F_first_change.kp, F_first_change.binds (ps := ["polynomial", "start", "end"]) fun _ _ _ _ _ _ us hl => match us, hl with | [_, _, _], _ => rfl⟩
  have Z_sign_changes : ∀ n, Cal P w K mg base (5 + n) "sign_changes" ["polynomial", "top"] (R_sc n) := by
    intro n; induction n with
    | zero => exact ⟨_, _, ⟨fun vs H Q E h => by (obtain ⟨_, _, _, _, _, z, _⟩ := h; exact z.elim), fun A outer s H args us vs Q E _ _ _ _ h => by (obtain ⟨_, _, _, _, _, z, _⟩ := h; exact z.elim)⟩, PySem.W.mg_of X G a_sign_changes, F_sign_changes.kp, F_sign_changes.binds (ps := ["polynomial", "top"]) fun _ _ _ _ _ _ us hl => match us, hl with | [_, _], _ => rfl⟩
    | succ n ih => exact ⟨_, _, ok_sign_changes n T ih C_difference C_sign_at C_first_change F_sign_changes, PySem.W.mg_of X G a_sign_changes, F_sign_changes.kp, F_sign_changes.binds (ps := ["polynomial", "top"]) fun _ _ _ _ _ _ us hl => match us, hl with | [_, _], _ => rfl⟩
  have C_sign_changes : Cal P w K mg base 10 "sign_changes" ["polynomial", "top"] R_sign_changes := Z_sign_changes 5
  have C_greatest_whole_root : Cal P w K mg base 11 "greatest_whole_root" ["polynomial"] R_greatest_whole_root := ⟨_, _, ok_greatest_whole_root T C_sign_changes C_value_at F_greatest_whole_root, PySem.W.mg_of X G a_greatest_whole_root, F_greatest_whole_root.kp, F_greatest_whole_root.binds (ps := ["polynomial"]) fun _ _ _ _ _ _ us hl => match us, hl with | [_], _ => rfl⟩
  have C_falling_product : Cal P w K mg base 2 "falling_product" ["order"] R_falling_product := ⟨_, _, ok_falling_product T C_times F_falling_product, PySem.W.mg_of X G a_falling_product, F_falling_product.kp, F_falling_product.binds (ps := ["order"]) fun _ _ _ _ _ _ us hl => match us, hl with | [_], _ => rfl⟩
  have C_by_differences : Cal P w K mg base 3 "by_differences" ["parts"] R_by_differences := ⟨_, _, ok_by_differences T C_plus F_by_differences, PySem.W.mg_of X G a_by_differences, F_by_differences.kp, F_by_differences.binds (ps := ["parts"]) fun _ _ _ _ _ _ us hl => match us, hl with | [_], _ => rfl⟩
  have C_leading : Cal P w K mg base 3 "leading" ["shares", "rise"] R_leading := ⟨_, _, ok_leading T C_plus C_times C_falling_product F_leading, PySem.W.mg_of X G a_leading, F_leading.kp, F_leading.binds (ps := ["shares", "rise"]) fun _ _ _ _ _ _ us hl => match us, hl with | [_, _], _ => rfl⟩
  have C_how_high : Cal P w K mg base 12 "how_high" ["kind", "parts", "right"] R_how_high := ⟨_, _, ok_how_high T C_by_differences C_greatest_whole_root C_leading F_how_high, PySem.W.mg_of X G a_how_high, F_how_high.kp, F_how_high.binds (ps := ["kind", "parts", "right"]) fun _ _ _ _ _ _ us hl => match us, hl with | [_, _, _], _ => rfl⟩
  have C_all_zero : Cal P w K mg base 1 "all_zero" ["parts"] R_all_zero := ⟨_, _, ok_all_zero T F_all_zero, PySem.W.mg_of X G a_all_zero, F_all_zero.kp, F_all_zero.binds (ps := ["parts"]) fun _ _ _ _ _ _ us hl => match us, hl with | [_], _ => rfl⟩
  have C_row_at : Cal P w K mg base 2 "row_at" ["columns", "power"] R_row_at := ⟨_, _, ok_row_at T C_number_at F_row_at, PySem.W.mg_of X G a_row_at, F_row_at.kp, F_row_at.binds (ps := ["columns", "power"]) fun _ _ _ _ _ _ us hl => match us, hl with | [_, _], _ => rfl⟩
  have C_find_pivot : Cal P w K mg base 1 "find_pivot" ["rows", "rank", "column"] R_find_pivot := ⟨_, _, ok_find_pivot T F_find_pivot, PySem.W.mg_of X G a_find_pivot, F_find_pivot.kp, F_find_pivot.binds (ps := ["rows", "rank", "column"]) fun _ _ _ _ _ _ us hl => match us, hl with | [_, _, _], _ => rfl⟩
  have C_exchanged : Cal P w K mg base 1 "exchanged" ["rows", "first", "second"] R_exchanged := ⟨_, _, ok_exchanged T F_exchanged, PySem.W.mg_of X G a_exchanged, F_exchanged.kp, F_exchanged.binds (ps := ["rows", "first", "second"]) fun _ _ _ _ _ _ us hl => match us, hl with | [_, _, _], _ => rfl⟩
  have C_special_solution : Cal P w K mg base 1 "special_solution" ["rows", "pivots", "count"] R_special_solution := ⟨_, _, ok_special_solution T F_special_solution, PySem.W.mg_of X G a_special_solution, F_special_solution.kp, F_special_solution.binds (ps := ["rows", "pivots", "count"]) fun _ _ _ _ _ _ us hl => match us, hl with | [_, _, _], _ => rfl⟩
  have C_free_solution : Cal P w K mg base 1 "free_solution" ["rows", "pivots", "count", "free", "bottom"] R_free_solution := ⟨_, _, ok_free_solution T F_free_solution, PySem.W.mg_of X G a_free_solution, F_free_solution.kp, F_free_solution.binds (ps := ["rows", "pivots", "count", "free", "bottom"]) fun _ _ _ _ _ _ us hl => match us, hl with | [_, _, _, _, _], _ => rfl⟩
  have C_cleared_row : Cal P w K mg base 1 "cleared_row" ["row", "head", "column", "former"] R_cleared_row := ⟨_, _, ok_cleared_row T F_cleared_row, PySem.W.mg_of X G a_cleared_row, F_cleared_row.kp, F_cleared_row.binds (ps := ["row", "head", "column", "former"]) fun _ _ _ _ _ _ us hl => match us, hl with | [_, _, _, _], _ => rfl⟩
  have C_cleared : Cal P w K mg base 2 "cleared" ["rows", "rank", "column", "former"] R_cleared := ⟨_, _, ok_cleared T C_cleared_row F_cleared, PySem.W.mg_of X G a_cleared, F_cleared.kp, F_cleared.binds (ps := ["rows", "rank", "column", "former"]) fun _ _ _ _ _ _ us hl => match us, hl with | [_, _, _, _], _ => rfl⟩
  have C_counts_fit : Cal P w K mg base 1 "counts_fit" ["kind", "sizes", "count"] R_counts_fit := ⟨_, _, ok_counts_fit T n_MOST_PARTS F_counts_fit, PySem.W.mg_of X G a_counts_fit, F_counts_fit.kp, F_counts_fit.binds (ps := ["kind", "sizes", "count"]) fun _ _ _ _ _ _ us hl => match us, hl with | [_, _, _], _ => rfl⟩
  have C_whole_equations : Cal P w K mg base 4 "whole_equations" ["sizes", "polynomials"] R_whole_equations := ⟨_, _, ok_whole_equations T C_common_bottom C_whole_numbers F_whole_equations, PySem.W.mg_of X G a_whole_equations, F_whole_equations.kp, F_whole_equations.binds (ps := ["sizes", "polynomials"]) fun _ _ _ _ _ _ us hl => match us, hl with | [_, _], _ => rfl⟩
  have C_equation_rows : Cal P w K mg base 5 "equation_rows" ["kind", "equations", "count"] R_equation_rows := ⟨_, _, ok_equation_rows T C_left_side C_row_at F_equation_rows, PySem.W.mg_of X G a_equation_rows, F_equation_rows.kp, F_equation_rows.binds (ps := ["kind", "equations", "count"]) fun _ _ _ _ _ _ us hl => match us, hl with | [_, _, _], _ => rfl⟩
  have C_all_solutions : Cal P w K mg base 3 "all_solutions" ["rows", "count"] R_all_solutions := ⟨_, _, ok_all_solutions T C_find_pivot C_cleared C_exchanged C_special_solution C_free_solution F_all_solutions, PySem.W.mg_of X G a_all_solutions, F_all_solutions.kp, F_all_solutions.binds (ps := ["rows", "count"]) fun _ _ _ _ _ _ us hl => match us, hl with | [_, _], _ => rfl⟩
  exact ok_solve T C_counts_fit C_read_polynomial C_texts_refusal C_whole_equations C_all_zero C_how_high C_all_solutions C_equation_rows C_told n_WRONG_COUNT n_NO_LEFT_SIDE n_MOST_HEIGHT n_TOO_BIG n_NO_SOLUTION F_solve
end Pg
open PySem PySem.W PyProof.Rows
set_option maxRecDepth 100000 in
set_option maxHeartbeats 8000000 in
theorem PySem.Challenge.cw_slopesteps_s01_solve_holds : PySem.Challenge.rw_slopesteps_s01_solve.Holds := by
  w_on; k_headS; (case hw => exact ⟨[.int 0, .list [], .list []], by decide +kernel, by decide +kernel⟩)
  k_fillS
  refine L2.walk_specK (r := PySem.Challenge.rw_slopesteps_s01_solve) (k := 13) (CX := L2.CX0) (ps := ["kind", "sizes", "texts"]) (sp := fun K => Fw.SpR K Pg.R_solve) (by decide +kernel) rfl rfl ⟨rfl, by decide, by decide⟩ (fun w h Y => PySem.W.kIn_of Y) ?F ?S (fun _ _ _ _ z => z)
  case F =>
    intro w mg fa h Y KX G hmg
    refine' Pg.all_mk KX G hmg ?a_greatest_divisor ?l_greatest_divisor ?c_greatest_divisor ?k_greatest_divisor ?a_write_whole ?l_write_whole ?c_write_whole ?k_write_whole ?a_write_fraction ?l_write_fraction ?c_write_fraction ?k_write_fraction ?a_write_term ?l_write_term ?c_write_term ?k_write_term ?a_write_polynomial ?l_write_polynomial ?c_write_polynomial ?k_write_polynomial ?a_lowest_term ?l_lowest_term ?c_lowest_term ?k_lowest_term ?a_read_whole ?l_read_whole ?c_read_whole ?k_read_whole ?a_read_fraction ?l_read_fraction ?c_read_fraction ?k_read_fraction ?a_read_power ?l_read_power ?c_read_power ?k_read_power ?a_read_term ?l_read_term ?c_read_term ?k_read_term ?a_powers_fall ?l_powers_fall ?c_powers_fall ?k_powers_fall ?a_split_at_signs ?l_split_at_signs ?c_split_at_signs ?k_split_at_signs ?a_read_polynomial ?l_read_polynomial ?c_read_polynomial ?k_read_polynomial ?a_trimmed ?l_trimmed ?c_trimmed ?k_trimmed ?a_number_at ?l_number_at ?c_number_at ?k_number_at ?a_plus ?l_plus ?c_plus ?k_plus ?a_slope ?l_slope ?c_slope ?k_slope ?a_times ?l_times ?c_times ?k_times ?a_stepped ?l_stepped ?c_stepped ?k_stepped ?a_left_side ?l_left_side ?c_left_side ?k_left_side ?a_terms_over ?l_terms_over ?c_terms_over ?k_terms_over ?a_least_multiple ?l_least_multiple ?c_least_multiple ?k_least_multiple ?a_whole_numbers ?l_whole_numbers ?c_whole_numbers ?k_whole_numbers ?a_common_bottom ?l_common_bottom ?c_common_bottom ?k_common_bottom ?a_too_big ?l_too_big ?c_too_big ?k_too_big ?a_texts_refusal ?l_texts_refusal ?c_texts_refusal ?k_texts_refusal ?a_told ?l_told ?c_told ?k_told ?a_value_at ?l_value_at ?c_value_at ?k_value_at ?a_sign_at ?l_sign_at ?c_sign_at ?k_sign_at ?a_difference ?l_difference ?c_difference ?k_difference ?a_first_change ?l_first_change ?c_first_change ?k_first_change ?a_sign_changes ?l_sign_changes ?c_sign_changes ?k_sign_changes ?a_greatest_whole_root ?l_greatest_whole_root ?c_greatest_whole_root ?k_greatest_whole_root ?a_falling_product ?l_falling_product ?c_falling_product ?k_falling_product ?a_by_differences ?l_by_differences ?c_by_differences ?k_by_differences ?a_leading ?l_leading ?c_leading ?k_leading ?a_how_high ?l_how_high ?c_how_high ?k_how_high ?a_all_zero ?l_all_zero ?c_all_zero ?k_all_zero ?a_row_at ?l_row_at ?c_row_at ?k_row_at ?a_find_pivot ?l_find_pivot ?c_find_pivot ?k_find_pivot ?a_exchanged ?l_exchanged ?c_exchanged ?k_exchanged ?a_special_solution ?l_special_solution ?c_special_solution ?k_special_solution ?a_free_solution ?l_free_solution ?c_free_solution ?k_free_solution ?a_cleared_row ?l_cleared_row ?c_cleared_row ?k_cleared_row ?a_cleared ?l_cleared ?c_cleared ?k_cleared ?a_counts_fit ?l_counts_fit ?c_counts_fit ?k_counts_fit ?a_whole_equations ?l_whole_equations ?c_whole_equations ?k_whole_equations ?a_equation_rows ?l_equation_rows ?c_equation_rows ?k_equation_rows ?a_all_solutions ?l_all_solutions ?c_all_solutions ?k_all_solutions ?a_solve ?l_solve ?c_solve ?k_solve ?v_DIGIT_ZERO ?v_SLASH ?v_STAR ?v_LETTER_X ?v_CARET ?v_BLANK ?v_MINUS ?v_PLUS ?v_DIGIT_NINE ?v_MOST_DEGREE ?v_MOST_NUMBER ?v_NOT_SUCH_A_TEXT ?v_TOO_BIG ?v_MOST_PARTS ?v_WRONG_COUNT ?v_NO_LEFT_SIDE ?v_MOST_HEIGHT ?v_NO_SOLUTION ?z_len ?z_range ?z_max ?z_min ?z_abs ?z_sum ?z_any ?z_all ?z_enumerate ?z_zip ?z_reversed ?z_list
    (case a_greatest_divisor => k_is)
    (case l_greatest_divisor => k_is)
    (case c_greatest_divisor => k_is)
    (case k_greatest_divisor => k_is)
    (case a_write_whole => k_is)
    (case l_write_whole => k_is)
    (case c_write_whole => k_is)
    (case k_write_whole => k_is)
    (case a_write_fraction => k_is)
    (case l_write_fraction => k_is)
    (case c_write_fraction => k_is)
    (case k_write_fraction => k_is)
    (case a_write_term => k_is)
    (case l_write_term => k_is)
    (case c_write_term => k_is)
    (case k_write_term => k_is)
    (case a_write_polynomial => k_is)
    (case l_write_polynomial => k_is)
    (case c_write_polynomial => k_is)
    (case k_write_polynomial => k_is)
    (case a_lowest_term => k_is)
    (case l_lowest_term => k_is)
    (case c_lowest_term => k_is)
    (case k_lowest_term => k_is)
    (case a_read_whole => k_is)
    (case l_read_whole => k_is)
    (case c_read_whole => k_is)
    (case k_read_whole => k_is)
    (case a_read_fraction => k_is)
    (case l_read_fraction => k_is)
    (case c_read_fraction => k_is)
    (case k_read_fraction => k_is)
    (case a_read_power => k_is)
    (case l_read_power => k_is)
    (case c_read_power => k_is)
    (case k_read_power => k_is)
    (case a_read_term => k_is)
    (case l_read_term => k_is)
    (case c_read_term => k_is)
    (case k_read_term => k_is)
    (case a_powers_fall => k_is)
    (case l_powers_fall => k_is)
    (case c_powers_fall => k_is)
    (case k_powers_fall => k_is)
    (case a_split_at_signs => k_is)
    (case l_split_at_signs => k_is)
    (case c_split_at_signs => k_is)
    (case k_split_at_signs => k_is)
    (case a_read_polynomial => k_is)
    (case l_read_polynomial => k_is)
    (case c_read_polynomial => k_is)
    (case k_read_polynomial => k_is)
    (case a_trimmed => k_is)
    (case l_trimmed => k_is)
    (case c_trimmed => k_is)
    (case k_trimmed => k_is)
    (case a_number_at => k_is)
    (case l_number_at => k_is)
    (case c_number_at => k_is)
    (case k_number_at => k_is)
    (case a_plus => k_is)
    (case l_plus => k_is)
    (case c_plus => k_is)
    (case k_plus => k_is)
    (case a_slope => k_is)
    (case l_slope => k_is)
    (case c_slope => k_is)
    (case k_slope => k_is)
    (case a_times => k_is)
    (case l_times => k_is)
    (case c_times => k_is)
    (case k_times => k_is)
    (case a_stepped => k_is)
    (case l_stepped => k_is)
    (case c_stepped => k_is)
    (case k_stepped => k_is)
    (case a_left_side => k_is)
    (case l_left_side => k_is)
    (case c_left_side => k_is)
    (case k_left_side => k_is)
    (case a_terms_over => k_is)
    (case l_terms_over => k_is)
    (case c_terms_over => k_is)
    (case k_terms_over => k_is)
    (case a_least_multiple => k_is)
    (case l_least_multiple => k_is)
    (case c_least_multiple => k_is)
    (case k_least_multiple => k_is)
    (case a_whole_numbers => k_is)
    (case l_whole_numbers => k_is)
    (case c_whole_numbers => k_is)
    (case k_whole_numbers => k_is)
    (case a_common_bottom => k_is)
    (case l_common_bottom => k_is)
    (case c_common_bottom => k_is)
    (case k_common_bottom => k_is)
    (case a_too_big => k_is)
    (case l_too_big => k_is)
    (case c_too_big => k_is)
    (case k_too_big => k_is)
    (case a_texts_refusal => k_is)
    (case l_texts_refusal => k_is)
    (case c_texts_refusal => k_is)
    (case k_texts_refusal => k_is)
    (case a_told => k_is)
    (case l_told => k_is)
    (case c_told => k_is)
    (case k_told => k_is)
    (case a_value_at => k_is)
    (case l_value_at => k_is)
    (case c_value_at => k_is)
    (case k_value_at => k_is)
    (case a_sign_at => k_is)
    (case l_sign_at => k_is)
    (case c_sign_at => k_is)
    (case k_sign_at => k_is)
    (case a_difference => k_is)
    (case l_difference => k_is)
    (case c_difference => k_is)
    (case k_difference => k_is)
    (case a_first_change => k_is)
    (case l_first_change => k_is)
    (case c_first_change => k_is)
    (case k_first_change => k_is)
    (case a_sign_changes => k_is)
    (case l_sign_changes => k_is)
    (case c_sign_changes => k_is)
    (case k_sign_changes => k_is)
    (case a_greatest_whole_root => k_is)
    (case l_greatest_whole_root => k_is)
    (case c_greatest_whole_root => k_is)
    (case k_greatest_whole_root => k_is)
    (case a_falling_product => k_is)
    (case l_falling_product => k_is)
    (case c_falling_product => k_is)
    (case k_falling_product => k_is)
    (case a_by_differences => k_is)
    (case l_by_differences => k_is)
    (case c_by_differences => k_is)
    (case k_by_differences => k_is)
    (case a_leading => k_is)
    (case l_leading => k_is)
    (case c_leading => k_is)
    (case k_leading => k_is)
    (case a_how_high => k_is)
    (case l_how_high => k_is)
    (case c_how_high => k_is)
    (case k_how_high => k_is)
    (case a_all_zero => k_is)
    (case l_all_zero => k_is)
    (case c_all_zero => k_is)
    (case k_all_zero => k_is)
    (case a_row_at => k_is)
    (case l_row_at => k_is)
    (case c_row_at => k_is)
    (case k_row_at => k_is)
    (case a_find_pivot => k_is)
    (case l_find_pivot => k_is)
    (case c_find_pivot => k_is)
    (case k_find_pivot => k_is)
    (case a_exchanged => k_is)
    (case l_exchanged => k_is)
    (case c_exchanged => k_is)
    (case k_exchanged => k_is)
    (case a_special_solution => k_is)
    (case l_special_solution => k_is)
    (case c_special_solution => k_is)
    (case k_special_solution => k_is)
    (case a_free_solution => k_is)
    (case l_free_solution => k_is)
    (case c_free_solution => k_is)
    (case k_free_solution => k_is)
    (case a_cleared_row => k_is)
    (case l_cleared_row => k_is)
    (case c_cleared_row => k_is)
    (case k_cleared_row => k_is)
    (case a_cleared => k_is)
    (case l_cleared => k_is)
    (case c_cleared => k_is)
    (case k_cleared => k_is)
    (case a_counts_fit => k_is)
    (case l_counts_fit => k_is)
    (case c_counts_fit => k_is)
    (case k_counts_fit => k_is)
    (case a_whole_equations => k_is)
    (case l_whole_equations => k_is)
    (case c_whole_equations => k_is)
    (case k_whole_equations => k_is)
    (case a_equation_rows => k_is)
    (case l_equation_rows => k_is)
    (case c_equation_rows => k_is)
    (case k_equation_rows => k_is)
    (case a_all_solutions => k_is)
    (case l_all_solutions => k_is)
    (case c_all_solutions => k_is)
    (case k_all_solutions => k_is)
    (case a_solve => k_is)
    (case l_solve => k_is)
    (case c_solve => k_is)
    (case k_solve => k_is)
    (case v_DIGIT_ZERO => k_is)
    (case v_SLASH => k_is)
    (case v_STAR => k_is)
    (case v_LETTER_X => k_is)
    (case v_CARET => k_is)
    (case v_BLANK => k_is)
    (case v_MINUS => k_is)
    (case v_PLUS => k_is)
    (case v_DIGIT_NINE => k_is)
    (case v_MOST_DEGREE => k_is)
    (case v_MOST_NUMBER => k_is)
    (case v_NOT_SUCH_A_TEXT => k_is)
    (case v_TOO_BIG => k_is)
    (case v_MOST_PARTS => k_is)
    (case v_WRONG_COUNT => k_is)
    (case v_NO_LEFT_SIDE => k_is)
    (case v_MOST_HEIGHT => k_is)
    (case v_NO_SOLUTION => k_is)
    (case z_len => k_is)
    (case z_range => k_is)
    (case z_max => k_is)
    (case z_min => k_is)
    (case z_abs => k_is)
    (case z_sum => k_is)
    (case z_any => k_is)
    (case z_all => k_is)
    (case z_enumerate => k_is)
    (case z_zip => k_is)
    (case z_reversed => k_is)
    (case z_list => k_is)
  case S =>
    exact fun K H xs a _ hw _ hx => Pg.spec_solve K H xs a hw hx
