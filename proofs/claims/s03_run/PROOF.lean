import PyProof.Rows.All
import Wide.All
import OpenK.AllK
import Wide.FinOn
import Open.SpecLaws
import KE.OsGo
import HandS.ForSpec
import HandS.Comp
import HandS.Iter
import HandS.Walk
import HandS.Wide
import HandS.Deep
import HandS.Steps
import HandS.Evl
import PySem.Challenge.RW_slopesteps_s03_run
set_option Elab.async false
namespace Sl
open AlBase (digits digitsFrom readDigits)
/-! ### digits -/
theorem df_step (f n : Nat) (l : List Nat) : digitsFrom (f + 1) n l = if n < 10 then (48 + n) :: l else digitsFrom f (n / 10) ((48 + n % 10) :: l) := rfl
theorem df_fuel : ∀ (n f g : Nat) (l : List Nat), n < f → n < g → digitsFrom f n l = digitsFrom g n [] ++ l := by
  intro n
  induction n using Nat.strongRecOn with
  | _ n ih =>
    intro f g l hf hg
    obtain ⟨f, rfl⟩ : ∃ k, f = k + 1 := ⟨f - 1, by omega⟩
    obtain ⟨g, rfl⟩ : ∃ k, g = k + 1 := ⟨g - 1, by omega⟩
    rw [df_step, df_step]
    by_cases h : n < 10
    · rw [if_pos h, if_pos h]; rfl
    · rw [if_neg h, if_neg h]
      have hq : n / 10 < n := by omega
      rw [ih _ hq f (n / 10 + 1) _ (by omega) (by omega), ih _ hq g (n / 10 + 1) [48 + n % 10] (by omega) (by omega)]
      simp
theorem digits_small {n : Nat} (h : n < 10) : digits n = [48 + n] := by
  show digitsFrom (n + 1) n [] = _
  rw [df_step, if_pos h]
theorem digits_big {n : Nat} (h : ¬ n < 10) : digits n = digits (n / 10) ++ [48 + n % 10] := by
  show digitsFrom (n + 1) n [] = digitsFrom (n / 10 + 1) (n / 10) [] ++ [48 + n % 10]
  rw [df_step, if_neg h]
  exact df_fuel _ _ _ _ (by omega) (by omega)
theorem digits_ind {P : Nat → Prop} (h0 : ∀ n, n < 10 → P n) (h1 : ∀ n, ¬ n < 10 → P (n / 10) → P n) (n : Nat) : P n := by
  induction n using Nat.strongRecOn with
  | _ n ih =>
    by_cases h : n < 10
    · exact h0 n h
    · exact h1 n h (ih _ (by omega))
theorem digits_mem (n : Nat) : ∀ b ∈ digits n, 48 ≤ b ∧ b ≤ 57 := by
  induction n using digits_ind with
  | h0 n h =>
    rw [digits_small h]; intro b hb
    rw [List.mem_singleton] at hb; omega
  | h1 n h ih =>
    rw [digits_big h]; intro b hb
    rw [List.mem_append, List.mem_singleton] at hb
    rcases hb with hb | hb
    · exact ih b hb
    · omega
theorem digits_ne (n : Nat) : digits n ≠ [] := by
  by_cases h : n < 10
  · rw [digits_small h]; simp
  · rw [digits_big h]; simp
theorem digits_val (n : Nat) : (digits n).foldl (fun (n b : Nat) => 10 * n + (b - 48)) 0 = n := by
  induction n using digits_ind with
  | h0 n h => rw [digits_small h]; simp
  | h1 n h ih =>
    rw [digits_big h, List.foldl_append, ih]
    simp only [List.foldl_cons, List.foldl_nil]
    omega
theorem readDigits_digits (n : Nat) : readDigits (digits n) = some n := by
  unfold readDigits
  rw [if_neg (digits_ne n), digits_val, if_neg]
  have : ((digits n).all fun (b : Nat) => decide (48 ≤ b) && decide (b ≤ 57)) = true := by
    rw [List.all_eq_true]
    intro b hb
    have := digits_mem n b hb
    simp; omega
  rw [this]; decide
theorem digits_one : digits 1 = [49] := rfl
theorem digits_len : ∀ n k : Nat, n < 10 ^ (k + 1) → (digits n).length ≤ k + 1 := by
  intro n
  induction n using digits_ind with
  | h0 n h => intro k _; rw [digits_small h]; simp
  | h1 n h ih =>
    intro k hk
    cases k with
    | zero => simp at hk; omega
    | succ k =>
      rw [digits_big h, List.length_append]
      have := ih k (by rw [Nat.pow_succ] at hk; omega)
      simp; omega
/-! ### the program's own reading and writing -/
structure Tm where
  p : Nat
  n : Int
  d : Nat
deriving DecidableEq
def splitGo : List Nat → Int → List Nat → List (Int × List Nat)
  | [], s, p => [(s, p)]
  | b :: r, s, p => if b = 43 ∨ b = 45 then (s, p) :: splitGo r (if b = 43 then 1 else -1) [] else if b = 32 then splitGo r s p else splitGo r s (p ++ [b])
def splitSigns (t : List Nat) : List (Int × List Nat) := if ((splitGo t 1 []).headD (1, [])).2 = [] then (splitGo t 1 []).tail else splitGo t 1 []
def readPower (w : List Nat) : Option Nat := if w = [120] then some 1 else if w.take 2 = [120, 94] then readDigits (w.drop 2) else none
def readFraction (w : List Nat) : Option (Nat × Nat) :=
  let b : Option Nat := if 47 ∈ w then readDigits (w.drop (w.idxOf 47 + 1)) else some 1
  let t : Option Nat := if 47 ∈ w then readDigits (w.take (w.idxOf 47)) else readDigits w
  match t, b with
  | some t, some b => if b = 0 then none else some (t, b)
  | _, _ => none
def readTerm (s : Int) (w : List Nat) : Option Tm :=
  let f : Option (Nat × Nat) := if 42 ∈ w then readFraction (w.take (w.idxOf 42)) else if 120 ∈ w then some (1, 1) else readFraction w
  let p : Option Nat := if 42 ∈ w then readPower (w.drop (w.idxOf 42 + 1)) else if 120 ∈ w then readPower w else some 0
  match f, p with
  | some f, some p => some ⟨p, s * f.1, f.2⟩
  | _, _ => none
def falls : List Tm → Bool
  | a :: b :: r => decide (b.p < a.p) && falls (b :: r)
  | _ => true
def lowest (t : Tm) : Tm := ⟨t.p, t.n / (Nat.gcd t.n.natAbs t.d : Nat), t.d / Nat.gcd t.n.natAbs t.d⟩
def wFrac (n d : Nat) : List Nat := if d = 1 then digits n else digits n ++ 47 :: digits d
def wPow (p : Nat) : List Nat := 120 :: (if p = 1 then [] else 94 :: digits p)
def wTerm (p n d : Nat) : List Nat := if p = 0 then wFrac n d else if n = 1 ∧ d = 1 then wPow p else wFrac n d ++ 42 :: wPow p
def wOne (t : Tm) : List Nat := 32 :: (if t.n < 0 then 45 else 43) :: 32 :: wTerm t.p t.n.natAbs t.d
def wRest (l : List Tm) : List Nat := l.flatMap wOne
def write : List Tm → List Nat
  | [] => [48]
  | t :: r => (if t.n < 0 then [45] else []) ++ wTerm t.p t.n.natAbs t.d ++ wRest r
def readAll (t : List Nat) : Option (List Tm) := (splitSigns t).mapM fun x => readTerm x.1 x.2
def keptOf (l : List Tm) : List Tm := (l.filter fun t => decide (t.n ≠ 0)).map lowest
def read (t : List Nat) : Option (List Tm) := match readAll t with
  | none => none
  | some l => if falls l = false then none else if write (keptOf l) ≠ t then none else some (keptOf l)
structure Good (t : Tm) : Prop where
  n0 : t.n ≠ 0
  d0 : 0 < t.d
  co : Nat.gcd t.n.natAbs t.d = 1
structure Valid (l : List Tm) : Prop where
  fall : l.Pairwise fun a b => b.p < a.p
  good : ∀ t ∈ l, Good t
end Sl
set_option Elab.async false
set_option linter.all false
namespace Sl
open AlBase (digits digitsFrom readDigits)
/-! ### what stands in a written term -/
def Plain (w : List Nat) : Prop := ∀ b ∈ w, b ≠ 43 ∧ b ≠ 45 ∧ b ≠ 32
theorem digits_not {n b : Nat} (h : b < 48 ∨ 57 < b) : b ∉ digits n := fun hb => by
  have := digits_mem n b hb; omega
theorem plain_digits (n : Nat) : Plain (digits n) := fun b hb => by
  have := digits_mem n b hb; omega
theorem Plain.append {u v : List Nat} (h : Plain u) (k : Plain v) : Plain (u ++ v) := fun b hb => by
  rcases List.mem_append.mp hb with hb | hb
  · exact h b hb
  · exact k b hb
theorem Plain.cons {b : Nat} {v : List Nat} (h : b ≠ 43 ∧ b ≠ 45 ∧ b ≠ 32) (k : Plain v) : Plain (b :: v) := fun c hc => by
  rcases List.mem_cons.mp hc with hc | hc
  · rw [hc]; exact h
  · exact k c hc
theorem Plain.nil : Plain [] := fun b hb => by cases hb
theorem plain_frac (n d : Nat) : Plain (wFrac n d) := by
  unfold wFrac
  split
  · exact plain_digits n
  · exact (plain_digits n).append (Plain.cons (by decide) (plain_digits d))
theorem plain_pow (p : Nat) : Plain (wPow p) := by
  unfold wPow
  refine Plain.cons (by decide) ?_
  split
  · exact Plain.nil
  · exact Plain.cons (by decide) (plain_digits p)
theorem plain_term (p n d : Nat) : Plain (wTerm p n d) := by
  unfold wTerm
  split
  · exact plain_frac n d
  · split
    · exact plain_pow p
    · exact (plain_frac n d).append (Plain.cons (by decide) (plain_pow p))
theorem frac_ne (n d : Nat) : wFrac n d ≠ [] := by
  unfold wFrac
  split
  · exact digits_ne n
  · simp
theorem pow_ne (p : Nat) : wPow p ≠ [] := by unfold wPow; simp
theorem term_ne (p n d : Nat) : wTerm p n d ≠ [] := by
  unfold wTerm
  split
  · exact frac_ne n d
  · split
    · exact pow_ne p
    · simp
/-! ### splitting -/
theorem go_plain : ∀ (w r : List Nat) (s : Int) (p : List Nat), Plain w → splitGo (w ++ r) s p = splitGo r s (p ++ w)
  | [], r, s, p, _ => by simp
  | b :: w, r, s, p, h => by
    have hb := h b (List.mem_cons_self ..)
    show (if b = 43 ∨ b = 45 then _ else if b = 32 then _ else splitGo (w ++ r) s (p ++ [b])) = _
    rw [if_neg (by omega), if_neg (by omega), go_plain w r s _ (fun c hc => h c (List.mem_cons_of_mem _ hc)), List.append_assoc]
    rfl
def sg (t : Tm) : Int := if t.n < 0 then -1 else 1
def wT (t : Tm) : List Nat := wTerm t.p t.n.natAbs t.d
theorem plain_wT (t : Tm) : Plain (wT t) := plain_term _ _ _
theorem wT_ne (t : Tm) : wT t ≠ [] := term_ne _ _ _
theorem go_rest : ∀ (l : List Tm) (s : Int) (p : List Nat), splitGo (wRest l) s p = (s, p) :: l.map fun t => (sg t, wT t)
  | [], s, p => rfl
  | t :: l, s, p => by
    have ih := go_rest l
    have e : wRest (t :: l) = 32 :: (if t.n < 0 then 45 else 43) :: 32 :: (wT t ++ wRest l) := rfl
    rw [e]
    show splitGo ((if t.n < 0 then 45 else 43) :: 32 :: (wT t ++ wRest l)) s p = _
    by_cases h : t.n < 0
    · rw [if_pos h]
      show (s, p) :: splitGo (wT t ++ wRest l) (-1) [] = _
      rw [go_plain _ _ _ _ (plain_wT t), ih]
      simp [sg, h]
    · rw [if_neg h]
      show (s, p) :: splitGo (wT t ++ wRest l) 1 [] = _
      rw [go_plain _ _ _ _ (plain_wT t), ih]
      simp [sg, h]
theorem split_write (t : Tm) (l : List Tm) : splitSigns (write (t :: l)) = (t :: l).map fun t => (sg t, wT t) := by
  unfold splitSigns write
  by_cases h : t.n < 0
  · have e : splitGo ((if t.n < 0 then [45] else []) ++ wTerm t.p t.n.natAbs t.d ++ wRest l) 1 [] = (1, []) :: (-1, wT t) :: l.map fun t => (sg t, wT t) := by
      rw [if_pos h]
      show (1, []) :: splitGo (wT t ++ wRest l) (-1) [] = _
      rw [go_plain _ _ _ _ (plain_wT t), go_rest]
      simp
    rw [e]
    simp [sg, h]
  · have e : splitGo ((if t.n < 0 then [45] else []) ++ wTerm t.p t.n.natAbs t.d ++ wRest l) 1 [] = (1, wT t) :: l.map fun t => (sg t, wT t) := by
      rw [if_neg h]
      show splitGo (wT t ++ wRest l) 1 [] = _
      rw [go_plain _ _ _ _ (plain_wT t), go_rest]
      simp
    rw [e]
    simp [sg, h, wT_ne]
/-! ### a term read back -/
theorem idx_app {c : Nat} : ∀ (u v : List Nat), c ∉ u → (u ++ c :: v).idxOf c = u.length
  | [], v, _ => by simp
  | b :: u, v, h => by
    have hb : b ≠ c := fun e => h (by rw [e]; exact List.mem_cons_self ..)
    rw [List.cons_append, List.idxOf_cons, idx_app u v (fun k => h (List.mem_cons_of_mem _ k)), show (b == c) = false by simpa using hb]
    simp
theorem cut_l {c : Nat} (u v : List Nat) (h : c ∉ u) : (u ++ c :: v).take ((u ++ c :: v).idxOf c) = u := by
  rw [idx_app u v h]; simp
theorem cut_r {c : Nat} (u v : List Nat) (h : c ∉ u) : (u ++ c :: v).drop ((u ++ c :: v).idxOf c + 1) = v := by
  rw [idx_app u v h, ← List.drop_drop, List.drop_left]; rfl
theorem frac_back {n d : Nat} (hd : 0 < d) : readFraction (wFrac n d) = some (n, d) := by
  unfold readFraction wFrac
  by_cases h : d = 1
  · subst h
    simp [digits_not, readDigits_digits]
  · rw [if_neg h]
    have hm : 47 ∈ digits n ++ 47 :: digits d := by simp
    simp only [if_pos hm, cut_l _ _ (digits_not (n := n) (b := 47) (by decide)), cut_r _ _ (digits_not (n := n) (b := 47) (by decide)), readDigits_digits]
    rw [if_neg (by omega)]
theorem pow_back {p : Nat} (hp : 0 < p) : readPower (wPow p) = some p := by
  unfold readPower wPow
  by_cases h : p = 1
  · subst h; rfl
  · rw [if_neg h, if_neg (by simp), if_pos (by rfl)]
    show readDigits (digits p) = _
    exact readDigits_digits p
theorem frac_not {n d b : Nat} (h : b < 47 ∨ 57 < b) : b ∉ wFrac n d := by
  unfold wFrac
  split
  · exact digits_not (by omega)
  · intro hb
    rcases List.mem_append.mp hb with hb | hb
    · exact digits_not (by omega) hb
    · rcases List.mem_cons.mp hb with hb | hb
      · omega
      · exact digits_not (by omega) hb
theorem pow_not {p b : Nat} (h : b < 48) : b ∉ wPow p := by
  unfold wPow
  intro hb
  rcases List.mem_cons.mp hb with hb | hb
  · omega
  · split at hb
    · cases hb
    · rcases List.mem_cons.mp hb with hb | hb
      · omega
      · exact digits_not (by omega) hb
theorem readTerm_star {s : Int} {u v : List Nat} {f : Nat × Nat} {p : Nat} (h : 42 ∉ u) (hf : readFraction u = some f) (hp : readPower v = some p) : readTerm s (u ++ 42 :: v) = some ⟨p, s * f.1, f.2⟩ := by
  have hm : 42 ∈ u ++ 42 :: v := by simp
  unfold readTerm
  simp only [if_pos hm, cut_l _ _ h, cut_r _ _ h, hf, hp]
theorem readTerm_x {s : Int} {v : List Nat} {p : Nat} (h : 42 ∉ v) (hx : 120 ∈ v) (hp : readPower v = some p) : readTerm s v = some ⟨p, s * ((1 : Nat) : Int), 1⟩ := by
  unfold readTerm
  simp only [if_neg h, if_pos hx, hp]
theorem readTerm_n {s : Int} {u : List Nat} {f : Nat × Nat} (h : 42 ∉ u) (hx : 120 ∉ u) (hf : readFraction u = some f) : readTerm s u = some ⟨0, s * f.1, f.2⟩ := by
  unfold readTerm
  simp only [if_neg h, if_neg hx, hf]
theorem term_back {s : Int} {p n d : Nat} (hd : 0 < d) : readTerm s (wTerm p n d) = some ⟨p, s * n, d⟩ := by
  unfold wTerm
  by_cases h : p = 0
  · rw [if_pos h, h]
    exact readTerm_n (frac_not (by decide)) (frac_not (by decide)) (frac_back hd)
  · rw [if_neg h]
    by_cases k : n = 1 ∧ d = 1
    · rw [if_pos k, k.1, k.2]
      exact readTerm_x (pow_not (by decide)) (List.mem_cons_self ..) (pow_back (Nat.pos_of_ne_zero h))
    · rw [if_neg k]
      exact readTerm_star (frac_not (by decide)) (frac_back hd) (pow_back (Nat.pos_of_ne_zero h))
theorem sg_abs (t : Tm) : sg t * (t.n.natAbs : Nat) = t.n := by
  unfold sg
  split <;> omega
theorem mapM_some {α β : Type} {f : α → Option β} {g : β → α} : ∀ (l : List β), (∀ x ∈ l, f (g x) = some x) → (l.map g).mapM f = some l
  | [], _ => rfl
  | x :: l, h => by
    rw [List.map_cons, List.mapM_cons, h x (List.mem_cons_self ..), mapM_some l fun y hy => h y (List.mem_cons_of_mem _ hy)]
    rfl
theorem falls_iff : ∀ l : List Tm, falls l = true ↔ l.Pairwise fun a b => b.p < a.p
  | [] => by simp [falls]
  | [a] => by simp [falls]
  | a :: b :: r => by
    show (decide (b.p < a.p) && falls (b :: r)) = true ↔ _
    rw [Bool.and_eq_true, falls_iff (b :: r), decide_eq_true_iff]
    constructor
    · rintro ⟨h, k⟩
      refine List.Pairwise.cons (fun c hc => ?_) k
      rcases List.mem_cons.mp hc with hc | hc
      · rw [hc]; exact h
      · have := (List.pairwise_cons.mp k).1 c hc
        omega
    · intro h
      exact ⟨(List.pairwise_cons.mp h).1 b (List.mem_cons_self ..), (List.pairwise_cons.mp h).2⟩
theorem lowest_good {t : Tm} (h : Good t) : lowest t = t := by
  unfold lowest
  rw [h.co]
  cases t
  simp
theorem kept_valid {l : List Tm} (h : ∀ t ∈ l, Good t) : keptOf l = l := by
  unfold keptOf
  rw [List.filter_eq_self.mpr (fun t ht => by simpa using (h t ht).n0)]
  have := List.map_congr_left (f := lowest) (g := id) (l := l) fun t ht => lowest_good (h t ht)
  rw [this]; simp
theorem read_write {l : List Tm} (h : Valid l) : read (write l) = some l := by
  cases l with
  | nil => rfl
  | cons t r =>
    have e : readAll (write (t :: r)) = some (t :: r) := by
      unfold readAll
      rw [split_write]
      refine mapM_some (f := fun x => readTerm x.1 x.2) (g := fun t => (sg t, wT t)) (t :: r) fun x hx => ?_
      show readTerm (sg x) (wTerm x.p x.n.natAbs x.d) = some x
      rw [term_back (h.good x hx).d0, sg_abs]
    have k := kept_valid h.good
    unfold read
    rw [e]
    show (if falls (t :: r) = false then none else if write (keptOf (t :: r)) ≠ write (t :: r) then none else some (keptOf (t :: r))) = _
    rw [k, (falls_iff _).mpr h.fall]
    simp
/-! ### what is read is written so -/
theorem lowest_ok {t : Tm} (n0 : t.n ≠ 0) (d0 : 0 < t.d) : Good (lowest t) := by
  have g0 : 0 < Nat.gcd t.n.natAbs t.d := Nat.gcd_pos_of_pos_right _ d0
  have gn : Nat.gcd t.n.natAbs t.d ∣ t.n.natAbs := Nat.gcd_dvd_left _ _
  have gd : Nat.gcd t.n.natAbs t.d ∣ t.d := Nat.gcd_dvd_right _ _
  have gi : ((Nat.gcd t.n.natAbs t.d : Nat) : Int) ∣ t.n := Int.ofNat_dvd_left.mpr gn
  have ea : (t.n / ((Nat.gcd t.n.natAbs t.d : Nat) : Int)).natAbs = t.n.natAbs / Nat.gcd t.n.natAbs t.d := by
    rw [Int.natAbs_ediv_of_dvd gi]; simp
  have hn : 0 < t.n.natAbs / Nat.gcd t.n.natAbs t.d := Nat.div_pos (Nat.le_of_dvd (by omega) gn) g0
  refine ⟨?_, Nat.div_pos (Nat.le_of_dvd d0 gd) g0, ?_⟩
  · show t.n / ((Nat.gcd t.n.natAbs t.d : Nat) : Int) ≠ 0
    intro z
    rw [z] at ea
    simp at ea
    omega
  · show Nat.gcd (t.n / ((Nat.gcd t.n.natAbs t.d : Nat) : Int)).natAbs (t.d / Nat.gcd t.n.natAbs t.d) = 1
    rw [ea]
    exact Nat.coprime_div_gcd_div_gcd g0
theorem readTerm_d {s : Int} {w : List Nat} {t : Tm} (h : readTerm s w = some t) : 0 < t.d := by
  have hf : ∀ (w : List Nat) (x : Nat × Nat), readFraction w = some x → 0 < x.2 := by
    intro w x hx
    unfold readFraction at hx
    simp only at hx
    split at hx
    · split at hx
      · cases hx
      · cases hx; omega
    · cases hx
  unfold readTerm at h
  simp only at h
  split at h
  · rename_i f p e1 e2
    cases h
    show 0 < f.2
    split at e1
    · exact hf _ _ e1
    · split at e1
      · cases e1; decide
      · exact hf _ _ e1
  · cases h
theorem mapM_mem {α β : Type} {f : α → Option β} : ∀ {l : List α} {m : List β}, l.mapM f = some m → ∀ y ∈ m, ∃ x ∈ l, f x = some y
  | [], m, h, y, hy => by
    have : m = [] := by simpa using h.symm
    subst this; cases hy
  | x :: l, m, h, y, hy => by
    rw [List.mapM_cons] at h
    cases e : f x with
    | none => rw [e] at h; cases h
    | some z =>
      rw [e] at h
      cases e2 : l.mapM f with
      | none => rw [e2] at h; cases h
      | some r =>
        rw [e2] at h
        have : m = z :: r := by simpa using h.symm
        subst this
        rcases List.mem_cons.mp hy with hy | hy
        · exact ⟨x, List.mem_cons_self .., by rw [hy]; exact e⟩
        · obtain ⟨x', hx', e'⟩ := mapM_mem e2 y hy
          exact ⟨x', List.mem_cons_of_mem _ hx', e'⟩
theorem read_sound {t : List Nat} {l : List Tm} (h : read t = some l) : Valid l ∧ write l = t := by
  unfold read at h
  split at h
  · cases h
  · rename_i m e
    split at h
    · cases h
    · rename_i hf
      split at h
      · cases h
      · rename_i hw
        cases h
        have hw' : write (keptOf m) = t := Classical.byContradiction fun z => hw z
        refine ⟨⟨?_, ?_⟩, hw'⟩
        · have hp := (falls_iff m).mp (by cases q : falls m <;> simp_all)
          unfold keptOf
          rw [List.pairwise_map]
          exact hp.filter _
        · intro x hx
          obtain ⟨y, hy, rfl⟩ := List.mem_map.mp hx
          obtain ⟨hm, hn⟩ := List.mem_filter.mp hy
          obtain ⟨z, _, ez⟩ := mapM_mem (f := fun x : Int × List Nat => readTerm x.1 x.2) e y hm
          exact lowest_ok (by simpa using hn) (readTerm_d ez)
theorem read_iff {t : List Nat} {l : List Tm} : read t = some l ↔ Valid l ∧ write l = t :=
  ⟨read_sound, fun h => by rw [← h.2]; exact read_write h.1⟩
end Sl
set_option Elab.async false
set_option linter.all false
namespace Sl
open AlBase (Poly Mono)
/-! ### polynomials of the specification in the letter x alone -/
abbrev PX := List (Nat × Rat)
def mono (n : Nat) : Mono := if n = 0 then [] else [(23, n)]
def toP (l : PX) : Poly := l.map fun x => (mono x.1, x.2)
structure XC (l : PX) : Prop where
  fall : l.Pairwise fun a b => b.1 < a.1
  nz : ∀ x ∈ l, x.2 ≠ 0
theorem mono_inj {a b : Nat} (h : mono a = mono b) : a = b := by
  unfold mono at h
  split at h <;> split at h <;> simp_all
theorem mono_deg (n : Nat) : AlBase.degree (mono n) = n := by
  unfold mono AlBase.degree
  split <;> simp_all
theorem above_mono (a b : Nat) : AlBase.above (mono a) (mono b) = decide (b < a) := by
  unfold AlBase.above
  rw [mono_deg, mono_deg]
  by_cases h : a = b
  · rw [if_pos h, h]
    unfold mono
    split <;> simp [AlBase.earlier]
  · rw [if_neg h]
theorem times_mono (a b : Nat) : AlBase.times (mono a) (mono b) = mono (a + b) := by
  unfold AlBase.times mono
  by_cases h : b = 0
  · simp [h]
  · by_cases k : a = 0
    · simp [h, k, AlBase.put]
    · simp [h, k, AlBase.put]; omega
/-- a term put to it -/
def plusX (n : Nat) (c : Rat) : PX → PX
  | [] => if c = 0 then [] else [(n, c)]
  | (m, d) :: p => if c = 0 then (m, d) :: p else if n = m then (if c + d = 0 then p else (m, c + d) :: p) else if m < n then (n, c) :: (m, d) :: p else (m, d) :: plusX n c p
theorem plus_toP (n : Nat) (c : Rat) : ∀ l : PX, AlBase.plus (mono n) c (toP l) = toP (plusX n c l)
  | [] => by
    show (if c = 0 then [] else [(mono n, c)]) = toP (if c = 0 then [] else [(n, c)])
    split <;> rfl
  | (m, d) :: l => by
    show (if c = 0 then (mono m, d) :: toP l else if mono n = mono m then (if c + d = 0 then toP l else (mono m, c + d) :: toP l) else if AlBase.above (mono n) (mono m) = true then (mono n, c) :: (mono m, d) :: toP l else (mono m, d) :: AlBase.plus (mono n) c (toP l)) = toP (if c = 0 then (m, d) :: l else if n = m then (if c + d = 0 then l else (m, c + d) :: l) else if m < n then (n, c) :: (m, d) :: l else (m, d) :: plusX n c l)
    rw [plus_toP n c l, above_mono]
    by_cases h0 : c = 0
    · rw [if_pos h0, if_pos h0]; rfl
    · rw [if_neg h0, if_neg h0]
      by_cases h1 : n = m
      · rw [if_pos h1, if_pos (by rw [h1])]
        split <;> rfl
      · rw [if_neg h1, if_neg (fun e => h1 (mono_inj e))]
        by_cases h2 : m < n
        · rw [if_pos h2, if_pos (by simpa using h2)]; rfl
        · rw [if_neg h2, if_neg (by simpa using h2)]; rfl
theorem plusX_mem (n : Nat) (c : Rat) : ∀ (l : PX) (x : Nat × Rat), x ∈ plusX n c l → x.1 = n ∨ ∃ y ∈ l, y.1 = x.1
  | [], x, h => by
    unfold plusX at h
    split at h
    · cases h
    · rw [List.mem_singleton] at h; rw [h]; exact Or.inl rfl
  | (m, d) :: l, x, h => by
    unfold plusX at h
    split at h
    · exact Or.inr ⟨x, h, rfl⟩
    · split at h
      · split at h
        · exact Or.inr ⟨x, List.mem_cons_of_mem _ h, rfl⟩
        · rcases List.mem_cons.mp h with h | h
          · rw [h]; exact Or.inr ⟨(m, d), List.mem_cons_self .., rfl⟩
          · exact Or.inr ⟨x, List.mem_cons_of_mem _ h, rfl⟩
      · split at h
        · rcases List.mem_cons.mp h with h | h
          · rw [h]; exact Or.inl rfl
          · exact Or.inr ⟨x, h, rfl⟩
        · rcases List.mem_cons.mp h with h | h
          · rw [h]; exact Or.inr ⟨(m, d), List.mem_cons_self .., rfl⟩
          · rcases plusX_mem n c l x h with e | ⟨y, hy, e⟩
            · exact Or.inl e
            · exact Or.inr ⟨y, List.mem_cons_of_mem _ hy, e⟩
theorem XC.tail {x : Nat × Rat} {l : PX} (h : XC (x :: l)) : XC l := ⟨(List.pairwise_cons.mp h.fall).2, fun y hy => h.nz y (List.mem_cons_of_mem _ hy)⟩
theorem XC.head {x : Nat × Rat} {l : PX} (h : XC (x :: l)) : ∀ y ∈ l, y.1 < x.1 := (List.pairwise_cons.mp h.fall).1
theorem XC.cons {x : Nat × Rat} {l : PX} (h : XC l) (h1 : ∀ y ∈ l, y.1 < x.1) (h2 : x.2 ≠ 0) : XC (x :: l) := ⟨List.Pairwise.cons h1 h.fall, fun y hy => by
  rcases List.mem_cons.mp hy with hy | hy
  · rw [hy]; exact h2
  · exact h.nz y hy⟩
theorem XC.nil : XC [] := ⟨List.Pairwise.nil, fun _ h => by cases h⟩
theorem plusX_ok (n : Nat) (c : Rat) : ∀ (l : PX), XC l → XC (plusX n c l)
  | [], _ => by
    unfold plusX
    split
    · exact XC.nil
    · exact XC.nil.cons (fun _ h => by cases h) (by assumption)
  | (m, d) :: l, h => by
    unfold plusX
    split
    · exact h
    · split
      · split
        · exact h.tail
        · exact h.tail.cons h.head (by assumption)
      · split
        · refine h.cons (fun y hy => ?_) (by assumption)
          rcases List.mem_cons.mp hy with hy | hy
          · rw [hy]; assumption
          · have := h.head y hy
            show y.1 < n
            simp only at this; omega
        · refine (plusX_ok n c l h.tail).cons (fun y hy => ?_) (h.nz _ (List.mem_cons_self ..))
          show y.1 < m
          rcases plusX_mem n c l y hy with e | ⟨z, hz, e⟩
          · rw [e]; omega
          · rw [← e]; exact h.head z hz
def addX (p q : PX) : PX := q.foldl (fun s x => plusX x.1 x.2 s) p
theorem add_toP : ∀ (q p : PX), AlBase.add (toP p) (toP q) = toP (addX p q)
  | [], p => rfl
  | x :: q, p => by
    show AlBase.add (AlBase.plus (mono x.1) x.2 (toP p)) (toP q) = toP (addX (plusX x.1 x.2 p) q)
    rw [plus_toP, add_toP q]
theorem addX_ok : ∀ (q p : PX), XC p → XC (addX p q)
  | [], p, h => h
  | x :: q, p, h => addX_ok q (plusX x.1 x.2 p) (plusX_ok _ _ _ h)
/-- lower terms stand behind -/
theorem plusX_low {n : Nat} {c : Rat} (hc : c ≠ 0) : ∀ (l : PX), (∀ y ∈ l, n < y.1) → plusX n c l = l ++ [(n, c)]
  | [], _ => by unfold plusX; rw [if_neg hc]; rfl
  | (m, d) :: l, h => by
    have hm : n < m := h (m, d) (List.mem_cons_self ..)
    unfold plusX
    rw [if_neg hc, if_neg (by omega), if_neg (by omega), plusX_low hc l fun y hy => h y (List.mem_cons_of_mem _ hy)]
    rfl
def scaleX (c : Rat) (p : PX) : PX := if c = 0 then [] else p.map fun x => (x.1, c * x.2)
theorem scale_toP (c : Rat) (p : PX) : AlBase.scale c (toP p) = toP (scaleX c p) := by
  unfold AlBase.scale scaleX toP
  split
  · rfl
  · rw [List.map_map, List.map_map]; rfl
theorem scaleX_ok {c : Rat} {p : PX} (h : XC p) : XC (scaleX c p) := by
  unfold scaleX
  split
  · exact XC.nil
  · rename_i hc
    refine ⟨?_, ?_⟩
    · rw [List.pairwise_map]; exact h.fall
    · intro x hx
      obtain ⟨y, hy, rfl⟩ := List.mem_map.mp hx
      exact fun z => (Rat.mul_eq_zero.mp z).elim hc (h.nz y hy)
def shiftX (n : Nat) (p : PX) : PX := p.map fun x => (n + x.1, x.2)
theorem termTimes_toP (n : Nat) (c : Rat) (p : PX) : AlBase.termTimes (mono n, c) (toP p) = toP (shiftX n (scaleX c p)) := by
  unfold AlBase.termTimes
  rw [scale_toP]
  unfold toP shiftX
  rw [List.map_map, List.map_map]
  refine List.map_congr_left fun x _ => ?_
  show (AlBase.times (mono n) (mono x.1), x.2) = _
  rw [times_mono]; rfl
def mulX (p q : PX) : PX := p.foldl (fun s x => addX s (shiftX x.1 (scaleX x.2 q))) []
theorem mulGo_toP (q : PX) : ∀ (p s : PX), (toP p).foldl (fun (s : Poly) (x : Mono × Rat) => AlBase.add s (AlBase.termTimes x (toP q))) (toP s) = toP (p.foldl (fun s x => addX s (shiftX x.1 (scaleX x.2 q))) s)
  | [], s => rfl
  | x :: p, s => by
    show (toP p).foldl _ (AlBase.add (toP s) (AlBase.termTimes (mono x.1, x.2) (toP q))) = _
    rw [termTimes_toP, add_toP, mulGo_toP q p]
    rfl
theorem mul_toP (p q : PX) : AlBase.mul (toP p) (toP q) = toP (mulX p q) := mulGo_toP q p []
theorem mulGo_ok (q : PX) : ∀ (p s : PX), XC s → XC (p.foldl (fun s x => addX s (shiftX x.1 (scaleX x.2 q))) s)
  | [], s, h => h
  | x :: p, s, h => mulGo_ok q p _ (addX_ok _ _ h)
theorem mulX_ok (p q : PX) : XC (mulX p q) := mulGo_ok q p [] XC.nil
/-- read off a text without another letter: the polynomial is one in x -/
def IsX (p : Poly) : Prop := ∃ l : PX, p = toP l ∧ XC l
theorem IsX.mul {p q : Poly} (h : IsX p) (k : IsX q) : IsX (AlBase.mul p q) := by
  obtain ⟨l, rfl, _⟩ := h
  obtain ⟨m, rfl, _⟩ := k
  exact ⟨_, mul_toP l m, mulX_ok l m⟩
theorem IsX.add {p q : Poly} (h : IsX p) (k : IsX q) : IsX (AlBase.add p q) := by
  obtain ⟨l, rfl, h⟩ := h
  obtain ⟨m, rfl, _⟩ := k
  exact ⟨_, add_toP m l, addX_ok _ _ h⟩
theorem IsX.scale {c : Rat} {p : Poly} (h : IsX p) : IsX (AlBase.scale c p) := by
  obtain ⟨l, rfl, h⟩ := h
  exact ⟨_, scale_toP c l, scaleX_ok h⟩
theorem IsX.neg {p : Poly} (h : IsX p) : IsX (AlBase.neg p) := h.scale
theorem IsX.sub {p q : Poly} (h : IsX p) (k : IsX q) : IsX (AlBase.sub p q) := h.add k.neg
theorem IsX.const (c : Rat) : IsX (AlBase.const c) := by
  refine ⟨plusX 0 c [], plus_toP 0 c [], plusX_ok _ _ _ XC.nil⟩
theorem IsX.one : IsX AlBase.one := ⟨[(0, 1)], rfl, XC.nil.cons (fun _ h => by cases h) (by decide)⟩
theorem IsX.pw {n : Nat} (h : n ≠ 0) : IsX [([(23, n)], 1)] := ⟨[(n, 1)], by simp [toP, mono, h], XC.nil.cons (fun _ h => by cases h) (by show (1 : Rat) ≠ 0; decide)⟩
/-! ### texts that have no other letter -/
def OnlyX (t : List Nat) : Prop := ∀ b ∈ t, 97 ≤ b → b ≤ 122 → b = 120
theorem split_mem (sep : Nat) : ∀ (t : List Nat) (w : List Nat), w ∈ AlBase.split sep t → ∀ b ∈ w, b ∈ t
  | [], w, hw, b, hb => by
    rw [show AlBase.split sep [] = [[]] from rfl, List.mem_singleton] at hw
    rw [hw] at hb; cases hb
  | c :: t, w, hw, b, hb => by
    have ih := split_mem sep t
    unfold AlBase.split at hw
    split at hw
    · rcases List.mem_cons.mp hw with hw | hw
      · rw [hw] at hb; cases hb
      · exact List.mem_cons_of_mem _ (ih w hw b hb)
    · split at hw
      · rename_i e
        rw [List.mem_singleton] at hw
        rw [hw, List.mem_singleton] at hb
        rw [hb]; exact List.mem_cons_self ..
      · rename_i u r e
        rcases List.mem_cons.mp hw with hw | hw
        · rw [hw] at hb
          rcases List.mem_cons.mp hb with hb | hb
          · rw [hb]; exact List.mem_cons_self ..
          · exact List.mem_cons_of_mem _ (ih u (by rw [e]; exact List.mem_cons_self ..) b hb)
        · exact List.mem_cons_of_mem _ (ih w (by rw [e]; exact List.mem_cons_of_mem _ hw) b hb)
theorem OnlyX.split {t : List Nat} (h : OnlyX t) {sep : Nat} {w : List Nat} (hw : w ∈ AlBase.split sep t) : OnlyX w := fun b hb => h b (split_mem sep t w hw b hb)
theorem readLetter_x {w : List Nat} (h : OnlyX w) {a : Nat} (e : AlBase.readLetter w = some a) : a = 23 := by
  unfold AlBase.readLetter at e
  split at e
  · rename_i b
    split at e
    · rename_i k
      have := h b (List.mem_cons_self ..) k.1 k.2
      cases e; omega
    · cases e
  · cases e
theorem readFactor_x {w : List Nat} (h : OnlyX w) {p : Poly} (e : AlBase.readFactor w = some p) : IsX p := by
  unfold AlBase.readFactor at e
  split at e
  · rename_i l es
    have hl : OnlyX l := h.split (sep := 94) (by rw [es]; exact List.mem_cons_self ..)
    split at e
    · rename_i a ea
      have := readLetter_x hl ea
      subst this
      cases e
      exact IsX.pw (by decide)
    · cases er : AlBase.readNumber l with
      | none => rw [er] at e; cases e
      | some c => rw [er] at e; cases e; exact IsX.const c
  · rename_i l x es
    have hl : OnlyX l := h.split (sep := 94) (by rw [es]; exact List.mem_cons_self ..)
    cases ea : AlBase.readLetter l with
    | none => rw [ea] at e; cases e
    | some a =>
      have := readLetter_x hl ea
      subst this
      rw [ea] at e
      cases ed : AlBase.readDigits x with
      | none => rw [ed] at e; cases e
      | some n =>
        rw [ed] at e
        have e' : p = if n = 0 then AlBase.one else [([(23, n)], 1)] := by simpa using e.symm
        rw [e']
        split
        · exact IsX.one
        · exact IsX.pw (by assumption)
  · cases e
theorem foldl_mul_x : ∀ (l : List Poly) (s : Poly), (∀ p ∈ l, IsX p) → IsX s → IsX (l.foldl AlBase.mul s)
  | [], s, _, h => h
  | p :: l, s, k, h => foldl_mul_x l _ (fun q hq => k q (List.mem_cons_of_mem _ hq)) (h.mul (k p (List.mem_cons_self ..)))
theorem readTerm_x' {w : List Nat} (h : OnlyX w) {p : Poly} (e : AlBase.readTerm w = some p) : IsX p := by
  unfold AlBase.readTerm at e
  cases em : (AlBase.split 42 w).mapM AlBase.readFactor with
  | none => rw [em] at e; cases e
  | some l =>
    rw [em] at e
    cases e
    refine foldl_mul_x l _ (fun q hq => ?_) IsX.one
    obtain ⟨v, hv, ev⟩ := mapM_mem em q hq
    exact readFactor_x (h.split hv) ev
theorem readMore_x : ∀ (l : List (List Nat)) (s p : Poly), (∀ w ∈ l, OnlyX w) → IsX s → AlBase.readMore s l = some p → IsX p
  | [], s, p, _, h, e => by cases e; exact h
  | [_], s, p, _, h, e => by simp [AlBase.readMore] at e
  | sign :: w :: l, s, p, k, h, e => by
    unfold AlBase.readMore at e
    have kw : OnlyX w := k w (by simp)
    have kl : ∀ w ∈ l, OnlyX w := fun v hv => k v (by simp [hv])
    split at e
    · cases er : AlBase.readTerm w with
      | none => rw [er] at e; cases e
      | some q => rw [er] at e; exact readMore_x l _ p kl (h.add (readTerm_x' kw er)) e
    · split at e
      · cases er : AlBase.readTerm w with
        | none => rw [er] at e; cases e
        | some q => rw [er] at e; exact readMore_x l _ p kl (h.sub (readTerm_x' kw er)) e
      · cases e
theorem readSum_x {t : List Nat} (h : OnlyX t) {p : Poly} (e : AlBase.readSum t = some p) : IsX p := by
  unfold AlBase.readSum at e
  split at e
  · cases e
  · rename_i w l es
    have hw : OnlyX w := h.split (sep := 32) (by rw [es]; exact List.mem_cons_self ..)
    have hl : ∀ v ∈ l, OnlyX v := fun v hv => h.split (sep := 32) (by rw [es]; exact List.mem_cons_of_mem _ hv)
    split at e
    · cases er : AlBase.readTerm w.tail with
      | none => rw [er] at e; cases e
      | some q =>
        rw [er] at e
        exact readMore_x l _ p hl (readTerm_x' (fun b hb => hw b (List.mem_of_mem_tail hb)) er).neg e
    · cases er : AlBase.readTerm w with
      | none => rw [er] at e; cases e
      | some q =>
        rw [er] at e
        exact readMore_x l _ p hl (readTerm_x' hw er) e
end Sl
set_option Elab.async false
set_option linter.all false
namespace Sl
open AlBase (Poly Mono digits readDigits)
/-! ### fractions as they are written -/
theorem num_neg {c : Rat} : c < 0 ↔ c.num < 0 := by
  have h := Rat.num_nonneg (q := c)
  constructor
  · intro k
    exact Int.not_le.mp fun z => Rat.not_le.mpr k (h.mp z)
  · intro k
    exact Rat.not_le.mp fun z => by have := h.mpr z; omega
theorem rat_of {n : Int} {d : Nat} (hd : 0 < d) (h : Nat.gcd n.natAbs d = 1) : ((n : Rat) / (d : Rat)).num = n ∧ ((n : Rat) / (d : Rat)).den = d := by
  have e : (n : Rat) / (d : Rat) = ⟨n, d, by omega, h⟩ := by
    rw [Rat.mk_eq_mkRat, Rat.mkRat_eq_div]
  rw [e]; exact ⟨rfl, rfl⟩
theorem rat_self (c : Rat) : (c.num : Rat) / (c.den : Rat) = c := by
  have := Rat.mkRat_self c
  rw [Rat.mkRat_eq_div] at this
  exact this
def tm (x : Nat × Rat) : Tm := ⟨x.1, x.2.num, x.2.den⟩
def xr (t : Tm) : Nat × Rat := (t.p, (t.n : Rat) / (t.d : Rat))
theorem xr_tm (x : Nat × Rat) : xr (tm x) = x := by
  unfold xr tm
  rw [rat_self]
theorem tm_xr {t : Tm} (h : Good t) : tm (xr t) = t := by
  unfold xr tm
  have := rat_of h.d0 h.co
  cases t
  simp_all
theorem tm_good {x : Nat × Rat} (h : x.2 ≠ 0) : Good (tm x) := ⟨fun z => h (Rat.num_eq_zero.mp z), x.2.den_pos, x.2.reduced⟩
theorem xr_nz {t : Tm} (h : Good t) : (xr t).2 ≠ 0 := fun z => by
  have e := rat_of h.d0 h.co
  have : ((t.n : Rat) / (t.d : Rat)) = 0 := z
  rw [this] at e
  exact h.n0 e.1.symm
theorem valid_xc {l : List Tm} (h : Valid l) : XC (l.map xr) := ⟨by rw [List.pairwise_map]; exact h.fall, fun x hx => by
  obtain ⟨t, ht, rfl⟩ := List.mem_map.mp hx
  exact xr_nz (h.good t ht)⟩
theorem xc_valid {l : PX} (h : XC l) : Valid (l.map tm) := ⟨by rw [List.pairwise_map]; exact h.fall, fun x hx => by
  obtain ⟨t, ht, rfl⟩ := List.mem_map.mp hx
  exact tm_good (h.nz t ht)⟩
theorem tm_xr_all {l : List Tm} (h : ∀ t ∈ l, Good t) : (l.map xr).map tm = l := by
  rw [List.map_map]
  have := List.map_congr_left (f := tm ∘ xr) (g := id) (l := l) fun t ht => tm_xr (h t ht)
  rw [this]; simp
/-! ### the specification's text is the program's -/
theorem number_text {c : Rat} (h : 0 ≤ c.num) : AlBase.numberText c = wFrac c.num.natAbs c.den := by
  unfold AlBase.numberText wFrac
  have e : c.num.toNat = c.num.natAbs := by omega
  rw [e]
  split <;> simp
theorem mono_text {n : Nat} (h : n ≠ 0) : AlBase.monoText (mono n) = wPow n := by
  unfold AlBase.monoText mono wPow
  rw [if_neg h]
  simp [AlBase.join]
theorem one_iff {c : Rat} : c = 1 ↔ c.num = 1 ∧ c.den = 1 := by
  constructor
  · intro h; rw [h]; exact ⟨rfl, rfl⟩
  · intro h; exact Rat.ext h.1 h.2
theorem term_text {n : Nat} {c : Rat} (h : 0 ≤ c.num) : AlBase.termText (mono n) c = wTerm n c.num.natAbs c.den := by
  unfold AlBase.termText wTerm
  by_cases hn : n = 0
  · rw [if_pos (by rw [hn]; rfl), if_pos hn, number_text h]
  · have : mono n ≠ [] := by unfold mono; rw [if_neg hn]; simp
    rw [if_neg this, if_neg hn, mono_text hn, number_text h]
    by_cases k : c = 1
    · rw [if_pos k, if_pos]
      have := one_iff.mp k
      omega
    · rw [if_neg k, if_neg]
      intro z
      exact k (one_iff.mpr (by omega))
theorem more_text (x : Nat × Rat) : AlBase.moreText (mono x.1, x.2) = wOne (tm x) := by
  unfold AlBase.moreText wOne tm
  by_cases h : x.2 < 0
  · have hn := num_neg.mp h
    rw [if_pos h, if_pos hn, term_text (c := -x.2) (by rw [Rat.neg_num]; omega), Rat.neg_num, Rat.neg_den, Int.natAbs_neg]
    rfl
  · have hn : ¬ x.2.num < 0 := fun z => h (num_neg.mpr z)
    rw [if_neg h, if_neg hn, term_text (c := x.2) (by omega)]
    rfl
theorem text_write : ∀ l : PX, AlBase.text (toP l) = write (l.map tm)
  | [] => rfl
  | x :: l => by
    have e : (toP l).flatMap AlBase.moreText = wRest (l.map tm) := by
      unfold toP wRest
      rw [List.flatMap_map, List.flatMap_map]
      congr 1
      funext y
      exact more_text y
    show (if x.2 < 0 then 45 :: AlBase.termText (mono x.1) (-x.2) else AlBase.termText (mono x.1) x.2) ++ (toP l).flatMap AlBase.moreText = (if x.2.num < 0 then [45] else []) ++ wTerm x.1 x.2.num.natAbs x.2.den ++ wRest (l.map tm)
    rw [e]
    by_cases h : x.2 < 0
    · have hn := num_neg.mp h
      rw [if_pos h, if_pos hn, term_text (by rw [Rat.neg_num]; omega), Rat.neg_num, Rat.neg_den, Int.natAbs_neg]
      rfl
    · have hn : ¬ x.2.num < 0 := fun z => h (num_neg.mpr z)
      rw [if_neg h, if_neg hn, term_text (by omega)]
      rfl
/-! ### the specification reads what is written -/
theorem split_no {c : Nat} : ∀ w : List Nat, c ∉ w → AlBase.split c w = [w]
  | [], _ => rfl
  | b :: w, h => by
    have hb : b ≠ c := fun e => h (by rw [e]; exact List.mem_cons_self ..)
    unfold AlBase.split
    rw [if_neg hb, split_no w fun k => h (List.mem_cons_of_mem _ k)]
theorem split_at {c : Nat} : ∀ (w r : List Nat), c ∉ w → AlBase.split c (w ++ c :: r) = w :: AlBase.split c r
  | [], r, _ => by
    show AlBase.split c (c :: r) = _
    rw [AlBase.split, if_pos rfl]
  | b :: w, r, h => by
    have hb : b ≠ c := fun e => h (by rw [e]; exact List.mem_cons_self ..)
    show AlBase.split c (b :: (w ++ c :: r)) = _
    rw [AlBase.split, if_neg hb, split_at w r fun k => h (List.mem_cons_of_mem _ k)]
theorem readNumber_frac {n d : Nat} (hd : 0 < d) : AlBase.readNumber (wFrac n d) = some ((n : Rat) / (d : Rat)) := by
  unfold AlBase.readNumber wFrac
  by_cases h : d = 1
  · rw [if_pos h, split_no _ (digits_not (by decide))]
    simp only [readDigits_digits]
    rw [h]
    show some ((n : Nat) : Rat) = some (((n : Nat) : Rat) / ((1 : Nat) : Rat))
    rw [Rat.div_def, show ((1 : Nat) : Rat)⁻¹ = 1 by decide +kernel, Rat.mul_one]
  · rw [if_neg h, split_at _ _ (digits_not (by decide)), split_no _ (digits_not (by decide))]
    simp only [readDigits_digits, Option.bind_some]
    rw [if_neg (by omega)]
theorem readLetter_frac {n d : Nat} : AlBase.readLetter (wFrac n d) = none := by
  unfold AlBase.readLetter
  split
  · rename_i b e
    rw [if_neg]
    intro k
    exact frac_not (n := n) (d := d) (b := b) (by omega) (by rw [e]; exact List.mem_cons_self ..)
  · rfl
theorem readFactor_frac {n d : Nat} (hd : 0 < d) : AlBase.readFactor (wFrac n d) = some (AlBase.const ((n : Rat) / (d : Rat))) := by
  unfold AlBase.readFactor
  rw [split_no _ (frac_not (by decide))]
  simp only [readLetter_frac, readNumber_frac hd, Option.map_some]
theorem readFactor_pow {p : Nat} (h : p ≠ 0) : AlBase.readFactor (wPow p) = some (toP [(p, 1)]) := by
  unfold AlBase.readFactor wPow
  by_cases k : p = 1
  · rw [if_pos k, k]; rfl
  · rw [if_neg k, show (120 :: 94 :: digits p : List Nat) = [120] ++ 94 :: digits p from rfl, split_at _ _ (by decide), split_no _ (digits_not (by decide))]
    simp only [readDigits_digits]
    show some (if p = 0 then AlBase.one else [([(23, p)], 1)]) = _
    rw [if_neg h]
    simp [toP, mono, h]
theorem mul_one_term {n : Nat} {c : Rat} (hc : c ≠ 0) : AlBase.mul AlBase.one (toP [(n, c)]) = toP [(n, c)] := by
  rw [show AlBase.one = toP [(0, 1)] from rfl, mul_toP]
  congr 1
  show plusX (0 + n) (1 * c) [] = _
  unfold plusX
  rw [Rat.one_mul, if_neg hc, Nat.zero_add]
theorem const_toP {c : Rat} (hc : c ≠ 0) : AlBase.const c = toP [(0, c)] := by
  unfold AlBase.const
  rw [show ([] : Mono) = mono 0 from rfl, show ([] : Poly) = toP [] from rfl, plus_toP]
  unfold plusX
  rw [if_neg hc]
theorem mul_term {n : Nat} {c : Rat} (hc : c ≠ 0) : AlBase.mul (toP [(0, c)]) (toP [(n, 1)]) = toP [(n, c)] := by
  rw [mul_toP]
  congr 1
  show addX [] (shiftX 0 (scaleX c [(n, 1)])) = _
  unfold scaleX
  rw [if_neg hc]
  show plusX (0 + n) (c * 1) [] = _
  unfold plusX
  rw [Rat.mul_one, if_neg hc, Nat.zero_add]
theorem spec_term {p n d : Nat} (hd : 0 < d) (hc : (n : Rat) / (d : Rat) ≠ 0) : AlBase.readTerm (wTerm p n d) = some (toP [(p, (n : Rat) / (d : Rat))]) := by
  unfold AlBase.readTerm wTerm
  by_cases h : p = 0
  · rw [if_pos h, split_no _ (frac_not (by decide)), List.mapM_cons, readFactor_frac hd, List.mapM_nil]
    show some (AlBase.mul AlBase.one (AlBase.const _)) = _
    rw [const_toP hc, mul_one_term hc, h]
  · rw [if_neg h]
    by_cases k : n = 1 ∧ d = 1
    · rw [if_pos k, split_no _ (pow_not (by decide)), List.mapM_cons, readFactor_pow h, List.mapM_nil]
      show some (AlBase.mul AlBase.one (toP [(p, 1)])) = _
      rw [mul_one_term (by decide), k.1, k.2, show ((1 : Nat) : Rat) / ((1 : Nat) : Rat) = 1 by decide +kernel]
    · rw [if_neg k, split_at _ _ (frac_not (by decide)), split_no _ (pow_not (by decide)), List.mapM_cons, readFactor_frac hd, List.mapM_cons, readFactor_pow h, List.mapM_nil]
      show some (AlBase.mul (AlBase.mul AlBase.one (AlBase.const _)) (toP [(p, 1)])) = _
      rw [const_toP hc, mul_one_term hc, mul_term hc]
/-- of a term with its sign aside -/
theorem spec_wT {t : Tm} (h : Good t) : AlBase.readTerm (wT t) = some (toP [(t.p, (t.n.natAbs : Rat) / (t.d : Rat))]) := by
  refine spec_term h.d0 ?_
  have e := rat_of (n := (t.n.natAbs : Int)) h.d0 (by rw [Int.natAbs_natCast]; exact h.co)
  intro z
  have z' : ((t.n.natAbs : Int) : Rat) / (t.d : Rat) = 0 := z
  rw [z'] at e
  have := h.n0
  have e1 : (0 : Int) = t.n.natAbs := e.1
  omega
theorem abs_pos {t : Tm} (h : ¬ t.n < 0) : (t.n.natAbs : Rat) / (t.d : Rat) = (xr t).2 := by
  unfold xr
  have : ((t.n.natAbs : Nat) : Int) = t.n := by omega
  show ((t.n.natAbs : Nat) : Rat) / _ = _
  rw [← Rat.intCast_natCast, this]
theorem abs_neg {t : Tm} (h : t.n < 0) : -1 * ((t.n.natAbs : Rat) / (t.d : Rat)) = (xr t).2 := by
  unfold xr
  have : ((t.n.natAbs : Nat) : Int) = -t.n := by omega
  show -1 * (((t.n.natAbs : Nat) : Rat) / _) = _
  rw [← Rat.intCast_natCast, this, Rat.intCast_neg, Rat.div_def, Rat.div_def, Rat.neg_mul, Rat.one_mul, ← Rat.neg_mul, Rat.neg_neg]
theorem neg_term {n : Nat} {c : Rat} : AlBase.neg (toP [(n, c)]) = toP [(n, -1 * c)] := by
  unfold AlBase.neg
  rw [scale_toP]
  congr 1
theorem split_more : ∀ (l : List Tm) (w : List Nat), 32 ∉ w → AlBase.split 32 (w ++ wRest l) = w :: l.flatMap fun t => [[if t.n < 0 then 45 else 43], wT t]
  | [], w, h => by
    show AlBase.split 32 (w ++ []) = [w]
    rw [List.append_nil, split_no w h]
  | t :: l, w, h => by
    have e : w ++ wRest (t :: l) = w ++ 32 :: ([if t.n < 0 then 45 else 43] ++ 32 :: (wT t ++ wRest l)) := rfl
    rw [e, split_at _ _ h, split_at _ _ (by split <;> decide), split_more l (wT t) fun k => (plain_wT t 32 k).2.2 rfl]
    rfl
theorem readMore_two (s : Poly) (g w : List Nat) (l : List (List Nat)) : AlBase.readMore s (g :: w :: l) = if g = [43] then (AlBase.readTerm w).bind fun (p : Poly) => AlBase.readMore (AlBase.add s p) l else if g = [45] then (AlBase.readTerm w).bind fun (p : Poly) => AlBase.readMore (AlBase.sub s p) l else none := rfl
theorem read_more : ∀ (l : List Tm) (s : PX), (∀ t ∈ l, Good t) → (s ++ l.map xr).Pairwise (fun a b => b.1 < a.1) → AlBase.readMore (toP s) (l.flatMap fun t => [[if t.n < 0 then 45 else 43], wT t]) = some (toP (s ++ l.map xr))
  | [], s, _, _ => by simp [AlBase.readMore]
  | t :: l, s, h, k => by
    have ht := h t (List.mem_cons_self ..)
    have low : ∀ y ∈ s, t.p < y.1 := fun y hy => (List.pairwise_append.mp k).2.2 y hy (xr t) (by simp)
    have ih := read_more l (s ++ [xr t]) (fun u hu => h u (List.mem_cons_of_mem _ hu)) (by simpa using k)
    have e3 : toP (s ++ (t :: l).map xr) = toP (s ++ [xr t] ++ l.map xr) := by simp
    rw [e3, ← ih]
    show AlBase.readMore (toP s) ([if t.n < 0 then 45 else 43] :: wT t :: l.flatMap _) = _
    rw [readMore_two, spec_wT ht]
    by_cases hn : t.n < 0
    · rw [if_pos hn, if_neg (by decide), if_pos rfl]
      show AlBase.readMore (AlBase.sub (toP s) (toP [_])) _ = _
      unfold AlBase.sub
      rw [neg_term, abs_neg hn, add_toP]
      show AlBase.readMore (toP (plusX t.p (xr t).2 s)) _ = _
      rw [plusX_low (xr_nz ht) s low]
      rfl
    · rw [if_neg hn, if_pos rfl]
      show AlBase.readMore (AlBase.add (toP s) (toP [_])) _ = _
      rw [abs_pos hn, add_toP]
      show AlBase.readMore (toP (plusX t.p (xr t).2 s)) _ = _
      rw [plusX_low (xr_nz ht) s low]
      rfl
theorem head_wT (t : Tm) : (wT t).headD 0 ≠ 45 := by
  cases e : wT t with
  | nil => decide
  | cons b w =>
    exact (plain_wT t b (by rw [e]; exact List.mem_cons_self ..)).2.1
theorem spec_back {l : List Tm} (h : Valid l) : AlBase.readSum (write l) = some (toP (l.map xr)) := by
  cases l with
  | nil => rfl
  | cons t l =>
    have ht := h.good t (List.mem_cons_self ..)
    have k := (valid_xc h).fall
    have ih := read_more l [xr t] (fun u hu => h.good u (List.mem_cons_of_mem _ hu)) (by simpa using k)
    have e3 : toP ((t :: l).map xr) = toP ([xr t] ++ l.map xr) := by simp
    rw [e3, ← ih]
    by_cases hn : t.n < 0
    · have e : write (t :: l) = (45 :: wT t) ++ wRest l := by simp [write, hn, wT]
      unfold AlBase.readSum
      rw [e, split_more l _ (fun z => (List.mem_cons.mp z).elim (fun q => by cases q) fun q => (plain_wT t 32 q).2.2 rfl)]
      show (if (45 : Nat) = 45 then (AlBase.readTerm (wT t)).bind _ else _) = _
      rw [if_pos rfl, spec_wT ht]
      show AlBase.readMore (AlBase.neg (toP [_])) _ = _
      rw [neg_term, abs_neg hn]
      rfl
    · have e : write (t :: l) = wT t ++ wRest l := by simp [write, hn, wT]
      unfold AlBase.readSum
      rw [e, split_more l _ (fun z => (plain_wT t 32 z).2.2 rfl)]
      show (if (wT t).headD 0 = 45 then _ else (AlBase.readTerm (wT t)).bind _) = _
      rw [if_neg (head_wT t), spec_wT ht]
      show AlBase.readMore (toP [_]) _ = _
      rw [abs_pos hn]
      rfl
theorem spec_read_back {l : List Tm} (h : Valid l) : AlBase.read (write l) = some (toP (l.map xr)) := by
  unfold AlBase.read
  rw [spec_back h]
  show (if AlBase.text (toP (l.map xr)) = write l then _ else _) = _
  rw [text_write, tm_xr_all h.good, if_pos rfl]
end Sl
set_option Elab.async false
set_option linter.all false
namespace Sl
open AlBase (Poly Mono digits readDigits)
/-! ### letters -/
theorem ins_self (a : Nat) : ∀ l : List Nat, a ∈ AlBase.insertLetter a l
  | [] => by simp [AlBase.insertLetter]
  | b :: l => by
    unfold AlBase.insertLetter
    split
    · simp
    · split
      · simp_all
      · exact List.mem_cons_of_mem _ (ins_self a l)
theorem ins_mem (a c : Nat) : ∀ l : List Nat, c ∈ l → c ∈ AlBase.insertLetter a l
  | [], h => by cases h
  | b :: l, h => by
    unfold AlBase.insertLetter
    split
    · exact List.mem_cons_of_mem _ h
    · split
      · exact h
      · rcases List.mem_cons.mp h with h | h
        · rw [h]; exact List.mem_cons_self ..
        · exact List.mem_cons_of_mem _ (ins_mem a c l h)
theorem ins_back (a c : Nat) : ∀ l : List Nat, c ∈ AlBase.insertLetter a l → c = a ∨ c ∈ l
  | [], h => by
    rw [AlBase.insertLetter, List.mem_singleton] at h; exact Or.inl h
  | b :: l, h => by
    unfold AlBase.insertLetter at h
    split at h
    · rcases List.mem_cons.mp h with h | h
      · exact Or.inl h
      · exact Or.inr h
    · split at h
      · exact Or.inr h
      · rcases List.mem_cons.mp h with h | h
        · rw [h]; exact Or.inr (List.mem_cons_self ..)
        · rcases ins_back a c l h with h | h
          · exact Or.inl h
          · exact Or.inr (List.mem_cons_of_mem _ h)
def ins1 (m : Mono) (s : List Nat) : List Nat := m.foldl (fun (t : List Nat) (y : Nat × Nat) => AlBase.insertLetter y.1 t) s
theorem ins1_old : ∀ (m : Mono) (s : List Nat) (c : Nat), c ∈ s → c ∈ ins1 m s
  | [], s, c, h => h
  | y :: m, s, c, h => ins1_old m _ c (ins_mem y.1 c s h)
theorem ins1_new : ∀ (m : Mono) (s : List Nat) (y : Nat × Nat), y ∈ m → y.1 ∈ ins1 m s
  | [], s, y, h => by cases h
  | z :: m, s, y, h => by
    rcases List.mem_cons.mp h with h | h
    · rw [h]; exact ins1_old m _ _ (ins_self z.1 s)
    · exact ins1_new m _ y h
theorem ins1_back : ∀ (m : Mono) (s : List Nat) (c : Nat), c ∈ ins1 m s → c ∈ s ∨ ∃ y ∈ m, y.1 = c
  | [], s, c, h => Or.inl h
  | z :: m, s, c, h => by
    rcases ins1_back m _ c h with h | ⟨y, hy, e⟩
    · rcases ins_back z.1 c s h with h | h
      · exact Or.inr ⟨z, List.mem_cons_self .., h.symm⟩
      · exact Or.inl h
    · exact Or.inr ⟨y, List.mem_cons_of_mem _ hy, e⟩
def insP (p : Poly) (s : List Nat) : List Nat := p.foldl (fun (s : List Nat) (x : Mono × Rat) => ins1 x.1 s) s
theorem insP_old : ∀ (p : Poly) (s : List Nat) (c : Nat), c ∈ s → c ∈ insP p s
  | [], s, c, h => h
  | x :: p, s, c, h => insP_old p _ c (ins1_old x.1 s c h)
theorem insP_new : ∀ (p : Poly) (s : List Nat) (x : Mono × Rat), x ∈ p → ∀ y ∈ x.1, y.1 ∈ insP p s
  | [], s, x, h, _, _ => by cases h
  | z :: p, s, x, h, y, hy => by
    rcases List.mem_cons.mp h with h | h
    · rw [h] at hy; exact insP_old p _ _ (ins1_new z.1 s y hy)
    · exact insP_new p _ x h y hy
theorem insP_back : ∀ (p : Poly) (s : List Nat) (c : Nat), c ∈ insP p s → c ∈ s ∨ ∃ x ∈ p, ∃ y ∈ x.1, y.1 = c
  | [], s, c, h => Or.inl h
  | z :: p, s, c, h => by
    rcases insP_back p _ c h with h | ⟨x, hx, y, hy, e⟩
    · rcases ins1_back z.1 s c h with h | ⟨y, hy, e⟩
      · exact Or.inl h
      · exact Or.inr ⟨z, List.mem_cons_self .., y, hy, e⟩
    · exact Or.inr ⟨x, List.mem_cons_of_mem _ hx, y, hy, e⟩
theorem letters_iff (p : Poly) : (AlBase.letters p).all (fun (a : Nat) => decide (a = AlOne.X)) = true ↔ ∀ x ∈ p, ∀ y ∈ x.1, y.1 = 23 := by
  rw [List.all_eq_true]
  constructor
  · intro h x hx y hy
    exact of_decide_eq_true (h y.1 (insP_new p [] x hx y hy))
  · intro h c hc
    rcases insP_back p [] c hc with k | ⟨x, hx, y, hy, e⟩
    · cases k
    · rw [← e]; exact decide_eq_true (h x hx y hy)
/-! ### the text of a polynomial in x alone has no other letter -/
theorem OnlyX.append {u v : List Nat} (h : OnlyX u) (k : OnlyX v) : OnlyX (u ++ v) := fun b hb => by
  rcases List.mem_append.mp hb with hb | hb
  · exact h b hb
  · exact k b hb
theorem OnlyX.cons {b : Nat} {v : List Nat} (h : b < 97 ∨ b = 120) (k : OnlyX v) : OnlyX (b :: v) := fun c hc => by
  rcases List.mem_cons.mp hc with hc | hc
  · intro h1 h2; omega
  · exact k c hc
theorem OnlyX.nil : OnlyX [] := fun b hb => by cases hb
theorem onlyX_digits (n : Nat) : OnlyX (digits n) := fun b hb _ _ => by
  have := digits_mem n b hb; omega
theorem onlyX_number (c : Rat) : OnlyX (AlBase.numberText c) := by
  unfold AlBase.numberText
  refine (onlyX_digits _).append ?_
  split
  · exact OnlyX.nil
  · exact OnlyX.cons (by omega) (onlyX_digits _)
theorem onlyX_join : ∀ l : List (List Nat), (∀ w ∈ l, OnlyX w) → OnlyX (AlBase.join [42] l)
  | [], _ => OnlyX.nil
  | [w], h => h w (List.mem_cons_self ..)
  | w :: v :: l, h => by
    show OnlyX (w ++ [42] ++ AlBase.join [42] (v :: l))
    exact ((h w (List.mem_cons_self ..)).append (OnlyX.cons (by omega) OnlyX.nil)).append (onlyX_join (v :: l) fun u hu => h u (List.mem_cons_of_mem _ hu))
theorem onlyX_mono {m : Mono} (h : ∀ y ∈ m, y.1 = 23) : OnlyX (AlBase.monoText m) := by
  unfold AlBase.monoText
  refine onlyX_join _ fun w hw => ?_
  obtain ⟨y, hy, rfl⟩ := List.mem_map.mp hw
  refine OnlyX.cons (Or.inr (by rw [h y hy])) ?_
  split
  · exact OnlyX.nil
  · exact OnlyX.cons (by omega) (onlyX_digits _)
theorem onlyX_term {m : Mono} (h : ∀ y ∈ m, y.1 = 23) (c : Rat) : OnlyX (AlBase.termText m c) := by
  unfold AlBase.termText
  split
  · exact onlyX_number c
  · split
    · exact onlyX_mono h
    · exact (onlyX_number c).append (OnlyX.cons (by omega) (onlyX_mono h))
theorem onlyX_more {x : Mono × Rat} (h : ∀ y ∈ x.1, y.1 = 23) : OnlyX (AlBase.moreText x) := by
  unfold AlBase.moreText
  split
  · exact (OnlyX.cons (by omega) (OnlyX.cons (by omega) (OnlyX.cons (by omega) OnlyX.nil))).append (onlyX_term h _)
  · exact (OnlyX.cons (by omega) (OnlyX.cons (by omega) (OnlyX.cons (by omega) OnlyX.nil))).append (onlyX_term h _)
theorem onlyX_flat : ∀ p : Poly, (∀ x ∈ p, ∀ y ∈ x.1, y.1 = 23) → OnlyX (p.flatMap AlBase.moreText)
  | [], _ => OnlyX.nil
  | x :: p, h => by
    rw [List.flatMap_cons]
    exact (onlyX_more (h x (List.mem_cons_self ..))).append (onlyX_flat p fun z hz => h z (List.mem_cons_of_mem _ hz))
theorem onlyX_text {p : Poly} (h : ∀ x ∈ p, ∀ y ∈ x.1, y.1 = 23) : OnlyX (AlBase.text p) := by
  cases p with
  | nil => exact OnlyX.cons (by omega) OnlyX.nil
  | cons x p =>
    have hx := h x (List.mem_cons_self ..)
    show OnlyX ((if x.2 < 0 then 45 :: AlBase.termText x.1 (-x.2) else AlBase.termText x.1 x.2) ++ p.flatMap AlBase.moreText)
    refine OnlyX.append ?_ (onlyX_flat p fun z hz => h z (List.mem_cons_of_mem _ hz))
    split
    · exact OnlyX.cons (by omega) (onlyX_term hx _)
    · exact onlyX_term hx _
/-! ### as a list of numbers -/
def cf : PX → Nat → Rat
  | [], _ => 0
  | (m, c) :: l, n => if m = n then c else cf l n
theorem cf_low {n : Nat} : ∀ l : PX, (∀ y ∈ l, y.1 ≠ n) → cf l n = 0
  | [], _ => rfl
  | (m, c) :: l, h => by
    unfold cf
    rw [if_neg (h (m, c) (List.mem_cons_self ..)), cf_low l fun y hy => h y (List.mem_cons_of_mem _ hy)]
def top : PX → Nat
  | [] => 0
  | x :: _ => x.1
theorem fmax (f : Mono × Rat → Nat) (g : ∀ x : Nat × Rat, f (mono x.1, x.2) = x.1) : ∀ (l : PX) (s : Nat), (∀ y ∈ l, y.1 ≤ s) → (toP l).foldl (fun (s : Nat) (x : Mono × Rat) => max s (f x)) s = s
  | [], s, _ => rfl
  | x :: l, s, h => by
    show (toP l).foldl _ (max s (f (mono x.1, x.2))) = s
    have : max s (f (mono x.1, x.2)) = s := by
      rw [g]; have := h x (List.mem_cons_self ..); omega
    rw [this]
    exact fmax f g l s fun y hy => h y (List.mem_cons_of_mem _ hy)
theorem fmax_top (f : Mono × Rat → Nat) (g : ∀ x : Nat × Rat, f (mono x.1, x.2) = x.1) {l : PX} (h : XC l) : (toP l).foldl (fun (s : Nat) (x : Mono × Rat) => max s (f x)) 0 = top l := by
  cases l with
  | nil => rfl
  | cons x l =>
    show (toP l).foldl _ (max 0 (f (mono x.1, x.2))) = x.1
    rw [g, Nat.max_eq_right (Nat.zero_le _)]
    exact fmax f g l x.1 fun y hy => Nat.le_of_lt (h.head y hy)
theorem often_mono (n : Nat) : AlBase.often 23 (mono n) = n := by
  unfold mono
  split
  · simp_all [AlBase.often]
  · simp [AlBase.often]
theorem height_toP {l : PX} (h : XC l) : AlBase.height AlOne.X (toP l) = top l := fmax_top (fun x => AlBase.often 23 x.1) (fun x => often_mono x.1) h
theorem degree_toP {l : PX} (h : XC l) : AlBase.polyDegree (toP l) = top l := fmax_top (fun x => AlBase.degree x.1) (fun x => mono_deg x.1) h
theorem letters_toP (l : PX) : (AlBase.letters (toP l)).all (fun (a : Nat) => decide (a = AlOne.X)) = true := by
  rw [letters_iff]
  intro x hx y hy
  obtain ⟨z, _, rfl⟩ := List.mem_map.mp hx
  simp only [mono] at hy
  split at hy
  · cases hy
  · rw [List.mem_singleton] at hy; rw [hy]
theorem without_mono (n : Nat) : AlBase.without 23 (mono n) = [] := by
  unfold mono AlBase.without
  split <;> simp
theorem filter_none {n : Nat} : ∀ l : PX, (∀ y ∈ l, y.1 ≠ n) → (toP l).filter (fun (x : Mono × Rat) => decide (AlBase.often 23 x.1 = n)) = []
  | [], _ => rfl
  | x :: l, h => by
    have hx := h x (List.mem_cons_self ..)
    show List.filter _ ((mono x.1, x.2) :: toP l) = []
    rw [List.filter_cons, if_neg (by simp [often_mono, hx])]
    exact filter_none l fun y hy => h y (List.mem_cons_of_mem _ hy)
theorem part_toP (n : Nat) : ∀ l : PX, XC l → AlBase.value (fun _ => 0) (AlBase.part AlOne.X n (toP l)) = cf l n
  | [], _ => rfl
  | x :: l, h => by
    by_cases hx : x.1 = n
    · have e : (toP (x :: l)).filter (fun (x : Mono × Rat) => decide (AlBase.often 23 x.1 = n)) = [(mono x.1, x.2)] := by
        show List.filter _ ((mono x.1, x.2) :: toP l) = _
        rw [List.filter_cons, if_pos (by simp [often_mono, hx]), filter_none l]
        intro y hy
        have := h.head y hy
        omega
      unfold AlBase.part AlOne.X
      rw [e]
      show AlBase.value _ (AlBase.gather [(AlBase.without 23 (mono x.1), x.2)]) = _
      rw [without_mono]
      show AlBase.value _ (AlBase.plus [] x.2 []) = cf ((x.1, x.2) :: l) n
      have nz := h.nz x (List.mem_cons_self ..)
      unfold AlBase.plus cf
      rw [if_neg nz, if_pos hx]
      show (0 : Rat) + x.2 * 1 = x.2
      rw [Rat.mul_one, Rat.zero_add]
    · have e : (toP (x :: l)).filter (fun (x : Mono × Rat) => decide (AlBase.often 23 x.1 = n)) = (toP l).filter (fun (x : Mono × Rat) => decide (AlBase.often 23 x.1 = n)) := by
        show List.filter _ ((mono x.1, x.2) :: toP l) = _
        rw [List.filter_cons, if_neg (by simp [often_mono, hx])]
      have ih := part_toP n l h.tail
      unfold AlBase.part AlOne.X at ih ⊢
      rw [e, ih]
      show _ = cf ((x.1, x.2) :: l) n
      rw [cf, if_neg hx]
/-- a polynomial's numbers -/
def uniOf (l : PX) : AlOne.Uni := if 100 < top l then AlOne.xpow 100 else AlOne.trim ((List.range (top l + 1)).map (cf l))
theorem ofPoly_toP {l : PX} (h : XC l) : AlOne.ofPoly (toP l) = some (uniOf l) := by
  unfold AlOne.ofPoly uniOf
  rw [degree_toP h, height_toP h, letters_toP]
  by_cases k : 100 < top l
  · rw [if_pos ⟨rfl, k⟩, if_pos k]
  · rw [if_neg (fun z => k z.2), if_pos rfl, if_neg k]
    congr 2
    exact List.map_congr_left fun n _ => part_toP n l h
/-- **A text is read alike.** -/
theorem read_spec (t : List Nat) : AlOne.read t = (read t).map fun l => uniOf (l.map xr) := by
  cases e : read t with
  | some l =>
    have h := read_sound e
    unfold AlOne.read
    rw [← h.2, spec_read_back h.1]
    show AlOne.ofPoly (toP (l.map xr)) = some _
    exact ofPoly_toP (valid_xc h.1)
  | none =>
    show AlOne.read t = none
    unfold AlOne.read AlBase.read
    cases es : AlBase.readSum t with
    | none => rfl
    | some p =>
      show (if AlBase.text p = t then some p else none).bind AlOne.ofPoly = none
      by_cases ht : AlBase.text p = t
      · rw [if_pos ht]
        show AlOne.ofPoly p = none
        unfold AlOne.ofPoly
        by_cases hl : (AlBase.letters p).all (fun (a : Nat) => decide (a = AlOne.X)) = true
        · exfalso
          have hx := (letters_iff p).mp hl
          have ho : OnlyX t := by rw [← ht]; exact onlyX_text hx
          obtain ⟨l, rfl, hc⟩ := readSum_x ho es
          have := read_write (xc_valid hc)
          rw [← text_write, ht, e] at this
          cases this
        · rw [if_neg (fun z => hl z.1), if_neg hl]
      · rw [if_neg ht]; rfl
end Sl
set_option Elab.async false
set_option linter.all false
namespace Sl
open AlOne (Uni)
/-! ### the specification's polynomials by their numbers -/
def cq (p : List Rat) (n : Nat) : Rat := p.getD n 0
theorem cq_nil (n : Nat) : cq [] n = 0 := rfl
theorem cq_zero (c : Rat) (p : List Rat) : cq (c :: p) 0 = c := rfl
theorem cq_succ (c : Rat) (p : List Rat) (n : Nat) : cq (c :: p) (n + 1) = cq p n := by simp [cq]
/-- the last number isn't 0 -/
def Tr (p : List Rat) : Prop := ∀ c, p.getLast? = some c → c ≠ 0
theorem tr_nil : Tr [] := fun c h => by cases h
theorem tr_tail {c : Rat} {p : List Rat} (h : Tr (c :: p)) : Tr p := fun d hd => by
  cases p with
  | nil => cases hd
  | cons e p => exact h d (by rw [List.getLast?_cons_cons]; exact hd)
theorem tr_cons {c : Rat} {p : List Rat} (h : Tr p) (hp : p ≠ []) : Tr (c :: p) := fun d hd => by
  cases p with
  | nil => exact absurd rfl hp
  | cons e p => rw [List.getLast?_cons_cons] at hd; exact h d hd
theorem trim_tr : ∀ l : List Rat, Tr (AlOne.trim l)
  | [] => tr_nil
  | c :: l => by
    have ih := trim_tr l
    unfold AlOne.trim
    split
    · split
      · exact tr_nil
      · rename_i h
        intro d hd
        have : c = d := by simpa using hd
        rw [← this]; exact h
    · rename_i h
      exact tr_cons ih h
theorem trim_cq : ∀ (l : List Rat) (n : Nat), cq (AlOne.trim l) n = cq l n
  | [], n => rfl
  | c :: l, n => by
    have ih := trim_cq l
    unfold AlOne.trim
    split
    · rename_i h
      rw [h] at ih
      split
      · rename_i h0
        cases n with
        | zero => rw [cq_zero, h0]; rfl
        | succ n => rw [cq_succ, ← ih n]; rfl
      · cases n with
        | zero => rfl
        | succ n => rw [cq_succ, cq_succ, ← ih n]
    · cases n with
      | zero => rfl
      | succ n => rw [cq_succ, cq_succ, ih n]
theorem trim_self : ∀ l : List Rat, Tr l → AlOne.trim l = l
  | [], _ => rfl
  | c :: l, h => by
    have ih := trim_self l (tr_tail h)
    unfold AlOne.trim
    rw [ih]
    cases l with
    | nil =>
      have : c ≠ 0 := h c rfl
      simp [this]
    | cons d l => rfl
/-- two without zeros at the end that have the same numbers are one -/
theorem tr_ext : ∀ {p q : List Rat}, Tr p → Tr q → (∀ n, cq p n = cq q n) → p = q
  | [], [], _, _, _ => rfl
  | [], d :: q, _, h2, h => by
    exfalso
    have hz : ∀ n, cq (d :: q) n = 0 := fun n => (h n).symm
    have hl : (d :: q).getLast? = some ((d :: q).getLast (by simp)) := List.getLast?_eq_getLast (by simp)
    refine h2 _ hl ?_
    have := hz ((d :: q).length - 1)
    unfold cq at this
    rw [List.getLast_eq_getElem]
    rw [List.getD_eq_getElem?_getD, List.getElem?_eq_getElem (by simp)] at this
    exact this
  | c :: p, [], h1, _, h => by
    exfalso
    have hz : ∀ n, cq (c :: p) n = 0 := fun n => h n
    have hl : (c :: p).getLast? = some ((c :: p).getLast (by simp)) := List.getLast?_eq_getLast (by simp)
    refine h1 _ hl ?_
    have := hz ((c :: p).length - 1)
    unfold cq at this
    rw [List.getLast_eq_getElem]
    rw [List.getD_eq_getElem?_getD, List.getElem?_eq_getElem (by simp)] at this
    exact this
  | c :: p, d :: q, h1, h2, h => by
    have e : c = d := h 0
    rw [e, tr_ext (tr_tail h1) (tr_tail h2) fun n => by have := h (n + 1); rwa [cq_succ, cq_succ] at this]
theorem addRaw_cq : ∀ (p q : List Rat) (n : Nat), cq (AlOne.addRaw p q) n = cq p n + cq q n
  | [], q, n => by
    have : AlOne.addRaw [] q = q := by cases q <;> rfl
    rw [this, cq_nil, Rat.zero_add]
  | c :: p, [], n => by
    show cq (c :: p) n = _
    rw [cq_nil, Rat.add_zero]
  | c :: p, d :: q, 0 => rfl
  | c :: p, d :: q, n + 1 => by
    show cq ((c + d) :: AlOne.addRaw p q) (n + 1) = _
    rw [cq_succ, cq_succ, cq_succ, addRaw_cq p q n]
theorem add_cq (p q : Uni) (n : Nat) : cq (AlOne.add p q) n = cq p n + cq q n := by
  unfold AlOne.add
  rw [trim_cq, addRaw_cq]
theorem add_tr (p q : Uni) : Tr (AlOne.add p q) := trim_tr _
theorem map_cq (f : Rat → Rat) (h0 : f 0 = 0) : ∀ (p : List Rat) (n : Nat), cq (p.map f) n = f (cq p n)
  | [], n => by rw [List.map_nil, cq_nil, h0]
  | c :: p, 0 => rfl
  | c :: p, n + 1 => by rw [List.map_cons, cq_succ, cq_succ, map_cq f h0 p n]
theorem scale_cq (c : Rat) (p : Uni) (n : Nat) : cq (AlOne.scale c p) n = c * cq p n := by
  unfold AlOne.scale
  rw [trim_cq, map_cq (fun x => c * x) (Rat.mul_zero c)]
/-- the product's numbers -/
def cv : List Rat → (Nat → Rat) → Nat → Rat
  | [], _, _ => 0
  | c :: _, g, 0 => c * g 0
  | c :: p, g, n + 1 => c * g (n + 1) + cv p g n
theorem mul_cq (q : Uni) : ∀ (p : Uni) (n : Nat), cq (AlOne.mul p q) n = cv p (cq q) n
  | [], n => rfl
  | c :: p, n => by
    have ih := mul_cq q p
    unfold AlOne.mul
    split
    · rename_i h
      rw [h] at ih
      rw [scale_cq]
      cases n with
      | zero => rfl
      | succ n =>
        show _ = c * cq q (n + 1) + cv p (cq q) n
        rw [← ih n, cq_nil, Rat.add_zero]
    · rw [add_cq, scale_cq]
      cases n with
      | zero => rw [cq_zero, Rat.add_zero]; rfl
      | succ n => rw [cq_succ, ih n]; rfl
theorem scale_tr (c : Rat) (p : Uni) : Tr (AlOne.scale c p) := trim_tr _
theorem mul_tr : ∀ (p q : Uni), Tr (AlOne.mul p q)
  | [], q => tr_nil
  | c :: p, q => by
    unfold AlOne.mul
    split
    · exact scale_tr _ _
    · exact add_tr _ _
theorem slopeFrom_cq : ∀ (p : List Rat) (k n : Nat), cq (AlOne.slopeFrom k p) n = ((k + n : Nat) : Rat) * cq p n
  | [], k, n => by
    show (0 : Rat) = _ * 0
    rw [Rat.mul_zero]
  | c :: p, k, 0 => by
    show ((k : Nat) : Rat) * c = ((k + 0 : Nat) : Rat) * c
    rfl
  | c :: p, k, n + 1 => by
    show cq (_ :: AlOne.slopeFrom (k + 1) p) (n + 1) = _
    rw [cq_succ, cq_succ, slopeFrom_cq p (k + 1) n, show k + 1 + n = k + (n + 1) by omega]
theorem tail_cq (p : List Rat) (n : Nat) : cq p.tail n = cq p (n + 1) := by
  cases p with
  | nil => rfl
  | cons c p => rw [List.tail_cons, cq_succ]
theorem slope_cq (p : Uni) (n : Nat) : cq (AlOne.slope p) n = ((n + 1 : Nat) : Rat) * cq p (n + 1) := by
  unfold AlOne.slope
  rw [trim_cq, slopeFrom_cq, tail_cq, show 1 + n = n + 1 by omega]
theorem slope_tr (p : Uni) : Tr (AlOne.slope p) := trim_tr _
/-- y a number of steps on, by its numbers -/
def sh (k : Rat) : List Rat → Nat → Rat
  | [], _ => 0
  | c :: l, 0 => c + k * sh k l 0
  | c :: l, n + 1 => k * sh k l (n + 1) + sh k l n
theorem cv_two (k : Rat) (g : Nat → Rat) : ∀ n, cv [k, 1] g n = match n with
    | 0 => k * g 0
    | n + 1 => k * g (n + 1) + g n
  | 0 => rfl
  | 1 => by
    show k * g 1 + 1 * g 0 = _
    rw [Rat.one_mul]
  | n + 2 => by
    show k * g (n + 2) + (1 * g (n + 1) + 0) = _
    rw [Rat.one_mul, Rat.add_zero]
theorem trim_two (k : Rat) : AlOne.trim [k, 1] = [k, 1] := trim_self _ (fun c h => by
  have : (1 : Rat) = c := by simpa using h
  rw [← this]; decide)
theorem compose_cq (k : Rat) : ∀ (p : Uni) (n : Nat), cq (AlOne.compose p (AlOne.trim [k, 1])) n = sh k p n
  | [], n => rfl
  | c :: l, n => by
    have ih := compose_cq k l
    unfold AlOne.compose
    rw [add_cq, trim_cq, mul_cq, trim_two] at *
    rw [cv_two]
    cases n with
    | zero =>
      show c + k * cq (AlOne.compose l [k, 1]) 0 = c + k * sh k l 0
      rw [ih 0]
    | succ n =>
      show cq [c] (n + 1) + (k * cq (AlOne.compose l [k, 1]) (n + 1) + cq (AlOne.compose l [k, 1]) n) = k * sh k l (n + 1) + sh k l n
      rw [ih, ih, cq_succ, cq_nil, Rat.zero_add]
theorem compose_tr : ∀ (p q : Uni), Tr (AlOne.compose p q)
  | [], q => tr_nil
  | c :: l, q => add_tr _ _
end Sl
set_option Elab.async false
set_option linter.all false
namespace Sl
open AlOne (Uni)
/-! ### steps -/
theorem sh_zero {k : Rat} : ∀ (a : List Rat) (n : Nat), (∀ n, cq a n = 0) → sh k a n = 0
  | [], _, _ => rfl
  | c :: l, 0, h => by
    have ih := sh_zero (k := k) l 0 fun n => by have := h (n + 1); rwa [cq_succ] at this
    show c + k * sh k l 0 = 0
    have h0 : c = 0 := h 0
    rw [ih, h0]; grind
  | c :: l, n + 1, h => by
    have ih := fun n => sh_zero (k := k) l n fun n => by have := h (n + 1); rwa [cq_succ] at this
    show k * sh k l (n + 1) + sh k l n = 0
    rw [ih, ih]; grind
theorem sh_congr {k : Rat} : ∀ (a b : List Rat) (n : Nat), (∀ n, cq a n = cq b n) → sh k a n = sh k b n
  | [], b, n, h => by rw [sh_zero b n fun n => (h n).symm]; rfl
  | c :: a, [], n, h => sh_zero (c :: a) n h
  | c :: a, d :: b, n, h => by
    have e : c = d := h 0
    have ih := fun n => sh_congr (k := k) a b n fun n => by have := h (n + 1); rwa [cq_succ, cq_succ] at this
    cases n with
    | zero => show c + k * sh k a 0 = d + k * sh k b 0; rw [ih, e]
    | succ n => show k * sh k a (n + 1) + sh k a n = k * sh k b (n + 1) + sh k b n; rw [ih, ih]
theorem sh_addRaw {k : Rat} : ∀ (a b : List Rat) (n : Nat), sh k (AlOne.addRaw a b) n = sh k a n + sh k b n
  | [], b, n => by
    have : AlOne.addRaw [] b = b := by cases b <;> rfl
    rw [this]; show _ = 0 + _; rw [Rat.zero_add]
  | c :: a, [], n => by show sh k (c :: a) n = _ + 0; rw [Rat.add_zero]
  | c :: a, d :: b, n => by
    have ih := sh_addRaw (k := k) a b
    show sh k ((c + d) :: AlOne.addRaw a b) n = _
    cases n with
    | zero =>
      show (c + d) + k * sh k (AlOne.addRaw a b) 0 = (c + k * sh k a 0) + (d + k * sh k b 0)
      rw [ih]; grind
    | succ n =>
      show k * sh k (AlOne.addRaw a b) (n + 1) + sh k (AlOne.addRaw a b) n = (k * sh k a (n + 1) + sh k a n) + (k * sh k b (n + 1) + sh k b n)
      rw [ih, ih]; grind
theorem sh_map {k m : Rat} : ∀ (a : List Rat) (n : Nat), sh k (a.map fun x => m * x) n = m * sh k a n
  | [], n => by show (0 : Rat) = m * 0; rw [Rat.mul_zero]
  | c :: a, n => by
    have ih := sh_map (k := k) (m := m) a
    cases n with
    | zero =>
      show m * c + k * sh k (a.map fun x => m * x) 0 = m * (c + k * sh k a 0)
      rw [ih]; grind
    | succ n =>
      show k * sh k (a.map fun x => m * x) (n + 1) + sh k (a.map fun x => m * x) n = m * (k * sh k a (n + 1) + sh k a n)
      rw [ih, ih]; grind
theorem sh_nil0 : ∀ (a : List Rat) (n : Nat), sh 0 a n = cq a n
  | [], n => rfl
  | c :: a, 0 => by show c + 0 * _ = c; grind
  | c :: a, n + 1 => by
    show 0 * _ + sh 0 a n = _
    rw [sh_nil0 a n, cq_succ]; grind
/-- one step further -/
theorem sh_more (m : Rat) : ∀ (p q : List Rat), (∀ n, cq q n = sh m p n) → ∀ n, sh 1 q n = sh (m + 1) p n
  | [], q, h, n => sh_zero q n h
  | c :: l, q, h, n => by
    have hr := fun n => compose_cq m l n
    have ih := sh_more m l (AlOne.compose l (AlOne.trim [m, 1])) hr
    generalize AlOne.compose l (AlOne.trim [m, 1]) = r at hr ih
    have e : ∀ n, cq q n = cq (AlOne.addRaw [c] (AlOne.addRaw (0 :: r) (r.map fun x => m * x))) n := fun n => by
      rw [h n, addRaw_cq, addRaw_cq, map_cq (fun x => m * x) (Rat.mul_zero m), hr]
      cases n with
      | zero => show c + m * sh m l 0 = c + (0 + m * sh m l 0); grind
      | succ n =>
        rw [cq_succ, cq_succ, cq_nil, hr]
        show m * sh m l (n + 1) + sh m l n = _
        grind
    rw [sh_congr q _ n e, sh_addRaw, sh_addRaw, sh_map, ih]
    cases n with
    | zero =>
      show (c + 1 * 0) + ((0 + 1 * sh 1 r 0) + m * sh (m + 1) l 0) = c + (m + 1) * sh (m + 1) l 0
      rw [ih]; grind
    | succ n =>
      show (1 * 0 + 0) + ((1 * sh 1 r (n + 1) + sh 1 r n) + m * sh (m + 1) l (n + 1)) = (m + 1) * sh (m + 1) l (n + 1) + sh (m + 1) l n
      rw [ih, ih]; grind
/-! ### polynomials with whole numbers -/
def co (l : List Int) (n : Nat) : Int := l.getD n 0
theorem co_nil (n : Nat) : co [] n = 0 := rfl
theorem co_zero (c : Int) (p : List Int) : co (c :: p) 0 = c := rfl
theorem co_succ (c : Int) (p : List Int) (n : Nat) : co (c :: p) (n + 1) = co p n := by simp [co]
def ra (l : List Int) : List Rat := l.map fun (i : Int) => (i : Rat)
theorem ra_cq : ∀ (l : List Int) (n : Nat), cq (ra l) n = (co l n : Rat)
  | [], n => rfl
  | c :: l, 0 => rfl
  | c :: l, n + 1 => by
    show cq ((c : Rat) :: ra l) (n + 1) = _
    rw [cq_succ, co_succ, ra_cq l n]
def trimI : List Int → List Int
  | [] => []
  | c :: l => match trimI l with
    | [] => if c = 0 then [] else [c]
    | t => c :: t
theorem trimI_co : ∀ (l : List Int) (n : Nat), co (trimI l) n = co l n
  | [], n => rfl
  | c :: l, n => by
    have ih := trimI_co l
    unfold trimI
    split
    · rename_i h
      rw [h] at ih
      split
      · rename_i h0
        cases n with
        | zero => rw [co_zero, h0]; rfl
        | succ n => rw [co_succ, ← ih n]; rfl
      · cases n with
        | zero => rfl
        | succ n => rw [co_succ, co_succ, ← ih n]
    · cases n with
      | zero => rfl
      | succ n => rw [co_succ, co_succ, ih n]
theorem trimI_zero : ∀ l : List Int, trimI (l ++ [0]) = trimI l
  | [] => rfl
  | c :: l => by
    rw [List.cons_append, trimI, trimI, trimI_zero l]
theorem trimI_last {c : Int} (h : c ≠ 0) : ∀ l : List Int, trimI (l ++ [c]) = l ++ [c]
  | [] => by simp [trimI, h]
  | d :: l => by
    rw [List.cons_append, trimI, trimI_last h l]
    split
    · rename_i e; simp at e
    · rfl
/-- no zero at the end -/
def TrI (p : List Int) : Prop := p.getLast? ≠ some 0
theorem trimI_tr : ∀ l : List Int, TrI (trimI l)
  | [] => by simp [TrI, trimI]
  | c :: l => by
    have ih := trimI_tr l
    unfold trimI
    split
    · split
      · simp [TrI]
      · rename_i h; simpa [TrI] using h
    · rename_i h
      unfold TrI at *
      cases e : trimI l with
      | nil => exact absurd e h
      | cons d r => rw [e] at ih; rw [List.getLast?_cons_cons]; exact ih
theorem trimI_self : ∀ l : List Int, TrI l → trimI l = l := by
  intro l h
  by_cases e : l = []
  · rw [e]; rfl
  · have hd := List.dropLast_concat_getLast e
    have hc : l.getLast e ≠ 0 := fun z => h (by rw [List.getLast?_eq_getLast e, z])
    rw [← hd]
    exact trimI_last hc _
theorem trimI_len (l : List Int) : (trimI l).length ≤ l.length := by
  induction l with
  | nil => simp [trimI]
  | cons c l ih =>
    unfold trimI
    split
    · split <;> simp
    · simp; omega
theorem trimI_mem : ∀ (l : List Int) (x : Int), x ∈ trimI l → x ∈ l
  | [], x, h => by simp [trimI] at h
  | c :: l, x, h => by
    unfold trimI at h
    split at h
    · split at h
      · cases h
      · rw [List.mem_singleton] at h; rw [h]; exact List.mem_cons_self ..
    · rcases List.mem_cons.mp h with h | h
      · rw [h]; exact List.mem_cons_self ..
      · exact List.mem_cons_of_mem _ (trimI_mem l x h)
def plusI (a b : List Int) : List Int := trimI ((List.range (max a.length b.length)).map fun i => co a i + co b i)
theorem co_ge {l : List Int} {n : Nat} (h : l.length ≤ n) : co l n = 0 := by
  unfold co
  rw [List.getD_eq_getElem?_getD, List.getElem?_eq_none h]; rfl
theorem co_range (f : Nat → Int) (m n : Nat) : co ((List.range m).map f) n = if n < m then f n else 0 := by
  unfold co
  rw [List.getD_eq_getElem?_getD, List.getElem?_map]
  by_cases h : n < m
  · rw [List.getElem?_range h, if_pos h]; rfl
  · rw [List.getElem?_eq_none (by rw [List.length_range]; omega), if_neg h]; rfl
theorem plusI_co (a b : List Int) (n : Nat) : co (plusI a b) n = co a n + co b n := by
  unfold plusI
  rw [trimI_co, co_range]
  split
  · rfl
  · rw [co_ge (l := a) (by omega), co_ge (l := b) (by omega)]; rfl
theorem plusI_tr (a b : List Int) : TrI (plusI a b) := trimI_tr _
def cvI : List Int → (Nat → Int) → Nat → Int
  | [], _, _ => 0
  | c :: _, g, 0 => c * g 0
  | c :: p, g, n + 1 => c * g (n + 1) + cvI p g n
def timesI (a b : List Int) : List Int := if a = [] ∨ b = [] then [] else (List.range (a.length + b.length - 1)).map (cvI a (co b))
theorem cvI_zero (g : Nat → Int) (hg : ∀ n, g n = 0) : ∀ (a : List Int) (n : Nat), cvI a g n = 0
  | [], _ => rfl
  | c :: a, 0 => by show c * g 0 = 0; rw [hg, Int.mul_zero]
  | c :: a, n + 1 => by show c * g (n + 1) + cvI a g n = 0; rw [hg, cvI_zero g hg a n, Int.mul_zero, Int.add_zero]
theorem cvI_high (b : List Int) : ∀ (a : List Int) (n : Nat), a.length + b.length ≤ n + 1 → cvI a (co b) n = 0
  | [], _, _ => rfl
  | c :: a, 0, h => by
    show c * co b 0 = 0
    rw [co_ge (l := b) (by rw [List.length_cons] at h; omega), Int.mul_zero]
  | c :: a, n + 1, h => by
    rw [List.length_cons] at h
    show c * co b (n + 1) + cvI a (co b) n = 0
    rw [cvI_high b a n (by omega), co_ge (l := b) (by omega), Int.mul_zero, Int.add_zero]
theorem timesI_co (a b : List Int) (n : Nat) : co (timesI a b) n = cvI a (co b) n := by
  unfold timesI
  split
  · rename_i h
    rcases h with h | h
    · rw [h]; rfl
    · rw [h, cvI_zero (co []) (fun n => rfl)]; rfl
  · rw [co_range]
    split
    · rfl
    · rw [cvI_high b a n (by omega)]
theorem cvI_cast (g : Nat → Int) : ∀ (a : List Int) (n : Nat), (cvI a g n : Rat) = cv (ra a) (fun n => (g n : Rat)) n
  | [], n => rfl
  | c :: a, 0 => by
    show ((c * g 0 : Int) : Rat) = (c : Rat) * (g 0 : Rat)
    rw [Rat.intCast_mul]
  | c :: a, n + 1 => by
    show ((c * g (n + 1) + cvI a g n : Int) : Rat) = (c : Rat) * (g (n + 1) : Rat) + cv (ra a) _ n
    rw [Rat.intCast_add, Rat.intCast_mul, cvI_cast g a n]
def slopeI (p : List Int) : List Int := (List.range (p.length - 1)).map fun (i : Nat) => ((i : Int) + 1) * co p (i + 1)
theorem slopeI_co (p : List Int) (n : Nat) : co (slopeI p) n = ((n : Int) + 1) * co p (n + 1) := by
  unfold slopeI
  rw [co_range]
  split
  · rfl
  · rw [co_ge (l := p) (by omega), Int.mul_zero]
def stepI (p : List Int) : List Int := p.foldr (fun c r => plusI (timesI r [1, 1]) [c]) []
theorem cvI_11 (a : List Int) : ∀ n, cvI a (co [1, 1]) n = match n with
    | 0 => co a 0
    | n + 1 => co a (n + 1) + co a n := by
  induction a with
  | nil => intro n; cases n <;> rfl
  | cons c a ih =>
    intro n
    cases n with
    | zero => show c * 1 = c; rw [Int.mul_one]
    | succ n =>
      show c * co [1, 1] (n + 1) + cvI a (co [1, 1]) n = co (c :: a) (n + 1) + co (c :: a) n
      rw [ih n, co_succ]
      cases n with
      | zero =>
        show c * 1 + co a 0 = co a 0 + c
        omega
      | succ n =>
        show c * co [1, 1] (n + 2) + (co a (n + 1) + co a n) = co a (n + 1) + co (c :: a) (n + 1)
        rw [show co [1, 1] (n + 2) = 0 from co_ge (by simp), co_succ c a n, Int.mul_zero]
        omega
theorem stepI_co : ∀ (p : List Int) (n : Nat), (co (stepI p) n : Rat) = sh 1 (ra p) n
  | [], n => rfl
  | c :: l, n => by
    have ih := stepI_co l
    show (co (plusI (timesI (stepI l) [1, 1]) [c]) n : Rat) = sh 1 ((c : Rat) :: ra l) n
    rw [plusI_co, timesI_co, cvI_11]
    cases n with
    | zero =>
      show ((co (stepI l) 0 + c : Int) : Rat) = (c : Rat) + 1 * sh 1 (ra l) 0
      rw [Rat.intCast_add, ih]; grind
    | succ n =>
      show ((co (stepI l) (n + 1) + co (stepI l) n + co [c] (n + 1) : Int) : Rat) = 1 * sh 1 (ra l) (n + 1) + sh 1 (ra l) n
      rw [co_succ, co_nil, Rat.intCast_add, Rat.intCast_add, ih, ih]
      show _ + _ + ((0 : Int) : Rat) = _
      rw [show ((0 : Int) : Rat) = 0 from rfl]; grind
def leftGo (kind : Nat) : List (List Int) → List Int → List Int → List Int
  | [], tot, _ => tot
  | p :: ps, tot, mv => leftGo kind ps (plusI tot (timesI p mv)) (if kind = 0 then slopeI mv else stepI mv)
def leftI (kind : Nat) (ps : List (List Int)) (y : List Int) : List Int := leftGo kind ps [] y
end Sl
set_option Elab.async false
set_option linter.all false
namespace Sl
open AlOne (Uni)
/-! ### the left side -/
/-- whole numbers that are s times those of p -/
def Rel (s : Rat) (a : List Int) (p : Uni) : Prop := ∀ n, (co a n : Rat) = s * cq p n
inductive RelAll (s : Rat) : List (List Int) → List Uni → Prop
  | nil : RelAll s [] []
  | cons {a : List Int} {p : Uni} {as : List (List Int)} {ps : List Uni} : Rel s a p → RelAll s as ps → RelAll s (a :: as) (p :: ps)
theorem cv_scale (s t : Rat) (g h : Nat → Rat) (hg : ∀ n, h n = t * g n) : ∀ (a p : List Rat), (∀ n, cq a n = s * cq p n) → ∀ n, cv a h n = s * t * cv p g n
  | [], p, e, n => by
    show (0 : Rat) = _
    have z : ∀ (p : List Rat), (∀ n, 0 = s * cq p n) → ∀ n, 0 = s * t * cv p g n := by
      intro p
      induction p with
      | nil => intro _ n; show (0 : Rat) = s * t * 0; grind
      | cons c p ih =>
        intro e n
        have h0 : 0 = s * c := e 0
        have ih' := ih fun n => by have := e (n + 1); rwa [cq_succ] at this
        cases n with
        | zero => show 0 = s * t * (c * g 0); grind
        | succ n => show 0 = s * t * (c * g (n + 1) + cv p g n); have := ih' n; grind
    exact z p (fun n => by have := e n; rwa [cq_nil] at this) n
  | c :: a, [], e, n => by
    show cv (c :: a) h n = s * t * 0
    have z : ∀ (a : List Rat), (∀ n, cq a n = s * 0) → ∀ n, cv a h n = 0 := by
      intro a
      induction a with
      | nil => intro _ n; rfl
      | cons c p ih =>
        intro e n
        have h0 : c = s * 0 := e 0
        have ih' := ih fun n => by have := e (n + 1); rwa [cq_succ] at this
        cases n with
        | zero => show c * h 0 = 0; grind
        | succ n => show c * h (n + 1) + cv p h n = 0; have := ih' n; grind
    rw [z (c :: a) (fun n => by have := e n; rwa [cq_nil] at this) n]; grind
  | c :: a, d :: p, e, n => by
    have h0 : c = s * d := e 0
    have ih := cv_scale s t g h hg a p fun n => by have := e (n + 1); rwa [cq_succ, cq_succ] at this
    cases n with
    | zero => show c * h 0 = s * t * (d * g 0); rw [hg, h0]; grind
    | succ n => show c * h (n + 1) + cv a h n = s * t * (d * g (n + 1) + cv p g n); rw [hg, ih n, h0]; grind
theorem times_rel {s t : Rat} {a b : List Int} {p q : Uni} (ha : Rel s a p) (hb : Rel t b q) : Rel (s * t) (timesI a b) (AlOne.mul p q) := fun n => by
  rw [timesI_co, cvI_cast, mul_cq]
  exact cv_scale s t (cq q) _ hb (ra a) p (fun n => by rw [ra_cq]; exact ha n) n
theorem plus_rel {s : Rat} {a b : List Int} {p q : Uni} (ha : Rel s a p) (hb : Rel s b q) : Rel s (plusI a b) (AlOne.add p q) := fun n => by
  rw [plusI_co, add_cq, Rat.intCast_add, ha n, hb n]; grind
theorem slope_rel {s : Rat} {a : List Int} {p : Uni} (ha : Rel s a p) : Rel s (slopeI a) (AlOne.slope p) := fun n => by
  rw [slopeI_co, slope_cq, Rat.intCast_mul, ha (n + 1), Rat.intCast_add]
  rw [Rat.intCast_natCast, show ((1 : Int) : Rat) = 1 from rfl]
  grind
theorem slopes_succ (n : Nat) : ∀ y : Uni, Al10.slopes (n + 1) y = AlOne.slope (Al10.slopes n y) := by
  induction n with
  | zero => intro y; rfl
  | succ n ih => intro y; exact ih (AlOne.slope y)
theorem step_rel {t : Rat} {a : List Int} {y : Uni} {j : Nat} (ha : ∀ n, (co a n : Rat) = t * sh (j : Rat) y n) : ∀ n, (co (stepI a) n : Rat) = t * sh ((j + 1 : Nat) : Rat) y n := fun n => by
  rw [stepI_co]
  have hc := fun n => compose_cq (j : Rat) y n
  have e : ∀ n, cq (ra a) n = cq ((AlOne.compose y (AlOne.trim [(j : Rat), 1])).map fun x => t * x) n := fun n => by
    rw [ra_cq, map_cq (fun x => t * x) (Rat.mul_zero t), hc, ha]
  rw [sh_congr _ _ n e, sh_map, sh_more (j : Rat) y _ hc n]
  have : ((j : Nat) : Rat) + 1 = ((j + 1 : Nat) : Rat) := by grind
  rw [this]
theorem ahead_rel {t : Rat} {a : List Int} {y : Uni} {j : Nat} : (∀ n, (co a n : Rat) = t * sh (j : Rat) y n) ↔ Rel t a (Al10.ahead j y) := by
  unfold Rel Al10.ahead
  constructor
  · intro h n; rw [compose_cq]; exact h n
  · intro h n; have := h n; rwa [compose_cq] at this
/-- behind j parts -/
theorem term_rel {kind : Nat} {t : Rat} {mv : List Int} {y : Uni} {j : Nat} (h : Rel t mv (Al10.term kind j y)) : Rel t (if kind = 0 then slopeI mv else stepI mv) (Al10.term kind (j + 1) y) := by
  unfold Al10.term at *
  by_cases k : kind = 0
  · rw [if_pos k] at h ⊢
    rw [if_pos k, slopes_succ]
    exact slope_rel h
  · rw [if_neg k] at h ⊢
    rw [if_neg k]
    exact ahead_rel.mp (step_rel (ahead_rel.mpr h))
theorem term_zero {kind : Nat} {t : Rat} {a : List Int} {y : Uni} (h : Rel t a y) : Rel t a (Al10.term kind 0 y) := by
  unfold Al10.term
  split
  · exact h
  · refine ahead_rel.mp fun n => ?_
    show _ = t * sh ((0 : Nat) : Rat) y n
    rw [show ((0 : Nat) : Rat) = 0 from rfl, sh_nil0]
    exact h n
def leftFrom (kind : Nat) (y : Uni) : Nat → List Uni → Uni → Uni
  | _, [], s => s
  | j, p :: ps, s => leftFrom kind y (j + 1) ps (AlOne.add s (AlOne.mul p (Al10.term kind j y)))
theorem left_from (kind : Nat) (y : Uni) : ∀ (ps : List Uni) (j : Nat) (s : Uni), ((ps.zip (List.range' j ps.length)).map fun (x : Uni × Nat) => AlOne.mul x.1 (Al10.term kind x.2 y)).foldl AlOne.add s = leftFrom kind y j ps s
  | [], j, s => rfl
  | p :: ps, j, s => by
    rw [List.length_cons, List.range'_succ, List.zip_cons_cons, List.map_cons, List.foldl_cons]
    exact left_from kind y ps (j + 1) _
theorem left_eq (kind : Nat) (ps : List Uni) (y : Uni) : Al10.left kind ps y = leftFrom kind y 0 ps [] := by
  unfold Al10.left
  rw [List.range_eq_range']
  exact left_from kind y ps 0 []
theorem leftGo_rel {kind : Nat} {s t : Rat} {y : Uni} {as : List (List Int)} {ps : List Uni} (r : RelAll s as ps) : ∀ {j : Nat} {tot mv : List Int} {T : Uni}, Rel (s * t) tot T → Rel t mv (Al10.term kind j y) → Rel (s * t) (leftGo kind as tot mv) (leftFrom kind y j ps T) := by
  induction r with
  | nil => intro j tot mv T h _; exact h
  | cons ha hr ih => intro j tot mv T h hm; exact ih (plus_rel h (times_rel ha hm)) (term_rel hm)
theorem left_rel {kind : Nat} {s t : Rat} {as : List (List Int)} {ps : List Uni} {a : List Int} {y : Uni} (h : RelAll s as ps) (hy : Rel t a y) : Rel (s * t) (leftI kind as a) (Al10.left kind ps y) := by
  rw [left_eq]
  refine leftGo_rel h (fun n => ?_) (term_zero hy)
  show ((0 : Int) : Rat) = s * t * 0
  rw [show ((0 : Int) : Rat) = 0 from rfl]; grind
theorem leftFrom_tr (kind : Nat) (y : Uni) : ∀ (ps : List Uni) (j : Nat) (s : Uni), Tr s → Tr (leftFrom kind y j ps s)
  | [], _, _, h => h
  | p :: ps, j, s, _ => leftFrom_tr kind y ps (j + 1) _ (add_tr _ _)
theorem left_tr (kind : Nat) (ps : List Uni) (y : Uni) : Tr (Al10.left kind ps y) := by rw [left_eq]; exact leftFrom_tr kind y ps 0 [] tr_nil
end Sl
set_option Elab.async false
set_option linter.all false
namespace Sl
open AlOne (Uni)
open AlBase (Poly Mono)
/-! ### a polynomial's text from its numbers -/
theorem plusX_nil (n : Nat) : ∀ l : PX, plusX n 0 l = l
  | [] => by unfold plusX; rw [if_pos rfl]
  | (m, d) :: l => by unfold plusX; rw [if_pos rfl]
theorem plusX_high {n : Nat} {c : Rat} (hc : c ≠ 0) {l : PX} (h : ∀ y ∈ l, y.1 < n) : plusX n c l = (n, c) :: l := by
  cases l with
  | nil => unfold plusX; rw [if_neg hc]
  | cons x l =>
    have := h x (List.mem_cons_self ..)
    unfold plusX
    rw [if_neg hc, if_neg (by omega), if_pos this]
def asc (j : Nat) : List Rat → PX
  | [] => []
  | c :: p => (j, c) :: asc (j + 1) p
theorem addX_asc : ∀ (p : List Rat) (j : Nat) (s : PX), (∀ y ∈ s, y.1 < j) → addX s (asc j p) = ((asc j p).filter fun x => decide (x.2 ≠ 0)).reverse ++ s
  | [], j, s, _ => rfl
  | c :: p, j, s, h => by
    show addX (plusX j c s) (asc (j + 1) p) = _
    by_cases hc : c = 0
    · rw [hc, plusX_nil, addX_asc p (j + 1) s fun y hy => by have := h y hy; omega]
      show _ = (List.filter _ ((j, (0 : Rat)) :: asc (j + 1) p)).reverse ++ s
      rw [List.filter_cons, if_neg (by simp)]
    · rw [plusX_high hc h, addX_asc p (j + 1) _ fun y hy => by
        rcases List.mem_cons.mp hy with hy | hy
        · rw [hy]; show j < j + 1; omega
        · have := h y hy; omega]
      show _ = (List.filter _ ((j, c) :: asc (j + 1) p)).reverse ++ s
      rw [List.filter_cons, if_pos (by simpa using hc), List.reverse_cons, List.append_assoc]
      rfl
theorem asc_zip : ∀ (p : List Rat) (j : Nat), ((p.zip (List.range' j p.length)).map fun (x : Rat × Nat) => (if x.2 = 0 then [] else [(AlOne.X, x.2)], x.1)) = toP (asc j p)
  | [], j => rfl
  | c :: p, j => by
    rw [List.length_cons, List.range'_succ, List.zip_cons_cons, List.map_cons, asc_zip p (j + 1)]
    rfl
/-- highest power first, without zeros -/
def desc (p : List Rat) : PX := ((asc 0 p).filter fun x => decide (x.2 ≠ 0)).reverse
theorem toPoly_desc (p : Uni) : AlOne.toPoly p = toP (desc p) := by
  unfold AlOne.toPoly AlBase.gather
  rw [List.range_eq_range', asc_zip, show ([] : Poly) = toP [] from rfl, add_toP, addX_asc p 0 [] (fun y hy => by cases hy), List.append_nil]
  rfl
theorem text_desc (p : Uni) : AlOne.text p = write ((desc p).map tm) := by
  unfold AlOne.text
  rw [toPoly_desc, text_write]
/-! ### by a whole numerator each and one denominator -/
def lowG (n m : Int) : Int := if m < 0 then -(Nat.gcd n.natAbs m.natAbs : Nat) else (Nat.gcd n.natAbs m.natAbs : Nat)
def lowT (i : Nat) (n m : Int) : Tm := ⟨i, n.fdiv (lowG n m), (m.fdiv (lowG n m)).toNat⟩
theorem lowG_dvd {n m : Int} : lowG n m ∣ n ∧ lowG n m ∣ m := by
  have h1 : ((Nat.gcd n.natAbs m.natAbs : Nat) : Int) ∣ n := Int.ofNat_dvd_left.mpr (Nat.gcd_dvd_left _ _)
  have h2 : ((Nat.gcd n.natAbs m.natAbs : Nat) : Int) ∣ m := Int.ofNat_dvd_left.mpr (Nat.gcd_dvd_right _ _)
  unfold lowG
  split
  · exact ⟨Int.neg_dvd.mpr h1, Int.neg_dvd.mpr h2⟩
  · exact ⟨h1, h2⟩
theorem lowG_abs (n m : Int) : (lowG n m).natAbs = Nat.gcd n.natAbs m.natAbs := by unfold lowG; split <;> omega
theorem low_parts {n m : Int} (h : m ≠ 0) : ∃ a : Int, ∃ b : Nat, n = lowG n m * a ∧ m = lowG n m * b ∧ 0 < b ∧ Nat.gcd a.natAbs b = 1 ∧ lowG n m ≠ 0 := by
  have hg : 0 < Nat.gcd n.natAbs m.natAbs := Nat.gcd_pos_of_pos_right _ (by omega)
  have hne : lowG n m ≠ 0 := fun z => by have := lowG_abs n m; rw [z] at this; simp at this; omega
  obtain ⟨⟨a, ea⟩, ⟨b, eb⟩⟩ := lowG_dvd (n := n) (m := m)
  have hb : 0 < b := by
    rcases Int.lt_trichotomy m 0 with h1 | h1 | h1
    · have : lowG n m < 0 := by unfold lowG; rw [if_pos h1]; omega
      rcases Int.lt_trichotomy b 0 with k | k | k
      · have := Int.mul_pos_of_neg_of_neg this k; omega
      · rw [k, Int.mul_zero] at eb; omega
      · exact k
    · omega
    · have : 0 < lowG n m := by unfold lowG; rw [if_neg (by omega)]; omega
      rcases Int.lt_trichotomy b 0 with k | k | k
      · have := Int.mul_neg_of_pos_of_neg this k; omega
      · rw [k, Int.mul_zero] at eb; omega
      · exact k
  refine ⟨a, b.toNat, ea, by rw [Int.toNat_of_nonneg (by omega)]; exact eb, by omega, ?_, hne⟩
  have e1 : n.natAbs = Nat.gcd n.natAbs m.natAbs * a.natAbs := by
    have := congrArg Int.natAbs ea
    rwa [Int.natAbs_mul, lowG_abs] at this
  have e2 : m.natAbs = Nat.gcd n.natAbs m.natAbs * b.toNat := by
    have := congrArg Int.natAbs eb
    rw [Int.natAbs_mul, lowG_abs] at this
    rw [show b.toNat = b.natAbs by omega]
    exact this
  have e3 : Nat.gcd n.natAbs m.natAbs * Nat.gcd a.natAbs b.toNat = Nat.gcd n.natAbs m.natAbs * 1 := by
    rw [← Nat.gcd_mul_left, ← e1, ← e2, Nat.mul_one]
  exact Nat.eq_of_mul_eq_mul_left hg e3
theorem low_val {n m : Int} (h : m ≠ 0) : ∃ a : Int, ∃ b : Nat, n.fdiv (lowG n m) = a ∧ m.fdiv (lowG n m) = b ∧ 0 < b ∧ Nat.gcd a.natAbs b = 1 ∧ (n : Rat) / (m : Rat) = (a : Rat) / (b : Rat) := by
  obtain ⟨a, b, ea, eb, hb, hg, hne⟩ := low_parts (n := n) h
  refine ⟨a, b, ?_, ?_, hb, hg, ?_⟩
  · generalize lowG n m = g at *
    rw [ea, Int.mul_fdiv_cancel_left a hne]
  · generalize lowG n m = g at *
    rw [eb, Int.mul_fdiv_cancel_left _ hne]
  · generalize lowG n m = g at *
    rw [ea, eb, Rat.intCast_mul, Rat.intCast_mul, Rat.intCast_natCast]
    have hg0 : (g : Rat) ≠ 0 := fun z => hne (Rat.intCast_eq_zero_iff.mp z)
    have hb0 : (b : Rat) ≠ 0 := fun z => by
      have := Rat.natCast_eq_zero_iff.mp z
      omega
    grind
theorem tm_low {i : Nat} {n m : Int} {c : Rat} (hm : m ≠ 0) (h : (n : Rat) = (m : Rat) * c) : tm (i, c) = lowT i n m := by
  obtain ⟨a, b, ea, eb, hb, hg, e⟩ := low_val (n := n) hm
  have hm0 : (m : Rat) ≠ 0 := fun z => hm (Rat.intCast_eq_zero_iff.mp z)
  have ec : c = (a : Rat) / (b : Rat) := by
    rw [← e, h]; grind
  have hr := rat_of hb hg
  unfold tm lowT
  rw [ea, eb]
  show Tm.mk i c.num c.den = _
  rw [ec, hr.1, hr.2]
  rfl
theorem lowT_good {i : Nat} {n m : Int} (hm : m ≠ 0) (hn : n ≠ 0) : Good (lowT i n m) := by
  have hm0 : (m : Rat) ≠ 0 := fun z => hm (Rat.intCast_eq_zero_iff.mp z)
  have hn0 : (n : Rat) ≠ 0 := fun z => hn (Rat.intCast_eq_zero_iff.mp z)
  have e : (n : Rat) = (m : Rat) * ((n : Rat) / (m : Rat)) := by grind
  rw [← tm_low (i := i) hm e]
  exact tm_good (fun z => by
    have z' : (n : Rat) / (m : Rat) = 0 := z
    rw [z', Rat.mul_zero] at e
    exact hn0 e)
/-- as the program tells it -/
def termsOver (a : List Int) (m : Int) : List Tm := (((List.range a.length).filter fun i => decide (co a i ≠ 0)).reverse).map fun i => lowT i (co a i) m
theorem asc_filter : ∀ (p : List Rat) (j : Nat), (asc j p).filter (fun x => decide (x.2 ≠ 0)) = ((List.range' j p.length).filter fun i => decide (cq p (i - j) ≠ 0)).map fun i => (i, cq p (i - j))
  | [], j => rfl
  | c :: p, j => by
    have ih := asc_filter p (j + 1)
    have e1 : (List.range' (j + 1) p.length).filter (fun i => decide (cq (c :: p) (i - j) ≠ 0)) = (List.range' (j + 1) p.length).filter fun i => decide (cq p (i - (j + 1)) ≠ 0) := by
      refine List.filter_congr fun i hi => ?_
      have := (List.mem_range'_1.mp hi).1
      rw [show i - j = (i - (j + 1)) + 1 by omega, cq_succ]
    have e2 : ((List.range' (j + 1) p.length).filter fun i => decide (cq p (i - (j + 1)) ≠ 0)).map (fun i => (i, cq (c :: p) (i - j))) = ((List.range' (j + 1) p.length).filter fun i => decide (cq p (i - (j + 1)) ≠ 0)).map fun i => (i, cq p (i - (j + 1))) := by
      refine List.map_congr_left fun i hi => ?_
      have := (List.mem_range'_1.mp (List.mem_filter.mp hi).1).1
      rw [show i - j = (i - (j + 1)) + 1 by omega, cq_succ]
    show List.filter _ ((j, c) :: asc (j + 1) p) = _
    rw [List.length_cons, List.range'_succ, List.filter_cons, List.filter_cons, ih, e1]
    have e0 : cq (c :: p) (j - j) = c := by rw [Nat.sub_self]; rfl
    rw [e0]
    by_cases hc : c = 0
    · rw [if_neg (by simpa using hc), if_neg (by simpa using hc), e2]
    · rw [if_pos (by simpa using hc), if_pos (by simpa using hc), List.map_cons, e2, e0]
theorem range_filter {f : Nat → Bool} {m n : Nat} (h : m ≤ n) (hf : ∀ i, m ≤ i → f i = false) : (List.range n).filter f = (List.range m).filter f := by
  obtain ⟨k, rfl⟩ : ∃ k, n = m + k := ⟨n - m, by omega⟩
  rw [List.range_add, List.filter_append]
  have : ((List.range k).map (m + ·)).filter f = [] := by
    rw [List.filter_eq_nil_iff]
    intro x hx
    obtain ⟨i, _, rfl⟩ := List.mem_map.mp hx
    rw [hf _ (by omega)]; decide
  rw [this, List.append_nil]
theorem cq_ge {p : List Rat} {n : Nat} (h : p.length ≤ n) : cq p n = 0 := by
  unfold cq
  rw [List.getD_eq_getElem?_getD, List.getElem?_eq_none h]; rfl
/-- **The text of a polynomial whose numbers are those of a, over m.** -/
theorem text_over {a : List Int} {m : Int} {p : Uni} (hm : m ≠ 0) (h : Rel (m : Rat) a p) : AlOne.text p = write (termsOver a m) := by
  rw [text_desc]
  congr 1
  have hm0 : (m : Rat) ≠ 0 := fun z => hm (Rat.intCast_eq_zero_iff.mp z)
  have hz : ∀ i, cq p i ≠ 0 ↔ co a i ≠ 0 := fun i => by
    have e := h i
    constructor
    · intro k z
      rw [z] at e
      have e' : (0 : Rat) = (m : Rat) * cq p i := e
      rcases Rat.mul_eq_zero.mp e'.symm with q | q
      · exact hm0 q
      · exact k q
    · intro k z
      rw [z, Rat.mul_zero] at e
      exact k (Rat.intCast_eq_zero_iff.mp e)
  have ef : (List.range p.length).filter (fun i => decide (cq p i ≠ 0)) = (List.range a.length).filter fun i => decide (co a i ≠ 0) := by
    have e1 : (fun i => decide (cq p i ≠ 0)) = fun i => decide (co a i ≠ 0) := by
      funext i
      by_cases q : cq p i ≠ 0
      · rw [decide_eq_true q, decide_eq_true ((hz i).mp q)]
      · rw [decide_eq_false q, decide_eq_false (fun z => q ((hz i).mpr z))]
    rw [e1]
    rcases Nat.le_total p.length a.length with hl | hl
    · rw [range_filter hl]
      intro i hi
      exact decide_eq_false (fun z => (hz i).mpr z (cq_ge hi))
    · rw [range_filter hl]
      intro i hi
      exact decide_eq_false (fun z => z (co_ge hi))
  unfold desc termsOver
  rw [asc_filter, ← List.range_eq_range', List.map_reverse, List.map_map, List.map_reverse]
  have e2 : (List.range p.length).filter (fun i => decide (cq p (i - 0) ≠ 0)) = (List.range p.length).filter fun i => decide (cq p i ≠ 0) := rfl
  rw [e2, ef]
  congr 1
  refine List.map_congr_left fun i _ => ?_
  exact tm_low hm (h i)
end Sl
set_option Elab.async false
set_option linter.all false
namespace Sl
open AlOne (Uni)
/-! ### what is read, as numbers -/
def bigT (t : Tm) : Bool := decide (4 < t.p) || (decide (9999 < t.n.natAbs) || decide (9999 < t.d))
def tooBig (l : List Tm) : Bool := l.any bigT
theorem cf_mem : ∀ (l : PX) (n : Nat), cf l n = 0 ∨ (n, cf l n) ∈ l
  | [], n => Or.inl rfl
  | (m, c) :: l, n => by
    unfold cf
    split
    · rename_i h; rw [← h]; exact Or.inr (List.mem_cons_self ..)
    · rcases cf_mem l n with h | h
      · exact Or.inl h
      · exact Or.inr (List.mem_cons_of_mem _ h)
theorem cf_at : ∀ (l : PX), XC l → ∀ x ∈ l, cf l x.1 = x.2
  | [], _, x, h => by cases h
  | (m, c) :: l, k, x, h => by
    unfold cf
    rcases List.mem_cons.mp h with h | h
    · rw [h, if_pos rfl]
    · have := k.head x h
      rw [if_neg (by simp only at this; omega)]
      exact cf_at l k.tail x h
theorem cf_high {l : PX} (h : XC l) {n : Nat} (hn : top l < n) : cf l n = 0 := by
  refine cf_low l fun y hy => ?_
  cases l with
  | nil => cases hy
  | cons x l =>
    rcases List.mem_cons.mp hy with hy | hy
    · rw [hy]; have : x.1 < n := hn; omega
    · have := h.head y hy
      have h2 : x.1 < n := hn
      omega
theorem cq_range (f : Nat → Rat) (m n : Nat) : cq ((List.range m).map f) n = if n < m then f n else 0 := by
  unfold cq
  rw [List.getD_eq_getElem?_getD, List.getElem?_map]
  by_cases h : n < m
  · rw [List.getElem?_range h, if_pos h]; rfl
  · rw [List.getElem?_eq_none (by rw [List.length_range]; omega), if_neg h]; rfl
theorem uniOf_cq {l : PX} (h : XC l) (ht : ¬ 100 < top l) (n : Nat) : cq (uniOf l) n = cf l n := by
  unfold uniOf
  rw [if_neg ht, trim_cq, cq_range]
  split
  · rfl
  · exact (cf_high h (by omega)).symm
theorem uniOf_tr {l : PX} (ht : ¬ 100 < top l) : Tr (uniOf l) := by
  unfold uniOf
  rw [if_neg ht]
  exact trim_tr _
theorem numberOk_iff (c : Rat) : Al10.numberOk c = true ↔ c.num.natAbs ≤ 9999 ∧ c.den ≤ 9999 := by
  unfold Al10.numberOk
  rw [Bool.and_eq_true, decide_eq_true_iff, decide_eq_true_iff]
  omega
/-- the polynomial's list has no more than one number for each power up to the highest -/
theorem uniOf_form {x : Nat × Rat} {l : PX} (h : XC (x :: l)) (ht : ¬ 100 < x.1) : uniOf (x :: l) = (List.range (x.1 + 1)).map (cf (x :: l)) := by
  unfold uniOf
  rw [if_neg (show ¬ 100 < top (x :: l) from ht)]
  refine trim_self _ fun c hc => ?_
  have e : (List.range (top (x :: l) + 1)).map (cf (x :: l)) = (List.range x.1).map (cf (x :: l)) ++ [cf (x :: l) x.1] := by
    show (List.range (x.1 + 1)).map _ = _
    rw [List.range_succ, List.map_append]; rfl
  rw [e, List.getLast?_concat] at hc
  have e2 : cf (x :: l) x.1 = x.2 := cf_at _ h x (List.mem_cons_self ..)
  rw [e2] at hc
  cases hc
  exact h.nz x (List.mem_cons_self ..)
theorem fits_spec {ts : List Tm} (h : Valid ts) : Al10.fits (uniOf (ts.map xr)) = !tooBig ts := by
  cases ts with
  | nil => decide +kernel
  | cons t r =>
    have hx := valid_xc h
    rw [List.map_cons] at hx ⊢
    by_cases ht : 100 < t.p
    · have e1 : uniOf (xr t :: r.map xr) = AlOne.xpow 100 := by
        unfold uniOf
        rw [if_pos (show 100 < top (xr t :: r.map xr) from ht)]
      have e2 : tooBig (t :: r) = true := by
        unfold tooBig bigT
        rw [List.any_cons, decide_eq_true (by omega)]; rfl
      rw [e1, e2]
      decide +kernel
    · rw [uniOf_form hx ht]
      have hlow : ∀ y ∈ (t :: r), y.p ≤ t.p := fun y hy => by
        rcases List.mem_cons.mp hy with hy | hy
        · rw [hy]; omega
        · have := (List.pairwise_cons.mp h.fall).1 y hy; omega
      unfold Al10.fits
      rw [List.length_map, List.length_range]
      by_cases h4 : t.p ≤ 4
      · rw [decide_eq_true (by show t.p + 1 ≤ 5; omega), Bool.true_and]
        cases hb : tooBig (t :: r) with
        | false =>
          show _ = true
          rw [List.all_eq_true]
          intro c hc
          obtain ⟨i, _, rfl⟩ := List.mem_map.mp hc
          rcases cf_mem (xr t :: r.map xr) i with z | z
          · rw [z]; decide +kernel
          · rw [← List.map_cons] at z
            obtain ⟨y, hy, ey⟩ := List.mem_map.mp z
            have hg := h.good y hy
            have ev : cf (xr t :: r.map xr) i = (y.n : Rat) / (y.d : Rat) := by
              rw [← List.map_cons]; exact (congrArg Prod.snd ey).symm
            have hr := rat_of hg.d0 hg.co
            rw [numberOk_iff, ev, hr.1, hr.2]
            have := List.any_eq_false.mp hb y hy
            unfold bigT at this
            simp at this
            omega
        | true =>
          show _ = false
          rw [List.all_eq_false]
          obtain ⟨y, hy, by_⟩ := List.any_eq_true.mp hb
          have hg := h.good y hy
          have hl := hlow y hy
          have ev : cf ((t :: r).map xr) y.p = (y.n : Rat) / (y.d : Rat) := cf_at _ (by rw [List.map_cons]; exact hx) (xr y) (List.mem_map.mpr ⟨y, hy, rfl⟩)
          refine ⟨cf ((t :: r).map xr) y.p, List.mem_map.mpr ⟨y.p, List.mem_range.mpr (by show y.p < t.p + 1; omega), by rw [List.map_cons]⟩, ?_⟩
          have hr := rat_of hg.d0 hg.co
          rw [numberOk_iff, ev, hr.1, hr.2]
          unfold bigT at by_
          simp at by_
          omega
      · rw [decide_eq_false (by show ¬ t.p + 1 ≤ 5; omega), Bool.false_and]
        have e2 : tooBig (t :: r) = true := by
          unfold tooBig bigT
          rw [List.any_cons, decide_eq_true (by omega)]; rfl
        rw [e2]; rfl
theorem small_top {ts : List Tm} (h : tooBig ts = false) : ¬ 100 < top (ts.map xr) := by
  cases ts with
  | nil => decide
  | cons t r =>
    have := List.any_eq_false.mp h t (List.mem_cons_self ..)
    unfold bigT at this
    simp at this
    show ¬ 100 < t.p
    omega
theorem uni_cq {ts : List Tm} (h : Valid ts) (hb : tooBig ts = false) (n : Nat) : cq (uniOf (ts.map xr)) n = cf (ts.map xr) n := uniOf_cq (valid_xc h) (small_top hb) n
theorem uni_tr {ts : List Tm} (hb : tooBig ts = false) : Tr (uniOf (ts.map xr)) := uniOf_tr (small_top hb)
/-! ### made whole -/
def numsGo (c : Nat) : List Tm → List Int → List Int
  | [], l => l
  | t :: r, l => numsGo c r (l.set t.p (((c / t.d : Nat) : Int) * t.n))
def wholeI (ts : List Tm) (c : Nat) : List Int := trimI (numsGo c ts (List.replicate 5 0))
theorem co_set {l : List Int} {i n : Nat} {x : Int} (h : i < l.length) : co (l.set i x) n = if i = n then x else co l n := by
  unfold co
  rw [List.getD_eq_getElem?_getD, List.getD_eq_getElem?_getD]
  split
  · rename_i e; subst e; rw [List.getElem?_set_self h]; rfl
  · rename_i e; rw [List.getElem?_set_ne e]
theorem numsGo_len (c : Nat) : ∀ (ts : List Tm) (l : List Int), (numsGo c ts l).length = l.length
  | [], l => rfl
  | t :: r, l => by show (numsGo c r _).length = _; rw [numsGo_len c r, List.length_set]
theorem numsGo_rel (c : Nat) (hc : 0 < c) : ∀ (ts : List Tm) (l : List Int), l.length = 5 → (∀ t ∈ ts, t.p < 5 ∧ 0 < t.d ∧ t.d ∣ c) → ts.Pairwise (fun a b => b.p < a.p) → ∀ n, (co (numsGo c ts l) n : Rat) = if n ∈ ts.map (fun t => t.p) then (c : Rat) * cf (ts.map xr) n else (co l n : Rat)
  | [], l, _, _, _, n => by simp [numsGo]
  | t :: r, l, hl, h, hp, n => by
    have ht := h t (List.mem_cons_self ..)
    have ih := numsGo_rel c hc r (l.set t.p (((c / t.d : Nat) : Int) * t.n)) (by rw [List.length_set, hl]) (fun s hs => h s (List.mem_cons_of_mem _ hs)) (List.pairwise_cons.mp hp).2 n
    show (co (numsGo c r _) n : Rat) = _
    rw [ih, List.map_cons, List.map_cons]
    have hlow : ∀ y ∈ r, y.p < t.p := (List.pairwise_cons.mp hp).1
    have ecf : cf (xr t :: r.map xr) n = if t.p = n then (t.n : Rat) / (t.d : Rat) else cf (r.map xr) n := rfl
    rw [ecf]
    by_cases e : t.p = n
    · subst e
      have h1 : t.p ∉ r.map fun t => t.p := fun z => by
        obtain ⟨y, hy, ey⟩ := List.mem_map.mp z
        have := hlow y hy; omega
      rw [if_neg h1, if_pos (List.mem_cons_self ..), if_pos rfl, co_set (by rw [hl]; exact ht.1), if_pos rfl]
      obtain ⟨k, hk⟩ := ht.2.2
      have hd0 : (t.d : Rat) ≠ 0 := fun z => by have := Rat.natCast_eq_zero_iff.mp z; omega
      have ek : c / t.d = k := by rw [hk]; exact Nat.mul_div_cancel_left k ht.2.1
      rw [ek, hk, Rat.intCast_mul, Rat.intCast_natCast, Rat.natCast_mul]
      grind
    · rw [if_neg e, co_set (by rw [hl]; exact ht.1), if_neg e]
      by_cases m : n ∈ r.map fun t => t.p
      · rw [if_pos m, if_pos (List.mem_cons_of_mem _ m)]
      · have m2 : n ∉ t.p :: r.map fun t => t.p := fun z => by
          rcases List.mem_cons.mp z with z | z
          · exact e z.symm
          · exact m z
        rw [if_neg m, if_neg m2]
theorem whole_rel {ts : List Tm} {c : Nat} (h : Valid ts) (hb : tooBig ts = false) (hc : 0 < c) (hd : ∀ t ∈ ts, t.d ∣ c) : Rel (c : Rat) (wholeI ts c) (uniOf (ts.map xr)) := fun n => by
  unfold wholeI
  have hp : ∀ t ∈ ts, t.p < 5 ∧ 0 < t.d ∧ t.d ∣ c := fun t ht => by
    have := List.any_eq_false.mp hb t ht
    unfold bigT at this
    simp at this
    exact ⟨by omega, (h.good t ht).d0, hd t ht⟩
  rw [trimI_co, numsGo_rel c hc ts _ (by simp) hp h.fall, uni_cq h hb]
  split
  · rfl
  · rename_i m
    rw [cf_low (ts.map xr) (n := n) (fun y hy => by
      obtain ⟨t, ht, rfl⟩ := List.mem_map.mp hy
      exact fun z => m (List.mem_map.mpr ⟨t, ht, z⟩)), Rat.mul_zero]
    have : co (List.replicate 5 0) n = 0 := by
      unfold co
      rw [List.getD_eq_getElem?_getD, List.getElem?_replicate]
      split <;> rfl
    rw [this]; rfl
/-- the least that all denominators go into -/
def lcmGo : List Tm → Nat → Nat
  | [], c => c
  | t :: r, c => lcmGo r (Nat.lcm c t.d)
def lcmAll : List (List Tm) → Nat → Nat
  | [], c => c
  | ts :: r, c => lcmAll r (lcmGo ts c)
theorem lcmGo_dvd : ∀ (ts : List Tm) (c : Nat), c ∣ lcmGo ts c ∧ ∀ t ∈ ts, t.d ∣ lcmGo ts c
  | [], c => ⟨Nat.dvd_refl c, fun t h => by cases h⟩
  | t :: r, c => by
    have ih := lcmGo_dvd r (Nat.lcm c t.d)
    refine ⟨Nat.dvd_trans (Nat.dvd_lcm_left _ _) ih.1, fun s hs => ?_⟩
    rcases List.mem_cons.mp hs with hs | hs
    · rw [hs]; exact Nat.dvd_trans (Nat.dvd_lcm_right _ _) ih.1
    · exact ih.2 s hs
theorem lcmAll_dvd : ∀ (l : List (List Tm)) (c : Nat), c ∣ lcmAll l c ∧ ∀ ts ∈ l, ∀ t ∈ ts, t.d ∣ lcmAll l c
  | [], c => ⟨Nat.dvd_refl c, fun t h => by cases h⟩
  | ts :: r, c => by
    have ih := lcmAll_dvd r (lcmGo ts c)
    have h1 := lcmGo_dvd ts c
    refine ⟨Nat.dvd_trans h1.1 ih.1, fun s hs t ht => ?_⟩
    rcases List.mem_cons.mp hs with hs | hs
    · rw [hs] at ht; exact Nat.dvd_trans (h1.2 t ht) ih.1
    · exact ih.2 s hs t ht
theorem lcmGo_pos : ∀ (ts : List Tm) (c : Nat), 0 < c → (∀ t ∈ ts, 0 < t.d) → 0 < lcmGo ts c
  | [], c, h, _ => h
  | t :: r, c, h, k => lcmGo_pos r _ (Nat.lcm_pos h (k t (List.mem_cons_self ..))) fun s hs => k s (List.mem_cons_of_mem _ hs)
theorem lcmAll_pos : ∀ (l : List (List Tm)) (c : Nat), 0 < c → (∀ ts ∈ l, ∀ t ∈ ts, 0 < t.d) → 0 < lcmAll l c
  | [], c, h, _ => h
  | ts :: r, c, h, k => lcmAll_pos r _ (lcmGo_pos ts c h (k ts (List.mem_cons_self ..))) fun s hs => k s (List.mem_cons_of_mem _ hs)
end Sl
set_option Elab.async false
set_option linter.all false
namespace St
open AlOne (Uni value)
open Sl
/-! ### values -/
theorem value_trim (x : Rat) : ∀ l : List Rat, value x (AlOne.trim l) = value x l
  | [] => rfl
  | c :: l => by
    have ih := value_trim x l
    unfold AlOne.trim
    split
    · rename_i h
      rw [h] at ih
      have ih' : value x l = 0 := ih.symm
      split
      · rename_i h0
        show (0 : Rat) = c + x * value x l
        rw [h0, ih']; grind
      · show c + x * 0 = c + x * value x l
        rw [ih']
    · show c + x * value x (AlOne.trim l) = c + x * value x l
      rw [ih]
theorem value_addRaw (x : Rat) : ∀ p q : List Rat, value x (AlOne.addRaw p q) = value x p + value x q
  | [], q => by
    have : AlOne.addRaw [] q = q := by cases q <;> rfl
    rw [this]; show _ = 0 + _; rw [Rat.zero_add]
  | c :: p, [] => by show value x (c :: p) = _ + 0; rw [Rat.add_zero]
  | c :: p, d :: q => by
    show (c + d) + x * value x (AlOne.addRaw p q) = (c + x * value x p) + (d + x * value x q)
    rw [value_addRaw x p q]; grind
theorem value_add (x : Rat) (p q : Uni) : value x (AlOne.add p q) = value x p + value x q := by
  unfold AlOne.add
  rw [value_trim, value_addRaw]
theorem value_scale (x c : Rat) (p : Uni) : value x (AlOne.scale c p) = c * value x p := by
  unfold AlOne.scale
  rw [value_trim]
  induction p with
  | nil => show (0 : Rat) = c * 0; grind
  | cons d p ih => show c * d + x * value x (p.map fun x => c * x) = c * (d + x * value x p); rw [ih]; grind
theorem value_neg (x : Rat) (p : Uni) : value x (AlOne.neg p) = - value x p := by
  unfold AlOne.neg
  rw [value_scale]; grind
theorem value_sub (x : Rat) (p q : Uni) : value x (AlOne.sub p q) = value x p - value x q := by
  unfold AlOne.sub
  rw [value_add, value_neg]; grind
theorem value_mul (x : Rat) (q : Uni) : ∀ p : Uni, value x (AlOne.mul p q) = value x p * value x q
  | [] => by show (0 : Rat) = 0 * _; grind
  | c :: p => by
    have ih := value_mul x q p
    unfold AlOne.mul
    split
    · rename_i h
      rw [h] at ih
      have ih' : value x p * value x q = 0 := ih.symm
      rw [value_scale]
      show c * value x q = (c + x * value x p) * value x q
      grind
    · rw [value_add, value_scale]
      show c * value x q + (0 + x * value x (AlOne.mul p q)) = (c + x * value x p) * value x q
      rw [ih]; grind
/-! ### Horner: a polynomial with 1 at its highest power is not 0 beyond its numbers -/
def Mon (p : List Rat) : Prop := p.getLast? = some 1
def In (B : Rat) (p : List Rat) : Prop := ∀ y ∈ p, y ≤ B ∧ -B ≤ y
theorem horner_pos {B x : Rat} (hB : 0 ≤ B) (hx : B + 1 ≤ x) : ∀ p : List Rat, Mon p → In B p → 1 ≤ value x p
  | [], h, _ => by cases h
  | [c], h, _ => by
    have : c = 1 := by simpa [Mon] using h
    show 1 ≤ c + x * 0
    rw [this]; grind
  | c :: d :: p, h, k => by
    have ih := horner_pos hB hx (d :: p) (by unfold Mon at *; rwa [List.getLast?_cons_cons] at h) fun y hy => k y (List.mem_cons_of_mem _ hy)
    have hc := k c (List.mem_cons_self ..)
    show 1 ≤ c + x * value x (d :: p)
    have h0 : (0 : Rat) ≤ value x (d :: p) - 1 := by grind
    have h1 : (0 : Rat) ≤ x := by grind
    have h2 : 0 ≤ x * (value x (d :: p) - 1) := Rat.mul_nonneg h1 h0
    grind
theorem horner_neg {B x : Rat} (hB : 0 ≤ B) (hx : x ≤ -(B + 1)) : ∀ p : List Rat, Mon p → In B p → 1 ≤ value x p ∨ value x p ≤ -1
  | [], h, _ => by cases h
  | [c], h, _ => by
    have : c = 1 := by simpa [Mon] using h
    left
    show 1 ≤ c + x * 0
    rw [this]; grind
  | c :: d :: p, h, k => by
    have ih := horner_neg hB hx (d :: p) (by unfold Mon at *; rwa [List.getLast?_cons_cons] at h) fun y hy => k y (List.mem_cons_of_mem _ hy)
    have hc := k c (List.mem_cons_self ..)
    show 1 ≤ c + x * value x (d :: p) ∨ c + x * value x (d :: p) ≤ -1
    have h1 : (0 : Rat) ≤ -x := by grind
    rcases ih with ih | ih
    · right
      have h2 : 0 ≤ (-x) * (value x (d :: p) - 1) := Rat.mul_nonneg h1 (by grind)
      grind
    · left
      have h2 : 0 ≤ (-x) * (-(value x (d :: p)) - 1) := Rat.mul_nonneg h1 (by grind)
      grind
theorem in_bound : ∀ p : List Rat, ∃ B : Rat, 0 ≤ B ∧ In B p
  | [] => ⟨0, by decide, fun y hy => by cases hy⟩
  | c :: p => by
    obtain ⟨B, hB, h⟩ := in_bound p
    rcases Rat.le_total (a := 0) (b := c) with k | k
    · refine ⟨B + c, by grind, fun y hy => ?_⟩
      rcases List.mem_cons.mp hy with hy | hy
      · rw [hy]; exact ⟨by grind, by grind⟩
      · have := h y hy; exact ⟨by grind, by grind⟩
    · refine ⟨B - c, by grind, fun y hy => ?_⟩
      rcases List.mem_cons.mp hy with hy | hy
      · rw [hy]; exact ⟨by grind, by grind⟩
      · have := h y hy; exact ⟨by grind, by grind⟩
theorem last_map (f : Rat → Rat) : ∀ p : List Rat, (p.map f).getLast? = p.getLast?.map f := fun p => by rw [List.getLast?_map]
/-- one that is 0 everywhere is 0 -/
theorem val_zero {p : List Rat} (ht : Tr p) (h : ∀ x, value x p = 0) : p = [] := by
  cases e : p.getLast? with
  | none => exact List.getLast?_eq_none_iff.mp e
  | some c =>
    exfalso
    have hc := ht c e
    obtain ⟨B, hB, hin⟩ := in_bound (p.map fun y => (1 / c) * y)
    have hm : Mon (p.map fun y => (1 / c) * y) := by
      unfold Mon
      rw [last_map, e]
      show some ((1 / c) * c) = some 1
      congr 1; grind
    have h1 := horner_pos hB (Rat.le_refl (a := B + 1)) _ hm hin
    have h2 : value (B + 1) (p.map fun y => (1 / c) * y) = (1 / c) * value (B + 1) p := by
      generalize B + 1 = x
      clear h1 hm hin hB ht h e
      induction p with
      | nil => show (0 : Rat) = _ * 0; grind
      | cons d p ih => show (1 / c) * d + x * value x (p.map fun y => (1 / c) * y) = (1 / c) * (d + x * value x p); rw [ih]; grind
    rw [h2, h] at h1
    grind
theorem sub_tr (p q : Uni) : Tr (AlOne.sub p q) := trim_tr _
theorem sub_cq (p q : Uni) (n : Nat) : cq (AlOne.sub p q) n = cq p n - cq q n := by
  unfold AlOne.sub AlOne.neg
  rw [add_cq, scale_cq]; grind
theorem val_ext {p q : Uni} (hp : Tr p) (hq : Tr q) (h : ∀ x, value x p = value x q) : p = q := by
  have e := val_zero (sub_tr p q) fun x => by rw [value_sub, h]; grind
  refine tr_ext hp hq fun n => ?_
  have := sub_cq p q n
  rw [e, cq_nil] at this
  grind
/-! ### lengths -/
theorem len_of {p : Uni} (ht : Tr p) {n : Nat} (h : ∀ i, n ≤ i → cq p i = 0) : p.length ≤ n := by
  refine Nat.le_of_not_lt fun k => ?_
  have hne : p ≠ [] := fun z => by rw [z] at k; simp at k
  have hl : p.getLast? = some (p.getLast hne) := List.getLast?_eq_getLast hne
  refine ht _ hl ?_
  have := h (p.length - 1) (by omega)
  unfold cq at this
  rw [List.getLast_eq_getElem]
  rw [List.getD_eq_getElem?_getD, List.getElem?_eq_getElem (by omega)] at this
  exact this
theorem last_cq {p : Uni} (ht : Tr p) (hne : p ≠ []) : cq p (p.length - 1) ≠ 0 := by
  have hl : p.getLast? = some (p.getLast hne) := List.getLast?_eq_getLast hne
  have := ht _ hl
  have hpos := List.length_pos_iff.mpr hne
  unfold cq
  rw [List.getD_eq_getElem?_getD, List.getElem?_eq_getElem (by omega)]
  rw [List.getLast_eq_getElem] at this
  exact this
theorem lead_cq {p : Uni} (hne : p ≠ []) : AlOne.lead p = cq p (p.length - 1) := by
  have hpos := List.length_pos_iff.mpr hne
  unfold AlOne.lead cq
  rw [List.getLastD_eq_getLast?, List.getLast?_eq_getElem?, List.getD_eq_getElem?_getD]
theorem cv_top (q : Nat → Rat) (m : Nat) (hq : ∀ i, m < i → q i = 0) : ∀ (p : List Rat), p ≠ [] → cv p q (p.length - 1 + m) = cq p (p.length - 1) * q m
  | [], h => absurd rfl h
  | [c], _ => by
    show cv [c] q (0 + m) = c * q m
    rw [Nat.zero_add]
    cases m with
    | zero => rfl
    | succ m => show c * q (m + 1) + 0 = _; grind
  | c :: d :: p, _ => by
    have ih := cv_top q m hq (d :: p) (by simp)
    simp only [List.length_cons, Nat.add_sub_cancel] at *
    rw [show p.length + 1 + m = (p.length + m) + 1 by omega]
    show c * q (p.length + m + 1) + cv (d :: p) q (p.length + m) = _
    rw [ih, hq _ (by omega), cq_succ]; grind
theorem mul_len {p q : Uni} (hp : Tr p) (hq : Tr q) (p0 : p ≠ []) (q0 : q ≠ []) : p.length + q.length ≤ (AlOne.mul p q).length + 1 := by
  refine Nat.le_of_not_lt fun k => ?_
  have h1 : cq (AlOne.mul p q) (p.length - 1 + (q.length - 1)) = 0 := by
    refine cq_ge ?_
    have := List.length_pos_iff.mpr p0
    have := List.length_pos_iff.mpr q0
    omega
  rw [mul_cq, cv_top (cq q) (q.length - 1) (fun i hi => cq_ge (by omega)) p p0] at h1
  rcases Rat.mul_eq_zero.mp h1 with z | z
  · exact last_cq hp p0 z
  · exact last_cq hq q0 z
/-! ### long division -/
theorem cv_xpow (q : Nat → Rat) : ∀ (k n : Nat), cv (AlOne.xpow k) q n = if k ≤ n then q (n - k) else 0
  | 0, 0 => by show 1 * q 0 = _; simp [Rat.one_mul]
  | 0, n + 1 => by show 1 * q (n + 1) + 0 = _; simp [Rat.one_mul, Rat.add_zero]
  | k + 1, 0 => by show 0 * q 0 = _; simp [Rat.zero_mul]
  | k + 1, n + 1 => by
    show 0 * q (n + 1) + cv (AlOne.xpow k) q n = _
    rw [cv_xpow q k n]
    by_cases h : k ≤ n
    · rw [if_pos h, if_pos (by omega), show n + 1 - (k + 1) = n - k by omega]; grind
    · rw [if_neg h, if_neg (by omega)]; grind
theorem step_len {r q : Uni} (hr : Tr r) (hq : Tr q) (q0 : q ≠ []) (h : q.length ≤ r.length) : (AlOne.sub r (AlOne.mul (AlOne.scale (AlOne.lead r / AlOne.lead q) (AlOne.xpow (r.length - q.length))) q)).length < r.length := by
  have hq1 := List.length_pos_iff.mpr q0
  have hr2 : 0 < r.length := by omega
  have hr1 : r ≠ [] := List.length_pos_iff.mp hr2
  have hl : AlOne.lead q ≠ 0 := by rw [lead_cq q0]; exact last_cq hq q0
  generalize hc : AlOne.lead r / AlOne.lead q = c
  have hcq : c * AlOne.lead q = AlOne.lead r := by rw [← hc]; grind
  refine Nat.lt_of_le_of_lt (len_of (sub_tr _ _) (n := r.length - 1) fun i hi => ?_) (by omega)
  have e : ∀ n, cq (AlOne.scale c (AlOne.xpow (r.length - q.length))) n = c * cq (AlOne.xpow (r.length - q.length)) n := fun n => scale_cq c _ n
  have em : cq (AlOne.mul (AlOne.scale c (AlOne.xpow (r.length - q.length))) q) i = c * cv (AlOne.xpow (r.length - q.length)) (cq q) i := by
    rw [mul_cq]
    have := cv_scale c 1 (cq q) (cq q) (fun n => by rw [Rat.one_mul]) _ (AlOne.xpow (r.length - q.length)) e i
    rw [this, Rat.mul_one]
  rw [sub_cq, em, cv_xpow]
  rw [if_pos (by omega)]
  by_cases hi2 : i = r.length - 1
  · subst hi2
    rw [show r.length - 1 - (r.length - q.length) = q.length - 1 by omega, ← lead_cq q0, ← lead_cq hr1, hcq]; grind
  · rw [cq_ge (p := r) (by omega), cq_ge (p := q) (by omega)]; grind
theorem divFrom_ok {q : Uni} (hq : Tr q) (q0 : q ≠ []) : ∀ (f : Nat) (s r : Uni), Tr r → r.length ≤ f → (AlOne.divFrom f s r q).2.length < q.length ∧ Tr (AlOne.divFrom f s r q).2 ∧ ∀ x, value x (AlOne.divFrom f s r q).1 * value x q + value x (AlOne.divFrom f s r q).2 = value x s * value x q + value x r
  | 0, s, r, hr, hl => by
    have : r = [] := List.eq_nil_of_length_eq_zero (by omega)
    subst this
    exact ⟨List.length_pos_iff.mpr q0, tr_nil, fun x => rfl⟩
  | f + 1, s, r, hr, hl => by
    unfold AlOne.divFrom
    split
    · rename_i h
      rcases h with h | h
      · exact ⟨h, hr, fun x => rfl⟩
      · exact absurd h q0
    · rename_i h
      have h1 : q.length ≤ r.length := Nat.le_of_not_lt fun z => h (.inl z)
      have hlen := step_len hr hq q0 h1
      have ih := divFrom_ok hq q0 f (AlOne.add s (AlOne.scale (AlOne.lead r / AlOne.lead q) (AlOne.xpow (r.length - q.length)))) (AlOne.sub r (AlOne.mul (AlOne.scale (AlOne.lead r / AlOne.lead q) (AlOne.xpow (r.length - q.length))) q)) (sub_tr _ _) (by omega)
      refine ⟨ih.1, ih.2.1, fun x => ?_⟩
      rw [ih.2.2 x, value_add, value_sub, value_mul]; grind
theorem div_ok {p q : Uni} (hp : Tr p) (hq : Tr q) (q0 : q ≠ []) : (AlOne.rest p q).length < q.length ∧ Tr (AlOne.rest p q) ∧ ∀ x, value x p = value x (AlOne.over p q) * value x q + value x (AlOne.rest p q) := by
  have h := divFrom_ok hq q0 p.length [] p hp (Nat.le_refl _)
  refine ⟨h.1, h.2.1, fun x => ?_⟩
  have := h.2.2 x
  show value x p = value x (AlOne.divFrom p.length [] p q).1 * value x q + value x (AlOne.divFrom p.length [] p q).2
  rw [this]
  show _ = 0 * _ + _
  grind
theorem divFrom_tr {q : Uni} : ∀ (f : Nat) (s r : Uni), Tr s → Tr (AlOne.divFrom f s r q).1
  | 0, s, r, h => h
  | f + 1, s, r, h => by
    unfold AlOne.divFrom
    split
    · exact h
    · exact divFrom_tr f _ _ (add_tr _ _)
theorem over_tr (p q : Uni) : Tr (AlOne.over p q) := divFrom_tr _ _ _ tr_nil
theorem sub_len (p q : Uni) : (AlOne.sub p q).length ≤ max p.length q.length := len_of (sub_tr p q) fun i hi => by
  rw [sub_cq, cq_ge (p := p) (by omega), cq_ge (p := q) (by omega)]; grind
/-- quotient and rest are the only ones -/
theorem div_only {p q s t : Uni} (hp : Tr p) (hq : Tr q) (q0 : q ≠ []) (hs : Tr s) (ht : Tr t) (hl : t.length < q.length) (h : ∀ x, value x p = value x s * value x q + value x t) : AlOne.over p q = s ∧ AlOne.rest p q = t := by
  obtain ⟨h1, h2, h3⟩ := div_ok hp hq q0
  have e : AlOne.mul (AlOne.sub (AlOne.over p q) s) q = AlOne.sub t (AlOne.rest p q) := val_ext (mul_tr _ _) (sub_tr _ _) fun x => by
    rw [value_mul, value_sub, value_sub]
    have a := h x
    have b := h3 x
    grind
  have z : AlOne.sub (AlOne.over p q) s = [] := by
    refine Classical.byContradiction fun k => ?_
    have l1 := mul_len (sub_tr _ _) hq k q0
    have l2 := sub_len t (AlOne.rest p q)
    have l3 := List.length_pos_iff.mpr k
    rw [e] at l1
    omega
  have eo : AlOne.over p q = s := val_ext (over_tr p q) hs fun x => by
    have := value_sub x (AlOne.over p q) s
    rw [z] at this
    have t0 : (0 : Rat) = value x (AlOne.over p q) - value x s := this
    grind
  refine ⟨eo, val_ext h2 ht fun x => ?_⟩
  have a := h x
  have b := h3 x
  rw [eo] at b
  grind
end St
set_option Elab.async false
set_option linter.all false
namespace St
open AlOne (Uni value)
open Sl
theorem tr_end {l : List Rat} {c : Rat} (h : c ≠ 0) : Tr (l ++ [c]) := fun d hd => by
  rw [List.getLast?_concat] at hd
  cases hd; exact h
theorem tr1 {a : Rat} (h : a ≠ 0) : Tr [a] := tr_end (l := []) h
theorem tr2 {a b : Rat} (h : b ≠ 0) : Tr [a, b] := tr_end (l := [a]) h
theorem tr3 {a b c : Rat} (h : c ≠ 0) : Tr [a, b, c] := tr_end (l := [a, b]) h
theorem tr4 {a b c d : Rat} (h : d ≠ 0) : Tr [a, b, c, d] := tr_end (l := [a, b, c]) h
theorem trim1_len (a : Rat) : (AlOne.trim [a]).length ≤ 1 := by
  unfold AlOne.trim AlOne.trim
  simp only
  split <;> simp
theorem trim2_len (a b : Rat) : (AlOne.trim [a, b]).length ≤ 2 := len_of (trim_tr _) fun i hi => by
  rw [trim_cq]; exact cq_ge (by simpa using hi)
/-! ### slopes -/
theorem slope1 (a b : Rat) (hb : b ≠ 0) : AlOne.slope [a, b] = [b] := tr_ext (slope_tr _) (tr1 hb) fun n => by
  rw [slope_cq]
  match n with
  | 0 => show ((1 : Nat) : Rat) * b = b; grind
  | n + 1 => rw [cq_ge (p := [a, b]) (by simp), cq_ge (p := [b]) (by simp)]; grind
theorem slope2 (a b c : Rat) (hc : c ≠ 0) : AlOne.slope [a, b, c] = [b, 2 * c] := tr_ext (slope_tr _) (tr2 (by grind)) fun n => by
  rw [slope_cq]
  match n with
  | 0 => show ((1 : Nat) : Rat) * b = b; grind
  | 1 => show ((2 : Nat) : Rat) * c = 2 * c; grind
  | n + 2 => rw [cq_ge (p := [a, b, c]) (by simp), cq_ge (p := [b, 2 * c]) (by simp)]; grind
theorem slope3 (a b c d : Rat) (hd : d ≠ 0) : AlOne.slope [a, b, c, d] = [b, 2 * c, 3 * d] := tr_ext (slope_tr _) (tr3 (by grind)) fun n => by
  rw [slope_cq]
  match n with
  | 0 => show ((1 : Nat) : Rat) * b = b; grind
  | 1 => show ((2 : Nat) : Rat) * c = 2 * c; grind
  | 2 => show ((3 : Nat) : Rat) * d = 3 * d; grind
  | n + 3 => rw [cq_ge (p := [a, b, c, d]) (by simp), cq_ge (p := [b, 2 * c, 3 * d]) (by simp)]; grind
/-! ### values of short ones -/
theorem v0 (x : Rat) : value x [] = 0 := rfl
theorem v1 (x a : Rat) : value x [a] = a := by show a + x * 0 = a; grind
theorem v2 (x a b : Rat) : value x [a, b] = a + b * x := by show a + x * (b + x * 0) = _; grind
theorem v3 (x a b c : Rat) : value x [a, b, c] = a + b * x + c * x * x := by show a + x * (b + x * (c + x * 0)) = _; grind
theorem v4 (x a b c d : Rat) : value x [a, b, c, d] = a + b * x + c * x * x + d * x * x * x := by show a + x * (b + x * (c + x * (d + x * 0))) = _; grind
/-! ### by a number -/
theorem rest_const {p : Uni} {k : Rat} (hp : Tr p) (hk : k ≠ 0) : AlOne.rest p [k] = [] := by
  have h := (div_ok hp (tr1 hk) (by simp)).1
  exact List.eq_nil_of_length_eq_zero (by simpa using h)
theorem over_one {p : Uni} (hp : Tr p) : AlOne.over p [1] = p := (div_only hp (tr1 (by decide)) (by simp) hp tr_nil (by simp) fun x => by rw [v1, v0]; grind).1
theorem monic1 {k : Rat} (hk : k ≠ 0) : AlOne.monic [k] = [1] := by
  refine val_ext (scale_tr _ _) (tr1 (by decide)) fun x => ?_
  unfold AlOne.monic
  rw [value_scale, v1, v1]
  show (1 / k) * k = 1
  grind
theorem monic2 {a b : Rat} (hb : b ≠ 0) : AlOne.monic [a, b] = [a / b, 1] := by
  refine val_ext (scale_tr _ _) (tr2 (by decide)) fun x => ?_
  unfold AlOne.monic
  rw [value_scale, v2, v2]
  show (1 / b) * (a + b * x) = a / b + 1 * x
  grind
theorem monic3 {a b c : Rat} (hc : c ≠ 0) : AlOne.monic [a, b, c] = [a / c, b / c, 1] := by
  refine val_ext (scale_tr _ _) (tr3 (by decide)) fun x => ?_
  unfold AlOne.monic
  rw [value_scale, v3, v3]
  show (1 / c) * (a + b * x + c * x * x) = a / c + b / c * x + 1 * x * x
  grind
theorem cf_go {f : Nat} {p q : Uni} (hq : q ≠ []) : AlOne.commonFrom (f + 1) p q = AlOne.commonFrom f q (AlOne.rest p q) := by
  show (if q = [] then p else AlOne.commonFrom f q (AlOne.rest p q)) = _
  rw [if_neg hq]
theorem cf_end {f : Nat} {p : Uni} : AlOne.commonFrom (f + 1) p [] = p := by
  show (if ([] : Uni) = [] then p else _) = _
  rw [if_pos rfl]
theorem common_of {p q : Uni} (hq : q ≠ []) : AlOne.common p q = AlOne.monic (AlOne.commonFrom (q.length + 2) p q) := by
  unfold AlOne.common
  rw [if_neg (fun z => hq z.2)]
/-- without powers: what is left of m -/
def free (m : Uni) : Uni := AlOne.over m (AlOne.common m (AlOne.slope m))
/-! ### degree 1 -/
theorem free1 (r : Rat) : free [-r, 1] = [-r, 1] := by
  unfold free
  rw [slope1 _ _ (by decide), common_of (by simp)]
  show AlOne.over _ (AlOne.monic (AlOne.commonFrom 3 [-r, 1] [1])) = _
  rw [cf_go (by simp), rest_const (tr2 (by decide)) (by decide), cf_end, monic1 (by decide), over_one (tr2 (by decide))]
/-! ### degree 2 -/
def quad (r s : Rat) : Uni := [r * s, -(r + s), 1]
theorem quad_tr (r s : Rat) : Tr (quad r s) := tr3 (by decide)
theorem slope_quad (r s : Rat) : AlOne.slope (quad r s) = [-(r + s), 2] := by
  unfold quad
  rw [slope2 _ _ _ (by decide)]
  congr 2
  grind
theorem rest_quad (r s : Rat) : AlOne.rest (quad r s) [-(r + s), 2] = AlOne.trim [-((r - s) * (r - s) / 4)] := by
  refine (div_only (s := [-(r + s) / 4, 1 / 2]) (tr3 (by decide)) (tr2 (by decide)) (by simp) (tr2 (by decide +kernel)) (trim_tr _) (Nat.lt_of_le_of_lt (trim1_len _) (by simp)) fun x => ?_).2
  rw [v3, v2, v2, value_trim, v1]; grind
theorem free2 {r s : Rat} (h : r ≠ s) : free (quad r s) = quad r s := by
  have hk : -((r - s) * (r - s) / 4) ≠ 0 := by
    intro z
    have : (r - s) * (r - s) = 0 := by grind
    rcases Rat.mul_eq_zero.mp this with q | q <;> exact h (by grind)
  unfold free
  rw [slope_quad, common_of (by simp)]
  show AlOne.over _ (AlOne.monic (AlOne.commonFrom 4 (quad r s) [-(r + s), 2])) = _
  rw [cf_go (by simp), rest_quad, trim_self _ (tr1 hk), cf_go (by simp), rest_const (tr2 (by decide)) hk, cf_end, monic1 hk, over_one (quad_tr r s)]
theorem free2d (r : Rat) : free (quad r r) = [-r, 1] := by
  unfold free
  rw [slope_quad, common_of (by simp)]
  show AlOne.over _ (AlOne.monic (AlOne.commonFrom 4 (quad r r) [-(r + r), 2])) = _
  rw [cf_go (by simp), rest_quad]
  have e : AlOne.trim [-((r - r) * (r - r) / 4)] = [] := by
    have : -((r - r) * (r - r) / 4) = 0 := by grind
    rw [this]; decide +kernel
  rw [e, cf_end, monic2 (by decide)]
  refine (div_only (s := [-r, 1]) (tr3 (by decide)) (tr2 (by decide)) (by simp) (tr2 (by decide)) tr_nil (by simp) fun x => ?_).1
  rw [v3, v2, v2, v0]; grind
/-! ### degree 3 -/
def cub (r u v : Rat) : Uni := [-(r * v), v - r * u, u - r, 1]
def cA (r u v : Rat) : Rat := (u - r) * (u - r) - 3 * (v - r * u)
def cB (r u v : Rat) : Rat := ((v - r * u) * (u - r) + 9 * (r * v)) / 2
def cD (u v : Rat) : Rat := u * u - 4 * v
def cR (r u v : Rat) : Rat := r * r + u * r + v
def sl (r u v : Rat) : Uni := [v - r * u, 2 * (u - r), 3]
theorem slope_cub (r u v : Rat) : AlOne.slope (cub r u v) = sl r u v := by
  unfold cub sl
  rw [slope3 _ _ _ _ (by decide)]
  congr 3
  grind
theorem cub_tr (r u v : Rat) : Tr (cub r u v) := tr4 (by decide)
theorem sl_tr (r u v : Rat) : Tr (sl r u v) := tr3 (by decide)
theorem rest_cub (r u v : Rat) : AlOne.rest (cub r u v) (sl r u v) = AlOne.trim [-(2 / 9 * cB r u v), -(2 / 9 * cA r u v)] := by
  refine (div_only (s := [(u - r) / 9, 1 / 3]) (cub_tr r u v) (sl_tr r u v) (by unfold sl; simp) (tr2 (by decide +kernel)) (trim_tr _) (Nat.lt_of_le_of_lt (trim2_len _ _) (by unfold sl; simp)) fun x => ?_).2
  unfold cub sl cA cB
  rw [v4, v3, v2, value_trim, v2]; grind
theorem disc (r u v : Rat) : 3 * cB r u v * cB r u v - 2 * (u - r) * cA r u v * cB r u v + (v - r * u) * cA r u v * cA r u v = -(9 / 4 * cD u v * cR r u v * cR r u v) := by
  unfold cA cB cD cR; grind
/-- the last rest -/
def cK (r u v : Rat) : Rat := -(9 / 4 * cD u v * cR r u v * cR r u v) / (cA r u v * cA r u v)
theorem rest_sl {r u v : Rat} (hA : cA r u v ≠ 0) : AlOne.rest (sl r u v) [-(2 / 9 * cB r u v), -(2 / 9 * cA r u v)] = AlOne.trim [cK r u v] := by
  have h2 : -(2 / 9 * cA r u v) ≠ 0 := by grind
  have hd := disc r u v
  unfold cK
  rw [← hd]
  unfold sl
  generalize cA r u v = A at *
  generalize cB r u v = B at *
  generalize v - r * u = a at *
  generalize u - r = b at *
  clear hd
  refine (div_only (s := [-(9 / 2) * (2 * b - 3 * B / A) / A, -(9 / 2) * 3 / A]) (tr3 (by decide)) (tr2 h2) (by simp) (tr2 ?_) (trim_tr _) (Nat.lt_of_le_of_lt (trim1_len _) (by simp)) fun x => ?_).2
  · grind
  · rw [v3, v2, v2, value_trim, v1]; grind
theorem common_cub {r u v : Rat} : AlOne.common (cub r u v) (AlOne.slope (cub r u v)) = AlOne.monic (AlOne.commonFrom 4 (sl r u v) (AlOne.trim [-(2 / 9 * cB r u v), -(2 / 9 * cA r u v)])) := by
  rw [slope_cub, common_of (by unfold sl; simp)]
  show AlOne.monic (AlOne.commonFrom 5 (cub r u v) (sl r u v)) = _
  rw [cf_go (by unfold sl; simp), rest_cub]
theorem free3 {r u v : Rat} (hA : cA r u v ≠ 0) (hD : cD u v ≠ 0) (hR : cR r u v ≠ 0) : free (cub r u v) = cub r u v := by
  have h2 : -(2 / 9 * cA r u v) ≠ 0 := by grind
  have hk : cK r u v ≠ 0 := by
    unfold cK
    generalize cA r u v = A at *
    generalize cD u v = D at *
    generalize cR r u v = R at *
    intro z
    have : D * R * R = 0 := by grind
    rcases Rat.mul_eq_zero.mp this with q | q
    · rcases Rat.mul_eq_zero.mp q with q | q
      · exact hD q
      · exact hR q
    · exact hR q
  unfold free
  rw [common_cub, trim_self _ (tr2 h2), cf_go (by simp), rest_sl hA, trim_self _ (tr1 hk), cf_go (by simp), rest_const (tr2 h2) hk, cf_end, monic1 hk, over_one (cub_tr r u v)]
theorem free3z {r u v : Rat} (hA : cA r u v = 0) (hB : cB r u v ≠ 0) : free (cub r u v) = cub r u v := by
  have h2 : -(2 / 9 * cB r u v) ≠ 0 := by grind
  have e : AlOne.trim [-(2 / 9 * cB r u v), -(2 / 9 * cA r u v)] = [-(2 / 9 * cB r u v)] := by
    rw [hA]
    refine val_ext (trim_tr _) (tr1 h2) fun x => ?_
    rw [value_trim, v2, v1]; grind
  unfold free
  rw [common_cub, e, cf_go (by simp), rest_const (sl_tr r u v) h2, cf_end, monic1 h2, over_one (cub_tr r u v)]
theorem free3t {r u v : Rat} (hA : cA r u v = 0) (hB : cB r u v = 0) : free (cub r u v) = [-r, 1] := by
  have e : AlOne.trim [-(2 / 9 * cB r u v), -(2 / 9 * cA r u v)] = [] := by
    rw [hA, hB]
    refine val_zero (trim_tr _) fun x => ?_
    rw [value_trim, v2]; grind
  have hr : u = -2 * r ∧ v = r * r := by
    have h0 : (r + (u - r) / 3) * ((r + (u - r) / 3) * (r + (u - r) / 3)) = 0 := by
      unfold cA at hA
      unfold cB at hB
      grind
    have h1 : r + (u - r) / 3 = 0 := by
      rcases Rat.mul_eq_zero.mp h0 with q | q
      · exact q
      · rcases Rat.mul_eq_zero.mp q with q | q <;> exact q
    have hu : u = -2 * r := by grind
    refine ⟨hu, ?_⟩
    unfold cA at hA
    rw [hu] at hA
    grind
  unfold free
  rw [common_cub, e, cf_end]
  unfold sl
  rw [monic3 (by decide)]
  refine (div_only (s := [-r, 1]) (cub_tr r u v) (tr3 (by decide)) (by simp) (tr2 (by decide)) tr_nil (by simp) fun x => ?_).1
  unfold cub
  rw [v4, v3, v2, v0, hr.1, hr.2]; grind
theorem free3d {r u v g w : Rat} (hA : cA r u v ≠ 0) (hk : cD u v * cR r u v = 0) (hg : cB r u v = -(g * cA r u v)) (hq : ∀ x, value x (cub r u v) = (x - r) * (x - w) * (x - g)) : free (cub r u v) = quad r w := by
  have h2 : -(2 / 9 * cA r u v) ≠ 0 := by grind
  have e : AlOne.trim [cK r u v] = [] := by
    have : cK r u v = 0 := by
      unfold cK
      generalize cA r u v = A at *
      generalize cD u v = D at *
      generalize cR r u v = R at *
      have : 9 / 4 * D * R * R = 0 := by grind
      rw [this]; grind
    rw [this]; decide +kernel
  unfold free
  rw [common_cub, trim_self _ (tr2 h2), cf_go (by simp), rest_sl hA, e, cf_end, monic2 h2]
  have eg : -(2 / 9 * cB r u v) / -(2 / 9 * cA r u v) = -g := by
    rw [hg]
    generalize cA r u v = A at *
    grind
  rw [eg]
  refine (div_only (s := quad r w) (cub_tr r u v) (tr2 (by decide)) (by simp) (tr3 (by decide)) tr_nil (by simp) fun x => ?_).1
  rw [hq]
  unfold quad
  rw [v3, v2, v0]; grind
/-- what it may be: r is one of its roots, each there once -/
inductive Form (r : Rat) : Uni → Prop
  | one : Form r [-r, 1]
  | two (s : Rat) : r ≠ s → Form r (quad r s)
  | three (u v : Rat) : cA r u v ≠ 0 → cD u v ≠ 0 → cR r u v ≠ 0 → Form r (cub r u v)
  | flat (u v : Rat) : cA r u v = 0 → cB r u v ≠ 0 → Form r (cub r u v)
theorem form_cub (r u v : Rat) : Form r (free (cub r u v)) := by
  by_cases hA : cA r u v = 0
  · by_cases hB : cB r u v = 0
    · rw [free3t hA hB]; exact .one
    · rw [free3z hA hB]; exact .flat u v hA hB
  · by_cases hD : cD u v = 0
    · have hv : v = u * u / 4 := by unfold cD at hD; grind
      have h : r ≠ -u / 2 := fun z => hA (by unfold cA; rw [hv, z]; grind)
      rw [free3d (g := -u / 2) (w := -u / 2) hA (by rw [hD]; grind) (by unfold cA cB; rw [hv]; grind) (fun x => by unfold cub; rw [v4, hv]; grind)]
      exact .two _ h
    · by_cases hR : cR r u v = 0
      · have hv : v = -(r * r) - u * r := by unfold cR at hR; grind
        have h : r ≠ -u - r := fun z => hA (by
          have hu : u = -2 * r := by grind
          unfold cA; rw [hv, hu]; grind)
        rw [free3d (g := r) (w := -u - r) hA (by rw [hR]; grind) (by unfold cA cB; rw [hv]; grind) (fun x => by unfold cub; rw [v4, hv]; grind)]
        exact .two _ h
      · rw [free3 hA hD hR]; exact .three u v hA hD hR
/-- **what is left of one of degree 1 to 3 that has the root r** -/
theorem form_of {m : Uni} {r : Rat} (hm : Mon m) (hl : 2 ≤ m.length) (hu : m.length ≤ 4) (hr : value r m = 0) : Form r (free m) := by
  match m, hm, hl, hu, hr with
  | [a, b], hm, _, _, hr =>
    have hb : b = 1 := by simpa [Mon] using hm
    subst hb
    rw [v2] at hr
    have : a = -r := by grind
    rw [this, free1]; exact .one
  | [a, b, c], hm, _, _, hr =>
    have hc : c = 1 := by simpa [Mon] using hm
    subst hc
    rw [v3] at hr
    have e : [a, b, 1] = quad r (-b - r) := by
      unfold quad
      congr 1
      · grind
      · congr 1; grind
    rw [e]
    by_cases h : r = -b - r
    · rw [← h, free2d]; exact .one
    · rw [free2 h]; exact .two _ h
  | [a, b, c, d], hm, _, _, hr =>
    have hd : d = 1 := by simpa [Mon] using hm
    subst hd
    rw [v4] at hr
    have e : [a, b, c, 1] = cub r (c + r) (b + r * (c + r)) := by
      unfold cub
      congr 1
      · grind
      · congr 1
        · grind
        · congr 1; grind
    rw [e]
    exact form_cub r _ _
end St
set_option Elab.async false
set_option linter.all false
namespace St
open AlOne (Uni value)
open Sl
open Al03 (ratSign changes changesAt sturm sturmFrom)
/-! ### signs -/
theorem rs_pos {y : Rat} (h : 0 < y) : ratSign y = 1 := by
  unfold ratSign
  rw [if_neg (by grind), if_neg (by grind)]
theorem rs_neg {y : Rat} (h : y < 0) : ratSign y = -1 := by
  unfold ratSign
  rw [if_neg (by grind), if_pos h]
theorem rs_zero {y : Rat} (h : y = 0) : ratSign y = 0 := by
  unfold ratSign
  rw [if_pos h]
theorem tri (y : Rat) : y < 0 ∨ y = 0 ∨ 0 < y := by
  grind
theorem rs_any (y : Rat) : ratSign y = -1 ∨ ratSign y = 0 ∨ ratSign y = 1 := by
  rcases tri y with h | h | h
  · exact .inl (rs_neg h)
  · exact .inr (.inl (rs_zero h))
  · exact .inr (.inr (rs_pos h))
theorem pp {a b : Rat} (h : 0 < a) (k : 0 < b) : 0 < a * b := Rat.mul_pos h k
theorem np {a b : Rat} (h : a < 0) (k : 0 < b) : a * b < 0 := by have := pp (a := -a) (by grind) k; grind
theorem pn {a b : Rat} (h : 0 < a) (k : b < 0) : a * b < 0 := by have := pp h (b := -b) (by grind); grind
theorem nn {a b : Rat} (h : a < 0) (k : b < 0) : 0 < a * b := by have := pp (a := -a) (b := -b) (by grind) (by grind); grind
theorem sq (a : Rat) : 0 ≤ a * a := by
  rcases tri a with h | h | h
  · have := nn h h; grind
  · rw [h]; grind
  · have := pp h h; grind
def V (l : List Int) : Nat := changes (l.filter fun s => decide (s ≠ 0))
theorem at_map (x : Rat) (l : List Uni) : changesAt x l = V (l.map fun p => ratSign (value x p)) := rfl
/-! ### the rows -/
theorem neg_one_len {p : Uni} : AlOne.neg ([] : Uni) = [] := by decide +kernel
theorem sf_go {f : Nat} {p q : Uni} (hp : p ≠ []) : sturmFrom (f + 1) p q = p :: sturmFrom f q (AlOne.neg (AlOne.rest p q)) := by
  show (if p = [] then [] else p :: sturmFrom f q (AlOne.neg (AlOne.rest p q))) = _
  rw [if_neg hp]
theorem sf_nil {f : Nat} {q : Uni} : sturmFrom f [] q = [] := by
  cases f with
  | zero => rfl
  | succ f => show (if ([] : Uni) = [] then [] else _) = _; rw [if_pos rfl]
theorem neg1 {a : Rat} (h : a ≠ 0) : AlOne.neg [a] = [-a] := val_ext (scale_tr _ _) (tr1 (by grind)) fun x => by rw [value_neg, v1, v1]
theorem neg2 {a b : Rat} (h : b ≠ 0) : AlOne.neg [a, b] = [-a, -b] := val_ext (scale_tr _ _) (tr2 (by grind)) fun x => by rw [value_neg, v2, v2]; grind
theorem sturm1 (r : Rat) : sturm [-r, 1] = [[-r, 1], [1]] := by
  unfold sturm
  rw [slope1 _ _ (by decide)]
  show sturmFrom 3 _ _ = _
  rw [sf_go (by simp), rest_const (tr2 (by decide)) (by decide), neg_one_len (p := []), sf_go (by simp), sf_nil]
theorem sturm2 {r s : Rat} (h : r ≠ s) : sturm (quad r s) = [quad r s, [-(r + s), 2], [(r - s) * (r - s) / 4]] := by
  have hk : -((r - s) * (r - s) / 4) ≠ 0 := by
    intro z
    have : (r - s) * (r - s) = 0 := by grind
    rcases Rat.mul_eq_zero.mp this with q | q <;> exact h (by grind)
  have hk2 : (r - s) * (r - s) / 4 ≠ 0 := by grind
  unfold sturm
  rw [slope_quad]
  show sturmFrom 4 _ _ = _
  rw [sf_go (by unfold quad; simp), rest_quad, trim_self _ (tr1 hk), neg1 hk, sf_go (by simp), Rat.neg_neg, rest_const (tr2 (by decide)) hk2, neg_one_len (p := []), sf_go (by simp), sf_nil]
theorem sturm3 {r u v : Rat} (hA : cA r u v ≠ 0) (hD : cD u v ≠ 0) (hR : cR r u v ≠ 0) : sturm (cub r u v) = [cub r u v, sl r u v, [2 / 9 * cB r u v, 2 / 9 * cA r u v], [-cK r u v]] ∧ (0 < -cK r u v ↔ 0 < cD u v) ∧ cK r u v ≠ 0 := by
  have h2 : -(2 / 9 * cA r u v) ≠ 0 := by grind
  have h3 : 2 / 9 * cA r u v ≠ 0 := by grind
  have pos : 0 < cR r u v * cR r u v / (cA r u v * cA r u v) := by
    have a1 : 0 < cR r u v * cR r u v := (tri (cR r u v)).elim (fun h => nn h h) fun h => h.elim (fun h => absurd h hR) fun h => pp h h
    have a2 : 0 < cA r u v * cA r u v := (tri (cA r u v)).elim (fun h => nn h h) fun h => h.elim (fun h => absurd h hA) fun h => pp h h
    rw [Rat.div_def]
    exact pp a1 (Rat.inv_pos.mpr a2)
  have ek : -cK r u v = 9 / 4 * (cD u v * (cR r u v * cR r u v / (cA r u v * cA r u v))) := by
    unfold cK
    generalize cA r u v = A at *
    grind
  generalize hP : cR r u v * cR r u v / (cA r u v * cA r u v) = P at pos ek
  have hk : cK r u v ≠ 0 := by
    intro z
    rw [z] at ek
    have : cD u v * P = 0 := by grind
    rcases Rat.mul_eq_zero.mp this with q | q
    · exact hD q
    · grind
  have hk2 : -cK r u v ≠ 0 := by grind
  refine ⟨?_, ?_, hk⟩
  · unfold sturm
    rw [slope_cub]
    show sturmFrom 5 _ _ = _
    rw [sf_go (by unfold cub; simp), rest_cub, trim_self _ (tr2 h2), neg2 h2, sf_go (by unfold sl; simp), Rat.neg_neg, Rat.neg_neg]
    have e : AlOne.rest (sl r u v) [2 / 9 * cB r u v, 2 / 9 * cA r u v] = [cK r u v] := by
      have h := rest_sl hA
      rw [trim_self _ (tr1 hk)] at h
      obtain ⟨g1, g2, g3⟩ := div_ok (sl_tr r u v) (tr2 (a := -(2 / 9 * cB r u v)) h2) (by simp)
      refine (div_only (s := AlOne.neg (AlOne.over (sl r u v) [-(2 / 9 * cB r u v), -(2 / 9 * cA r u v)])) (sl_tr r u v) (tr2 h3) (by simp) (scale_tr _ _) (tr1 hk) (by simp) fun x => ?_).2
      have := g3 x
      rw [h, v2, v1] at this
      rw [value_neg, v2, v1]
      grind
    rw [e, neg1 hk, sf_go (by simp), rest_const (tr2 h3) hk2, neg_one_len (p := []), sf_go (by simp), sf_nil]
  · rw [ek]
    constructor
    · intro h
      rcases tri (cD u v) with q | q | q
      · have := np q pos; grind
      · exact absurd q hD
      · exact q
    · intro h
      have := pp h pos; grind
theorem sturm3z {r u v : Rat} (hA : cA r u v = 0) (hB : cB r u v ≠ 0) : sturm (cub r u v) = [cub r u v, sl r u v, [2 / 9 * cB r u v]] := by
  have h2 : -(2 / 9 * cB r u v) ≠ 0 := by grind
  have h3 : 2 / 9 * cB r u v ≠ 0 := by grind
  have e : AlOne.trim [-(2 / 9 * cB r u v), -(2 / 9 * cA r u v)] = [-(2 / 9 * cB r u v)] := by
    rw [hA]
    refine val_ext (trim_tr _) (tr1 h2) fun x => ?_
    rw [value_trim, v2, v1]; grind
  unfold sturm
  rw [slope_cub]
  show sturmFrom 5 _ _ = _
  rw [sf_go (by unfold cub; simp), rest_cub, e, neg1 h2, sf_go (by unfold sl; simp), Rat.neg_neg, rest_const (sl_tr r u v) h3, neg_one_len (p := []), sf_go (by simp), sf_nil]
/-! ### degree 3, at a place: t, what's left there, its slope, its D -/
section
variable {t H J : Rat}
def bB (t H J : Rat) : Rat := H * J + t * J * J + t * t * J - 8 * t * H
theorem b1 (ht : 0 < t) (hH : 0 < H) (hJ : 0 < J) (hD : 0 < J * J - 4 * H) : 0 < bB t H J := by
  unfold bB
  have h1 := pp ht hD
  have h2 : 0 ≤ (H + t * t) * J - 4 * t * H := by
    refine Rat.not_lt.mp fun z => ?_
    have tt := pp ht ht
    have X : 0 < (H + t * t) * J := pp (by grind) hJ
    have S : 0 < 4 * t * H + (H + t * t) * J := by have := pp ht hH; grind
    have P := pp (a := 4 * t * H - (H + t * t) * J) (by grind) S
    have Q : 0 < (H * (t * t)) * (J * J - 4 * H) := pp (pp hH tt) hD
    have W : 0 ≤ ((H - t * t) * J) * ((H - t * t) * J) := sq _
    grind
  grind
theorem b2 (ht : 0 < t) (hH : 0 < H) (hJ : J < 0) (hD : J * J - 4 * H < 0) : bB t H J < 0 := by
  unfold bB
  have h1 := np hJ (b := H + t * t) (by have := pp ht ht; grind)
  have h2 := pn ht (b := J * J - 8 * H) (by grind)
  grind
theorem b3 (ht : 0 < t) (hH : 0 < H) (hJ : J < 0) (hp : 0 ≤ H + t * J) : bB t H J < 0 := by
  unfold bB
  have h1 : 0 ≤ (-J) * (H + t * J) := Rat.mul_nonneg (by grind) hp
  have h2 := pn (pp ht ht) hJ
  have h3 := pp ht hH
  grind
theorem b4 (ht : 0 < t) (hH : H < 0) (hp : 0 ≤ H + t * J) : 0 < bB t H J := by
  unfold bB
  have hJ : 0 < J := by
    refine Rat.not_le.mp fun z => ?_
    have := Rat.mul_nonneg (a := t) (b := -J) (by grind) (by grind)
    grind
  have h1 : 0 ≤ J * (H + t * J) := Rat.mul_nonneg (by grind) hp
  have h2 := pp (pp ht ht) hJ
  have h3 := pn ht hH
  grind
/-- the row's signs there, and those of what's left -/
theorem row_at (hD : J * J - 4 * H ≠ 0) (hR : t = 0 → H ≠ 0) : V [ratSign (t * H), ratSign (H + t * J), ratSign (bB t H J), ratSign (J * J - 4 * H)] = (if t < 0 then 1 else 0) + V [ratSign H, ratSign J, ratSign (J * J - 4 * H)] := by
  have any1 := rs_any (H + t * J)
  have any2 := rs_any (bB t H J)
  rcases tri t with ht | ht | ht
  · rw [if_pos ht]
    have eB : bB t H J = -bB (-t) H (-J) := by unfold bB; grind
    have eD : (-J) * (-J) - 4 * H = J * J - 4 * H := by grind
    have eP : H + (-t) * (-J) = H + t * J := by grind
    have ht' : 0 < -t := by grind
    rcases tri H with hH | hH | hH
    · have h0 : 0 < J * J - 4 * H := by have := sq J; grind
      rw [rs_pos (nn ht hH), rs_neg hH, rs_pos h0]
      rcases tri (H + t * J) with p | p | p
      · rw [rs_neg p]
        rcases any2 with q | q | q <;> rw [q] <;> rcases rs_any J with w | w | w <;> rw [w] <;> decide
      · have := b4 ht' hH (by rw [eP]; grind)
        rw [rs_zero p, rs_neg (y := bB t H J) (by grind)]
        rcases rs_any J with w | w | w <;> rw [w] <;> decide
      · have := b4 ht' hH (by rw [eP]; grind)
        rw [rs_pos p, rs_neg (y := bB t H J) (by grind)]
        rcases rs_any J with w | w | w <;> rw [w] <;> decide
    · subst hH
      rw [rs_zero (y := t * 0) (by grind), rs_zero (y := 0) rfl]
      rcases tri J with hJ | hJ | hJ
      · have h0 : 0 < J * J - 4 * 0 := by have := nn hJ hJ; grind
        have hB : bB t 0 J < 0 := by
          have := nn ht hJ
          have h1 := np (a := t + J) (by grind) this
          unfold bB; grind
        rw [rs_pos (y := 0 + t * J) (by have := nn ht hJ; grind), rs_neg hB, rs_neg hJ, rs_pos h0]; decide
      · exact absurd (by rw [hJ]; grind) hD
      · have h0 : 0 < J * J - 4 * 0 := by have := pp hJ hJ; grind
        rw [rs_neg (y := 0 + t * J) (by have := np ht hJ; grind), rs_pos hJ, rs_pos h0]
        rcases any2 with q | q | q <;> rw [q] <;> decide
    · rw [rs_neg (np ht hH), rs_pos hH]
      rcases tri (J * J - 4 * H) with d | d | d
      · rw [rs_neg d]
        rcases tri J with hJ | hJ | hJ
        · rw [rs_pos (y := H + t * J) (by have := nn ht hJ; grind), rs_neg hJ]
          rcases any2 with q | q | q <;> rw [q] <;> decide
        · rw [rs_pos (y := H + t * J) (by rw [hJ]; grind), rs_zero hJ]
          rcases any2 with q | q | q <;> rw [q] <;> decide
        · have := b2 ht' hH (J := -J) (by grind) (by rw [eD]; exact d)
          rw [rs_pos (y := bB t H J) (by grind), rs_pos hJ]
          rcases any1 with q | q | q <;> rw [q] <;> decide
      · exact absurd d hD
      · rw [rs_pos d]
        rcases tri J with hJ | hJ | hJ
        · have := b1 ht' hH (J := -J) (by grind) (by rw [eD]; exact d)
          rw [rs_pos (y := H + t * J) (by have := nn ht hJ; grind), rs_neg (y := bB t H J) (by grind), rs_neg hJ]; decide
        · rw [hJ] at d; grind
        · rw [rs_pos hJ]
          rcases tri (H + t * J) with p | p | p
          · rw [rs_neg p]
            rcases any2 with q | q | q <;> rw [q] <;> decide
          · have := b3 ht' hH (J := -J) (by grind) (by rw [eP]; grind)
            rw [rs_zero p, rs_pos (y := bB t H J) (by grind)]; decide
          · have := b3 ht' hH (J := -J) (by grind) (by rw [eP]; grind)
            rw [rs_pos p, rs_pos (y := bB t H J) (by grind)]; decide
  · subst ht
    have hH := hR rfl
    have e1 : H + 0 * J = H := by grind
    have e2 : bB 0 H J = H * J := by unfold bB; grind
    rw [e1, e2, rs_zero (y := 0 * H) (by grind), if_neg (by decide)]
    rcases tri H with h | h | h
    · have h0 : 0 < J * J - 4 * H := by have := sq J; grind
      rw [rs_neg h, rs_pos h0]
      rcases rs_any (H * J) with q | q | q <;> rw [q] <;> rcases rs_any J with w | w | w <;> rw [w] <;> decide
    · exact absurd h hH
    · have e3 : ratSign (H * J) = ratSign J := by
        rcases tri J with q | q | q
        · rw [rs_neg q, rs_neg (pn h q)]
        · rw [q, rs_zero (y := H * 0) (by grind), rs_zero (y := 0) rfl]
        · rw [rs_pos q, rs_pos (pp h q)]
      rw [e3, rs_pos h]
      rcases rs_any J with w | w | w <;> rw [w] <;> rcases rs_any (J * J - 4 * H) with q | q | q <;> rw [q] <;> decide
  · rw [if_neg (by grind), Nat.zero_add]
    rcases tri H with hH | hH | hH
    · have h0 : 0 < J * J - 4 * H := by have := sq J; grind
      rw [rs_neg (pn ht hH), rs_neg hH, rs_pos h0]
      rcases tri (H + t * J) with p | p | p
      · rw [rs_neg p]
        rcases any2 with q | q | q <;> rw [q] <;> rcases rs_any J with w | w | w <;> rw [w] <;> decide
      · rw [rs_zero p]
        rcases any2 with q | q | q <;> rw [q] <;> rcases rs_any J with w | w | w <;> rw [w] <;> decide
      · have := b4 (J := J) ht hH (by grind)
        rw [rs_pos p, rs_pos this]
        rcases rs_any J with w | w | w <;> rw [w] <;> decide
    · subst hH
      rw [rs_zero (y := t * 0) (by grind), rs_zero (y := 0) rfl]
      rcases tri J with hJ | hJ | hJ
      · have h0 : 0 < J * J - 4 * 0 := by have := nn hJ hJ; grind
        rw [rs_neg (y := 0 + t * J) (by have := pn ht hJ; grind), rs_neg hJ, rs_pos h0]
        rcases any2 with q | q | q <;> rw [q] <;> decide
      · exact absurd (by rw [hJ]; grind) hD
      · have h0 : 0 < J * J - 4 * 0 := by have := pp hJ hJ; grind
        have hB : 0 < bB t 0 J := by
          have := pp ht hJ
          have h1 := pp (a := t + J) (by grind) this
          unfold bB; grind
        rw [rs_pos (y := 0 + t * J) (by have := pp ht hJ; grind), rs_pos hB, rs_pos hJ, rs_pos h0]; decide
    · rw [rs_pos (pp ht hH), rs_pos hH]
      rcases tri (J * J - 4 * H) with d | d | d
      · rw [rs_neg d]
        rcases tri J with hJ | hJ | hJ
        · have := b2 ht hH hJ d
          rw [rs_neg this, rs_neg hJ]
          rcases any1 with q | q | q <;> rw [q] <;> decide
        · rw [rs_pos (y := H + t * J) (by rw [hJ]; grind), rs_zero hJ]
          rcases any2 with q | q | q <;> rw [q] <;> decide
        · rw [rs_pos (y := H + t * J) (by have := pp ht hJ; grind), rs_pos hJ]
          rcases any2 with q | q | q <;> rw [q] <;> decide
      · exact absurd d hD
      · rw [rs_pos d]
        rcases tri J with hJ | hJ | hJ
        · rw [rs_neg hJ]
          rcases tri (H + t * J) with p | p | p
          · rw [rs_neg p]
            rcases any2 with q | q | q <;> rw [q] <;> decide
          · have := b3 ht hH hJ (by grind)
            rw [rs_zero p, rs_neg this]; decide
          · have := b3 ht hH hJ (by grind)
            rw [rs_pos p, rs_neg this]; decide
        · rw [hJ] at d; grind
        · have := b1 ht hH hJ d
          rw [rs_pos (y := H + t * J) (by have := pp ht hJ; grind), rs_pos this, rs_pos hJ]; decide
end
end St
set_option Elab.async false
set_option linter.all false
namespace St
open AlOne (Uni value)
open Sl
open Al03 (ratSign changes changesAt sturm sturmFrom between wholeFrom ratRoots)
/-! ### what's left of degree 2: its own row only falls -/
theorem low_row {u v a b : Rat} (hab : a < b) (hD : cD u v ≠ 0) : V [ratSign (b * b + u * b + v), ratSign (2 * b + u), ratSign (cD u v)] ≤ V [ratSign (a * a + u * a + v), ratSign (2 * a + u), ratSign (cD u v)] := by
  have ea : (2 * a + u) * (2 * a + u) - 4 * (a * a + u * a + v) = cD u v := by unfold cD; grind
  have eb : (2 * b + u) * (2 * b + u) - 4 * (b * b + u * b + v) = cD u v := by unfold cD; grind
  have ed : 2 * ((b * b + u * b + v) - (a * a + u * a + v)) = (b - a) * ((2 * a + u) + (2 * b + u)) := by grind
  have hJ : 2 * a + u < 2 * b + u := by grind
  have hba : 0 < b - a := by grind
  generalize a * a + u * a + v = Ha at *
  generalize b * b + u * b + v = Hb at *
  generalize 2 * a + u = Ja at *
  generalize 2 * b + u = Jb at *
  generalize cD u v = d at *
  rcases tri d with hd | hd | hd
  · have h1 : 0 < Ha := by have := sq Ja; grind
    have h2 : 0 < Hb := by have := sq Jb; grind
    rw [rs_neg hd, rs_pos h1, rs_pos h2]
    rcases rs_any Ja with q | q | q <;> rw [q] <;> rcases rs_any Jb with w | w | w <;> rw [w] <;> decide
  · exact absurd hd hD
  · rw [rs_pos hd]
    rcases tri Hb with hb | hb | hb
    · -- one root above b
      rw [rs_neg hb]
      rcases tri Ha with ha | ha | ha
      · rw [rs_neg ha]
        rcases rs_any Ja with q | q | q <;> rw [q] <;> rcases rs_any Jb with w | w | w <;> rw [w] <;> decide
      · rcases tri Ja with q | q | q
        · rw [rs_zero ha, rs_neg q]
          rcases rs_any Jb with w | w | w <;> rw [w] <;> decide
        · rw [ha, q] at ea; grind
        · have := pp hba (b := Ja + Jb) (by grind); grind
      · rcases tri Ja with q | q | q
        · rw [rs_pos ha, rs_neg q]
          rcases rs_any Jb with w | w | w <;> rw [w] <;> decide
        · rw [q] at ea; grind
        · have := pp hba (b := Ja + Jb) (by grind); grind
    · rcases tri Jb with p | p | p
      · have h1 : 0 < Ha := by have := pn hba (b := Ja + Jb) (by grind); grind
        rw [rs_zero hb, rs_neg p, rs_pos h1, rs_neg (y := Ja) (by grind)]; decide
      · rw [hb, p] at eb; grind
      · rw [rs_zero hb, rs_pos p]
        rcases rs_any Ha with q | q | q <;> rw [q] <;> rcases rs_any Ja with w | w | w <;> rw [w] <;> decide
    · rcases tri Jb with p | p | p
      · have h1 : 0 < Ha := by have := pn hba (b := Ja + Jb) (by grind); grind
        rw [rs_pos hb, rs_neg p, rs_pos h1, rs_neg (y := Ja) (by grind)]; decide
      · rw [p] at eb; grind
      · rw [rs_pos hb, rs_pos p]
        rcases rs_any Ha with q | q | q <;> rw [q] <;> rcases rs_any Ja with w | w | w <;> rw [w] <;> decide
theorem cub_signs {r u v : Rat} (hA : cA r u v ≠ 0) (hD : cD u v ≠ 0) (hR : cR r u v ≠ 0) (x : Rat) : changesAt x (sturm (cub r u v)) = (if x - r < 0 then 1 else 0) + V [ratSign (x * x + u * x + v), ratSign (2 * x + u), ratSign (cD u v)] := by
  obtain ⟨e, hs, hk⟩ := sturm3 hA hD hR
  have eD : (2 * x + u) * (2 * x + u) - 4 * (x * x + u * x + v) = cD u v := by unfold cD; grind
  have h := row_at (t := x - r) (H := x * x + u * x + v) (J := 2 * x + u) (by rw [eD]; exact hD) (fun z w => hR (by
    have : x = r := by grind
    rw [this] at w
    unfold cR; grind))
  rw [eD] at h
  rw [e, at_map, ← h]
  have e0 : value x (cub r u v) = (x - r) * (x * x + u * x + v) := by unfold cub; rw [v4]; grind
  have e1 : value x (sl r u v) = (x * x + u * x + v) + (x - r) * (2 * x + u) := by unfold sl; rw [v3]; grind
  have e2 : value x [2 / 9 * cB r u v, 2 / 9 * cA r u v] = 1 / 9 * bB (x - r) (x * x + u * x + v) (2 * x + u) := by rw [v2]; unfold cA cB bB; grind
  have s2 : ratSign (value x [2 / 9 * cB r u v, 2 / 9 * cA r u v]) = ratSign (bB (x - r) (x * x + u * x + v) (2 * x + u)) := by
    rw [e2]
    generalize bB (x - r) (x * x + u * x + v) (2 * x + u) = y
    rcases tri y with q | q | q
    · rw [rs_neg q, rs_neg (by grind)]
    · rw [rs_zero q, rs_zero (by grind)]
    · rw [rs_pos q, rs_pos (by grind)]
  have s3 : ratSign (value x [-cK r u v]) = ratSign (cD u v) := by
    rw [v1]
    rcases tri (cD u v) with q | q | q
    · rw [rs_neg q]
      refine rs_neg ?_
      rcases tri (-cK r u v) with w | w | w
      · exact w
      · exact absurd (by grind) hk
      · have := hs.mp w; grind
    · exact absurd q hD
    · rw [rs_pos q, rs_pos (hs.mpr q)]
  show V [ratSign (value x (cub r u v)), ratSign (value x (sl r u v)), ratSign (value x [2 / 9 * cB r u v, 2 / 9 * cA r u v]), ratSign (value x [-cK r u v])] = _
  rw [e0, e1, s2, s3]
theorem quad_signs {r s : Rat} (h : r ≠ s) (x : Rat) : changesAt x (sturm (quad r s)) = (if x < r then 1 else 0) + (if x < s then 1 else 0) := by
  have hk : 0 < (r - s) * (r - s) / 4 := by
    have : 0 < (r - s) * (r - s) := by
      rcases tri (r - s) with q | q | q
      · exact nn q q
      · exact absurd (by grind) h
      · exact pp q q
    grind
  rw [sturm2 h, at_map]
  have e0 : value x (quad r s) = (x - r) * (x - s) := by unfold quad; rw [v3]; grind
  have e1 : value x [-(r + s), 2] = (x - r) + (x - s) := by rw [v2]; grind
  show V [ratSign (value x (quad r s)), ratSign (value x [-(r + s), 2]), ratSign (value x [(r - s) * (r - s) / 4])] = _
  rw [e0, e1, v1, rs_pos hk]
  rcases tri (x - r) with p | p | p
  · rw [if_pos (by grind)]
    rcases tri (x - s) with q | q | q
    · rw [if_pos (by grind), rs_pos (nn p q), rs_neg (by grind)]; decide
    · rw [if_neg (by grind), rs_zero (y := (x - r) * (x - s)) (by rw [q]; grind), rs_neg (by grind)]; decide
    · rw [if_neg (by grind), rs_neg (np p q)]
      rcases rs_any (x - r + (x - s)) with w | w | w <;> rw [w] <;> decide
  · rw [if_neg (by grind), rs_zero (y := (x - r) * (x - s)) (by rw [p]; grind)]
    rcases tri (x - s) with q | q | q
    · rw [if_pos (by grind), rs_neg (by grind)]; decide
    · exact absurd (by grind) h
    · rw [if_neg (by grind), rs_pos (by grind)]; decide
  · rw [if_neg (by grind)]
    rcases tri (x - s) with q | q | q
    · rw [if_pos (by grind), rs_neg (pn p q)]
      rcases rs_any (x - r + (x - s)) with w | w | w <;> rw [w] <;> decide
    · rw [if_neg (by grind), rs_zero (y := (x - r) * (x - s)) (by rw [q]; grind), rs_pos (by grind)]; decide
    · rw [if_neg (by grind), rs_pos (pp p q), rs_pos (by grind)]; decide
theorem flat_drop {r u v a b : Rat} (hA : cA r u v = 0) (hB : cB r u v ≠ 0) (ha : a < r) (hb : r ≤ b) : changesAt b (sturm (cub r u v)) < changesAt a (sturm (cub r u v)) := by
  have hv : v = (u * u + u * r + r * r) / 3 := by unfold cA at hA; grind
  have hw : u + 2 * r ≠ 0 := fun z => hB (by
    have hu : u = -2 * r := by grind
    unfold cB; rw [hv, hu]; grind)
  have hH : ∀ x : Rat, 0 < x * x + u * x + v := fun x => by
    have h1 := sq (x + u / 2)
    have h2 : 0 < (u + 2 * r) * (u + 2 * r) := by
      rcases tri (u + 2 * r) with q | q | q
      · exact nn q q
      · exact absurd q hw
      · exact pp q q
    rw [hv]; grind
  rw [sturm3z hA hB, at_map, at_map]
  have e0 : ∀ x, value x (cub r u v) = (x - r) * (x * x + u * x + v) := fun x => by unfold cub; rw [v4]; grind
  have e1 : ∀ x, value x (sl r u v) = 3 * ((x + (u - r) / 3) * (x + (u - r) / 3)) := fun x => by unfold sl; rw [v3, hv]; grind
  have nonneg : ∀ x, 0 ≤ value x (sl r u v) := fun x => by rw [e1]; have := sq (x + (u - r) / 3); grind
  have hqa : value a (cub r u v) < 0 := by rw [e0]; exact np (by grind) (hH a)
  have hqb : 0 ≤ value b (cub r u v) := by rw [e0]; exact Rat.mul_nonneg (by grind) (Rat.le_of_lt (hH b))
  have key : value a (sl r u v) = 0 → 0 < cB r u v := fun z => by
    rw [e1] at z
    have hz : (a + (u - r) / 3) * (a + (u - r) / 3) = 0 := by grind
    have ha' : a = -(u - r) / 3 := by rcases Rat.mul_eq_zero.mp hz with q | q <;> grind
    have : value a (cub r u v) = -(2 / 9 * cB r u v) := by
      unfold cub cB
      rw [v4, hv, ha']; grind
    grind
  show V [ratSign (value b (cub r u v)), ratSign (value b (sl r u v)), ratSign (value b [2 / 9 * cB r u v])] < V [ratSign (value a (cub r u v)), ratSign (value a (sl r u v)), ratSign (value a [2 / 9 * cB r u v])]
  rw [v1, v1, rs_neg hqa]
  have na := nonneg a
  have nb := nonneg b
  generalize value a (sl r u v) = ya at *
  generalize value b (sl r u v) = yb at *
  generalize value b (cub r u v) = zb at *
  rcases tri (cB r u v) with q | q | q
  · rw [rs_neg (y := 2 / 9 * cB r u v) (by grind)]
    rcases tri ya with p | p | p
    · grind
    · have := key p; grind
    · rw [rs_pos p]
      rcases tri zb with w | w | w
      · grind
      · rw [rs_zero w]; rcases rs_any yb with z | z | z <;> rw [z] <;> decide
      · rw [rs_pos w]
        rcases tri yb with z | z | z
        · grind
        · rw [rs_zero z]; decide
        · rw [rs_pos z]; decide
  · exact absurd q hB
  · rw [rs_pos (y := 2 / 9 * cB r u v) (by grind)]
    rcases tri zb with w | w | w
    · grind
    · rw [rs_zero w]
      rcases tri yb with z | z | z
      · grind
      · rw [rs_zero z]; rcases tri ya with p | p | p
        · grind
        · rw [rs_zero p]; decide
        · rw [rs_pos p]; decide
      · rw [rs_pos z]; rcases tri ya with p | p | p
        · grind
        · rw [rs_zero p]; decide
        · rw [rs_pos p]; decide
    · rw [rs_pos w]
      rcases tri yb with z | z | z
      · grind
      · rw [rs_zero z]; rcases tri ya with p | p | p
        · grind
        · rw [rs_zero p]; decide
        · rw [rs_pos p]; decide
      · rw [rs_pos z]; rcases tri ya with p | p | p
        · grind
        · rw [rs_zero p]; decide
        · rw [rs_pos p]; decide
/-- **a root above a, not above b, is seen by the row** -/
theorem drop {r : Rat} {q : Uni} (F : Form r q) {a b : Rat} (ha : a < r) (hb : r ≤ b) : changesAt b (sturm q) < changesAt a (sturm q) := by
  cases F with
  | one =>
    rw [sturm1, at_map, at_map]
    show V [ratSign (value b [-r, 1]), ratSign (value b [1])] < V [ratSign (value a [-r, 1]), ratSign (value a [1])]
    rw [v2, v1, v2, v1, rs_neg (y := -r + 1 * a) (by grind), rs_pos (y := 1) (by decide)]
    rcases tri (-r + 1 * b) with q | q | q
    · grind
    · rw [rs_zero q]; decide
    · rw [rs_pos q]; decide
  | two s h =>
    rw [quad_signs h, quad_signs h, if_pos ha, if_neg (by grind)]
    by_cases k : b < s
    · rw [if_pos k, if_pos (by grind)]; omega
    · rw [if_neg k]; omega
  | three u v hA hD hR =>
    rw [cub_signs hA hD hR, cub_signs hA hD hR, if_neg (show ¬ b - r < 0 by grind), if_pos (show a - r < 0 by grind)]
    have := low_row (a := a) (b := b) (by grind) hD
    omega
  | flat u v hA hB => exact flat_drop hA hB ha hb
/-! ### whole roots -/
theorem between_ne {m : Uni} {r a b : Rat} (hm : Mon m) (hl : 2 ≤ m.length) (hu : m.length ≤ 4) (hr : value r m = 0) (ha : a < r) (hb : r ≤ b) : between m a b ≠ 0 := by
  have := drop (form_of hm hl hu hr) ha hb
  show changesAt a (sturm (free m)) - changesAt b (sturm (free m)) ≠ 0
  omega
theorem whole_sound {m : Uni} : ∀ (f : Nat) (lo z : Int), z ∈ wholeFrom m f lo → value (z : Rat) m = 0
  | 0, lo, z, h => by
    unfold wholeFrom at h
    split at h
    · rw [List.mem_singleton] at h; rw [h]; assumption
    · cases h
  | f + 1, lo, z, h => by
    unfold wholeFrom at h
    split at h
    · cases h
    · rcases List.mem_append.mp h with h | h
      · exact whole_sound f _ z h
      · exact whole_sound f _ z h
theorem whole_all {m : Uni} (hm : Mon m) (hl : 2 ≤ m.length) (hu : m.length ≤ 4) {z : Int} (hz : value (z : Rat) m = 0) : ∀ (f : Nat) (lo : Int), lo < z → z ≤ lo + 2 ^ f → z ∈ wholeFrom m f lo
  | 0, lo, h1, h2 => by
    have e : z = lo + 1 := by have : (2 : Int) ^ 0 = 1 := rfl; omega
    unfold wholeFrom
    rw [← e, if_pos hz]
    exact List.mem_cons_self ..
  | f + 1, lo, h1, h2 => by
    have hne : between m (lo : Rat) ((lo + 2 ^ (f + 1) : Int) : Rat) ≠ 0 := between_ne hm hl hu hz (Rat.intCast_lt_intCast.mpr h1) (Rat.intCast_le_intCast.mpr h2)
    unfold wholeFrom
    rw [if_neg hne]
    have e : (2 : Int) ^ (f + 1) = 2 ^ f + 2 ^ f := by rw [Int.pow_succ]; omega
    by_cases h : z ≤ lo + 2 ^ f
    · exact List.mem_append.mpr (.inl (whole_all hm hl hu hz f lo h1 h))
    · exact List.mem_append.mpr (.inr (whole_all hm hl hu hz f (lo + 2 ^ f) (by omega) (by omega)))
end St
set_option Elab.async false
set_option linter.all false
namespace St
open AlOne (Uni value)
open Sl
open Al03 (ratSign changes changesAt sturm sturmFrom between wholeFrom ratRoots)
/-! ### made whole -/
theorem gcd_fold : ∀ (p : List Rat) (g : Nat), p.foldl (fun (g : Nat) (x : Rat) => Nat.gcd g x.num.natAbs) g ∣ g ∧ ∀ x ∈ p, p.foldl (fun (g : Nat) (x : Rat) => Nat.gcd g x.num.natAbs) g ∣ x.num.natAbs
  | [], g => ⟨Nat.dvd_refl g, fun x h => by cases h⟩
  | c :: p, g => by
    have ih := gcd_fold p (Nat.gcd g c.num.natAbs)
    refine ⟨Nat.dvd_trans ih.1 (Nat.gcd_dvd_left _ _), fun x hx => ?_⟩
    rcases List.mem_cons.mp hx with hx | hx
    · rw [hx]; exact Nat.dvd_trans ih.1 (Nat.gcd_dvd_right _ _)
    · exact ih.2 x hx
theorem lcm_fold : ∀ (p : List Rat) (g : Nat), g ∣ p.foldl (fun (g : Nat) (x : Rat) => Nat.lcm g x.den) g ∧ (∀ x ∈ p, x.den ∣ p.foldl (fun (g : Nat) (x : Rat) => Nat.lcm g x.den) g) ∧ (0 < g → 0 < p.foldl (fun (g : Nat) (x : Rat) => Nat.lcm g x.den) g)
  | [], g => ⟨Nat.dvd_refl g, (fun x h => by cases h), (fun h => h)⟩
  | c :: p, g => by
    have ih := lcm_fold p (Nat.lcm g c.den)
    refine ⟨Nat.dvd_trans (Nat.dvd_lcm_left _ _) ih.1, fun x hx => ?_, fun h => ih.2.2 (Nat.lcm_pos h c.den_pos)⟩
    rcases List.mem_cons.mp hx with hx | hx
    · rw [hx]; exact Nat.dvd_trans (Nat.dvd_lcm_right _ _) ih.1
    · exact ih.2.1 x hx
theorem front_ok {p : Uni} (ht : Tr p) (h0 : p ≠ []) : Al02.front p ≠ 0 ∧ ∀ x ∈ p, ∃ k : Int, (1 / Al02.front p) * x = (k : Rat) := by
  unfold Al02.front
  have hg := (gcd_fold p 0).2
  have hl := lcm_fold p 1
  simp only
  generalize p.foldl (fun (g : Nat) (x : Rat) => Nat.gcd g x.num.natAbs) 0 = n at *
  generalize p.foldl (fun (g : Nat) (x : Rat) => Nat.lcm g x.den) 1 = d at *
  have hd := hl.2.2 (by decide)
  have hn : 0 < n := by
    have hlast : p.getLast? = some (p.getLast h0) := List.getLast?_eq_getLast h0
    have hc := ht _ hlast
    have hdv := hg _ (List.getLast_mem h0)
    refine Nat.pos_of_ne_zero fun z => hc ?_
    rw [z] at hdv
    have := Nat.eq_zero_of_zero_dvd hdv
    exact Rat.num_eq_zero.mp (by omega)
  have hnR : (n : Rat) ≠ 0 := fun z => by have := Rat.natCast_eq_zero_iff.mp z; omega
  have hdR : (d : Rat) ≠ 0 := fun z => by have := Rat.natCast_eq_zero_iff.mp z; omega
  generalize hsg : (if AlOne.lead p < 0 then (-1 : Rat) else 1) = sg
  have hs : sg * sg = 1 := by rw [← hsg]; split <;> grind
  have hs0 : sg ≠ 0 := by grind
  refine ⟨fun z => ?_, fun x hx => ?_⟩
  · have : (n : Rat) / (d : Rat) = 0 := by rcases Rat.mul_eq_zero.mp z with q | q; exact absurd q hs0; exact q
    exact hnR (by grind)
  · obtain ⟨a, ha⟩ : ((n : Nat) : Int) ∣ x.num := Int.ofNat_dvd_left.mpr (hg x hx)
    obtain ⟨e, he⟩ := hl.2.1 x hx
    have hx2 := rat_self x
    have hden : (x.den : Rat) ≠ 0 := fun z => by have := Rat.natCast_eq_zero_iff.mp z; have := x.den_pos; omega
    have h1 : (x.num : Rat) = (n : Rat) * (a : Rat) := by rw [ha, Rat.intCast_mul, Rat.intCast_natCast]
    have h2 : (d : Rat) = (x.den : Rat) * (e : Rat) := by rw [he, Rat.natCast_mul]
    by_cases q : sg = 1
    · refine ⟨a * (e : Int), ?_⟩
      rw [Rat.intCast_mul, Rat.intCast_natCast, ← hx2, h1, q, h2]
      have he0 : (e : Rat) ≠ 0 := fun z => by rw [z] at h2; grind
      grind
    · have q' : sg = -1 := by grind
      refine ⟨-(a * (e : Int)), ?_⟩
      rw [Rat.intCast_neg, Rat.intCast_mul, Rat.intCast_natCast, ← hx2, h1, q', h2]
      have he0 : (e : Rat) ≠ 0 := fun z => by rw [z] at h2; grind
      grind
theorem scale_map {c : Rat} {p : Uni} (hc : c ≠ 0) (ht : Tr p) : AlOne.scale c p = p.map fun x => c * x := by
  unfold AlOne.scale
  refine trim_self _ fun d hd => ?_
  rw [List.getLast?_map] at hd
  cases e : p.getLast? with
  | none => rw [e] at hd; cases hd
  | some y =>
    rw [e] at hd
    have : c * y = d := by simpa using hd
    rw [← this]
    intro z
    rcases Rat.mul_eq_zero.mp z with q | q
    · exact hc q
    · exact ht y e q
/-! ### by powers of the highest number -/
theorem power_add (c : Rat) (i : Nat) : ∀ j, AlBase.power c (i + j) = AlBase.power c i * AlBase.power c j
  | 0 => by show AlBase.power c i = AlBase.power c i * 1; grind
  | j + 1 => by
    show AlBase.power c (i + j) * c = AlBase.power c i * (AlBase.power c j * c)
    rw [power_add c i j]; grind
theorem power_ne {c : Rat} (hc : c ≠ 0) : ∀ n, AlBase.power c n ≠ 0
  | 0 => by show (1 : Rat) ≠ 0; decide
  | n + 1 => fun z => by
    rcases Rat.mul_eq_zero.mp (show AlBase.power c n * c = 0 from z) with q | q
    · exact power_ne hc n q
    · exact hc q
def mk (c : Rat) (n i : Nat) (l : List Rat) : List Rat := (l.zip (List.range' i l.length)).map fun (x : Rat × Nat) => x.1 * AlBase.power c (n - x.2) / c
theorem mk_cons (c : Rat) (n i : Nat) (w : Rat) (l : List Rat) : mk c n i (w :: l) = (w * AlBase.power c (n - i) / c) :: mk c n (i + 1) l := by
  unfold mk
  rw [List.length_cons, List.range'_succ, List.zip_cons_cons, List.map_cons]
theorem mk_val {c : Rat} (hc : c ≠ 0) (k : Rat) (n : Nat) : ∀ (l : List Rat) (i : Nat), i + l.length = n + 1 → AlBase.power c i * value (k * c) (mk c n i l) = AlBase.power c n / c * value k l
  | [], i, h => by show _ * 0 = _ * 0; grind
  | w :: l, i, h => by
    rw [List.length_cons] at h
    have ih := mk_val hc k n l (i + 1) (by omega)
    have hp := power_add c i (n - i)
    rw [show i + (n - i) = n by omega] at hp
    rw [mk_cons]
    show AlBase.power c i * (w * AlBase.power c (n - i) / c + (k * c) * value (k * c) (mk c n (i + 1) l)) = AlBase.power c n / c * (w + k * value k l)
    have e : AlBase.power c (i + 1) = AlBase.power c i * c := rfl
    rw [e] at ih
    rw [hp] at ih ⊢
    generalize value (k * c) (mk c n (i + 1) l) = X at *
    generalize value k l = Y at *
    generalize AlBase.power c i = P at *
    generalize AlBase.power c (n - i) = R at *
    have : P * ((k * c) * X) = k * (P * R / c * Y) := by rw [← ih]; grind
    grind
theorem mk_last {c : Rat} (n : Nat) : ∀ (l : List Rat) (i : Nat), i + l.length = n + 1 → (mk c n i l).getLast? = l.getLast?.map fun w => w * 1 / c
  | [], i, h => rfl
  | [w], i, h => by
    have : n - i = 0 := by simp at h; omega
    rw [mk_cons, this]; rfl
  | w :: y :: l, i, h => by
    rw [List.length_cons] at h
    have ih := mk_last (c := c) n (y :: l) (i + 1) (by omega)
    rw [List.getLast?_cons_cons, ← ih, mk_cons c n i, mk_cons c n (i + 1), List.getLast?_cons_cons]
theorem mk_len (c : Rat) (n : Nat) : ∀ (l : List Rat) (i : Nat), (mk c n i l).length = l.length
  | [], _ => rfl
  | w :: l, i => by rw [mk_cons, List.length_cons, List.length_cons, mk_len c n l]
/-! ### roots lie within -/
theorem num_bound (y : Rat) : y ≤ (y.num.natAbs : Rat) ∧ -(y.num.natAbs : Rat) ≤ y := by
  have hd := y.den_pos
  have h1 : y.num * 1 ≤ (y.num.natAbs : Int) * (y.den : Int) := by
    have : (y.num.natAbs : Int) * 1 ≤ (y.num.natAbs : Int) * (y.den : Int) := Int.mul_le_mul_of_nonneg_left (by omega) (by omega)
    omega
  have h2 : -(y.num.natAbs : Int) * (y.den : Int) ≤ y.num * 1 := by
    have : (y.num.natAbs : Int) * 1 ≤ (y.num.natAbs : Int) * (y.den : Int) := Int.mul_le_mul_of_nonneg_left (by omega) (by omega)
    rw [Int.neg_mul]
    omega
  exact ⟨(Rat.le_iff _ _).mpr h1, (Rat.le_iff _ _).mpr h2⟩
theorem max_fold : ∀ (l : List Nat) (s : Nat), s ≤ l.foldl max s ∧ ∀ x ∈ l, x ≤ l.foldl max s
  | [], s => ⟨Nat.le_refl s, fun x h => by cases h⟩
  | y :: l, s => by
    have ih := max_fold l (max s y)
    refine ⟨Nat.le_trans (Nat.le_max_left _ _) ih.1, fun x hx => ?_⟩
    rcases List.mem_cons.mp hx with hx | hx
    · rw [hx]; exact Nat.le_trans (Nat.le_max_right _ _) ih.1
    · exact ih.2 x hx
/-- **the whole numbers, 0 or more, among the roots** -/
theorem nat_roots {p : Uni} (ht : Tr p) (h0 : p ≠ []) (hl : p.length ≤ 4) (k : Nat) : k ∈ Al10.naturals (ratRoots p) ↔ value (k : Rat) p = 0 := by
  obtain ⟨hf, hint⟩ := front_ok ht h0
  have hf1 : 1 / Al02.front p ≠ 0 := fun z => by
    have : (1 : Rat) = 0 := by grind
    exact absurd this (by decide)
  have hw := scale_map hf1 ht
  have hwt : Tr (AlOne.scale (1 / Al02.front p) p) := scale_tr _ _
  have hvw : ∀ x, value x (AlOne.scale (1 / Al02.front p) p) = 0 ↔ value x p = 0 := fun x => by
    rw [value_scale]
    constructor
    · intro z
      rcases Rat.mul_eq_zero.mp z with q | q
      · exact absurd q hf1
      · exact q
    · intro z; rw [z]; grind
  have hwi : ∀ x ∈ AlOne.scale (1 / Al02.front p) p, ∃ k : Int, x = (k : Rat) := fun x hx => by
    rw [hw] at hx
    obtain ⟨y, hy, rfl⟩ := List.mem_map.mp hx
    exact hint y hy
  have hwl : (AlOne.scale (1 / Al02.front p) p).length = p.length := by rw [hw, List.length_map]
  unfold ratRoots
  simp only
  generalize AlOne.scale (1 / Al02.front p) p = w at *
  have hw0 : w ≠ [] := fun z => by rw [z] at hwl; exact h0 (List.eq_nil_of_length_eq_zero hwl.symm)
  have hpos := List.length_pos_iff.mpr hw0
  have hlast : w.getLast? = some (AlOne.lead w) := by
    unfold AlOne.lead
    rw [List.getLast?_eq_getLast hw0, List.getLastD_eq_getLast?, List.getLast?_eq_getLast hw0]; rfl
  have hc0 : AlOne.lead w ≠ 0 := hwt _ hlast
  obtain ⟨ci, hci⟩ := hwi (AlOne.lead w) (List.mem_of_getLast? hlast)
  have hdeg : AlOne.degree w = w.length - 1 := rfl
  have em : (w.zip (List.range (AlOne.degree w + 1))).map (fun (x : Rat × Nat) => x.1 * AlBase.power (AlOne.lead w) (AlOne.degree w - x.2) / AlOne.lead w) = mk (AlOne.lead w) (AlOne.degree w) 0 w := by
    unfold mk
    rw [hdeg, show w.length - 1 + 1 = w.length by omega, List.range_eq_range']
  rw [em]
  generalize hcc : AlOne.lead w = c at *
  generalize hnn : AlOne.degree w = n at *
  have hlenn : 0 + w.length = n + 1 := by omega
  have hmlast := mk_last (c := c) n w 0 hlenn
  rw [hlast] at hmlast
  have hmon : Mon (mk c n 0 w) := by
    unfold Mon
    rw [hmlast]
    show some (c * 1 / c) = some 1
    congr 1; grind
  have hmtr : Tr (mk c n 0 w) := fun d hd => by
    unfold Mon at hmon
    rw [hmon] at hd
    cases hd; decide
  rw [trim_self _ hmtr]
  have hml := mk_len c n w 0
  have hroot : ∀ x : Rat, value (x * c) (mk c n 0 w) = 0 ↔ value x w = 0 := fun x => by
    have h := mk_val hc0 x n w 0 hlenn
    have e1 : AlBase.power c 0 = 1 := rfl
    have hP := power_ne hc0 n
    rw [e1] at h
    generalize AlBase.power c n = P at *
    constructor
    · intro z
      rw [z] at h
      have : P / c * value x w = 0 := by grind
      rcases Rat.mul_eq_zero.mp this with q | q
      · exact absurd (by grind) hP
      · exact q
    · intro z
      rw [z] at h
      grind
  generalize hmm : mk c n 0 w = m at *
  generalize hbb : (m.map fun (x : Rat) => x.num.natAbs).foldl max 1 + 1 = b
  constructor
  · intro h
    unfold Al10.naturals at h
    obtain ⟨r, hr, er⟩ := List.mem_filterMap.mp h
    split at er
    · rename_i hd
      cases er
      obtain ⟨z, hz, rfl⟩ := List.mem_map.mp hr
      have hv := whole_sound _ _ z hz
      have hrk : ((z : Rat) / c) = ((((z : Rat) / c).num.toNat : Nat) : Rat) := by
        generalize (z : Rat) / c = y at *
        have h1 := rat_self y
        rw [hd.1] at h1
        have h2 : ((y.num.toNat : Nat) : Rat) = (y.num : Rat) := by
          rw [← Rat.intCast_natCast, Int.toNat_of_nonneg hd.2]
        rw [h2]
        have h3 : ((1 : Nat) : Rat) = 1 := rfl
        rw [h3] at h1
        grind
      rw [← hrk, ← hvw, ← hroot]
      have : (z : Rat) / c * c = z := by grind
      rw [this]
      exact hv
    · cases er
  · intro h
    have hwv := (hvw k).mpr h
    have hv : value ((k : Rat) * c) m = 0 := (hroot k).mpr hwv
    have ez : (k : Rat) * c = (((k : Int) * ci : Int) : Rat) := by rw [hci, Rat.intCast_mul, Rat.intCast_natCast]
    rw [ez] at hv
    have hl2 : 2 ≤ m.length := by
      refine Nat.le_of_not_lt fun q => ?_
      have : m.length = 1 := by omega
      match m, this, hmon, hv with
      | [y], _, hmon, hv =>
        have hy : y = 1 := by simpa [Mon] using hmon
        rw [v1, hy] at hv
        exact absurd hv (by decide)
    have hin : In ((b - 1 : Nat) : Rat) m := fun y hy => by
      have hb := (max_fold (m.map fun (x : Rat) => x.num.natAbs) 1).2 y.num.natAbs (List.mem_map.mpr ⟨y, hy, rfl⟩)
      have hb' : y.num.natAbs ≤ b - 1 := by omega
      have h1 := num_bound y
      have h2 : ((y.num.natAbs : Nat) : Rat) ≤ ((b - 1 : Nat) : Rat) := Rat.natCast_le_natCast.mpr hb'
      exact ⟨by grind, by grind⟩
    have hb1 : 1 ≤ b := by omega
    have hB0 : (0 : Rat) ≤ ((b - 1 : Nat) : Rat) := Rat.natCast_nonneg
    have hBe : ((b - 1 : Nat) : Rat) + 1 = ((b : Int) : Rat) := by
      rw [Rat.intCast_natCast]
      have : b = (b - 1) + 1 := by omega
      conv => rhs; rw [this]
      rw [Rat.natCast_add]; rfl
    have hlog : b < 2 ^ (b.log2 + 1) := Nat.lt_log2_self
    have hlogI : (b : Int) < 2 ^ (b.log2 + 1) := by exact_mod_cast hlog
    generalize hzz : (k : Int) * ci = z at *
    have hz1 : z < (b : Int) := by
      refine Int.not_le.mp fun q => ?_
      have := horner_pos hB0 (x := (z : Rat)) (by rw [hBe]; exact Rat.intCast_le_intCast.mpr q) m hmon hin
      rw [hv] at this
      exact absurd this (by decide)
    have hz2 : -(b : Int) < z := by
      refine Int.not_le.mp fun q => ?_
      have := horner_neg hB0 (x := (z : Rat)) (by rw [hBe, ← Rat.intCast_neg]; exact Rat.intCast_le_intCast.mpr q) m hmon hin
      rw [hv] at this
      rcases this with w | w
      · exact absurd w (by decide)
      · exact absurd w (by decide)
    have e2 : (2 : Int) ^ (b.log2 + 2) = 2 ^ (b.log2 + 1) + 2 ^ (b.log2 + 1) := by rw [show b.log2 + 2 = (b.log2 + 1) + 1 by omega, Int.pow_succ]; omega
    have hmem := whole_all hmon hl2 (by omega) hv (b.log2 + 2) (-(2 ^ (b.log2 + 1) : Int)) (by omega) (by omega)
    unfold Al10.naturals
    refine List.mem_filterMap.mpr ⟨(z : Rat) / c, List.mem_map.mpr ⟨z, hmem, rfl⟩, ?_⟩
    have ek : (z : Rat) / c = (k : Rat) := by rw [← ez]; grind
    rw [ek, if_pos ⟨rfl, by rw [Rat.num_natCast]; omega⟩, Rat.num_natCast]
    rfl
end St
set_option Elab.async false
set_option linter.all false
namespace Ht
open AlOne (Uni value)
open Sl St
/-! ### values at whole numbers -/
def valI (l : List Int) (x : Int) : Int := l.foldr (fun c v => v * x + c) 0
theorem valI_cast (x : Int) : ∀ l : List Int, (valI l x : Rat) = value (x : Rat) (ra l)
  | [] => rfl
  | c :: l => by
    show ((valI l x * x + c : Int) : Rat) = (c : Rat) + (x : Rat) * value (x : Rat) (ra l)
    rw [Rat.intCast_add, Rat.intCast_mul, valI_cast x l]; grind
theorem value_zero (x : Rat) : ∀ p : List Rat, (∀ n, cq p n = 0) → value x p = 0
  | [], _ => rfl
  | c :: p, h => by
    have h0 : c = 0 := h 0
    have ih := value_zero x p fun n => by have := h (n + 1); rwa [cq_succ] at this
    show c + x * value x p = 0
    rw [h0, ih]; grind
theorem value_congr (x : Rat) : ∀ p q : List Rat, (∀ n, cq p n = cq q n) → value x p = value x q
  | [], q, h => by rw [value_zero x q fun n => (h n).symm]; rfl
  | c :: p, [], h => value_zero x (c :: p) h
  | c :: p, d :: q, h => by
    have e : c = d := h 0
    have ih := value_congr x p q fun n => by have := h (n + 1); rwa [cq_succ, cq_succ] at this
    show c + x * value x p = d + x * value x q
    rw [e, ih]
theorem value_compose (x k : Rat) : ∀ p : Uni, value x (AlOne.compose p (AlOne.trim [k, 1])) = value (x + k) p
  | [] => rfl
  | c :: l => by
    have ih := value_compose x k l
    unfold AlOne.compose
    rw [value_add, value_trim, value_mul, ih, value_trim, v1, v2]
    show c + (k + 1 * x) * value (x + k) l = c + (x + k) * value (x + k) l
    grind
theorem val_plus (a b : List Int) (x : Int) : valI (plusI a b) x = valI a x + valI b x := by
  have h : ((valI (plusI a b) x : Int) : Rat) = ((valI a x + valI b x : Int) : Rat) := by
    rw [Rat.intCast_add, valI_cast, valI_cast, valI_cast, ← value_addRaw]
    refine value_congr _ _ _ fun n => ?_
    rw [ra_cq, plusI_co, addRaw_cq, ra_cq, ra_cq, Rat.intCast_add]
  exact Rat.intCast_inj.mp h
theorem val_times (a b : List Int) (x : Int) : valI (timesI a b) x = valI a x * valI b x := by
  have h : ((valI (timesI a b) x : Int) : Rat) = ((valI a x * valI b x : Int) : Rat) := by
    rw [Rat.intCast_mul, valI_cast, valI_cast, valI_cast, ← value_mul]
    refine value_congr _ _ _ fun n => ?_
    rw [ra_cq, timesI_co, cvI_cast, mul_cq]
    congr 1
    funext m
    rw [ra_cq]
  exact Rat.intCast_inj.mp h
theorem val_step (l : List Int) (x : Int) : valI (stepI l) x = valI l (x + 1) := by
  have h : ((valI (stepI l) x : Int) : Rat) = ((valI l (x + 1) : Int) : Rat) := by
    rw [valI_cast, valI_cast, Rat.intCast_add, show ((1 : Int) : Rat) = 1 from rfl, ← value_compose]
    refine value_congr _ _ _ fun n => ?_
    rw [ra_cq, stepI_co, compose_cq]
  exact Rat.intCast_inj.mp h
def diffI (l : List Int) : List Int := plusI (stepI l) (timesI [-1] l)
theorem val_diff (l : List Int) (x : Int) : valI (diffI l) x = valI l (x + 1) - valI l x := by
  unfold diffI
  rw [val_plus, val_times, val_step]
  show valI l (x + 1) + (0 * x + -1) * valI l x = _
  omega
/-- one power less -/
theorem diff_len {l : List Int} (h : 0 < l.length) : (diffI l).length ≤ l.length - 1 := by
  have htr : TrI (diffI l) := plusI_tr _ _
  refine Nat.le_of_not_lt fun k => ?_
  have hne : diffI l ≠ [] := fun z => by rw [z] at k; simp at k
  have hlast : (diffI l).getLast? = some ((diffI l).getLast hne) := List.getLast?_eq_getLast hne
  have hz : ∀ i, l.length - 1 ≤ i → co (diffI l) i = 0 := fun i hi => by
    unfold diffI
    rw [plusI_co, timesI_co]
    have e1 : cvI [-1] (co l) i = -co l i := by
      cases i with
      | zero => show -1 * co l 0 = _; omega
      | succ i => show -1 * co l (i + 1) + 0 = _; omega
    rw [e1]
    have hs := stepI_co l i
    -- the numbers of y at x + 1 at the highest power
    have key : ∀ (p : List Rat) (j : Nat), p.length - 1 ≤ j → sh 1 p j = cq p j := by
      intro p
      induction p with
      | nil => intro j _; rfl
      | cons c p ih =>
        intro j hj
        have high : ∀ (q : List Rat) (m : Nat), q.length ≤ m → sh 1 q m = 0 := by
          intro q
          induction q with
          | nil => intro m _; rfl
          | cons d q ihq =>
            intro m hm
            cases m with
            | zero => simp at hm
            | succ m =>
              simp at hm
              show 1 * sh 1 q (m + 1) + sh 1 q m = 0
              rw [ihq (m + 1) (by omega), ihq m hm]; grind
        cases j with
        | zero =>
          have : p = [] := List.eq_nil_of_length_eq_zero (by simpa using hj)
          subst this
          show c + 1 * 0 = c; grind
        | succ j =>
          simp at hj
          show 1 * sh 1 p (j + 1) + sh 1 p j = cq (c :: p) (j + 1)
          rw [high p (j + 1) (by omega), ih j (by omega), cq_succ]; grind
    have h2 : sh 1 (ra l) i = cq (ra l) i := key (ra l) i (by unfold ra; rw [List.length_map]; exact hi)
    rw [h2, ra_cq] at hs
    have : co (stepI l) i = co l i := Rat.intCast_inj.mp hs
    omega
  have h1 := hz ((diffI l).length - 1) (by omega)
  unfold co at h1
  rw [List.getD_eq_getElem?_getD, List.getElem?_eq_getElem (by omega)] at h1
  rw [List.getLast_eq_getElem] at hlast
  refine htr ?_
  rw [hlast]
  congr 1
/-! ### changes of sign -/
def sgn (v : Int) : Int := if v = 0 then 0 else if 0 < v then 1 else -1
def chgR (f : Nat → Int) (a b : Nat) : List Nat := ((List.range' a (b - a)).filter fun i => decide (sgn (f (i + 1)) ≠ sgn (f i))).map (· + 1)
theorem chg_split (f : Nat → Int) {a b c : Nat} (h1 : a ≤ b) (h2 : b ≤ c) : chgR f a c = chgR f a b ++ chgR f b c := by
  unfold chgR
  rw [← List.map_append, ← List.filter_append]
  congr 2
  have e : c - a = (b - a) + (c - b) := by omega
  rw [e, ← List.range'_append_1, show a + (b - a) = b by omega]
theorem chg_none (f : Nat → Int) {a b : Nat} (h : ∀ i, a ≤ i → i < b → sgn (f (i + 1)) = sgn (f i)) : chgR f a b = [] := by
  unfold chgR
  rw [List.map_eq_nil_iff, List.filter_eq_nil_iff]
  intro i hi
  have := List.mem_range'_1.mp hi
  rw [h i this.1 (by omega)]
  simp
theorem chg_one (f : Nat → Int) {p : Nat} (h : sgn (f (p + 1)) ≠ sgn (f p)) : chgR f p (p + 1) = [p + 1] := by
  unfold chgR
  rw [show p + 1 - p = 1 by omega]
  show (List.filter _ [p]).map _ = _
  rw [List.filter_cons, if_pos (by simpa using h)]
  rfl
theorem chg_mem (f : Nat → Int) {a b p : Nat} : p ∈ chgR f a b ↔ a < p ∧ p ≤ b ∧ sgn (f p) ≠ sgn (f (p - 1)) := by
  unfold chgR
  rw [List.mem_map]
  constructor
  · rintro ⟨i, hi, rfl⟩
    obtain ⟨h1, h2⟩ := List.mem_filter.mp hi
    have := List.mem_range'_1.mp h1
    refine ⟨by omega, by omega, ?_⟩
    rw [Nat.add_sub_cancel]
    simpa using h2
  · rintro ⟨h1, h2, h3⟩
    refine ⟨p - 1, List.mem_filter.mpr ⟨List.mem_range'_1.mpr ⟨by omega, by omega⟩, ?_⟩, by omega⟩
    rw [show p - 1 + 1 = p by omega]
    simpa using h3
/-- the sign holds up to p, and from p on it doesn't -/
structure First (f : Nat → Int) (s e p : Nat) : Prop where
  lt : s < p
  le : p ≤ e
  low : ∀ x, s ≤ x → x < p → sgn (f x) = sgn (f s)
  high : ∀ x, p ≤ x → x ≤ e → sgn (f x) ≠ sgn (f s)
/-- between two places it only rises or only falls, or stays -/
def Mono (f : Nat → Int) (s e : Nat) : Prop := ∀ x y, s ≤ x → x ≤ y → y ≤ e → sgn (f y) = sgn (f s) → sgn (f x) = sgn (f s)
theorem first_ex {f : Nat → Int} {s : Nat} : ∀ (n e : Nat), e = s + n → Mono f s e → sgn (f s) ≠ sgn (f e) → ∃ p, First f s e p
  | 0, e, h, _, k => absurd (by rw [h]; rfl) k
  | n + 1, e, h, m, k => by
    by_cases q : sgn (f s) = sgn (f (s + n))
    · refine ⟨s + n + 1, by omega, by omega, fun x h1 h2 => m x (s + n) h1 (by omega) (by omega) q.symm, fun x h1 h2 => ?_⟩
      have : x = e := by omega
      rw [this]; exact fun z => k z.symm
    · obtain ⟨p, hp⟩ := first_ex n (s + n) rfl (fun x y h1 h2 h3 h4 => m x y h1 h2 (by omega) h4) q
      refine ⟨p, hp.lt, by have := hp.le; omega, hp.low, fun x h1 h2 z => ?_⟩
      have := m (s + n) x (by omega) 
      by_cases hx : x ≤ s + n
      · exact hp.high x h1 hx z
      · exact q (m (s + n) x (by omega) (by omega) h2 z).symm
theorem mono_of {f : Nat → Int} {s e : Nat} {σ : Int} (h : ∀ i, s ≤ i → i < e → sgn (f (i + 1) - f i) = σ) : ∀ a, s ≤ a → a ≤ e → Mono f a e := by
  have hs : ∀ v : Int, (sgn v = 0 ↔ v = 0) ∧ (sgn v = 1 ↔ 0 < v) ∧ (sgn v = -1 ↔ v < 0) := fun v => by
    unfold sgn
    split
    · rename_i z; subst z; simp
    · split
      · refine ⟨?_, ?_, ?_⟩ <;> constructor <;> intro q <;> omega
      · refine ⟨?_, ?_, ?_⟩ <;> constructor <;> intro q <;> omega
  have step : ∀ x y, s ≤ x → x ≤ y → y ≤ e → (σ = 0 → f y = f x) ∧ (σ = 1 → f x ≤ f y) ∧ (σ = -1 → f y ≤ f x) := by
    intro x y hx hxy
    obtain ⟨n, rfl⟩ : ∃ n, y = x + n := ⟨y - x, by omega⟩
    clear hxy
    induction n with
    | zero => intro _; simp
    | succ n ih =>
      intro hy
      obtain ⟨i1, i2, i3⟩ := ih (by omega)
      have hh := h (x + n) (by omega) (by omega)
      have hv := hs (f (x + n + 1) - f (x + n))
      rw [show x + (n + 1) = x + n + 1 by omega]
      refine ⟨fun z => ?_, fun z => ?_, fun z => ?_⟩
      · have := hv.1.mp (by rw [hh, z]); have := i1 z; omega
      · have := hv.2.1.mp (by rw [hh, z]); have := i2 z; omega
      · have := hv.2.2.mp (by rw [hh, z]); have := i3 z; omega
  intro a ha hae x y h1 h2 h3 h4
  by_cases hne : a < e
  · have hσ : σ = 0 ∨ σ = 1 ∨ σ = -1 := by
      have := h a ha hne
      rw [← this]
      unfold sgn
      split
      · exact .inl rfl
      · split
        · exact .inr (.inl rfl)
        · exact .inr (.inr rfl)
    have s1 := step a x ha h1 (by omega)
    have s2 := step x y (by omega) h2 h3
    have fa := hs (f a)
    have fx := hs (f x)
    have fy := hs (f y)
    have tri : sgn (f a) = 0 ∨ sgn (f a) = 1 ∨ sgn (f a) = -1 := by
      unfold sgn
      split
      · exact .inl rfl
      · split
        · exact .inr (.inl rfl)
        · exact .inr (.inr rfl)
    rcases hσ with z | z | z
    · have := s1.1 z; rw [this]
    · have q1 := s1.2.1 z
      have q2 := s2.2.1 z
      rcases tri with t | t | t
      · have := fa.1.mp t; have := fy.1.mp (h4.trans t); rw [t]; exact fx.1.mpr (by omega)
      · have := fa.2.1.mp t; rw [t]; exact fx.2.1.mpr (by omega)
      · have := fy.2.2.mp (h4.trans t); rw [t]; exact fx.2.2.mpr (by omega)
    · have q1 := s1.2.2 z
      have q2 := s2.2.2 z
      rcases tri with t | t | t
      · have := fa.1.mp t; have := fy.1.mp (h4.trans t); rw [t]; exact fx.1.mpr (by omega)
      · have := fy.2.1.mp (h4.trans t); rw [t]; exact fx.2.1.mpr (by omega)
      · have := fa.2.2.mp t; rw [t]; exact fx.2.2.mpr (by omega)
  · have : x = a := by omega
    rw [this]
end Ht
set_option Elab.async false
set_option linter.all false
namespace Sl
open AlBase (Poly Mono digits readDigits)
/-! ### a number's text -/
def PosM (m : Mono) : Prop := ∀ y ∈ m, 0 < y.2
def Pos (p : Poly) : Prop := ∀ x ∈ p, PosM x.1
theorem put_pos {a i : Nat} (hi : 0 < i) : ∀ m : Mono, PosM m → PosM (AlBase.put a i m)
  | [], _ => fun y hy => by
    rw [AlBase.put, List.mem_singleton] at hy; rw [hy]; exact hi
  | (b, j) :: m, h => by
    have hm : PosM m := fun y hy => h y (List.mem_cons_of_mem _ hy)
    have hj : 0 < j := h (b, j) (List.mem_cons_self ..)
    unfold AlBase.put
    split
    · intro y hy
      rcases List.mem_cons.mp hy with hy | hy
      · rw [hy]; exact hi
      · exact h y hy
    · split
      · intro y hy
        rcases List.mem_cons.mp hy with hy | hy
        · rw [hy]; show 0 < i + j; omega
        · exact hm y hy
      · intro y hy
        rcases List.mem_cons.mp hy with hy | hy
        · rw [hy]; exact hj
        · exact put_pos hi m hm y hy
theorem times_pos : ∀ (n m : Mono), PosM n → PosM m → PosM (AlBase.times m n)
  | [], m, _, h => h
  | x :: n, m, hn, h => times_pos n _ (fun y hy => hn y (List.mem_cons_of_mem _ hy)) (put_pos (hn x (List.mem_cons_self ..)) m h)
theorem plus_pos {m : Mono} {c : Rat} (hm : PosM m) : ∀ p : Poly, Pos p → Pos (AlBase.plus m c p)
  | [], _ => by
    unfold AlBase.plus
    split
    · intro x hx; cases hx
    · intro x hx; rw [List.mem_singleton] at hx; rw [hx]; exact hm
  | (n, d) :: p, h => by
    have hp : Pos p := fun x hx => h x (List.mem_cons_of_mem _ hx)
    have hn : PosM n := h (n, d) (List.mem_cons_self ..)
    unfold AlBase.plus
    split
    · exact h
    · split
      · split
        · exact hp
        · intro x hx
          rcases List.mem_cons.mp hx with hx | hx
          · rw [hx]; exact hn
          · exact hp x hx
      · split
        · intro x hx
          rcases List.mem_cons.mp hx with hx | hx
          · rw [hx]; exact hm
          · exact h x hx
        · intro x hx
          rcases List.mem_cons.mp hx with hx | hx
          · rw [hx]; exact hn
          · exact plus_pos hm p hp x hx
theorem add_pos : ∀ (q p : Poly), Pos q → Pos p → Pos (AlBase.add p q)
  | [], p, _, h => h
  | x :: q, p, hq, h => add_pos q _ (fun y hy => hq y (List.mem_cons_of_mem _ hy)) (plus_pos (hq x (List.mem_cons_self ..)) p h)
theorem scale_pos {c : Rat} {p : Poly} (h : Pos p) : Pos (AlBase.scale c p) := by
  unfold AlBase.scale
  split
  · intro x hx; cases hx
  · intro x hx
    obtain ⟨y, hy, rfl⟩ := List.mem_map.mp hx
    exact h y hy
theorem termTimes_pos {x : Mono × Rat} {p : Poly} (hx : PosM x.1) (h : Pos p) : Pos (AlBase.termTimes x p) := by
  intro z hz
  obtain ⟨y, hy, rfl⟩ := List.mem_map.mp hz
  exact times_pos _ _ (scale_pos h y hy) hx
theorem mulGo_pos {q : Poly} (hq : Pos q) : ∀ (p s : Poly), Pos p → Pos s → Pos (p.foldl (fun (s : Poly) (x : Mono × Rat) => AlBase.add s (AlBase.termTimes x q)) s)
  | [], s, _, h => h
  | x :: p, s, hp, h => mulGo_pos hq p _ (fun y hy => hp y (List.mem_cons_of_mem _ hy)) (add_pos _ _ (termTimes_pos (hp x (List.mem_cons_self ..)) hq) h)
theorem nil_pos : Pos [] := fun x hx => by cases hx
theorem mul_pos {p q : Poly} (hp : Pos p) (hq : Pos q) : Pos (AlBase.mul p q) := mulGo_pos hq p [] hp nil_pos
theorem one_pos : Pos AlBase.one := fun x hx => by
  unfold AlBase.one at hx
  rw [List.mem_singleton] at hx
  rw [hx]; intro y hy; cases hy
theorem const_pos (c : Rat) : Pos (AlBase.const c) := plus_pos (fun y hy => by cases hy) [] nil_pos
theorem single_pos {a n : Nat} (h : 0 < n) {c : Rat} : Pos [([(a, n)], c)] := fun x hx => by
  rw [List.mem_singleton] at hx
  rw [hx]
  intro y hy
  rw [List.mem_singleton] at hy
  rw [hy]; exact h
theorem readFactor_pos {w : List Nat} {p : Poly} (e : AlBase.readFactor w = some p) : Pos p := by
  unfold AlBase.readFactor at e
  split at e
  · split at e
    · cases e; exact single_pos (by decide)
    · rename_i l _ _ _
      cases h : AlBase.readNumber l with
      | none => rw [h] at e; cases e
      | some c => rw [h] at e; cases e; exact const_pos c
  · rename_i l x _
    cases h : AlBase.readLetter l with
    | none => rw [h] at e; cases e
    | some a =>
      rw [h] at e
      cases h2 : AlBase.readDigits x with
      | none => rw [h2] at e; cases e
      | some n =>
        rw [h2] at e
        have e' : (if n = 0 then AlBase.one else [([(a, n)], 1)]) = p := Option.some.inj e
        rw [← e']
        split
        · exact one_pos
        · exact single_pos (by omega)
  · cases e
theorem foldl_mul_pos : ∀ (l : List Poly) (s : Poly), (∀ p ∈ l, Pos p) → Pos s → Pos (l.foldl AlBase.mul s)
  | [], s, _, h => h
  | p :: l, s, hl, h => foldl_mul_pos l _ (fun q hq => hl q (List.mem_cons_of_mem _ hq)) (mul_pos h (hl p (List.mem_cons_self ..)))
theorem readTerm_pos {w : List Nat} {p : Poly} (e : AlBase.readTerm w = some p) : Pos p := by
  unfold AlBase.readTerm at e
  cases h : (AlBase.split 42 w).mapM AlBase.readFactor with
  | none => rw [h] at e; cases e
  | some l =>
    rw [h] at e
    cases e
    refine foldl_mul_pos l _ (fun p hp => ?_) one_pos
    obtain ⟨x, _, hx⟩ := mapM_mem h p hp
    exact readFactor_pos hx
theorem readMore_pos : ∀ (l : List (List Nat)) (s p : Poly), Pos s → AlBase.readMore s l = some p → Pos p
  | [], s, p, h, e => by cases e; exact h
  | [_], s, p, h, e => by cases e
  | g :: w :: l, s, p, h, e => by
    rw [readMore_two] at e
    split at e
    · cases h2 : AlBase.readTerm w with
      | none => rw [h2] at e; cases e
      | some q => rw [h2] at e; exact readMore_pos l _ p (add_pos _ _ (readTerm_pos h2) h) e
    · split at e
      · cases h2 : AlBase.readTerm w with
        | none => rw [h2] at e; cases e
        | some q => rw [h2] at e; exact readMore_pos l _ p (add_pos _ _ (scale_pos (readTerm_pos h2)) h) e
      · cases e
theorem readSum_pos {t : List Nat} {p : Poly} (e : AlBase.readSum t = some p) : Pos p := by
  unfold AlBase.readSum at e
  split at e
  · cases e
  · rename_i w l _
    split at e
    · cases h2 : AlBase.readTerm w.tail with
      | none => rw [h2] at e; cases e
      | some q => rw [h2] at e; exact readMore_pos l _ p (scale_pos (readTerm_pos h2)) e
    · cases h2 : AlBase.readTerm w with
      | none => rw [h2] at e; cases e
      | some q => rw [h2] at e; exact readMore_pos l _ p (readTerm_pos h2) e
theorem fmax_ge (f : Mono × Rat → Nat) : ∀ (p : Poly) (s : Nat), s ≤ p.foldl (fun (s : Nat) (x : Mono × Rat) => max s (f x)) s ∧ ∀ x ∈ p, f x ≤ p.foldl (fun (s : Nat) (x : Mono × Rat) => max s (f x)) s
  | [], s => ⟨Nat.le_refl _, fun x hx => by cases hx⟩
  | z :: p, s => by
    obtain ⟨h1, h2⟩ := fmax_ge f p (max s (f z))
    refine ⟨Nat.le_trans (Nat.le_max_left _ _) h1, fun x hx => ?_⟩
    rcases List.mem_cons.mp hx with hx | hx
    · rw [hx]; exact Nat.le_trans (Nat.le_max_right _ _) h1
    · exact h2 x hx
theorem sum_zero : ∀ {m : Mono}, PosM m → AlBase.degree m = 0 → m = []
  | [], _, _ => rfl
  | y :: m, h, e => by
    have hy := h y (List.mem_cons_self ..)
    unfold AlBase.degree at e
    rw [List.map_cons, List.sum_cons] at e
    omega
theorem deg_zero {p : Poly} (h : Pos p) (e : AlBase.polyDegree p = 0) : ∀ x ∈ p, x.1 = [] := fun x hx => by
  have := (fmax_ge (fun x => AlBase.degree x.1) p 0).2 x hx
  have e' : AlBase.degree x.1 ≤ AlBase.polyDegree p := this
  exact sum_zero (h x hx) (by omega)
/-! ### what the program makes of it -/
def readN (t : List Nat) : Option (List Tm) := if 120 ∈ t then none else read t
def numOf (l : List Tm) : Rat := cf (l.map xr) 0
theorem top_tail {x : Tm} {l : List Tm} (h : Valid (x :: l)) (h0 : x.p = 0) : l = [] := by
  cases l with
  | nil => rfl
  | cons y l =>
    have := (List.pairwise_cons.mp h.fall).1 y (List.mem_cons_self ..)
    omega
theorem has_x {l : List Tm} (h : Valid l) : 120 ∈ write l ↔ top (l.map xr) ≠ 0 := by
  cases l with
  | nil => simp [write, top]
  | cons x l =>
    show _ ↔ x.p ≠ 0
    by_cases h0 : x.p = 0
    · have hl := top_tail h h0
      subst hl
      refine ⟨fun z => ?_, fun z => absurd h0 z⟩
      exfalso
      have z' : 120 ∈ (if x.n < 0 then [45] else []) ++ wTerm x.p x.n.natAbs x.d ++ wRest [] := z
      rw [show wRest [] = [] from rfl, List.append_nil, List.mem_append] at z'
      rcases z' with z' | z'
      · split at z' <;> simp at z'
      · unfold wTerm at z'
        rw [if_pos h0] at z'
        exact frac_not (by omega) z'
    · refine ⟨fun _ => h0, fun _ => ?_⟩
      show 120 ∈ (if x.n < 0 then [45] else []) ++ wTerm x.p x.n.natAbs x.d ++ wRest l
      have : 120 ∈ wTerm x.p x.n.natAbs x.d := by
        unfold wTerm
        rw [if_neg h0]
        split
        · unfold wPow; exact List.mem_cons_self ..
        · unfold wPow; simp
      rw [List.mem_append, List.mem_append]
      exact .inl (.inr this)
theorem val_num {l : List Tm} (h : Valid l) (h0 : top (l.map xr) = 0) : AlBase.value (fun _ => 0) (toP (l.map xr)) = numOf l := by
  cases l with
  | nil => rfl
  | cons x l =>
    have hx : x.p = 0 := h0
    have hl := top_tail h hx
    subst hl
    unfold numOf
    show AlBase.value (fun _ => 0) [(mono x.p, (xr x).2)] = cf [(x.p, (xr x).2)] 0
    rw [hx]
    show (0 : Rat) + (xr x).2 * 1 = (xr x).2
    grind
theorem readNum_spec (t : List Nat) : AlOne.readNum t = (readN t).map numOf := by
  unfold readN
  cases e : read t with
  | some l =>
    obtain ⟨hv, hw⟩ := read_sound e
    unfold AlOne.readNum
    rw [← hw, spec_read_back hv]
    show (if AlBase.polyDegree (toP (l.map xr)) = 0 then some (AlBase.value (fun _ => 0) (toP (l.map xr))) else none) = _
    rw [degree_toP (valid_xc hv)]
    by_cases h0 : top (l.map xr) = 0
    · rw [if_pos h0, if_neg (fun z => (has_x hv).mp z h0), val_num hv h0]; rfl
    · rw [if_neg h0, if_pos ((has_x hv).mpr h0)]; rfl
  | none =>
    have : (if 120 ∈ t then none else (none : Option (List Tm))) = none := by split <;> rfl
    rw [this]
    show AlOne.readNum t = none
    unfold AlOne.readNum AlBase.read
    cases es : AlBase.readSum t with
    | none => rfl
    | some p =>
      show (if AlBase.text p = t then some p else none).bind _ = none
      by_cases ht : AlBase.text p = t
      · rw [if_pos ht]
        show (if AlBase.polyDegree p = 0 then some (AlBase.value (fun _ => 0) p) else none) = none
        by_cases hd : AlBase.polyDegree p = 0
        · exfalso
          have hz := deg_zero (readSum_pos es) hd
          have hx : ∀ x ∈ p, ∀ y ∈ x.1, y.1 = 23 := fun x hx y hy => by rw [hz x hx] at hy; cases hy
          have ho : OnlyX t := by rw [← ht]; exact onlyX_text hx
          obtain ⟨l, rfl, hc⟩ := readSum_x ho es
          have := read_write (xc_valid hc)
          rw [← text_write, ht, e] at this
          cases this
        · rw [if_neg hd]
      · rw [if_neg ht]; rfl
/-- a number of the beginning is too big just as a polynomial is -/
theorem numberOk_spec {l : List Tm} (h : Valid l) (h0 : top (l.map xr) = 0) : Al10.numberOk (numOf l) = !tooBig l := by
  cases l with
  | nil => rfl
  | cons x l =>
    have hx : x.p = 0 := h0
    have hl := top_tail h hx
    subst hl
    have hg := h.good x (List.mem_cons_self ..)
    have e : numOf [x] = (x.n : Rat) / (x.d : Rat) := by
      unfold numOf
      show cf [(x.p, (x.n : Rat) / (x.d : Rat))] 0 = _
      rw [hx]; rfl
    obtain ⟨e1, e2⟩ := rat_of hg.d0 hg.co
    have h1 := numberOk_iff (numOf [x])
    rw [e, e1, e2] at h1
    have h2 : (tooBig [x] = true) ↔ ¬ (x.n.natAbs ≤ 9999 ∧ x.d ≤ 9999) := by
      show (([x] : List Tm).any bigT = true) ↔ _
      unfold bigT
      simp [hx]
      omega
    rw [e]
    cases hb : tooBig [x] with
    | true => 
      have := h2.mp hb
      cases hn : Al10.numberOk ((x.n : Rat) / (x.d : Rat)) with
      | true => exact absurd (h1.mp hn) this
      | false => rfl
    | false =>
      have : ¬ (tooBig [x] = true) := by rw [hb]; decide
      have h3 : x.n.natAbs ≤ 9999 ∧ x.d ≤ 9999 := Decidable.not_not.mp fun z => this (h2.mpr z)
      exact h1.mpr h3
theorem readN_sound {t : List Nat} {l : List Tm} (h : readN t = some l) : read t = some l ∧ Valid l ∧ top (l.map xr) = 0 := by
  unfold readN at h
  split at h
  · cases h
  · rename_i q
    obtain ⟨hv, hw⟩ := read_sound h
    refine ⟨h, hv, ?_⟩
    have := mt (has_x hv).mpr (by rw [hw]; exact q)
    exact Decidable.not_not.mp this
/-- a number's text -/
theorem numText_is (c : Rat) : AlOne.numText c = AlOne.text [c] := rfl
theorem num_over {n m : Int} {c : Rat} (hm : m ≠ 0) (h : (n : Rat) = (m : Rat) * c) : AlOne.numText c = write (termsOver [n] m) := by
  rw [numText_is]
  refine text_over hm fun k => ?_
  cases k with
  | zero => exact h
  | succ k =>
    rw [co_succ, cq_succ, co_nil, cq_nil]
    show (0 : Rat) = (m : Rat) * 0
    grind
end Sl
set_option Elab.async false
set_option linter.all false
namespace Rn
open AlOne (Uni value)
open Sl
open Al10 (factorial)
/-! ### slopes, number by number -/
theorem fact_pos : ∀ n, 0 < factorial n
  | 0 => by decide
  | n + 1 => Nat.mul_pos (Nat.succ_pos n) (fact_pos n)
theorem fact_nz (n : Nat) : ((factorial n : Nat) : Rat) ≠ 0 := fun z => by
  have h := fact_pos n
  have : ((factorial n : Nat) : Rat) = ((0 : Nat) : Rat) := z
  have := Rat.natCast_inj.mp this
  omega
theorem fact_succ (n : Nat) : ((factorial (n + 1) : Nat) : Rat) = ((n + 1 : Nat) : Rat) * ((factorial n : Nat) : Rat) := by
  show (((n + 1) * factorial n : Nat) : Rat) = _
  rw [Rat.natCast_mul]
theorem fact_dvd (k : Nat) : ∀ n, factorial k ∣ factorial (k + n)
  | 0 => Nat.dvd_refl _
  | n + 1 => Nat.dvd_trans (fact_dvd k n) (Nat.dvd_mul_left _ _)
theorem fact_div (k n : Nat) : ((factorial (k + n) / factorial k : Nat) : Rat) * ((factorial k : Nat) : Rat) = ((factorial (k + n) : Nat) : Rat) := by
  rw [← Rat.natCast_mul, Nat.div_mul_cancel (fact_dvd k n)]
theorem fact_div_pos (k n : Nat) : 0 < factorial (k + n) / factorial k := Nat.div_pos (Nat.le_of_dvd (fact_pos _) (fact_dvd k n)) (fact_pos k)
theorem slopes_cq : ∀ (j : Nat) (y : Uni) (m : Nat), cq (Al10.slopes j y) m * ((factorial m : Nat) : Rat) = ((factorial (m + j) : Nat) : Rat) * cq y (m + j)
  | 0, y, m => by show cq y m * _ = _ * cq y m; rw [Nat.add_zero]; grind
  | j + 1, y, m => by
    show cq (Al10.slopes j (AlOne.slope y)) m * _ = _
    rw [slopes_cq j (AlOne.slope y) m, slope_cq, ← Nat.add_assoc, fact_succ]
    grind
theorem slopes_zero {j : Nat} {y : Uni} {m : Nat} (h : cq y (m + j) = 0) : cq (Al10.slopes j y) m = 0 := by
  have e := slopes_cq j y m
  have := fact_nz m
  rw [h] at e
  grind
/-! ### the coefficient of a product -/
theorem cv_none {g : Nat → Rat} : ∀ (p : List Rat) (k : Nat), (∀ m, m ≤ k → g m = 0) → cv p g k = 0
  | [], _, _ => by unfold cv; rfl
  | c :: p, 0, h => by
    show c * g 0 = 0
    rw [h 0 (Nat.le_refl _)]; grind
  | c :: p, k + 1, h => by
    show c * g (k + 1) + cv p g k = 0
    rw [h (k + 1) (Nat.le_refl _), cv_none p k fun m hm => h m (by omega)]; grind
theorem cv_low {g : Nat → Rat} : ∀ (p : List Rat) (k : Nat), (∀ m, m < k → g m = 0) → cv p g k = cq p 0 * g k
  | [], k, _ => by
    rw [cq_nil]
    show (0 : Rat) = 0 * g k
    grind
  | c :: p, 0, h => rfl
  | c :: p, k + 1, h => by
    show c * g (k + 1) + cv p g k = c * g (k + 1)
    rw [cv_none p k fun m hm => h m (by omega)]; grind
def sumL (y : Uni) (k : Nat) : Nat → List Uni → Rat
  | _, [] => 0
  | j, p :: ps => cv p (cq (Al10.slopes j y)) k + sumL y k (j + 1) ps
theorem leftFrom_cq (y : Uni) (k : Nat) : ∀ (ps : List Uni) (j : Nat) (s : Uni), cq (leftFrom 0 y j ps s) k = cq s k + sumL y k j ps
  | [], j, s => by show cq s k = cq s k + 0; grind
  | p :: ps, j, s => by
    show cq (leftFrom 0 y (j + 1) ps (AlOne.add s (AlOne.mul p (Al10.term 0 j y)))) k = _
    rw [leftFrom_cq y k ps, add_cq, mul_cq]
    show cq s k + cv p (cq (Al10.slopes j y)) k + _ = cq s k + (cv p (cq (Al10.slopes j y)) k + _)
    grind
theorem left_cq (ps : List Uni) (y : Uni) (k : Nat) : cq (Al10.left 0 ps y) k = sumL y k 0 ps := by
  rw [left_eq, leftFrom_cq, cq_nil]; grind
theorem xpow_cq (n m : Nat) : cq (AlOne.xpow n) m = if m = n then 1 else 0 := by
  unfold AlOne.xpow cq
  rw [List.getD_eq_getElem?_getD]
  by_cases h : m < n
  · rw [List.getElem?_append_left (by rw [List.length_replicate]; exact h), List.getElem?_replicate, if_pos h, if_neg (by omega)]; rfl
  · rw [List.getElem?_append_right (by rw [List.length_replicate]; omega), List.length_replicate]
    by_cases e : m = n
    · rw [if_pos e, e, Nat.sub_self]; rfl
    · rw [if_neg e, List.getElem?_eq_none (by show 1 ≤ m - n; omega)]; rfl
theorem sum_pow (k : Nat) : ∀ (ps : List Uni) (p : Uni) (j : Nat), sumL (AlOne.xpow (k + (j + ps.length))) k j (ps ++ [p]) = cq p 0 * ((factorial (k + (j + ps.length)) / factorial k : Nat) : Rat)
  | [], p, j => by
    show cv p (cq (Al10.slopes j (AlOne.xpow (k + (j + 0))))) k + 0 = _
    rw [cv_low p k fun m hm => slopes_zero (by rw [xpow_cq, if_neg (by omega)])]
    have e := slopes_cq j (AlOne.xpow (k + (j + 0))) k
    rw [xpow_cq, if_pos (by omega)] at e
    have d := fact_div k j
    have z := fact_nz k
    simp only [List.length_nil, Nat.add_zero] at e d ⊢
    grind
  | q :: ps, p, j => by
    have ih := sum_pow k ps p (j + 1)
    have en : j + (q :: ps).length = j + 1 + ps.length := by rw [List.length_cons]; omega
    rw [en]
    show cv q (cq (Al10.slopes j (AlOne.xpow (k + (j + 1 + ps.length))))) k + sumL _ k (j + 1) (ps ++ [p]) = _
    rw [ih, cv_none q k fun m hm => slopes_zero (by rw [xpow_cq, if_neg (by omega)])]
    grind
theorem headD_cq (p : Uni) : p.headD 0 = cq p 0 := by cases p <;> rfl
/-- what the next number is multiplied by -/
theorem lead_pow {ps : List Uni} {n : Nat} (h : ps.length = n + 1) (k : Nat) : cq (Al10.left 0 ps (AlOne.xpow (k + n))) k = (ps.getD n []).headD 0 * ((factorial (k + n) / factorial k : Nat) : Rat) := by
  obtain ⟨v, b, rfl⟩ : ∃ v b, ps = v ++ [b] := ⟨ps.dropLast, ps.getLast (by intro z; subst z; simp at h), (List.dropLast_concat_getLast _).symm⟩
  have hv : v.length = n := by rw [List.length_append] at h; simpa using h
  have e : (v ++ [b]).getD n [] = b := by
    rw [List.getD_eq_getElem?_getD, List.getElem?_append_right (by omega), hv, Nat.sub_self]; rfl
  rw [left_cq, e, headD_cq]
  have := sum_pow k v b 0
  rw [Nat.zero_add, hv] at this
  exact this
/-! ### the program's numbers -/
def repI (n : Nat) : List Int := List.replicate n 0 ++ [1]
theorem repI_co (n m : Nat) : co (repI n) m = if m = n then 1 else 0 := by
  unfold repI co
  rw [List.getD_eq_getElem?_getD]
  by_cases h : m < n
  · rw [List.getElem?_append_left (by rw [List.length_replicate]; exact h), List.getElem?_replicate, if_pos h, if_neg (by omega)]; rfl
  · rw [List.getElem?_append_right (by rw [List.length_replicate]; omega), List.length_replicate]
    by_cases e : m = n
    · rw [if_pos e, e, Nat.sub_self]; rfl
    · rw [if_neg e, List.getElem?_eq_none (by show 1 ≤ m - n; omega)]; rfl
theorem repI_rel (n : Nat) : Rel 1 (repI n) (AlOne.xpow n) := fun m => by
  rw [repI_co, xpow_cq]
  split
  · show (1 : Rat) = 1 * 1
    grind
  · show (0 : Rat) = 1 * 0
    grind
def leadI (kind : Nat) (ps : List (List Int)) (place : Nat) : Int := if kind = 1 then Ht.valI (ps.getD (ps.length - 1) []) place else co (leftI kind ps (repI (place + (ps.length - 1)))) place
def knownV : List (List Int) → List Int → Int → Int
  | p :: ps, t :: ts, x => Ht.valI p x * t + knownV ps ts x
  | _, _, _ => 0
def knownI (kind : Nat) (ps : List (List Int)) (tops : List Int) (place : Nat) : Int := if kind = 1 then knownV (ps.take (ps.length - 1)) (tops.drop place) place else co (leftI kind ps (trimI tops)) place
def wantI (kind : Nat) (right : List Int) (place : Nat) : Int := if kind = 0 then co right place else Ht.valI right place
structure Bg where
  tops : List Int
  bottom : Int
def restI (kind : Nat) (ps : List (List Int)) (right : List Int) (b : Bg) : Int := wantI kind right (b.tops.length - (ps.length - 1)) * b.bottom - knownI kind ps b.tops (b.tops.length - (ps.length - 1))
def goI (kind : Nat) (ps : List (List Int)) (right : List Int) (b : Bg) : Bg :=
  ⟨(b.tops.map fun t => t * leadI kind ps (b.tops.length - (ps.length - 1))) ++ [restI kind ps right b], b.bottom * leadI kind ps (b.tops.length - (ps.length - 1))⟩
def goN (kind : Nat) (ps : List (List Int)) (right : List Int) : Nat → Bg → Bg
  | 0, b => b
  | n + 1, b => goN kind ps right n (goI kind ps right b)
theorem goI_len (kind : Nat) (ps : List (List Int)) (right : List Int) (b : Bg) : (goI kind ps right b).tops.length = b.tops.length + 1 := by
  unfold goI
  rw [List.length_append, List.length_map]; rfl
/-- tops over a bottom are these numbers -/
structure RB (b : Bg) (l : List Rat) : Prop where
  len : b.tops.length = l.length
  nz : b.bottom ≠ 0
  at_ : ∀ i, (co b.tops i : Rat) = (b.bottom : Rat) * cq l i
theorem cq_append {l : List Rat} {c : Rat} (i : Nat) : cq (l ++ [c]) i = if i < l.length then cq l i else if i = l.length then c else 0 := by
  unfold cq
  rw [List.getD_eq_getElem?_getD]
  by_cases h : i < l.length
  · rw [if_pos h, List.getElem?_append_left h, List.getD_eq_getElem?_getD]
  · rw [if_neg h, List.getElem?_append_right (by omega)]
    by_cases e : i = l.length
    · rw [if_pos e, e, Nat.sub_self]; rfl
    · rw [if_neg e, List.getElem?_eq_none (by show 1 ≤ i - l.length; omega)]; rfl
theorem co_append {l : List Int} {c : Int} (i : Nat) : co (l ++ [c]) i = if i < l.length then co l i else if i = l.length then c else 0 := by
  unfold co
  rw [List.getD_eq_getElem?_getD]
  by_cases h : i < l.length
  · rw [if_pos h, List.getElem?_append_left h, List.getD_eq_getElem?_getD]
  · rw [if_neg h, List.getElem?_append_right (by omega)]
    by_cases e : i = l.length
    · rw [if_pos e, e, Nat.sub_self]; rfl
    · rw [if_neg e, List.getElem?_eq_none (by show 1 ≤ i - l.length; omega)]; rfl
theorem co_map (m : Int) : ∀ (l : List Int) (i : Nat), co (l.map fun t => t * m) i = co l i * m
  | [], i => by rw [List.map_nil, co_nil]; omega
  | c :: l, 0 => rfl
  | c :: l, i + 1 => by rw [List.map_cons, co_succ, co_succ, co_map m l i]
/-- one number more -/
theorem rb_more {b : Bg} {l : List Rat} {m r : Int} {c : Rat} (h : RB b l) (hm : m ≠ 0) (hr : (r : Rat) = (b.bottom : Rat) * (m : Rat) * c) : RB ⟨(b.tops.map fun t => t * m) ++ [r], b.bottom * m⟩ (l ++ [c]) := by
  refine ⟨?_, Int.mul_ne_zero h.nz hm, fun i => ?_⟩
  · show ((b.tops.map fun t => t * m) ++ [r]).length = _
    rw [List.length_append, List.length_append, List.length_map, h.len]; rfl
  · show (co ((b.tops.map fun t => t * m) ++ [r]) i : Rat) = ((b.bottom * m : Int) : Rat) * _
    rw [co_append, cq_append, List.length_map, h.len, Rat.intCast_mul, co_map]
    split
    · rw [Rat.intCast_mul, h.at_ i]; grind
    · split
      · exact hr
      · show (0 : Rat) = _
        grind
/-! ### a series -/
theorem trim_rel {b : Bg} {l : List Rat} (h : RB b l) : Rel (b.bottom : Rat) (trimI b.tops) (AlOne.trim l) := fun n => by
  rw [trimI_co, trim_cq]; exact h.at_ n
theorem relAll_len {s : Rat} {as : List (List Int)} {ps : List Uni} (h : RelAll s as ps) : as.length = ps.length := by
  induction h with
  | nil => rfl
  | cons _ _ ih => rw [List.length_cons, List.length_cons, ih]
theorem lead0 {s : Rat} {as : List (List Int)} {ps : List Uni} {n : Nat} (h : RelAll s as ps) (hn : ps.length = n + 1) (k : Nat) : (leadI 0 as k : Rat) = s * ((ps.getD n []).headD 0 * ((factorial (k + n) / factorial k : Nat) : Rat)) := by
  have hl := relAll_len h
  unfold leadI
  rw [if_neg (by decide), show as.length - 1 = n by omega]
  have := left_rel (kind := 0) h (repI_rel (k + n)) k
  rw [this, lead_pow hn]
  grind
theorem series_step {s : Rat} {as : List (List Int)} {right : List Int} {e : Al10.Eq} {b : Bg} {l : List Rat} (hs : s ≠ 0) (h : RelAll s as e.ps) (hf : Rel s right e.f) (hp : 1 ≤ e.ps.length) (h0 : (e.ps.getD (e.ps.length - 1) []).headD 0 ≠ 0) (hb : RB b l) (hl : e.ps.length - 1 ≤ l.length) :
    RB (goI 0 as right b) (l ++ [(AlOne.sub e.f (Al10.left 0 e.ps (AlOne.trim l))).getD (l.length - (e.ps.length - 1)) 0 / ((e.ps.getD (e.ps.length - 1) []).headD 0 * ((factorial l.length / factorial (l.length - (e.ps.length - 1)) : Nat) : Rat))]) := by
  obtain ⟨n, hn⟩ : ∃ n, e.ps.length = n + 1 := ⟨e.ps.length - 1, by omega⟩
  have hal := relAll_len h
  rw [show e.ps.length - 1 = n by omega] at *
  have hbl := hb.len
  obtain ⟨k, hk⟩ : ∃ k, l.length = k + n := ⟨l.length - n, by omega⟩
  have hk2 : l.length - n = k := by omega
  have el := lead0 h hn k
  rw [hk2, hk]
  have hq : (e.ps.getD n []).headD 0 * ((factorial (k + n) / factorial k : Nat) : Rat) ≠ 0 := by
    intro z
    rcases Rat.mul_eq_zero.mp z with z | z
    · exact h0 z
    · have : ((factorial (k + n) / factorial k : Nat) : Rat) = ((0 : Nat) : Rat) := z
      have := Rat.natCast_inj.mp this
      have := fact_div_pos k n
      omega
  have hm : leadI 0 as k ≠ 0 := fun z => by
    rw [z] at el
    have : s * ((e.ps.getD n []).headD 0 * ((factorial (k + n) / factorial k : Nat) : Rat)) = 0 := el.symm
    rcases Rat.mul_eq_zero.mp this with z | z
    · exact hs z
    · exact hq z
  unfold goI
  have ep : b.tops.length - (as.length - 1) = k := by omega
  rw [ep]
  refine rb_more hb hm ?_
  unfold restI
  rw [ep]
  have e1 : (wantI 0 right k : Rat) = s * cq e.f k := by
    unfold wantI
    rw [if_pos rfl]; exact hf k
  have e2 : (knownI 0 as b.tops k : Rat) = s * (b.bottom : Rat) * cq (Al10.left 0 e.ps (AlOne.trim l)) k := by
    unfold knownI
    rw [if_neg (by decide)]
    exact left_rel (kind := 0) h (trim_rel hb) k
  have e3 : (AlOne.sub e.f (Al10.left 0 e.ps (AlOne.trim l))).getD k 0 = cq e.f k - cq (Al10.left 0 e.ps (AlOne.trim l)) k := by
    show cq (AlOne.sub e.f (Al10.left 0 e.ps (AlOne.trim l))) k = _
    unfold AlOne.sub AlOne.neg
    rw [add_cq, scale_cq]; grind
  rw [Rat.intCast_sub, Rat.intCast_mul, e1, e2, e3, el]
  generalize (e.ps.getD n []).headD 0 * ((factorial (k + n) / factorial k : Nat) : Rat) = q at *
  generalize cq e.f k = u
  generalize cq (Al10.left 0 e.ps (AlOne.trim l)) k = v
  generalize (b.bottom : Rat) = w
  rw [Rat.div_def]
  have : q * q⁻¹ = 1 := Rat.mul_inv_cancel q hq
  grind
theorem series_go {s : Rat} {as : List (List Int)} {right : List Int} {e : Al10.Eq} (hs : s ≠ 0) (h : RelAll s as e.ps) (hf : Rel s right e.f) (hp : 1 ≤ e.ps.length) (h0 : (e.ps.getD (e.ps.length - 1) []).headD 0 ≠ 0) : ∀ (f : Nat) (b : Bg) (l : List Rat), RB b l → e.ps.length - 1 ≤ l.length → RB (goN 0 as right f b) (Al10.seriesFrom e f l)
  | 0, b, l, hb, _ => hb
  | f + 1, b, l, hb, hl => series_go hs h hf hp h0 f _ _ (series_step hs h hf hp h0 hb hl) (by rw [List.length_append]; omega)
/-! ### a row of values -/
theorem value_scale (s z : Rat) : ∀ p : List Rat, value z (p.map fun y => s * y) = s * value z p
  | [] => by show (0 : Rat) = s * 0; grind
  | c :: p => by
    show s * c + z * value z (p.map fun y => s * y) = s * (c + z * value z p)
    rw [value_scale s z p]; grind
theorem val_rel {s : Rat} {a : List Int} {p : Uni} (h : Rel s a p) (x : Nat) : (Ht.valI a ((x : Nat) : Int) : Rat) = s * value ((x : Nat) : Rat) p := by
  rw [Ht.valI_cast, ← value_scale, Rat.intCast_natCast]
  exact Ht.value_congr _ _ _ fun n => by
    rw [ra_cq, map_cq (fun y => s * y) (by grind)]; exact h n
def sumV (x : Rat) : List Uni → List Rat → Rat
  | p :: ps, t :: ts => value x p * t + sumV x ps ts
  | _, _ => 0
theorem fold_sumV (x : Rat) : ∀ (ps : List Uni) (ts : List Rat) (s : Rat), (ps.zip ts).foldl (fun (s : Rat) (y : Uni × Rat) => s + value x y.1 * y.2) s = s + sumV x ps ts
  | [], ts, s => by
    show s = s + 0
    grind
  | p :: ps, [], s => by
    show s = s + 0
    grind
  | p :: ps, t :: ts, s => by
    rw [List.zip_cons_cons, List.foldl_cons, fold_sumV x ps ts]
    show s + value x p * t + sumV x ps ts = s + (value x p * t + sumV x ps ts)
    grind
theorem known1 {s w : Rat} {x : Nat} : ∀ {as : List (List Int)} {ps : List Uni} (_ : RelAll s as ps) (ts : List Int) (us : List Rat), ts.length = us.length → (∀ i, (co ts i : Rat) = w * cq us i) → (knownV as ts ((x : Nat) : Int) : Rat) = s * w * sumV (x : Rat) ps us := by
  intro as ps h
  induction h with
  | nil =>
    intro ts us _ _
    show (0 : Rat) = s * w * 0
    grind
  | cons ha _ ih =>
    intro ts us hl hr
    cases ts with
    | nil =>
      cases us with
      | nil => show (0 : Rat) = s * w * 0; grind
      | cons u us => cases hl
    | cons t ts =>
      cases us with
      | nil => cases hl
      | cons u us =>
        have h0 : (t : Rat) = w * u := hr 0
        have ih' := ih ts us (by simpa using hl) fun i => by have := hr (i + 1); rwa [co_succ, cq_succ] at this
        show ((Ht.valI _ (x : Int) * t + knownV _ ts (x : Int) : Int) : Rat) = s * w * (value (x : Rat) _ * u + sumV (x : Rat) _ us)
        rw [Rat.intCast_add, Rat.intCast_mul, ih', val_rel ha x, h0]
        grind
theorem co_drop (l : List Int) (m i : Nat) : co (l.drop m) i = co l (m + i) := by
  unfold co
  rw [List.getD_eq_getElem?_getD, List.getD_eq_getElem?_getD, List.getElem?_drop]
theorem cq_drop (l : List Rat) (m i : Nat) : cq (l.drop m) i = cq l (m + i) := by
  unfold cq
  rw [List.getD_eq_getElem?_getD, List.getD_eq_getElem?_getD, List.getElem?_drop]
theorem rel_takeN {s : Rat} : ∀ (n : Nat) {as : List (List Int)} {ps : List Uni}, RelAll s as ps → RelAll s (as.take n) (ps.take n)
  | 0, _, _, _ => by rw [List.take_zero, List.take_zero]; exact .nil
  | n + 1, _, _, .nil => .nil
  | n + 1, _, _, .cons h r => .cons h (rel_takeN n r)
theorem rel_getN {s : Rat} : ∀ (n : Nat) {as : List (List Int)} {ps : List Uni}, RelAll s as ps → Rel s (as.getD n []) (ps.getD n [])
  | n, _, _, .nil => fun m => by
    rw [List.getD_nil, List.getD_nil, co_nil, cq_nil]
    show (0 : Rat) = s * 0
    grind
  | 0, _, _, .cons h r => h
  | n + 1, _, _, .cons h r => by
    have := rel_getN n r
    simpa using this
theorem lead1 {s : Rat} {as : List (List Int)} {ps : List Uni} {n : Nat} (h : RelAll s as ps) (hn : ps.length = n + 1) (k : Nat) : (leadI 1 as k : Rat) = s * value (k : Rat) (ps.getD n []) := by
  have hl := relAll_len h
  unfold leadI
  rw [if_pos rfl, show as.length - 1 = n by omega]
  exact val_rel (rel_getN n h) k
theorem values_step {s : Rat} {as : List (List Int)} {right : List Int} {e : Al10.Eq} {b : Bg} {l : List Rat} {n k : Nat} (hs : s ≠ 0) (h : RelAll s as e.ps) (hf : Rel s right e.f) (hn : e.ps.length = n + 1) (hb : RB b l) (hk : l.length = k + n) (h0 : value (k : Rat) (e.ps.getD n []) ≠ 0) :
    RB (goI 1 as right b) (l ++ [(value (k : Rat) e.f - ((e.ps.take n).zip (l.drop k)).foldl (fun (s : Rat) (x : Uni × Rat) => s + value (k : Rat) x.1 * x.2) 0) / value (k : Rat) (e.ps.getD n [])]) := by
  have hal := relAll_len h
  have hbl := hb.len
  have el := lead1 h hn k
  have hm : leadI 1 as k ≠ 0 := fun z => by
    rw [z] at el
    have : s * value (k : Rat) (e.ps.getD n []) = 0 := el.symm
    rcases Rat.mul_eq_zero.mp this with z | z
    · exact hs z
    · exact h0 z
  unfold goI
  have ep : b.tops.length - (as.length - 1) = k := by omega
  rw [ep]
  refine rb_more hb hm ?_
  unfold restI
  rw [ep]
  have e1 : (wantI 1 right k : Rat) = s * value (k : Rat) e.f := by
    unfold wantI
    rw [if_neg (by decide)]; exact val_rel hf k
  have e2 : (knownI 1 as b.tops k : Rat) = s * (b.bottom : Rat) * sumV (k : Rat) (e.ps.take n) (l.drop k) := by
    unfold knownI
    rw [if_pos rfl, show as.length - 1 = n by omega]
    refine known1 (rel_takeN n h) _ _ (by rw [List.length_drop, List.length_drop, hbl]) fun i => ?_
    rw [co_drop, cq_drop]; exact hb.at_ _
  rw [Rat.intCast_sub, Rat.intCast_mul, e1, e2, fold_sumV, el]
  generalize value (k : Rat) (e.ps.getD n []) = q at *
  generalize value (k : Rat) e.f = u
  generalize sumV (k : Rat) (e.ps.take n) (l.drop k) = v
  generalize (b.bottom : Rat) = w
  rw [Rat.div_def]
  have : q * q⁻¹ = 1 := Rat.mul_inv_cancel q h0
  grind
/-- at which places the last one isn't 0 -/
def goesOn (as : List (List Int)) (k f : Nat) : Prop := ∀ i, k ≤ i → i < k + f → leadI 1 as i ≠ 0
theorem values_go {s : Rat} {as : List (List Int)} {right : List Int} {e : Al10.Eq} {n : Nat} (hs : s ≠ 0) (h : RelAll s as e.ps) (hf : Rel s right e.f) (hn : e.ps.length = n + 1) : ∀ (f : Nat) (b : Bg) (l : List Rat) (k : Nat), RB b l → l.length = k + n →
    (goesOn as k f → ∃ v, Al10.valuesFrom e f l = some v ∧ RB (goN 1 as right f b) v) ∧ (¬ goesOn as k f → Al10.valuesFrom e f l = none)
  | 0, b, l, k, hb, _ => ⟨fun _ => ⟨l, rfl, hb⟩, fun z => absurd (fun i h1 h2 => absurd h2 (by omega)) z⟩
  | f + 1, b, l, k, hb, hl => by
    have el := lead1 h hn k
    have hk : l.length - n = k := by omega
    have ev : Al10.valuesFrom e (f + 1) l = if value (((l.length - n : Nat) : Nat) : Rat) (e.ps.getD n []) = 0 then none else Al10.valuesFrom e f (l ++ [(value (((l.length - n : Nat) : Nat) : Rat) e.f - ((e.ps.take n).zip (l.drop (l.length - n))).foldl (fun (s : Rat) (x : Uni × Rat) => s + value (((l.length - n : Nat) : Nat) : Rat) x.1 * x.2) 0) / value (((l.length - n : Nat) : Nat) : Rat) (e.ps.getD n [])]) := by
      show Al10.valuesFrom e (f + 1) l = _
      rw [Al10.valuesFrom, show e.ps.length - 1 = n by omega]
    rw [ev, hk]
    by_cases h0 : value (k : Rat) (e.ps.getD n []) = 0
    · rw [if_pos h0]
      have lz : leadI 1 as k = 0 := by
        rw [h0] at el
        have : (leadI 1 as k : Rat) = ((0 : Int) : Rat) := by rw [el]; show s * 0 = 0; grind
        exact Rat.intCast_inj.mp this
      exact ⟨fun g => absurd lz (g k (Nat.le_refl _) (by omega)), fun _ => rfl⟩
    · rw [if_neg h0]
      have st := values_step (right := right) hs h hf hn hb hl h0
      have ih := values_go hs h hf hn f _ _ (k + 1) st (by rw [List.length_append]; show _ + 1 = _; omega)
      have lz : leadI 1 as k ≠ 0 := fun z => by
        rw [z] at el
        have : s * value (k : Rat) (e.ps.getD n []) = 0 := el.symm
        rcases Rat.mul_eq_zero.mp this with z | z
        · exact hs z
        · exact h0 z
      refine ⟨fun g => ih.1 fun i h1 h2 => g i (by omega) (by omega), fun g => ih.2 fun g2 => g fun i h1 h2 => ?_⟩
      by_cases hi : i = k
      · rw [hi]; exact lz
      · exact g2 i (by omega) (by omega)
/-! ### a series' beginning -/
def factI : Nat → Nat := factorial
def slopesBg (b : Bg) : Bg := ⟨b.tops.zipIdx.map fun x => ((factorial b.tops.length / factorial x.2 : Nat) : Int) * x.1, b.bottom * (factorial b.tops.length : Nat)⟩
theorem getD_zipI (f : Int × Nat → Int) (l : List Int) (i : Nat) (h : i < l.length) : co (l.zipIdx.map f) i = f (co l i, i) := by
  unfold co
  rw [List.getD_eq_getElem?_getD, List.getElem?_map, List.getElem?_zipIdx, List.getElem?_eq_getElem h, List.getD_eq_getElem?_getD, List.getElem?_eq_getElem h]
  show f (l[i], 0 + i) = f (l[i], i)
  rw [Nat.zero_add]
theorem slopes_bg {b : Bg} {cs : List Rat} (h : RB b cs) : RB (slopesBg b) ((cs.zip (List.range cs.length)).map fun (x : Rat × Nat) => x.1 / ((factorial x.2 : Nat) : Rat)) := by
  have hl := h.len
  refine ⟨?_, Int.mul_ne_zero h.nz (by have := fact_pos b.tops.length; omega), fun i => ?_⟩
  · unfold slopesBg
    rw [List.length_map, List.length_zipIdx, List.length_map, List.length_zip, List.length_range, Nat.min_self, hl]
  · unfold slopesBg
    show (co (b.tops.zipIdx.map _) i : Rat) = ((b.bottom * ((factorial b.tops.length : Nat) : Int) : Int) : Rat) * _
    by_cases hi : i < b.tops.length
    · rw [getD_zipI _ _ _ hi]
      have hic : i < cs.length := by omega
      have hz : (cs.zip (List.range cs.length))[i]? = some (cs[i], i) := List.getElem?_zip_eq_some.mpr ⟨List.getElem?_eq_getElem hic, List.getElem?_range hic⟩
      have e : cq ((cs.zip (List.range cs.length)).map fun (x : Rat × Nat) => x.1 / ((factorial x.2 : Nat) : Rat)) i = cq cs i / ((factorial i : Nat) : Rat) := by
        unfold cq
        rw [List.getD_eq_getElem?_getD, List.getElem?_map, hz, List.getD_eq_getElem?_getD, List.getElem?_eq_getElem hic]
        rfl
      rw [e, Rat.intCast_mul, Rat.intCast_mul, h.at_ i, Rat.intCast_natCast, Rat.intCast_natCast]
      have d := fact_div i (b.tops.length - i)
      rw [show i + (b.tops.length - i) = b.tops.length by omega] at d
      rw [← d, Rat.div_def]
      have : ((factorial i : Nat) : Rat) * ((factorial i : Nat) : Rat)⁻¹ = 1 := Rat.mul_inv_cancel _ (fact_nz i)
      generalize ((factorial i : Nat) : Rat) = u at *
      grind
    · rw [co_ge (by rw [List.length_map, List.length_zipIdx]; omega), cq_ge (by rw [List.length_map, List.length_zip, List.length_range]; omega)]
      show (0 : Rat) = _ * 0
      grind
theorem take_bg {b : Bg} {l : List Rat} (h : RB b l) (n : Nat) : (b.tops.take n).length = (l.take n).length ∧ ∀ i, i < (l.take n).length → (co (b.tops.take n) i : Rat) = (b.bottom : Rat) * cq (l.take n) i := by
  have hl := h.len
  refine ⟨by rw [List.length_take, List.length_take, hl], fun i hi => ?_⟩
  rw [List.length_take] at hi
  have e1 : co (b.tops.take n) i = co b.tops i := by
    unfold co
    rw [List.getD_eq_getElem?_getD, List.getElem?_take, if_pos (by omega), List.getD_eq_getElem?_getD]
  have e2 : cq (l.take n) i = cq l i := by
    unfold cq
    rw [List.getD_eq_getElem?_getD, List.getElem?_take, if_pos (by omega), List.getD_eq_getElem?_getD]
  rw [e1, e2]; exact h.at_ i
end Rn
set_option Elab.async false
set_option linter.all false
set_option maxRecDepth 100000
namespace Fw
open PySem L2
/-! ### data: what a value is worth; inp: a list that was handed in (read alone) -/
inductive D where
  | non
  | bl (b : Bool)
  | int (i : Int)
  | lst (xs : List D)
  | tup (xs : List D)
  | inp (xs : List D)
mutual
inductive Rp (K : PySem.W.Frag) (G : Hp) : V → D → Prop
  | non : Rp K G .non .non
  | bl (b : Bool) : Rp K G (.bl b) (.bl b)
  | int (i : Int) : Rp K G (.int i) (.int i)
  | lst {a : Addr} {vs : List V} {ds : List D} : G a = some (.lst vs) → RpAll K G vs ds → Rp K G (.ref a) (.lst ds)
  | tup {a : Addr} {vs : List V} {ds : List D} : G a = some (.tup vs) → RpAll K G vs ds → Rp K G (.ref a) (.tup ds)
  | inp {a : Addr} {vs : List V} {ds : List D} : SqL K G a vs → RpAll K G vs ds → Rp K G (.ref a) (.inp ds)
inductive RpAll (K : PySem.W.Frag) (G : Hp) : List V → List D → Prop
  | nil : RpAll K G [] []
  | cons {v : V} {vs : List V} {d : D} {ds : List D} : Rp K G v d → RpAll K G vs ds → RpAll K G (v :: vs) (d :: ds)
end
variable {K : PySem.W.Frag}
mutual
theorem Rp.mono {G G' : Hp} (e : Same G G') : ∀ {v : V} {d : D}, Rp K G v d → Rp K G' v d
  | _, _, .non => .non
  | _, _, .bl b => .bl b
  | _, _, .int i => .int i
  | _, _, .lst h a => .lst (e _ _ h) (RpAll.mono e a)
  | _, _, .tup h a => .tup (e _ _ h) (RpAll.mono e a)
  | _, _, .inp h a => .inp (e.seq h) (RpAll.mono e a)
theorem RpAll.mono {G G' : Hp} (e : Same G G') : ∀ {vs : List V} {ds : List D}, RpAll K G vs ds → RpAll K G' vs ds
  | _, _, .nil => .nil
  | _, _, .cons h a => .cons (Rp.mono e h) (RpAll.mono e a)
end
theorem RpAll.len {G : Hp} : ∀ {vs : List V} {ds : List D}, RpAll K G vs ds → vs.length = ds.length
  | _, _, .nil => rfl
  | _, _, .cons _ a => by rw [List.length_cons, List.length_cons, RpAll.len a]
theorem RpAll.get {G : Hp} : ∀ {vs : List V} {ds : List D} {i : Nat} {d : D}, RpAll K G vs ds → ds[i]? = some d → ∃ v, vs[i]? = some v ∧ Rp K G v d
  | _, _, i, d, .nil, h => by simp at h
  | _, _, 0, d, .cons r _, h => by
    have : _ = d := Option.some.inj h
    subst this
    exact ⟨_, rfl, r⟩
  | _, _, i + 1, d, .cons _ a, h => RpAll.get (i := i) a h
theorem RpAll.append {G : Hp} : ∀ {vs ws : List V} {ds es : List D}, RpAll K G vs ds → RpAll K G ws es → RpAll K G (vs ++ ws) (ds ++ es)
  | _, _, _, _, .nil, b => b
  | _, _, _, _, .cons r a, b => .cons r (RpAll.append a b)
theorem RpAll.drop {G : Hp} : ∀ {vs : List V} {ds : List D} (n : Nat), RpAll K G vs ds → RpAll K G (vs.drop n) (ds.drop n)
  | _, _, 0, a => a
  | _, _, n + 1, .nil => by simpa using RpAll.nil
  | _, _, n + 1, .cons _ a => RpAll.drop n a
theorem RpAll.take {G : Hp} : ∀ {vs : List V} {ds : List D} (n : Nat), RpAll K G vs ds → RpAll K G (vs.take n) (ds.take n)
  | _, _, 0, a => by simpa using RpAll.nil
  | _, _, n + 1, .nil => by simpa using RpAll.nil
  | _, _, n + 1, .cons r a => .cons r (RpAll.take n a)
theorem RpAll.reverse {G : Hp} : ∀ {vs : List V} {ds : List D}, RpAll K G vs ds → RpAll K G vs.reverse ds.reverse
  | _, _, .nil => .nil
  | _, _, .cons r a => by
    rw [List.reverse_cons, List.reverse_cons]
    exact (RpAll.reverse a).append (.cons r .nil)
theorem RpAll.set {G : Hp} : ∀ {vs : List V} {ds : List D} {i : Nat} {v : V} {d : D}, RpAll K G vs ds → Rp K G v d → RpAll K G (vs.set i v) (ds.set i d)
  | _, _, _, _, _, .nil, _ => .nil
  | _, _, 0, _, _, .cons _ a, r => .cons r a
  | _, _, i + 1, _, _, .cons q a, r => .cons q (RpAll.set a r)
theorem RpAll.rep {G : Hp} {v : V} {d : D} (r : Rp K G v d) : ∀ n : Nat, RpAll K G (List.replicate n v) (List.replicate n d)
  | 0 => .nil
  | n + 1 => .cons r (RpAll.rep r n)
theorem Rp.int_inv {G : Hp} {v : V} {i : Int} (h : Rp K G v (.int i)) : v = .int i := by cases h; rfl
theorem Rp.bl_inv {G : Hp} {v : V} {b : Bool} (h : Rp K G v (.bl b)) : v = .bl b := by cases h; rfl
theorem Rp.non_inv {G : Hp} {v : V} (h : Rp K G v .non) : v = .non := by cases h; rfl
theorem Rp.seq {G : Hp} {v : V} {ds : List D} (h : Rp K G v (.lst ds)) : ∃ a vs, v = .ref a ∧ G a = some (.lst vs) ∧ RpAll K G vs ds := by
  cases h with
  | lst h a => exact ⟨_, _, rfl, h, a⟩
theorem Rp.tupl {G : Hp} {v : V} {ds : List D} (h : Rp K G v (.tup ds)) : ∃ a vs, v = .ref a ∧ G a = some (.tup vs) ∧ RpAll K G vs ds := by
  cases h with
  | tup h a => exact ⟨_, _, rfl, h, a⟩
/-- a list, one's own or handed in -/
inductive Ls : D → List D → Prop
  | lst {ds : List D} : Ls (.lst ds) ds
  | inp {ds : List D} : Ls (.inp ds) ds
theorem Rp.ls {G : Hp} {v : V} {d : D} {ds : List D} (l : Ls d ds) (h : Rp K G v d) : ∃ a vs, v = .ref a ∧ SqL K G a vs ∧ RpAll K G vs ds := by
  cases l with
  | lst =>
    obtain ⟨a, vs, e, h, q⟩ := h.seq
    exact ⟨a, vs, e, .inl (.inl h), q⟩
  | inp => cases h with
    | inp h a => exact ⟨_, _, rfl, h, a⟩
def dI (ns : List Int) : List D := ns.map D.int
def dB (ns : List Bool) : List D := ns.map D.bl
theorem RpAll.dI_inv {G : Hp} : ∀ {ns : List Int} {vs : List V}, RpAll K G vs (dI ns) → vs = ns.map V.int
  | [], _, .nil => rfl
  | n :: ns, _, .cons r a => by rw [r.int_inv, RpAll.dI_inv (ns := ns) a]; rfl
theorem RpAll.dB_inv {G : Hp} : ∀ {ns : List Bool} {vs : List V}, RpAll K G vs (dB ns) → vs = ns.map V.bl
  | [], _, .nil => rfl
  | n :: ns, _, .cons r a => by rw [r.bl_inv, RpAll.dB_inv (ns := ns) a]; rfl
theorem RpAll.dI {G : Hp} : ∀ ns : List Int, RpAll K G (ns.map V.int) (dI ns)
  | [] => .nil
  | n :: ns => .cons (.int n) (RpAll.dI ns)
/-! ### heaps: G, what is data; H, all that is tracked -/
theorem fresh_of {G H : Hp} {p : Addr} (e : Same G H) (h : H p = none) : G p = none := e.free h
theorem same_upd {H : Hp} {p : Addr} {o : HO} (h : H p = none) : Same H (upd H p o) := fun b x e => by
  rw [upd_ne (ne_of_none e h)]
  exact e
structure Step (G H G' H' : Hp) : Prop where
  g : Same G G'
  h : Same H H'
  s : Same G' H'
  k : ∀ a, H a ≠ none → G a = none → G' a = none
theorem Step.refl {G H : Hp} (s : Same G H) : Step G H G H := ⟨Same.refl G, Same.refl H, s, fun _ _ h => h⟩
theorem Step.trans {G H G1 H1 G2 H2 : Hp} (a : Step G H G1 H1) (b : Step G1 H1 G2 H2) : Step G H G2 H2 :=
  ⟨a.g.trans b.g, a.h.trans b.h, b.s, fun x h1 h2 => b.k x (fun z => h1 (a.h.free z)) (a.k x h1 h2)⟩
/-- a new object that is data at once -/
theorem Step.data {G H : Hp} {p : Addr} {o : HO} (s : Same G H) (hp : H p = none) : Step G H (upd G p o) (upd H p o) := by
  refine ⟨same_upd (fresh_of s hp), same_upd hp, fun b x e => ?_, fun a h1 h2 => ?_⟩
  · by_cases hb : b = p
    · subst hb; rw [upd_same] at e ⊢; exact e
    · rw [upd_ne hb] at e ⊢; exact s b x e
  · rw [upd_ne (fun z => h1 (by rw [z]; exact hp))]; exact h2
/-- a new object that may still be changed -/
theorem Step.fresh {G H : Hp} {p : Addr} {o : HO} (s : Same G H) (hp : H p = none) : Step G H G (upd H p o) :=
  ⟨Same.refl G, same_upd hp, s.trans (same_upd hp), fun _ _ h => h⟩
/-! ### slots -/
inductive AS where
  | no
  | dat (d : D)
  | mu (ds : List D)
structure Env (K : PySem.W.Frag) (G0 H0 G H : Hp) (σ : L2.St) (as : List AS) : Prop where
  st : Step G0 H0 G H
  len : as.length = σ.length
  dat : ∀ (i : Nat) (d : D), as[i]? = some (AS.dat d) → ∃ v, σ[i]? = some (some v) ∧ Rp K G v d
  mu : ∀ (i : Nat) (ds : List D), as[i]? = some (AS.mu ds) → ∃ p vs, σ[i]? = some (some (V.ref p)) ∧ H0 p = none ∧ G p = none ∧ H p = some (.lst vs) ∧ RpAll K G vs ds
  ap : ∀ (i j : Nat) (ds es : List D) (p : Addr), i ≠ j → as[i]? = some (AS.mu ds) → as[j]? = some (AS.mu es) → σ[i]? = some (some (V.ref p)) → σ[j]? = some (some (V.ref p)) → False
theorem Env.step {G0 H0 G H G' H' : Hp} {σ : L2.St} {as : List AS} (E : Env K G0 H0 G H σ as) (s : Step G H G' H') : Env K G0 H0 G' H' σ as := by
  refine ⟨E.st.trans s, E.len, fun i d h => ?_, fun i ds h => ?_, E.ap⟩
  · obtain ⟨v, e, r⟩ := E.dat i d h
    exact ⟨v, e, r.mono s.g⟩
  · obtain ⟨p, vs, e, h0, g, hh, r⟩ := E.mu i ds h
    exact ⟨p, vs, e, h0, s.k p (by rw [hh]; simp) g, s.h _ _ hh, r.mono s.g⟩
/-- a slot's new value is data -/
theorem Env.setD {G0 H0 G H : Hp} {σ : L2.St} {as : List AS} {i : Nat} {v : V} {d : D} (E : Env K G0 H0 G H σ as) (r : Rp K G v d) : Env K G0 H0 G H (σ.set i (some v)) (as.set i (.dat d)) := by
  refine ⟨E.st, by rw [List.length_set, List.length_set, E.len], fun j e h => ?_, fun j ds h => ?_, fun j l ds es p hjl h1 h2 h3 h4 => ?_⟩
  · by_cases hj : i = j
    · subst hj
      have hlt : i < as.length := by
        have := (List.getElem?_eq_some_iff.mp h).1
        rwa [List.length_set] at this
      rw [List.getElem?_set_self hlt] at h
      cases h
      exact ⟨v, List.getElem?_set_self (by rw [← E.len]; exact hlt), r⟩
    · rw [List.getElem?_set_ne hj] at h ⊢
      exact E.dat j e h
  · by_cases hj : i = j
    · subst hj
      have hlt : i < as.length := by
        have := (List.getElem?_eq_some_iff.mp h).1
        rwa [List.length_set] at this
      rw [List.getElem?_set_self hlt] at h
      cases h
    · rw [List.getElem?_set_ne hj] at h ⊢
      exact E.mu j ds h
  · have hj : i ≠ j := fun z => by
      subst z
      have hlt : i < as.length := by
        have := (List.getElem?_eq_some_iff.mp h1).1
        rwa [List.length_set] at this
      rw [List.getElem?_set_self hlt] at h1
      cases h1
    have hl : i ≠ l := fun z => by
      subst z
      have hlt : i < as.length := by
        have := (List.getElem?_eq_some_iff.mp h2).1
        rwa [List.length_set] at this
      rw [List.getElem?_set_self hlt] at h2
      cases h2
    rw [List.getElem?_set_ne hj] at h1 h3
    rw [List.getElem?_set_ne hl] at h2 h4
    exact E.ap j l ds es p hjl h1 h2 h3 h4
/-- a slot's new value is a new list, still to be changed -/
theorem Env.setM {G0 H0 G H G' H' : Hp} {σ : L2.St} {as : List AS} {i : Nat} {p : Addr} {vs : List V} {ds : List D} (E : Env K G0 H0 G H σ as) (s : Step G H G' H') (hp : H p = none) (hg : G' p = none) (hh : H' p = some (.lst vs)) (r : RpAll K G' vs ds) :
    Env K G0 H0 G' H' (σ.set i (some (V.ref p))) (as.set i (.mu ds)) := by
  have E' := E.step s
  have other : ∀ j es, as[j]? = some (AS.mu es) → σ[j]? ≠ some (some (V.ref p)) := fun j es h z => by
    obtain ⟨q, ws, e, _, _, hq, _⟩ := E.mu j es h
    rw [z] at e
    cases e
    rw [hp] at hq
    cases hq
  have at_i : ∀ {x : AS}, (as.set i (.mu ds))[i]? = some x → i < as.length ∧ x = .mu ds := fun {x} h => by
    have hlt : i < as.length := by
      have := (List.getElem?_eq_some_iff.mp h).1
      rwa [List.length_set] at this
    rw [List.getElem?_set_self hlt] at h
    exact ⟨hlt, (Option.some.inj h).symm⟩
  refine ⟨E'.st, by rw [List.length_set, List.length_set, E.len], fun j e h => ?_, fun j es h => ?_, fun j l es fs q hjl h1 h2 h3 h4 => ?_⟩
  · by_cases hj : i = j
    · subst hj; cases (at_i h).2
    · rw [List.getElem?_set_ne hj] at h ⊢
      exact E'.dat j e h
  · by_cases hj : i = j
    · subst hj
      obtain ⟨hlt, e⟩ := at_i h
      cases e
      exact ⟨p, vs, List.getElem?_set_self (by rw [← E.len]; exact hlt), E.st.h.free hp, hg, hh, r⟩
    · rw [List.getElem?_set_ne hj] at h ⊢
      exact E'.mu j es h
  · by_cases hj : i = j
    · subst hj
      rw [List.getElem?_set_ne hjl] at h2 h4
      obtain ⟨hlt, _⟩ := at_i h1
      rw [List.getElem?_set_self (by rw [← E.len]; exact hlt)] at h3
      cases h3
      exact other l fs h2 h4
    · by_cases hl : i = l
      · subst hl
        rw [List.getElem?_set_ne hj] at h1 h3
        obtain ⟨hlt, _⟩ := at_i h2
        rw [List.getElem?_set_self (by rw [← E.len]; exact hlt)] at h4
        cases h4
        exact other j es h1 h3
      · rw [List.getElem?_set_ne hj] at h1 h3
        rw [List.getElem?_set_ne hl] at h2 h4
        exact E.ap j l es fs q hjl h1 h2 h3 h4
/-- the list in a slot is changed -/
theorem Env.chg {G0 H0 G H : Hp} {σ : L2.St} {as : List AS} {i : Nat} {p : Addr} {vs : List V} {ds es : List D} (E : Env K G0 H0 G H σ as) (hi : as[i]? = some (AS.mu ds)) (hs : σ[i]? = some (some (V.ref p))) (r : RpAll K G vs es) :
    Env K G0 H0 G (upd H p (.lst vs)) σ (as.set i (.mu es)) := by
  obtain ⟨q, ws, e, h0, hg, hh, _⟩ := E.mu i ds hi
  rw [hs] at e
  cases e
  have hlt : i < as.length := (List.getElem?_eq_some_iff.mp hi).1
  refine ⟨⟨E.st.g, fun b o e => ?_, fun b o e => ?_, E.st.k⟩, by rw [List.length_set, E.len], fun j d h => ?_, fun j fs h => ?_, fun j l fs gs q hjl h1 h2 h3 h4 => ?_⟩
  · rw [upd_ne (ne_of_none e h0)]; exact E.st.h b o e
  · rw [upd_ne (ne_of_none e hg)]; exact E.st.s b o e
  · by_cases hj : i = j
    · subst hj; rw [List.getElem?_set_self hlt] at h; cases h
    · rw [List.getElem?_set_ne hj] at h; exact E.dat j d h
  · by_cases hj : i = j
    · subst hj
      rw [List.getElem?_set_self hlt] at h
      cases h
      exact ⟨p, vs, hs, h0, hg, upd_same, r⟩
    · rw [List.getElem?_set_ne hj] at h
      obtain ⟨q, us, e, a, b, c, f⟩ := E.mu j fs h
      refine ⟨q, us, e, a, b, ?_, f⟩
      rw [upd_ne (fun z => E.ap i j ds fs p hj hi h hs (by rw [← z]; exact e))]
      exact c
  · have m : ∀ {j : Nat} {fs : List D}, (as.set i (.mu es))[j]? = some (AS.mu fs) → ∃ fs', as[j]? = some (AS.mu fs') := fun {j fs} h => by
      by_cases hj : i = j
      · subst hj; exact ⟨ds, hi⟩
      · rw [List.getElem?_set_ne hj] at h; exact ⟨fs, h⟩
    obtain ⟨fs', h1'⟩ := m h1
    obtain ⟨gs', h2'⟩ := m h2
    exact E.ap j l fs' gs' q hjl h1' h2' h3 h4
/-- the list in a slot is changed no more: it is data -/
theorem Env.frz {G0 H0 G H : Hp} {σ : L2.St} {as : List AS} {i : Nat} {ds : List D} (E : Env K G0 H0 G H σ as) (hi : as[i]? = some (AS.mu ds)) : ∃ G', Env K G0 H0 G' H σ (as.set i (.dat (.lst ds))) := by
  obtain ⟨p, vs, hs, h0, hg, hh, r⟩ := E.mu i ds hi
  have hlt : i < as.length := (List.getElem?_eq_some_iff.mp hi).1
  have sg : Same G (upd G p (.lst vs)) := same_upd hg
  refine ⟨upd G p (.lst vs), ⟨E.st.g.trans sg, E.st.h, fun b o e => ?_, fun a h1 h2 => ?_⟩, by rw [List.length_set, E.len], fun j d h => ?_, fun j fs h => ?_, fun j l fs gs q hjl h1 h2 h3 h4 => ?_⟩
  · by_cases hb : b = p
    · subst hb; rw [upd_same] at e; rw [hh]; exact e
    · rw [upd_ne hb] at e; exact E.st.s b o e
  · rw [upd_ne (fun z => h1 (by rw [z]; exact h0))]; exact E.st.k a h1 h2
  · by_cases hj : i = j
    · subst hj
      rw [List.getElem?_set_self hlt] at h
      cases h
      exact ⟨.ref p, hs, .lst upd_same (r.mono sg)⟩
    · rw [List.getElem?_set_ne hj] at h
      obtain ⟨v, e, q⟩ := E.dat j d h
      exact ⟨v, e, q.mono sg⟩
  · by_cases hj : i = j
    · subst hj; rw [List.getElem?_set_self hlt] at h; cases h
    · rw [List.getElem?_set_ne hj] at h
      obtain ⟨q, us, e, a, b, c, f⟩ := E.mu j fs h
      refine ⟨q, us, e, a, ?_, c, f.mono sg⟩
      rw [upd_ne (fun z => E.ap i j ds fs p hj hi h hs (by rw [← z]; exact e))]
      exact b
  · have m : ∀ {j : Nat} {fs : List D}, (as.set i (.dat (.lst ds)))[j]? = some (AS.mu fs) → as[j]? = some (AS.mu fs) := fun {j fs} h => by
      by_cases hj : i = j
      · subst hj; rw [List.getElem?_set_self hlt] at h; cases h
      · rw [List.getElem?_set_ne hj] at h; exact h
    exact E.ap j l fs gs q hjl (m h1) (m h2) h3 h4
/-- less is said of the slots -/
def Le (bs as : List AS) : Prop := bs.length = as.length ∧ ∀ (i : Nat) (b : AS), bs[i]? = some b → b = AS.no ∨ as[i]? = some b
theorem Env.less {G0 H0 G H : Hp} {σ : L2.St} {as bs : List AS} (E : Env K G0 H0 G H σ as) (l : Le bs as) : Env K G0 H0 G H σ bs := by
  have up : ∀ {i : Nat} {b : AS}, bs[i]? = some b → b ≠ AS.no → as[i]? = some b := fun {i b} h n => (l.2 i b h).resolve_left n
  exact ⟨E.st, l.1.trans E.len, fun i d h => E.dat i d (up h (by simp)), fun i ds h => E.mu i ds (up h (by simp)), fun i j ds es p hij h1 h2 => E.ap i j ds es p hij (up h1 (by simp)) (up h2 (by simp))⟩
end Fw
set_option Elab.async false
set_option linter.all false
set_option maxRecDepth 100000
namespace Fw
open PySem L2
variable {K : PySem.W.Frag}
/-! ### what an expression comes to, in slots as told -/
/-- data | what can be read as such just now | a new list, still to be changed | a test | arguments -/
def EvE (K : PySem.W.Frag) (te : TE) (as : List AS) (d : D) : Prop := ∀ G0 H0 G H σ, Env K G0 H0 G H σ as → ∀ Q : VK, (∀ v G' H', Step G H G' H' → Rp K G' v d → Q v H') → te σ H Q
def EvR (K : PySem.W.Frag) (te : TE) (as : List AS) (d : D) : Prop := ∀ G0 H0 G H σ, Env K G0 H0 G H σ as → ∀ Q : VK, (∀ v G' H', Step G H G' H' → Rp K H' v d → Q v H') → te σ H Q
def EvN (K : PySem.W.Frag) (te : TE) (as : List AS) (ds : List D) : Prop := ∀ G0 H0 G H σ, Env K G0 H0 G H σ as → ∀ Q : VK, (∀ p vs G' H', Step G H G' H' → H p = none → G' p = none → H' p = some (.lst vs) → RpAll K G' vs ds → Q (.ref p) H') → te σ H Q
def EvT (K : PySem.W.Frag) (tt : TT) (as : List AS) (b : Bool) : Prop := ∀ G0 H0 G H σ, Env K G0 H0 G H σ as → ∀ Q : Bool → Hp → Prop, (∀ G' H', Step G H G' H' → Q b H') → tt σ H Q
def EvA (K : PySem.W.Frag) (ta : TA) (as : List AS) (ds : List D) : Prop := ∀ G0 H0 G H σ, Env K G0 H0 G H σ as → ∀ Q : List V → Hp → Prop, (∀ vs G' H', Step G H G' H' → RpAll K G' vs ds → Q vs H') → ta σ H Q
def EvO (K : PySem.W.Frag) (to : TO) (as : List AS) (o : Option Int) : Prop := ∀ G0 H0 G H σ, Env K G0 H0 G H σ as → ∀ Q : Option Int → Hp → Prop, (∀ G' H', Step G H G' H' → Q o H') → to σ H Q
section
variable {as : List AS} {ta tb te : TE} {t u : TT} {d e : D} {i j : Int} {b c : Bool}
theorem Env.refl {G0 H0 G H : Hp} {σ : L2.St} (E : Env K G0 H0 G H σ as) : Step G H G H := Step.refl E.st.s
theorem EvE.r (h : EvE K te as d) : EvR K te as d := fun G0 H0 G H σ E Q q => h G0 H0 G H σ E Q fun v G' H' s r => q v G' H' s (r.mono s.s)
/-- a new list as data -/
theorem EvN.ev {ds : List D} (h : EvN K te as ds) : EvE K te as (.lst ds) := fun G0 H0 G H σ E Q q => h G0 H0 G H σ E Q fun p vs G' H' s hp hg hh r => by
  have sg : Same G' (upd G' p (.lst vs)) := same_upd hg
  refine q _ (upd G' p (.lst vs)) H' ⟨s.g.trans sg, s.h, fun a o e => ?_, fun a h1 h2 => ?_⟩ (.lst upd_same (r.mono sg))
  · by_cases hb : a = p
    · subst hb; rw [upd_same] at e; rw [hh]; exact e
    · rw [upd_ne hb] at e; exact s.s a o e
  · rw [upd_ne (fun z => h1 (by rw [z]; exact hp))]; exact s.k a h1 h2
theorem ev_var {n : Nat} (h : as[n]? = some (AS.dat d)) : EvE K (tVar n) as d := fun _ _ G H _ E Q q => by
  obtain ⟨v, hv, r⟩ := E.dat n d h
  exact ⟨v, hv, q v G H E.refl r⟩
theorem er_mu {n : Nat} {ds : List D} (h : as[n]? = some (AS.mu ds)) : EvR K (tVar n) as (.lst ds) := fun _ _ G H _ E Q q => by
  obtain ⟨p, vs, hv, _, hg, hh, r⟩ := E.mu n ds h
  exact ⟨_, hv, q _ G H E.refl (.lst hh (r.mono E.st.s))⟩
theorem ev_i : EvE K (tC (.int i)) as (.int i) := fun _ _ G H _ E Q q => q _ G H E.refl (.int i)
theorem ev_b : EvE K (tC (.bl b)) as (.bl b) := fun _ _ G H _ E Q q => q _ G H E.refl (.bl b)
theorem ev_non : EvE K (tC .non) as .non := fun _ _ G H _ E Q q => q _ G H E.refl .non
theorem ev_opI {f : Int → Int → Int} (ha : EvR K ta as (.int i)) (hb : EvR K tb as (.int j)) : EvE K (tOp (rI0 fun i j => .int (f i j)) ta tb) as (.int (f i j)) := fun G0 H0 G H σ E Q q =>
  ha G0 H0 G H σ E _ fun v G1 H1 s1 r1 => hb G0 H0 G1 H1 σ (E.step s1) _ fun v2 G2 H2 s2 r2 => ⟨i, j, r1.int_inv, r2.int_inv, q _ G2 H2 (s1.trans s2) (.int _)⟩
theorem ev_opC {C : Int → Int → Prop} {f : Int → Int → Int} (ha : EvR K ta as (.int i)) (hb : EvR K tb as (.int j)) (hc : C i j) : EvE K (tOp (rI C fun i j => .int (f i j)) ta tb) as (.int (f i j)) := fun G0 H0 G H σ E Q q =>
  ha G0 H0 G H σ E _ fun v G1 H1 s1 r1 => hb G0 H0 G1 H1 σ (E.step s1) _ fun v2 G2 H2 s2 r2 => ⟨i, j, r1.int_inv, r2.int_inv, hc, q _ G2 H2 (s1.trans s2) (.int _)⟩
theorem ev_opB {f : Int → Int → Bool} (ha : EvR K ta as (.int i)) (hb : EvR K tb as (.int j)) : EvE K (tOp (rI0 fun i j => .bl (f i j)) ta tb) as (.bl (f i j)) := fun G0 H0 G H σ E Q q =>
  ha G0 H0 G H σ E _ fun v G1 H1 s1 r1 => hb G0 H0 G1 H1 σ (E.step s1) _ fun v2 G2 H2 s2 r2 => ⟨i, j, r1.int_inv, r2.int_inv, q _ G2 H2 (s1.trans s2) (.bl _)⟩
theorem ev_eqI (ha : EvR K ta as (.int i)) (hb : EvR K tb as (.int j)) : EvE K (tOp rEq ta tb) as (.bl (decide (i = j))) := fun G0 H0 G H σ E Q q =>
  ha G0 H0 G H σ E _ fun v G1 H1 s1 r1 => hb G0 H0 G1 H1 σ (E.step s1) _ fun v2 G2 H2 s2 r2 => by
    have e1 := r1.int_inv; have e2 := r2.int_inv; subst e1 e2
    refine ⟨rfl, ?_⟩
    have e : decide (V.int i = V.int j) = decide (i = j) := by
      by_cases h : i = j
      · rw [decide_eq_true h, decide_eq_true (by rw [h])]
      · rw [decide_eq_false h, decide_eq_false (fun z => h (V.int.inj z))]
    rw [e]
    exact q _ G2 H2 (s1.trans s2) (.bl _)
theorem ev_neI (ha : EvR K ta as (.int i)) (hb : EvR K tb as (.int j)) : EvE K (tOp rNe ta tb) as (.bl (!decide (i = j))) := fun G0 H0 G H σ E Q q =>
  ha G0 H0 G H σ E _ fun v G1 H1 s1 r1 => hb G0 H0 G1 H1 σ (E.step s1) _ fun v2 G2 H2 s2 r2 => by
    have e1 := r1.int_inv; have e2 := r2.int_inv; subst e1 e2
    refine ⟨rfl, ?_⟩
    have e : decide (V.int i = V.int j) = decide (i = j) := by
      by_cases h : i = j
      · rw [decide_eq_true h, decide_eq_true (by rw [h])]
      · rw [decide_eq_false h, decide_eq_false (fun z => h (V.int.inj z))]
    rw [e]
    exact q _ G2 H2 (s1.trans s2) (.bl _)
theorem ev_neg (ha : EvR K ta as (.int i)) : EvE K (tUn (rU fun i => .int (-i)) ta) as (.int (-i)) := fun G0 H0 G H σ E Q q =>
  ha G0 H0 G H σ E _ fun v G1 H1 s1 r1 => ⟨i, r1.int_inv, q _ G1 H1 s1 (.int _)⟩
/-- is None -/
def isNon : D → Bool
  | .non => true
  | _ => false
theorem Rp.isNon {G : Hp} {v : V} (h : Rp K G v d) : decide (v = .non) = Fw.isNon d := by
  cases h <;> simp [Fw.isNon]
theorem ev_isN (ha : EvR K ta as d) : EvE K (tIsN ta) as (.bl (isNon d)) := fun G0 H0 G H σ E Q q =>
  ha G0 H0 G H σ E _ fun v G1 H1 s1 r1 => by
    rw [r1.isNon]
    exact q _ G1 H1 s1 (.bl _)
/-! ### tests -/
theorem et_test (h : EvR K te as (.bl b)) : EvT K (tTest te) as b := fun G0 H0 G H σ E Q q => h G0 H0 G H σ E _ fun v G1 H1 s1 r1 => ⟨b, r1.bl_inv, q G1 H1 s1⟩
theorem et_B (h : EvR K te as (.bl b)) : EvT K (tB te) as b := fun G0 H0 G H σ E Q q => h G0 H0 G H σ E _ fun v G1 H1 s1 r1 => ⟨b, r1.bl_inv, q G1 H1 s1⟩
theorem et_not (h : EvT K t as b) : EvT K (tNot t) as (!b) := fun G0 H0 G H σ E Q q => h G0 H0 G H σ E _ fun G1 H1 s1 => q G1 H1 s1
theorem et_and (h1 : EvT K t as b) (h2 : b = true → EvT K u as c) : EvT K (tAnd t u) as (b && c) := fun G0 H0 G H σ E Q q => h1 G0 H0 G H σ E _ fun G1 H1 s1 => by
  cases b with
  | true =>
    show u σ H1 Q
    exact h2 rfl G0 H0 G1 H1 σ (E.step s1) Q fun G2 H2 s2 => q G2 H2 (s1.trans s2)
  | false =>
    show Q false H1
    exact q G1 H1 s1
theorem et_or (h1 : EvT K t as b) (h2 : b = false → EvT K u as c) : EvT K (tOr t u) as (b || c) := fun G0 H0 G H σ E Q q => h1 G0 H0 G H σ E _ fun G1 H1 s1 => by
  cases b with
  | true =>
    show Q true H1
    exact q G1 H1 s1
  | false =>
    show u σ H1 Q
    exact h2 rfl G0 H0 G1 H1 σ (E.step s1) Q fun G2 H2 s2 => q G2 H2 (s1.trans s2)
theorem et_yes : EvT K tYes as true := fun _ _ G H _ E Q q => q G H E.refl
theorem et_is (h : EvT K t as b) (e : b = c) : EvT K t as c := by rw [← e]; exact h
theorem ev_is (h : EvE K te as d) (x : d = e) : EvE K te as e := by rw [← x]; exact h
theorem er_is (h : EvR K te as d) (x : d = e) : EvR K te as e := by rw [← x]; exact h
theorem ev_andV (h1 : EvR K ta as (.bl b)) (h2 : b = true → EvE K tb as (.bl c)) : EvE K (tAndV ta tb) as (.bl (b && c)) := fun G0 H0 G H σ E Q q => h1 G0 H0 G H σ E _ fun v G1 H1 s1 r1 => ⟨b, r1.bl_inv, by
  cases b with
  | true =>
    show tb σ H1 Q
    exact h2 rfl G0 H0 G1 H1 σ (E.step s1) Q fun v2 G2 H2 s2 r2 => q v2 G2 H2 (s1.trans s2) r2
  | false =>
    show Q (.bl false) H1
    exact q _ G1 H1 s1 (.bl _)⟩
theorem ev_orV (h1 : EvR K ta as (.bl b)) (h2 : b = false → EvE K tb as (.bl c)) : EvE K (tOrV ta tb) as (.bl (b || c)) := fun G0 H0 G H σ E Q q => h1 G0 H0 G H σ E _ fun v G1 H1 s1 r1 => ⟨b, r1.bl_inv, by
  cases b with
  | true =>
    show Q (.bl true) H1
    exact q _ G1 H1 s1 (.bl _)
  | false =>
    show tb σ H1 Q
    exact h2 rfl G0 H0 G1 H1 σ (E.step s1) Q fun v2 G2 H2 s2 r2 => q v2 G2 H2 (s1.trans s2) r2⟩
theorem ev_notV (h1 : EvR K ta as (.bl b)) : EvE K (tNotV ta) as (.bl (!b)) := fun G0 H0 G H σ E Q q => h1 G0 H0 G H σ E _ fun v G1 H1 s1 r1 => ⟨b, r1.bl_inv, q _ G1 H1 s1 (.bl _)⟩
theorem ev_if (h : EvT K t as b) (h1 : b = true → EvE K ta as d) (h2 : b = false → EvE K tb as d) : EvE K (tIf t ta tb) as d := fun G0 H0 G H σ E Q q => h G0 H0 G H σ E _ fun G1 H1 s1 => by
  cases b with
  | true =>
    show ta σ H1 Q
    exact h1 rfl G0 H0 G1 H1 σ (E.step s1) Q fun v2 G2 H2 s2 r2 => q v2 G2 H2 (s1.trans s2) r2
  | false =>
    show tb σ H1 Q
    exact h2 rfl G0 H0 G1 H1 σ (E.step s1) Q fun v2 G2 H2 s2 r2 => q v2 G2 H2 (s1.trans s2) r2
/-! ### arguments, displays -/
theorem ea_nil : EvA K tNil as [] := fun _ _ G H _ E Q q => q [] G H E.refl .nil
theorem ea_cons {tr : TA} {ds : List D} (h : EvE K te as d) (hr : EvA K tr as ds) : EvA K (tCons te tr) as (d :: ds) := fun G0 H0 G H σ E Q q =>
  h G0 H0 G H σ E _ fun v G1 H1 s1 r1 => hr G0 H0 G1 H1 σ (E.step s1) _ fun vs G2 H2 s2 r2 => q _ G2 H2 (s1.trans s2) (.cons (r1.mono s2.g) r2)
theorem sz_le {n : Nat} (h : n ≤ 1000000) : n ≤ sizeLine := Nat.le_trans h (by decide)
theorem sz_lt {n : Nat} (h : n < 1000000) : n < sizeLine := Nat.lt_of_lt_of_le h (by decide)
theorem n_lst {ta : TA} {ds : List D} (h : EvA K ta as ds) (hl : ds.length ≤ 1000000) : EvN K (tLst ta) as ds := fun G0 H0 G H σ E Q q => h G0 H0 G H σ E _ fun vs G1 H1 s1 r1 =>
  ⟨sz_le (by rw [r1.len]; exact hl), fun p hp => q p vs G1 _ (s1.trans (Step.fresh s1.s hp)) (s1.h.free hp) (fresh_of s1.s hp) upd_same r1⟩
theorem ev_tup {ta : TA} {ds : List D} (h : EvA K ta as ds) (hl : ds.length ≤ 1000000) : EvE K (tTup ta) as (.tup ds) := fun G0 H0 G H σ E Q q => h G0 H0 G H σ E _ fun vs G1 H1 s1 r1 =>
  ⟨sz_le (by rw [r1.len]; exact hl), fun p hp => q _ (upd G1 p (.tup vs)) _ (s1.trans (Step.data s1.s hp)) (.tup upd_same (r1.mono (same_upd (fresh_of s1.s hp))))⟩
/-! ### lists -/
theorem ev_len {r : List V → Hp → VK → Prop} {ds : List D} (hr : r = fun xs H Q => ∃ p ys, xs = [.ref p] ∧ (SqL K H p ys ∨ SqT K H p ys) ∧ Q (.int ys.length) H) (h : EvR K te as d) (l : Ls d ds) : EvE K (tCB r (tCons te tNil)) as (.int ds.length) := fun G0 H0 G H σ E Q q => h G0 H0 G H σ E _ fun v G1 H1 s1 r1 => by
  obtain ⟨a, vs, rfl, hq, ra⟩ := r1.ls l
  subst hr
  refine ⟨a, vs, rfl, .inl hq, ?_⟩
  rw [ra.len]
  exact q _ G1 H1 s1 (.int _)
theorem atI_some {α : Type} {xs : List α} {k : Nat} {x : α} (h : xs[k]? = some x) : atI xs (k : Int) = some x := atI_nat h
/-- xs[k] -/
theorem ev_ix {ds : List D} {k : Nat} {x : D} (ha : EvE K ta as d) (l : Ls d ds) (hb : EvR K tb as (.int (k : Int))) (hx : ds[k]? = some x) : EvE K (tOp (rIxL K) ta tb) as x := fun G0 H0 G H σ E Q q =>
  ha G0 H0 G H σ E _ fun v G1 H1 s1 r1 => hb G0 H0 G1 H1 σ (E.step s1) _ fun v2 G2 H2 s2 r2 => by
    obtain ⟨a, vs, rfl, hq, ra⟩ := (r1.mono s2.g).ls l
    obtain ⟨y, hy, ry⟩ := ra.get hx
    exact ⟨a, vs, (k : Int), y, rfl, r2.int_inv, s2.s.seq hq, atI_some hy, q _ G2 H2 (s1.trans s2) ry⟩
/-- of a list that may still be changed -/
theorem ev_ixM {ds : List D} {n k : Nat} {x : D} (hn : as[n]? = some (AS.mu ds)) (hb : EvR K tb as (.int (k : Int))) (hx : ds[k]? = some x) : EvE K (tOp (rIxL K) (tVar n) tb) as x := fun G0 H0 G H σ E Q q => by
  obtain ⟨p, vs, hv, _, hg, hh, r⟩ := E.mu n ds hn
  refine ⟨_, hv, hb G0 H0 G H σ E _ fun v2 G2 H2 s2 r2 => ?_⟩
  obtain ⟨y, hy, ry⟩ := r.get hx
  exact ⟨p, vs, (k : Int), y, rfl, r2.int_inv, .inl (.inl (s2.h _ _ hh)), atI_some hy, q _ G2 H2 s2 (ry.mono s2.g)⟩
/-- xs[-1] -/
theorem ev_ixLast {ds : List D} {x : D} (ha : EvE K ta as d) (l : Ls d ds) (hb : EvR K tb as (.int (-1))) (hx : ds.getLast? = some x) : EvE K (tOp (rIxL K) ta tb) as x := fun G0 H0 G H σ E Q q =>
  ha G0 H0 G H σ E _ fun v G1 H1 s1 r1 => hb G0 H0 G1 H1 σ (E.step s1) _ fun v2 G2 H2 s2 r2 => by
    obtain ⟨a, vs, rfl, hq, ra⟩ := (r1.mono s2.g).ls l
    rw [List.getLast?_eq_getElem?] at hx
    obtain ⟨y, hy, ry⟩ := ra.get hx
    have hpos : 0 < vs.length := by
      have := (List.getElem?_eq_some_iff.mp hy).1
      omega
    have e : atI vs (-1) = some y := by
      unfold atI ixN
      rw [if_neg (by omega), if_pos (by omega)]
      show vs[(-1 + (vs.length : Int)).toNat]? = some y
      rw [← ra.len] at hy
      rw [← hy]
      congr 1
      omega
    exact ⟨a, vs, -1, y, rfl, r2.int_inv, s2.s.seq hq, e, q _ G2 H2 (s1.trans s2) ry⟩
/-- t[k] -/
theorem ev_ixT {ds : List D} {k : Nat} {x : D} (ha : EvE K ta as (.tup ds)) (hb : EvR K tb as (.int (k : Int))) (hx : ds[k]? = some x) : EvE K (tOp (rIxT K) ta tb) as x := fun G0 H0 G H σ E Q q =>
  ha G0 H0 G H σ E _ fun v G1 H1 s1 r1 => hb G0 H0 G1 H1 σ (E.step s1) _ fun v2 G2 H2 s2 r2 => by
    obtain ⟨a, vs, rfl, hq, ra⟩ := (r1.mono s2.g).tupl
    obtain ⟨y, hy, ry⟩ := ra.get hx
    exact ⟨a, vs, (k : Int), y, rfl, r2.int_inv, .inl (.inl (s2.s _ _ hq)), atI_some hy, q _ G2 H2 (s1.trans s2) ry⟩
theorem eo_none : EvO K tNoPart as none := fun _ _ G H _ E Q q => q G H E.refl
theorem eo_some (h : EvR K te as (.int i)) : EvO K (tPart te) as (some i) := fun G0 H0 G H σ E Q q => h G0 H0 G H σ E _ fun v G1 H1 s1 r1 => ⟨i, r1.int_inv, q G1 H1 s1⟩
def cut {α : Type} (xs : List α) (lo hi : Option Int) : List α := (xs.drop (HT.sIx xs.length 0 lo)).take (HT.sIx xs.length xs.length hi - HT.sIx xs.length 0 lo)
theorem RpAll.cut {G : Hp} {vs : List V} {ds : List D} {lo hi : Option Int} (h : RpAll K G vs ds) : RpAll K G (cutV vs lo hi) (Fw.cut ds lo hi) := by
  unfold cutV Fw.cut
  rw [h.len]
  exact (h.drop _).take _
theorem n_sl {tl th : TO} {ds : List D} {lo hi : Option Int} (h : EvE K te as d) (l : Ls d ds) (h1 : EvO K tl as lo) (h2 : EvO K th as hi) : EvN K (tSl (rSlL K) te tl th) as (cut ds lo hi) := fun G0 H0 G H σ E Q q =>
  h G0 H0 G H σ E _ fun v G1 H1 s1 r1 => h1 G0 H0 G1 H1 σ (E.step s1) _ fun G2 H2 s2 => h2 G0 H0 G2 H2 σ ((E.step s1).step s2) _ fun G3 H3 s3 => by
    have s := (s1.trans s2).trans s3
    obtain ⟨a, vs, rfl, hq, ra⟩ := ((r1.mono s2.g).mono s3.g).ls l
    exact ⟨a, vs, rfl, s3.s.seq hq, fun p hp => q p _ G3 _ (s.trans (Step.fresh s.s hp)) (s.h.free hp) (fresh_of s.s hp) upd_same ra.cut⟩
theorem cut_from {α : Type} (xs : List α) (k : Nat) : cut xs (some (k : Int)) none = xs.drop k := by
  unfold cut
  rw [HT.sIx_nat, HT.sIx_none]
  by_cases h : k ≤ xs.length
  · rw [Nat.min_eq_left h]
    exact List.take_of_length_le (by rw [List.length_drop]; omega)
  · rw [Nat.min_eq_right (by omega), List.drop_of_length_le (Nat.le_refl _), List.drop_of_length_le (by omega)]
    simp
theorem cut_to {α : Type} (xs : List α) (k : Nat) : cut xs none (some (k : Int)) = xs.take k := by
  unfold cut
  rw [HT.sIx_nat, HT.sIx_none]
  show (xs.drop 0).take _ = _
  rw [List.drop_zero, Nat.sub_zero]
  by_cases h : k ≤ xs.length
  · rw [Nat.min_eq_left h]
  · rw [Nat.min_eq_right (by omega), List.take_of_length_le (Nat.le_refl _), List.take_of_length_le (by omega)]
theorem cut_mid {α : Type} (xs : List α) (a b : Nat) (h : b ≤ xs.length) (hab : a ≤ b) : cut xs (some (a : Int)) (some (b : Int)) = (xs.drop a).take (b - a) := by
  unfold cut
  rw [HT.sIx_nat, HT.sIx_nat, Nat.min_eq_left h, Nat.min_eq_left (by omega)]
theorem n_cat {ds es : List D} (ha : EvE K ta as (.lst ds)) (hb : EvE K tb as (.lst es)) (hl : ds.length + es.length ≤ 1000000) : EvN K (tOp rCat ta tb) as (ds ++ es) := fun G0 H0 G H σ E Q q =>
  ha G0 H0 G H σ E _ fun v G1 H1 s1 r1 => hb G0 H0 G1 H1 σ (E.step s1) _ fun v2 G2 H2 s2 r2 => by
    have s := s1.trans s2
    obtain ⟨a, vs, rfl, hq, ra⟩ := (r1.mono s2.g).seq
    obtain ⟨b, ws, rfl, hq2, rb⟩ := r2.seq
    exact ⟨a, b, vs, ws, rfl, rfl, s2.s _ _ hq, s2.s _ _ hq2, sz_le (by rw [ra.len, rb.len]; exact hl), fun p hp => q p _ G2 _ (s.trans (Step.fresh s.s hp)) (s.h.free hp) (fresh_of s.s hp) upd_same (ra.append rb)⟩
end
end Fw
set_option Elab.async false
set_option linter.all false
set_option maxRecDepth 100000
namespace Fw
open PySem L2
variable {K : PySem.W.Frag}
section
variable {as : List AS} {ta tb te : TE} {t u : TT} {d e : D} {i j : Int} {b c : Bool}
theorem rep_flat {α : Type} : ∀ (n : Nat) (x : α), (List.replicate n [x]).flatten = List.replicate n x
  | 0, _ => rfl
  | n + 1, x => by rw [List.replicate_succ, List.flatten_cons, rep_flat n x]; rfl
/-- [x] * k -/
theorem n_rep {x : D} {k : Nat} (ha : EvE K ta as (.lst [x])) (hb : EvR K tb as (.int (k : Int))) (hk : k ≤ 1000000) : EvN K (tOp rRep ta tb) as (List.replicate k x) := fun G0 H0 G H σ E Q q =>
  ha G0 H0 G H σ E _ fun v G1 H1 s1 r1 => hb G0 H0 G1 H1 σ (E.step s1) _ fun v2 G2 H2 s2 r2 => by
    have s := s1.trans s2
    obtain ⟨a, vs, rfl, hq, ra⟩ := (r1.mono s2.g).seq
    cases ra with
    | cons r0 rn =>
      cases rn
      refine ⟨a, (k : Int), _, rfl, r2.int_inv, s2.s _ _ hq, by omega, by omega, sz_le (by show 1 * (k : Int).toNat ≤ _; omega), fun p hp => ?_⟩
      rw [Int.toNat_natCast, rep_flat]
      exact q p _ G2 _ (s.trans (Step.fresh s.s hp)) (s.h.free hp) (fresh_of s.s hp) upd_same (RpAll.rep r0 k)
/-! ### equal -/
mutual
def toPy : D → PyData
  | .non => .none
  | .bl b => .bool b
  | .int i => .int i
  | .lst xs => .list (toPys xs)
  | .tup xs => .tuple (toPys xs)
  | .inp xs => .list (toPys xs)
def toPys : List D → List PyData
  | [] => []
  | d :: ds => toPy d :: toPys ds
end
mutual
theorem Rp.dp {G : Hp} : ∀ {v : V} {d : D}, Rp K G v d → Dp K G v (toPy d)
  | _, _, .non => .non
  | _, _, .bl b => .bl b
  | _, _, .int i => .int i
  | _, _, .lst h a => .lst (.inl (.inl h)) (RpAll.dp a)
  | _, _, .tup h a => .tup (.inl (.inl h)) (RpAll.dp a)
  | _, _, .inp h a => .lst h (RpAll.dp a)
theorem RpAll.dp {G : Hp} : ∀ {vs : List V} {ds : List D}, RpAll K G vs ds → DpAll K G vs (toPys ds)
  | _, _, .nil => .nil
  | _, _, .cons h a => .cons (Rp.dp h) (RpAll.dp a)
end
def Sh (d : D) : Prop := SeqAt.shaped (toPy d) = true
def eqD (d e : D) : Bool := PyData.eqv (toPy d) (toPy e)
theorem ev_eqD (ha : EvR K ta as d) (hb : EvR K tb as e) (h1 : Sh d) (h2 : Sh e) : EvE K (tOp (rEqD K) ta tb) as (.bl (eqD d e)) := fun G0 H0 G H σ E Q q =>
  ha G0 H0 G H σ E _ fun v G1 H1 s1 r1 => hb G0 H0 G1 H1 σ (E.step s1) _ fun v2 G2 H2 s2 r2 => ⟨_, _, (r1.mono s2.h).dp, r2.dp, h1, h2, q _ G2 H2 (s1.trans s2) (.bl _)⟩
theorem ev_neD (ha : EvR K ta as d) (hb : EvR K tb as e) (h1 : Sh d) (h2 : Sh e) : EvE K (tOp (rNeD K) ta tb) as (.bl (!eqD d e)) := fun G0 H0 G H σ E Q q =>
  ha G0 H0 G H σ E _ fun v G1 H1 s1 r1 => hb G0 H0 G1 H1 σ (E.step s1) _ fun v2 G2 H2 s2 r2 => ⟨_, _, (r1.mono s2.h).dp, r2.dp, h1, h2, q _ G2 H2 (s1.trans s2) (.bl _)⟩
theorem ev_inD {ds : List D} (ha : EvR K ta as d) (hb : EvR K tb as (.lst ds)) (h1 : Sh d) (h2 : Sh (.lst ds)) : EvE K (tOp (rInD K) ta tb) as (.bl ((toPys ds).any fun z => PyData.eqv z (toPy d))) := fun G0 H0 G H σ E Q q =>
  ha G0 H0 G H σ E _ fun v G1 H1 s1 r1 => hb G0 H0 G1 H1 σ (E.step s1) _ fun v2 G2 H2 s2 r2 => ⟨_, _, (r1.mono s2.h).dp, r2.dp, h1, h2, q _ G2 H2 (s1.trans s2) (.bl _)⟩
/-! ### in, index of whole numbers -/
theorem flat_ints (ns : List Int) : (ns.map V.int).all flatV = true := by
  rw [List.all_eq_true]
  intro x hx
  obtain ⟨n, _, rfl⟩ := List.mem_map.mp hx
  rfl
theorem eqV_int (i j : Int) : eqV (V.int i) (V.int j) = decide (i = j) := by
  show (i == j) = _
  by_cases h : i = j
  · subst h; simp
  · rw [decide_eq_false h]; simpa using h
theorem inV_ints (n : Int) : ∀ ns : List Int, inV (.int n) (ns.map V.int) = decide (n ∈ ns)
  | [] => by simp [inV]
  | m :: ns => by
    have ih := inV_ints n ns
    show (eqV (V.int m) (V.int n) || inV (.int n) (ns.map V.int)) = _
    rw [ih, eqV_int]
    by_cases h : m = n
    · simp [h]
    · have h' : ¬ n = m := fun z => h z.symm
      simp [h, h']
theorem ev_inI {neg : Bool} {ns : List Int} (ha : EvR K ta as (.int i)) (hb : EvR K tb as d) (l : Ls d (dI ns)) : EvE K (tOp (rIn K neg) ta tb) as (.bl (if neg then !decide (i ∈ ns) else decide (i ∈ ns))) := fun G0 H0 G H σ E Q q =>
  ha G0 H0 G H σ E _ fun v G1 H1 s1 r1 => hb G0 H0 G1 H1 σ (E.step s1) _ fun v2 G2 H2 s2 r2 => by
    obtain ⟨a, vs, rfl, hq, ra⟩ := r2.ls l
    have e1 := r1.int_inv
    subst e1
    have e2 := ra.dI_inv
    subst e2
    refine ⟨a, _, rfl, .inl hq, rfl, flat_ints ns, ?_⟩
    rw [inV_ints]
    exact q _ G2 H2 (s1.trans s2) (.bl _)
theorem lt_idx {i : Int} : ∀ (ns : List Int) (m : Nat), m < ns.idxOf i → ns[m]? ≠ some i
  | [], m, h => by simp
  | n :: ns, m, h => by
    rw [List.idxOf_cons] at h
    by_cases e : n = i
    · subst e; simp at h
    · have e' : (n == i) = false := by simpa using e
      rw [e'] at h
      cases m with
      | zero => simpa using e
      | succ m => exact lt_idx ns m (by simpa using h)
theorem ev_index {ns : List Int} (ha : EvR K ta as d) (l : Ls d (dI ns)) (hb : EvR K tb as (.int i)) (hi : i ∈ ns) : EvE K (tBM K "list" (rIndex K) ta (tCons tb tNil)) as (.int (ns.idxOf i : Nat)) := fun G0 H0 G H σ E Q q =>
  ha G0 H0 G H σ E _ fun v G1 H1 s1 r1 => by
    obtain ⟨a, vs, rfl, hq, ra⟩ := r1.ls l
    have e2 := ra.dI_inv
    subst e2
    refine ⟨.inl ⟨rfl, _, hq⟩, hb G0 H0 G1 H1 σ (E.step s1) _ fun v2 G2 H2 s2 r2 => ?_⟩
    have e1 := r2.int_inv
    subst e1
    have hlt : ns.idxOf i < ns.length := List.idxOf_lt_length_of_mem hi
    refine ⟨a, _, .int i, ns.idxOf i, .int i, rfl, rfl, s2.h.seq hq, rfl, flat_ints ns, ?_, by rw [eqV_int]; simp, fun m z' hm hz => ?_, q _ G2 H2 (s1.trans s2) (.int _)⟩
    · rw [List.getElem?_map, List.getElem?_eq_getElem hlt, List.getElem_idxOf hlt]; rfl
    · rw [List.getElem?_map, List.getElem?_eq_getElem (by omega)] at hz
      cases hz
      rw [eqV_int, decide_eq_false]
      intro z
      exact lt_idx ns m hm (by rw [List.getElem?_eq_getElem (by omega), z])
/-! ### built-ins -/
theorem ev_abs {r : List V → Hp → VK → Prop} (hr : r = fun xs H Q => ∃ i, xs = [.int i] ∧ Q (.int (if i < 0 then -i else i)) H) (h : EvR K te as (.int i)) : EvE K (tCB r (tCons te tNil)) as (.int i.natAbs) := fun G0 H0 G H σ E Q q => h G0 H0 G H σ E _ fun v G1 H1 s1 r1 => by
  have e1 := r1.int_inv
  subst e1 hr
  refine ⟨i, rfl, ?_⟩
  rw [show (if i < 0 then -i else i) = (i.natAbs : Int) by split <;> omega]
  exact q _ G1 H1 s1 (.int _)
theorem ev_max2 {r : List V → Hp → VK → Prop} (hr : r = fun xs H Q => ∃ i j, xs = [.int i, .int j] ∧ Q (.int (if j > i then j else i)) H) (ha : EvR K ta as (.int i)) (hb : EvR K tb as (.int j)) : EvE K (tCB r (tCons ta (tCons tb tNil))) as (.int (max i j)) := fun G0 H0 G H σ E Q q =>
  ha G0 H0 G H σ E _ fun v G1 H1 s1 r1 => hb G0 H0 G1 H1 σ (E.step s1) _ fun v2 G2 H2 s2 r2 => by
    have e1 := r1.int_inv
    have e2 := r2.int_inv
    subst e1 e2 hr
    refine ⟨i, j, rfl, ?_⟩
    rw [show (if j > i then j else i) = max i j by split <;> omega]
    exact q _ G2 H2 (s1.trans s2) (.int _)
theorem ev_any {bs : List Bool} (h : EvR K te as (.lst (dB bs))) : EvE K (tCB (rAny K) (tCons te tNil)) as (.bl (bs.any id)) := fun G0 H0 G H σ E Q q => h G0 H0 G H σ E _ fun v G1 H1 s1 r1 => by
  obtain ⟨a, vs, rfl, hq, ra⟩ := r1.seq
  have e := ra.dB_inv
  subst e
  exact ⟨a, bs, rfl, .inl (.inl hq), q _ G1 H1 s1 (.bl _)⟩
theorem ev_all {bs : List Bool} (h : EvR K te as (.lst (dB bs))) : EvE K (tCB (rAll K) (tCons te tNil)) as (.bl (bs.all id)) := fun G0 H0 G H σ E Q q => h G0 H0 G H σ E _ fun v G1 H1 s1 r1 => by
  obtain ⟨a, vs, rfl, hq, ra⟩ := r1.seq
  have e := ra.dB_inv
  subst e
  exact ⟨a, bs, rfl, .inl (.inl hq), q _ G1 H1 s1 (.bl _)⟩
theorem ev_sum {ns : List Int} (h : EvR K te as d) (l : Ls d (dI ns)) : EvE K (tCB (rSum K) (tCons te tNil)) as (.int ns.sum) := fun G0 H0 G H σ E Q q => h G0 H0 G H σ E _ fun v G1 H1 s1 r1 => by
  obtain ⟨a, vs, rfl, hq, ra⟩ := r1.ls l
  have e := ra.dI_inv
  subst e
  exact ⟨a, ns, rfl, hq, q _ G1 H1 s1 (.int _)⟩
theorem ev_max {ns : List Int} {m : Int} (h : EvR K te as (.lst (dI ns))) (hm : m ∈ ns) (hx : ∀ y ∈ ns, y ≤ m) : EvE K (tCB (rMax K) (tCons te tNil)) as (.int m) := fun G0 H0 G H σ E Q q => h G0 H0 G H σ E _ fun v G1 H1 s1 r1 => by
  obtain ⟨a, vs, rfl, hq, ra⟩ := r1.seq
  have e := ra.dI_inv
  subst e
  refine ⟨a, ns, rfl, .inl (.inl hq), List.length_pos_of_mem hm, fun m' h1 h2 => ?_⟩
  have : m' = m := Int.le_antisymm (hx m' h1) (h2 m hm)
  rw [this]
  exact q _ G1 H1 s1 (.int _)
theorem ev_min {ns : List Int} {m : Int} (h : EvR K te as (.lst (dI ns))) (hm : m ∈ ns) (hx : ∀ y ∈ ns, m ≤ y) : EvE K (tCB (rMin K) (tCons te tNil)) as (.int m) := fun G0 H0 G H σ E Q q => h G0 H0 G H σ E _ fun v G1 H1 s1 r1 => by
  obtain ⟨a, vs, rfl, hq, ra⟩ := r1.seq
  have e := ra.dI_inv
  subst e
  refine ⟨a, ns, rfl, .inl (.inl hq), List.length_pos_of_mem hm, fun m' h1 h2 => ?_⟩
  have : m' = m := Int.le_antisymm (h2 m hm) (hx m' h1)
  rw [this]
  exact q _ G1 H1 s1 (.int _)
/-! ### a def's promise: R tells what comes back for what is handed in -/
def SpR (K : PySem.W.Frag) (R : List D → D → Prop) : Sp := fun vs H Q _ => ∃ G ds d, Same G H ∧ RpAll K G vs ds ∧ R ds d ∧ ∀ v G' H', Step G H G' H' → Rp K G' v d → Q v H'
theorem ev_call {R : List D → D → Prop} {ta : TA} {ds : List D} {X : XK} (h : EvA K ta as ds) (hr : R ds d) : EvE K (tCall (SpR K R) [] X ta) as d := fun G0 H0 G H σ E Q q => h G0 H0 G H σ E _ fun vs G1 H1 s1 r1 => by
  rw [List.append_nil]
  exact ⟨G1, ds, d, s1.s, r1, hr, fun v G2 H2 s2 r2 => q v G2 H2 (s1.trans s2) r2⟩
end
/-! ### statements -/
/-- from slots as told (since the def's start at G0, H0) on, P is reached -/
def Co (K : PySem.W.Frag) (G0 H0 : Hp) (as : List AS) (P : L2.St → Hp → Prop) : Prop := ∀ σ G H, Env K G0 H0 G H σ as → P σ H
def Rt (K : PySem.W.Frag) (G0 H0 : Hp) (d : D) (Q : VK) : Prop := ∀ v G' H', Step G0 H0 G' H' → Rp K G' v d → Q v H'
/-- what the slots are to be at a turn's end -/
def At (K : PySem.W.Frag) (G0 H0 : Hp) (as : List AS) : L2.St → Hp → Prop := fun σ H => ∃ G, Env K G0 H0 G H σ as
section
variable {G0 H0 : Hp} {as : List AS} {Dn : Ends} {ta tb te : TE} {tt : TT} {tu tw : TS} {d : D} {ds es : List D} {n : Nat} {P : L2.St → Hp → Prop}
theorem c_asg (h : EvE K te as d) (k : Co K G0 H0 (as.set n (.dat d)) Dn.nx) : Co K G0 H0 as (tAsg te (gName n) Dn) := fun σ G H E => h G0 H0 G H σ E _ fun v G1 H1 s1 r1 => k _ G1 H1 ((E.step s1).setD r1)
theorem c_new (h : EvN K te as ds) (k : Co K G0 H0 (as.set n (.mu ds)) Dn.nx) : Co K G0 H0 as (tAsg te (gName n) Dn) := fun σ G H E => h G0 H0 G H σ E _ fun p vs G1 H1 s1 hp hg hh r => k _ G1 H1 (E.setM s1 hp hg hh r)
theorem c_frz (hn : as[n]? = some (AS.mu ds)) (k : Co K G0 H0 (as.set n (.dat (.lst ds))) P) : Co K G0 H0 as P := fun σ G H E => by
  obtain ⟨G', E'⟩ := E.frz hn
  exact k σ G' H E'
theorem c_ret (h : EvE K te as d) (k : Rt K G0 H0 d Dn.rt) : Co K G0 H0 as (tRet te Dn) := fun σ G H E => h G0 H0 G H σ E _ fun v G1 H1 s1 r1 => k v G1 H1 (E.st.trans s1) r1
theorem c_if {b : Bool} (h : EvT K tt as b) (h1 : b = true → Co K G0 H0 as (tu Dn)) (h2 : b = false → Co K G0 H0 as (tw Dn)) : Co K G0 H0 as (tIfS tt tu tw Dn) := fun σ G H E => h G0 H0 G H σ E _ fun G1 H1 s1 => by
  cases b with
  | true =>
    show tu Dn σ H1
    exact h1 rfl σ G1 H1 (E.step s1)
  | false =>
    show tw Dn σ H1
    exact h2 rfl σ G1 H1 (E.step s1)
theorem c_seq (h : Co K G0 H0 as (tu { Dn with nx := tw Dn })) : Co K G0 H0 as (tSeq tu tw Dn) := h
theorem c_next (h : Co K G0 H0 as Dn.nx) : Co K G0 H0 as (tNext Dn) := h
theorem c_less {bs : List AS} (l : Le bs as) (k : Co K G0 H0 bs P) : Co K G0 H0 as P := fun σ G H E => k σ G H (E.less l)
theorem c_at {bs : List AS} (l : Le bs as) : Co K G0 H0 as (At K G0 H0 bs) := fun σ G H E => ⟨G, E.less l⟩
/-- xs.append(e) -/
theorem c_app (hn : as[n]? = some (AS.mu ds)) (h : EvE K te as d) (hz : ds.length < 1000000) (k : Co K G0 H0 (as.set n (.mu (ds ++ [d]))) Dn.nx) : Co K G0 H0 as (tDrop (tBM K "list" rAppend (tVar n) (tCons te tNil)) Dn) := fun σ G H E => by
  obtain ⟨p, vs, hv, _, hg, hh, r⟩ := E.mu n ds hn
  refine ⟨_, hv, .inl ⟨rfl, vs, .inl (.inl hh)⟩, h G0 H0 G H σ E _ fun v G1 H1 s1 r1 => ⟨p, vs, v, rfl, rfl, s1.h _ _ hh, sz_lt (by rw [r.len]; exact hz), ?_⟩⟩
  exact k _ G1 _ ((E.step s1).chg hn hv ((r.mono s1.g).append (.cons r1 .nil)))
/-- xs.extend(e) -/
theorem c_ext (hn : as[n]? = some (AS.mu ds)) (h : EvE K te as (.lst es)) (hz : ds.length + es.length ≤ 1000000) (k : Co K G0 H0 (as.set n (.mu (ds ++ es))) Dn.nx) : Co K G0 H0 as (tDrop (tBM K "list" rExtend (tVar n) (tCons te tNil)) Dn) := fun σ G H E => by
  obtain ⟨p, vs, hv, _, hg, hh, r⟩ := E.mu n ds hn
  refine ⟨_, hv, .inl ⟨rfl, vs, .inl (.inl hh)⟩, h G0 H0 G H σ E _ fun v G1 H1 s1 r1 => ?_⟩
  obtain ⟨a, ws, rfl, hq, ra⟩ := r1.seq
  exact ⟨p, a, vs, ws, rfl, rfl, s1.h _ _ hh, s1.s _ _ hq, sz_le (by rw [r.len, ra.len]; exact hz), k _ G1 _ ((E.step s1).chg hn hv ((r.mono s1.g).append ra))⟩
/-- xs.reverse() -/
theorem c_rev (hn : as[n]? = some (AS.mu ds)) (k : Co K G0 H0 (as.set n (.mu ds.reverse)) Dn.nx) : Co K G0 H0 as (tDrop (tBM0 K "list" rReverse (tVar n)) Dn) := fun σ G H E => by
  obtain ⟨p, vs, hv, _, hg, hh, r⟩ := E.mu n ds hn
  exact ⟨_, hv, .inl ⟨rfl, vs, .inl (.inl hh)⟩, p, vs, rfl, rfl, hh, k _ G _ (E.chg hn hv r.reverse)⟩
/-- xs[k] = e -/
theorem c_set {k : Nat} (hn : as[n]? = some (AS.mu ds)) (h : EvE K te as d) (hb : EvR K tb as (.int (k : Int))) (hk : k < ds.length) (c : Co K G0 H0 (as.set n (.mu (ds.set k d))) Dn.nx) : Co K G0 H0 as (tAsg te (gSub (tVar n) tb rSetL) Dn) := fun σ G H E => by
  obtain ⟨p, vs, hv, _, hg, hh, r⟩ := E.mu n ds hn
  refine h G0 H0 G H σ E _ fun v G1 H1 s1 r1 => ⟨_, hv, hb G0 H0 G1 H1 σ (E.step s1) _ fun v2 G2 H2 s2 r2 => ?_⟩
  have s := s1.trans s2
  refine ⟨p, vs, (k : Int), k, rfl, r2.int_inv, s.h _ _ hh, ?_, c _ G2 _ ((E.step s).chg hn hv ((r.mono s.g).set (r1.mono s2.g)))⟩
  unfold ixN
  rw [if_pos (by omega), if_pos (by rw [r.len]; omega), Int.toNat_natCast]
/-- while: a state s, its slots A s, what holds I s, a measure -/
def Nx (K : PySem.W.Frag) (G0 H0 : Hp) {S : Type} (A : S → List AS) (I : S → Prop) (m : S → Nat) (s : S) : L2.St → Hp → Prop := fun σ H => ∃ s' G, I s' ∧ m s' < m s ∧ Env K G0 H0 G H σ (A s')
theorem c_while {S : Type} (A : S → List AS) (I : S → Prop) (m : S → Nat) (s0 : S) (hA : Le (A s0) as) (hI : I s0)
    (hs : ∀ s, I s → ∃ b, EvT K tt (A s) b ∧ (b = true → Co K G0 H0 (A s) (tu { Dn with nx := Nx K G0 H0 A I m s, ct := Nx K G0 H0 A I m s, bk := Dn.nx })) ∧ (b = false → Co K G0 H0 (A s) Dn.nx)) : Co K G0 H0 as (tWhile tt tu Dn) := fun σ G H E =>
  ⟨fun k σ H => ∃ s G, I s ∧ m s = k ∧ Env K G0 H0 G H σ (A s), ⟨m s0, s0, G, hI, rfl, E.less hA⟩, fun k σ1 H1 hw => by
    obtain ⟨s, G1, hi, rfl, E1⟩ := hw
    obtain ⟨b, hb, h1, h2⟩ := hs s hi
    refine hb G0 H0 G1 H1 σ1 E1 _ fun G2 H2 s2 => ?_
    cases b with
    | true =>
      rw [if_pos rfl]
      exact ⟨Nx K G0 H0 A I m s, fun σ3 H3 hx => let ⟨s', G3, a, b, c⟩ := hx; ⟨m s', b, s', G3, a, rfl, c⟩, h1 rfl σ1 G2 H2 (E1.step s2)⟩
    | false =>
      rw [if_neg Bool.false_ne_true]
      exact h2 rfl σ1 G2 H2 (E1.step s2)⟩
theorem c_nx {S : Type} {A : S → List AS} {I : S → Prop} {m : S → Nat} {s : S} (s' : S) (hl : Le (A s') as) (hi : I s') (hm : m s' < m s) : Co K G0 H0 as (Nx K G0 H0 A I m s) := fun σ G H E => ⟨s', G, hi, hm, E.less hl⟩
end
end Fw
set_option Elab.async false
set_option linter.all false
set_option maxRecDepth 100000
namespace Fw
open PySem PyProof.Rows L2
variable {K : PySem.W.Frag}
/-! ### targets -/
/-- g takes d: the slots become f as; only the slots js are written -/
def TgE (K : PySem.W.Frag) (g : TG) (d : D) (js : List Nat) (f : List AS → List AS) : Prop := ∀ G0 H0 G H σ as v, Env K G0 H0 G H σ as → Rp K G v d → ∀ Q : L2.St → Hp → Prop,
  (∀ σ', Env K G0 H0 G H σ' (f as) → σ'.length = σ.length → (∀ i : Nat, i ∉ js → σ'[i]? = σ[i]?) → Q σ' H) → g v σ H Q
theorem tg_name {d : D} {n : Nat} : TgE K (gName n) d [n] (fun as => as.set n (.dat d)) := fun G0 H0 G H σ as v E r Q q =>
  q _ (E.setD r) List.length_set fun i hi => List.getElem?_set_ne (fun z => hi (by rw [z]; exact List.mem_cons_self ..))
theorem tg_tup2 {d1 d2 : D} {n m : Nat} : TgE K (gTup K 2 (gCons (gName n) (gCons (gName m) gNil))) (.tup [d1, d2]) [n, m] (fun as => (as.set n (.dat d1)).set m (.dat d2)) := fun G0 H0 G H σ as v E r Q q => by
  obtain ⟨a, vs, rfl, hq, ra⟩ := r.tupl
  cases ra with
  | cons r1 ra =>
    cases ra with
    | cons r2 ra =>
      cases ra
      refine ⟨a, _, rfl, .inl (.inl (E.st.s _ _ hq)), rfl, _, _, rfl, _, _, rfl, rfl, ?_⟩
      refine q _ ((E.setD r1).setD r2) (by rw [List.length_set, List.length_set]) fun i hi => ?_
      rw [List.getElem?_set_ne (fun z => hi (by rw [z]; simp)), List.getElem?_set_ne (fun z => hi (by rw [z]; simp))]
theorem tg_tup3 {d1 d2 d3 : D} {n m l : Nat} : TgE K (gTup K 3 (gCons (gName n) (gCons (gName m) (gCons (gName l) gNil)))) (.tup [d1, d2, d3]) [n, m, l] (fun as => ((as.set n (.dat d1)).set m (.dat d2)).set l (.dat d3)) := fun G0 H0 G H σ as v E r Q q => by
  obtain ⟨a, vs, rfl, hq, ra⟩ := r.tupl
  cases ra with
  | cons r1 ra =>
    cases ra with
    | cons r2 ra =>
      cases ra with
      | cons r3 ra =>
        cases ra
        refine ⟨a, _, rfl, .inl (.inl (E.st.s _ _ hq)), rfl, _, _, rfl, _, _, rfl, _, _, rfl, rfl, ?_⟩
        refine q _ (((E.setD r1).setD r2).setD r3) (by rw [List.length_set, List.length_set, List.length_set]) fun i hi => ?_
        rw [List.getElem?_set_ne (fun z => hi (by rw [z]; simp)), List.getElem?_set_ne (fun z => hi (by rw [z]; simp)), List.getElem?_set_ne (fun z => hi (by rw [z]; simp))]
/-! ### what is walked -/
structure Wk (K : PySem.W.Frag) (J : It) (G2 : Hp) (ds : List D) : Prop where
  goes : ∀ i G H, i < ds.length → Same G2 G → Same G H → J.go i H
  stops : ∀ G H, Same G2 G → Same G H → J.stop ds.length H
  yields : ∀ i d G H x H', ds[i]? = some d → Same G2 G → Same G H → J.yld i H x H' → ∃ G', Step G H G' H' ∧ Rp K G' x d
def ItE (K : PySem.W.Frag) (wi : TI) (as : List AS) (ds : List D) : Prop := ∀ G0 H0 G H σ, Env K G0 H0 G H σ as → ∀ R : It → Hp → Prop, (∀ J G' H', Step G H G' H' → Wk K J G' ds → R J H') → wi σ H R
section
variable {as : List AS} {ta tb te tl : TE} {d e : D} {ds es : List D}
theorem wk_list {G : Hp} {a : Addr} {vs : List V} (h : SqL K G a vs) (r : RpAll K G vs ds) : Wk K (Itl K a) G ds := by
  refine ⟨fun i G1 H1 hi e1 e2 => ?_, fun G1 H1 e1 e2 => ?_, fun i d G1 H1 x H' hd e1 e2 y => ?_⟩
  · have hv : i < vs.length := by rw [r.len]; exact hi
    exact ⟨vs, vs[i], e2.seq (e1.seq h), List.getElem?_eq_getElem hv⟩
  · exact ⟨vs, e2.seq (e1.seq h), Nat.le_of_eq r.len⟩
  · obtain ⟨rfl, y⟩ := y
    obtain ⟨v, hv, rv⟩ := r.get hd
    have e := y vs (e2.seq (e1.seq h))
    rw [hv] at e
    cases e
    exact ⟨G1, Step.refl e2, rv.mono e1⟩
theorem it_list (h : EvE K tl as d) (l : Ls d ds) : ItE K (iList K tl) as ds := fun G0 H0 G H σ E R k => h G0 H0 G H σ E _ fun v G1 H1 s1 r1 => by
  obtain ⟨a, vs, rfl, hq, ra⟩ := r1.ls l
  exact ⟨a, rfl, ⟨vs, s1.s.seq hq⟩, k _ G1 H1 s1 (wk_list hq ra)⟩
theorem it_rev (h : EvE K tl as d) (l : Ls d ds) : ItE K (iRev K (tCons tl tNil)) as ds.reverse := fun G0 H0 G H σ E R k => h G0 H0 G H σ E _ fun v G1 H1 s1 r1 => by
  obtain ⟨a, vs, rfl, hq, r⟩ := r1.ls l
  have hlen := r.len
  refine ⟨a, vs, rfl, s1.s.seq hq, k _ G1 H1 s1 ⟨fun i G2 H2 hi e1 e2 => ?_, fun G2 H2 e1 e2 => ?_, fun i d G2 H2 x H' hd e1 e2 y => ?_⟩⟩
  · rw [List.length_reverse] at hi
    have hv : vs.length - 1 - i < vs.length := by omega
    exact ⟨by omega, vs, vs[vs.length - 1 - i], e2.seq (e1.seq hq), List.getElem?_eq_getElem hv⟩
  · show vs.length ≤ ds.reverse.length
    rw [List.length_reverse]; omega
  · obtain ⟨rfl, y⟩ := y
    have hi : i < ds.length := by
      have := (List.getElem?_eq_some_iff.mp hd).1
      rwa [List.length_reverse] at this
    rw [List.getElem?_reverse hi] at hd
    obtain ⟨v, hv, rv⟩ := r.get hd
    have e := y vs (e2.seq (e1.seq hq))
    rw [hlen, hv] at e
    cases e
    exact ⟨G2, Step.refl e2, rv.mono e1⟩
def pairD (x y : D) : D := .tup [x, y]
theorem it_enum (h : EvE K tl as d) (l : Ls d ds) : ItE K (iEnum K (tCons tl tNil)) as (ds.zipIdx.map fun x => pairD (.int (x.2 : Nat)) x.1) := fun G0 H0 G H σ E R k => h G0 H0 G H σ E _ fun v G1 H1 s1 r1 => by
  obtain ⟨a, vs, rfl, hq, r⟩ := r1.ls l
  have hlen := r.len
  refine ⟨a, vs, rfl, s1.s.seq hq, k _ G1 H1 s1 ⟨fun i G2 H2 hi e1 e2 => ?_, fun G2 H2 e1 e2 => ?_, fun i d G2 H2 x H' hd e1 e2 y => ?_⟩⟩
  · have hv : i < vs.length := by
      rw [List.length_map, List.length_zipIdx] at hi
      omega
    exact ⟨vs, vs[i], e2.seq (e1.seq hq), List.getElem?_eq_getElem hv⟩
  · refine ⟨vs, e2.seq (e1.seq hq), ?_⟩
    rw [List.length_map, List.length_zipIdx]; omega
  · obtain ⟨T, z, rfl, nT, rfl, y⟩ := y
    rw [List.getElem?_map, List.getElem?_zipIdx] at hd
    cases ed : ds[i]? with
    | none => rw [ed] at hd; simp at hd
    | some w =>
      rw [ed] at hd
      have hd' : pairD (.int ((0 + i : Nat) : Int)) w = d := by simpa using hd
      obtain ⟨v, hv, rv⟩ := r.get ed
      have e := y vs (e2.seq (e1.seq hq))
      have ez : z = v := Option.some.inj (e.symm.trans hv)
      subst ez
      have sg := same_upd (o := HO.tup [.int (i : Nat), z]) (fresh_of e2 nT)
      refine ⟨upd G2 T (.tup [.int (i : Nat), z]), Step.data e2 nT, ?_⟩
      rw [← hd', Nat.zero_add]
      exact .tup upd_same (.cons (.int _) (.cons ((rv.mono e1).mono sg) .nil))
theorem it_zip {a' b' : D} (ha : EvE K ta as a') (hb : EvE K tb as b') (l1 : Ls a' ds) (l2 : Ls b' es) : ItE K (iZip K (tCons ta (tCons tb tNil))) as ((ds.zip es).map fun x => pairD x.1 x.2) := fun G0 H0 G H σ E R k => ha G0 H0 G H σ E _ fun v G1 H1 s1 r1 => hb G0 H0 G1 H1 σ (E.step s1) _ fun v2 G2 H2 s2 r2 => by
  obtain ⟨a, vs, rfl, hq, r⟩ := (r1.mono s2.g).ls l1
  obtain ⟨b, ws, rfl, hq2, r'⟩ := r2.ls l2
  have hlen := r.len
  have hlen' := r'.len
  refine ⟨a, b, vs, ws, rfl, s2.s.seq hq, s2.s.seq hq2, k _ G2 H2 (s1.trans s2) ⟨fun i G3 H3 hi e1 e2 => ?_, fun G3 H3 e1 e2 => ?_, fun i d G3 H3 x H' hd e1 e2 y => ?_⟩⟩
  · rw [List.length_map, List.length_zip] at hi
    have hv : i < vs.length := by omega
    have hw : i < ws.length := by omega
    exact ⟨vs, ws, vs[i], ws[i], e2.seq (e1.seq hq), e2.seq (e1.seq hq2), List.getElem?_eq_getElem hv, List.getElem?_eq_getElem hw⟩
  · refine ⟨vs, ws, e2.seq (e1.seq hq), e2.seq (e1.seq hq2), ?_⟩
    rw [List.length_map, List.length_zip]; omega
  · obtain ⟨T, z, z', rfl, nT, rfl, y, y'⟩ := y
    rw [List.getElem?_map] at hd
    cases ed : (ds.zip es)[i]? with
    | none => rw [ed] at hd; simp at hd
    | some w =>
      rw [ed] at hd
      have hd' : pairD w.1 w.2 = d := by simpa using hd
      obtain ⟨ed1, ed2⟩ := List.getElem?_zip_eq_some.mp ed
      obtain ⟨v, hv, rv⟩ := r.get ed1
      obtain ⟨v', hv', rv'⟩ := r'.get ed2
      have ez : z = v := Option.some.inj ((y vs (e2.seq (e1.seq hq))).symm.trans hv)
      have ez' : z' = v' := Option.some.inj ((y' ws (e2.seq (e1.seq hq2))).symm.trans hv')
      subst ez ez'
      have sg := same_upd (o := HO.tup [z, z']) (fresh_of e2 nT)
      refine ⟨upd G3 T (.tup [z, z']), Step.data e2 nT, ?_⟩
      rw [← hd']
      exact .tup upd_same (.cons ((rv.mono e1).mono sg) (.cons ((rv'.mono e1).mono sg) .nil))
theorem it_range1 {n : Nat} (h : EvR K te as (.int (n : Int))) (hn : n ≤ 1000000) : ItE K (iRng1 (tCons te tNil)) as ((List.range n).map fun k => D.int (k : Nat)) := fun G0 H0 G H σ E R k => h G0 H0 G H σ E _ fun v G1 H1 s1 r1 => by
  refine ⟨(n : Int), by rw [r1.int_inv], by omega, by omega, k _ G1 H1 s1 ⟨fun i G3 H3 hi e1 e2 => ?_, fun G3 H3 e1 e2 => ?_, fun i d G3 H3 x H' hd e1 e2 y => ?_⟩⟩
  · rw [List.length_map, List.length_range] at hi
    show i < (n : Int).toNat
    omega
  · show (n : Int).toNat ≤ _
    rw [List.length_map, List.length_range]; omega
  · obtain ⟨rfl, rfl⟩ := y
    have hi : i < n := by
      have := (List.getElem?_eq_some_iff.mp hd).1
      rwa [List.length_map, List.length_range] at this
    rw [List.getElem?_map, List.getElem?_range hi] at hd
    cases hd
    refine ⟨G3, Step.refl e2, ?_⟩
    rw [Int.zero_add]
    exact .int _
theorem it_range2 {lo : Int} {n : Int} (h : EvA K (tCons ta (tCons tb tNil)) as [.int lo, .int n]) (h1 : -1000000 ≤ lo ∧ lo ≤ 1000000 ∧ -1000000 ≤ n ∧ n ≤ 1000000) : ItE K (iRng2 (tCons ta (tCons tb tNil))) as ((List.range (n - lo).toNat).map fun k => D.int (lo + (k : Nat))) := fun G0 H0 G H σ E R k => h G0 H0 G H σ E _ fun vs G1 H1 s1 r1 => by
  cases r1 with
  | cons r1 r2 =>
    cases r2 with
    | cons r2 r3 =>
      cases r3
      have x1 := r1.int_inv
      have x2 := r2.int_inv
      subst x1 x2
      refine ⟨lo, n, rfl, by omega, k _ G1 H1 s1 ⟨fun i G3 H3 hi e1 e2 => ?_, fun G3 H3 e1 e2 => ?_, fun i d G3 H3 x H' hd e1 e2 y => ?_⟩⟩
      · rw [List.length_map, List.length_range] at hi
        exact hi
      · show _ ≤ _
        rw [List.length_map, List.length_range]; exact Nat.le_refl _
      · obtain ⟨rfl, rfl⟩ := y
        have hi : i < (n - lo).toNat := by
          have := (List.getElem?_eq_some_iff.mp hd).1
          rwa [List.length_map, List.length_range] at this
        rw [List.getElem?_map, List.getElem?_range hi] at hd
        cases hd
        exact ⟨G3, Step.refl e2, .int _⟩
end
/-! ### a later start -/
structure Sub (G0 H0 B C : Hp) : Prop where
  s : ∀ G H, Step B C G H → Step G0 H0 G H
  n : ∀ p, C p = none → H0 p = none
theorem Sub.refl {G0 H0 : Hp} : Sub G0 H0 G0 H0 := ⟨fun _ _ h => h, fun _ h => h⟩
theorem Env.up {G0 H0 B C G H : Hp} {σ : L2.St} {as : List AS} (u : Sub G0 H0 B C) (E : Env K B C G H σ as) : Env K G0 H0 G H σ as :=
  ⟨u.s _ _ E.st, E.len, E.dat, fun i ds h => let ⟨p, vs, a, b, c⟩ := E.mu i ds h; ⟨p, vs, a, u.n p b, c⟩, E.ap⟩
theorem Co.up {G0 H0 B C : Hp} {as : List AS} {P : L2.St → Hp → Prop} (h : Co K G0 H0 as P) (u : Sub G0 H0 B C) : Co K B C as P := fun σ G H E => h σ G H (E.up u)
theorem Rt.up {G0 H0 B C : Hp} {d : D} {Q : VK} (h : Rt K G0 H0 d Q) (u : Sub G0 H0 B C) : Rt K B C d Q := fun v G H s r => h v G H (u.s _ _ s) r
def join (H G : Hp) : Hp := fun a => match H a with
  | some o => some o
  | none => G a
theorem Env.down {G0 H0 G H : Hp} {σ : L2.St} {as : List AS} (E : Env K G0 H0 G H σ as) : Sub G0 H0 G (join H0 G) ∧ Env K G (join H0 G) G H σ as := by
  have jn : ∀ {p : Addr}, join H0 G p = none → H0 p = none ∧ G p = none := fun {p} h => by
    unfold join at h
    cases e : H0 p with
    | none => rw [e] at h; exact ⟨rfl, h⟩
    | some o => rw [e] at h; cases h
  have js : Same (join H0 G) H := fun b o h => by
    unfold join at h
    cases e : H0 b with
    | none => rw [e] at h; exact E.st.s b o h
    | some o' => rw [e] at h; cases h; exact E.st.h b _ e
  refine ⟨⟨fun G' H' s => ⟨E.st.g.trans s.g, fun b o h => s.h b o (by unfold join; rw [h]), s.s, fun a h1 h2 => s.k a ?_ (E.st.k a h1 h2)⟩, fun p h => (jn h).1⟩, ⟨Same.refl G, js, E.st.s, fun _ _ h => h⟩, E.len, E.dat, fun i ds h => ?_, E.ap⟩
  · unfold join
    cases e : H0 a with
    | none => exact absurd e h1
    | some o => simp
  · obtain ⟨p, vs, a, b, c, r⟩ := E.mu i ds h
    refine ⟨p, vs, a, ?_, c, r⟩
    unfold join
    rw [b]
    exact c
/-! ### for -/
section
variable {G0 H0 : Hp} {as : List AS} {Dn : Ends} {tu : TS} {ds : List D} {wi : TI} {g : TG}
/-- A i: the slots behind i turns -/
theorem c_for (hw : ItE K wi as ds) (A : Nat → List AS) (js : List Nat) (f : D → List AS → List AS) (hg : ∀ d, d ∈ ds → TgE K g d js (f d)) (h0 : Le (A 0) as)
    (hs : ∀ B C, Sub G0 H0 B C → ∀ i d, ds[i]? = some d → Co K B C (f d (A i)) (tu { Dn with nx := At K B C (A (i + 1)), ct := At K B C (A (i + 1)), bk := Dn.nx })) (hd : Co K G0 H0 (A ds.length) Dn.nx) : Co K G0 H0 as (tFor wi g tu Dn) := fun σ G H E =>
  hw G0 H0 G H σ E _ fun J G1 H1 s1 w => by
    obtain ⟨u, E1⟩ := (E.step s1).down
    refine ⟨fun i m σ H => m = ds.length - i ∧ i ≤ ds.length ∧ At K G1 (join H0 G1) (A i) σ H, ⟨ds.length, by simp, Nat.zero_le _, G1, E1.less h0⟩, ?_⟩
    rintro i m σ2 H2 ⟨rfl, hi, G2, E2⟩
    by_cases hlt : i < ds.length
    · refine .inr ⟨w.goes i G2 H2 hlt E2.st.g E2.st.s, At K G1 (join H0 G1) (A (i + 1)), fun σ' H' hx => ⟨ds.length - (i + 1), by omega, rfl, hlt, hx⟩, fun x H' y => ?_⟩
      have hd' : ds[i]? = some ds[i] := List.getElem?_eq_getElem hlt
      obtain ⟨G3, s3, r3⟩ := w.yields i _ G2 H2 x H' hd' E2.st.g E2.st.s y
      exact hg _ (List.mem_of_getElem? hd') _ _ G3 H' σ2 (A i) x (E2.step s3) r3 _ fun σ' E' _ _ => hs _ _ u i _ hd' σ' G3 H' E'
    · have e : i = ds.length := by omega
      subst e
      exact .inl ⟨w.stops G2 H2 E2.st.g E2.st.s, hd σ2 G2 H2 (E2.up u)⟩
end
/-! ### comprehensions -/
def wipeA (as : List AS) : List Nat → List AS
  | [] => as
  | v :: vs => (wipeA as vs).set v .no
theorem Env.wipe {G0 H0 G H : Hp} {σ : L2.St} {as : List AS} (E : Env K G0 H0 G H σ as) : ∀ vs : List Nat, Env K G0 H0 G H (L2.wipe σ vs) (wipeA as vs)
  | [] => E
  | n :: vs => by
    have ih := Env.wipe E vs
    show Env K G0 H0 G H ((L2.wipe σ vs).set n none) ((wipeA as vs).set n .no)
    have m : ∀ {j : Nat} {x : AS}, ((wipeA as vs).set n AS.no)[j]? = some x → x ≠ AS.no → n ≠ j ∧ (wipeA as vs)[j]? = some x := fun {j x} h hx => by
      by_cases hj : n = j
      · subst hj
        have hlt : n < (wipeA as vs).length := by
          have := (List.getElem?_eq_some_iff.mp h).1
          rwa [List.length_set] at this
        rw [List.getElem?_set_self hlt] at h
        cases h
        exact absurd rfl hx
      · rw [List.getElem?_set_ne hj] at h
        exact ⟨hj, h⟩
    refine ⟨ih.st, by rw [List.length_set, List.length_set, ih.len], fun i d h => ?_, fun i ds h => ?_, fun i j ds es p hij h1 h2 h3 h4 => ?_⟩
    · obtain ⟨hj, h⟩ := m h (by simp)
      rw [List.getElem?_set_ne hj]
      exact ih.dat i d h
    · obtain ⟨hj, h⟩ := m h (by simp)
      rw [List.getElem?_set_ne hj]
      exact ih.mu i ds h
    · obtain ⟨hj1, h1⟩ := m h1 (by simp)
      obtain ⟨hj2, h2⟩ := m h2 (by simp)
      rw [List.getElem?_set_ne hj1] at h3
      rw [List.getElem?_set_ne hj2] at h4
      exact ih.ap i j ds es p hij h1 h2 h3 h4
theorem wipe_get {σ : L2.St} {i : Nat} : ∀ {vs : List Nat}, i ∉ vs → (L2.wipe σ vs)[i]? = σ[i]?
  | [], _ => rfl
  | v :: vs, h => by
    show ((L2.wipe σ vs).set v none)[i]? = _
    rw [List.getElem?_set_ne (fun z => h (by rw [z]; exact List.mem_cons_self ..)), wipe_get fun z => h (List.mem_cons_of_mem _ z)]
theorem wipe_in {σ : L2.St} {i : Nat} : ∀ {vs : List Nat}, i ∈ vs → i < σ.length → (L2.wipe σ vs)[i]? = some none
  | [], h, _ => by cases h
  | v :: vs, h, hl => by
    show ((L2.wipe σ vs).set v none)[i]? = _
    by_cases e : v = i
    · subst e
      exact List.getElem?_set_self (by rw [wipe_length]; exact hl)
    · rw [List.getElem?_set_ne e]
      rcases List.mem_cons.mp h with z | z
      · exact absurd z.symm e
      · exact wipe_in z hl
theorem wipe_same {σ τ : L2.St} {vs : List Nat} (hl : τ.length = σ.length) (h : ∀ i : Nat, i ∉ vs → τ[i]? = σ[i]?) : L2.wipe τ vs = L2.wipe σ vs := by
  refine List.ext_getElem? fun i => ?_
  by_cases hi : i ∈ vs
  · by_cases hx : i < σ.length
    · rw [wipe_in hi hx, wipe_in hi (by rw [hl]; exact hx)]
    · rw [List.getElem?_eq_none (by rw [wipe_length]; omega), List.getElem?_eq_none (by rw [wipe_length]; omega)]
  · rw [wipe_get hi, wipe_get hi, h i hi]
section
variable {as : List AS} {ds : List D} {wi : TI} {g : TG} {tt : TT} {te : TE}
/-- what is kept, and what it becomes -/
def picked (p : D → Bool) (f : D → D) (ds : List D) : List D := (ds.filter p).map f
theorem picked_more {p : D → Bool} {f : D → D} {i : Nat} {d : D} (h : ds[i]? = some d) : picked p f (ds.take (i + 1)) = picked p f (ds.take i) ++ (if p d = true then [f d] else []) := by
  unfold picked
  rw [List.take_add_one, h, List.filter_append, List.map_append]
  congr 1
  show (List.filter p [d]).map f = _
  rw [List.filter_cons]
  split <;> rfl
theorem picked_len {p : D → Bool} {f : D → D} : (picked p f ds).length ≤ ds.length := by
  unfold picked
  rw [List.length_map]
  exact List.length_filter_le _ _
/-- [e for target in .. if t] -/
theorem n_lc (hw : ItE K wi as ds) (vs js : List Nat) (up : D → List AS → List AS) (hg : ∀ d, d ∈ ds → TgE K g d js (up d)) (hjs : ∀ j, j ∈ js → j ∈ vs) (p : D → Bool) (f : D → D) (hz : ds.length ≤ 1000000)
    (ht : ∀ d, d ∈ ds → EvT K tt (up d (wipeA as vs)) (p d)) (he : ∀ d, d ∈ ds → p d = true → EvE K te (up d (wipeA as vs)) (f d)) : EvN K (tLc wi g tt te vs) as (picked p f ds) := fun G0 H0 G H σ E Q q =>
  hw G0 H0 G H σ E _ fun J G1 H1 s1 w Dl hD => by
    let Pv : Nat → Hp → Prop := fun i H' => ∃ G' acc, Step G1 H1 G' H' ∧ G' Dl = none ∧ H' Dl = some (.lst acc) ∧ RpAll K G' acc (picked p f (ds.take i))
    refine ⟨fun i m H' => m = ds.length - i ∧ i ≤ ds.length ∧ Pv i H', ⟨ds.length, by simp, Nat.zero_le _, G1, [], Step.fresh s1.s hD, fresh_of s1.s hD, upd_same, .nil⟩, ?_⟩
    rintro i m H2 ⟨rfl, hi, G2, acc, s2, g2, h2, r2⟩
    by_cases hlt : i < ds.length
    · refine .inr ⟨w.goes i G2 H2 hlt s2.g s2.s, Pv (i + 1), fun H' hx => ⟨ds.length - (i + 1), by omega, rfl, hlt, hx⟩, fun x H' y => ?_⟩
      have hd' : ds[i]? = some ds[i] := List.getElem?_eq_getElem hlt
      have hm := List.mem_of_getElem? hd'
      obtain ⟨G3, s3, r3⟩ := w.yields i _ G2 H2 x H' hd' s2.g s2.s y
      have E3 := (((E.step s1).step s2).step s3).wipe vs
      refine hg _ hm G0 H0 G3 H' _ _ x E3 r3 _ fun σ' E' hl hk => ⟨?_, ht _ hm G0 H0 G3 H' σ' E' _ fun G4 H4 s4 => ?_⟩
      · rw [wipe_same (σ := L2.wipe σ vs) hl fun i hi => hk i fun z => hi (hjs i z)]
        exact wipe_same (wipe_length σ vs) fun i hi => wipe_get hi
      · have hne : H2 Dl ≠ none := by rw [h2]; simp
        have g3 : G3 Dl = none := s3.k Dl hne g2
        have h3 : H' Dl = some (.lst acc) := s3.h _ _ h2
        have g4 : G4 Dl = none := s4.k Dl (by rw [h3]; simp) g3
        have h4 : H4 Dl = some (.lst acc) := s4.h _ _ h3
        have st4 := (s2.trans s3).trans s4
        have rr := (r2.mono s3.g).mono s4.g
        have hacc : acc.length < 1000000 := by
          rw [r2.len]
          have := picked_len (p := p) (f := f) (ds := ds.take i)
          rw [List.length_take] at this
          omega
        cases hp : p ds[i] with
        | true =>
          rw [if_pos rfl]
          refine he _ hm hp G0 H0 G4 H4 σ' (E'.step s4) _ fun v G5 H5 s5 r5 => ?_
          have g5 : G5 Dl = none := s5.k Dl (by rw [h4]; simp) g4
          have h5 : H5 Dl = some (.lst acc) := s5.h _ _ h4
          have st5 := st4.trans s5
          refine ⟨acc, h5, sz_lt hacc, G5, acc ++ [v], ⟨st5.g, fun b o e => ?_, fun b o e => ?_, st5.k⟩, g5, upd_same, ?_⟩
          · rw [upd_ne (ne_of_none e hD)]; exact st5.h b o e
          · rw [upd_ne (ne_of_none e g5)]; exact st5.s b o e
          · rw [picked_more hd', hp, if_pos rfl]
            exact (rr.mono s5.g).append (.cons r5 .nil)
        | false =>
          rw [if_neg Bool.false_ne_true]
          refine ⟨G4, acc, st4, g4, h4, ?_⟩
          rw [picked_more hd', hp, if_neg Bool.false_ne_true, List.append_nil]
          exact rr
    · have e : i = ds.length := by omega
      subst e
      rw [List.take_length] at r2
      exact .inl ⟨w.stops G2 H2 s2.g s2.s, q Dl acc G2 H2 (s1.trans s2) (s1.h.free hD) g2 h2 r2⟩
end
/-! ### a def keeps its promise -/
theorem env_start {G H : Hp} {N : List Str} {vs : List V} {ds : List D} (s : Same G H) (r : RpAll K G vs ds) (hl : ds.length ≤ N.length) : Env K G H G H (L2.start N vs) (ds.map AS.dat ++ List.replicate (N.length - ds.length) AS.no) := by
  have hlen := r.len
  have hk : ∀ {i : Nat} {x : AS}, (ds.map AS.dat ++ List.replicate (N.length - ds.length) AS.no)[i]? = some x → x ≠ AS.no → ∃ d, x = AS.dat d ∧ ds[i]? = some d := fun {i x} h hx => by
    by_cases hi : i < ds.length
    · rw [List.getElem?_append_left (by rw [List.length_map]; exact hi), List.getElem?_map, List.getElem?_eq_getElem hi] at h
      exact ⟨ds[i], (Option.some.inj h).symm, List.getElem?_eq_getElem hi⟩
    · rw [List.getElem?_append_right (by rw [List.length_map]; omega), List.getElem?_replicate] at h
      split at h
      · cases h; exact absurd rfl hx
      · cases h
  refine ⟨Step.refl s, ?_, fun i d h => ?_, fun i es h => ?_, fun i j es fs p _ h1 => ?_⟩
  · unfold L2.start
    simp only [List.length_append, List.length_map, List.length_replicate]
    omega
  · obtain ⟨d', e, hd⟩ := hk h (by simp)
    cases e
    obtain ⟨v, hv, rv⟩ := r.get hd
    refine ⟨v, ?_, rv⟩
    unfold L2.start
    have hi : i < vs.length := (List.getElem?_eq_some_iff.mp hv).1
    rw [List.getElem?_append_left (by rw [List.length_map]; exact hi), List.getElem?_map, hv]
    rfl
  · obtain ⟨d', e, _⟩ := hk h (by simp)
    cases e
  · obtain ⟨d', e, _⟩ := hk h1 (by simp)
    cases e
theorem fn_ok {P : Program} {w : World} {mg : Str → Option Value} {base : Heap} {x qual : Str} {st : Stmt} {f : Addr} {fd : FuncData} {N ps : List Str} {k : Nat} {R : List D → D → Prop} (F : Fun K x qual st f fd) (S : FnScope N ps (defScope st)) (hN : ps.length ≤ N.length) (hR : ∀ ds d, R ds d → ds.length = ps.length)
    (hb : ∀ (cdv : Value) (A : Around) (outer : List PySem.Env) (s : Shared) (H : Hp) (E : XK), Room k (A.deeper (envOfC qual (defScope st) s.heap.objs.size f cdv)) →
      ∃ t, PSs (cxOf CX0 P w K mg base N qual (defScope st) f cdv A outer s H E).nox (defBody st) t ∧ ∀ ds d, R ds d → ∀ G0 H0 Q Z, Rt K G0 H0 d Q → Co K G0 H0 (ds.map AS.dat ++ List.replicate (N.length - ds.length) AS.no) (t { nx := Z, rt := Q })) :
    FnOk P w K mg base CX0 (k + 1) f fd ps (SpR K R) := by
  refine F.ok S (fun vs H Q E h => ?_) (fun cdv A outer s H vs Q E hr h => ?_)
  · obtain ⟨G, ds, d, _, r, hr, _⟩ := h
    rw [r.len]
    exact hR ds d hr
  · obtain ⟨G, ds, d, sm, r, hrr, q⟩ := h
    obtain ⟨t, ht, hc⟩ := hb cdv A outer s H E hr
    exact ⟨t, ht, hc ds d hrr G H Q _ (fun v G' H' s' r' => q v G' H' s' r') _ G H (env_start sm r (by rw [hR ds d hrr]; exact hN))⟩
end Fw
set_option Elab.async false
set_option linter.all false
set_option maxRecDepth 100000
set_option maxHeartbeats 2000000
namespace Pg
open PySem PyProof.Rows L2 Fw
/-! ### the text -/
def topS (i : Nat) : Stmt := PySem.Challenge.pw_slopesteps_s03_run.main.body.getD i (.Pass ⟨0, 0, 0, 0⟩)
/-- which built-in names stand as they are -/
structure Txt (mg : Str → Option Value) : Prop where
  b_len : mg "len" = none
  b_range : mg "range" = none
  b_max : mg "max" = none
  b_min : mg "min" = none
  b_abs : mg "abs" = none
  b_sum : mg "sum" = none
  b_any : mg "any" = none
  b_all : mg "all" = none
  b_enumerate : mg "enumerate" = none
  b_zip : mg "zip" = none
  b_reversed : mg "reversed" = none
  b_list : mg "list" = none
/-- a module's whole number -/
def Num (mg : Str → Option Value) (x : Str) (i : Int) : Prop := ∃ t, mg x = some (.int i t)
/-- a def of the text that keeps its promise -/
structure Cal (P : Program) (w : World) (K : PySem.W.Frag) (mg : Str → Option Value) (base : Heap) (k : Nat) (x : Str) (ps : List Str) (R : List D → D → Prop) : Prop where
  ex : ∃ f fd, FnOk P w K mg base CX0 k f fd ps (SpR K R) ∧ mg x = some (.ref f) ∧ PySem.W.keepIn K (.ref f) = true ∧ Binds K fd ps []
theorem hu65_of {k : Nat} {A : Around} (r : Room k A) : A.units + 65 < cLine := by have := r.un; omega
section
variable {X : Cx}
/-- // of great numbers, whatever the sign -/
def CDivX (_ j : Int) : Prop := j ≠ 0 ∧ j.natAbs.log2 < 9000
theorem op_fdivX : OpR X (binaryOp .FloorDiv) (rI CDivX fun i j => .int (i.fdiv j)) := opI fun i j _ _ _ _ _ hc q => floordiv_int hc.1 q (.inl (PyProof.noPylong_of_log2 hc.2))
end
/-! ### the same rules with the written part named (within a comprehension) -/
theorem ix_listK (K : PySem.W.Frag) {X : Cx} (h : X.K = K := by rfl) : IxR X (rIxL K) := by subst h; exact ix_list
theorem ix_tupK (K : PySem.W.Frag) {X : Cx} (h : X.K = K := by rfl) : IxR X (rIxT K) := by subst h; exact ix_tup
theorem sl_listK (K : PySem.W.Frag) {X : Cx} (h : X.K = K := by rfl) : SlR X (rSlL K) := by subst h; exact sl_list
theorem op_in_seqK (K : PySem.W.Frag) {X : Cx} (h : X.K = K := by rfl) : OpR X (compareOp .In) (rIn K false) := by subst h; exact op_in_seq
theorem op_notIn_seqK (K : PySem.W.Frag) {X : Cx} (h : X.K = K := by rfl) : OpR X (compareOp .NotIn) (rIn K true) := by subst h; exact op_notIn_seq
theorem op_eqDK (K : PySem.W.Frag) {X : Cx} (hu : X.A.units + 64 < cLine) (h : X.K = K := by rfl) : OpR X (compareOp .Eq) (rEqD K) := by subst h; exact op_eqD hu
theorem op_neDK (K : PySem.W.Frag) {X : Cx} (hu : X.A.units + 64 < cLine) (h : X.K = K := by rfl) : OpR X (compareOp .NotEq) (rNeD K) := by subst h; exact op_neD hu
def rLenK (K : PySem.W.Frag) : List V → Hp → VK → Prop := fun xs H Q => ∃ p ys, xs = [.ref p] ∧ (SqL K H p ys ∨ SqT K H p ys) ∧ Q (.int ys.length) H
theorem call_len_seqK (K : PySem.W.Frag) {X : Cx} (h : X.K = K := by rfl) : CallR X (.builtin "len") (rLenK K) := by subst h; exact call_len_seq
theorem pg_tupK (K : PySem.W.Frag) (n : Nat) {X : Cx} {es : List Expr} {k : Nat} {t : TGs} {pos : Pos} (hc : X.calm = true) (h : PGs X es t) (hK : X.K = K := by rfl)
    (hn : (assignEach es X.env).length = n := by rfl) (hst : (assignEach es X.env).findIdx? (·.1) = none := by rfl) : PG X (.Tuple es k pos) (gTup K n t) := by
  subst hK
  exact pg_tup hc h hn hst
/-- what follows an if is shown once, from slots as told -/
theorem c_cut {K : PySem.W.Frag} {G0 H0 : Hp} {as : List AS} {Dn : Ends} {tu tw : TS} (bs : List AS) (h : Co K G0 H0 as (tu { Dn with nx := At K G0 H0 bs })) (k : Co K G0 H0 bs (tw Dn)) : Co K G0 H0 as (Evl.tCut tu tw Dn) := fun σ G H E => ⟨At K G0 H0 bs, h σ G H E, fun σ' H' ⟨G', E'⟩ => k σ' G' H' E'⟩
theorem le_refl (as : List AS) : Le as as := ⟨rfl, fun _ _ h => .inr h⟩
end Pg
set_option Elab.async false
set_option linter.all false
set_option maxRecDepth 100000
set_option maxHeartbeats 2000000
namespace Pg
open PySem PyProof.Rows L2 Fw
theorem le_nil : Le [] [] := le_refl []
theorem le_no {a : AS} {bs as : List AS} (l : Le bs as) : Le (AS.no :: bs) (a :: as) := ⟨by rw [List.length_cons, List.length_cons, l.1], fun i b h => by
  cases i with
  | zero => exact .inl (Option.some.inj h).symm
  | succ i => exact l.2 i b h⟩
theorem le_eq {a b : AS} {bs as : List AS} (e : a = b) (l : Le bs as) : Le (a :: bs) (b :: as) := ⟨by rw [List.length_cons, List.length_cons, l.1], fun i c h => by
  cases i with
  | zero => rw [← e]; exact .inr h
  | succ i => exact l.2 i c h⟩
section
variable {K : PySem.W.Frag} {as : List AS} {ta tb : TE} {i j : Int}
theorem ev_mod (ha : EvR K ta as (.int i)) (hb : EvR K tb as (.int j)) (hc : 0 < j) : EvE K (tOp (rI (fun _ j => 0 < j) fun i j => .int (i % j)) ta tb) as (.int (i % j)) := ev_opC (C := fun _ j => 0 < j) ha hb hc
theorem ev_fdiv (ha : EvR K ta as (.int i)) (hb : EvR K tb as (.int j)) (hc : CDivX i j) : EvE K (tOp (rI CDivX fun i j => .int (i.fdiv j)) ta tb) as (.int (i.fdiv j)) := ev_opC ha hb hc
theorem ev_mul (ha : EvR K ta as (.int i)) (hb : EvR K tb as (.int j)) (hc : CMulW i j) : EvE K (tOp (rI CMulW fun i j => .int (i * j)) ta tb) as (.int (i * j)) := ev_opC ha hb hc
end
def dN (l : List Nat) : List D := l.map fun (b : Nat) => D.int (b : Int)
theorem dN_append (a b : List Nat) : dN (a ++ b) = dN a ++ dN b := List.map_append
theorem dN_reverse (a : List Nat) : dN a.reverse = (dN a).reverse := List.map_reverse
theorem dN_len (a : List Nat) : (dN a).length = a.length := List.length_map ..
theorem dN_dI (a : List Nat) : dN a = dI (a.map fun (b : Nat) => (b : Int)) := by
  unfold dN dI; rw [List.map_map]; rfl
/-! ### equal -/
theorem eqD_int (i j : Int) : eqD (.int i) (.int j) = decide (i = j) := by
  show (i == j) = _
  by_cases h : i = j
  · subst h; simp
  · rw [decide_eq_false h]; simpa using h
theorem eqvAll_dN : ∀ a b : List Nat, PyData.eqvAll (toPys (dN a)) (toPys (dN b)) = decide (a = b)
  | [], [] => rfl
  | [], _ :: _ => rfl
  | _ :: _, [] => rfl
  | x :: a, y :: b => by
    show (PyData.eqv (.int (x : Int)) (.int (y : Int)) && PyData.eqvAll (toPys (dN a)) (toPys (dN b))) = _
    rw [eqvAll_dN a b]
    show (((x : Int) == (y : Int)) && _) = _
    by_cases h : x = y
    · subst h
      by_cases k : a = b
      · subst k; simp
      · simp [k]
    · have : ¬ ((x : Int) = (y : Int)) := by omega
      simp [h, this]
theorem eqD_dN (a b : List Nat) : eqD (.lst (dN a)) (.lst (dN b)) = decide (a = b) := eqvAll_dN a b
theorem eqD_dN' (a b : List Nat) : eqD (.lst (dN a)) (.inp (dN b)) = decide (a = b) := eqvAll_dN a b
/-- == [] -/
theorem eqD_nil (l : List D) : eqD (.lst l) (.lst []) = decide (l = []) := by
  cases l with
  | nil => rfl
  | cons x l => rfl
mutual
theorem canLay_D : ∀ d : D, PyData.canLay0 (toPy d) = true
  | .non => rfl
  | .bl _ => rfl
  | .int _ => rfl
  | .lst xs => canLay_Ds xs
  | .tup xs => canLay_Ds xs
  | .inp xs => canLay_Ds xs
theorem canLay_Ds : ∀ ds : List D, PyData.canLayAll0 (toPys ds) = true
  | [] => rfl
  | d :: ds => by
    show (PyData.canLay0 (toPy d) && PyData.canLayAll0 (toPys ds)) = true
    rw [canLay_D d, canLay_Ds ds]; rfl
end
/-- how deep -/
def Dep (n : Nat) (d : D) : Prop := PyData.depth (toPy d) ≤ n
theorem dep_int (i : Int) (n : Nat) : Dep n (.int i) := Nat.zero_le _
theorem dep_non (n : Nat) : Dep n .non := Nat.zero_le _
theorem dep_all {n : Nat} : ∀ ds : List D, (∀ d ∈ ds, Dep n d) → PyData.depthAll (toPys ds) ≤ n
  | [], _ => Nat.zero_le _
  | d :: ds, h => by
    have h1 := h d (List.mem_cons_self ..)
    have h2 := dep_all ds fun e he => h e (List.mem_cons_of_mem _ he)
    show max (PyData.depth (toPy d)) (PyData.depthAll (toPys ds)) ≤ n
    unfold Dep at h1
    omega
theorem dep_lst {n : Nat} {ds : List D} (h : ∀ d ∈ ds, Dep n d) : Dep (n + 1) (.lst ds) := by
  have := dep_all ds h
  show PyData.depthAll (toPys ds) + 1 ≤ n + 1
  omega
theorem dep_tup {n : Nat} {ds : List D} (h : ∀ d ∈ ds, Dep n d) : Dep (n + 1) (.tup ds) := by
  have := dep_all ds h
  show PyData.depthAll (toPys ds) + 1 ≤ n + 1
  omega
theorem dep_inp {n : Nat} {ds : List D} (h : ∀ d ∈ ds, Dep n d) : Dep (n + 1) (.inp ds) := by
  have := dep_all ds h
  show PyData.depthAll (toPys ds) + 1 ≤ n + 1
  omega
theorem sh_of {n : Nat} {d : D} (h : Dep n d) (hn : n ≤ 64) : Sh d := by
  unfold Sh SeqAt.shaped
  rw [canLay_D, Bool.true_and]
  exact decide_eq_true (Nat.le_trans h hn)
theorem sh_int (i : Int) : Sh (.int i) := sh_of (dep_int i 0) (by decide)
theorem sh_non : Sh .non := sh_of (dep_non 0) (by decide)
theorem dep_dN {l : List Nat} : ∀ d ∈ dN l, Dep 0 d := fun d hd => by
  obtain ⟨b, _, rfl⟩ := List.mem_map.mp hd
  exact dep_int _ 0
theorem dep_dI {l : List Int} : ∀ d ∈ dI l, Dep 0 d := fun d hd => by
  obtain ⟨b, _, rfl⟩ := List.mem_map.mp hd
  exact dep_int _ 0
theorem sh_dN (l : List Nat) : Sh (.lst (dN l)) := sh_of (dep_lst dep_dN) (by decide)
theorem sh_dN' (l : List Nat) : Sh (.inp (dN l)) := sh_of (dep_inp dep_dN) (by decide)
theorem sh_dI (l : List Int) : Sh (.lst (dI l)) := sh_of (dep_lst dep_dI) (by decide)
theorem sh_nil : Sh (.lst []) := sh_dN []
end Pg
set_option Elab.async false
set_option linter.all false
set_option maxRecDepth 100000
set_option maxHeartbeats 2000000
namespace Pg
open PySem PyProof.Rows L2 Fw
section
variable {K : PySem.W.Frag} {G0 H0 : Hp} {as : List AS} {Dn : Ends} {tu : TS} {ds : List D} {wi : TI} {g : TG}
/-- a for whose turns also keep a fact -/
theorem c_forI (hw : ItE K wi as ds) (A : Nat → List AS) (I : Nat → Prop) (js : List Nat) (f : D → List AS → List AS) (hg : ∀ d, d ∈ ds → TgE K g d js (f d)) (h0 : Le (A 0) as) (hI : I 0)
    (hs : ∀ B C, Sub G0 H0 B C → ∀ i d, ds[i]? = some d → I i → Co K B C (f d (A i)) (tu { Dn with nx := fun σ H => I (i + 1) ∧ At K B C (A (i + 1)) σ H, ct := fun σ H => I (i + 1) ∧ At K B C (A (i + 1)) σ H, bk := Dn.nx })) (hd : I ds.length → Co K G0 H0 (A ds.length) Dn.nx) : Co K G0 H0 as (tFor wi g tu Dn) := fun σ G H E =>
  hw G0 H0 G H σ E _ fun J G1 H1 s1 w => by
    obtain ⟨u, E1⟩ := (E.step s1).down
    refine ⟨fun i m σ H => m = ds.length - i ∧ i ≤ ds.length ∧ I i ∧ At K G1 (Fw.join H0 G1) (A i) σ H, ⟨ds.length, by simp, Nat.zero_le _, hI, G1, E1.less h0⟩, ?_⟩
    rintro i m σ2 H2 ⟨rfl, hi, hI2, G2, E2⟩
    by_cases hlt : i < ds.length
    · refine .inr ⟨w.goes i G2 H2 hlt E2.st.g E2.st.s, _, fun σ' H' hx => ⟨ds.length - (i + 1), by omega, rfl, hlt, hx⟩, fun x H' y => ?_⟩
      have hd' : ds[i]? = some ds[i] := List.getElem?_eq_getElem hlt
      obtain ⟨G3, s3, r3⟩ := w.yields i _ G2 H2 x H' hd' E2.st.g E2.st.s y
      exact hg _ (List.mem_of_getElem? hd') _ _ G3 H' σ2 (A i) x (E2.step s3) r3 _ fun σ' E' _ _ => hs _ _ u i _ hd' hI2 σ' G3 H' E'
    · have e : i = ds.length := by omega
      subst e
      exact .inl ⟨w.stops G2 H2 E2.st.g E2.st.s, hd hI2 σ2 G2 H2 (E2.up u)⟩
theorem c_atI {bs : List AS} {p : Prop} (hp : p) (l : Le bs as) : Co K G0 H0 as (fun σ H => p ∧ At K G0 H0 bs σ H) := fun σ G H E => ⟨hp, G, E.less l⟩
end
/-! ### a statement with something behind it -/
section
variable {K : PySem.W.Frag} {G0 H0 : Hp} {as : List AS} {Dn : Ends} {ta tb te : TE} {tt : TT} {tu tw tz : TS} {d : D} {ds es : List D} {n : Nat} {wi : TI} {g : TG}
theorem q_asg (h : EvE K te as d) (k : Co K G0 H0 (as.set n (.dat d)) (tz Dn)) : Co K G0 H0 as (tSeq (tAsg te (gName n)) tz Dn) := c_asg (Dn := { Dn with nx := tz Dn }) h k
theorem q_new (h : EvN K te as ds) (k : Co K G0 H0 (as.set n (.mu ds)) (tz Dn)) : Co K G0 H0 as (tSeq (tAsg te (gName n)) tz Dn) := c_new (Dn := { Dn with nx := tz Dn }) h k
theorem q_app (hn : as[n]? = some (AS.mu ds)) (h : EvE K te as d) (hz : ds.length < 1000000) (k : Co K G0 H0 (as.set n (.mu (ds ++ [d]))) (tz Dn)) : Co K G0 H0 as (tSeq (tDrop (tBM K "list" rAppend (tVar n) (tCons te tNil))) tz Dn) := c_app (Dn := { Dn with nx := tz Dn }) hn h hz k
theorem q_ext (hn : as[n]? = some (AS.mu ds)) (h : EvE K te as (.lst es)) (hz : ds.length + es.length ≤ 1000000) (k : Co K G0 H0 (as.set n (.mu (ds ++ es))) (tz Dn)) : Co K G0 H0 as (tSeq (tDrop (tBM K "list" rExtend (tVar n) (tCons te tNil))) tz Dn) := c_ext (Dn := { Dn with nx := tz Dn }) hn h hz k
theorem q_set {k : Nat} (hn : as[n]? = some (AS.mu ds)) (h : EvE K te as d) (hb : EvR K tb as (.int (k : Int))) (hk : k < ds.length) (c : Co K G0 H0 (as.set n (.mu (ds.set k d))) (tz Dn)) : Co K G0 H0 as (tSeq (tAsg te (gSub (tVar n) tb rSetL)) tz Dn) := c_set (Dn := { Dn with nx := tz Dn }) hn h hb hk c
theorem q_if {b : Bool} (h : EvT K tt as b) (h1 : b = true → Co K G0 H0 as (tu { Dn with nx := tz Dn })) (h2 : b = false → Co K G0 H0 as (tw { Dn with nx := tz Dn })) : Co K G0 H0 as (tSeq (tIfS tt tu tw) tz Dn) := c_if (Dn := { Dn with nx := tz Dn }) h h1 h2
/-- an if without else -/
theorem q_when {b : Bool} (h : EvT K tt as b) (h1 : b = true → Co K G0 H0 as (tu { Dn with nx := tz Dn })) (h2 : b = false → Co K G0 H0 as (tz Dn)) : Co K G0 H0 as (tSeq (tIfS tt tu tNext) tz Dn) := c_if (Dn := { Dn with nx := tz Dn }) h h1 h2
theorem q_for (hw : ItE K wi as ds) (A : Nat → List AS) (js : List Nat) (f : D → List AS → List AS) (hg : ∀ d, d ∈ ds → TgE K g d js (f d)) (h0 : Le (A 0) as)
    (hs : ∀ B C, Sub G0 H0 B C → ∀ i d, ds[i]? = some d → Co K B C (f d (A i)) (tu { Dn with nx := At K B C (A (i + 1)), ct := At K B C (A (i + 1)), bk := tz Dn })) (hd : Co K G0 H0 (A ds.length) (tz Dn)) : Co K G0 H0 as (tSeq (tFor wi g tu) tz Dn) := c_for (Dn := { Dn with nx := tz Dn }) hw A js f hg h0 hs hd
theorem q_forI (hw : ItE K wi as ds) (A : Nat → List AS) (I : Nat → Prop) (js : List Nat) (f : D → List AS → List AS) (hg : ∀ d, d ∈ ds → TgE K g d js (f d)) (h0 : Le (A 0) as) (hI : I 0)
    (hs : ∀ B C, Sub G0 H0 B C → ∀ i d, ds[i]? = some d → I i → Co K B C (f d (A i)) (tu { Dn with nx := fun σ H => I (i + 1) ∧ At K B C (A (i + 1)) σ H, ct := fun σ H => I (i + 1) ∧ At K B C (A (i + 1)) σ H, bk := tz Dn })) (hd : I ds.length → Co K G0 H0 (A ds.length) (tz Dn)) : Co K G0 H0 as (tSeq (tFor wi g tu) tz Dn) := c_forI (Dn := { Dn with nx := tz Dn }) hw A I js f hg h0 hI hs hd
theorem q_while {S : Type} (A : S → List AS) (I : S → Prop) (m : S → Nat) (s0 : S) (hA : Le (A s0) as) (hI : I s0)
    (hs : ∀ s, I s → ∃ b, EvT K tt (A s) b ∧ (b = true → Co K G0 H0 (A s) (tu { Dn with nx := Nx K G0 H0 A I m s, ct := Nx K G0 H0 A I m s, bk := tz Dn })) ∧ (b = false → Co K G0 H0 (A s) (tz Dn))) : Co K G0 H0 as (tSeq (tWhile tt tu) tz Dn) := c_while (Dn := { Dn with nx := tz Dn }) A I m s0 hA hI hs
end
open Sl (Tm)
def dT (t : Tm) : D := .tup [.int (t.p : Int), .int t.n, .int (t.d : Int)]
def dTs (l : List Tm) : List D := l.map dT
def dO (o : Option Nat) : D := match o with
  | none => .non
  | some n => .int (n : Int)
theorem dTs_len (l : List Tm) : (dTs l).length = l.length := List.length_map ..
theorem dT_dep (t : Tm) : Dep 1 (dT t) := dep_tup fun d hd => by
  simp only [List.mem_cons, List.not_mem_nil, or_false] at hd
  rcases hd with rfl | rfl | rfl <;> exact dep_int _ 0
theorem dTs_dep (l : List Tm) : Dep 2 (.lst (dTs l)) := dep_lst fun d hd => by
  obtain ⟨t, _, rfl⟩ := List.mem_map.mp hd
  exact dT_dep t
/-! ### the text so far -/
def wAll : List Tm → List Nat
  | [] => []
  | t :: r => Sl.write (t :: r)
theorem wRest_append (l m : List Tm) : Sl.wRest (l ++ m) = Sl.wRest l ++ Sl.wRest m := List.flatMap_append
theorem wAll_more : ∀ (l : List Tm) (t : Tm), wAll (l ++ [t]) = wAll l ++ ((if l = [] then (if t.n < 0 then [45] else []) else [32, if t.n < 0 then 45 else 43, 32]) ++ Sl.wTerm t.p t.n.natAbs t.d)
  | [], t => by
    show (if t.n < 0 then [45] else []) ++ Sl.wTerm t.p t.n.natAbs t.d ++ Sl.wRest [] = _
    simp [wAll, Sl.wRest]
  | s :: l, t => by
    show (if s.n < 0 then [45] else []) ++ Sl.wTerm s.p s.n.natAbs s.d ++ Sl.wRest (l ++ [t]) = (if s.n < 0 then [45] else []) ++ Sl.wTerm s.p s.n.natAbs s.d ++ Sl.wRest l ++ _
    rw [wRest_append, List.append_assoc, List.append_assoc, List.append_assoc]
    congr 1
    congr 1
    congr 1
    show Sl.wOne t ++ [] = _
    rw [List.append_nil, if_neg (by simp)]
    rfl
theorem wAll_pre (l m : List Tm) : (wAll l).length ≤ (wAll (l ++ m)).length := by
  cases l with
  | nil => exact Nat.zero_le _
  | cons s l =>
    show ((if s.n < 0 then [45] else []) ++ Sl.wTerm s.p s.n.natAbs s.d ++ Sl.wRest l).length ≤ ((if s.n < 0 then [45] else []) ++ Sl.wTerm s.p s.n.natAbs s.d ++ Sl.wRest (l ++ m)).length
    rw [wRest_append, List.length_append, List.length_append (bs := Sl.wRest l ++ Sl.wRest m), List.length_append (as := Sl.wRest l)]
    omega
theorem wAll_take (l : List Tm) (i : Nat) : (wAll (l.take i)).length ≤ (wAll l).length := by
  have := wAll_pre (l.take i) (l.drop i)
  rwa [List.take_append_drop] at this
theorem wAll_nil (l : List Tm) : wAll l = [] ↔ l = [] := by
  cases l with
  | nil => simp [wAll]
  | cons s l =>
    constructor
    · intro h
      have : Sl.wTerm s.p s.n.natAbs s.d = [] := by
        have h' : (if s.n < 0 then [45] else []) ++ Sl.wTerm s.p s.n.natAbs s.d ++ Sl.wRest l = [] := h
        simp only [List.append_eq_nil_iff] at h'
        exact h'.1.2
      exact absurd this (Sl.term_ne _ _ _)
    · intro h; cases h
theorem wAll_write {l : List Tm} (h : l ≠ []) : wAll l = Sl.write l := by
  cases l with
  | nil => exact absurd rfl h
  | cons s l => rfl
/-! ### whole numbers read -/
theorem log2_of_lt {n k : Nat} (h : n < 2 ^ k) (hk : 0 < k) : n.log2 < k := by
  by_cases z : n = 0
  · rw [z]; simpa using hk
  · exact (Nat.log2_lt z).mpr h
theorem mulW_of {i j : Int} {a b : Nat} (h1 : i.natAbs.log2 ≤ a) (h2 : j.natAbs.log2 ≤ b) (h : a + b < 1000000) : CMulW i j := by
  unfold CMulW; omega
end Pg
set_option Elab.async false
set_option linter.all false
set_option maxRecDepth 100000
namespace Pg
open PySem PyProof.Rows L2 Fw
open PySem.W (Codec WData)
theorem rp_ints {K : PySem.W.Frag} {H : Hp} : ∀ {ns : List Int} {vs : List V}, DwAll K H vs (ns.map WData.int) → RpAll K H vs (dI ns)
  | [], _, .nil => .nil
  | n :: ns, _, .cons h r => by
    cases h
    exact .cons (.int n) (rp_ints (ns := ns) r)
theorem rp_inp {K : PySem.W.Frag} {H : Hp} {v : V} {ns : List Int} (h : Dw K H v (.list (ns.map WData.int))) : Rp K H v (.inp (dI ns)) := by
  cases h with
  | lst hs ha => exact .inp hs (rp_ints ha)
theorem rp_rows {K : PySem.W.Frag} {H : Hp} : ∀ {l : List (List Int)} {vs : List V}, DwAll K H vs (l.map fun ns => .list (ns.map WData.int)) → RpAll K H vs (l.map fun ns => .inp (dI ns))
  | [], _, .nil => .nil
  | n :: ns, _, .cons h r => .cons (rp_inp h) (rp_rows (l := ns) r)
theorem rp_inps {K : PySem.W.Frag} {H : Hp} {v : V} {l : List (List Int)} (h : Dw K H v (.list (l.map fun ns => .list (ns.map WData.int)))) : Rp K H v (.inp (l.map fun ns => .inp (dI ns))) := by
  cases h with
  | lst hs ha => exact .inp hs (rp_rows ha)
theorem dw_back {K : PySem.W.Frag} {H : Hp} {v : V} {ns : List Int} (h : Rp K H v (.lst (dI ns))) : Dw K H v (.list (ns.map WData.int)) := by
  obtain ⟨a, vs, rfl, hq, ra⟩ := h.seq
  have e := ra.dI_inv
  subst e
  exact .lst (.inl (.inl hq)) (dw_ints ns)
theorem bytes_nat {t : List Int} (h : ∀ x ∈ t, 0 ≤ x) : dI t = dN (t.map Int.toNat) := by
  unfold dI dN
  rw [List.map_map]
  refine List.map_congr_left fun x hx => ?_
  show D.int x = D.int ((x.toNat : Nat) : Int)
  rw [Int.toNat_of_nonneg (h x hx)]
end Pg
set_option Elab.async false
set_option linter.all false
set_option maxRecDepth 100000
set_option maxHeartbeats 2000000
namespace Pg
open PySem PyProof.Rows L2 Fw
abbrev s_greatest_divisor : Stmt := topS 10
abbrev nm_greatest_divisor : List Str := ["first", "second", "big", "small", "rest"]
theorem sc_greatest_divisor : FnScope nm_greatest_divisor ["first", "second"] (defScope s_greatest_divisor) := ⟨rfl, rfl, rfl, by decide +kernel, rfl, by decide +kernel, by decide +kernel⟩
def R_greatest_divisor : List D → D → Prop := fun ds d => ∃ a b : Int, ds = [.int a, .int b] ∧ d = .int (Nat.gcd a.natAbs b.natAbs)
theorem len_greatest_divisor {ds : List D} {d : D} (h : R_greatest_divisor ds d) : ds.length = 2 := by obtain ⟨a, b, rfl, _⟩ := h; rfl
theorem ok_greatest_divisor {P : Program} {w : World} {K : PySem.W.Frag} {mg : Str → Option Value} {base : Heap} {f : Addr} {fd : FuncData} (T : Txt mg) (F : Fun K "greatest_divisor" "greatest_divisor" s_greatest_divisor f fd) : FnOk P w K mg base CX0 1 f fd ["first", "second"] (SpR K R_greatest_divisor) := by
  refine fn_ok F sc_greatest_divisor (by decide) (fun ds d h => ?_) (fun cdv A outer s H E hr => ?_)
  · exact len_greatest_divisor h
  · have hu65 := hu65_of hr
    refine ⟨_, (pss_cons (ps_set (i := 2) sc_greatest_divisor.nd rfl (Or.inl rfl) (pe_callB call_abs (by rfl) T.b_abs (by decide +kernel) (pa_cons (pv 0) pa_nil)))
      (pss_cons (ps_set (i := 3) sc_greatest_divisor.nd rfl (Or.inl rfl) (pe_callB call_abs (by rfl) T.b_abs (by decide +kernel) (pa_cons (pv 1) pa_nil)))
      (pss_cons (ps_while PassesOwn.never (pt_cmpR op_ne (pv 3) pe_int (nomark _)) (pss_cons (ps_set (i := 4) sc_greatest_divisor.nd rfl (Or.inl rfl) (pe_op op_mod (pv 2) (pv 3)))
      (pss_cons (ps_set (i := 2) sc_greatest_divisor.nd rfl (Or.inl rfl) (pv 3))
      (pss_one (ps_set (i := 3) sc_greatest_divisor.nd rfl (Or.inl rfl) (pv 4))))))
      (pss_one (ps_ret (pv 2)))))), fun ds d hR G0 H0 Q Z k => ?_⟩
    obtain ⟨a, b, rfl, rfl⟩ := hR
    refine c_seq (c_asg (ev_abs rfl (ev_var rfl).r) ?_)
    refine c_seq (c_asg (ev_abs rfl (ev_var rfl).r) ?_)
    refine c_seq (c_while (fun s : Nat × Nat => [.dat (.int a), .dat (.int b), .dat (.int s.1), .dat (.int s.2), .no]) (fun s => Nat.gcd s.1 s.2 = Nat.gcd a.natAbs b.natAbs) (fun s => s.2) (a.natAbs, b.natAbs) (le_refl _) rfl fun s hs => ?_)
    refine ⟨_, et_test (ev_neI (ev_var rfl).r ev_i.r).r, fun hb => ?_, fun hb => ?_⟩
    · have h0 : s.2 ≠ 0 := by
        intro z
        rw [z] at hb
        exact absurd hb (by decide)
      refine c_seq (c_asg (ev_mod (ev_var rfl).r (ev_var rfl).r (by omega)) ?_)
      refine c_seq (c_asg (ev_var rfl) ?_)
      refine c_asg (ev_var rfl) ?_
      refine c_nx (s.2, s.1 % s.2) (le_eq rfl (le_eq rfl (le_eq rfl (le_eq rfl (le_no le_nil))))) ?_ (Nat.mod_lt _ (by omega))
      show Nat.gcd s.2 (s.1 % s.2) = _
      rw [← hs, Nat.gcd_comm s.1 s.2, Nat.gcd_rec s.2 s.1, Nat.gcd_comm]
    · have h0 : s.2 = 0 := by
        have : decide ((s.2 : Int) = 0) = true := by
          cases h : decide ((s.2 : Int) = 0) with
          | true => rfl
          | false => rw [h] at hb; cases hb
        have := of_decide_eq_true this
        omega
      refine c_ret (ev_is (ev_var rfl) ?_) k
      rw [h0, Nat.gcd_zero_right] at hs
      rw [hs]
abbrev s_write_whole : Stmt := topS 42
abbrev nm_write_whole : List Str := ["number", "digits", "rest"]
theorem sc_write_whole : FnScope nm_write_whole ["number"] (defScope s_write_whole) := ⟨rfl, rfl, rfl, by decide +kernel, rfl, by decide +kernel, by decide +kernel⟩
theorem digits_log (n : Nat) : (AlBase.digits n).length ≤ n.log2 + 1 := by
  induction n using Sl.digits_ind with
  | h0 n h => rw [Sl.digits_small h]; simp
  | h1 n h ih =>
    rw [Sl.digits_big h, List.length_append]
    have h1 : (n / 10).log2 + 1 ≤ n.log2 := by
      have e : n.log2 = (n / 2).log2 + 1 := by
        rw [Nat.log2_def, if_pos (by omega)]
      have m : (n / 10).log2 ≤ (n / 2).log2 := by
        by_cases z : n / 10 = 0
        · rw [z]; simp
        · exact (Nat.le_log2 (by omega)).mpr (Nat.le_trans (Nat.log2_self_le z) (by omega))
      omega
    simp only [List.length_cons, List.length_nil]
    omega
def R_write_whole : List D → D → Prop := fun ds d => ∃ n : Nat, ds = [.int n] ∧ n.log2 < 500000 ∧ d = .lst (dN (AlBase.digits n))
theorem len_write_whole {ds : List D} {d : D} (h : R_write_whole ds d) : ds.length = 1 := by obtain ⟨a, rfl, _⟩ := h; rfl
theorem ok_write_whole {P : Program} {w : World} {K : PySem.W.Frag} {mg : Str → Option Value} {base : Heap} {f : Addr} {fd : FuncData} (T : Txt mg) (n_DIGIT_ZERO : Num mg "DIGIT_ZERO" (48)) (F : Fun K "write_whole" "write_whole" s_write_whole f fd) : FnOk P w K mg base CX0 1 f fd ["number"] (SpR K R_write_whole) := by
  obtain ⟨t_DIGIT_ZERO, m_DIGIT_ZERO⟩ := n_DIGIT_ZERO
  refine fn_ok F sc_write_whole (by decide) (fun ds d h => ?_) (fun cdv A outer s H E hr => ?_)
  · exact len_write_whole h
  · have hu65 := hu65_of hr
    refine ⟨_, (pss_cons (ps_set (i := 1) sc_write_whole.nd rfl (Or.inl rfl) (pe_lst pa_nil))
      (pss_cons (ps_set (i := 2) sc_write_whole.nd rfl (Or.inl rfl) (pv 0))
      (pss_cons (ps_while PassesOwn.never (pt_cmpR op_gt (pv 2) pe_int (nomark _)) (pss_cons (ps_expr (pe_bm PySem.F.plainAttrs_list PySem.F.slot_list_append PySem.F.type_list_append mt_append (pv 1) (pa_cons (pe_op op_add (pe_glob (v := .int (48)) (by rfl) m_DIGIT_ZERO ⟨_, rfl⟩) (pe_op op_mod (pv 2) pe_int)) pa_nil)))
      (pss_one (ps_set (i := 2) sc_write_whole.nd rfl (Or.inl rfl) (pe_op op_fdivX (pv 2) pe_int)))))
      (pss_cons (ps_expr (pe_bm PySem.F.plainAttrs_list PySem.F.slot_list_append PySem.F.type_list_append mt_append (pv 1) (pa_cons (pe_op op_add (pe_glob (v := .int (48)) (by rfl) m_DIGIT_ZERO ⟨_, rfl⟩) (pv 2)) pa_nil)))
      (pss_cons (ps_expr (pe_bm0 PySem.F.plainAttrs_list PySem.F.slot_list_reverse PySem.F.type_list_reverse mt_reverse (pv 1)))
      (pss_one (ps_ret (pv 1)))))))), fun ds d hR G0 H0 Q Z k => ?_⟩
    obtain ⟨n, rfl, hn, rfl⟩ := hR
    refine c_seq (c_new (n_lst ea_nil (by decide)) ?_)
    refine c_seq (c_asg (ev_var rfl) ?_)
    refine c_seq (c_while (fun s : List Nat × Nat => [.dat (.int n), .mu (dN s.1), .dat (.int s.2)]) (fun s => AlBase.digits n = AlBase.digits s.2 ++ s.1.reverse) (fun s => s.2) ([], n) (le_refl _) (by simp) fun s hs => ?_)
    have hlen : s.1.length < 500001 := by
      have := digits_log n
      rw [hs, List.length_append, List.length_reverse] at this
      have h1 : 0 < (AlBase.digits s.2).length := List.length_pos_iff.mpr (Sl.digits_ne s.2)
      omega
    refine ⟨_, et_test (ev_opB (ev_var rfl).r ev_i.r).r, fun hb => ?_, fun hb => ?_⟩
    · have h9 : (9 : Int) < s.2 := of_decide_eq_true hb
      refine c_seq (c_app rfl (ev_opI ev_i.r (ev_mod (ev_var rfl).r ev_i.r (by decide)).r) (by rw [dN_len]; omega) ?_)
      refine c_asg (ev_fdiv (ev_var rfl).r ev_i.r (show CDivX _ 10 from ⟨by decide, by decide +kernel⟩)) ?_
      refine c_nx (s.1 ++ [48 + s.2 % 10], s.2 / 10) (le_eq rfl (le_eq ?_ (le_eq ?_ le_nil))) ?_ (by show s.2 / 10 < s.2; omega)
      · rw [dN_append]; rfl
      · show AS.dat (.int ((s.2 / 10 : Nat) : Int)) = AS.dat (.int (Int.fdiv s.2 10))
        rw [Int.fdiv_eq_ediv_of_nonneg _ (by decide)]; rfl
      · show AlBase.digits n = AlBase.digits (s.2 / 10) ++ (s.1 ++ [48 + s.2 % 10]).reverse
        rw [hs, Sl.digits_big (n := s.2) (by omega)]
        simp
    · have h9 : ¬ (9 : Int) < s.2 := of_decide_eq_false hb
      refine c_seq (c_app rfl (ev_opI ev_i.r (ev_var rfl).r) (by rw [dN_len]; omega) ?_)
      refine c_seq (c_rev rfl ?_)
      refine c_frz (n := 1) rfl ?_
      refine c_ret (ev_is (ev_var rfl) ?_) k
      rw [hs, Sl.digits_small (n := s.2) (by omega)]
      show D.lst (dN s.1 ++ [D.int (48 + (s.2 : Int))]).reverse = D.lst (dN ([48 + s.2] ++ s.1.reverse))
      rw [dN_append, dN_reverse, List.reverse_append]
      rfl
end Pg
set_option Elab.async false
set_option linter.all false
set_option maxRecDepth 100000
set_option maxHeartbeats 2000000
namespace Pg
open PySem PyProof.Rows L2 Fw
abbrev s_write_fraction : Stmt := topS 41
abbrev nm_write_fraction : List Str := ["top", "bottom"]
theorem sc_write_fraction : FnScope nm_write_fraction ["top", "bottom"] (defScope s_write_fraction) := ⟨rfl, rfl, rfl, by decide +kernel, rfl, by decide +kernel, by decide +kernel⟩
theorem digits_len5 {n : Nat} (h : n.log2 < 500000) : (AlBase.digits n).length ≤ 500000 := by have := digits_log n; omega
def R_write_fraction : List D → D → Prop := fun ds d => ∃ n m : Nat, ds = [.int n, .int m] ∧ n.log2 < 400000 ∧ m.log2 < 400000 ∧ d = .lst (dN (Sl.wFrac n m))
theorem len_write_fraction {ds : List D} {d : D} (h : R_write_fraction ds d) : ds.length = 2 := by obtain ⟨a, b, rfl, _⟩ := h; rfl
theorem ok_write_fraction {P : Program} {w : World} {K : PySem.W.Frag} {mg : Str → Option Value} {base : Heap} {f : Addr} {fd : FuncData} (T : Txt mg) (c_write_whole : Cal P w K mg base 1 "write_whole" ["number"] R_write_whole) (n_SLASH : Num mg "SLASH" (47)) (F : Fun K "write_fraction" "write_fraction" s_write_fraction f fd) : FnOk P w K mg base CX0 2 f fd ["top", "bottom"] (SpR K R_write_fraction) := by
  obtain ⟨f_write_whole, fd_write_whole, G_write_whole, m_write_whole, k_write_whole, b_write_whole⟩ := c_write_whole.ex
  obtain ⟨t_SLASH, m_SLASH⟩ := n_SLASH
  refine fn_ok F sc_write_fraction (by decide) (fun ds d h => ?_) (fun cdv A outer s H E hr => ?_)
  · exact len_write_fraction h
  · have hu65 := hu65_of hr
    refine ⟨_, (pss_cons (ps_if (pt_cmpR op_eq (pv 1) pe_int (nomark _)) (pss_one (ps_ret (pe_call G_write_whole (hr.mono (by decide)) (by rfl) m_write_whole k_write_whole b_write_whole .nil pass0 (pa_cons (pv 0) pa_nil)))) pss_nil)
      (pss_one (ps_ret (pe_op op_cat (pe_op op_cat (pe_call G_write_whole (hr.mono (by decide)) (by rfl) m_write_whole k_write_whole b_write_whole .nil pass0 (pa_cons (pv 0) pa_nil)) (pe_lst (pa_cons (pe_glob (v := .int (47)) (by rfl) m_SLASH ⟨_, rfl⟩) pa_nil))) (pe_call G_write_whole (hr.mono (by decide)) (by rfl) m_write_whole k_write_whole b_write_whole .nil pass0 (pa_cons (pv 1) pa_nil)))))), fun ds d hR G0 H0 Q Z k => ?_⟩
    obtain ⟨n, m, rfl, hn, hm, rfl⟩ := hR
    have ln := digits_log n
    have lm := digits_log m
    refine c_seq (c_if (et_test (ev_eqI (ev_var rfl).r ev_i.r).r) (fun hb => ?_) (fun hb => ?_))
    · have h1 : m = 1 := by have := of_decide_eq_true hb; omega
      refine c_ret (ev_is (ev_call (ea_cons (ev_var rfl) ea_nil) ⟨n, rfl, by omega, rfl⟩) ?_) k
      unfold Sl.wFrac
      rw [if_pos h1]
    · have h1 : ¬ m = 1 := by have := of_decide_eq_false hb; omega
      refine c_ret (ev_is (n_cat (n_cat (ev_call (ea_cons (ev_var rfl) ea_nil) ⟨n, rfl, by omega, rfl⟩) (n_lst (ea_cons ev_i ea_nil) (by decide)).ev (by rw [dN_len]; simp; omega)).ev (ev_call (ea_cons (ev_var rfl) ea_nil) ⟨m, rfl, by omega, rfl⟩) (by rw [List.length_append, dN_len, dN_len]; simp; omega)).ev ?_) k
      unfold Sl.wFrac
      rw [if_neg h1]
      show D.lst (dN (AlBase.digits n) ++ [D.int 47] ++ dN (AlBase.digits m)) = D.lst (dN (AlBase.digits n ++ 47 :: AlBase.digits m))
      rw [dN_append, List.append_assoc]
      rfl
abbrev s_write_term : Stmt := topS 40
abbrev nm_write_term : List Str := ["power", "top", "bottom", "text"]
theorem sc_write_term : FnScope nm_write_term ["power", "top", "bottom"] (defScope s_write_term) := ⟨rfl, rfl, rfl, by decide +kernel, rfl, by decide +kernel, by decide +kernel⟩
theorem wFrac_len (n m : Nat) : (Sl.wFrac n m).length ≤ n.log2 + m.log2 + 3 := by
  have ln := digits_log n
  have lm := digits_log m
  unfold Sl.wFrac
  split
  · omega
  · rw [List.length_append, List.length_cons]; omega
theorem wPow_len (p : Nat) : (Sl.wPow p).length ≤ p.log2 + 3 := by
  have lm := digits_log p
  unfold Sl.wPow
  split
  · simp
  · simp; omega
theorem wTerm_len (p n m : Nat) : (Sl.wTerm p n m).length ≤ p.log2 + n.log2 + m.log2 + 7 := by
  have l1 := wFrac_len n m
  have l2 := wPow_len p
  unfold Sl.wTerm
  split
  · omega
  · split
    · omega
    · rw [List.length_append, List.length_cons]; omega
def R_write_term : List D → D → Prop := fun ds d => ∃ p n m : Nat, ds = [.int p, .int n, .int m] ∧ p.log2 < 100000 ∧ n.log2 < 100000 ∧ m.log2 < 100000 ∧ d = .lst (dN (Sl.wTerm p n m))
theorem len_write_term {ds : List D} {d : D} (h : R_write_term ds d) : ds.length = 3 := by obtain ⟨p, a, b, rfl, _⟩ := h; rfl
theorem ok_write_term {P : Program} {w : World} {K : PySem.W.Frag} {mg : Str → Option Value} {base : Heap} {f : Addr} {fd : FuncData} (T : Txt mg) (c_write_fraction : Cal P w K mg base 2 "write_fraction" ["top", "bottom"] R_write_fraction) (c_write_whole : Cal P w K mg base 1 "write_whole" ["number"] R_write_whole) (n_STAR : Num mg "STAR" (42)) (n_LETTER_X : Num mg "LETTER_X" (120)) (n_CARET : Num mg "CARET" (94)) (F : Fun K "write_term" "write_term" s_write_term f fd) : FnOk P w K mg base CX0 3 f fd ["power", "top", "bottom"] (SpR K R_write_term) := by
  obtain ⟨f_write_fraction, fd_write_fraction, G_write_fraction, m_write_fraction, k_write_fraction, b_write_fraction⟩ := c_write_fraction.ex
  obtain ⟨f_write_whole, fd_write_whole, G_write_whole, m_write_whole, k_write_whole, b_write_whole⟩ := c_write_whole.ex
  obtain ⟨t_STAR, m_STAR⟩ := n_STAR
  obtain ⟨t_LETTER_X, m_LETTER_X⟩ := n_LETTER_X
  obtain ⟨t_CARET, m_CARET⟩ := n_CARET
  refine fn_ok F sc_write_term (by decide) (fun ds d h => ?_) (fun cdv A outer s H E hr => ?_)
  · exact len_write_term h
  · have hu65 := hu65_of hr
    refine ⟨_, (pss_cons (ps_if (pt_cmpR op_eq (pv 0) pe_int (nomark _)) (pss_one (ps_ret (pe_call G_write_fraction (hr.mono (by decide)) (by rfl) m_write_fraction k_write_fraction b_write_fraction .nil pass0 (pa_cons (pv 1) (pa_cons (pv 2) pa_nil))))) pss_nil)
      (pss_cons (ps_set (i := 3) sc_write_term.nd rfl (Or.inl rfl) (pe_lst pa_nil))
      (Evl.pss_cut (ps_if ((pw_or (pt_cmpR op_ne (pv 1) pe_int (nomark _)) (pw_or1 (pt_cmpR op_ne (pv 2) pe_int (nomark _))))).pt (pss_cons (ps_expr (pe_bm PySem.F.plainAttrs_list PySem.F.slot_list_extend PySem.F.type_list_extend mt_extend (pv 3) (pa_cons (pe_call G_write_fraction (hr.mono (by decide)) (by rfl) m_write_fraction k_write_fraction b_write_fraction .nil pass0 (pa_cons (pv 1) (pa_cons (pv 2) pa_nil))) pa_nil)))
      (pss_one (ps_expr (pe_bm PySem.F.plainAttrs_list PySem.F.slot_list_append PySem.F.type_list_append mt_append (pv 3) (pa_cons (pe_glob (v := .int (42)) (by rfl) m_STAR ⟨_, rfl⟩) pa_nil))))) pss_nil)
      (pss_cons (ps_expr (pe_bm PySem.F.plainAttrs_list PySem.F.slot_list_append PySem.F.type_list_append mt_append (pv 3) (pa_cons (pe_glob (v := .int (120)) (by rfl) m_LETTER_X ⟨_, rfl⟩) pa_nil)))
      (Evl.pss_cut (ps_if (pt_cmpR op_ne (pv 0) pe_int (nomark _)) (pss_cons (ps_expr (pe_bm PySem.F.plainAttrs_list PySem.F.slot_list_append PySem.F.type_list_append mt_append (pv 3) (pa_cons (pe_glob (v := .int (94)) (by rfl) m_CARET ⟨_, rfl⟩) pa_nil)))
      (pss_one (ps_expr (pe_bm PySem.F.plainAttrs_list PySem.F.slot_list_extend PySem.F.type_list_extend mt_extend (pv 3) (pa_cons (pe_call G_write_whole (hr.mono (by decide)) (by rfl) m_write_whole k_write_whole b_write_whole .nil pass0 (pa_cons (pv 0) pa_nil)) pa_nil))))) pss_nil)
      (pss_one (ps_ret (pv 3)))))))), fun ds d hR G0 H0 Q Z k => ?_⟩
    obtain ⟨p, n, m, rfl, hp, hn, hm, rfl⟩ := hR
    have l1 := wFrac_len n m
    have l2 := digits_log p
    refine c_seq (c_if (et_test (ev_eqI (ev_var rfl).r ev_i.r).r) (fun hb => ?_) (fun hb => ?_))
    · have h1 : p = 0 := by have := of_decide_eq_true hb; omega
      refine c_ret (ev_is (ev_call (ea_cons (ev_var rfl) (ea_cons (ev_var rfl) ea_nil)) ⟨n, m, rfl, by omega, by omega, rfl⟩) ?_) k
      unfold Sl.wTerm
      rw [if_pos h1]
    · have h1 : ¬ p = 0 := by have := of_decide_eq_false hb; omega
      refine c_seq (c_new (n_lst ea_nil (by decide)) ?_)
      have c1 : decide ((n : Int) = 1) = decide (n = 1) := by
        by_cases h : n = 1
        · subst h; rfl
        · rw [decide_eq_false h, decide_eq_false (by omega)]
      have c2 : decide ((m : Int) = 1) = decide (m = 1) := by
        by_cases h : m = 1
        · subst h; rfl
        · rw [decide_eq_false h, decide_eq_false (by omega)]
      refine c_cut [.dat (.int p), .dat (.int n), .dat (.int m), .mu (dN (if n = 1 ∧ m = 1 then [] else Sl.wFrac n m ++ [42]))] ?_ ?_
      · refine c_if (et_or (et_test (ev_neI (ev_var rfl).r ev_i.r).r) fun _ => et_test (ev_neI (ev_var rfl).r ev_i.r).r) (fun hb => ?_) (fun hb => ?_)
        · refine c_seq (c_ext rfl (ev_call (ea_cons (ev_var rfl) (ea_cons (ev_var rfl) ea_nil)) ⟨n, m, rfl, by omega, by omega, rfl⟩) (by simp [dN_len]; omega) ?_)
          refine c_app rfl ev_i (by simp [dN_len]; omega) ?_
          refine c_at (le_eq rfl (le_eq rfl (le_eq rfl (le_eq ?_ le_nil))))
          rw [if_neg, dN_append]
          · rfl
          · intro z
            rw [c1, c2, z.1, z.2] at hb
            exact absurd hb (by decide)
        · refine c_at (le_eq rfl (le_eq rfl (le_eq rfl (le_eq ?_ le_nil))))
          rw [if_pos]
          · rfl
          · rw [c1, c2] at hb
            by_cases a : n = 1
            · by_cases b : m = 1
              · exact ⟨a, b⟩
              · rw [decide_eq_true a, decide_eq_false b] at hb; exact absurd hb (by decide)
            · rw [decide_eq_false a] at hb; exact absurd hb (by simp)
      · generalize hu : (if n = 1 ∧ m = 1 then [] else Sl.wFrac n m ++ [42]) = u
        have hul : u.length ≤ 200010 := by
          rw [← hu]; split
          · simp
          · simp; omega
        have e : u ++ Sl.wPow p = Sl.wTerm p n m := by
          unfold Sl.wTerm
          rw [if_neg h1, ← hu]
          split
          · rfl
          · rw [List.append_assoc]; rfl
        refine c_seq (c_app rfl ev_i (by rw [dN_len]; omega) ?_)
        refine c_cut [.dat (.int p), .dat (.int n), .dat (.int m), .mu (dN (u ++ Sl.wPow p))] ?_ ?_
        · refine c_if (et_test (ev_neI (ev_var rfl).r ev_i.r).r) (fun hb => ?_) (fun hb => ?_)
          · have h2 : ¬ p = 1 := by
              intro z; subst z; exact absurd hb (by decide)
            refine c_seq (c_app rfl ev_i (by simp [dN_len]; omega) ?_)
            refine c_ext rfl (ev_call (ea_cons (ev_var rfl) ea_nil) ⟨p, rfl, by omega, rfl⟩) (by simp [dN_len]; omega) ?_
            refine c_at (le_eq rfl (le_eq rfl (le_eq rfl (le_eq ?_ le_nil))))
            unfold Sl.wPow
            rw [if_neg h2]
            show AS.mu _ = AS.mu (dN u ++ [D.int 120] ++ [D.int 94] ++ dN (AlBase.digits p))
            rw [dN_append, List.append_assoc, List.append_assoc]
            rfl
          · have h2 : p = 1 := by
              cases h : decide ((p : Int) = 1) with
              | true => have := of_decide_eq_true h; omega
              | false => rw [h] at hb; cases hb
            refine c_at (le_eq rfl (le_eq rfl (le_eq rfl (le_eq ?_ le_nil))))
            unfold Sl.wPow
            rw [if_pos h2, dN_append]
            rfl
        · refine c_frz (n := 3) rfl ?_
          refine c_ret (ev_is (ev_var rfl) ?_) k
          rw [e]
end Pg
set_option Elab.async false
set_option linter.all false
set_option maxRecDepth 100000
set_option maxHeartbeats 2000000
namespace Pg
open PySem PyProof.Rows L2 Fw
abbrev s_write_polynomial : Stmt := topS 39
abbrev nm_write_polynomial : List Str := ["terms", "text", "power", "top", "bottom"]
theorem sc_write_polynomial : FnScope nm_write_polynomial ["terms"] (defScope s_write_polynomial) := ⟨rfl, rfl, rfl, by decide +kernel, rfl, by decide +kernel, by decide +kernel⟩
structure Okt (t : Sl.Tm) : Prop where
  p : t.p.log2 < 100000
  n : t.n.natAbs.log2 < 100000
  d : t.d.log2 < 100000
def R_write_polynomial : List D → D → Prop := fun ds d => ∃ ts : List Sl.Tm, ds = [.lst (dTs ts)] ∧ (∀ t ∈ ts, Okt t) ∧ (Sl.write ts).length ≤ 900000 ∧ d = .lst (dN (Sl.write ts))
theorem len_write_polynomial {ds : List D} {d : D} (h : R_write_polynomial ds d) : ds.length = 1 := by obtain ⟨a, rfl, _⟩ := h; rfl
theorem ok_write_polynomial {P : Program} {w : World} {K : PySem.W.Frag} {mg : Str → Option Value} {base : Heap} {f : Addr} {fd : FuncData} (T : Txt mg) (c_write_term : Cal P w K mg base 3 "write_term" ["power", "top", "bottom"] R_write_term) (n_DIGIT_ZERO : Num mg "DIGIT_ZERO" (48)) (n_BLANK : Num mg "BLANK" (32)) (n_MINUS : Num mg "MINUS" (45)) (n_PLUS : Num mg "PLUS" (43)) (F : Fun K "write_polynomial" "write_polynomial" s_write_polynomial f fd) : FnOk P w K mg base CX0 4 f fd ["terms"] (SpR K R_write_polynomial) := by
  obtain ⟨f_write_term, fd_write_term, G_write_term, m_write_term, k_write_term, b_write_term⟩ := c_write_term.ex
  obtain ⟨t_DIGIT_ZERO, m_DIGIT_ZERO⟩ := n_DIGIT_ZERO
  obtain ⟨t_BLANK, m_BLANK⟩ := n_BLANK
  obtain ⟨t_MINUS, m_MINUS⟩ := n_MINUS
  obtain ⟨t_PLUS, m_PLUS⟩ := n_PLUS
  refine fn_ok F sc_write_polynomial (by decide) (fun ds d h => ?_) (fun cdv A outer s H E hr => ?_)
  · exact len_write_polynomial h
  · have hu65 := hu65_of hr
    refine ⟨_, (pss_cons (ps_if (pt_cmpR (op_eqD hr.units) (pv 0) (pe_lst pa_nil) (nomark _)) (pss_one (ps_ret (pe_lst (pa_cons (pe_glob (v := .int (48)) (by rfl) m_DIGIT_ZERO ⟨_, rfl⟩) pa_nil)))) pss_nil)
      (pss_cons (ps_set (i := 1) sc_write_polynomial.nd rfl (Or.inl rfl) (pe_lst pa_nil))
      (pss_cons (ps_for PassesOwn.never rfl (pi_list (pv 0)) (pg_tup rfl (pgs_cons (pg_name (i := 2) sc_write_polynomial.nd rfl (Or.inl rfl)) (pgs_cons (pg_name (i := 3) sc_write_polynomial.nd rfl (Or.inl rfl)) (pgs_cons (pg_name (i := 4) sc_write_polynomial.nd rfl (Or.inl rfl)) pgs_nil)))) (Evl.pss_cut (ps_if (pt_cmpR (op_neD hr.units) (pv 1) (pe_lst pa_nil) (nomark _)) (pss_one (ps_expr (pe_bm PySem.F.plainAttrs_list PySem.F.slot_list_extend PySem.F.type_list_extend mt_extend (pv 1) (pa_cons (pe_lst (pa_cons (pe_glob (v := .int (32)) (by rfl) m_BLANK ⟨_, rfl⟩) (pa_cons (pe_ifExp (pt_cmpR op_lt (pv 3) pe_int (nomark _)) (pe_glob (v := .int (45)) (by rfl) m_MINUS ⟨_, rfl⟩) (pe_glob (v := .int (43)) (by rfl) m_PLUS ⟨_, rfl⟩)) (pa_cons (pe_glob (v := .int (32)) (by rfl) m_BLANK ⟨_, rfl⟩) pa_nil)))) pa_nil)))) (pss_one (ps_if (pt_cmpR op_lt (pv 3) pe_int (nomark _)) (pss_one (ps_expr (pe_bm PySem.F.plainAttrs_list PySem.F.slot_list_append PySem.F.type_list_append mt_append (pv 1) (pa_cons (pe_glob (v := .int (45)) (by rfl) m_MINUS ⟨_, rfl⟩) pa_nil)))) pss_nil)))
      (pss_one (ps_expr (pe_bm PySem.F.plainAttrs_list PySem.F.slot_list_extend PySem.F.type_list_extend mt_extend (pv 1) (pa_cons (pe_call G_write_term (hr.mono (by decide)) (by rfl) m_write_term k_write_term b_write_term .nil pass0 (pa_cons (pv 2) (pa_cons (pe_callB call_abs (by rfl) T.b_abs (by decide +kernel) (pa_cons (pv 3) pa_nil)) (pa_cons (pv 4) pa_nil)))) pa_nil))))))
      (pss_one (ps_ret (pv 1)))))), fun ds d hR G0 H0 Q Z k => ?_⟩
    obtain ⟨ts, rfl, hok, hlen, rfl⟩ := hR
    refine c_seq (c_if (et_test (ev_eqD (ev_var rfl).r (n_lst ea_nil (by decide)).ev.r (sh_of (dTs_dep ts) (by decide)) sh_nil).r) (fun hb => ?_) (fun hb => ?_))
    · rw [eqD_nil] at hb
      have e : ts = [] := by
        have := of_decide_eq_true hb
        exact List.map_eq_nil_iff.mp this
      subst e
      exact c_ret (n_lst (ea_cons ev_i ea_nil) (by decide)).ev k
    · rw [eqD_nil] at hb
      have hne : ts ≠ [] := fun z => of_decide_eq_false hb (by rw [z]; rfl)
      refine c_seq (c_new (n_lst ea_nil (by decide)) ?_)
      refine c_seq (c_for (it_list (ev_var rfl) .lst) (fun i => [.dat (.lst (dTs ts)), .mu (dN (wAll (ts.take i))), .no, .no, .no]) [2, 3, 4] (fun d as => match d with
        | .tup [a, b, c] => ((as.set 2 (.dat a)).set 3 (.dat b)).set 4 (.dat c)
        | _ => as) (fun d hd => ?_) (le_refl _) (fun B C sub i d hd => ?_) ?_)
      · obtain ⟨t, _, rfl⟩ := List.mem_map.mp hd
        exact tg_tup3
      · have hd' := hd
        unfold dTs at hd'
        rw [List.getElem?_map] at hd'
        obtain ⟨t, ht, rfl⟩ : ∃ t, ts[i]? = some t ∧ dT t = d := by
          cases e : ts[i]? with
          | none => rw [e] at hd'; cases hd'
          | some t => rw [e] at hd'; exact ⟨t, rfl, Option.some.inj hd'⟩
        have htk : ts.take (i + 1) = ts.take i ++ [t] := by rw [List.take_add_one, ht]; rfl
        have hmo := wAll_more (ts.take i) t
        rw [← htk] at hmo
        have hl1 := wAll_take ts (i + 1)
        rw [wAll_write hne] at hl1
        rw [hmo] at hl1
        simp only [List.length_append] at hl1
        have ho := hok t (List.mem_of_getElem? ht)
        show Co K B C [.dat (.lst (dTs ts)), .mu (dN (wAll (ts.take i))), .dat (.int t.p), .dat (.int t.n), .dat (.int t.d)] _
        generalize hpre : (if ts.take i = [] then (if t.n < 0 then [45] else []) else [32, if t.n < 0 then 45 else 43, 32]) = pre at hmo hl1
        refine c_cut [.dat (.lst (dTs ts)), .mu (dN (wAll (ts.take i) ++ pre)), .dat (.int t.p), .dat (.int t.n), .dat (.int t.d)] ?_ ?_
        · refine c_if (et_test (ev_neD (er_mu rfl) (n_lst ea_nil (by decide)).ev.r (sh_dN _) sh_nil).r) (fun hb => ?_) (fun hb => ?_)
          · have h1 : ts.take i ≠ [] := fun z => by
              rw [eqD_nil, z] at hb
              exact absurd hb (by decide)
            rw [if_neg h1] at hpre
            refine c_ext (es := dN [32, if t.n < 0 then 45 else 43, 32]) rfl (ev_is (n_lst (ea_cons ev_i (ea_cons (ev_if (d := .int (if t.n < 0 then 45 else 43)) (et_test (ev_opB (ev_var rfl).r ev_i.r).r) (fun q => ev_is ev_i (by rw [if_pos (of_decide_eq_true q)])) (fun q => ev_is ev_i (by rw [if_neg (of_decide_eq_false q)]))) (ea_cons ev_i ea_nil))) (by show 3 ≤ 1000000; decide)).ev ?_) (by rw [dN_len, dN_len]; have := wAll_take ts i; rw [wAll_write hne] at this; simp; omega) ?_
            · unfold dN
              simp only [List.map_cons, List.map_nil]
              congr 2
              split <;> rfl
            · refine c_at (le_eq rfl (le_eq ?_ (le_refl _)))
              rw [← hpre, dN_append]
          · have h1 : ts.take i = [] := by
              rw [eqD_nil] at hb
              cases h : decide (dN (wAll (ts.take i)) = []) with
              | true => exact (wAll_nil _).mp (List.map_eq_nil_iff.mp (of_decide_eq_true h))
              | false => rw [h] at hb; cases hb
            rw [if_pos h1] at hpre
            refine c_if (et_test (ev_opB (ev_var rfl).r ev_i.r).r) (fun q => ?_) (fun q => ?_)
            · have q' : t.n < 0 := of_decide_eq_true q
              rw [if_pos q'] at hpre
              refine c_app rfl ev_i (by rw [dN_len]; have := wAll_take ts i; rw [wAll_write hne] at this; omega) ?_
              refine c_at (le_eq rfl (le_eq ?_ (le_refl _)))
              rw [← hpre, dN_append]; rfl
            · have q' : ¬ t.n < 0 := of_decide_eq_false q
              rw [if_neg q'] at hpre
              refine c_at (le_eq rfl (le_eq ?_ (le_refl _)))
              rw [← hpre, List.append_nil]
        · refine c_ext rfl (ev_call (ea_cons (ev_var rfl) (ea_cons (ev_abs rfl (ev_var rfl).r) (ea_cons (ev_var rfl) ea_nil))) ⟨t.p, t.n.natAbs, t.d, rfl, ho.p, ho.n, ho.d, rfl⟩) (by rw [dN_len, dN_len, List.length_append]; omega) ?_
          refine c_at (le_eq rfl (le_eq ?_ (le_no (le_no (le_no le_nil)))))
          rw [hmo, ← dN_append, List.append_assoc]
      · refine c_frz (n := 1) rfl ?_
        refine c_ret (ev_is (ev_var rfl) ?_) k
        rw [dTs_len, List.take_length, wAll_write hne]
abbrev s_lowest_term : Stmt := topS 37
abbrev nm_lowest_term : List Str := ["term", "divisor"]
theorem sc_lowest_term : FnScope nm_lowest_term ["term"] (defScope s_lowest_term) := ⟨rfl, rfl, rfl, by decide +kernel, rfl, by decide +kernel, by decide +kernel⟩
/-- n over m in lowest terms -/
def lowG (n m : Int) : Int := if m < 0 then -(Nat.gcd n.natAbs m.natAbs : Nat) else (Nat.gcd n.natAbs m.natAbs : Nat)
def R_lowest_term : List D → D → Prop := fun ds d => ∃ p n m : Int, ds = [.tup [.int p, .int n, .int m]] ∧ m ≠ 0 ∧ m.natAbs.log2 < 9000 ∧ d = .tup [.int p, .int (n.fdiv (lowG n m)), .int (m.fdiv (lowG n m))]
theorem len_lowest_term {ds : List D} {d : D} (h : R_lowest_term ds d) : ds.length = 1 := by obtain ⟨p, a, b, rfl, _⟩ := h; rfl
theorem lowG_ok {n m : Int} (h : m ≠ 0) (hm : m.natAbs.log2 < 9000) (i : Int) : CDivX i (lowG n m) := by
  have hg : 0 < Nat.gcd n.natAbs m.natAbs := Nat.gcd_pos_of_pos_right _ (by omega)
  have hle : Nat.gcd n.natAbs m.natAbs ≤ m.natAbs := Nat.le_of_dvd (by omega) (Nat.gcd_dvd_right _ _)
  have ea : (lowG n m).natAbs = Nat.gcd n.natAbs m.natAbs := by unfold lowG; split <;> omega
  refine ⟨fun z => by rw [z] at ea; simp at ea; omega, ?_⟩
  rw [ea]
  refine (Nat.log2_lt (by omega)).mpr (Nat.lt_of_le_of_lt hle ((Nat.log2_lt (by omega)).mp hm))
theorem low_nat {t : Sl.Tm} (h : 0 < t.d) : D.tup [.int t.p, .int (t.n.fdiv (lowG t.n t.d)), .int ((t.d : Int).fdiv (lowG t.n t.d))] = dT (Sl.lowest t) := by
  have e : lowG t.n t.d = (Nat.gcd t.n.natAbs t.d : Nat) := by
    unfold lowG
    rw [if_neg (by omega), Int.natAbs_natCast]
  rw [e]
  unfold dT Sl.lowest
  rw [Int.fdiv_eq_ediv_of_nonneg _ (by omega), Int.fdiv_eq_ediv_of_nonneg _ (by omega)]
  rfl
theorem ok_lowest_term {P : Program} {w : World} {K : PySem.W.Frag} {mg : Str → Option Value} {base : Heap} {f : Addr} {fd : FuncData} (T : Txt mg) (c_greatest_divisor : Cal P w K mg base 1 "greatest_divisor" ["first", "second"] R_greatest_divisor) (F : Fun K "lowest_term" "lowest_term" s_lowest_term f fd) : FnOk P w K mg base CX0 2 f fd ["term"] (SpR K R_lowest_term) := by
  obtain ⟨f_greatest_divisor, fd_greatest_divisor, G_greatest_divisor, m_greatest_divisor, k_greatest_divisor, b_greatest_divisor⟩ := c_greatest_divisor.ex
  refine fn_ok F sc_lowest_term (by decide) (fun ds d h => ?_) (fun cdv A outer s H E hr => ?_)
  · exact len_lowest_term h
  · have hu65 := hu65_of hr
    refine ⟨_, (pss_cons (ps_set (i := 1) sc_lowest_term.nd rfl (Or.inl rfl) (pe_call G_greatest_divisor (hr.mono (by decide)) (by rfl) m_greatest_divisor k_greatest_divisor b_greatest_divisor .nil pass0 (pa_cons (pe_ix ix_tup (pv 0) pe_int (fun _ _ => rfl)) (pa_cons (pe_ix ix_tup (pv 0) pe_int (fun _ _ => rfl)) pa_nil))))
      (Evl.pss_cut (ps_if (pt_cmpR op_lt (pe_ix ix_tup (pv 0) pe_int (fun _ _ => rfl)) pe_int (nomark _)) (pss_one (ps_set (i := 1) sc_lowest_term.nd rfl (Or.inl rfl) (pe_un un_neg (pv 1)))) pss_nil)
      (pss_one (ps_ret (pe_tup (pa_cons (pe_ix ix_tup (pv 0) pe_int (fun _ _ => rfl)) (pa_cons (pe_op op_fdivX (pe_ix ix_tup (pv 0) pe_int (fun _ _ => rfl)) (pv 1)) (pa_cons (pe_op op_fdivX (pe_ix ix_tup (pv 0) pe_int (fun _ _ => rfl)) (pv 1)) pa_nil)))))))), fun ds d hR G0 H0 Q Z k => ?_⟩
    obtain ⟨p, n, m, rfl, h0, hm, rfl⟩ := hR
    have hc := fun i => lowG_ok (n := n) h0 hm i
    refine c_seq (c_asg (ev_call (ea_cons (ev_ixT (k := 1) (ev_var rfl) ev_i.r rfl) (ea_cons (ev_ixT (k := 2) (ev_var rfl) ev_i.r rfl) ea_nil)) ⟨n, m, rfl, rfl⟩) ?_)
    refine c_cut [.dat (.tup [.int p, .int n, .int m]), .dat (.int (lowG n m))] ?_ ?_
    · refine c_if (et_test (ev_opB (ev_ixT (k := 2) (ev_var rfl) ev_i.r rfl).r ev_i.r).r) (fun hb => ?_) (fun hb => ?_)
      · have h1 : m < 0 := of_decide_eq_true hb
        refine c_asg (ev_neg (ev_var rfl).r) ?_
        refine c_at (le_eq rfl (le_eq ?_ le_nil))
        unfold lowG
        rw [if_pos h1]
      · have h1 : ¬ m < 0 := of_decide_eq_false hb
        refine c_at (le_eq rfl (le_eq ?_ le_nil))
        unfold lowG
        rw [if_neg h1]
    · refine c_ret (ev_tup (ea_cons (ev_ixT (k := 0) (ev_var rfl) ev_i.r rfl) (ea_cons (ev_fdiv (ev_ixT (k := 1) (ev_var rfl) ev_i.r rfl).r (ev_var rfl).r (hc _)) (ea_cons (ev_fdiv (ev_ixT (k := 2) (ev_var rfl) ev_i.r rfl).r (ev_var rfl).r (hc _)) ea_nil))) (by show 3 ≤ 1000000; decide)) k
end Pg
set_option Elab.async false
set_option linter.all false
set_option maxRecDepth 100000
set_option maxHeartbeats 2000000
namespace Pg
open PySem PyProof.Rows L2 Fw
abbrev s_read_whole : Stmt := topS 35
abbrev nm_read_whole : List Str := ["piece", "number", "byte"]
theorem sc_read_whole : FnScope nm_read_whole ["piece"] (defScope s_read_whole) := ⟨rfl, rfl, rfl, by decide +kernel, rfl, by decide +kernel, by decide +kernel⟩
def val10 (w : List Nat) : Nat := w.foldl (fun (n b : Nat) => 10 * n + (b - 48)) 0
def dig (b : Nat) : Bool := decide (48 ≤ b) && decide (b ≤ 57)
theorem val10_more (w : List Nat) (b : Nat) : val10 (w ++ [b]) = 10 * val10 w + (b - 48) := by
  unfold val10; rw [List.foldl_append]; rfl
theorem val10_lt : ∀ (w : List Nat), w.all dig = true → val10 w < 2 ^ (4 * w.length + 1) := by
  intro w
  generalize hn : w.length = n
  induction n generalizing w with
  | zero =>
    intro _
    have : w = [] := List.eq_nil_of_length_eq_zero hn
    subst this; decide
  | succ n ih =>
    intro h
    obtain ⟨v, b, rfl⟩ : ∃ v b, w = v ++ [b] := ⟨w.dropLast, w.getLast (by intro z; subst z; simp at hn), (List.dropLast_concat_getLast _).symm⟩
    rw [List.length_append] at hn
    rw [List.all_append, Bool.and_eq_true] at h
    have ih' := ih v (by simpa using hn) h.1
    have hb : b ≤ 57 := by
      have := h.2
      simp [dig] at this
      omega
    rw [val10_more]
    have e : 2 ^ (4 * (n + 1) + 1) = 16 * 2 ^ (4 * n + 1) := by
      rw [show 4 * (n + 1) + 1 = (4 * n + 1) + 4 by omega, Nat.pow_add]
      omega
    rw [e]
    omega
def R_read_whole : List D → D → Prop := fun ds d => ∃ w : List Nat, ds = [.lst (dN w)] ∧ w.length ≤ 1000 ∧ d = dO (AlBase.readDigits w)
theorem len_read_whole {ds : List D} {d : D} (h : R_read_whole ds d) : ds.length = 1 := by obtain ⟨a, rfl, _⟩ := h; rfl
theorem ok_read_whole {P : Program} {w : World} {K : PySem.W.Frag} {mg : Str → Option Value} {base : Heap} {f : Addr} {fd : FuncData} (T : Txt mg) (n_DIGIT_NINE : Num mg "DIGIT_NINE" (57)) (n_DIGIT_ZERO : Num mg "DIGIT_ZERO" (48)) (F : Fun K "read_whole" "read_whole" s_read_whole f fd) : FnOk P w K mg base CX0 1 f fd ["piece"] (SpR K R_read_whole) := by
  obtain ⟨t_DIGIT_NINE, m_DIGIT_NINE⟩ := n_DIGIT_NINE
  obtain ⟨t_DIGIT_ZERO, m_DIGIT_ZERO⟩ := n_DIGIT_ZERO
  refine fn_ok F sc_read_whole (by decide) (fun ds d h => ?_) (fun cdv A outer s H E hr => ?_)
  · exact len_read_whole h
  · have hu65 := hu65_of hr
    refine ⟨_, (pss_cons (ps_if (pt_cmpR (op_eqD hr.units) (pv 0) (pe_lst pa_nil) (nomark _)) (pss_one (ps_ret pe_non)) pss_nil)
      (pss_cons (ps_set (i := 1) sc_read_whole.nd rfl (Or.inl rfl) pe_int)
      (pss_cons (ps_for PassesOwn.never rfl (pi_list (pv 0)) (pg_name (i := 2) sc_read_whole.nd rfl (Or.inl rfl)) (pss_cons (ps_if ((pw_or (pt_cmpR op_lt (pv 2) (pe_glob (v := .int (48)) (by rfl) m_DIGIT_ZERO ⟨_, rfl⟩) (nomark _)) (pw_or1 (pt_cmpR op_gt (pv 2) (pe_glob (v := .int (57)) (by rfl) m_DIGIT_NINE ⟨_, rfl⟩) (nomark _))))).pt (pss_one (ps_ret pe_non)) pss_nil)
      (pss_one (ps_set (i := 1) sc_read_whole.nd rfl (Or.inl rfl) (pe_op op_sub (pe_op op_add (pe_op op_mulW (pv 1) pe_int) (pv 2)) (pe_glob (v := .int (48)) (by rfl) m_DIGIT_ZERO ⟨_, rfl⟩))))))
      (pss_one (ps_ret (pv 1)))))), fun ds d hR G0 H0 Q Z k => ?_⟩
    obtain ⟨w, rfl, hw, rfl⟩ := hR
    refine q_when (et_test (ev_eqD (ev_var rfl).r (n_lst ea_nil (by decide)).ev.r (sh_dN w) sh_nil).r) (fun hb => ?_) (fun hb => ?_)
    · rw [eqD_nil] at hb
      have e : w = [] := List.map_eq_nil_iff.mp (of_decide_eq_true hb)
      subst e
      exact c_ret ev_non k
    · rw [eqD_nil] at hb
      have hne : w ≠ [] := fun z => of_decide_eq_false hb (by rw [z]; rfl)
      refine q_asg ev_i ?_
      refine q_forI (it_list (ev_var rfl) .lst) (fun i => [.dat (.lst (dN w)), .dat (.int (val10 (w.take i))), .no]) (fun i => (w.take i).all dig = true) [2] (fun d as => as.set 2 (.dat d)) (fun d _ => tg_name) (le_refl _) (by simp) (fun B C sub i d hd hI => ?_) fun hI => ?_
      · have hd' := hd
        unfold dN at hd'
        rw [List.getElem?_map] at hd'
        obtain ⟨b, hb', rfl⟩ : ∃ b, w[i]? = some b ∧ D.int (b : Int) = d := by
          cases e : w[i]? with
          | none => rw [e] at hd'; cases hd'
          | some t => rw [e] at hd'; exact ⟨t, rfl, Option.some.inj hd'⟩
        have htk : w.take (i + 1) = w.take i ++ [b] := by rw [List.take_add_one, hb']; rfl
        have hlen : (w.take i).length ≤ 1000 := by rw [List.length_take]; omega
        show Co K B C [.dat (.lst (dN w)), .dat (.int (val10 (w.take i))), .dat (.int b)] _
        refine q_when (et_or (et_test (ev_opB (ev_var rfl).r ev_i.r).r) fun _ => et_test (ev_opB (ev_var rfl).r ev_i.r).r) (fun q => ?_) (fun q => ?_)
        · refine c_ret (ev_is ev_non ?_) (k.up sub)
          have hnd : dig b = false := by
            rw [Bool.or_eq_true] at q
            unfold dig
            rcases q with q | q
            · have := of_decide_eq_true q
              rw [decide_eq_false (by omega)]; rfl
            · have := of_decide_eq_true q
              rw [decide_eq_false (p := b ≤ 57) (by omega), Bool.and_false]
          unfold AlBase.readDigits
          rw [if_neg hne, if_pos]
          · rfl
          · show w.all dig = false
            rw [List.all_eq_false]
            exact ⟨b, List.mem_of_getElem? hb', by rw [hnd]; decide⟩
        · have hbd : 48 ≤ b ∧ b ≤ 57 := by
            rw [Bool.or_eq_false_iff] at q
            have h1 := of_decide_eq_false q.1
            have h2 := of_decide_eq_false q.2
            omega
          have hv := log2_of_lt (val10_lt _ hI) (by omega)
          refine c_asg (ev_opI (ev_opI (ev_mul (ev_var rfl).r ev_i.r (mulW_of (a := 5000) (b := 5) (by rw [Int.natAbs_natCast]; omega) (by decide +kernel) (by decide))).r (ev_var rfl).r).r ev_i.r) ?_
          refine c_atI ?_ (le_eq rfl (le_eq ?_ (le_no le_nil)))
          · rw [htk, List.all_append, hI]
            simp [dig, hbd]
          · rw [htk, val10_more]
            congr 2
            omega
      · refine c_ret (ev_is (ev_var rfl) ?_) k
        rw [dN_len, List.take_length] at hI ⊢
        unfold AlBase.readDigits
        rw [if_neg hne, if_neg]
        · rfl
        · intro z
          have z' : w.all dig = false := z
          rw [hI] at z'; cases z'
abbrev s_read_fraction : Stmt := topS 34
abbrev nm_read_fraction : List Str := ["piece", "place", "bottom", "top"]
theorem sc_read_fraction : FnScope nm_read_fraction ["piece"] (defScope s_read_fraction) := ⟨rfl, rfl, rfl, by decide +kernel, rfl, by decide +kernel, by decide +kernel⟩
def dO2 (o : Option (Nat × Nat)) : D := match o with
  | none => .non
  | some x => .tup [.int (x.1 : Int), .int (x.2 : Int)]
theorem isNon_dO (o : Option Nat) : isNon (dO o) = o.isNone := by cases o <;> rfl
theorem isNon_dO2 (o : Option (Nat × Nat)) : isNon (dO2 o) = o.isNone := by cases o <;> rfl
theorem mem_cast (c : Nat) (w : List Nat) : ((c : Int) ∈ w.map fun (b : Nat) => (b : Int)) ↔ c ∈ w := by
  rw [List.mem_map]
  constructor
  · rintro ⟨b, hb, e⟩
    have : b = c := by omega
    rw [← this]; exact hb
  · intro h; exact ⟨c, h, rfl⟩
theorem idx_cast (c : Nat) : ∀ w : List Nat, (w.map fun (b : Nat) => (b : Int)).idxOf (c : Int) = w.idxOf c
  | [] => rfl
  | b :: w => by
    rw [List.map_cons, List.idxOf_cons, List.idxOf_cons, idx_cast c w]
    by_cases h : b = c
    · subst h; simp
    · have : ¬ ((b : Int) = (c : Int)) := by omega
      rw [show ((b : Int) == (c : Int)) = false by simpa using this, show (b == c) = false by simpa using h]
def fracOf : Option Nat → Option Nat → Option (Nat × Nat)
  | some t, some b => if b = 0 then none else some (t, b)
  | _, _ => none
theorem readFraction_of (w : List Nat) : Sl.readFraction w = fracOf (if 47 ∈ w then AlBase.readDigits (w.take (w.idxOf 47)) else AlBase.readDigits w) (if 47 ∈ w then AlBase.readDigits (w.drop (w.idxOf 47 + 1)) else some 1) := by
  unfold Sl.readFraction
  simp only
  split
  · rename_i t b e1 e2
    rw [e1, e2]; rfl
  · rename_i h
    unfold fracOf
    split
    · rename_i t b e1 e2
      exact absurd e2 (h t b e1)
    · rfl
theorem cut_dN_to (w : List Nat) (k : Nat) : cut (dN w) none (some (k : Int)) = dN (w.take k) := by rw [cut_to]; exact List.map_take.symm
theorem cut_dN_from (w : List Nat) (k : Nat) : cut (dN w) (some (k : Int)) none = dN (w.drop k) := by rw [cut_from]; exact List.map_drop.symm
section
variable {K : PySem.W.Frag} {as : List AS} {ta tb te : TE}
/-- c in w, w.index(c) -/
theorem ev_inN {w : List Nat} {c : Nat} (ha : EvR K ta as (.int (c : Int))) (hb : EvR K tb as (.lst (dN w))) : EvE K (tOp (rIn K false) ta tb) as (.bl (decide (c ∈ w))) := by
  rw [dN_dI] at hb
  refine ev_is (ev_inI ha hb .lst) ?_
  show D.bl (decide ((c : Int) ∈ _)) = _
  congr 1
  by_cases h : c ∈ w
  · rw [decide_eq_true h, decide_eq_true ((mem_cast c w).mpr h)]
  · rw [decide_eq_false h, decide_eq_false (fun z => h ((mem_cast c w).mp z))]
theorem ev_indexN {w : List Nat} {c : Nat} (ha : EvR K ta as (.lst (dN w))) (hb : EvR K tb as (.int (c : Int))) (hi : c ∈ w) : EvE K (tBM K "list" (rIndex K) ta (tCons tb tNil)) as (.int (w.idxOf c : Nat)) := by
  rw [dN_dI] at ha
  refine ev_is (ev_index ha .lst hb ((mem_cast c w).mpr hi)) ?_
  rw [idx_cast]
end
def R_read_fraction : List D → D → Prop := fun ds d => ∃ w : List Nat, ds = [.lst (dN w)] ∧ w.length ≤ 1000 ∧ d = dO2 (Sl.readFraction w)
theorem len_read_fraction {ds : List D} {d : D} (h : R_read_fraction ds d) : ds.length = 1 := by obtain ⟨a, rfl, _⟩ := h; rfl
theorem ok_read_fraction {P : Program} {w : World} {K : PySem.W.Frag} {mg : Str → Option Value} {base : Heap} {f : Addr} {fd : FuncData} (T : Txt mg) (c_read_whole : Cal P w K mg base 1 "read_whole" ["piece"] R_read_whole) (n_SLASH : Num mg "SLASH" (47)) (F : Fun K "read_fraction" "read_fraction" s_read_fraction f fd) : FnOk P w K mg base CX0 2 f fd ["piece"] (SpR K R_read_fraction) := by
  obtain ⟨f_read_whole, fd_read_whole, G_read_whole, m_read_whole, k_read_whole, b_read_whole⟩ := c_read_whole.ex
  obtain ⟨t_SLASH, m_SLASH⟩ := n_SLASH
  refine fn_ok F sc_read_fraction (by decide) (fun ds d h => ?_) (fun cdv A outer s H E hr => ?_)
  · exact len_read_fraction h
  · have hu65 := hu65_of hr
    refine ⟨_, (pss_cons (ps_set (i := 1) sc_read_fraction.nd rfl (Or.inl rfl) (pe_callB call_len_seq (by rfl) T.b_len PySem.boot_len (pa_cons (pv 0) pa_nil)))
      (pss_cons (ps_set (i := 2) sc_read_fraction.nd rfl (Or.inl rfl) pe_int)
      (Evl.pss_cut (ps_if (pt_cmpR op_in_seq (pe_glob (v := .int (47)) (by rfl) m_SLASH ⟨_, rfl⟩) (pv 0) (by with_unfolding_all rfl)) (pss_cons (ps_set (i := 1) sc_read_fraction.nd rfl (Or.inl rfl) (pe_bm PySem.F.plainAttrs_list PySem.F.slot_list_index PySem.F.type_list_index mt_index (pv 0) (pa_cons (pe_glob (v := .int (47)) (by rfl) m_SLASH ⟨_, rfl⟩) pa_nil)))
      (pss_one (ps_set (i := 2) sc_read_fraction.nd rfl (Or.inl rfl) (pe_call G_read_whole (hr.mono (by decide)) (by rfl) m_read_whole k_read_whole b_read_whole .nil pass0 (pa_cons (pe_slice sl_list (pv 0) (po_some (pe_op op_add (pv 1) pe_int)) po_none) pa_nil))))) pss_nil)
      (pss_cons (ps_set (i := 3) sc_read_fraction.nd rfl (Or.inl rfl) (pe_call G_read_whole (hr.mono (by decide)) (by rfl) m_read_whole k_read_whole b_read_whole .nil pass0 (pa_cons (pe_slice sl_list (pv 0) po_none (po_some (pv 1))) pa_nil)))
      (pss_cons (ps_if ((pw_or (pt_cmp (pc_isN (pv 3))) (pw_or (pt_cmp (pc_isN (pv 2))) (pw_or1 (pt_cmpR op_eq (pv 2) pe_int (nomark _)))))).pt (pss_one (ps_ret pe_non)) pss_nil)
      (pss_one (ps_ret (pe_tup (pa_cons (pv 3) (pa_cons (pv 2) pa_nil)))))))))), fun ds d hR G0 H0 Q Z k => ?_⟩
    obtain ⟨w, rfl, hw, rfl⟩ := hR
    refine q_asg (ev_len rfl (ev_var rfl).r .lst) ?_
    refine q_asg ev_i ?_
    generalize hb0 : (if 47 ∈ w then AlBase.readDigits (w.drop (w.idxOf 47 + 1)) else some 1) = bo
    refine c_cut [.dat (.lst (dN w)), .dat (.int ((if 47 ∈ w then w.idxOf 47 else w.length : Nat) : Int)), .dat (dO bo), .no] ?_ ?_
    · refine c_if (et_test (ev_inN (c := 47) ev_i.r (ev_var rfl).r).r) (fun hb => ?_) (fun hb => ?_)
      · have h : 47 ∈ w := of_decide_eq_true hb
        rw [if_pos h] at hb0
        refine q_asg (ev_indexN (c := 47) (ev_var rfl).r ev_i.r h) ?_
        refine c_asg (ev_call (ea_cons (ev_is (n_sl (hi := none) (ev_var rfl) .lst (eo_some (ev_opI (ev_var rfl).r ev_i.r).r) eo_none).ev (by
          show D.lst (cut (dN w) (some (((w.idxOf 47 + 1 : Nat)) : Int)) none) = _
          rw [cut_dN_from])) ea_nil) ⟨w.drop (w.idxOf 47 + 1), rfl, by rw [List.length_drop]; omega, rfl⟩) ?_
        refine c_at (le_eq rfl (le_eq ?_ (le_eq ?_ (le_no le_nil))))
        · rw [if_pos h]
        · rw [hb0]
      · have h : ¬ 47 ∈ w := of_decide_eq_false hb
        rw [if_neg h] at hb0
        refine c_at (le_eq rfl (le_eq ?_ (le_eq ?_ (le_no le_nil))))
        · rw [if_neg h, dN_len]
        · rw [← hb0]; rfl
    · generalize ht0 : (if 47 ∈ w then AlBase.readDigits (w.take (w.idxOf 47)) else AlBase.readDigits w) = to
      refine q_asg (d := dO to) (ev_call (ea_cons (ev_is (n_sl (lo := none) (ev_var rfl) .lst eo_none (eo_some (ev_var rfl).r)).ev (by rw [cut_dN_to])) ea_nil) ⟨w.take (if 47 ∈ w then w.idxOf 47 else w.length), rfl, by rw [List.length_take]; omega, ?_⟩) ?_
      · rw [← ht0]
        split
        · rfl
        · rw [List.take_length]
      · have e : Sl.readFraction w = fracOf to bo := by rw [readFraction_of, ht0, hb0]
        cases to with
        | none =>
          refine q_when (b := true) (et_or (b := true) (c := false) (et_is (et_B (ev_isN (ev_var rfl).r).r) rfl) fun z => by cases z) (fun _ => ?_) (fun z => by cases z)
          refine c_ret (ev_is ev_non ?_) k
          rw [e]; rfl
        | some t =>
          cases bo with
          | none =>
            refine q_when (b := true) (et_or (b := false) (c := true) (et_is (et_B (ev_isN (ev_var rfl).r).r) rfl) fun _ => et_or (b := true) (c := false) (et_is (et_B (ev_isN (ev_var rfl).r).r) rfl) fun z => by cases z) (fun _ => ?_) (fun z => by cases z)
            refine c_ret (ev_is ev_non ?_) k
            rw [e]; rfl
          | some b =>
            refine q_when (et_or (b := false) (et_is (et_B (ev_isN (ev_var rfl).r).r) rfl) fun _ => et_or (b := false) (et_is (et_B (ev_isN (ev_var rfl).r).r) rfl) fun _ => et_test (ev_eqI (ev_var rfl).r ev_i.r).r) (fun q => ?_) (fun q => ?_)
            · have q' : decide ((b : Int) = 0) = true := q
              have h0 : b = 0 := by have := of_decide_eq_true q'; omega
              refine c_ret (ev_is ev_non ?_) k
              rw [e]
              show _ = dO2 (if b = 0 then none else some (t, b))
              rw [if_pos h0]; rfl
            · have q' : decide ((b : Int) = 0) = false := q
              have h0 : ¬ b = 0 := by have := of_decide_eq_false q'; omega
              refine c_ret (ev_is (ev_tup (ea_cons (ev_var rfl) (ea_cons (ev_var rfl) ea_nil)) (by show 2 ≤ 1000000; decide)) ?_) k
              rw [e]
              show _ = dO2 (if b = 0 then none else some (t, b))
              rw [if_neg h0]; rfl
abbrev s_read_power : Stmt := topS 33
abbrev nm_read_power : List Str := ["piece"]
theorem sc_read_power : FnScope nm_read_power ["piece"] (defScope s_read_power) := ⟨rfl, rfl, rfl, by decide +kernel, rfl, by decide +kernel, by decide +kernel⟩
def R_read_power : List D → D → Prop := fun ds d => ∃ w : List Nat, ds = [.lst (dN w)] ∧ w.length ≤ 1000 ∧ d = dO (Sl.readPower w)
theorem len_read_power {ds : List D} {d : D} (h : R_read_power ds d) : ds.length = 1 := by obtain ⟨a, rfl, _⟩ := h; rfl
theorem ok_read_power {P : Program} {w : World} {K : PySem.W.Frag} {mg : Str → Option Value} {base : Heap} {f : Addr} {fd : FuncData} (T : Txt mg) (c_read_whole : Cal P w K mg base 1 "read_whole" ["piece"] R_read_whole) (n_LETTER_X : Num mg "LETTER_X" (120)) (n_CARET : Num mg "CARET" (94)) (F : Fun K "read_power" "read_power" s_read_power f fd) : FnOk P w K mg base CX0 2 f fd ["piece"] (SpR K R_read_power) := by
  obtain ⟨f_read_whole, fd_read_whole, G_read_whole, m_read_whole, k_read_whole, b_read_whole⟩ := c_read_whole.ex
  obtain ⟨t_LETTER_X, m_LETTER_X⟩ := n_LETTER_X
  obtain ⟨t_CARET, m_CARET⟩ := n_CARET
  refine fn_ok F sc_read_power (by decide) (fun ds d h => ?_) (fun cdv A outer s H E hr => ?_)
  · exact len_read_power h
  · have hu65 := hu65_of hr
    refine ⟨_, (pss_cons (ps_if (pt_cmpR (op_eqD hr.units) (pv 0) (pe_lst (pa_cons (pe_glob (v := .int (120)) (by rfl) m_LETTER_X ⟨_, rfl⟩) pa_nil)) (nomark _)) (pss_one (ps_ret pe_int)) pss_nil)
      (pss_cons (ps_if (pt_cmpR (op_eqD hr.units) (pe_slice sl_list (pv 0) po_none (po_some pe_int)) (pe_lst (pa_cons (pe_glob (v := .int (120)) (by rfl) m_LETTER_X ⟨_, rfl⟩) (pa_cons (pe_glob (v := .int (94)) (by rfl) m_CARET ⟨_, rfl⟩) pa_nil))) (nomark _)) (pss_one (ps_ret (pe_call G_read_whole (hr.mono (by decide)) (by rfl) m_read_whole k_read_whole b_read_whole .nil pass0 (pa_cons (pe_slice sl_list (pv 0) (po_some pe_int) po_none) pa_nil)))) pss_nil)
      (pss_one (ps_ret pe_non)))), fun ds d hR G0 H0 Q Z k => ?_⟩
    obtain ⟨w, rfl, hw, rfl⟩ := hR
    refine q_when (et_test (ev_eqD (ev_var rfl).r (n_lst (ea_cons ev_i ea_nil) (by decide)).ev.r (sh_dN w) (sh_dN [120])).r) (fun hb => ?_) (fun hb => ?_)
    · have e : w = [120] := of_decide_eq_true ((eqD_dN w [120]).symm.trans hb)
      refine c_ret (ev_is ev_i ?_) k
      unfold Sl.readPower
      rw [if_pos e]; rfl
    · have h1 : ¬ w = [120] := of_decide_eq_false ((eqD_dN w [120]).symm.trans hb)
      refine q_when (et_test (ev_eqD (ev_is (n_sl (lo := none) (ev_var rfl) .lst eo_none (eo_some ev_i.r)).ev (show D.lst (cut (dN w) none (some ((2 : Nat) : Int))) = D.lst (dN (w.take 2)) by rw [cut_dN_to])).r (n_lst (ea_cons ev_i (ea_cons ev_i ea_nil)) (by decide)).ev.r (sh_dN (w.take 2)) (sh_dN [120, 94])).r) (fun hb => ?_) (fun hb => ?_)
      · have h2 : w.take 2 = [120, 94] := of_decide_eq_true ((eqD_dN (w.take 2) [120, 94]).symm.trans hb)
        refine c_ret (d := dO (Sl.readPower w)) (ev_call (ea_cons (ev_is (n_sl (hi := none) (ev_var rfl) .lst (eo_some ev_i.r) eo_none).ev (show D.lst (cut (dN w) (some ((2 : Nat) : Int)) none) = D.lst (dN (w.drop 2)) by rw [cut_dN_from])) ea_nil) ⟨w.drop 2, rfl, by rw [List.length_drop]; omega, ?_⟩) k
        unfold Sl.readPower
        rw [if_neg h1, if_pos h2]
      · have h2 : ¬ w.take 2 = [120, 94] := of_decide_eq_false ((eqD_dN (w.take 2) [120, 94]).symm.trans hb)
        refine c_ret (ev_is ev_non ?_) k
        unfold Sl.readPower
        rw [if_neg h1, if_neg h2]; rfl
end Pg
set_option Elab.async false
set_option linter.all false
set_option maxRecDepth 100000
set_option maxHeartbeats 2000000
namespace Pg
open PySem PyProof.Rows L2 Fw
abbrev s_read_term : Stmt := topS 32
abbrev nm_read_term : List Str := ["sign", "piece", "fraction", "power", "place"]
theorem sc_read_term : FnScope nm_read_term ["sign", "piece"] (defScope s_read_term) := ⟨rfl, rfl, rfl, by decide +kernel, rfl, by decide +kernel, by decide +kernel⟩
def dOT (o : Option Sl.Tm) : D := match o with
  | none => .non
  | some t => dT t
def termOf (s : Int) : Option (Nat × Nat) → Option Nat → Option Sl.Tm
  | some f, some p => some ⟨p, s * f.1, f.2⟩
  | _, _ => none
theorem readTerm_of (s : Int) (w : List Nat) : Sl.readTerm s w = termOf s (if 42 ∈ w then Sl.readFraction (w.take (w.idxOf 42)) else if 120 ∈ w then some (1, 1) else Sl.readFraction w) (if 42 ∈ w then Sl.readPower (w.drop (w.idxOf 42 + 1)) else if 120 ∈ w then Sl.readPower w else some 0) := by
  unfold Sl.readTerm
  simp only
  split
  · rename_i t b e1 e2
    rw [e1, e2]; rfl
  · rename_i h
    unfold termOf
    split
    · rename_i t b e1 e2
      exact absurd e2 (h t b e1)
    · rfl
theorem readDigits_log {w : List Nat} {n : Nat} (h : AlBase.readDigits w = some n) : n.log2 ≤ 4 * w.length := by
  unfold AlBase.readDigits at h
  split at h
  · cases h
  · split at h
    · cases h
    · rename_i h1 h2
      have e : val10 w = n := Option.some.inj h
      have ha : w.all dig = true := by
        cases q : w.all dig with
        | true => rfl
        | false => exact absurd q h2
      rw [← e]
      have := log2_of_lt (val10_lt w ha) (by omega)
      omega
theorem readFraction_log {w : List Nat} {x : Nat × Nat} (h : Sl.readFraction w = some x) : x.1.log2 ≤ 4 * w.length ∧ x.2.log2 ≤ 4 * w.length := by
  rw [readFraction_of] at h
  unfold fracOf at h
  split at h
  · rename_i t b e1 e2
    split at h
    · cases h
    · cases h
      refine ⟨?_, ?_⟩
      · split at e1
        · have := readDigits_log e1
          rw [List.length_take] at this
          show t.log2 ≤ _
          omega
        · exact readDigits_log e1
      · split at e2
        · have := readDigits_log e2
          rw [List.length_drop] at this
          show b.log2 ≤ _
          omega
        · cases e2
          show Nat.log2 1 ≤ _
          rw [show Nat.log2 1 = 0 by decide +kernel]; omega
  · cases h
theorem readPower_log {w : List Nat} {p : Nat} (h : Sl.readPower w = some p) : p.log2 ≤ 4 * w.length := by
  unfold Sl.readPower at h
  split at h
  · cases h
    rw [show Nat.log2 1 = 0 by decide +kernel]; omega
  · split at h
    · have := readDigits_log h
      rw [List.length_drop] at this
      omega
    · cases h
def R_read_term : List D → D → Prop := fun ds d => ∃ (s : Int) (w : List Nat), ds = [.int s, .lst (dN w)] ∧ (s = 1 ∨ s = -1) ∧ w.length ≤ 300 ∧ d = dOT (Sl.readTerm s w)
theorem len_read_term {ds : List D} {d : D} (h : R_read_term ds d) : ds.length = 2 := by obtain ⟨a, b, rfl, _⟩ := h; rfl
theorem ok_read_term {P : Program} {w : World} {K : PySem.W.Frag} {mg : Str → Option Value} {base : Heap} {f : Addr} {fd : FuncData} (T : Txt mg) (c_read_fraction : Cal P w K mg base 2 "read_fraction" ["piece"] R_read_fraction) (c_read_power : Cal P w K mg base 2 "read_power" ["piece"] R_read_power) (n_STAR : Num mg "STAR" (42)) (n_LETTER_X : Num mg "LETTER_X" (120)) (F : Fun K "read_term" "read_term" s_read_term f fd) : FnOk P w K mg base CX0 3 f fd ["sign", "piece"] (SpR K R_read_term) := by
  obtain ⟨f_read_fraction, fd_read_fraction, G_read_fraction, m_read_fraction, k_read_fraction, b_read_fraction⟩ := c_read_fraction.ex
  obtain ⟨f_read_power, fd_read_power, G_read_power, m_read_power, k_read_power, b_read_power⟩ := c_read_power.ex
  obtain ⟨t_STAR, m_STAR⟩ := n_STAR
  obtain ⟨t_LETTER_X, m_LETTER_X⟩ := n_LETTER_X
  refine fn_ok F sc_read_term (by decide) (fun ds d h => ?_) (fun cdv A outer s H E hr => ?_)
  · exact len_read_term h
  · have hu65 := hu65_of hr
    refine ⟨_, (pss_cons (ps_set (i := 2) sc_read_term.nd rfl (Or.inl rfl) (pe_tup (pa_cons pe_int (pa_cons pe_int pa_nil))))
      (pss_cons (ps_set (i := 3) sc_read_term.nd rfl (Or.inl rfl) pe_int)
      (Evl.pss_cut (ps_if (pt_cmpR op_in_seq (pe_glob (v := .int (42)) (by rfl) m_STAR ⟨_, rfl⟩) (pv 1) (by with_unfolding_all rfl)) (pss_cons (ps_set (i := 4) sc_read_term.nd rfl (Or.inl rfl) (pe_bm PySem.F.plainAttrs_list PySem.F.slot_list_index PySem.F.type_list_index mt_index (pv 1) (pa_cons (pe_glob (v := .int (42)) (by rfl) m_STAR ⟨_, rfl⟩) pa_nil)))
      (pss_cons (ps_set (i := 2) sc_read_term.nd rfl (Or.inl rfl) (pe_call G_read_fraction (hr.mono (by decide)) (by rfl) m_read_fraction k_read_fraction b_read_fraction .nil pass0 (pa_cons (pe_slice sl_list (pv 1) po_none (po_some (pv 4))) pa_nil)))
      (pss_one (ps_set (i := 3) sc_read_term.nd rfl (Or.inl rfl) (pe_call G_read_power (hr.mono (by decide)) (by rfl) m_read_power k_read_power b_read_power .nil pass0 (pa_cons (pe_slice sl_list (pv 1) (po_some (pe_op op_add (pv 4) pe_int)) po_none) pa_nil)))))) (pss_one (ps_if (pt_cmpR op_in_seq (pe_glob (v := .int (120)) (by rfl) m_LETTER_X ⟨_, rfl⟩) (pv 1) (by with_unfolding_all rfl)) (pss_one (ps_set (i := 3) sc_read_term.nd rfl (Or.inl rfl) (pe_call G_read_power (hr.mono (by decide)) (by rfl) m_read_power k_read_power b_read_power .nil pass0 (pa_cons (pv 1) pa_nil)))) (pss_one (ps_set (i := 2) sc_read_term.nd rfl (Or.inl rfl) (pe_call G_read_fraction (hr.mono (by decide)) (by rfl) m_read_fraction k_read_fraction b_read_fraction .nil pass0 (pa_cons (pv 1) pa_nil)))))))
      (pss_cons (ps_if ((pw_or (pt_cmp (pc_isN (pv 2))) (pw_or1 (pt_cmp (pc_isN (pv 3)))))).pt (pss_one (ps_ret pe_non)) pss_nil)
      (pss_one (ps_ret (pe_tup (pa_cons (pv 3) (pa_cons (pe_op op_mulW (pv 0) (pe_ix ix_tup (pv 2) pe_int (fun _ _ => rfl))) (pa_cons (pe_ix ix_tup (pv 2) pe_int (fun _ _ => rfl)) pa_nil)))))))))), fun ds d hR G0 H0 Q Z k => ?_⟩
    obtain ⟨sg, w, rfl, hs, hw, rfl⟩ := hR
    refine q_asg (ev_tup (ea_cons ev_i (ea_cons ev_i ea_nil)) (by decide)) ?_
    refine q_asg ev_i ?_
    generalize hf : (if 42 ∈ w then Sl.readFraction (w.take (w.idxOf 42)) else if 120 ∈ w then some (1, 1) else Sl.readFraction w) = fo
    generalize hp : (if 42 ∈ w then Sl.readPower (w.drop (w.idxOf 42 + 1)) else if 120 ∈ w then Sl.readPower w else some 0) = po
    have e : Sl.readTerm sg w = termOf sg fo po := by rw [readTerm_of, hf, hp]
    have hfl : ∀ x, fo = some x → x.1.log2 ≤ 1200 := fun x hx => by
      rw [hx] at hf
      split at hf
      · have := (readFraction_log hf).1
        rw [List.length_take] at this
        omega
      · split at hf
        · cases hf
          rw [show Nat.log2 1 = 0 by decide +kernel]; omega
        · have := (readFraction_log hf).1
          omega
    refine c_cut [.dat (.int sg), .dat (.lst (dN w)), .dat (dO2 fo), .dat (dO po), .no] ?_ ?_
    · refine c_if (et_test (ev_inN (c := 42) ev_i.r (ev_var rfl).r).r) (fun hb => ?_) (fun hb => ?_)
      · have h : 42 ∈ w := of_decide_eq_true hb
        rw [if_pos h] at hf hp
        refine q_asg (ev_indexN (c := 42) (ev_var rfl).r ev_i.r h) ?_
        refine q_asg (d := dO2 fo) (ev_call (ea_cons (ev_is (n_sl (lo := none) (ev_var rfl) .lst eo_none (eo_some (ev_var rfl).r)).ev (by rw [cut_dN_to])) ea_nil) ⟨w.take (w.idxOf 42), rfl, by rw [List.length_take]; omega, by rw [hf]⟩) ?_
        refine c_asg (d := dO po) (ev_call (ea_cons (ev_is (n_sl (hi := none) (ev_var rfl) .lst (eo_some (ev_opI (ev_var rfl).r ev_i.r).r) eo_none).ev (by
          show D.lst (cut (dN w) (some (((w.idxOf 42 + 1 : Nat)) : Int)) none) = _
          rw [cut_dN_from])) ea_nil) ⟨w.drop (w.idxOf 42 + 1), rfl, by rw [List.length_drop]; omega, by rw [hp]⟩) ?_
        exact c_at (le_eq rfl (le_eq rfl (le_eq rfl (le_eq rfl (le_no le_nil)))))
      · have h : ¬ 42 ∈ w := of_decide_eq_false hb
        rw [if_neg h] at hf hp
        refine c_if (et_test (ev_inN (c := 120) ev_i.r (ev_var rfl).r).r) (fun hb => ?_) (fun hb => ?_)
        · have hx : 120 ∈ w := of_decide_eq_true hb
          rw [if_pos hx] at hf hp
          refine c_asg (d := dO po) (ev_call (ea_cons (ev_var rfl) ea_nil) ⟨w, rfl, by omega, by rw [hp]⟩) ?_
          refine c_at (le_eq rfl (le_eq rfl (le_eq ?_ (le_eq rfl (le_no le_nil)))))
          rw [← hf]; rfl
        · have hx : ¬ 120 ∈ w := of_decide_eq_false hb
          rw [if_neg hx] at hf hp
          refine c_asg (d := dO2 fo) (ev_call (ea_cons (ev_var rfl) ea_nil) ⟨w, rfl, by omega, by rw [hf]⟩) ?_
          refine c_at (le_eq rfl (le_eq rfl (le_eq rfl (le_eq ?_ (le_no le_nil)))))
          rw [← hp]; rfl
    · cases fo with
      | none =>
        refine q_when (b := true) (et_or (b := true) (c := false) (et_is (et_B (ev_isN (ev_var rfl).r).r) rfl) fun z => by cases z) (fun _ => ?_) (fun z => by cases z)
        refine c_ret (ev_is ev_non ?_) k
        rw [e]; rfl
      | some fr =>
        cases po with
        | none =>
          refine q_when (b := true) (et_or (b := false) (c := true) (et_is (et_B (ev_isN (ev_var rfl).r).r) rfl) fun _ => et_is (et_B (ev_isN (ev_var rfl).r).r) rfl) (fun _ => ?_) (fun z => by cases z)
          refine c_ret (ev_is ev_non ?_) k
          rw [e]; rfl
        | some po =>
          refine q_when (b := false) (et_or (b := false) (c := false) (et_is (et_B (ev_isN (ev_var rfl).r).r) rfl) fun _ => et_is (et_B (ev_isN (ev_var rfl).r).r) rfl) (fun z => by cases z) (fun _ => ?_)
          have hl := hfl fr rfl
          refine c_ret (ev_is (ev_tup (ea_cons (ev_var rfl) (ea_cons (ev_mul (ev_var rfl).r (ev_ixT (k := 0) (ev_var rfl) ev_i.r rfl).r (mulW_of (a := 5) (b := 1200) ?_ (by rw [Int.natAbs_natCast]; exact hl) (by decide))) (ea_cons (ev_ixT (k := 1) (ev_var rfl) ev_i.r rfl) ea_nil))) (by show 3 ≤ 1000000; decide)) ?_) k
          · rcases hs with rfl | rfl <;> decide +kernel
          · rw [e]; rfl
abbrev s_powers_fall : Stmt := topS 36
abbrev nm_powers_fall : List Str := ["terms", "before", "behind"]
theorem sc_powers_fall : FnScope nm_powers_fall ["terms"] (defScope s_powers_fall) := ⟨rfl, rfl, rfl, by decide +kernel, rfl, by decide +kernel, by decide +kernel⟩
def R_powers_fall : List D → D → Prop := fun ds d => ∃ ts : List Sl.Tm, ds = [.lst (dTs ts)] ∧ ts.length ≤ 1000 ∧ d = .bl (Sl.falls ts)
theorem len_powers_fall {ds : List D} {d : D} (h : R_powers_fall ds d) : ds.length = 1 := by obtain ⟨a, rfl, _⟩ := h; rfl
def pFall : D → Bool
  | .tup [.tup (.int a :: _), .tup (.int b :: _)] => decide (b < a)
  | _ => false
theorem pFall_all : ∀ ts : List Sl.Tm, (((dTs ts).zip ((dTs ts).drop 1)).map fun x => pFall (pairD x.1 x.2)).all id = Sl.falls ts
  | [] => rfl
  | [a] => rfl
  | a :: b :: r => by
    have ih := pFall_all (b :: r)
    show (decide ((b.p : Int) < (a.p : Int)) && ((((dTs (b :: r)).zip ((dTs (b :: r)).drop 1)).map fun x => pFall (pairD x.1 x.2)).all id)) = (decide (b.p < a.p) && Sl.falls (b :: r))
    rw [ih]
    congr 1
    by_cases h : b.p < a.p
    · rw [decide_eq_true h, decide_eq_true (by omega)]
    · rw [decide_eq_false h, decide_eq_false (by omega)]
theorem zip_terms {ts : List Sl.Tm} {d : D} (h : d ∈ ((dTs ts).zip ((dTs ts).drop 1)).map fun x => pairD x.1 x.2) : ∃ a b : Sl.Tm, d = pairD (dT a) (dT b) := by
  obtain ⟨x, hx, rfl⟩ := List.mem_map.mp h
  have h1 := (List.of_mem_zip hx).1
  have h2 := List.mem_of_mem_drop (List.of_mem_zip hx).2
  obtain ⟨a, _, ea⟩ := List.mem_map.mp h1
  obtain ⟨b, _, eb⟩ := List.mem_map.mp h2
  exact ⟨a, b, by rw [ea, eb]⟩
theorem picked_all {p : D → Bool} {f : D → D} {ds : List D} (h : ∀ d ∈ ds, p d = true) : picked p f ds = ds.map f := by
  unfold picked
  rw [List.filter_eq_self.mpr h]
theorem ok_powers_fall {P : Program} {w : World} {K : PySem.W.Frag} {mg : Str → Option Value} {base : Heap} {f : Addr} {fd : FuncData} (T : Txt mg) (F : Fun K "powers_fall" "powers_fall" s_powers_fall f fd) : FnOk P w K mg base CX0 1 f fd ["terms"] (SpR K R_powers_fall) := by
  refine fn_ok F sc_powers_fall (by decide) (fun ds d h => ?_) (fun cdv A outer s H E hr => ?_)
  · exact len_powers_fall h
  · have hu65 := hu65_of hr
    refine ⟨_, (pss_one (ps_ret (pe_callB (cr_all rfl) (by rfl) T.b_all (by decide +kernel) (pa_cons (pe_lc (own := [("before", 1), ("behind", 2)]) rfl sc_powers_fall.nd (pi_zip (by rfl) T.b_zip (pa_cons (pv 0) (pa_cons (pe_slice sl_list (pv 0) (po_some pe_int) po_none) pa_nil))) (blkOk_by (own := [("before", 1), ("behind", 2)]) (N := nm_powers_fall) (sc := defScope s_powers_fall) (by decide +kernel)) (fun _ _ _ _ _ => by exact (by refine pg_tupK K 2 (t := gCons (gName 1) (gCons (gName 2) (gNil))) rfl ?_; exact (pgs_cons (pg_name (i := 1) sc_powers_fall.nd rfl (Or.inl rfl)) (pgs_cons (pg_name (i := 2) sc_powers_fall.nd rfl (Or.inl rfl)) pgs_nil)))) (fun _ _ _ _ _ => by exact pts_nil) (fun _ _ _ _ _ => by exact (pe_cmpR op_gt (pe_ix (ix_tupK K) (pv 1) pe_int (fun _ _ => rfl)) (pe_ix (ix_tupK K) (pv 2) pe_int (fun _ _ => rfl)) (nomark _)))) pa_nil)))), fun ds d hR G0 H0 Q Z k => ?_⟩
    obtain ⟨ts, rfl, hlen, rfl⟩ := hR
    refine c_ret (ev_is (ev_all (bs := ((dTs ts).zip ((dTs ts).drop 1)).map fun x => pFall (pairD x.1 x.2)) (ev_is (n_lc (it_zip (ev_var rfl) (ev_is (n_sl (hi := none) (ev_var rfl) .lst (eo_some ev_i.r) eo_none).ev (show D.lst (cut (dTs ts) (some ((1 : Nat) : Int)) none) = D.lst ((dTs ts).drop 1) by rw [cut_from])) .lst .lst) _ [1, 2] (fun d as => match d with
      | .tup [a, b] => (as.set 1 (.dat a)).set 2 (.dat b)
      | _ => as) (fun d hd => ?_) (by decide) (fun _ => true) (fun d => .bl (pFall d)) ?_ (fun d hd => et_yes) (fun d hd _ => ?_)).ev ?_).r) ?_) k
    · obtain ⟨a, b, rfl⟩ := zip_terms hd
      exact tg_tup2
    · rw [List.length_map, List.length_zip, dTs_len]; omega
    · obtain ⟨a, b, rfl⟩ := zip_terms hd
      refine ev_is (ev_opB (ev_ixT (k := 0) (ev_var (d := dT a) rfl) ev_i.r rfl).r (ev_ixT (k := 0) (ev_var (d := dT b) rfl) ev_i.r rfl).r) ?_
      rfl
    · rw [picked_all (fun _ _ => rfl), List.map_map]
      unfold dB
      rw [List.map_map]
      rfl
    · rw [pFall_all]
end Pg
set_option Elab.async false
set_option linter.all false
set_option maxRecDepth 100000
set_option maxHeartbeats 2000000
namespace Pg
open PySem PyProof.Rows L2 Fw
abbrev s_split_at_signs : Stmt := topS 31
abbrev nm_split_at_signs : List Str := ["text", "pieces", "sign", "piece", "byte"]
theorem sc_split_at_signs : FnScope nm_split_at_signs ["text"] (defScope s_split_at_signs) := ⟨rfl, rfl, rfl, by decide +kernel, rfl, by decide +kernel, by decide +kernel⟩
abbrev SpS := List (Int × List Nat) × Int × List Nat
def stepS (x : SpS) (b : Nat) : SpS := if b = 43 ∨ b = 45 then (x.1 ++ [(x.2.1, x.2.2)], (if b = 43 then 1 else -1), []) else if b = 32 then x else (x.1, x.2.1, x.2.2 ++ [b])
def runS (t : List Nat) : SpS := t.foldl stepS ([], 1, [])
theorem goS : ∀ (t : List Nat) (x : SpS), (t.foldl stepS x).1 ++ [((t.foldl stepS x).2.1, (t.foldl stepS x).2.2)] = x.1 ++ Sl.splitGo t x.2.1 x.2.2
  | [], x => rfl
  | b :: t, x => by
    rw [List.foldl_cons, goS t (stepS x b)]
    unfold stepS
    rw [Sl.splitGo]
    split
    · simp
    · split
      · rfl
      · rfl
theorem runS_all (t : List Nat) : (runS t).1 ++ [((runS t).2.1, (runS t).2.2)] = Sl.splitGo t 1 [] := goS t ([], 1, [])
theorem runS_more (t : List Nat) (b : Nat) : runS (t ++ [b]) = stepS (runS t) b := by unfold runS; rw [List.foldl_append]; rfl
theorem foldS_len : ∀ (t : List Nat) (x : SpS), (t.foldl stepS x).1.length + (t.foldl stepS x).2.2.length ≤ x.1.length + x.2.2.length + t.length
  | [], x => Nat.le_refl _
  | b :: t, x => by
    rw [List.foldl_cons, List.length_cons]
    have := foldS_len t (stepS x b)
    have h : (stepS x b).1.length + (stepS x b).2.2.length ≤ x.1.length + x.2.2.length + 1 := by
      unfold stepS
      split
      · simp
      · split
        · omega
        · simp; omega
    omega
theorem runS_len (t : List Nat) : (runS t).1.length + (runS t).2.2.length ≤ t.length := by
  have := foldS_len t ([], 1, [])
  unfold runS
  simpa using this
/-- each piece: a sign, and no longer than the text -/
theorem foldS_ok (m : Nat) : ∀ (t : List Nat) (x : SpS), (∀ y ∈ x.1, (y.1 = 1 ∨ y.1 = -1) ∧ y.2.length ≤ m) → (x.2.1 = 1 ∨ x.2.1 = -1) → x.2.2.length + t.length ≤ m →
    (∀ y ∈ (t.foldl stepS x).1, (y.1 = 1 ∨ y.1 = -1) ∧ y.2.length ≤ m) ∧ ((t.foldl stepS x).2.1 = 1 ∨ (t.foldl stepS x).2.1 = -1) ∧ (t.foldl stepS x).2.2.length ≤ m
  | [], x, h1, h2, h3 => ⟨h1, h2, by simpa using h3⟩
  | b :: t, x, h1, h2, h3 => by
    rw [List.foldl_cons]
    rw [List.length_cons] at h3
    refine foldS_ok m t (stepS x b) ?_ ?_ ?_
    · unfold stepS
      split
      · intro y hy
        rcases List.mem_append.mp hy with hy | hy
        · exact h1 y hy
        · rw [List.mem_singleton] at hy
          subst hy
          exact ⟨h2, by show x.2.2.length ≤ m; omega⟩
      · split
        · exact h1
        · exact h1
    · unfold stepS
      split
      · show (if b = 43 then (1 : Int) else -1) = 1 ∨ (if b = 43 then (1 : Int) else -1) = -1
        split <;> simp
      · split
        · exact h2
        · exact h2
    · unfold stepS
      split
      · simp; omega
      · split
        · omega
        · simp; omega
theorem split_ok {t : List Nat} {y : Int × List Nat} (h : y ∈ Sl.splitSigns t) : (y.1 = 1 ∨ y.1 = -1) ∧ y.2.length ≤ t.length := by
  have k := foldS_ok t.length t ([], 1, []) (fun y hy => by cases hy) (Or.inl rfl) (by simp)
  have all : ∀ y ∈ Sl.splitGo t 1 [], (y.1 = 1 ∨ y.1 = -1) ∧ y.2.length ≤ t.length := by
    intro y hy
    rw [← runS_all] at hy
    rcases List.mem_append.mp hy with hy | hy
    · exact k.1 y hy
    · rw [List.mem_singleton] at hy
      subst hy
      exact k.2
  unfold Sl.splitSigns at h
  split at h
  · exact all y (List.mem_of_mem_tail h)
  · exact all y h
theorem split_len (t : List Nat) : (Sl.splitSigns t).length ≤ t.length + 1 := by
  have h := runS_len t
  have e : (Sl.splitGo t 1 []).length ≤ t.length + 1 := by
    rw [← runS_all, List.length_append]
    simp; omega
  unfold Sl.splitSigns
  split
  · rw [List.length_tail]; omega
  · exact e
def dP (x : Int × List Nat) : D := .tup [.int x.1, .lst (dN x.2)]
def R_split_at_signs : List D → D → Prop := fun ds d => ∃ t : List Nat, ds = [.inp (dN t)] ∧ t.length ≤ 1000 ∧ d = .lst ((Sl.splitSigns t).map dP)
theorem len_split_at_signs {ds : List D} {d : D} (h : R_split_at_signs ds d) : ds.length = 1 := by obtain ⟨a, rfl, _⟩ := h; rfl
theorem ok_split_at_signs {P : Program} {w : World} {K : PySem.W.Frag} {mg : Str → Option Value} {base : Heap} {f : Addr} {fd : FuncData} (T : Txt mg) (n_MINUS : Num mg "MINUS" (45)) (n_PLUS : Num mg "PLUS" (43)) (n_BLANK : Num mg "BLANK" (32)) (F : Fun K "split_at_signs" "split_at_signs" s_split_at_signs f fd) : FnOk P w K mg base CX0 1 f fd ["text"] (SpR K R_split_at_signs) := by
  obtain ⟨t_MINUS, m_MINUS⟩ := n_MINUS
  obtain ⟨t_PLUS, m_PLUS⟩ := n_PLUS
  obtain ⟨t_BLANK, m_BLANK⟩ := n_BLANK
  refine fn_ok F sc_split_at_signs (by decide) (fun ds d h => ?_) (fun cdv A outer s H E hr => ?_)
  · exact len_split_at_signs h
  · have hu65 := hu65_of hr
    refine ⟨_, (pss_cons (ps_set (i := 1) sc_split_at_signs.nd rfl (Or.inl rfl) (pe_lst pa_nil))
      (pss_cons (ps_set (i := 2) sc_split_at_signs.nd rfl (Or.inl rfl) pe_int)
      (pss_cons (ps_set (i := 3) sc_split_at_signs.nd rfl (Or.inl rfl) (pe_lst pa_nil))
      (pss_cons (ps_for PassesOwn.never rfl (pi_list (pv 0)) (pg_name (i := 4) sc_split_at_signs.nd rfl (Or.inl rfl)) (pss_one (ps_if ((pw_or (pt_cmpR op_eq (pv 4) (pe_glob (v := .int (43)) (by rfl) m_PLUS ⟨_, rfl⟩) (nomark _)) (pw_or1 (pt_cmpR op_eq (pv 4) (pe_glob (v := .int (45)) (by rfl) m_MINUS ⟨_, rfl⟩) (nomark _))))).pt (pss_cons (ps_expr (pe_bm PySem.F.plainAttrs_list PySem.F.slot_list_append PySem.F.type_list_append mt_append (pv 1) (pa_cons (pe_tup (pa_cons (pv 2) (pa_cons (pv 3) pa_nil))) pa_nil)))
      (pss_cons (ps_set (i := 2) sc_split_at_signs.nd rfl (Or.inl rfl) (pe_ifExp (pt_cmpR op_eq (pv 4) (pe_glob (v := .int (43)) (by rfl) m_PLUS ⟨_, rfl⟩) (nomark _)) pe_int (pe_un un_neg pe_int)))
      (pss_one (ps_set (i := 3) sc_split_at_signs.nd rfl (Or.inl rfl) (pe_lst pa_nil))))) (pss_one (ps_if (pt_cmpR op_ne (pv 4) (pe_glob (v := .int (32)) (by rfl) m_BLANK ⟨_, rfl⟩) (nomark _)) (pss_one (ps_expr (pe_bm PySem.F.plainAttrs_list PySem.F.slot_list_append PySem.F.type_list_append mt_append (pv 3) (pa_cons (pv 4) pa_nil)))) pss_nil)))))
      (pss_cons (ps_expr (pe_bm PySem.F.plainAttrs_list PySem.F.slot_list_append PySem.F.type_list_append mt_append (pv 1) (pa_cons (pe_tup (pa_cons (pv 2) (pa_cons (pv 3) pa_nil))) pa_nil)))
      (pss_cons (ps_if (pt_cmpR (op_eqD hr.units) (pe_ix ix_tup (pe_ix ix_list (pv 1) pe_int (fun _ _ => rfl)) pe_int (fun _ _ => rfl)) (pe_lst pa_nil) (nomark _)) (pss_one (ps_ret (pe_slice sl_list (pv 1) (po_some pe_int) po_none))) pss_nil)
      (pss_one (ps_ret (pv 1))))))))), fun ds d hR G0 H0 Q Z k => ?_⟩
    obtain ⟨t, rfl, ht, rfl⟩ := hR
    refine q_new (n_lst ea_nil (by decide)) ?_
    refine q_asg ev_i ?_
    refine q_new (n_lst ea_nil (by decide)) ?_
    refine q_for (it_list (ev_var rfl) .inp) (fun i => [.dat (.inp (dN t)), .mu ((runS (t.take i)).1.map dP), .dat (.int (runS (t.take i)).2.1), .mu (dN (runS (t.take i)).2.2), .no]) [4] (fun d as => as.set 4 (.dat d)) (fun d _ => tg_name) (le_refl _) (fun B C sub i d hd => ?_) ?_
    · have hd' := hd
      unfold dN at hd'
      rw [List.getElem?_map] at hd'
      obtain ⟨b, hb', rfl⟩ : ∃ b, t[i]? = some b ∧ D.int (b : Int) = d := by
        cases e : t[i]? with
        | none => rw [e] at hd'; cases hd'
        | some t => rw [e] at hd'; exact ⟨t, rfl, Option.some.inj hd'⟩
      have htk : t.take (i + 1) = t.take i ++ [b] := by rw [List.take_add_one, hb']; rfl
      have hlen := runS_len (t.take i)
      rw [List.length_take] at hlen
      have hmo := runS_more (t.take i) b
      rw [← htk] at hmo
      rw [hmo]
      generalize runS (t.take i) = x at *
      have c1 : decide ((b : Int) = 43) = decide (b = 43) := by
        by_cases h : b = 43
        · subst h; rfl
        · rw [decide_eq_false h, decide_eq_false (by omega)]
      have c2 : decide ((b : Int) = 45) = decide (b = 45) := by
        by_cases h : b = 45
        · subst h; rfl
        · rw [decide_eq_false h, decide_eq_false (by omega)]
      have c3 : decide ((b : Int) = 32) = decide (b = 32) := by
        by_cases h : b = 32
        · subst h; rfl
        · rw [decide_eq_false h, decide_eq_false (by omega)]
      show Co K B C [.dat (.inp (dN t)), .mu (x.1.map dP), .dat (.int x.2.1), .mu (dN x.2.2), .dat (.int b)] _
      refine c_if (et_or (et_test (ev_eqI (ev_var rfl).r ev_i.r).r) fun _ => et_test (ev_eqI (ev_var rfl).r ev_i.r).r) (fun q => ?_) (fun q => ?_)
      · have h : b = 43 ∨ b = 45 := by
          rw [c1, c2, Bool.or_eq_true] at q
          rcases q with q | q
          · exact .inl (of_decide_eq_true q)
          · exact .inr (of_decide_eq_true q)
        unfold stepS
        rw [if_pos h]
        refine c_frz (n := 3) rfl ?_
        refine q_app rfl (ev_tup (ea_cons (ev_var rfl) (ea_cons (ev_var rfl) ea_nil)) (by show 2 ≤ 1000000; decide)) (by rw [List.length_map]; omega) ?_
        refine q_asg (ev_if (d := .int (if b = 43 then 1 else -1)) (et_test (ev_eqI (ev_var rfl).r ev_i.r).r) (fun q => ev_is ev_i ?_) (fun q => ev_is (ev_neg ev_i.r) ?_)) ?_
        · rw [c1] at q
          rw [if_pos (of_decide_eq_true q)]
        · rw [c1] at q
          rw [if_neg (of_decide_eq_false q)]
        · refine c_new (n_lst ea_nil (by decide)) ?_
          refine c_at (le_eq rfl (le_eq ?_ (le_eq rfl (le_eq rfl (le_no le_nil)))))
          show AS.mu ((x.1 ++ [(x.2.1, x.2.2)]).map dP) = _
          rw [List.map_append]
          rfl
      · have h : ¬ (b = 43 ∨ b = 45) := by
          rw [c1, c2, Bool.or_eq_false_iff] at q
          have h1 := of_decide_eq_false q.1
          have h2 := of_decide_eq_false q.2
          omega
        unfold stepS
        rw [if_neg h]
        refine c_if (et_test (ev_neI (ev_var rfl).r ev_i.r).r) (fun q => ?_) (fun q => ?_)
        · have h3 : ¬ b = 32 := by
            intro z
            rw [c3, decide_eq_true z] at q
            exact absurd q (by decide)
          rw [if_neg h3]
          refine c_app rfl (ev_var rfl) (by rw [dN_len]; omega) ?_
          refine c_at (le_eq rfl (le_eq rfl (le_eq rfl (le_eq ?_ (le_no le_nil)))))
          show AS.mu (dN (x.2.2 ++ [b])) = _
          rw [dN_append]
          rfl
        · have h3 : b = 32 := by
            rw [c3] at q
            cases e : decide (b = 32) with
            | true => exact of_decide_eq_true e
            | false => rw [e] at q; cases q
          rw [if_pos h3]
          exact c_at (le_eq rfl (le_eq rfl (le_eq rfl (le_eq rfl (le_no le_nil)))))
    · rw [dN_len, List.take_length]
      have hlen := runS_len t
      refine c_frz (n := 3) rfl ?_
      refine q_app rfl (ev_tup (ea_cons (ev_var rfl) (ea_cons (ev_var rfl) ea_nil)) (by show 2 ≤ 1000000; decide)) (by rw [List.length_map]; omega) ?_
      refine c_frz (n := 1) rfl ?_
      have e : (runS t).1.map dP ++ [dP ((runS t).2.1, (runS t).2.2)] = (Sl.splitGo t 1 []).map dP := by
        rw [← runS_all, List.map_append]; rfl
      refine c_less (bs := [.no, .dat (.lst ((Sl.splitGo t 1 []).map dP)), .no, .no, .no]) (le_no (le_eq ?_ (le_no (le_no (le_no le_nil))))) ?_
      · rw [← e]; rfl
      · obtain ⟨y, r, er⟩ : ∃ y r, Sl.splitGo t 1 [] = y :: r := by
          cases h : Sl.splitGo t 1 [] with
          | nil => rw [← runS_all] at h; simp at h
          | cons y r => exact ⟨y, r, rfl⟩
        have es : Sl.splitSigns t = if y.2 = [] then r else y :: r := by
          unfold Sl.splitSigns
          rw [er]; rfl
        rw [er]
        refine q_when (et_test (ev_eqD (ev_ixT (k := 1) (ds := [.int y.1, .lst (dN y.2)]) (ev_ix (k := 0) (ev_var rfl) .lst ev_i.r rfl) ev_i.r rfl).r (n_lst ea_nil (by decide)).ev.r (sh_dN _) sh_nil).r) (fun q => ?_) (fun q => ?_)
        · rw [eqD_nil] at q
          have h : y.2 = [] := List.map_eq_nil_iff.mp (of_decide_eq_true q)
          refine c_ret (ev_is (n_sl (hi := none) (ev_var rfl) .lst (eo_some ev_i.r) eo_none).ev ?_) k
          show D.lst (cut ((y :: r).map dP) (some ((1 : Nat) : Int)) none) = _
          rw [cut_from, es, if_pos h]
          rfl
        · rw [eqD_nil] at q
          have h : ¬ y.2 = [] := fun z => of_decide_eq_false q (by rw [z]; rfl)
          refine c_ret (ev_is (ev_var rfl) ?_) k
          rw [es, if_neg h]
end Pg
set_option Elab.async false
set_option linter.all false
set_option maxRecDepth 100000
set_option maxHeartbeats 2000000
namespace Pg
open PySem PyProof.Rows L2 Fw
abbrev s_read_polynomial : Stmt := topS 29
abbrev nm_read_polynomial : List Str := ["text", "terms", "kept", "sign", "piece", "term"]
theorem sc_read_polynomial : FnScope nm_read_polynomial ["text"] (defScope s_read_polynomial) := ⟨rfl, rfl, rfl, by decide +kernel, rfl, by decide +kernel, by decide +kernel⟩
def toN : D → Nat
  | .int i => i.toNat
  | _ => 0
theorem toN_dN (w : List Nat) : (dN w).map toN = w := by
  unfold dN
  rw [List.map_map]
  have := List.map_congr_left (f := toN ∘ fun (b : Nat) => D.int (b : Int)) (g := id) (l := w) fun b _ => by
    show (b : Int).toNat = b
    omega
  rw [this]; simp
def fR : D → D
  | .tup [.int s, .lst l] => dOT (Sl.readTerm s (l.map toN))
  | d => d
theorem fR_dP (y : Int × List Nat) : fR (dP y) = dOT (Sl.readTerm y.1 y.2) := by
  show dOT (Sl.readTerm y.1 ((dN y.2).map toN)) = _
  rw [toN_dN]
def fL : D → D
  | .tup [.int p, .int n, .int m] => .tup [.int p, .int (n.fdiv (lowG n m)), .int (m.fdiv (lowG n m))]
  | d => d
def nzD : D → Bool
  | .tup [_, .int n, _] => !decide (n = 0)
  | _ => false
/-- what is read has numbers of the text's length -/
structure Bdt (m : Nat) (t : Sl.Tm) : Prop where
  p : t.p.log2 ≤ m
  n : t.n.natAbs.log2 ≤ m
  d : t.d.log2 ≤ m
theorem readTerm_log {s : Int} {w : List Nat} {t : Sl.Tm} (hs : s = 1 ∨ s = -1) (h : Sl.readTerm s w = some t) : Bdt (4 * w.length) t := by
  rw [readTerm_of] at h
  unfold termOf at h
  split at h
  · rename_i f p e1 e2
    cases h
    have hf : f.1.log2 ≤ 4 * w.length ∧ f.2.log2 ≤ 4 * w.length := by
      split at e1
      · have := readFraction_log e1
        rw [List.length_take] at this
        omega
      · split at e1
        · cases e1
          rw [show Nat.log2 1 = 0 by decide +kernel]; omega
        · exact readFraction_log e1
    refine ⟨?_, ?_, hf.2⟩
    · show p.log2 ≤ _
      split at e2
      · have := readPower_log e2
        rw [List.length_drop] at this
        omega
      · split at e2
        · exact readPower_log e2
        · cases e2
          rw [show Nat.log2 0 = 0 by decide +kernel]; omega
    · show (s * (f.1 : Int)).natAbs.log2 ≤ _
      rcases hs with rfl | rfl
      · rw [Int.one_mul, Int.natAbs_natCast]; exact hf.1
      · rw [Int.neg_mul, Int.one_mul, Int.natAbs_neg, Int.natAbs_natCast]; exact hf.1
  · cases h
theorem log2_mono {a b : Nat} (h : a ≤ b) : a.log2 ≤ b.log2 := by
  by_cases z : a = 0
  · rw [z]; simp
  · exact (Nat.le_log2 (by omega)).mpr (Nat.le_trans (Nat.log2_self_le z) h)
theorem lowest_bd {m : Nat} {t : Sl.Tm} (h : Bdt m t) : Bdt m (Sl.lowest t) := by
  refine ⟨h.p, Nat.le_trans (log2_mono ?_) h.n, Nat.le_trans (log2_mono (Nat.div_le_self _ _)) h.d⟩
  show (t.n / ((Nat.gcd t.n.natAbs t.d : Nat) : Int)).natAbs ≤ t.n.natAbs
  have gi : ((Nat.gcd t.n.natAbs t.d : Nat) : Int) ∣ t.n := Int.ofNat_dvd_left.mpr (Nat.gcd_dvd_left _ _)
  rw [Int.natAbs_ediv_of_dvd gi, Int.natAbs_natCast]
  exact Nat.div_le_self _ _
theorem wRest_len {m : Nat} : ∀ l : List Sl.Tm, (∀ t ∈ l, Bdt m t) → (Sl.wRest l).length ≤ l.length * (3 * m + 10)
  | [], _ => by simp [Sl.wRest]
  | t :: l, h => by
    have ih := wRest_len l fun s hs => h s (List.mem_cons_of_mem _ hs)
    have ht := h t (List.mem_cons_self ..)
    have h1 := wTerm_len t.p t.n.natAbs t.d
    have h2 := ht.p
    have h3 := ht.n
    have h4 := ht.d
    have e : Sl.wRest (t :: l) = (32 :: (if t.n < 0 then 45 else 43) :: 32 :: Sl.wTerm t.p t.n.natAbs t.d) ++ Sl.wRest l := rfl
    rw [e, List.length_append, List.length_cons, List.length_cons, List.length_cons, List.length_cons, Nat.add_mul]
    omega
theorem write_len {m : Nat} {l : List Sl.Tm} (h : ∀ t ∈ l, Bdt m t) : (Sl.write l).length ≤ l.length * (3 * m + 10) + 1 := by
  cases l with
  | nil => simp [Sl.write]
  | cons t l =>
    have ih := wRest_len l fun s hs => h s (List.mem_cons_of_mem _ hs)
    have ht := h t (List.mem_cons_self ..)
    have h1 := wTerm_len t.p t.n.natAbs t.d
    have h2 := ht.p
    have h3 := ht.n
    have h4 := ht.d
    show ((if t.n < 0 then [45] else []) ++ Sl.wTerm t.p t.n.natAbs t.d ++ Sl.wRest l).length ≤ _
    rw [List.length_append, List.length_append, List.length_cons, Nat.add_mul]
    have : (if t.n < 0 then [45] else [] : List Nat).length ≤ 1 := by split <;> simp
    omega
theorem mapM_none {α β : Type} {f : α → Option β} : ∀ {l : List α}, l.mapM f = none → ∃ x ∈ l, f x = none
  | [], h => by simp at h
  | x :: l, h => by
    rw [List.mapM_cons] at h
    cases e : f x with
    | none => exact ⟨x, List.mem_cons_self .., e⟩
    | some z =>
      rw [e] at h
      cases e2 : l.mapM f with
      | none =>
        obtain ⟨y, hy, ey⟩ := mapM_none e2
        exact ⟨y, List.mem_cons_of_mem _ hy, ey⟩
      | some r => rw [e2] at h; cases h
theorem mapM_map {α β : Type} {f : α → Option β} : ∀ {l : List α} {m : List β}, l.mapM f = some m → l.map f = m.map some
  | [], m, h => by
    have : m = [] := by simpa using h.symm
    subst this; rfl
  | x :: l, m, h => by
    rw [List.mapM_cons] at h
    cases e : f x with
    | none => rw [e] at h; cases h
    | some z =>
      rw [e] at h
      cases e2 : l.mapM f with
      | none => rw [e2] at h; cases h
      | some r =>
        rw [e2] at h
        have : m = z :: r := by simpa using h.symm
        subst this
        rw [List.map_cons, List.map_cons, e, mapM_map e2]
theorem any_none {α : Type} (f : α → Option Sl.Tm) : ∀ l : List α, ((toPys (l.map fun x => dOT (f x))).any fun z => PyData.eqv z (toPy .non)) = l.any fun x => (f x).isNone
  | [] => rfl
  | x :: l => by
    show (PyData.eqv (toPy (dOT (f x))) .none || ((toPys (l.map fun x => dOT (f x))).any fun z => PyData.eqv z (toPy .non))) = _
    rw [any_none f l]
    show _ = ((f x).isNone || l.any fun x => (f x).isNone)
    congr 1
    cases f x <;> rfl
def dOTs (o : Option (List Sl.Tm)) : D := match o with
  | none => .non
  | some l => .lst (dTs l)
theorem dOT_dep (o : Option Sl.Tm) : Dep 1 (dOT o) := by
  cases o with
  | none => exact dep_non 1
  | some t => exact dT_dep t
def R_read_polynomial : List D → D → Prop := fun ds d => ∃ t : List Nat, ds = [.inp (dN t)] ∧ t.length ≤ 200 ∧ d = dOTs (Sl.read t)
theorem len_read_polynomial {ds : List D} {d : D} (h : R_read_polynomial ds d) : ds.length = 1 := by obtain ⟨a, rfl, _⟩ := h; rfl
theorem ok_read_polynomial {P : Program} {w : World} {K : PySem.W.Frag} {mg : Str → Option Value} {base : Heap} {f : Addr} {fd : FuncData} (T : Txt mg) (c_split_at_signs : Cal P w K mg base 1 "split_at_signs" ["text"] R_split_at_signs) (c_read_term : Cal P w K mg base 3 "read_term" ["sign", "piece"] R_read_term) (c_powers_fall : Cal P w K mg base 1 "powers_fall" ["terms"] R_powers_fall) (c_lowest_term : Cal P w K mg base 2 "lowest_term" ["term"] R_lowest_term) (c_write_polynomial : Cal P w K mg base 4 "write_polynomial" ["terms"] R_write_polynomial) (F : Fun K "read_polynomial" "read_polynomial" s_read_polynomial f fd) : FnOk P w K mg base CX0 5 f fd ["text"] (SpR K R_read_polynomial) := by
  obtain ⟨f_split_at_signs, fd_split_at_signs, G_split_at_signs, m_split_at_signs, k_split_at_signs, b_split_at_signs⟩ := c_split_at_signs.ex
  obtain ⟨f_read_term, fd_read_term, G_read_term, m_read_term, k_read_term, b_read_term⟩ := c_read_term.ex
  obtain ⟨f_powers_fall, fd_powers_fall, G_powers_fall, m_powers_fall, k_powers_fall, b_powers_fall⟩ := c_powers_fall.ex
  obtain ⟨f_lowest_term, fd_lowest_term, G_lowest_term, m_lowest_term, k_lowest_term, b_lowest_term⟩ := c_lowest_term.ex
  obtain ⟨f_write_polynomial, fd_write_polynomial, G_write_polynomial, m_write_polynomial, k_write_polynomial, b_write_polynomial⟩ := c_write_polynomial.ex
  refine fn_ok F sc_read_polynomial (by decide) (fun ds d h => ?_) (fun cdv A outer s H E hr => ?_)
  · exact len_read_polynomial h
  · have hu65 := hu65_of hr
    refine ⟨_, (pss_cons (ps_setLc (i := 1) (own := [("sign", 3), ("piece", 4)]) rfl sc_read_polynomial.nd rfl rfl (sw_true rfl rfl rfl (by decide +kernel)) (pi_list (pe_call G_split_at_signs (hr.mono (by decide)) (by rfl) m_split_at_signs k_split_at_signs b_split_at_signs .nil pass0 (pa_cons (pv 0) pa_nil))) (blkOk_by (own := [("sign", 3), ("piece", 4)]) (N := nm_read_polynomial) (sc := defScope s_read_polynomial) (by decide +kernel)) (fun _ _ _ _ _ => by exact (by refine pg_tupK K 2 (t := gCons (gName 3) (gCons (gName 4) (gNil))) rfl ?_; exact (pgs_cons (pg_name (i := 3) sc_read_polynomial.nd rfl (Or.inl rfl)) (pgs_cons (pg_name (i := 4) sc_read_polynomial.nd rfl (Or.inl rfl)) pgs_nil)))) (fun _ _ _ _ _ => by exact pts_nil) (fun _ _ _ _ _ => by exact (pe_call G_read_term (hr.mono (by decide)) (by rfl) m_read_term k_read_term b_read_term .nil pass0 (pa_cons (pv 3) (pa_cons (pv 4) pa_nil)))))
      (pss_cons (ps_if ((pw_or (pt_cmpR (op_inD hu65) pe_non (pv 1) (by with_unfolding_all rfl)) (pw_or1 (pt_not (pt_val (pe_call G_powers_fall (hr.mono (by decide)) (by rfl) m_powers_fall k_powers_fall b_powers_fall .nil pass0 (pa_cons (pv 1) pa_nil))))))).pt (pss_one (ps_ret pe_non)) pss_nil)
      (pss_cons (ps_setLc (i := 2) (own := [("term", 5)]) rfl sc_read_polynomial.nd rfl rfl (sw_true rfl rfl rfl (by decide +kernel)) (pi_list (pv 1)) (blkOk_by (own := [("term", 5)]) (N := nm_read_polynomial) (sc := defScope s_read_polynomial) (by decide +kernel)) (fun _ _ _ _ _ => by exact (pg_name (i := 5) sc_read_polynomial.nd rfl (Or.inl rfl))) (fun _ _ _ _ _ => by exact (pts_one (pt_cmpR op_ne (pe_ix (ix_tupK K) (pv 5) pe_int (fun _ _ => rfl)) pe_int (nomark _)))) (fun _ _ _ _ _ => by exact (pe_call G_lowest_term (hr.mono (by decide)) (by rfl) m_lowest_term k_lowest_term b_lowest_term .nil pass0 (pa_cons (pv 5) pa_nil))))
      (pss_cons (ps_if (pt_cmpR (op_neD hr.units) (pe_call G_write_polynomial (hr.mono (by decide)) (by rfl) m_write_polynomial k_write_polynomial b_write_polynomial .nil pass0 (pa_cons (pv 2) pa_nil)) (pv 0) (nomark _)) (pss_one (ps_ret pe_non)) pss_nil)
      (pss_one (ps_ret (pv 2))))))), fun ds d hR G0 H0 Q Z k => ?_⟩
    obtain ⟨t, rfl, ht, rfl⟩ := hR
    have hsl := split_len t
    have hso := fun y (hy : y ∈ Sl.splitSigns t) => split_ok hy
    refine q_asg (d := .lst ((Sl.splitSigns t).map fun y => dOT (Sl.readTerm y.1 y.2))) (ev_is (n_lc (it_list (ev_call (ea_cons (ev_var rfl) ea_nil) ⟨t, rfl, by omega, rfl⟩) .lst) _ [3, 4] (fun d as => match d with
      | .tup [a, b] => (as.set 3 (.dat a)).set 4 (.dat b)
      | _ => as) (fun d hd => ?_) (by decide) (fun _ => true) fR (by rw [List.length_map]; omega) (fun d hd => et_yes) (fun d hd _ => ?_)).ev ?_) ?_
    · obtain ⟨y, _, rfl⟩ := List.mem_map.mp hd
      exact tg_tup2
    · obtain ⟨y, hy, rfl⟩ := List.mem_map.mp hd
      have h := hso y hy
      exact ev_call (ea_cons (ev_var rfl) (ea_cons (ev_var rfl) ea_nil)) ⟨y.1, y.2, rfl, h.1, by omega, fR_dP y⟩
    · rw [picked_all (fun _ _ => rfl), List.map_map]
      congr 1
      exact List.map_congr_left fun y _ => fR_dP y
    · have hin := any_none (fun y : Int × List Nat => Sl.readTerm y.1 y.2) (Sl.splitSigns t)
      have hsh : Sh (.lst ((Sl.splitSigns t).map fun y => dOT (Sl.readTerm y.1 y.2))) := sh_of (n := 2) (dep_lst fun d hd => by
        obtain ⟨y, _, rfl⟩ := List.mem_map.mp hd
        exact dOT_dep _) (by decide)
      cases ea : Sl.readAll t with
      | none =>
        have hany : ((Sl.splitSigns t).any fun y => (Sl.readTerm y.1 y.2).isNone) = true := by
          obtain ⟨y, hy, ey⟩ := mapM_none (f := fun x : Int × List Nat => Sl.readTerm x.1 x.2) ea
          rw [List.any_eq_true]
          exact ⟨y, hy, by rw [ey]; rfl⟩
        refine q_when (b := true) (et_or (b := true) (c := false) (et_is (et_test (ev_inD ev_non.r (ev_var rfl).r sh_non hsh).r) (hin.trans hany)) fun z => by cases z) (fun _ => ?_) (fun z => by cases z)
        refine c_ret (ev_is ev_non ?_) k
        unfold Sl.read
        rw [ea]; rfl
      | some l =>
        have hany : ((Sl.splitSigns t).any fun y => (Sl.readTerm y.1 y.2).isNone) = false := by
          rw [List.any_eq_false]
          intro y hy z
          have hm := mapM_map (f := fun x : Int × List Nat => Sl.readTerm x.1 x.2) ea
          have h1 : Sl.readTerm y.1 y.2 ∈ l.map some := by
            rw [← hm]
            exact List.mem_map.mpr ⟨y, hy, rfl⟩
          obtain ⟨u, _, eu⟩ := List.mem_map.mp h1
          rw [← eu] at z
          cases z
        have hterms : ((Sl.splitSigns t).map fun y => dOT (Sl.readTerm y.1 y.2)) = dTs l := by
          have hm := mapM_map (f := fun x : Int × List Nat => Sl.readTerm x.1 x.2) ea
          have := congrArg (List.map dOT) hm
          rw [List.map_map, List.map_map] at this
          exact this
        have hbd : ∀ x ∈ l, Bdt 800 x ∧ 0 < x.d := fun x hx => by
          obtain ⟨y, hy, ey⟩ := Sl.mapM_mem (f := fun x : Int × List Nat => Sl.readTerm x.1 x.2) ea x hx
          have h := hso y hy
          have hb := readTerm_log h.1 ey
          have h1 := hb.p
          have h2 := hb.n
          have h3 := hb.d
          exact ⟨⟨by omega, by omega, by omega⟩, Sl.readTerm_d ey⟩
        have hll : l.length ≤ 201 := by
          have hm := congrArg List.length (mapM_map (f := fun x : Int × List Nat => Sl.readTerm x.1 x.2) ea)
          rw [List.length_map, List.length_map] at hm
          omega
        have eread : Sl.read t = if Sl.falls l = false then none else if Sl.write (Sl.keptOf l) ≠ t then none else some (Sl.keptOf l) := by
          unfold Sl.read
          rw [ea]
        rw [hterms] at hin hsh ⊢
        refine q_when (et_or (b := false) (et_is (et_test (ev_inD ev_non.r (ev_var rfl).r sh_non hsh).r) (hin.trans hany)) fun _ => et_not (et_B (ev_call (ea_cons (ev_var rfl) ea_nil) ⟨l, rfl, by omega, rfl⟩).r)) (fun q => ?_) (fun q => ?_)
        · have hf : Sl.falls l = false := by
            cases h : Sl.falls l with
            | false => rfl
            | true => rw [h] at q; cases q
          refine c_ret (ev_is ev_non ?_) k
          rw [eread, if_pos hf]; rfl
        · have hf : ¬ Sl.falls l = false := fun h => by rw [h] at q; cases q
          rw [if_neg hf] at eread
          refine q_asg (d := .lst (dTs (Sl.keptOf l))) (ev_is (n_lc (it_list (ev_var rfl) .lst) _ [5] (fun d as => as.set 5 (.dat d)) (fun d hd => tg_name) (by decide) nzD fL (by rw [dTs_len]; omega) (fun d hd => ?_) (fun d hd _ => ?_)).ev ?_) ?_
          · obtain ⟨x, _, rfl⟩ := List.mem_map.mp hd
            exact et_test (ev_neI (ev_ixT (k := 1) (ev_var (d := dT x) rfl) ev_i.r rfl).r ev_i.r).r
          · obtain ⟨x, hx, rfl⟩ := List.mem_map.mp hd
            have h := hbd x hx
            have h1 := h.1.d
            exact ev_call (ea_cons (ev_var rfl) ea_nil) ⟨x.p, x.n, x.d, rfl, by omega, by rw [Int.natAbs_natCast]; omega, rfl⟩
          · unfold picked dTs Sl.keptOf
            rw [List.filter_map, List.map_map, List.map_map]
            congr 1
            have e1 : l.filter (nzD ∘ dT) = l.filter fun t => decide (t.n ≠ 0) := by
              congr 1
              funext x
              show (!decide (x.n = 0)) = decide (x.n ≠ 0)
              rw [decide_not]
            rw [e1]
            refine List.map_congr_left fun x hx => ?_
            exact low_nat (hbd x (List.mem_filter.mp hx).1).2
          · have hkb : ∀ x ∈ Sl.keptOf l, Bdt 800 x := fun x hx => by
              obtain ⟨y, hy, rfl⟩ := List.mem_map.mp hx
              exact lowest_bd (hbd y (List.mem_filter.mp hy).1).1
            have hkl : (Sl.keptOf l).length ≤ 201 := by
              unfold Sl.keptOf
              rw [List.length_map]
              have := List.length_filter_le (fun t : Sl.Tm => decide (t.n ≠ 0)) l
              omega
            have hwl : (Sl.write (Sl.keptOf l)).length ≤ 900000 := by
              have := write_len hkb
              have h2 : (Sl.keptOf l).length * (3 * 800 + 10) ≤ 201 * (3 * 800 + 10) := Nat.mul_le_mul_right _ hkl
              omega
            refine q_when (et_test (ev_neD (ev_call (ea_cons (ev_var rfl) ea_nil) ⟨Sl.keptOf l, rfl, fun x hx => ⟨by have := (hkb x hx).p; omega, by have := (hkb x hx).n; omega, by have := (hkb x hx).d; omega⟩, hwl, rfl⟩).r (ev_var rfl).r (sh_dN _) (sh_dN' _)).r) (fun q => ?_) (fun q => ?_)
            · rw [eqD_dN'] at q
              have h : Sl.write (Sl.keptOf l) ≠ t := fun z => by
                rw [decide_eq_true z] at q; cases q
              refine c_ret (ev_is ev_non ?_) k
              rw [eread, if_pos h]; rfl
            · rw [eqD_dN'] at q
              have h : ¬ Sl.write (Sl.keptOf l) ≠ t := fun z => by
                rw [decide_eq_false z] at q; cases q
              refine c_ret (ev_is (ev_var rfl) ?_) k
              rw [eread, if_neg h]; rfl
end Pg
set_option Elab.async false
set_option linter.all false
set_option maxRecDepth 100000
set_option maxHeartbeats 2000000
namespace Pg
open PySem PyProof.Rows L2 Fw
abbrev s_trimmed : Stmt := topS 1
abbrev nm_trimmed : List Str := ["numbers", "end"]
theorem sc_trimmed : FnScope nm_trimmed ["numbers"] (defScope s_trimmed) := ⟨rfl, rfl, rfl, by decide +kernel, rfl, by decide +kernel, by decide +kernel⟩
def R_trimmed : List D → D → Prop := fun ds d => ∃ l : List Int, ds = [.lst (dI l)] ∧ l.length ≤ 100000 ∧ d = .lst (dI (Sl.trimI l))
theorem len_trimmed {ds : List D} {d : D} (h : R_trimmed ds d) : ds.length = 1 := by obtain ⟨a, rfl, _⟩ := h; rfl
theorem dI_len (l : List Int) : (dI l).length = l.length := List.length_map ..
theorem dI_append (a b : List Int) : dI (a ++ b) = dI a ++ dI b := List.map_append
theorem dI_get {l : List Int} {i : Nat} (h : i < l.length) : (dI l)[i]? = some (.int (Sl.co l i)) := by
  unfold dI Sl.co
  rw [List.getElem?_map, List.getD_eq_getElem?_getD, List.getElem?_eq_getElem h]; rfl
theorem cut_dI_to (w : List Int) (k : Nat) : cut (dI w) none (some (k : Int)) = dI (w.take k) := by rw [cut_to]; exact List.map_take.symm
theorem cut_dI_from (w : List Int) (k : Nat) : cut (dI w) (some (k : Int)) none = dI (w.drop k) := by rw [cut_from]; exact List.map_drop.symm
theorem take_last {l : List Int} {m : Nat} (h : m < l.length) : l.take (m + 1) = l.take m ++ [Sl.co l m] := by
  unfold Sl.co
  rw [List.take_add_one, List.getD_eq_getElem?_getD, List.getElem?_eq_getElem h]; rfl
theorem ok_trimmed {P : Program} {w : World} {K : PySem.W.Frag} {mg : Str → Option Value} {base : Heap} {f : Addr} {fd : FuncData} (T : Txt mg) (F : Fun K "trimmed" "trimmed" s_trimmed f fd) : FnOk P w K mg base CX0 1 f fd ["numbers"] (SpR K R_trimmed) := by
  refine fn_ok F sc_trimmed (by decide) (fun ds d h => ?_) (fun cdv A outer s H E hr => ?_)
  · exact len_trimmed h
  · have hu65 := hu65_of hr
    refine ⟨_, (pss_cons (ps_set (i := 1) sc_trimmed.nd rfl (Or.inl rfl) (pe_callB call_len_seq (by rfl) T.b_len PySem.boot_len (pa_cons (pv 0) pa_nil)))
      (pss_cons (ps_while PassesOwn.never ((pw_and (pt_cmpR op_gt (pv 1) pe_int (nomark _)) (pw_and1 (pt_cmpR op_eq (pe_ix ix_list (pv 0) (pe_op op_sub (pv 1) pe_int) (fun _ _ => rfl)) pe_int (nomark _))))).pt (pss_one (ps_set (i := 1) sc_trimmed.nd rfl (Or.inl rfl) (pe_op op_sub (pv 1) pe_int))))
      (pss_one (ps_ret (pe_slice sl_list (pv 0) po_none (po_some (pv 1))))))), fun ds d hR G0 H0 Q Z k => ?_⟩
    obtain ⟨l, rfl, hl, rfl⟩ := hR
    refine q_asg (ev_len rfl (ev_var rfl).r .lst) ?_
    refine q_while (fun e : Nat => [.dat (.lst (dI l)), .dat (.int (e : Int))]) (fun e => e ≤ l.length ∧ Sl.trimI (l.take e) = Sl.trimI l) (fun e => e) l.length (le_eq rfl (le_eq (by rw [dI_len]) le_nil)) ⟨Nat.le_refl _, by rw [List.take_length]⟩ fun e he => ?_
    by_cases h0 : e = 0
    · subst h0
      refine ⟨false, et_and (b := false) (c := false) (et_is (et_test (ev_opB (ev_var rfl).r ev_i.r).r) (by decide)) (fun z => by cases z), (fun z => by cases z), fun _ => ?_⟩
      refine c_ret (ev_is (n_sl (lo := none) (ev_var rfl) .lst eo_none (eo_some (ev_var rfl).r)).ev ?_) k
      rw [cut_dI_to, ← he.2]; rfl
    · obtain ⟨m, rfl⟩ : ∃ m, e = m + 1 := ⟨e - 1, by omega⟩
      have hm : m < l.length := by omega
      refine ⟨_, et_and (b := true) (et_is (et_test (ev_opB (ev_var rfl).r ev_i.r).r) (decide_eq_true (by omega))) (fun _ => et_test (ev_eqI (ev_ix (k := m) (ev_var rfl) .lst (er_is (ev_opI (ev_var rfl).r ev_i.r).r (by congr 1; omega)) (dI_get hm)).r ev_i.r).r), fun q => ?_, fun q => ?_⟩
      · have hz : Sl.co l m = 0 := of_decide_eq_true q
        refine c_asg (ev_opI (ev_var rfl).r ev_i.r) ?_
        refine c_nx m (le_eq rfl (le_eq ?_ le_nil)) ⟨by omega, ?_⟩ (by show m < m + 1; omega)
        · congr 2; omega
        · rw [← he.2, take_last hm, hz, Sl.trimI_zero]
      · have hz : Sl.co l m ≠ 0 := of_decide_eq_false q
        refine c_ret (ev_is (n_sl (lo := none) (ev_var rfl) .lst eo_none (eo_some (ev_var rfl).r)).ev ?_) k
        rw [cut_dI_to, ← he.2, take_last hm, Sl.trimI_last hz]
abbrev s_number_at : Stmt := topS 3
abbrev nm_number_at : List Str := ["polynomial", "power"]
theorem sc_number_at : FnScope nm_number_at ["polynomial", "power"] (defScope s_number_at) := ⟨rfl, rfl, rfl, by decide +kernel, rfl, by decide +kernel, by decide +kernel⟩
def R_number_at : List D → D → Prop := fun ds d => ∃ (l : List Int) (i : Nat), ds = [.lst (dI l), .int (i : Int)] ∧ d = .int (Sl.co l i)
theorem len_number_at {ds : List D} {d : D} (h : R_number_at ds d) : ds.length = 2 := by obtain ⟨a, b, rfl, _⟩ := h; rfl
theorem ok_number_at {P : Program} {w : World} {K : PySem.W.Frag} {mg : Str → Option Value} {base : Heap} {f : Addr} {fd : FuncData} (T : Txt mg) (F : Fun K "number_at" "number_at" s_number_at f fd) : FnOk P w K mg base CX0 1 f fd ["polynomial", "power"] (SpR K R_number_at) := by
  refine fn_ok F sc_number_at (by decide) (fun ds d h => ?_) (fun cdv A outer s H E hr => ?_)
  · exact len_number_at h
  · have hu65 := hu65_of hr
    refine ⟨_, (pss_one (ps_ret (pe_ifExp (pt_cmpR op_lt (pv 1) (pe_callB call_len_seq (by rfl) T.b_len PySem.boot_len (pa_cons (pv 0) pa_nil)) (nomark _)) (pe_ix ix_list (pv 0) (pv 1) (fun _ _ => rfl)) pe_int))), fun ds d hR G0 H0 Q Z k => ?_⟩
    obtain ⟨l, i, rfl, rfl⟩ := hR
    refine c_ret (ev_if (et_test (ev_opB (ev_var rfl).r (ev_len rfl (ev_var rfl).r .lst).r).r) (fun q => ?_) (fun q => ?_)) k
    · have h : i < l.length := by
        have := of_decide_eq_true q
        rw [dI_len] at this
        omega
      exact ev_ix (k := i) (ev_var rfl) .lst (ev_var rfl).r (dI_get h)
    · have h : ¬ i < l.length := by
        have := of_decide_eq_false q
        rw [dI_len] at this
        omega
      refine ev_is ev_i ?_
      rw [Sl.co_ge (by omega)]
end Pg
set_option Elab.async false
set_option linter.all false
set_option maxRecDepth 100000
set_option maxHeartbeats 2000000
namespace Pg
open PySem PyProof.Rows L2 Fw
abbrev s_plus : Stmt := topS 2
abbrev nm_plus : List Str := ["first", "second", "count", "power"]
theorem sc_plus : FnScope nm_plus ["first", "second"] (defScope s_plus) := ⟨rfl, rfl, rfl, by decide +kernel, rfl, by decide +kernel, by decide +kernel⟩
def R_plus : List D → D → Prop := fun ds d => ∃ a b : List Int, ds = [.lst (dI a), .lst (dI b)] ∧ a.length ≤ 1000 ∧ b.length ≤ 1000 ∧ d = .lst (dI (Sl.plusI a b))
theorem len_plus {ds : List D} {d : D} (h : R_plus ds d) : ds.length = 2 := by obtain ⟨a, b, rfl, _⟩ := h; rfl
def atD (f : Nat → D) : D → D
  | .int i => f i.toNat
  | d => d
theorem picked_range (n : Nat) (f : Nat → D) : picked (fun _ => true) (atD f) ((List.range n).map fun k => D.int (k : Nat)) = (List.range n).map f := by
  rw [picked_all (fun _ _ => rfl), List.map_map]
  refine List.map_congr_left fun i _ => ?_
  show f (Int.toNat (i : Int)) = f i
  rw [Int.toNat_natCast]
theorem mem_range_D {n : Nat} {d : D} (h : d ∈ (List.range n).map fun k => D.int (k : Nat)) : ∃ i, i < n ∧ d = .int (i : Int) := by
  obtain ⟨i, hi, rfl⟩ := List.mem_map.mp h
  exact ⟨i, List.mem_range.mp hi, rfl⟩
theorem dI_range (n : Nat) (f : Nat → Int) : ((List.range n).map fun i => D.int (f i)) = dI ((List.range n).map f) := by
  unfold dI; rw [List.map_map]; rfl
theorem ok_plus {P : Program} {w : World} {K : PySem.W.Frag} {mg : Str → Option Value} {base : Heap} {f : Addr} {fd : FuncData} (T : Txt mg) (c_trimmed : Cal P w K mg base 1 "trimmed" ["numbers"] R_trimmed) (c_number_at : Cal P w K mg base 1 "number_at" ["polynomial", "power"] R_number_at) (F : Fun K "plus" "plus" s_plus f fd) : FnOk P w K mg base CX0 2 f fd ["first", "second"] (SpR K R_plus) := by
  obtain ⟨f_trimmed, fd_trimmed, G_trimmed, m_trimmed, k_trimmed, b_trimmed⟩ := c_trimmed.ex
  obtain ⟨f_number_at, fd_number_at, G_number_at, m_number_at, k_number_at, b_number_at⟩ := c_number_at.ex
  refine fn_ok F sc_plus (by decide) (fun ds d h => ?_) (fun cdv A outer s H E hr => ?_)
  · exact len_plus h
  · have hu65 := hu65_of hr
    refine ⟨_, (pss_cons (ps_set (i := 2) sc_plus.nd rfl (Or.inl rfl) (pe_callB (call_max2 rfl) (by rfl) T.b_max (by decide +kernel) (pa_cons (pe_callB call_len_seq (by rfl) T.b_len PySem.boot_len (pa_cons (pv 0) pa_nil)) (pa_cons (pe_callB call_len_seq (by rfl) T.b_len PySem.boot_len (pa_cons (pv 1) pa_nil)) pa_nil))))
      (pss_one (ps_ret (pe_call G_trimmed (hr.mono (by decide)) (by rfl) m_trimmed k_trimmed b_trimmed .nil pass0 (pa_cons (pe_lc (own := [("power", 3)]) rfl sc_plus.nd (pi_range1 (by rfl) T.b_range (pa_cons (pv 2) pa_nil)) (blkOk_by (own := [("power", 3)]) (N := nm_plus) (sc := defScope s_plus) (by decide +kernel)) (fun _ _ _ _ _ => by exact (pg_name (i := 3) sc_plus.nd rfl (Or.inl rfl))) (fun _ _ _ _ _ => by exact pts_nil) (fun _ _ _ _ _ => by exact (pe_op op_add (pe_call G_number_at (hr.mono (by decide)) (by rfl) m_number_at k_number_at b_number_at .nil pass0 (pa_cons (pv 0) (pa_cons (pv 3) pa_nil))) (pe_call G_number_at (hr.mono (by decide)) (by rfl) m_number_at k_number_at b_number_at .nil pass0 (pa_cons (pv 1) (pa_cons (pv 3) pa_nil)))))) pa_nil))))), fun ds d hR G0 H0 Q Z k => ?_⟩
    obtain ⟨a, b, rfl, ha, hb, rfl⟩ := hR
    refine q_asg (d := .int (max a.length b.length : Nat)) (ev_is (ev_max2 rfl (ev_len rfl (ev_var rfl).r .lst).r (ev_len rfl (ev_var rfl).r .lst).r) (by rw [dI_len, dI_len]; congr 1; omega)) ?_
    refine c_ret (d := .lst (dI (Sl.plusI a b))) (ev_call (ea_cons (ev_is (n_lc (it_range1 (n := max a.length b.length) (ev_var rfl).r (by omega)) _ [3] (fun d as => as.set 3 (.dat d)) (fun d hd => tg_name) (by decide) (fun _ => true) (atD fun i => .int (Sl.co a i + Sl.co b i)) (by rw [List.length_map, List.length_range]; omega) (fun d hd => et_yes) (fun d hd _ => ?_)).ev ?_) ea_nil) ⟨(List.range (max a.length b.length)).map fun i => Sl.co a i + Sl.co b i, rfl, by rw [List.length_map, List.length_range]; omega, rfl⟩) k
    · obtain ⟨i, hi, rfl⟩ := mem_range_D hd
      refine ev_is (ev_opI (ev_call (ea_cons (ev_var rfl) (ea_cons (ev_var rfl) ea_nil)) ⟨a, i, rfl, rfl⟩).r (ev_call (ea_cons (ev_var rfl) (ea_cons (ev_var rfl) ea_nil)) ⟨b, i, rfl, rfl⟩).r) ?_
      show _ = D.int (Sl.co a (Int.toNat (i : Int)) + Sl.co b (Int.toNat (i : Int)))
      rw [Int.toNat_natCast]
    · rw [picked_range, dI_range]
abbrev s_slope : Stmt := topS 5
abbrev nm_slope : List Str := ["polynomial", "power"]
theorem sc_slope : FnScope nm_slope ["polynomial"] (defScope s_slope) := ⟨rfl, rfl, rfl, by decide +kernel, rfl, by decide +kernel, by decide +kernel⟩
def R_slope : List D → D → Prop := fun ds d => ∃ a : List Int, ds = [.lst (dI a)] ∧ a.length ≤ 1000 ∧ (∀ x ∈ a, x.natAbs.log2 < 500000) ∧ d = .lst (dI (Sl.slopeI a))
theorem len_slope {ds : List D} {d : D} (h : R_slope ds d) : ds.length = 1 := by obtain ⟨a, rfl, _⟩ := h; rfl
theorem co_mem {l : List Int} {i : Nat} (h : i < l.length) : Sl.co l i ∈ l := by
  unfold Sl.co
  rw [List.getD_eq_getElem?_getD, List.getElem?_eq_getElem h]
  exact List.getElem_mem h
theorem small_log {n k : Nat} (h : n < 2 ^ k) (hk : 0 < k) : n.log2 ≤ k := Nat.le_of_lt (log2_of_lt h hk)
theorem ok_slope {P : Program} {w : World} {K : PySem.W.Frag} {mg : Str → Option Value} {base : Heap} {f : Addr} {fd : FuncData} (T : Txt mg) (F : Fun K "slope" "slope" s_slope f fd) : FnOk P w K mg base CX0 1 f fd ["polynomial"] (SpR K R_slope) := by
  refine fn_ok F sc_slope (by decide) (fun ds d h => ?_) (fun cdv A outer s H E hr => ?_)
  · exact len_slope h
  · have hu65 := hu65_of hr
    refine ⟨_, (pss_one (ps_ret (pe_lc (own := [("power", 1)]) rfl sc_slope.nd (pi_range2 (by rfl) T.b_range (pa_cons pe_int (pa_cons (pe_callB call_len_seq (by rfl) T.b_len PySem.boot_len (pa_cons (pv 0) pa_nil)) pa_nil))) (blkOk_by (own := [("power", 1)]) (N := nm_slope) (sc := defScope s_slope) (by decide +kernel)) (fun _ _ _ _ _ => by exact (pg_name (i := 1) sc_slope.nd rfl (Or.inl rfl))) (fun _ _ _ _ _ => by exact pts_nil) (fun _ _ _ _ _ => by exact (pe_op op_mulW (pv 1) (pe_ix (ix_listK K) (pv 0) (pv 1) (fun _ _ => rfl))))))), fun ds d hR G0 H0 Q Z k => ?_⟩
    obtain ⟨a, rfl, ha, hx, rfl⟩ := hR
    have hlen : (((dI a).length : Int) - 1).toNat = a.length - 1 := by rw [dI_len]; omega
    refine c_ret (ev_is (n_lc (it_range2 (lo := 1) (n := ((dI a).length : Int)) (ea_cons ev_i (ea_cons (ev_len rfl (ev_var rfl).r .lst) ea_nil)) (by rw [dI_len]; omega)) _ [1] (fun d as => as.set 1 (.dat d)) (fun d hd => tg_name) (by decide) (fun _ => true) (atD fun i => .int ((i : Int) * Sl.co a i)) (by rw [List.length_map, List.length_range]; omega) (fun d hd => et_yes) (fun d hd _ => ?_)).ev ?_) k
    · obtain ⟨j, hj, rfl⟩ := List.mem_map.mp hd
      have hj' : j < a.length - 1 := by
        have := List.mem_range.mp hj
        omega
      have h1 : j + 1 < a.length := by omega
      have e : (1 : Int) + (j : Nat) = ((j + 1 : Nat) : Int) := by omega
      rw [e]
      refine ev_is (ev_mul (ev_var rfl).r (ev_ix (k := j + 1) (ev_var rfl) .lst (ev_var rfl).r (dI_get h1)).r (mulW_of (a := 20) (b := 500000) ?_ (Nat.le_of_lt (hx _ (co_mem h1))) (by decide))) ?_
      · rw [Int.natAbs_natCast]
        exact small_log (by omega) (by decide)
      · show _ = D.int (((((j + 1 : Nat) : Int).toNat : Nat) : Int) * Sl.co a (((j + 1 : Nat) : Int).toNat))
        rw [Int.toNat_natCast]
    · rw [hlen, picked_all (fun _ _ => rfl), List.map_map]
      unfold Sl.slopeI
      rw [← dI_range]
      congr 1
      refine List.map_congr_left fun i _ => ?_
      show D.int ((((1 + (i : Nat) : Int).toNat : Nat) : Int) * Sl.co a ((1 + (i : Nat) : Int).toNat)) = _
      rw [show (1 + (i : Nat) : Int).toNat = i + 1 by omega]
      rfl
end Pg
set_option Elab.async false
set_option linter.all false
set_option maxRecDepth 100000
set_option maxHeartbeats 2000000
namespace Pg
open PySem PyProof.Rows L2 Fw
abbrev s_times : Stmt := topS 4
abbrev nm_times : List Str := ["first", "second", "product", "low", "number", "high", "other"]
theorem sc_times : FnScope nm_times ["first", "second"] (defScope s_times) := ⟨rfl, rfl, rfl, by decide +kernel, rfl, by decide +kernel, by decide +kernel⟩
def Sz (k : Nat) (l : List Int) : Prop := ∀ x ∈ l, x.natAbs < 2 ^ k
theorem sz_log {k : Nat} {l : List Int} (h : Sz k l) (hk : 0 < k) {x : Int} (hx : x ∈ l) : x.natAbs.log2 < k := log2_of_lt (h x hx) hk
theorem sz_mono {j k : Nat} {l : List Int} (h : Sz j l) (hk : j ≤ k) : Sz k l := fun x hx => Nat.lt_of_lt_of_le (h x hx) (Nat.pow_le_pow_right (by decide) hk)
def R_times : List D → D → Prop := fun ds d => ∃ a b : List Int, ds = [.lst (dI a), .lst (dI b)] ∧ a.length ≤ 1000 ∧ b.length ≤ 1000 ∧ Sz 400000 a ∧ Sz 400000 b ∧ d = .lst (dI (Sl.timesI a b))
theorem len_times {ds : List D} {d : D} (h : R_times ds d) : ds.length = 2 := by obtain ⟨a, b, rfl, _⟩ := h; rfl
def enumD (l : List Int) : List D := (dI l).zipIdx.map fun x => pairD (.int (x.2 : Nat)) x.1
theorem enumD_len (l : List Int) : (enumD l).length = l.length := by
  unfold enumD; rw [List.length_map, List.length_zipIdx, dI_len]
theorem enumD_get {l : List Int} {i : Nat} {d : D} (h : (enumD l)[i]? = some d) : i < l.length ∧ d = pairD (.int (i : Int)) (.int (Sl.co l i)) := by
  have hi : i < l.length := by
    have := (List.getElem?_eq_some_iff.mp h).1
    rwa [enumD_len] at this
  refine ⟨hi, ?_⟩
  unfold enumD at h
  rw [List.getElem?_map, List.getElem?_zipIdx, dI_get hi] at h
  have := Option.some.inj h
  rw [← this]
  show pairD (.int ((0 + i : Nat) : Int)) _ = _
  rw [Nat.zero_add]
def two (i j : Nat) : D → List AS → List AS := fun d as => match d with
  | .tup [a, b] => (as.set i (.dat a)).set j (.dat b)
  | _ => as
theorem enumD_tg {K : PySem.W.Frag} {l : List Int} {i j : Nat} (d : D) (h : d ∈ enumD l) : TgE K (gTup K 2 (gCons (gName i) (gCons (gName j) gNil))) d [i, j] (two i j d) := by
  obtain ⟨k, hk⟩ := List.mem_iff_getElem?.mp h
  rw [(enumD_get hk).2]
  exact tg_tup2
theorem cvI_snoc (g : Nat → Int) (c : Int) : ∀ (a : List Int) (k : Nat), Sl.cvI (a ++ [c]) g k = Sl.cvI a g k + (if a.length ≤ k then c * g (k - a.length) else 0)
  | [], 0 => by show c * g 0 = 0 + _; simp
  | [], k + 1 => by show c * g (k + 1) + 0 = 0 + _; simp
  | d :: a, 0 => by show d * g 0 = d * g 0 + _; simp
  | d :: a, k + 1 => by
    show d * g (k + 1) + Sl.cvI (a ++ [c]) g k = d * g (k + 1) + Sl.cvI a g k + _
    rw [cvI_snoc g c a k, List.length_cons]
    by_cases h : a.length ≤ k
    · rw [if_pos h, if_pos (by omega), show k + 1 - (a.length + 1) = k - a.length by omega]; omega
    · rw [if_neg h, if_neg (by omega)]; omega
theorem set_range (L m : Nat) (f : Nat → Int) (x : Int) : ((List.range L).map f).set m x = (List.range L).map fun k => if k = m then x else f k := by
  refine List.ext_getElem? fun k => ?_
  by_cases h : m = k
  · subst h
    by_cases hm : m < L
    · rw [List.getElem?_set_self (by simpa using hm), List.getElem?_map, List.getElem?_range hm]; simp
    · rw [List.getElem?_eq_none (by simp; omega), List.getElem?_eq_none (by simp; omega)]
  · rw [List.getElem?_set_ne h, List.getElem?_map, List.getElem?_map]
    by_cases hk : k < L
    · rw [List.getElem?_range hk]
      simp only [Option.map_some]
      rw [if_neg (fun z => h z.symm)]
    · rw [List.getElem?_eq_none (by simp; omega)]; rfl
theorem dI_set (l : List Int) (m : Nat) (x : Int) : (dI l).set m (.int x) = dI (l.set m x) := by
  unfold dI; rw [List.map_set]
theorem dI_get' {l : List Int} {i : Nat} (h : i < l.length) : (dI l)[i]? = some (.int (Sl.co l i)) := dI_get h
theorem ok_times {P : Program} {w : World} {K : PySem.W.Frag} {mg : Str → Option Value} {base : Heap} {f : Addr} {fd : FuncData} (T : Txt mg) (F : Fun K "times" "times" s_times f fd) : FnOk P w K mg base CX0 1 f fd ["first", "second"] (SpR K R_times) := by
  refine fn_ok F sc_times (by decide) (fun ds d h => ?_) (fun cdv A outer s H E hr => ?_)
  · exact len_times h
  · have hu65 := hu65_of hr
    refine ⟨_, (pss_cons (ps_if ((pw_or (pt_cmpR (op_eqD hr.units) (pv 0) (pe_lst pa_nil) (nomark _)) (pw_or1 (pt_cmpR (op_eqD hr.units) (pv 1) (pe_lst pa_nil) (nomark _))))).pt (pss_one (ps_ret (pe_lst pa_nil))) pss_nil)
      (pss_cons (ps_set (i := 2) sc_times.nd rfl (Or.inl rfl) (pe_op op_rep (pe_lst (pa_cons pe_int pa_nil)) (pe_op op_sub (pe_op op_add (pe_callB call_len_seq (by rfl) T.b_len PySem.boot_len (pa_cons (pv 0) pa_nil)) (pe_callB call_len_seq (by rfl) T.b_len PySem.boot_len (pa_cons (pv 1) pa_nil))) pe_int)))
      (pss_cons (ps_for PassesOwn.never rfl (pi_enum (by rfl) T.b_enumerate (pa_cons (pv 0) pa_nil)) (pg_tup rfl (pgs_cons (pg_name (i := 3) sc_times.nd rfl (Or.inl rfl)) (pgs_cons (pg_name (i := 4) sc_times.nd rfl (Or.inl rfl)) pgs_nil))) (pss_one (ps_for PassesOwn.never rfl (pi_enum (by rfl) T.b_enumerate (pa_cons (pv 1) pa_nil)) (pg_tup rfl (pgs_cons (pg_name (i := 5) sc_times.nd rfl (Or.inl rfl)) (pgs_cons (pg_name (i := 6) sc_times.nd rfl (Or.inl rfl)) pgs_nil))) (pss_one (ps_asg (pe_op op_add (pe_ix ix_list (pv 2) (pe_op op_add (pv 3) (pv 5)) (fun _ _ => rfl)) (pe_op op_mulW (pv 4) (pv 6))) (pg_sub (pv 2) (pe_op op_add (pv 3) (pv 5)) set_list))))))
      (pss_one (ps_ret (pv 2)))))), fun ds d hR G0 H0 Q Z k => ?_⟩
    obtain ⟨a, b, rfl, ha, hb, sa, sb, rfl⟩ := hR
    have nilq : ∀ l : List Int, eqD (.lst (dI l)) (.lst []) = decide (l = []) := fun l => by
      rw [eqD_nil]
      by_cases h : l = []
      · subst h; rfl
      · have h2 : ¬ dI l = [] := fun z => h (List.map_eq_nil_iff.mp z)
        rw [decide_eq_false h, decide_eq_false h2]
    refine q_when (et_or (et_is (et_test (ev_eqD (ev_var rfl).r (n_lst ea_nil (by decide)).ev.r (sh_dI a) sh_nil).r) (nilq a)) fun _ => et_is (et_test (ev_eqD (ev_var rfl).r (n_lst ea_nil (by decide)).ev.r (sh_dI b) sh_nil).r) (nilq b)) (fun q => ?_) (fun q => ?_)
    · have h : a = [] ∨ b = [] := by
        rw [Bool.or_eq_true] at q
        rcases q with q | q
        · exact .inl (of_decide_eq_true q)
        · exact .inr (of_decide_eq_true q)
      refine c_ret (ev_is (n_lst ea_nil (by decide)).ev ?_) k
      unfold Sl.timesI
      rw [if_pos h]; rfl
    · have h : ¬ (a = [] ∨ b = []) := by
        rw [Bool.or_eq_false_iff] at q
        rintro (z | z)
        · exact of_decide_eq_false q.1 z
        · exact of_decide_eq_false q.2 z
      have ha0 : 0 < a.length := List.length_pos_iff.mpr fun z => h (.inl z)
      have hb0 : 0 < b.length := List.length_pos_iff.mpr fun z => h (.inr z)
      generalize hL : a.length + b.length - 1 = L
      refine q_new (n_rep (k := L) (n_lst (ea_cons ev_i ea_nil) (by decide)).ev (er_is (ev_opI (ev_opI (ev_len rfl (ev_var rfl).r .lst).r (ev_len rfl (ev_var rfl).r .lst).r).r ev_i.r).r (by rw [dI_len, dI_len]; congr 1; omega)) (by omega)) ?_
      have row0 : List.replicate L (D.int 0) = dI ((List.range L).map fun k => Sl.cvI (a.take 0) (Sl.co b) k) := by
        show _ = dI ((List.range L).map fun k => 0)
        unfold dI
        rw [List.map_map]
        refine List.ext_getElem? fun i => ?_
        rw [List.getElem?_replicate, List.getElem?_map]
        split
        · rw [List.getElem?_range (by assumption)]; rfl
        · rw [List.getElem?_eq_none (by simp; omega)]; rfl
      refine q_for (it_enum (ev_var rfl) .lst) (fun i => [.dat (.lst (dI a)), .dat (.lst (dI b)), .mu (dI ((List.range L).map fun k => Sl.cvI (a.take i) (Sl.co b) k)), .no, .no, .no, .no]) [3, 4] (two 3 4) (fun d hd => enumD_tg d hd) (le_eq rfl (le_eq rfl (le_eq (by rw [row0]) (le_refl _)))) (fun B C sub i d hd => ?_) ?_
      · obtain ⟨hi, rfl⟩ := enumD_get hd
        show Co K B C [.dat (.lst (dI a)), .dat (.lst (dI b)), .mu (dI ((List.range L).map fun k => Sl.cvI (a.take i) (Sl.co b) k)), .dat (.int (i : Int)), .dat (.int (Sl.co a i)), .no, .no] _
        have hsn : ∀ m, Sl.cvI (a.take (i + 1)) (Sl.co b) m = Sl.cvI (a.take i) (Sl.co b) m + (if i ≤ m then Sl.co a i * Sl.co b (m - i) else 0) := fun m => by
          rw [take_last hi, cvI_snoc, List.length_take, Nat.min_eq_left (by omega)]
        refine c_for (it_enum (ev_var rfl) .lst) (fun j => [.dat (.lst (dI a)), .dat (.lst (dI b)), .mu (dI ((List.range L).map fun m => Sl.cvI (a.take i) (Sl.co b) m + (if i ≤ m ∧ m < i + j then Sl.co a i * Sl.co b (m - i) else 0))), .dat (.int (i : Int)), .dat (.int (Sl.co a i)), .no, .no]) [5, 6] (two 5 6) (fun d hd => enumD_tg d hd) (le_eq rfl (le_eq rfl (le_eq ?_ (le_refl _)))) (fun B2 C2 sub2 j d2 hd2 => ?_) ?_
        · congr 2
          refine List.map_congr_left fun m _ => ?_
          rw [if_neg (by omega), Int.add_zero]
        · obtain ⟨hj, rfl⟩ := enumD_get hd2
          show Co K B2 C2 [.dat (.lst (dI a)), .dat (.lst (dI b)), .mu (dI ((List.range L).map fun m => Sl.cvI (a.take i) (Sl.co b) m + (if i ≤ m ∧ m < i + j then Sl.co a i * Sl.co b (m - i) else 0))), .dat (.int (i : Int)), .dat (.int (Sl.co a i)), .dat (.int (j : Int)), .dat (.int (Sl.co b j))] _
          have hij : i + j < L := by omega
          have hget : (dI ((List.range L).map fun m => Sl.cvI (a.take i) (Sl.co b) m + (if i ≤ m ∧ m < i + j then Sl.co a i * Sl.co b (m - i) else 0)))[i + j]? = some (.int (Sl.cvI (a.take i) (Sl.co b) (i + j))) := by
            rw [dI_get (by rw [List.length_map, List.length_range]; exact hij), Sl.co_range, if_pos hij, if_neg (by omega), Int.add_zero]
          have hmul := mulW_of (i := Sl.co a i) (j := Sl.co b j) (a := 400000) (b := 400000) (Nat.le_of_lt (sz_log sa (by decide) (co_mem hi))) (Nat.le_of_lt (sz_log sb (by decide) (co_mem hj))) (by decide)
          refine c_set (k := i + j) rfl (ev_opI (ev_ixM (k := i + j) rfl (er_is (ev_opI (ev_var rfl).r (ev_var rfl).r).r rfl) hget).r (ev_mul (ev_var rfl).r (ev_var rfl).r hmul).r) (er_is (ev_opI (ev_var rfl).r (ev_var rfl).r).r rfl) (by rw [dI_len, List.length_map, List.length_range]; exact hij) ?_
          refine c_at (le_eq rfl (le_eq rfl (le_eq ?_ (le_eq rfl (le_eq rfl (le_no (le_no le_nil)))))))
          rw [dI_set, set_range]
          congr 2
          refine List.map_congr_left fun m _ => ?_
          by_cases hm : m = i + j
          · subst hm
            rw [if_pos rfl, if_pos (by omega), show i + j - i = j by omega]
          · rw [if_neg hm]
            by_cases h1 : i ≤ m ∧ m < i + j
            · rw [if_pos h1, if_pos (by omega)]
            · rw [if_neg h1, if_neg (by omega)]
        · refine c_at (le_eq rfl (le_eq rfl (le_eq ?_ (le_no (le_no (le_no (le_no le_nil)))))))
          congr 2
          refine List.map_congr_left fun m _ => ?_
          rw [hsn m]
          congr 1
          show _ = if i ≤ m ∧ m < i + (enumD b).length then _ else _
          rw [enumD_len]
          by_cases h1 : i ≤ m
          · rw [if_pos h1]
            by_cases h2 : m < i + b.length
            · rw [if_pos ⟨h1, h2⟩]
            · rw [if_neg (fun z => h2 z.2), Sl.co_ge (l := b) (by omega), Int.mul_zero]
          · rw [if_neg h1, if_neg (fun z => h1 z.1)]
      · refine c_frz (n := 2) rfl ?_
        refine c_ret (ev_is (ev_var rfl) ?_) k
        unfold Sl.timesI
        rw [if_neg h, hL]
        show D.lst (dI ((List.range L).map fun k => Sl.cvI (a.take (enumD a).length) (Sl.co b) k)) = _
        rw [enumD_len, List.take_length]
end Pg
set_option Elab.async false
set_option linter.all false
set_option maxRecDepth 100000
set_option maxHeartbeats 2000000
namespace Pg
open PySem PyProof.Rows L2 Fw
abbrev s_stepped : Stmt := topS 6
abbrev nm_stepped : List Str := ["polynomial", "result", "number"]
theorem sc_stepped : FnScope nm_stepped ["polynomial"] (defScope s_stepped) := ⟨rfl, rfl, rfl, by decide +kernel, rfl, by decide +kernel, by decide +kernel⟩
theorem timesI_len (a b : List Int) : (Sl.timesI a b).length ≤ a.length + b.length - 1 := by
  unfold Sl.timesI
  split
  · simp
  · simp
theorem plusI_len (a b : List Int) : (Sl.plusI a b).length ≤ max a.length b.length := by
  unfold Sl.plusI
  have := Sl.trimI_len ((List.range (max a.length b.length)).map fun i => Sl.co a i + Sl.co b i)
  rwa [List.length_map, List.length_range] at this
theorem stepI_len : ∀ l : List Int, (Sl.stepI l).length ≤ l.length
  | [] => Nat.le_refl _
  | c :: l => by
    have ih := stepI_len l
    show (Sl.plusI (Sl.timesI (Sl.stepI l) [1, 1]) [c]).length ≤ _
    have h1 := plusI_len (Sl.timesI (Sl.stepI l) [1, 1]) [c]
    have h2 := timesI_len (Sl.stepI l) [1, 1]
    simp only [List.length_cons, List.length_nil] at *
    omega
theorem mem_co {l : List Int} {x : Int} (h : x ∈ l) : ∃ i, i < l.length ∧ x = Sl.co l i := by
  obtain ⟨i, hi, e⟩ := List.getElem_of_mem h
  refine ⟨i, hi, ?_⟩
  unfold Sl.co
  rw [List.getD_eq_getElem?_getD, List.getElem?_eq_getElem hi, ← e]; rfl
theorem sz_co {k : Nat} {l : List Int} (h : Sz k l) (n : Nat) : (Sl.co l n).natAbs < 2 ^ k := by
  by_cases hn : n < l.length
  · exact h _ (co_mem hn)
  · rw [Sl.co_ge (by omega)]; exact Nat.two_pow_pos k
theorem sz_of_co {k : Nat} {l : List Int} (h : ∀ n, (Sl.co l n).natAbs < 2 ^ k) : Sz k l := fun x hx => by
  obtain ⟨i, _, rfl⟩ := mem_co hx
  exact h i
theorem pow_more (k : Nat) : 2 ^ (k + 1) = 2 ^ k + 2 ^ k := by rw [Nat.pow_succ]; omega
theorem stepI_sz {k : Nat} : ∀ l : List Int, Sz k l → Sz (k + l.length) (Sl.stepI l)
  | [], _ => fun x hx => by cases hx
  | c :: l, h => by
    have ih := stepI_sz l fun x hx => h x (List.mem_cons_of_mem _ hx)
    have hc : c.natAbs < 2 ^ (k + l.length) := Nat.lt_of_lt_of_le (h c (List.mem_cons_self ..)) (Nat.pow_le_pow_right (by decide) (by omega))
    refine sz_of_co fun n => ?_
    show (Sl.co (Sl.plusI (Sl.timesI (Sl.stepI l) [1, 1]) [c]) n).natAbs < 2 ^ (k + (l.length + 1))
    rw [Sl.plusI_co, Sl.timesI_co, Sl.cvI_11, ← Nat.add_assoc, pow_more]
    cases n with
    | zero =>
      have h1 := sz_co ih 0
      show (Sl.co (Sl.stepI l) 0 + c).natAbs < _
      omega
    | succ n =>
      have h1 := sz_co ih (n + 1)
      have h2 := sz_co ih n
      show (Sl.co (Sl.stepI l) (n + 1) + Sl.co (Sl.stepI l) n + Sl.co [c] (n + 1)).natAbs < _
      rw [Sl.co_succ, Sl.co_nil]
      omega
def R_stepped : List D → D → Prop := fun ds d => ∃ l : List Int, ds = [.lst (dI l)] ∧ l.length ≤ 100 ∧ Sz 300000 l ∧ d = .lst (dI (Sl.stepI l))
theorem len_stepped {ds : List D} {d : D} (h : R_stepped ds d) : ds.length = 1 := by obtain ⟨a, rfl, _⟩ := h; rfl
theorem ok_stepped {P : Program} {w : World} {K : PySem.W.Frag} {mg : Str → Option Value} {base : Heap} {f : Addr} {fd : FuncData} (T : Txt mg) (c_plus : Cal P w K mg base 2 "plus" ["first", "second"] R_plus) (c_times : Cal P w K mg base 1 "times" ["first", "second"] R_times) (F : Fun K "stepped" "stepped" s_stepped f fd) : FnOk P w K mg base CX0 3 f fd ["polynomial"] (SpR K R_stepped) := by
  obtain ⟨f_plus, fd_plus, G_plus, m_plus, k_plus, b_plus⟩ := c_plus.ex
  obtain ⟨f_times, fd_times, G_times, m_times, k_times, b_times⟩ := c_times.ex
  refine fn_ok F sc_stepped (by decide) (fun ds d h => ?_) (fun cdv A outer s H E hr => ?_)
  · exact len_stepped h
  · have hu65 := hu65_of hr
    refine ⟨_, (pss_cons (ps_set (i := 1) sc_stepped.nd rfl (Or.inl rfl) (pe_lst pa_nil))
      (pss_cons (ps_for PassesOwn.never rfl (pi_reversed (by rfl) T.b_reversed (pa_cons (pv 0) pa_nil)) (pg_name (i := 2) sc_stepped.nd rfl (Or.inl rfl)) (pss_one (ps_set (i := 1) sc_stepped.nd rfl (Or.inl rfl) (pe_call G_plus (hr.mono (by decide)) (by rfl) m_plus k_plus b_plus .nil pass0 (pa_cons (pe_call G_times (hr.mono (by decide)) (by rfl) m_times k_times b_times .nil pass0 (pa_cons (pv 1) (pa_cons (pe_lst (pa_cons pe_int (pa_cons pe_int pa_nil))) pa_nil))) (pa_cons (pe_lst (pa_cons (pv 2) pa_nil)) pa_nil))))))
      (pss_one (ps_ret (pv 1))))), fun ds d hR G0 H0 Q Z k => ?_⟩
    obtain ⟨l, rfl, hl, hs, rfl⟩ := hR
    refine q_asg (n_lst ea_nil (by decide)).ev ?_
    refine q_for (it_rev (ev_var rfl) .lst) (fun i => [.dat (.lst (dI l)), .dat (.lst (dI (Sl.stepI (l.drop (l.length - i))))), .no]) [2] (fun d as => as.set 2 (.dat d)) (fun d _ => tg_name) (le_eq rfl (le_eq ?_ (le_no le_nil))) (fun B C sub i d hd => ?_) ?_
    · rw [Nat.sub_zero, List.drop_length]; rfl
    · have hi : i < l.length := by
        have := (List.getElem?_eq_some_iff.mp hd).1
        rwa [List.length_reverse, dI_len] at this
      rw [List.getElem?_reverse (by rw [dI_len]; exact hi), dI_len, dI_get (by omega)] at hd
      cases hd
      have hdrop : l.drop (l.length - (i + 1)) = Sl.co l (l.length - 1 - i) :: l.drop (l.length - i) := by
        have h1 : l.length - (i + 1) < l.length := by omega
        rw [List.drop_eq_getElem_cons h1]
        congr 1
        · unfold Sl.co
          rw [List.getD_eq_getElem?_getD, show l.length - 1 - i = l.length - (i + 1) by omega, List.getElem?_eq_getElem h1]; rfl
        · rw [show l.length - (i + 1) + 1 = l.length - i by omega]
      have hsz : Sz 300000 (l.drop (l.length - i)) := fun x hx => hs x (List.mem_of_mem_drop hx)
      have hlen := stepI_len (l.drop (l.length - i))
      rw [List.length_drop] at hlen
      have hst := stepI_sz _ hsz
      rw [List.length_drop] at hst
      have htl := timesI_len (Sl.stepI (l.drop (l.length - i))) [1, 1]
      simp only [List.length_cons, List.length_nil] at htl
      refine c_asg (d := .lst (dI (Sl.stepI (l.drop (l.length - (i + 1)))))) (ev_call (ea_cons (ev_call (ea_cons (ev_var rfl) (ea_cons (n_lst (ea_cons ev_i (ea_cons ev_i ea_nil)) (by decide)).ev ea_nil)) ⟨Sl.stepI (l.drop (l.length - i)), [1, 1], rfl, by omega, by decide, sz_mono hst (by omega), ?_, rfl⟩) (ea_cons (n_lst (ea_cons (ev_var rfl) ea_nil) (by show 1 ≤ 1000000; decide)).ev ea_nil)) ⟨Sl.timesI (Sl.stepI (l.drop (l.length - i))) [1, 1], [Sl.co l (l.length - 1 - i)], rfl, by omega, by show 1 ≤ 1000; decide, ?_⟩) ?_
      · intro x hx
        have h2 : (2 : Nat) ^ 1 ≤ 2 ^ 400000 := Nat.pow_le_pow_right (by decide) (by decide)
        simp only [List.mem_cons, List.not_mem_nil, or_false] at hx
        rcases hx with rfl | rfl <;> (show 1 < 2 ^ 400000; omega)
      · rw [hdrop]; rfl
      · exact c_at (le_eq rfl (le_eq rfl (le_no le_nil)))
    · refine c_ret (ev_is (ev_var rfl) ?_) k
      rw [List.length_reverse, dI_len, Nat.sub_self, List.drop_zero]
end Pg
set_option Elab.async false
set_option linter.all false
set_option maxRecDepth 100000
set_option maxHeartbeats 2000000
namespace Pg
open PySem PyProof.Rows L2 Fw
abbrev s_left_side : Stmt := topS 8
abbrev nm_left_side : List Str := ["kind", "parts", "y", "total", "moved", "part"]
theorem sc_left_side : FnScope nm_left_side ["kind", "parts", "y"] (defScope s_left_side) := ⟨rfl, rfl, rfl, by decide +kernel, rfl, by decide +kernel, by decide +kernel⟩
def dLL (l : List (List Int)) : List D := l.map fun p => .lst (dI p)
def toI : D → Int
  | .int i => i
  | _ => 0
theorem toI_dI (w : List Int) : (dI w).map toI = w := by
  unfold dI
  rw [List.map_map]
  have := List.map_congr_left (f := toI ∘ D.int) (g := id) (l := w) fun b _ => rfl
  rw [this]; simp
theorem n_is {K : PySem.W.Frag} {as : List AS} {te : TE} {ds es : List D} (h : EvN K te as ds) (e : ds = es) : EvN K te as es := by rw [← e]; exact h
theorem dLL_len (l : List (List Int)) : (dLL l).length = l.length := List.length_map ..
theorem dLL_get {l : List (List Int)} {i : Nat} {d : D} (h : (dLL l)[i]? = some d) : ∃ p, l[i]? = some p ∧ d = .lst (dI p) := by
  unfold dLL at h
  rw [List.getElem?_map] at h
  cases e : l[i]? with
  | none => rw [e] at h; cases h
  | some b => rw [e] at h; exact ⟨b, rfl, (Option.some.inj h).symm⟩
def leftStep (kind : Nat) (s : List Int × List Int) (p : List Int) : List Int × List Int := (Sl.plusI s.1 (Sl.timesI p s.2), if kind = 0 then Sl.slopeI s.2 else Sl.stepI s.2)
def leftSt (kind : Nat) (ps : List (List Int)) (y : List Int) : List Int × List Int := ps.foldl (leftStep kind) ([], y)
theorem leftGo_st (kind : Nat) : ∀ (ps : List (List Int)) (s : List Int × List Int), Sl.leftGo kind ps s.1 s.2 = (ps.foldl (leftStep kind) s).1
  | [], s => rfl
  | p :: ps, s => by rw [List.foldl_cons, ← leftGo_st kind ps]; rfl
theorem leftI_st (kind : Nat) (ps : List (List Int)) (y : List Int) : Sl.leftI kind ps y = (leftSt kind ps y).1 := leftGo_st kind ps ([], y)
theorem leftSt_more (kind : Nat) (ps : List (List Int)) (p y : List Int) : leftSt kind (ps ++ [p]) y = leftStep kind (leftSt kind ps y) p := by unfold leftSt; rw [List.foldl_append]; rfl
theorem slopeI_len (l : List Int) : (Sl.slopeI l).length ≤ l.length := by unfold Sl.slopeI; rw [List.length_map, List.length_range]; omega
theorem slopeI_sz {k : Nat} {l : List Int} (h : Sz k l) (hl : l.length ≤ 100) : Sz (k + 7) (Sl.slopeI l) := fun x hx => by
  unfold Sl.slopeI at hx
  obtain ⟨i, hi, rfl⟩ := List.mem_map.mp hx
  have hi' := List.mem_range.mp hi
  have h1 := sz_co h (i + 1)
  rw [Int.natAbs_mul, Nat.pow_add, Nat.mul_comm]
  exact Nat.mul_lt_mul'' h1 (by omega)
theorem leftSt_ok {k kind : Nat} {y : List Int} (hy : y.length ≤ 100) (hs : Sz k y) : ∀ ps : List (List Int), (leftSt kind ps y).2.length ≤ 100 ∧ Sz (k + 100 * ps.length) (leftSt kind ps y).2 := by
  intro ps
  generalize hn : ps.length = n
  induction n generalizing ps with
  | zero =>
    have : ps = [] := List.eq_nil_of_length_eq_zero hn
    subst this
    exact ⟨hy, hs⟩
  | succ n ih =>
    obtain ⟨v, b, rfl⟩ : ∃ v b, ps = v ++ [b] := ⟨ps.dropLast, ps.getLast (by intro z; subst z; simp at hn), (List.dropLast_concat_getLast _).symm⟩
    rw [List.length_append] at hn
    obtain ⟨h1, h2⟩ := ih v (by simpa using hn)
    rw [leftSt_more]
    unfold leftStep
    by_cases hk : kind = 0
    · rw [if_pos hk]
      exact ⟨Nat.le_trans (slopeI_len _) h1, sz_mono (slopeI_sz h2 h1) (by omega)⟩
    · rw [if_neg hk]
      exact ⟨Nat.le_trans (stepI_len _) h1, sz_mono (stepI_sz _ h2) (by omega)⟩
theorem le_sum_mem : ∀ {l : List Nat} {x : Nat}, x ∈ l → x ≤ l.sum
  | [], x, h => by cases h
  | y :: l, x, h => by
    rw [List.sum_cons]
    rcases List.mem_cons.mp h with h | h
    · omega
    · have := le_sum_mem h; omega
theorem leftSt_len {kind : Nat} {y : List Int} (hy : y.length ≤ 100) : ∀ ps : List (List Int), (∀ p ∈ ps, p.length ≤ 100) → (leftSt kind ps y).1.length ≤ 300 := by
  intro ps
  generalize hn : ps.length = n
  induction n generalizing ps with
  | zero =>
    intro _
    have : ps = [] := List.eq_nil_of_length_eq_zero hn
    subst this
    exact Nat.zero_le _
  | succ n ih =>
    intro h
    obtain ⟨v, b, rfl⟩ : ∃ v b, ps = v ++ [b] := ⟨ps.dropLast, ps.getLast (by intro z; subst z; simp at hn), (List.dropLast_concat_getLast _).symm⟩
    rw [List.length_append] at hn
    have h1 := ih v (by simpa using hn) fun p hp => h p (List.mem_append.mpr (.inl hp))
    have hb := h b (by simp)
    have hm : (leftSt kind v y).2.length ≤ 100 := by
      have := leftSt_ok (k := (y.map Int.natAbs).sum) (kind := kind) hy (fun x hx => ?_) v
      · exact this.1
      · have : x.natAbs ≤ (y.map Int.natAbs).sum := le_sum_mem (List.mem_map.mpr ⟨x, hx, rfl⟩)
        exact Nat.lt_of_le_of_lt this Nat.lt_two_pow_self
    rw [leftSt_more]
    show (Sl.plusI (leftSt kind v y).1 (Sl.timesI b (leftSt kind v y).2)).length ≤ 300
    have := plusI_len (leftSt kind v y).1 (Sl.timesI b (leftSt kind v y).2)
    have := timesI_len b (leftSt kind v y).2
    omega
def R_left_side : List D → D → Prop := fun ds d => ∃ (kind : Nat) (ps : List (List Int)) (y : List Int), ds = [.int (kind : Int), .lst (dLL ps), .lst (dI y)] ∧ ps.length ≤ 100 ∧ (∀ p ∈ ps, p.length ≤ 100 ∧ Sz 100000 p) ∧ y.length ≤ 100 ∧ Sz 100000 y ∧ d = .lst (dI (Sl.leftI kind ps y))
theorem len_left_side {ds : List D} {d : D} (h : R_left_side ds d) : ds.length = 3 := by obtain ⟨a, b, c, rfl, _⟩ := h; rfl
theorem ok_left_side {P : Program} {w : World} {K : PySem.W.Frag} {mg : Str → Option Value} {base : Heap} {f : Addr} {fd : FuncData} (T : Txt mg) (c_plus : Cal P w K mg base 2 "plus" ["first", "second"] R_plus) (c_times : Cal P w K mg base 1 "times" ["first", "second"] R_times) (c_slope : Cal P w K mg base 1 "slope" ["polynomial"] R_slope) (c_stepped : Cal P w K mg base 3 "stepped" ["polynomial"] R_stepped) (F : Fun K "left_side" "left_side" s_left_side f fd) : FnOk P w K mg base CX0 4 f fd ["kind", "parts", "y"] (SpR K R_left_side) := by
  obtain ⟨f_plus, fd_plus, G_plus, m_plus, k_plus, b_plus⟩ := c_plus.ex
  obtain ⟨f_times, fd_times, G_times, m_times, k_times, b_times⟩ := c_times.ex
  obtain ⟨f_slope, fd_slope, G_slope, m_slope, k_slope, b_slope⟩ := c_slope.ex
  obtain ⟨f_stepped, fd_stepped, G_stepped, m_stepped, k_stepped, b_stepped⟩ := c_stepped.ex
  refine fn_ok F sc_left_side (by decide) (fun ds d h => ?_) (fun cdv A outer s H E hr => ?_)
  · exact len_left_side h
  · have hu65 := hu65_of hr
    refine ⟨_, (pss_cons (ps_set (i := 3) sc_left_side.nd rfl (Or.inl rfl) (pe_lst pa_nil))
      (pss_cons (ps_set (i := 4) sc_left_side.nd rfl (Or.inl rfl) (pv 2))
      (pss_cons (ps_for PassesOwn.never rfl (pi_list (pv 1)) (pg_name (i := 5) sc_left_side.nd rfl (Or.inl rfl)) (pss_cons (ps_set (i := 3) sc_left_side.nd rfl (Or.inl rfl) (pe_call G_plus (hr.mono (by decide)) (by rfl) m_plus k_plus b_plus .nil pass0 (pa_cons (pv 3) (pa_cons (pe_call G_times (hr.mono (by decide)) (by rfl) m_times k_times b_times .nil pass0 (pa_cons (pv 5) (pa_cons (pv 4) pa_nil))) pa_nil))))
      (pss_one (ps_set (i := 4) sc_left_side.nd rfl (Or.inl rfl) (pe_ifExp (pt_cmpR op_eq (pv 0) pe_int (nomark _)) (pe_call G_slope (hr.mono (by decide)) (by rfl) m_slope k_slope b_slope .nil pass0 (pa_cons (pv 4) pa_nil)) (pe_call G_stepped (hr.mono (by decide)) (by rfl) m_stepped k_stepped b_stepped .nil pass0 (pa_cons (pv 4) pa_nil)))))))
      (pss_one (ps_ret (pv 3)))))), fun ds d hR G0 H0 Q Z k => ?_⟩
    obtain ⟨kind, ps, y, rfl, hps, hp, hy, sy, rfl⟩ := hR
    refine q_asg (n_lst ea_nil (by decide)).ev ?_
    refine q_asg (ev_var rfl) ?_
    refine q_for (it_list (ev_var rfl) .lst) (fun i => [.dat (.int (kind : Int)), .dat (.lst (dLL ps)), .dat (.lst (dI y)), .dat (.lst (dI (leftSt kind (ps.take i) y).1)), .dat (.lst (dI (leftSt kind (ps.take i) y).2)), .no]) [5] (fun d as => as.set 5 (.dat d)) (fun d _ => tg_name) (le_refl _) (fun B C sub i d hd => ?_) ?_
    · have hd' := hd
      unfold dLL at hd'
      rw [List.getElem?_map] at hd'
      obtain ⟨p, hpi, rfl⟩ : ∃ p, ps[i]? = some p ∧ D.lst (dI p) = d := by
        cases e : ps[i]? with
        | none => rw [e] at hd'; cases hd'
        | some t => rw [e] at hd'; exact ⟨t, rfl, Option.some.inj hd'⟩
      have htk : ps.take (i + 1) = ps.take i ++ [p] := by rw [List.take_add_one, hpi]; rfl
      have hpm := hp p (List.mem_of_getElem? hpi)
      have hmo := leftSt_more kind (ps.take i) p y
      rw [← htk] at hmo
      obtain ⟨h1, h2⟩ := leftSt_ok (kind := kind) hy sy (ps.take i)
      have h3 := leftSt_len (kind := kind) hy (ps.take i) fun q hq => (hp q (List.mem_of_mem_take hq)).1
      have h4 : (ps.take i).length ≤ 100 := by rw [List.length_take]; omega
      have h2' : Sz 200000 (leftSt kind (ps.take i) y).2 := sz_mono h2 (by omega)
      have h5 := timesI_len p (leftSt kind (ps.take i) y).2
      rw [hmo]
      unfold leftStep
      generalize leftSt kind (ps.take i) y = s at *
      show Co K B C [.dat (.int (kind : Int)), .dat (.lst (dLL ps)), .dat (.lst (dI y)), .dat (.lst (dI s.1)), .dat (.lst (dI s.2)), .dat (.lst (dI p))] _
      refine q_asg (d := .lst (dI (Sl.plusI s.1 (Sl.timesI p s.2)))) (ev_call (ea_cons (ev_var rfl) (ea_cons (ev_call (ea_cons (ev_var rfl) (ea_cons (ev_var rfl) ea_nil)) ⟨p, s.2, rfl, by omega, by omega, sz_mono hpm.2 (by decide), sz_mono h2' (by decide), rfl⟩) ea_nil)) ⟨s.1, Sl.timesI p s.2, rfl, by omega, by omega, rfl⟩) ?_
      refine c_asg (d := .lst (dI (if kind = 0 then Sl.slopeI s.2 else Sl.stepI s.2))) (ev_if (et_test (ev_eqI (ev_var rfl).r ev_i.r).r) (fun q => ?_) (fun q => ?_)) ?_
      · have hk : kind = 0 := by have := of_decide_eq_true q; omega
        rw [if_pos hk]
        exact ev_call (ea_cons (ev_var rfl) ea_nil) ⟨s.2, rfl, by omega, fun x hx => Nat.lt_of_lt_of_le (sz_log h2' (by decide) hx) (by decide), rfl⟩
      · have hk : ¬ kind = 0 := by have := of_decide_eq_false q; omega
        rw [if_neg hk]
        exact ev_call (ea_cons (ev_var rfl) ea_nil) ⟨s.2, rfl, h1, sz_mono h2' (by decide), rfl⟩
      · exact c_at (le_eq rfl (le_eq rfl (le_eq rfl (le_eq rfl (le_eq rfl (le_no le_nil))))))
    · refine c_ret (ev_is (ev_var rfl) ?_) k
      rw [show (dLL ps).length = ps.length from List.length_map .., List.take_length, leftI_st]
end Pg
set_option Elab.async false
set_option linter.all false
set_option maxRecDepth 100000
set_option maxHeartbeats 2000000
namespace Pg
open PySem PyProof.Rows L2 Fw
abbrev s_terms_over : Stmt := topS 38
abbrev nm_terms_over : List Str := ["numbers", "bottom", "powers", "power"]
theorem sc_terms_over : FnScope nm_terms_over ["numbers", "bottom"] (defScope s_terms_over) := ⟨rfl, rfl, rfl, by decide +kernel, rfl, by decide +kernel, by decide +kernel⟩
def R_terms_over : List D → D → Prop := fun ds d => ∃ (l : List Int) (m : Int), ds = [.lst (dI l), .int m] ∧ l.length ≤ 1000 ∧ m ≠ 0 ∧ m.natAbs.log2 < 9000 ∧ d = .lst (dTs (Sl.termsOver l m))
theorem len_terms_over {ds : List D} {d : D} (h : R_terms_over ds d) : ds.length = 2 := by obtain ⟨a, b, rfl, _⟩ := h; rfl
theorem dT_low {i : Nat} {n m : Int} (h : m ≠ 0) : D.tup [.int (i : Int), .int (n.fdiv (lowG n m)), .int (m.fdiv (lowG n m))] = dT (Sl.lowT i n m) := by
  obtain ⟨a, b, ea, eb, hb, _, _⟩ := Sl.low_val (n := n) h
  have e1 : n.fdiv (lowG n m) = a := ea
  have e2 : m.fdiv (lowG n m) = b := eb
  rw [e1, e2]
  unfold dT Sl.lowT
  rw [ea, eb]
  rfl
def nzAt (f : Nat → Int) : D → Bool
  | .int i => !decide (f i.toNat = 0)
  | _ => false
theorem ok_terms_over {P : Program} {w : World} {K : PySem.W.Frag} {mg : Str → Option Value} {base : Heap} {f : Addr} {fd : FuncData} (T : Txt mg) (c_lowest_term : Cal P w K mg base 2 "lowest_term" ["term"] R_lowest_term) (F : Fun K "terms_over" "terms_over" s_terms_over f fd) : FnOk P w K mg base CX0 3 f fd ["numbers", "bottom"] (SpR K R_terms_over) := by
  obtain ⟨f_lowest_term, fd_lowest_term, G_lowest_term, m_lowest_term, k_lowest_term, b_lowest_term⟩ := c_lowest_term.ex
  refine fn_ok F sc_terms_over (by decide) (fun ds d h => ?_) (fun cdv A outer s H E hr => ?_)
  · exact len_terms_over h
  · have hu65 := hu65_of hr
    refine ⟨_, (pss_cons (ps_setLc (i := 2) (own := [("power", 3)]) rfl sc_terms_over.nd rfl rfl (sw_true rfl rfl rfl (by decide +kernel)) (pi_range1 (by rfl) T.b_range (pa_cons (pe_callB call_len_seq (by rfl) T.b_len PySem.boot_len (pa_cons (pv 0) pa_nil)) pa_nil)) (blkOk_by (own := [("power", 3)]) (N := nm_terms_over) (sc := defScope s_terms_over) (by decide +kernel)) (fun _ _ _ _ _ => by exact (pg_name (i := 3) sc_terms_over.nd rfl (Or.inl rfl))) (fun _ _ _ _ _ => by exact (pts_one (pt_cmpR op_ne (pe_ix (ix_listK K) (pv 0) (pv 3) (fun _ _ => rfl)) pe_int (nomark _)))) (fun _ _ _ _ _ => by exact (pv 3)))
      (pss_one (ps_ret (pe_lc (own := [("power", 3)]) rfl sc_terms_over.nd (pi_reversed (by rfl) T.b_reversed (pa_cons (pv 2) pa_nil)) (blkOk_by (own := [("power", 3)]) (N := nm_terms_over) (sc := defScope s_terms_over) (by decide +kernel)) (fun _ _ _ _ _ => by exact (pg_name (i := 3) sc_terms_over.nd rfl (Or.inl rfl))) (fun _ _ _ _ _ => by exact pts_nil) (fun _ _ _ _ _ => by exact (pe_call G_lowest_term (hr.mono (by decide)) (by rfl) m_lowest_term k_lowest_term b_lowest_term .nil pass0 (pa_cons (pe_tup (pa_cons (pv 3) (pa_cons (pe_ix (ix_listK K) (pv 0) (pv 3) (fun _ _ => rfl)) (pa_cons (pv 1) pa_nil)))) pa_nil))))))), fun ds d hR G0 H0 Q Z k => ?_⟩
    obtain ⟨l, m, rfl, hl, hm, hmb, rfl⟩ := hR
    refine q_asg (d := .lst (dN ((List.range l.length).filter fun i => decide (Sl.co l i ≠ 0)))) (ev_is (n_lc (it_range1 (n := l.length) (er_is (ev_len rfl (ev_var rfl).r .lst).r (by rw [dI_len])) (by omega)) _ [3] (fun d as => as.set 3 (.dat d)) (fun d hd => tg_name) (by decide) (nzAt (Sl.co l)) (fun d => d) (by rw [List.length_map, List.length_range]; omega) (fun d hd => ?_) (fun d hd _ => ?_)).ev ?_) ?_
    · obtain ⟨i, hi, rfl⟩ := mem_range_D hd
      refine et_is (et_test (ev_neI (ev_ix (k := i) (ev_var rfl) .lst (ev_var rfl).r (dI_get hi)).r ev_i.r).r) ?_
      show _ = !decide (Sl.co l (Int.toNat (i : Int)) = 0)
      rw [Int.toNat_natCast]
    · obtain ⟨i, hi, rfl⟩ := mem_range_D hd
      exact ev_var rfl
    · unfold picked dN
      rw [List.filter_map, List.map_map]
      have e1 : (List.range l.length).filter (nzAt (Sl.co l) ∘ fun k => D.int (k : Nat)) = (List.range l.length).filter fun i => decide (Sl.co l i ≠ 0) := by
        congr 1
        funext i
        show (!decide (Sl.co l (Int.toNat (i : Int)) = 0)) = _
        rw [Int.toNat_natCast, decide_not]
      rw [e1]
      rfl
    · have hpl : ∀ i ∈ (List.range l.length).filter (fun i => decide (Sl.co l i ≠ 0)), i < l.length := fun i hi => List.mem_range.mp (List.mem_filter.mp hi).1
      have hplen := List.length_filter_le (fun i => decide (Sl.co l i ≠ 0)) (List.range l.length)
      rw [List.length_range] at hplen
      unfold Sl.termsOver at k
      generalize (List.range l.length).filter (fun i => decide (Sl.co l i ≠ 0)) = ps at *
      refine c_ret (ev_is (n_lc (it_rev (ev_var rfl) .lst) _ [3] (fun d as => as.set 3 (.dat d)) (fun d hd => tg_name) (by decide) (fun _ => true) (atD fun i => dT (Sl.lowT i (Sl.co l i) m)) (by rw [List.length_reverse, dN_len]; omega) (fun d hd => et_yes) (fun d hd _ => ?_)).ev ?_) k
      · rw [List.mem_reverse] at hd
        obtain ⟨i, hi, rfl⟩ := List.mem_map.mp hd
        refine ev_is (ev_call (ea_cons (ev_tup (ea_cons (ev_var rfl) (ea_cons (ev_ix (k := i) (ev_var rfl) .lst (ev_var rfl).r (dI_get (hpl i hi))) (ea_cons (ev_var rfl) ea_nil))) (by show 3 ≤ 1000000; decide)) ea_nil) ⟨(i : Int), Sl.co l i, m, rfl, hm, hmb, rfl⟩) ?_
        show _ = dT (Sl.lowT (Int.toNat (i : Int)) (Sl.co l (Int.toNat (i : Int))) m)
        rw [Int.toNat_natCast]
        exact dT_low hm
      · rw [picked_all (fun _ _ => rfl), ← dN_reverse]
        unfold dN dTs
        rw [List.map_map, List.map_map]
        congr 1
end Pg
set_option Elab.async false
set_option linter.all false
set_option maxRecDepth 100000
set_option maxHeartbeats 2000000
namespace Pg
open PySem PyProof.Rows L2 Fw
abbrev s_least_multiple : Stmt := topS 11
abbrev nm_least_multiple : List Str := ["first", "second"]
theorem sc_least_multiple : FnScope nm_least_multiple ["first", "second"] (defScope s_least_multiple) := ⟨rfl, rfl, rfl, by decide +kernel, rfl, by decide +kernel, by decide +kernel⟩
def R_least_multiple : List D → D → Prop := fun ds d => ∃ a b : Nat, ds = [.int (a : Int), .int (b : Int)] ∧ 0 < a ∧ 0 < b ∧ a.log2 < 8000 ∧ b.log2 < 8000 ∧ d = .int (Nat.lcm a b : Nat)
theorem len_least_multiple {ds : List D} {d : D} (h : R_least_multiple ds d) : ds.length = 2 := by obtain ⟨a, b, rfl, _⟩ := h; rfl
theorem lcm_div (a b : Nat) : a / Nat.gcd a b * b = Nat.lcm a b := by
  unfold Nat.lcm
  rw [Nat.div_mul_right_comm (Nat.gcd_dvd_left a b)]
theorem ok_least_multiple {P : Program} {w : World} {K : PySem.W.Frag} {mg : Str → Option Value} {base : Heap} {f : Addr} {fd : FuncData} (T : Txt mg) (c_greatest_divisor : Cal P w K mg base 1 "greatest_divisor" ["first", "second"] R_greatest_divisor) (F : Fun K "least_multiple" "least_multiple" s_least_multiple f fd) : FnOk P w K mg base CX0 2 f fd ["first", "second"] (SpR K R_least_multiple) := by
  obtain ⟨f_greatest_divisor, fd_greatest_divisor, G_greatest_divisor, m_greatest_divisor, k_greatest_divisor, b_greatest_divisor⟩ := c_greatest_divisor.ex
  refine fn_ok F sc_least_multiple (by decide) (fun ds d h => ?_) (fun cdv A outer s H E hr => ?_)
  · exact len_least_multiple h
  · have hu65 := hu65_of hr
    refine ⟨_, (pss_one (ps_ret (pe_op op_mulW (pe_op op_fdivX (pv 0) (pe_call G_greatest_divisor (hr.mono (by decide)) (by rfl) m_greatest_divisor k_greatest_divisor b_greatest_divisor .nil pass0 (pa_cons (pv 0) (pa_cons (pv 1) pa_nil)))) (pv 1)))), fun ds d hR G0 H0 Q Z k => ?_⟩
    obtain ⟨a, b, rfl, ha, hb, la, lb, rfl⟩ := hR
    have hg : 0 < Nat.gcd a b := Nat.gcd_pos_of_pos_left _ ha
    have hgl : (Nat.gcd a b).log2 < 9000 := Nat.lt_of_le_of_lt (log2_mono (Nat.le_of_dvd ha (Nat.gcd_dvd_left a b))) (by omega)
    have e : Int.fdiv (a : Int) ((Nat.gcd a b : Nat) : Int) = ((a / Nat.gcd a b : Nat) : Int) := by
      rw [Int.fdiv_eq_ediv_of_nonneg _ (by omega)]; rfl
    have hdl : (a / Nat.gcd a b).log2 < 9000 := Nat.lt_of_le_of_lt (log2_mono (Nat.div_le_self _ _)) (by omega)
    refine c_ret (ev_is (ev_mul (i := ((a / Nat.gcd a b : Nat) : Int)) (er_is (ev_fdiv (ev_var rfl).r (er_is (ev_call (ea_cons (ev_var rfl) (ea_cons (ev_var rfl) ea_nil)) ⟨(a : Int), (b : Int), rfl, rfl⟩).r (show D.int ((Nat.gcd ((a : Int).natAbs) ((b : Int).natAbs) : Nat) : Int) = D.int ((Nat.gcd a b : Nat) : Int) by rw [Int.natAbs_natCast, Int.natAbs_natCast])) ⟨by omega, by rw [Int.natAbs_natCast]; exact hgl⟩).r (by rw [e])) (ev_var rfl).r (mulW_of (a := 9000) (b := 9000) (by rw [Int.natAbs_natCast]; omega) (by rw [Int.natAbs_natCast]; omega) (by decide))) ?_) k
    rw [← lcm_div a b]
    rfl
abbrev s_whole_numbers : Stmt := topS 58
abbrev nm_whole_numbers : List Str := ["terms", "common", "numbers", "power", "top", "bottom"]
theorem sc_whole_numbers : FnScope nm_whole_numbers ["terms", "common"] (defScope s_whole_numbers) := ⟨rfl, rfl, rfl, by decide +kernel, rfl, by decide +kernel, by decide +kernel⟩
structure Okw (t : Sl.Tm) : Prop where
  p : t.p < 5
  d0 : 0 < t.d
  d : t.d.log2 < 9000
  n : t.n.natAbs.log2 < 100000
def R_whole_numbers : List D → D → Prop := fun ds d => ∃ (ts : List Sl.Tm) (c : Nat), ds = [.lst (dTs ts), .int (c : Int)] ∧ (∀ t ∈ ts, Okw t) ∧ c.log2 < 100000 ∧ d = .lst (dI (Sl.wholeI ts c))
theorem len_whole_numbers {ds : List D} {d : D} (h : R_whole_numbers ds d) : ds.length = 2 := by obtain ⟨a, b, rfl, _⟩ := h; rfl
theorem numsGo_more (c : Nat) : ∀ (ts : List Sl.Tm) (t : Sl.Tm) (l : List Int), Sl.numsGo c (ts ++ [t]) l = (Sl.numsGo c ts l).set t.p (((c / t.d : Nat) : Int) * t.n)
  | [], t, l => rfl
  | s :: ts, t, l => numsGo_more c ts t _
def three (i j m : Nat) : D → List AS → List AS := fun d as => match d with
  | .tup [a, b, c] => ((as.set i (.dat a)).set j (.dat b)).set m (.dat c)
  | _ => as
theorem dTs_get {ts : List Sl.Tm} {i : Nat} {d : D} (h : (dTs ts)[i]? = some d) : ∃ t, ts[i]? = some t ∧ d = dT t ∧ ts.take (i + 1) = ts.take i ++ [t] := by
  unfold dTs at h
  rw [List.getElem?_map] at h
  cases e : ts[i]? with
  | none => rw [e] at h; cases h
  | some t => rw [e] at h; exact ⟨t, rfl, (Option.some.inj h).symm, by rw [List.take_add_one, e]; rfl⟩
theorem dTs_tg {K : PySem.W.Frag} {ts : List Sl.Tm} {i j m : Nat} (d : D) (h : d ∈ dTs ts) : TgE K (gTup K 3 (gCons (gName i) (gCons (gName j) (gCons (gName m) gNil)))) d [i, j, m] (three i j m d) := by
  obtain ⟨t, _, rfl⟩ := List.mem_map.mp h
  exact tg_tup3
theorem ok_whole_numbers {P : Program} {w : World} {K : PySem.W.Frag} {mg : Str → Option Value} {base : Heap} {f : Addr} {fd : FuncData} (T : Txt mg) (c_trimmed : Cal P w K mg base 1 "trimmed" ["numbers"] R_trimmed) (n_MOST_DEGREE : Num mg "MOST_DEGREE" (4)) (F : Fun K "whole_numbers" "whole_numbers" s_whole_numbers f fd) : FnOk P w K mg base CX0 2 f fd ["terms", "common"] (SpR K R_whole_numbers) := by
  obtain ⟨f_trimmed, fd_trimmed, G_trimmed, m_trimmed, k_trimmed, b_trimmed⟩ := c_trimmed.ex
  obtain ⟨t_MOST_DEGREE, m_MOST_DEGREE⟩ := n_MOST_DEGREE
  refine fn_ok F sc_whole_numbers (by decide) (fun ds d h => ?_) (fun cdv A outer s H E hr => ?_)
  · exact len_whole_numbers h
  · have hu65 := hu65_of hr
    refine ⟨_, (pss_cons (ps_set (i := 2) sc_whole_numbers.nd rfl (Or.inl rfl) (pe_op op_rep (pe_lst (pa_cons pe_int pa_nil)) (pe_op op_add (pe_glob (v := .int (4)) (by rfl) m_MOST_DEGREE ⟨_, rfl⟩) pe_int)))
      (pss_cons (ps_for PassesOwn.never rfl (pi_list (pv 0)) (pg_tup rfl (pgs_cons (pg_name (i := 3) sc_whole_numbers.nd rfl (Or.inl rfl)) (pgs_cons (pg_name (i := 4) sc_whole_numbers.nd rfl (Or.inl rfl)) (pgs_cons (pg_name (i := 5) sc_whole_numbers.nd rfl (Or.inl rfl)) pgs_nil)))) (pss_one (ps_asg (pe_op op_mulW (pe_op op_fdivX (pv 1) (pv 5)) (pv 4)) (pg_sub (pv 2) (pv 3) set_list))))
      (pss_one (ps_ret (pe_call G_trimmed (hr.mono (by decide)) (by rfl) m_trimmed k_trimmed b_trimmed .nil pass0 (pa_cons (pv 2) pa_nil)))))), fun ds d hR G0 H0 Q Z k => ?_⟩
    obtain ⟨ts, c, rfl, ht, hc, rfl⟩ := hR
    refine q_new (n_rep (k := 5) (n_lst (ea_cons ev_i ea_nil) (by decide)).ev (er_is (ev_opI ev_i.r ev_i.r).r rfl) (by decide)) ?_
    refine q_for (it_list (ev_var rfl) .lst) (fun i => [.dat (.lst (dTs ts)), .dat (.int (c : Int)), .mu (dI (Sl.numsGo c (ts.take i) (List.replicate 5 0))), .no, .no, .no]) [3, 4, 5] (three 3 4 5) (fun d hd => dTs_tg d hd) (le_eq rfl (le_eq rfl (le_eq rfl (le_refl _)))) (fun B C sub i d hd => ?_) ?_
    · obtain ⟨t, hti, rfl, htk⟩ := dTs_get hd
      have ho := ht t (List.mem_of_getElem? hti)
      show Co K B C [.dat (.lst (dTs ts)), .dat (.int (c : Int)), .mu (dI (Sl.numsGo c (ts.take i) (List.replicate 5 0))), .dat (.int (t.p : Int)), .dat (.int t.n), .dat (.int (t.d : Int))] _
      have e : Int.fdiv (c : Int) (t.d : Int) = ((c / t.d : Nat) : Int) := by
        rw [Int.fdiv_eq_ediv_of_nonneg _ (by omega)]; rfl
      have hdl : (c / t.d).log2 < 100000 := Nat.lt_of_le_of_lt (log2_mono (Nat.div_le_self _ _)) hc
      have h1 := ho.n
      have h2 := ho.d0
      refine c_set (k := t.p) rfl (ev_mul (i := ((c / t.d : Nat) : Int)) (er_is (ev_fdiv (ev_var rfl).r (ev_var rfl).r ⟨by omega, by rw [Int.natAbs_natCast]; exact ho.d⟩).r (by rw [e])) (ev_var rfl).r (mulW_of (a := 100000) (b := 100000) (by rw [Int.natAbs_natCast]; omega) (by omega) (by decide))) (ev_var rfl).r (by rw [dI_len, Sl.numsGo_len]; simpa using ho.p) ?_
      refine c_at (le_eq rfl (le_eq rfl (le_eq ?_ (le_no (le_no (le_no le_nil))))))
      rw [htk, numsGo_more, dI_set]
    · refine c_frz (n := 2) rfl ?_
      refine c_ret (d := .lst (dI (Sl.wholeI ts c))) (ev_call (ea_cons (ev_var rfl) ea_nil) ⟨Sl.numsGo c ts (List.replicate 5 0), ?_, by rw [Sl.numsGo_len]; simp, rfl⟩) k
      rw [dTs_len, List.take_length]
end Pg
set_option Elab.async false
set_option linter.all false
set_option maxRecDepth 100000
set_option maxHeartbeats 2000000
namespace Pg
open PySem PyProof.Rows L2 Fw
abbrev s_common_bottom : Stmt := topS 57
abbrev nm_common_bottom : List Str := ["polynomials", "common", "terms", "power", "top", "bottom"]
theorem sc_common_bottom : FnScope nm_common_bottom ["polynomials"] (defScope s_common_bottom) := ⟨rfl, rfl, rfl, by decide +kernel, rfl, by decide +kernel, by decide +kernel⟩
def dLT (l : List (List Sl.Tm)) : List D := l.map fun ts => .lst (dTs ts)
structure Oks (ts : List Sl.Tm) : Prop where
  len : ts.length ≤ 5
  p : ∀ t ∈ ts, t.p < 5
  d0 : ∀ t ∈ ts, 0 < t.d
  d : ∀ t ∈ ts, t.d < 2 ^ 14
  n : ∀ t ∈ ts, t.n.natAbs < 2 ^ 14
theorem lcmGo_more (c : Nat) : ∀ (ts : List Sl.Tm) (t : Sl.Tm), Sl.lcmGo (ts ++ [t]) c = Nat.lcm (Sl.lcmGo ts c) t.d
  | [], t => rfl
  | s :: ts, t => lcmGo_more _ ts t
theorem lcmAll_more (c : Nat) : ∀ (l : List (List Sl.Tm)) (ts : List Sl.Tm), Sl.lcmAll (l ++ [ts]) c = Sl.lcmGo ts (Sl.lcmAll l c)
  | [], ts => rfl
  | s :: l, ts => lcmAll_more _ l ts
theorem lcmGo_lt {k : Nat} : ∀ (ts : List Sl.Tm) (c : Nat), c < 2 ^ k → (∀ t ∈ ts, t.d < 2 ^ 14) → (∀ t ∈ ts, 0 < t.d) → 0 < c → Sl.lcmGo ts c < 2 ^ (k + 14 * ts.length)
  | [], c, h, _, _, _ => h
  | t :: ts, c, h, hd, h0, hc => by
    have ht := hd t (List.mem_cons_self ..)
    have ht0 := h0 t (List.mem_cons_self ..)
    have h1 : Nat.lcm c t.d < 2 ^ (k + 14) := by
      refine Nat.lt_of_le_of_lt (Nat.le_of_dvd (Nat.mul_pos hc ht0) (Nat.lcm_dvd_mul c t.d)) ?_
      rw [Nat.pow_add]
      exact Nat.mul_lt_mul'' h ht
    have := lcmGo_lt (k := k + 14) ts (Nat.lcm c t.d) h1 (fun s hs => hd s (List.mem_cons_of_mem _ hs)) (fun s hs => h0 s (List.mem_cons_of_mem _ hs)) (Nat.lcm_pos hc ht0)
    rw [List.length_cons, show k + 14 * (ts.length + 1) = k + 14 + 14 * ts.length by omega]
    exact this
theorem lcmAll_lt {k : Nat} : ∀ (l : List (List Sl.Tm)) (c : Nat), c < 2 ^ k → 0 < c → (∀ ts ∈ l, Oks ts) → Sl.lcmAll l c < 2 ^ (k + 70 * l.length)
  | [], c, h, _, _ => h
  | ts :: l, c, h, hc, ho => by
    have h1 := ho ts (List.mem_cons_self ..)
    have h2 := lcmGo_lt ts c h h1.d h1.d0 hc
    have h3 : Sl.lcmGo ts c < 2 ^ (k + 70) := Nat.lt_of_lt_of_le h2 (Nat.pow_le_pow_right (by decide) (by have := h1.len; omega))
    have := lcmAll_lt (k := k + 70) l _ h3 (Sl.lcmGo_pos ts c hc h1.d0) fun s hs => ho s (List.mem_cons_of_mem _ hs)
    rw [List.length_cons, show k + 70 * (l.length + 1) = k + 70 + 70 * l.length by omega]
    exact this
def R_common_bottom : List D → D → Prop := fun ds d => ∃ l : List (List Sl.Tm), ds = [.lst (dLT l)] ∧ l.length ≤ 50 ∧ (∀ ts ∈ l, Oks ts) ∧ d = .int (Sl.lcmAll l 1 : Nat)
theorem len_common_bottom {ds : List D} {d : D} (h : R_common_bottom ds d) : ds.length = 1 := by obtain ⟨a, rfl, _⟩ := h; rfl
def toTm : D → Sl.Tm
  | .tup [.int p, .int n, .int d] => ⟨p.toNat, n, d.toNat⟩
  | _ => ⟨0, 0, 0⟩
theorem toTm_dT (t : Sl.Tm) : toTm (dT t) = t := by
  cases t
  show Sl.Tm.mk _ _ _ = _
  rw [Int.toNat_natCast, Int.toNat_natCast]
theorem toTm_dTs (ts : List Sl.Tm) : (dTs ts).map toTm = ts := by
  unfold dTs
  rw [List.map_map]
  have := List.map_congr_left (f := toTm ∘ dT) (g := id) (l := ts) fun t _ => toTm_dT t
  rw [this]; simp
def onTs (f : List Sl.Tm → D) : D → D
  | .lst l => f (l.map toTm)
  | d => d
theorem onTs_at (f : List Sl.Tm → D) (ts : List Sl.Tm) : onTs f (.lst (dTs ts)) = f ts := by
  show f ((dTs ts).map toTm) = f ts
  rw [toTm_dTs]
theorem dLT_get {l : List (List Sl.Tm)} {i : Nat} {d : D} (h : (dLT l)[i]? = some d) : ∃ ts, l[i]? = some ts ∧ d = .lst (dTs ts) ∧ l.take (i + 1) = l.take i ++ [ts] := by
  unfold dLT at h
  rw [List.getElem?_map] at h
  cases e : l[i]? with
  | none => rw [e] at h; cases h
  | some t => rw [e] at h; exact ⟨t, rfl, (Option.some.inj h).symm, by rw [List.take_add_one, e]; rfl⟩
theorem ok_common_bottom {P : Program} {w : World} {K : PySem.W.Frag} {mg : Str → Option Value} {base : Heap} {f : Addr} {fd : FuncData} (T : Txt mg) (c_least_multiple : Cal P w K mg base 2 "least_multiple" ["first", "second"] R_least_multiple) (F : Fun K "common_bottom" "common_bottom" s_common_bottom f fd) : FnOk P w K mg base CX0 3 f fd ["polynomials"] (SpR K R_common_bottom) := by
  obtain ⟨f_least_multiple, fd_least_multiple, G_least_multiple, m_least_multiple, k_least_multiple, b_least_multiple⟩ := c_least_multiple.ex
  refine fn_ok F sc_common_bottom (by decide) (fun ds d h => ?_) (fun cdv A outer s H E hr => ?_)
  · exact len_common_bottom h
  · have hu65 := hu65_of hr
    refine ⟨_, (pss_cons (ps_set (i := 1) sc_common_bottom.nd rfl (Or.inl rfl) pe_int)
      (pss_cons (ps_for PassesOwn.never rfl (pi_list (pv 0)) (pg_name (i := 2) sc_common_bottom.nd rfl (Or.inl rfl)) (pss_one (ps_for PassesOwn.never rfl (pi_list (pv 2)) (pg_tup rfl (pgs_cons (pg_name (i := 3) sc_common_bottom.nd rfl (Or.inl rfl)) (pgs_cons (pg_name (i := 4) sc_common_bottom.nd rfl (Or.inl rfl)) (pgs_cons (pg_name (i := 5) sc_common_bottom.nd rfl (Or.inl rfl)) pgs_nil)))) (pss_one (ps_set (i := 1) sc_common_bottom.nd rfl (Or.inl rfl) (pe_call G_least_multiple (hr.mono (by decide)) (by rfl) m_least_multiple k_least_multiple b_least_multiple .nil pass0 (pa_cons (pv 1) (pa_cons (pv 5) pa_nil))))))))
      (pss_one (ps_ret (pv 1))))), fun ds d hR G0 H0 Q Z k => ?_⟩
    obtain ⟨l, rfl, hl, ho, rfl⟩ := hR
    refine q_asg ev_i ?_
    refine q_for (it_list (ev_var rfl) .lst) (fun i => [.dat (.lst (dLT l)), .dat (.int (Sl.lcmAll (l.take i) 1 : Nat)), .no, .no, .no, .no]) [2] (fun d as => as.set 2 (.dat d)) (fun d _ => tg_name) (le_refl _) (fun B C sub i d hd => ?_) ?_
    · obtain ⟨ts, hti, rfl, htk⟩ := dLT_get hd
      have hts := ho ts (List.mem_of_getElem? hti)
      have htl : (l.take i).length ≤ 50 := by rw [List.length_take]; omega
      have hot : ∀ s ∈ l.take i, Oks s := fun s hs => ho s (List.mem_of_mem_take hs)
      have hc := lcmAll_lt (k := 1) (l.take i) 1 (by decide) (by decide) hot
      have hc0 := Sl.lcmAll_pos (l.take i) 1 (by decide) fun s hs => (hot s hs).d0
      have hmo := lcmAll_more 1 (l.take i) ts
      rw [← htk] at hmo
      rw [hmo]
      generalize Sl.lcmAll (l.take i) 1 = c at *
      have hc' : c < 2 ^ 3600 := Nat.lt_of_lt_of_le hc (Nat.pow_le_pow_right (by decide) (by omega))
      show Co K B C [.dat (.lst (dLT l)), .dat (.int (c : Int)), .dat (.lst (dTs ts)), .no, .no, .no] _
      refine c_for (it_list (ev_var rfl) .lst) (fun j => [.dat (.lst (dLT l)), .dat (.int (Sl.lcmGo (ts.take j) c : Nat)), .dat (.lst (dTs ts)), .no, .no, .no]) [3, 4, 5] (three 3 4 5) (fun d hd => dTs_tg d hd) (le_refl _) (fun B2 C2 sub2 j d2 hd2 => ?_) ?_
      · obtain ⟨t, htj, rfl, htk2⟩ := dTs_get hd2
        have htm := List.mem_of_getElem? htj
        have hg := lcmGo_lt (ts.take j) c hc' (fun s hs => hts.d s (List.mem_of_mem_take hs)) (fun s hs => hts.d0 s (List.mem_of_mem_take hs)) hc0
        have hg0 := Sl.lcmGo_pos (ts.take j) c hc0 fun s hs => hts.d0 s (List.mem_of_mem_take hs)
        have hjl : (ts.take j).length ≤ 5 := by rw [List.length_take]; have := hts.len; omega
        have hgl := log2_of_lt hg (by omega)
        have htd := log2_of_lt (hts.d t htm) (by decide)
        show Co K B2 C2 [.dat (.lst (dLT l)), .dat (.int (Sl.lcmGo (ts.take j) c : Nat)), .dat (.lst (dTs ts)), .dat (.int (t.p : Int)), .dat (.int t.n), .dat (.int (t.d : Int))] _
        refine c_asg (ev_call (ea_cons (ev_var rfl) (ea_cons (ev_var rfl) ea_nil)) ⟨Sl.lcmGo (ts.take j) c, t.d, rfl, hg0, hts.d0 t htm, by omega, by omega, rfl⟩) ?_
        refine c_at (le_eq rfl (le_eq ?_ (le_eq rfl (le_no (le_no (le_no le_nil))))))
        rw [htk2, lcmGo_more]
      · refine c_at (le_eq rfl (le_eq ?_ (le_no (le_no (le_no (le_no le_nil))))))
        rw [dTs_len, List.take_length]
    · refine c_ret (ev_is (ev_var rfl) ?_) k
      rw [show (dLT l).length = l.length from List.length_map .., List.take_length]
end Pg
set_option Elab.async false
set_option linter.all false
set_option maxRecDepth 100000
set_option maxHeartbeats 2000000
namespace Pg
open PySem PyProof.Rows L2 Fw
abbrev s_too_big : Stmt := topS 55
abbrev nm_too_big : List Str := ["terms", "power", "top", "bottom"]
theorem sc_too_big : FnScope nm_too_big ["terms"] (defScope s_too_big) := ⟨rfl, rfl, rfl, by decide +kernel, rfl, by decide +kernel, by decide +kernel⟩
def R_too_big : List D → D → Prop := fun ds d => ∃ ts : List Sl.Tm, ds = [.lst (dTs ts)] ∧ ts.length ≤ 1000 ∧ d = .bl (Sl.tooBig ts)
theorem len_too_big {ds : List D} {d : D} (h : R_too_big ds d) : ds.length = 1 := by obtain ⟨a, rfl, _⟩ := h; rfl
theorem bigT_int (t : Sl.Tm) : (decide ((4 : Int) < t.p) || (decide ((9999 : Int) < t.n.natAbs) || decide ((9999 : Int) < t.d))) = Sl.bigT t := by
  unfold Sl.bigT
  have c : ∀ a b : Nat, decide ((a : Int) < b) = decide (a < b) := fun a b => by
    by_cases h : a < b
    · rw [decide_eq_true h, decide_eq_true (by omega)]
    · rw [decide_eq_false h, decide_eq_false (by omega)]
  rw [← c 4, ← c 9999, ← c 9999]
  rfl
theorem ok_too_big {P : Program} {w : World} {K : PySem.W.Frag} {mg : Str → Option Value} {base : Heap} {f : Addr} {fd : FuncData} (T : Txt mg) (n_MOST_NUMBER : Num mg "MOST_NUMBER" (9999)) (n_MOST_DEGREE : Num mg "MOST_DEGREE" (4)) (F : Fun K "too_big" "too_big" s_too_big f fd) : FnOk P w K mg base CX0 1 f fd ["terms"] (SpR K R_too_big) := by
  obtain ⟨t_MOST_NUMBER, m_MOST_NUMBER⟩ := n_MOST_NUMBER
  obtain ⟨t_MOST_DEGREE, m_MOST_DEGREE⟩ := n_MOST_DEGREE
  refine fn_ok F sc_too_big (by decide) (fun ds d h => ?_) (fun cdv A outer s H E hr => ?_)
  · exact len_too_big h
  · have hu65 := hu65_of hr
    refine ⟨_, (pss_one (ps_ret (pe_callB (cr_any rfl) (by rfl) T.b_any (by decide +kernel) (pa_cons (pe_lc (own := [("power", 1), ("top", 2), ("bottom", 3)]) rfl sc_too_big.nd (pi_list (pv 0)) (blkOk_by (own := [("power", 1), ("top", 2), ("bottom", 3)]) (N := nm_too_big) (sc := defScope s_too_big) (by decide +kernel)) (fun _ _ _ _ _ => by exact (by refine pg_tupK K 3 (t := gCons (gName 1) (gCons (gName 2) (gCons (gName 3) (gNil)))) rfl ?_; exact (pgs_cons (pg_name (i := 1) sc_too_big.nd rfl (Or.inl rfl)) (pgs_cons (pg_name (i := 2) sc_too_big.nd rfl (Or.inl rfl)) (pgs_cons (pg_name (i := 3) sc_too_big.nd rfl (Or.inl rfl)) pgs_nil))))) (fun _ _ _ _ _ => by exact pts_nil) (fun _ _ _ _ _ => by exact (pe_or (pe_cmpR op_gt (pv 1) (pe_glob (v := .int (4)) (by rfl) m_MOST_DEGREE ⟨_, rfl⟩) (nomark _)) (pe_or (pe_cmpR op_gt (pe_callB call_abs (by rfl) T.b_abs (by decide +kernel) (pa_cons (pv 2) pa_nil)) (pe_glob (v := .int (9999)) (by rfl) m_MOST_NUMBER ⟨_, rfl⟩) (nomark _)) (pe_one (pe_cmpR op_gt (pv 3) (pe_glob (v := .int (9999)) (by rfl) m_MOST_NUMBER ⟨_, rfl⟩) (nomark _))))))) pa_nil)))), fun ds d hR G0 H0 Q Z k => ?_⟩
    obtain ⟨ts, rfl, hl, rfl⟩ := hR
    refine c_ret (ev_is (ev_any (bs := ts.map Sl.bigT) (ev_is (n_lc (it_list (ev_var rfl) .lst) _ [1, 2, 3] (three 1 2 3) (fun d hd => dTs_tg d hd) (by decide) (fun _ => true) (fun d => .bl (Sl.bigT (toTm d))) (by rw [dTs_len]; omega) (fun d hd => et_yes) (fun d hd _ => ?_)).ev ?_).r) ?_) k
    · obtain ⟨t, ht, rfl⟩ := List.mem_map.mp hd
      rw [toTm_dT]
      refine ev_is (ev_orV (ev_opB (ev_var rfl).r ev_i.r).r fun _ => ev_orV (ev_opB (ev_abs rfl (ev_var rfl).r).r ev_i.r).r fun _ => ev_opB (ev_var rfl).r ev_i.r) ?_
      exact congrArg D.bl (bigT_int t)
    · rw [picked_all (fun _ _ => rfl)]
      unfold dTs dB
      rw [List.map_map, List.map_map]
      congr 1
    · unfold Sl.tooBig
      rw [List.any_map]
      rfl
abbrev s_texts_refusal : Stmt := topS 54
abbrev nm_texts_refusal : List Str := ["polynomials", "terms"]
theorem sc_texts_refusal : FnScope nm_texts_refusal ["polynomials"] (defScope s_texts_refusal) := ⟨rfl, rfl, rfl, by decide +kernel, rfl, by decide +kernel, by decide +kernel⟩
def refusal (os : List (Option (List Sl.Tm))) : Int := if os.any (fun o => o.isNone) then -1 else if os.any (fun o => Sl.tooBig (o.getD [])) then -2 else 0
def R_texts_refusal : List D → D → Prop := fun ds d => ∃ os : List (Option (List Sl.Tm)), ds = [.lst (os.map dOTs)] ∧ os.length ≤ 100 ∧ (∀ ts, some ts ∈ os → ts.length ≤ 1000) ∧ d = .int (refusal os)
theorem len_texts_refusal {ds : List D} {d : D} (h : R_texts_refusal ds d) : ds.length = 1 := by obtain ⟨a, rfl, _⟩ := h; rfl
theorem any_none2 : ∀ l : List (Option (List Sl.Tm)), ((toPys (l.map dOTs)).any fun z => PyData.eqv z (toPy .non)) = l.any fun o => o.isNone
  | [] => rfl
  | x :: l => by
    show (PyData.eqv (toPy (dOTs x)) .none || ((toPys (l.map dOTs)).any fun z => PyData.eqv z (toPy .non))) = _
    rw [any_none2 l]
    show _ = (x.isNone || l.any fun o => o.isNone)
    congr 1
    cases x <;> rfl
theorem dOTs_dep (o : Option (List Sl.Tm)) : Dep 2 (dOTs o) := by
  cases o with
  | none => exact dep_non 2
  | some t => exact dTs_dep t
def bigD : D → Bool
  | .lst l => Sl.tooBig (l.map toTm)
  | _ => false
theorem bigD_at (ts : List Sl.Tm) : bigD (.lst (dTs ts)) = Sl.tooBig ts := by
  show Sl.tooBig ((dTs ts).map toTm) = _
  rw [toTm_dTs]
theorem ok_texts_refusal {P : Program} {w : World} {K : PySem.W.Frag} {mg : Str → Option Value} {base : Heap} {f : Addr} {fd : FuncData} (T : Txt mg) (c_too_big : Cal P w K mg base 1 "too_big" ["terms"] R_too_big) (n_NOT_SUCH_A_TEXT : Num mg "NOT_SUCH_A_TEXT" (-1)) (n_TOO_BIG : Num mg "TOO_BIG" (-2)) (F : Fun K "texts_refusal" "texts_refusal" s_texts_refusal f fd) : FnOk P w K mg base CX0 2 f fd ["polynomials"] (SpR K R_texts_refusal) := by
  obtain ⟨f_too_big, fd_too_big, G_too_big, m_too_big, k_too_big, b_too_big⟩ := c_too_big.ex
  obtain ⟨t_NOT_SUCH_A_TEXT, m_NOT_SUCH_A_TEXT⟩ := n_NOT_SUCH_A_TEXT
  obtain ⟨t_TOO_BIG, m_TOO_BIG⟩ := n_TOO_BIG
  refine fn_ok F sc_texts_refusal (by decide) (fun ds d h => ?_) (fun cdv A outer s H E hr => ?_)
  · exact len_texts_refusal h
  · have hu65 := hu65_of hr
    refine ⟨_, (pss_cons (ps_if (pt_cmpR (op_inD hu65) pe_non (pv 0) (by with_unfolding_all rfl)) (pss_one (ps_ret (pe_glob (v := .int (-1)) (by rfl) m_NOT_SUCH_A_TEXT ⟨_, rfl⟩))) pss_nil)
      (pss_cons (ps_if (pt_val (pe_callB (cr_any rfl) (by rfl) T.b_any (by decide +kernel) (pa_cons (pe_lc (own := [("terms", 1)]) rfl sc_texts_refusal.nd (pi_list (pv 0)) (blkOk_by (own := [("terms", 1)]) (N := nm_texts_refusal) (sc := defScope s_texts_refusal) (by decide +kernel)) (fun _ _ _ _ _ => by exact (pg_name (i := 1) sc_texts_refusal.nd rfl (Or.inl rfl))) (fun _ _ _ _ _ => by exact pts_nil) (fun _ _ _ _ _ => by exact (pe_call G_too_big (hr.mono (by decide)) (by rfl) m_too_big k_too_big b_too_big .nil pass0 (pa_cons (pv 1) pa_nil)))) pa_nil))) (pss_one (ps_ret (pe_glob (v := .int (-2)) (by rfl) m_TOO_BIG ⟨_, rfl⟩))) pss_nil)
      (pss_one (ps_ret pe_int)))), fun ds d hR G0 H0 Q Z k => ?_⟩
    obtain ⟨os, rfl, hl, hts, rfl⟩ := hR
    have hsh : Sh (.lst (os.map dOTs)) := sh_of (n := 3) (dep_lst fun d hd => by
      obtain ⟨o, _, rfl⟩ := List.mem_map.mp hd
      exact dOTs_dep o) (by decide)
    refine q_when (et_is (et_test (ev_inD ev_non.r (ev_var rfl).r sh_non hsh).r) (any_none2 os)) (fun q => ?_) (fun q => ?_)
    · refine c_ret (ev_is ev_i ?_) k
      unfold refusal
      rw [if_pos q]
    · have hsome : ∀ o ∈ os, ∃ ts, o = some ts := fun o ho => by
        cases o with
        | none => exact absurd rfl (List.any_eq_false.mp q none ho)
        | some ts => exact ⟨ts, rfl⟩
      refine q_when (et_B (ev_any (bs := os.map fun o => Sl.tooBig (o.getD [])) (ev_is (n_lc (it_list (ev_var rfl) .lst) _ [1] (fun d as => as.set 1 (.dat d)) (fun d hd => tg_name) (by decide) (fun _ => true) (fun d => .bl (bigD d)) (by rw [List.length_map]; omega) (fun d hd => et_yes) (fun d hd _ => ?_)).ev ?_).r).r) (fun q2 => ?_) (fun q2 => ?_)
      · obtain ⟨o, ho, rfl⟩ := List.mem_map.mp hd
        obtain ⟨ts, rfl⟩ := hsome o ho
        exact ev_call (ea_cons (ev_var rfl) ea_nil) ⟨ts, rfl, hts ts ho, congrArg D.bl (bigD_at ts)⟩
      · rw [picked_all (fun _ _ => rfl)]
        unfold dB
        rw [List.map_map, List.map_map]
        congr 1
        refine List.map_congr_left fun o ho => ?_
        obtain ⟨ts, rfl⟩ := hsome o ho
        exact congrArg D.bl (bigD_at ts)
      · refine c_ret (ev_is ev_i ?_) k
        rw [List.any_map] at q2
        unfold refusal
        rw [q, if_neg (by decide), if_pos]
        exact q2
      · refine c_ret (ev_is ev_i ?_) k
        rw [List.any_map] at q2
        unfold refusal
        rw [q, if_neg (by decide), if_neg]
        intro z
        have z' : (os.any (id ∘ fun o => Sl.tooBig (o.getD []))) = true := z
        rw [q2] at z'; cases z'
end Pg
set_option Elab.async false
set_option linter.all false
set_option maxRecDepth 100000
set_option maxHeartbeats 2000000
namespace Pg
open PySem PyProof.Rows L2 Fw
abbrev s_told : Stmt := topS 60
abbrev nm_told : List Str := ["number", "polynomials", "bottom", "answer", "numbers", "text"]
theorem sc_told : FnScope nm_told ["number", "polynomials", "bottom"] (defScope s_told) := ⟨rfl, rfl, rfl, by decide +kernel, rfl, by decide +kernel, by decide +kernel⟩
def told1 (m : Int) (l : List Int) : List Nat := (Sl.write (Sl.termsOver l m)).length :: Sl.write (Sl.termsOver l m)
def toldP (c : Nat) (m : Int) (ps : List (List Int)) (i : Nat) : List Nat := c :: (ps.take i).flatMap (told1 m)
theorem toldP_more {c : Nat} {m : Int} {ps : List (List Int)} {i : Nat} {l : List Int} (h : ps[i]? = some l) : toldP c m ps (i + 1) = toldP c m ps i ++ told1 m l := by
  unfold toldP
  rw [List.take_add_one, h, List.flatMap_append]
  simp
theorem toldP_le (c : Nat) (m : Int) (ps : List (List Int)) : ∀ d i, i + d = ps.length → (toldP c m ps i).length ≤ (toldP c m ps ps.length).length
  | 0, i, h => by have : i = ps.length := by omega
                  rw [this]; exact Nat.le_refl _
  | d + 1, i, h => by
    have ih := toldP_le c m ps d (i + 1) (by omega)
    have hi : i < ps.length := by omega
    rw [toldP_more (List.getElem?_eq_getElem hi), List.length_append] at ih
    omega
def R_told : List D → D → Prop := fun ds d => ∃ (c : Nat) (ps : List (List Int)) (m : Int), ds = [.int (c : Int), .lst (dLL ps), .int m] ∧ m ≠ 0 ∧ m.natAbs.log2 < 9000 ∧ ps.length ≤ 1001 ∧ (∀ l ∈ ps, (l.length ≤ 1000 ∧ (Sl.write (Sl.termsOver l m)).length ≤ 900000) ∧ ∀ t ∈ Sl.termsOver l m, Okt t) ∧ (toldP c m ps ps.length).length ≤ 999000 ∧ d = .lst (dN (toldP c m ps ps.length))
theorem len_told {ds : List D} {d : D} (h : R_told ds d) : ds.length = 3 := by obtain ⟨a, b, c, rfl, _⟩ := h; rfl
theorem ok_told {P : Program} {w : World} {K : PySem.W.Frag} {mg : Str → Option Value} {base : Heap} {f : Addr} {fd : FuncData} (T : Txt mg) (c_write_polynomial : Cal P w K mg base 4 "write_polynomial" ["terms"] R_write_polynomial) (c_terms_over : Cal P w K mg base 3 "terms_over" ["numbers", "bottom"] R_terms_over) (F : Fun K "told" "told" s_told f fd) : FnOk P w K mg base CX0 5 f fd ["number", "polynomials", "bottom"] (SpR K R_told) := by
  obtain ⟨f_write_polynomial, fd_write_polynomial, G_write_polynomial, m_write_polynomial, k_write_polynomial, b_write_polynomial⟩ := c_write_polynomial.ex
  obtain ⟨f_terms_over, fd_terms_over, G_terms_over, m_terms_over, k_terms_over, b_terms_over⟩ := c_terms_over.ex
  refine fn_ok F sc_told (by decide) (fun ds d h => ?_) (fun cdv A outer s H E hr => ?_)
  · exact len_told h
  · have hu65 := hu65_of hr
    refine ⟨_, (pss_cons (ps_set (i := 3) sc_told.nd rfl (Or.inl rfl) (pe_lst (pa_cons (pv 0) pa_nil)))
      (pss_cons (ps_for PassesOwn.never rfl (pi_list (pv 1)) (pg_name (i := 4) sc_told.nd rfl (Or.inl rfl)) (pss_cons (ps_set (i := 5) sc_told.nd rfl (Or.inl rfl) (pe_call G_write_polynomial (hr.mono (by decide)) (by rfl) m_write_polynomial k_write_polynomial b_write_polynomial .nil pass0 (pa_cons (pe_call G_terms_over (hr.mono (by decide)) (by rfl) m_terms_over k_terms_over b_terms_over .nil pass0 (pa_cons (pv 4) (pa_cons (pv 2) pa_nil))) pa_nil)))
      (pss_cons (ps_expr (pe_bm PySem.F.plainAttrs_list PySem.F.slot_list_append PySem.F.type_list_append mt_append (pv 3) (pa_cons (pe_callB call_len_seq (by rfl) T.b_len PySem.boot_len (pa_cons (pv 5) pa_nil)) pa_nil)))
      (pss_one (ps_expr (pe_bm PySem.F.plainAttrs_list PySem.F.slot_list_extend PySem.F.type_list_extend mt_extend (pv 3) (pa_cons (pv 5) pa_nil)))))))
      (pss_one (ps_ret (pv 3))))), fun ds d hR G0 H0 Q Z k => ?_⟩
    obtain ⟨c, ps, m, rfl, m0, ms, hl, ho, hz, rfl⟩ := hR
    refine q_new (ds := dN (toldP c m ps 0)) (n_is (n_lst (ea_cons (ev_var rfl) ea_nil) (by show 1 ≤ 1000000; decide)) (by rfl)) ?_
    refine q_for (ds := dLL ps) (it_list (ev_var rfl) .lst) (fun i => [.dat (.int (c : Int)), .dat (.lst (dLL ps)), .dat (.int m), .mu (dN (toldP c m ps i)), .no, .no]) [4] (fun d as => as.set 4 (.dat d)) (fun d _ => tg_name) (le_eq rfl (le_eq rfl (le_eq rfl (le_eq rfl (le_refl _))))) (fun B C sub i d hd => ?_) ?_
    · obtain ⟨l, hli, rfl⟩ := dLL_get hd
      have hi : i < ps.length := (List.getElem?_eq_some_iff.mp hli).1
      obtain ⟨⟨h1, h9⟩, h2⟩ := ho l (List.mem_of_getElem? hli)
      have hle := toldP_le c m ps (ps.length - (i + 1)) (i + 1) (by omega)
      rw [toldP_more hli, List.length_append] at hle
      rw [toldP_more hli]
      have e1 : (told1 m l).length = (Sl.write (Sl.termsOver l m)).length + 1 := rfl
      have e2 : told1 m l = (Sl.write (Sl.termsOver l m)).length :: Sl.write (Sl.termsOver l m) := rfl
      rw [e2]
      generalize toldP c m ps i = s at *
      show Co K B C [.dat (.int (c : Int)), .dat (.lst (dLL ps)), .dat (.int m), .mu (dN s), .dat (.lst (dI l)), .no] _
      refine q_asg (d := .lst (dN (Sl.write (Sl.termsOver l m)))) (ev_call (ea_cons (ev_call (ea_cons (ev_var rfl) (ea_cons (ev_var rfl) ea_nil)) ⟨l, m, rfl, h1, m0, ms, rfl⟩) ea_nil) ⟨_, rfl, h2, h9, rfl⟩) ?_
      refine q_app rfl (ev_len rfl (ev_var rfl).r .lst) (by rw [dN_len]; omega) ?_
      refine c_ext rfl (ev_var rfl) (by rw [List.length_append, dN_len, dN_len]; show _ + 1 + _ ≤ _; omega) ?_
      refine c_at (le_eq rfl (le_eq rfl (le_eq rfl (le_eq ?_ (le_no (le_no le_nil))))))
      rw [dN_len, dN_append]
      show AS.mu (dN s ++ D.int _ :: dN _) = AS.mu (dN s ++ [D.int _] ++ dN _)
      rw [List.append_assoc]
      rfl
    · refine c_frz (n := 3) rfl ?_
      refine c_ret (ev_is (ev_var rfl) ?_) k
      rw [dLL_len]
end Pg
set_option Elab.async false
set_option linter.all false
set_option maxRecDepth 100000
namespace Pg
open PySem PyProof.Rows L2 Fw
open Sl (Tm Valid Rel RelAll Tr TrI)
open AlOne (Uni)
/-! ### the texts, as data -/
def dTx (texts : List (List Nat)) : List D := texts.map fun t => D.inp (dN t)
def osOf (texts : List (List Nat)) : List (Option (List Sl.Tm)) := texts.map Sl.read
def lsOf (texts : List (List Nat)) : List (List Sl.Tm) := (osOf texts).map fun o => o.getD []
def readD : D → D
  | .inp l => dOTs (Sl.read (l.map fun x => (toI x).toNat))
  | d => d
theorem readD_at (t : List Nat) : readD (.inp (dN t)) = dOTs (Sl.read t) := by
  show dOTs (Sl.read ((dN t).map fun x => (toI x).toNat)) = _
  unfold dN
  rw [List.map_map]
  have : (t.map ((fun x => (toI x).toNat) ∘ fun (b : Nat) => D.int (b : Int))) = t := by
    have := List.map_congr_left (f := (fun x => (toI x).toNat) ∘ fun (b : Nat) => D.int (b : Int)) (g := id) (l := t) fun b _ => rfl
    rw [this]; simp
  rw [this]
theorem os_ls {os : List (Option (List Sl.Tm))} (h : refusal os = 0) : os.map dOTs = dLT (os.map fun o => o.getD []) := by
  unfold refusal at h
  split at h
  · cases h
  · rename_i q
    unfold dLT
    rw [List.map_map]
    refine List.map_congr_left fun o ho => ?_
    cases o with
    | none => exact absurd (List.any_eq_true.mpr ⟨none, ho, rfl⟩) q
    | some ts => rfl
/-! ### what was read, if nothing is refused -/
theorem fall_len5 : ∀ (l : List Tm) (m : Nat), (l.Pairwise fun a b => b.p < a.p) → (∀ t ∈ l, t.p < m) → l.length ≤ m
  | [], _, _, _ => Nat.zero_le _
  | t :: l, m, h, hp => by
    obtain ⟨h1, h2⟩ := List.pairwise_cons.mp h
    have ht := hp t (List.mem_cons_self ..)
    have := fall_len5 l t.p h2 h1
    rw [List.length_cons]
    omega
theorem oks_of {l : List Tm} (h : Valid l) (hb : Sl.tooBig l = false) : Oks l := by
  have hs : ∀ t ∈ l, t.p < 5 ∧ t.n.natAbs < 2 ^ 14 ∧ t.d < 2 ^ 14 := fun t ht => by
    have := List.any_eq_false.mp hb t ht
    unfold Sl.bigT at this
    simp at this
    omega
  exact ⟨fall_len5 l 5 h.fall fun t ht => (hs t ht).1, fun t ht => (hs t ht).1, fun t ht => (h.good t ht).d0, fun t ht => (hs t ht).2.2, fun t ht => (hs t ht).2.1⟩
theorem refusal_zero {os : List (Option (List Tm))} (h : refusal os = 0) : ∀ o ∈ os, ∃ ts, o = some ts ∧ Sl.tooBig ts = false := fun o ho => by
  unfold refusal at h
  split at h
  · cases h
  · rename_i q
    split at h
    · cases h
    · rename_i q2
      cases o with
      | none => exact absurd (List.any_eq_true.mpr ⟨none, ho, rfl⟩) q
      | some ts =>
        refine ⟨ts, rfl, ?_⟩
        have := mt (fun z => List.any_eq_true.mpr ⟨some ts, ho, z⟩) q2
        simpa using this
theorem ls_ok {texts : List (List Nat)} (h : refusal (osOf texts) = 0) : ∀ ts ∈ lsOf texts, Valid ts ∧ Sl.tooBig ts = false ∧ Oks ts := fun ts hm => by
  obtain ⟨o, ho, rfl⟩ := List.mem_map.mp hm
  obtain ⟨ts, rfl, hb⟩ := refusal_zero h o ho
  obtain ⟨t, _, e⟩ := List.mem_map.mp ho
  have hv := (Sl.read_sound e).1
  exact ⟨hv, hb, oks_of hv hb⟩
theorem rest_ge : ∀ l : List Tm, l.length ≤ (Sl.wRest l).length
  | [] => Nat.zero_le _
  | t :: l => by
    have ih := rest_ge l
    have e : Sl.wRest (t :: l) = Sl.wOne t ++ Sl.wRest l := rfl
    have h1 : 1 ≤ (Sl.wOne t).length := by
      unfold Sl.wOne
      rw [List.length_cons]; omega
    rw [e, List.length_append, List.length_cons]
    omega
theorem write_ge (l : List Tm) : l.length ≤ (Sl.write l).length + 1 := by
  cases l with
  | nil => exact Nat.zero_le _
  | cons t l =>
    have := rest_ge l
    show (t :: l).length ≤ ((if t.n < 0 then [45] else []) ++ Sl.wTerm t.p t.n.natAbs t.d ++ Sl.wRest l).length + 1
    rw [List.length_append, List.length_append, List.length_cons]
    omega
theorem os_len {texts : List (List Nat)} (h : ∀ t ∈ texts, t.length ≤ 200) : ∀ ts, some ts ∈ osOf texts → ts.length ≤ 1000 := fun ts hm => by
  obtain ⟨t, ht, e⟩ := List.mem_map.mp hm
  have h1 := (Sl.read_sound e).2
  have h2 := write_ge ts
  have h3 := h t ht
  rw [h1] at h2
  omega
/-! ### whole numbers of them -/
theorem nums_sz {c k : Nat} (hc : c < 2 ^ k) : ∀ (ts : List Tm) (l : List Int), (∀ t ∈ ts, t.n.natAbs < 2 ^ 14) → Sz (k + 14) l → Sz (k + 14) (Sl.numsGo c ts l)
  | [], l, _, h => h
  | t :: ts, l, hn, h => nums_sz hc ts _ (fun s hs => hn s (List.mem_cons_of_mem _ hs)) fun x hx => by
    rcases List.mem_or_eq_of_mem_set hx with q | q
    · exact h x q
    · rw [q, Int.natAbs_mul, Int.natAbs_natCast, Nat.pow_add]
      exact Nat.mul_lt_mul'' (Nat.lt_of_le_of_lt (Nat.div_le_self _ _) hc) (hn t (List.mem_cons_self ..))
theorem whole_ok {ts : List Tm} {c k : Nat} (ho : Oks ts) (hc : c < 2 ^ k) : (Sl.wholeI ts c).length ≤ 5 ∧ Sz (k + 14) (Sl.wholeI ts c) ∧ Sl.TrI (Sl.wholeI ts c) := by
  unfold Sl.wholeI
  refine ⟨Nat.le_trans (Sl.trimI_len _) (by rw [Sl.numsGo_len]; simp), fun x hx => ?_, Sl.trimI_tr _⟩
  refine nums_sz hc ts _ ho.n (fun y hy => ?_) x (Sl.trimI_mem _ _ hx)
  rw [List.eq_of_mem_replicate hy]; exact Nat.two_pow_pos _
def uniT (ts : List Tm) : Uni := Sl.uniOf (ts.map Sl.xr)
structure Rd (ts : List Tm) : Prop where
  v : Valid ts
  b : Sl.tooBig ts = false
  o : Oks ts
theorem rel_all {c : Nat} (hc : 0 < c) : ∀ l : List (List Tm), (∀ ts ∈ l, Rd ts) → (∀ ts ∈ l, ∀ t ∈ ts, t.d ∣ c) → RelAll (c : Rat) (l.map fun ts => Sl.wholeI ts c) (l.map uniT)
  | [], _, _ => .nil
  | ts :: l, h, hd => .cons (Sl.whole_rel (h ts (List.mem_cons_self ..)).v (h ts (List.mem_cons_self ..)).b hc (hd ts (List.mem_cons_self ..))) (rel_all hc l (fun s hs => h s (List.mem_cons_of_mem _ hs)) fun s hs => hd s (List.mem_cons_of_mem _ hs))
theorem rel_take {s : Rat} : ∀ (n : Nat) {as : List (List Int)} {ps : List Uni}, RelAll s as ps → RelAll s (as.take n) (ps.take n)
  | 0, _, _, _ => by rw [List.take_zero, List.take_zero]; exact .nil
  | n + 1, _, _, .nil => .nil
  | n + 1, _, _, .cons h r => .cons h (rel_take n r)
theorem rel_get {s : Rat} : ∀ (n : Nat) {as : List (List Int)} {ps : List Uni}, RelAll s as ps → Rel s (as.getD n []) (ps.getD n [])
  | n, _, _, .nil => fun m => by
    rw [List.getD_nil, List.getD_nil, Sl.co_nil, Sl.cq_nil]
    show (0 : Rat) = s * 0
    grind
  | 0, _, _, .cons h r => h
  | n + 1, _, _, .cons h r => by
    have := rel_get n r
    simpa using this
/-! ### how great a left side's numbers are -/
theorem cvI_lt {i j : Nat} {g : Nat → Int} (hg : ∀ n, (g n).natAbs < 2 ^ j) : ∀ (a : List Int) (n : Nat), Sz i a → (Sl.cvI a g n).natAbs ≤ a.length * 2 ^ (i + j)
  | [], n, _ => by show (0 : Int).natAbs ≤ _; simp
  | c :: a, n, h => by
    have hc := h c (List.mem_cons_self ..)
    have h1 : (c * g n).natAbs ≤ 2 ^ (i + j) := by
      rw [Int.natAbs_mul, Nat.pow_add]
      exact Nat.mul_le_mul (Nat.le_of_lt hc) (Nat.le_of_lt (hg n))
    rw [List.length_cons, Nat.add_mul, Nat.one_mul]
    cases n with
    | zero =>
      show (c * g 0).natAbs ≤ _
      exact Nat.le_trans h1 (Nat.le_add_left _ _)
    | succ n =>
      have ih := cvI_lt hg a n fun x hx => h x (List.mem_cons_of_mem _ hx)
      show (c * g (n + 1) + Sl.cvI a g n).natAbs ≤ _
      exact Nat.le_trans (Int.natAbs_add_le _ _) (by omega)
theorem timesI_sz {i j m : Nat} {a b : List Int} (ha : Sz i a) (hb : Sz j b) (hl : a.length < 2 ^ m) : Sz (i + j + m) (Sl.timesI a b) := sz_of_co fun n => by
  rw [Sl.timesI_co]
  refine Nat.lt_of_le_of_lt (cvI_lt (fun n => sz_co hb n) a n ha) ?_
  rw [Nat.pow_add 2 (i + j) m, Nat.mul_comm]
  exact Nat.mul_lt_mul_of_pos_left hl (Nat.two_pow_pos _)
theorem plusI_sz {k : Nat} {a b : List Int} (ha : Sz k a) (hb : Sz k b) : Sz (k + 1) (Sl.plusI a b) := sz_of_co fun n => by
  rw [Sl.plusI_co, pow_more]
  have h1 := sz_co ha n
  have h2 := sz_co hb n
  omega
theorem leftSt_sz {k i kind : Nat} {y : List Int} (hy : y.length ≤ 100) (hs : Sz k y) : ∀ ps : List (List Int), (∀ p ∈ ps, p.length ≤ 100 ∧ Sz i p) → Sz (i + k + 7 + 101 * ps.length) (leftSt kind ps y).1 := by
  intro ps
  generalize hn : ps.length = n
  induction n generalizing ps with
  | zero =>
    intro _
    have : ps = [] := List.eq_nil_of_length_eq_zero hn
    subst this
    intro x hx; cases hx
  | succ n ih =>
    intro h
    obtain ⟨v, b, rfl⟩ : ∃ v b, ps = v ++ [b] := ⟨ps.dropLast, ps.getLast (by intro z; subst z; simp at hn), (List.dropLast_concat_getLast _).symm⟩
    rw [List.length_append] at hn
    have hv : v.length = n := by simpa using hn
    have h1 := ih v hv fun p hp => h p (List.mem_append.mpr (.inl hp))
    have hb := h b (by simp)
    obtain ⟨h2, h3⟩ := leftSt_ok (kind := kind) hy hs v
    rw [hv] at h3
    rw [leftSt_more]
    have ht := timesI_sz (m := 7) hb.2 h3 (by omega)
    exact sz_mono (plusI_sz (sz_mono h1 (by omega : _ ≤ i + k + 7 + 101 * n + 100)) (sz_mono ht (by omega))) (by omega)
theorem leftI_sz {k i kind : Nat} {y : List Int} {ps : List (List Int)} (hy : y.length ≤ 100) (hs : Sz k y) (h : ∀ p ∈ ps, p.length ≤ 100 ∧ Sz i p) : Sz (i + k + 7 + 101 * ps.length) (Sl.leftI kind ps y) := by rw [leftI_st]; exact leftSt_sz hy hs ps h
theorem leftI_len {kind : Nat} {y : List Int} {ps : List (List Int)} (hy : y.length ≤ 100) (h : ∀ p ∈ ps, p.length ≤ 100) : (Sl.leftI kind ps y).length ≤ 300 := by rw [leftI_st]; exact leftSt_len hy ps h
theorem leftSt_len2 {a b kind : Nat} {y : List Int} (hy : y.length ≤ a) : ∀ ps : List (List Int), (∀ p ∈ ps, p.length ≤ b) → (leftSt kind ps y).2.length ≤ a ∧ (leftSt kind ps y).1.length ≤ a + b := by
  intro ps
  generalize hn : ps.length = n
  induction n generalizing ps with
  | zero =>
    intro _
    have : ps = [] := List.eq_nil_of_length_eq_zero hn
    subst this
    exact ⟨hy, Nat.zero_le _⟩
  | succ n ih =>
    intro h
    obtain ⟨v, c, rfl⟩ : ∃ v b, ps = v ++ [b] := ⟨ps.dropLast, ps.getLast (by intro z; subst z; simp at hn), (List.dropLast_concat_getLast _).symm⟩
    rw [List.length_append] at hn
    obtain ⟨h1, h2⟩ := ih v (by simpa using hn) fun p hp => h p (List.mem_append.mpr (.inl hp))
    have hc := h c (by simp)
    rw [leftSt_more]
    refine ⟨?_, ?_⟩
    · unfold leftStep
      by_cases hk : kind = 0
      · rw [if_pos hk]; exact Nat.le_trans (slopeI_len _) h1
      · rw [if_neg hk]; exact Nat.le_trans (stepI_len _) h1
    · show (Sl.plusI (leftSt kind v y).1 (Sl.timesI c (leftSt kind v y).2)).length ≤ a + b
      have := plusI_len (leftSt kind v y).1 (Sl.timesI c (leftSt kind v y).2)
      have := timesI_len c (leftSt kind v y).2
      omega
theorem leftI_len2 {a b kind : Nat} {y : List Int} {ps : List (List Int)} (hy : y.length ≤ a) (h : ∀ p ∈ ps, p.length ≤ b) : (Sl.leftI kind ps y).length ≤ a + b := by rw [leftI_st]; exact (leftSt_len2 hy ps h).2
/-! ### the terms' numbers -/
theorem lowT_le {i : Nat} {n m : Int} (hm : m ≠ 0) : (Sl.lowT i n m).n.natAbs ≤ n.natAbs ∧ (Sl.lowT i n m).d ≤ m.natAbs := by
  obtain ⟨a, b, ea, eb, hb, _, h0⟩ := Sl.low_parts (n := n) hm
  have hg : 1 ≤ (Sl.lowG n m).natAbs := by omega
  unfold Sl.lowT
  constructor
  · show (n.fdiv (Sl.lowG n m)).natAbs ≤ n.natAbs
    generalize Sl.lowG n m = g at *
    rw [ea, Int.mul_fdiv_cancel_left a h0, Int.natAbs_mul]
    exact Nat.le_mul_of_pos_left _ hg
  · show (m.fdiv (Sl.lowG n m)).toNat ≤ m.natAbs
    generalize Sl.lowG n m = g at *
    rw [eb, Int.mul_fdiv_cancel_left _ h0, Int.natAbs_mul, Int.toNat_natCast, Int.natAbs_natCast]
    exact Nat.le_mul_of_pos_left _ hg
theorem terms_bd {k : Nat} {l : List Int} {m : Int} (hm : m ≠ 0) (hk : l.length ≤ k) (hs : Sz k l) (hb : m.natAbs < 2 ^ k) (h1 : 0 < k) : ∀ t ∈ Sl.termsOver l m, Bdt k t := fun t ht => by
  unfold Sl.termsOver at ht
  obtain ⟨i, hi, rfl⟩ := List.mem_map.mp ht
  have hi' := List.mem_range.mp (List.mem_filter.mp (List.mem_reverse.mp hi)).1
  obtain ⟨a, b⟩ := lowT_le (i := i) (n := Sl.co l i) hm
  refine ⟨?_, ?_, ?_⟩
  · show i.log2 ≤ k
    exact Nat.le_trans (Nat.log2_le_self i) (by omega)
  · exact Nat.le_of_lt (log2_of_lt (Nat.lt_of_le_of_lt a (sz_co hs i)) h1)
  · exact Nat.le_of_lt (log2_of_lt (Nat.lt_of_le_of_lt b hb) h1)
theorem terms_len (l : List Int) (m : Int) : (Sl.termsOver l m).length ≤ l.length := by
  unfold Sl.termsOver
  rw [List.length_map, List.length_reverse]
  have := List.length_filter_le (fun i => decide (Sl.co l i ≠ 0)) (List.range l.length)
  rwa [List.length_range] at this
theorem okt_of {k : Nat} {t : Tm} (h : Bdt k t) (hk : k < 100000) : Okt t := ⟨Nat.lt_of_le_of_lt h.p hk, Nat.lt_of_le_of_lt h.n hk, Nat.lt_of_le_of_lt h.d hk⟩
end Pg
set_option Elab.async false
set_option linter.all false
set_option maxRecDepth 100000
namespace Pg
open PySem PyProof.Rows L2 Fw
open Sl (Tm Valid Rel RelAll Tr TrI)
open AlOne (Uni)
/-! ### the texts, by the specification -/
theorem mapM_os : ∀ t : List (List Nat), t.mapM AlOne.read = if (osOf t).any (fun o => o.isNone) = true then none else some ((lsOf t).map uniT)
  | [] => by simp [osOf, lsOf]
  | x :: t => by
    have ih := mapM_os t
    rw [List.mapM_cons, Sl.read_spec x]
    have e1 : osOf (x :: t) = Sl.read x :: osOf t := rfl
    have e2 : lsOf (x :: t) = (Sl.read x).getD [] :: lsOf t := rfl
    rw [e1, e2, List.any_cons]
    cases e : Sl.read x with
    | none => rfl
    | some l =>
      show ((t.mapM AlOne.read).bind fun r => some (uniT l :: r)) = _
      rw [ih]
      show _ = if (osOf t).any (fun o => o.isNone) = true then none else some (uniT l :: (lsOf t).map uniT)
      by_cases q : (osOf t).any (fun o => o.isNone) = true
      · rw [if_pos q, if_pos q]; rfl
      · rw [if_neg q, if_neg q]; rfl
theorem all_fits : ∀ t : List (List Nat), ¬ (osOf t).any (fun o => o.isNone) = true → ((lsOf t).map uniT).all Al10.fits = !((osOf t).any fun o => Sl.tooBig (o.getD []))
  | [], _ => rfl
  | x :: t, h => by
    have e1 : osOf (x :: t) = Sl.read x :: osOf t := rfl
    have e2 : lsOf (x :: t) = (Sl.read x).getD [] :: lsOf t := rfl
    rw [e1, List.any_cons] at h
    cases e : Sl.read x with
    | none => rw [e] at h; exact absurd rfl h
    | some l =>
      rw [e] at h
      have h' : ¬ (osOf t).any (fun o => o.isNone) = true := fun z => h (by rw [z]; rfl)
      have ih := all_fits t h'
      rw [e1, e2, e, List.map_cons, List.all_cons, List.any_cons, ih]
      show (Al10.fits (uniT l) && _) = !(Sl.tooBig l || _)
      unfold uniT
      rw [Sl.fits_spec (Sl.read_sound e).1, Bool.not_or]
theorem polys_is (t : List (List Nat)) (go : List Uni → Al10.Ans) : Al10.polys t go = if refusal (osOf t) ≠ 0 then Al10.no (refusal (osOf t)) else go ((lsOf t).map uniT) := by
  unfold Al10.polys
  rw [mapM_os]
  by_cases q : (osOf t).any (fun o => o.isNone) = true
  · have r : refusal (osOf t) = -1 := by unfold refusal; rw [if_pos q]
    rw [if_pos q, r, if_pos (by decide)]
  · rw [if_neg q]
    have hf := all_fits t q
    show (if ((lsOf t).map uniT).all Al10.fits = false then Al10.no (-2) else go ((lsOf t).map uniT)) = _
    rw [hf]
    by_cases q2 : ((osOf t).any fun o => Sl.tooBig (o.getD [])) = true
    · have r : refusal (osOf t) = -2 := by unfold refusal; rw [if_neg q, if_pos q2]
      rw [q2, r, if_pos (by decide), if_pos (by decide)]
    · have r : refusal (osOf t) = 0 := by unfold refusal; rw [if_neg q, if_neg q2]
      rw [r, if_neg (by simpa using q2), if_neg (by decide)]
theorem nats_back (t : List Nat) : Al10Neutral.nats (t.map fun (b : Nat) => (b : Int)) = t := by
  unfold Al10Neutral.nats
  rw [List.map_map]
  have := List.map_congr_left (f := Int.toNat ∘ fun (b : Nat) => (b : Int)) (g := id) (l := t) fun b _ => rfl
  rw [this]; simp
theorem nats_all (ts : List (List Nat)) : (ts.map fun t => t.map fun (b : Nat) => (b : Int)).map Al10Neutral.nats = ts := by
  rw [List.map_map]
  have := List.map_congr_left (f := Al10Neutral.nats ∘ fun t => t.map fun (b : Nat) => (b : Int)) (g := id) (l := ts) fun t _ => nats_back t
  rw [this]; simp
theorem rds_of {texts : List (List Nat)} (h : refusal (osOf texts) = 0) : ∀ ts ∈ lsOf texts, Rd ts := fun ts ht => let ⟨a, b, c⟩ := ls_ok h ts ht; ⟨a, b, c⟩
/-! ### what is handed in -/
open PySem.W (Codec)
theorem and_l {a b : Type} {p : a → Bool} {q : b → Bool} {x : a × b} (h : Codec.inPair p q x = true) : p x.1 = true := (Bool.and_eq_true_iff.mp h).1
theorem and_r {a b : Type} {p : a → Bool} {q : b → Bool} {x : a × b} (h : Codec.inPair p q x = true) : q x.2 = true := (Bool.and_eq_true_iff.mp h).2
theorem int_lo {hi x : Int} (h : Codec.within (.int (Int.ofNat 0) hi) x = true) : 0 ≤ x := by
  have h' : (decide (Int.ofNat 0 ≤ x) && decide (x ≤ hi)) = true := h
  have := (Bool.and_eq_true_iff.mp h').1
  exact of_decide_eq_true this
theorem list_in {m : Nat} {c : Codec} {l : List c.denote} (h : Codec.within (.list 0 m c) l = true) : l.length ≤ m ∧ ∀ x ∈ l, c.within x = true := by
  have h' : ((decide (0 ≤ l.length) && decide (l.length ≤ m)) && l.all c.within) = true := h
  obtain ⟨h1, h2⟩ := Bool.and_eq_true_iff.mp h'
  exact ⟨of_decide_eq_true (Bool.and_eq_true_iff.mp h1).2, List.all_eq_true.mp h2⟩
theorem texts_nat {n : Nat} : ∀ {l : List (List Int)}, (∀ t ∈ l, t.length ≤ n ∧ ∀ b ∈ t, 0 ≤ b) → ∃ ns : List (List Nat), l = (ns.map fun t => t.map fun (b : Nat) => (b : Int)) ∧ ∀ t ∈ ns, t.length ≤ n := fun {l} h => by
  refine ⟨l.map fun t => t.map Int.toNat, ?_, fun t ht => ?_⟩
  · rw [List.map_map]
    have := List.map_congr_left (f := (fun t => t.map fun (b : Nat) => (b : Int)) ∘ fun (t : List Int) => t.map Int.toNat) (g := id) (l := l) fun t ht => by
      show (t.map Int.toNat).map (fun (b : Nat) => (b : Int)) = t
      rw [List.map_map]
      have h2 := List.map_congr_left (f := (fun (b : Nat) => (b : Int)) ∘ Int.toNat) (g := id) (l := t) fun b hb => Int.toNat_of_nonneg ((h t ht).2 b hb)
      rw [h2]; simp
    rw [this]; simp
  · obtain ⟨s, hs, rfl⟩ := List.mem_map.mp ht
    rw [List.length_map]
    exact (h s hs).1
end Pg
set_option Elab.async false
set_option linter.all false
set_option maxRecDepth 100000
set_option maxHeartbeats 2000000
namespace Fw
open PySem PyProof.Rows L2
variable {K : PySem.W.Frag}
section
variable {as : List AS} {ta tb te tl : TE} {d e : D} {ds es : List D}
/-- a tuple is walked -/
theorem it_tup (h : EvE K tl as (.tup ds)) : ItE K (iTup K tl) as ds := fun G0 H0 G H σ E R k => h G0 H0 G H σ E _ fun v G1 H1 s1 r1 => by
  obtain ⟨a, vs, rfl, hq, r⟩ := r1.tupl
  have sq : ∀ {G2 H2 : Hp}, Same G1 G2 → Same G2 H2 → SqT K H2 a vs := fun e1 e2 => .inl (.inl (e2 _ _ (e1 _ _ hq)))
  refine ⟨a, rfl, ⟨vs, .inl (.inl (s1.s _ _ hq))⟩, k _ G1 H1 s1 ⟨fun i G2 H2 hi e1 e2 => ?_, fun G2 H2 e1 e2 => ?_, fun i d G2 H2 x H' hd e1 e2 y => ?_⟩⟩
  · have hv : i < vs.length := by rw [r.len]; exact hi
    exact ⟨vs, vs[i], sq e1 e2, List.getElem?_eq_getElem hv⟩
  · exact ⟨vs, sq e1 e2, Nat.le_of_eq r.len⟩
  · obtain ⟨rfl, y⟩ := y
    obtain ⟨v, hv, rv⟩ := r.get hd
    have e := y vs (sq e1 e2)
    rw [hv] at e
    cases e
    exact ⟨G2, Step.refl e2, rv.mono e1⟩
theorem it_range1Z {n : Int} (h : EvR K te as (.int n)) (hn : -1000000 ≤ n ∧ n ≤ 1000000) : ItE K (iRng1 (tCons te tNil)) as ((List.range n.toNat).map fun k => D.int (k : Nat)) := fun G0 H0 G H σ E R k => h G0 H0 G H σ E _ fun v G1 H1 s1 r1 => by
  refine ⟨n, by rw [r1.int_inv], by omega, by omega, k _ G1 H1 s1 ⟨fun i G3 H3 hi e1 e2 => ?_, fun G3 H3 e1 e2 => ?_, fun i d G3 H3 x H' hd e1 e2 y => ?_⟩⟩
  · rw [List.length_map, List.length_range] at hi
    exact hi
  · show n.toNat ≤ _
    rw [List.length_map, List.length_range]; omega
  · obtain ⟨rfl, rfl⟩ := y
    have hi : i < n.toNat := by
      have := (List.getElem?_eq_some_iff.mp hd).1
      rwa [List.length_map, List.length_range] at this
    rw [List.getElem?_map, List.getElem?_range hi] at hd
    cases hd
    refine ⟨G3, Step.refl e2, ?_⟩
    rw [Int.zero_add]
    exact .int _
theorem cut_init {α : Type} (xs : List α) : cut xs none (some (-1)) = xs.take (xs.length - 1) := by
  unfold cut
  rw [HT.sIx_none]
  have e : HT.sIx xs.length xs.length (some (-1)) = xs.length - 1 := by
    show (if (-1 : Int) < 0 then (-1 + (xs.length : Int)).toNat else min (Int.toNat (-1)) xs.length) = _
    rw [if_pos (by decide)]; omega
  rw [e, List.drop_zero, Nat.sub_zero]
end
end Fw
namespace Pg
open PySem PyProof.Rows L2 Fw
theorem dLL_atD {l : List (List Int)} {i : Nat} (h : i < l.length) : (dLL l)[i]? = some (.lst (dI (l.getD i []))) := by
  unfold dLL
  rw [List.getElem?_map, List.getD_eq_getElem?_getD, List.getElem?_eq_getElem h]; rfl
theorem dN_get {w : List Nat} {i : Nat} {d : D} (h : (dN w)[i]? = some d) : ∃ b, w[i]? = some b ∧ d = .int (b : Int) := by
  unfold dN at h
  rw [List.getElem?_map] at h
  cases e : w[i]? with
  | none => rw [e] at h; cases h
  | some b => rw [e] at h; exact ⟨b, rfl, (Option.some.inj h).symm⟩
theorem getD_mem {l : List (List Int)} {i : Nat} (h : i < l.length) : l.getD i [] ∈ l := by
  rw [List.getD_eq_getElem?_getD, List.getElem?_eq_getElem h]
  exact List.getElem_mem h
theorem dLL_last {l : List (List Int)} (h : 0 < l.length) : (dLL l).getLast? = some (.lst (dI (l.getD (l.length - 1) []))) := by
  rw [List.getLast?_eq_getElem?, dLL_len]
  exact dLL_atD (by omega)
def enumLL (S : List (List Int)) : List D := (dLL S).zipIdx.map fun x => pairD (.int (x.2 : Nat)) x.1
theorem enumLL_len (S : List (List Int)) : (enumLL S).length = S.length := by
  unfold enumLL; rw [List.length_map, List.length_zipIdx, dLL_len]
theorem enumLL_get {S : List (List Int)} {i : Nat} {d : D} (h : (enumLL S)[i]? = some d) : ∃ p, S[i]? = some p ∧ d = pairD (.int (i : Int)) (.lst (dI p)) := by
  unfold enumLL at h
  rw [List.getElem?_map, List.getElem?_zipIdx] at h
  cases e : (dLL S)[i]? with
  | none => rw [e] at h; cases h
  | some x =>
    rw [e] at h
    obtain ⟨p, hp, rfl⟩ := dLL_get e
    refine ⟨p, hp, ?_⟩
    have := Option.some.inj h
    rw [← this]
    show pairD (.int ((0 + i : Nat) : Int)) _ = _
    rw [Nat.zero_add]
theorem enumLL_tg {K : PySem.W.Frag} {S : List (List Int)} {i j : Nat} (d : D) (h : d ∈ enumLL S) : TgE K (gTup K 2 (gCons (gName i) (gCons (gName j) gNil))) d [i, j] (two i j d) := by
  obtain ⟨k, hk⟩ := List.mem_iff_getElem?.mp h
  obtain ⟨p, _, rfl⟩ := enumLL_get hk
  exact tg_tup2
def bgD (b : Rn.Bg) : D := .tup [.lst (dI b.tops), .int b.bottom]
theorem fact_lt {n : Nat} (h : n ≤ 20) : Al10.factorial n < 2 ^ 100 := by
  have : ∀ i : Fin 21, Al10.factorial i.val < 2 ^ 100 := by decide +kernel
  exact this ⟨n, by omega⟩
end Pg
set_option Elab.async false
set_option linter.all false
set_option maxRecDepth 100000
set_option maxHeartbeats 2000000
namespace Pg
open PySem PyProof.Rows L2 Fw
abbrev s_product_up_to : Stmt := topS 12
abbrev nm_product_up_to : List Str := ["count", "product", "factor"]
theorem sc_product_up_to : FnScope nm_product_up_to ["count"] (defScope s_product_up_to) := ⟨rfl, rfl, rfl, by decide +kernel, rfl, by decide +kernel, by decide +kernel⟩
def R_product_up_to : List D → D → Prop := fun ds d => ∃ n : Nat, ds = [.int (n : Int)] ∧ n ≤ 20 ∧ d = .int ((Al10.factorial n : Nat) : Int)
theorem len_product_up_to {ds : List D} {d : D} (h : R_product_up_to ds d) : ds.length = 1 := by obtain ⟨a, rfl, _⟩ := h; rfl
theorem ok_product_up_to {P : Program} {w : World} {K : PySem.W.Frag} {mg : Str → Option Value} {base : Heap} {f : Addr} {fd : FuncData} (T : Txt mg) (F : Fun K "product_up_to" "product_up_to" s_product_up_to f fd) : FnOk P w K mg base CX0 1 f fd ["count"] (SpR K R_product_up_to) := by
  refine fn_ok F sc_product_up_to (by decide) (fun ds d h => ?_) (fun cdv A outer s H E hr => ?_)
  · exact len_product_up_to h
  · have hu65 := hu65_of hr
    refine ⟨_, (pss_cons (ps_set (i := 1) sc_product_up_to.nd rfl (Or.inl rfl) pe_int)
      (pss_cons (ps_for PassesOwn.never rfl (pi_range2 (by rfl) T.b_range (pa_cons pe_int (pa_cons (pe_op op_add (pv 0) pe_int) pa_nil))) (pg_name (i := 2) sc_product_up_to.nd rfl (Or.inl rfl)) (pss_one (ps_set (i := 1) sc_product_up_to.nd rfl (Or.inl rfl) (pe_op op_mulW (pv 1) (pv 2)))))
      (pss_one (ps_ret (pv 1))))), fun ds d hR G0 H0 Q Z k => ?_⟩
    obtain ⟨n, rfl, hn, rfl⟩ := hR
    refine q_asg ev_i ?_
    refine q_for (it_range2 (lo := 1) (n := (n : Int) + 1) (ea_cons ev_i (ea_cons (ev_opI (ev_var rfl).r ev_i.r) ea_nil)) (by omega)) (fun i => [.dat (.int (n : Int)), .dat (.int ((Al10.factorial i : Nat) : Int)), .no]) [2] (fun d as => as.set 2 (.dat d)) (fun d _ => tg_name) (le_refl _) (fun B C sub i d hd => ?_) ?_
    · have hi : i < ((n : Int) + 1 - 1).toNat := by
        have := (List.getElem?_eq_some_iff.mp hd).1
        rwa [List.length_map, List.length_range] at this
      rw [List.getElem?_map, List.getElem?_range hi] at hd
      cases hd
      have hf := log2_of_lt (fact_lt (n := i) (by omega)) (by decide)
      have hi2 : (1 + (i : Int)).natAbs.log2 ≤ 100 := Nat.le_trans (Nat.log2_le_self _) (by omega)
      refine c_asg (ev_mul (ev_var rfl).r (ev_var rfl).r (mulW_of (a := 100) (b := 100) (by rw [Int.natAbs_natCast]; omega) hi2 (by decide))) ?_
      refine c_at (le_eq rfl (le_eq ?_ (le_no le_nil)))
      show AS.dat (.int (((i + 1) * Al10.factorial i : Nat) : Int)) = _
      congr 2
      rw [Int.natCast_mul, Int.mul_comm]
      congr 1
      omega
    · refine c_ret (ev_is (ev_var rfl) ?_) k
      rw [List.length_map, List.length_range, show ((n : Int) + 1 - 1).toNat = n by omega]
abbrev s_value_at : Stmt := topS 7
abbrev nm_value_at : List Str := ["polynomial", "place", "value", "number"]
theorem sc_value_at : FnScope nm_value_at ["polynomial", "place"] (defScope s_value_at) := ⟨rfl, rfl, rfl, by decide +kernel, rfl, by decide +kernel, by decide +kernel⟩
theorem val_sz {k j : Nat} {x : Int} (hx : x.natAbs < 2 ^ j) : ∀ l : List Int, Sz k l → (Ht.valI l x).natAbs < 2 ^ (k + (j + 1) * l.length)
  | [], _ => by show 0 < _; exact Nat.two_pow_pos _
  | c :: l, h => by
    have ih := val_sz hx l fun y hy => h y (List.mem_cons_of_mem _ hy)
    have hc := h c (List.mem_cons_self ..)
    show (Ht.valI l x * x + c).natAbs < _
    have h1 : (Ht.valI l x * x).natAbs < 2 ^ (k + (j + 1) * l.length + j) := by
      rw [Int.natAbs_mul, Nat.pow_add]
      exact Nat.mul_lt_mul'' ih hx
    have h2 : c.natAbs < 2 ^ (k + (j + 1) * l.length + j) := Nat.lt_of_lt_of_le hc (Nat.pow_le_pow_right (by decide) (by omega))
    have e : k + (j + 1) * (l.length + 1) = (k + (j + 1) * l.length + j) + 1 := by rw [Nat.mul_add]; omega
    rw [List.length_cons, e, pow_more]
    omega
def R_value_at : List D → D → Prop := fun ds d => ∃ (l : List Int) (x : Int), ds = [.lst (dI l), .int x] ∧ l.length ≤ 30 ∧ Sz 10000 l ∧ x.natAbs < 2 ^ 10000 ∧ d = .int (Ht.valI l x)
theorem len_value_at {ds : List D} {d : D} (h : R_value_at ds d) : ds.length = 2 := by obtain ⟨a, b, rfl, _⟩ := h; rfl
theorem drop_more {l : List Int} {i : Nat} (hi : i < l.length) : l.drop (l.length - (i + 1)) = Sl.co l (l.length - 1 - i) :: l.drop (l.length - i) := by
  have h1 : l.length - (i + 1) < l.length := by omega
  rw [List.drop_eq_getElem_cons h1]
  congr 1
  · unfold Sl.co
    rw [List.getD_eq_getElem?_getD, show l.length - 1 - i = l.length - (i + 1) by omega, List.getElem?_eq_getElem h1]; rfl
  · rw [show l.length - (i + 1) + 1 = l.length - i by omega]
theorem ok_value_at {P : Program} {w : World} {K : PySem.W.Frag} {mg : Str → Option Value} {base : Heap} {f : Addr} {fd : FuncData} (T : Txt mg) (F : Fun K "value_at" "value_at" s_value_at f fd) : FnOk P w K mg base CX0 1 f fd ["polynomial", "place"] (SpR K R_value_at) := by
  refine fn_ok F sc_value_at (by decide) (fun ds d h => ?_) (fun cdv A outer s H E hr => ?_)
  · exact len_value_at h
  · have hu65 := hu65_of hr
    refine ⟨_, (pss_cons (ps_set (i := 2) sc_value_at.nd rfl (Or.inl rfl) pe_int)
      (pss_cons (ps_for PassesOwn.never rfl (pi_reversed (by rfl) T.b_reversed (pa_cons (pv 0) pa_nil)) (pg_name (i := 3) sc_value_at.nd rfl (Or.inl rfl)) (pss_one (ps_set (i := 2) sc_value_at.nd rfl (Or.inl rfl) (pe_op op_add (pe_op op_mulW (pv 2) (pv 1)) (pv 3)))))
      (pss_one (ps_ret (pv 2))))), fun ds d hR G0 H0 Q Z k => ?_⟩
    obtain ⟨l, x, rfl, hl, hs, hx, rfl⟩ := hR
    refine q_asg ev_i ?_
    refine q_for (it_rev (ev_var rfl) .lst) (fun i => [.dat (.lst (dI l)), .dat (.int x), .dat (.int (Ht.valI (l.drop (l.length - i)) x)), .no]) [3] (fun d as => as.set 3 (.dat d)) (fun d _ => tg_name) (le_eq rfl (le_eq rfl (le_eq ?_ (le_no le_nil)))) (fun B C sub i d hd => ?_) ?_
    · rw [Nat.sub_zero, List.drop_length]; rfl
    · have hi : i < l.length := by
        have := (List.getElem?_eq_some_iff.mp hd).1
        rwa [List.length_reverse, dI_len] at this
      rw [List.getElem?_reverse (by rw [dI_len]; exact hi), dI_len, dI_get (by omega)] at hd
      cases hd
      have hsz : Sz 10000 (l.drop (l.length - i)) := fun y hy => hs y (List.mem_of_mem_drop hy)
      have hv := val_sz hx _ hsz
      rw [List.length_drop] at hv
      have hb : 10000 + (10000 + 1) * (l.length - (l.length - i)) ≤ 400000 := by
        have : (10000 + 1) * (l.length - (l.length - i)) ≤ (10000 + 1) * 30 := Nat.mul_le_mul_left _ (by omega)
        omega
      have hv' := log2_of_lt (Nat.lt_of_lt_of_le hv (Nat.pow_le_pow_right (by decide) hb)) (by decide)
      have hx' := log2_of_lt hx (by decide)
      refine c_asg (ev_opI (ev_mul (ev_var rfl).r (ev_var rfl).r (mulW_of (a := 400000) (b := 10000) (Nat.le_of_lt hv') (Nat.le_of_lt hx') (by decide))).r (ev_var rfl).r) ?_
      refine c_at (le_eq rfl (le_eq rfl (le_eq ?_ (le_no le_nil))))
      rw [drop_more hi]
      rfl
    · refine c_ret (ev_is (ev_var rfl) ?_) k
      rw [List.length_reverse, dI_len, Nat.sub_self, List.drop_zero]
end Pg
set_option Elab.async false
set_option linter.all false
set_option maxRecDepth 100000
set_option maxHeartbeats 2000000
namespace Pg
open PySem PyProof.Rows L2 Fw
abbrev s_from_slopes : Stmt := topS 16
abbrev nm_from_slopes : List Str := ["tops", "bottom", "common", "order", "top"]
theorem sc_from_slopes : FnScope nm_from_slopes ["tops", "bottom"] (defScope s_from_slopes) := ⟨rfl, rfl, rfl, by decide +kernel, rfl, by decide +kernel, by decide +kernel⟩
def R_from_slopes : List D → D → Prop := fun ds d => ∃ b : Rn.Bg, ds = [.lst (dI b.tops), .int b.bottom] ∧ b.tops.length ≤ 10 ∧ Sz 10000 b.tops ∧ b.bottom.natAbs < 2 ^ 10000 ∧ d = bgD (Rn.slopesBg b)
theorem len_from_slopes {ds : List D} {d : D} (h : R_from_slopes ds d) : ds.length = 2 := by obtain ⟨a, rfl, _⟩ := h; rfl
def slD (f : Nat → Int → Int) : D → D
  | .tup [.int i, .int t] => .int (f i.toNat t)
  | d => d
theorem enum_map (f : Nat → Int → Int) (l : List Int) : (enumD l).map (slD f) = dI (l.zipIdx.map fun x => f x.2 x.1) := by
  unfold enumD dI
  rw [List.map_map, List.map_map]
  apply List.ext_getElem?
  intro i
  rw [List.getElem?_map, List.getElem?_map, List.getElem?_zipIdx, List.getElem?_zipIdx, List.getElem?_map]
  cases e : l[i]? with
  | none => rfl
  | some t => rfl
theorem ok_from_slopes {P : Program} {w : World} {K : PySem.W.Frag} {mg : Str → Option Value} {base : Heap} {f : Addr} {fd : FuncData} (T : Txt mg) (c_product_up_to : Cal P w K mg base 1 "product_up_to" ["count"] R_product_up_to) (F : Fun K "from_slopes" "from_slopes" s_from_slopes f fd) : FnOk P w K mg base CX0 2 f fd ["tops", "bottom"] (SpR K R_from_slopes) := by
  obtain ⟨f_product_up_to, fd_product_up_to, G_product_up_to, m_product_up_to, k_product_up_to, b_product_up_to⟩ := c_product_up_to.ex
  refine fn_ok F sc_from_slopes (by decide) (fun ds d h => ?_) (fun cdv A outer s H E hr => ?_)
  · exact len_from_slopes h
  · have hu65 := hu65_of hr
    refine ⟨_, (pss_cons (ps_set (i := 2) sc_from_slopes.nd rfl (Or.inr rfl) (pe_call G_product_up_to (hr.mono (by decide)) (by rfl) m_product_up_to k_product_up_to b_product_up_to .nil pass0 (pa_cons (pe_callB call_len_seq (by rfl) T.b_len PySem.boot_len (pa_cons (pv 0) pa_nil)) pa_nil)))
      (pss_one (ps_ret (pe_tup (pa_cons (pe_lc (own := [("order", 3), ("top", 4)]) rfl sc_from_slopes.nd (pi_enum (by rfl) T.b_enumerate (pa_cons (pv 0) pa_nil)) (blkOk_by (own := [("order", 3), ("top", 4)]) (N := nm_from_slopes) (sc := defScope s_from_slopes) (by decide +kernel)) (fun _ _ _ _ _ => by exact (by refine pg_tupK K 2 (t := gCons (gName 3) (gCons (gName 4) (gNil))) rfl ?_; exact (pgs_cons (pg_name (i := 3) sc_from_slopes.nd rfl (Or.inl rfl)) (pgs_cons (pg_name (i := 4) sc_from_slopes.nd rfl (Or.inl rfl)) pgs_nil)))) (fun _ _ _ _ _ => by exact pts_nil) (fun _ _ _ _ _ => by exact (pe_op op_mulW (pe_op op_fdivX (pv 2) (pe_call G_product_up_to (hr.mono (by decide)) (by rfl) m_product_up_to k_product_up_to b_product_up_to .nil pass0 (pa_cons (pv 3) pa_nil))) (pv 4)))) (pa_cons (pe_op op_mulW (pv 1) (pv 2)) pa_nil)))))), fun ds d hR G0 H0 Q Z k => ?_⟩
    obtain ⟨b, rfl, hl, hs, hb, rfl⟩ := hR
    have hll : D.int ((dI b.tops).length : Nat) = .int (b.tops.length : Nat) := by rw [dI_len]
    refine q_asg (d := .int ((Al10.factorial b.tops.length : Nat) : Int)) (ev_call (ea_cons (ev_is (ev_len rfl (ev_var rfl).r .lst) hll) ea_nil) ⟨b.tops.length, rfl, by omega, rfl⟩) ?_
    have hf := log2_of_lt (fact_lt (n := b.tops.length) (by omega)) (by decide)
    have hbl := log2_of_lt hb (by decide)
    refine c_ret (ev_tup (ea_cons (ev_is (n_lc (it_enum (ev_var rfl) .lst) _ [3, 4] (two 3 4) (fun d hd => enumD_tg d hd) (by decide) (fun _ => true) (slD fun i t => ((Al10.factorial b.tops.length / Al10.factorial i : Nat) : Int) * t) (by rw [show ((dI b.tops).zipIdx.map fun x => pairD (.int (x.2 : Nat)) x.1).length = b.tops.length from enumD_len _]; omega) (fun d hd => et_yes) (fun d hd _ => ?_)).ev (show D.lst _ = .lst (dI (Rn.slopesBg b).tops) from ?_)) (ea_cons (ev_mul (ev_var rfl).r (ev_var rfl).r (mulW_of (a := 10000) (b := 100) (by omega) (by rw [Int.natAbs_natCast]; omega) (by decide))) ea_nil)) (by show 2 ≤ 1000000; decide)) k
    · obtain ⟨i, hi'⟩ := List.mem_iff_getElem?.mp hd
      obtain ⟨hi, rfl⟩ := enumD_get hi'
      have hf2 := log2_of_lt (fact_lt (n := i) (by omega)) (by decide)
      have hp := Rn.fact_pos i
      have hco := log2_of_lt (sz_co hs i) (by decide)
      have e : Int.fdiv ((Al10.factorial b.tops.length : Nat) : Int) ((Al10.factorial i : Nat) : Int) = ((Al10.factorial b.tops.length / Al10.factorial i : Nat) : Int) := by
        rw [Int.fdiv_eq_ediv_of_nonneg _ (by omega)]; rfl
      have hdl : (Al10.factorial b.tops.length / Al10.factorial i).log2 ≤ 100 := Nat.le_trans (log2_mono (Nat.div_le_self _ _)) (by omega)
      refine ev_is (ev_mul (i := ((Al10.factorial b.tops.length / Al10.factorial i : Nat) : Int)) (er_is (ev_fdiv (ev_var rfl).r (ev_call (d := .int ((Al10.factorial i : Nat) : Int)) (ea_cons (ev_var rfl) ea_nil) ⟨i, rfl, by omega, rfl⟩).r ⟨by omega, by rw [Int.natAbs_natCast]; omega⟩).r (by rw [e])) (ev_var rfl).r (mulW_of (a := 100) (b := 10000) (by rw [Int.natAbs_natCast]; exact hdl) (by omega) (by decide))) ?_
      show _ = D.int (((Al10.factorial b.tops.length / Al10.factorial (Int.toNat (i : Int)) : Nat) : Int) * _)
      rw [Int.toNat_natCast]
    · rw [picked_all (fun _ _ => rfl)]
      exact congrArg D.lst (enum_map _ _)
abbrev s_lead_at : Stmt := topS 17
abbrev nm_lead_at : List Str := ["kind", "parts", "place", "power"]
theorem sc_lead_at : FnScope nm_lead_at ["kind", "parts", "place"] (defScope s_lead_at) := ⟨rfl, rfl, rfl, by decide +kernel, rfl, by decide +kernel, by decide +kernel⟩
/-- the equation's polynomials, and how great their numbers are -/
structure OkP (ps : List (List Int)) : Prop where
  n1 : 1 ≤ ps.length
  n4 : ps.length ≤ 4
  p : ∀ p ∈ ps, p.length ≤ 5 ∧ Sz 365 p
def R_lead_at : List D → D → Prop := fun ds d => ∃ (kind : Nat) (ps : List (List Int)) (place : Nat), ds = [.int (kind : Int), .lst (dLL ps), .int (place : Int)] ∧ OkP ps ∧ place ≤ 19 ∧ d = .int (Rn.leadI kind ps place)
theorem len_lead_at {ds : List D} {d : D} (h : R_lead_at ds d) : ds.length = 3 := by obtain ⟨a, b, c, rfl, _⟩ := h; rfl
theorem nat_sz {x k : Nat} (h : x < 2 ^ k) : ((x : Nat) : Int).natAbs < 2 ^ k := by rw [Int.natAbs_natCast]; exact h
theorem repI_sz (n : Nat) : Sz 1 (Rn.repI n) := fun x hx => by
  unfold Rn.repI at hx
  rcases List.mem_append.mp hx with h | h
  · rw [List.eq_of_mem_replicate h]; decide
  · rw [List.mem_singleton] at h; rw [h]; decide
theorem repI_len (n : Nat) : (Rn.repI n).length = n + 1 := by unfold Rn.repI; rw [List.length_append, List.length_replicate]; rfl
theorem dI_rep (n : Nat) : dI (List.replicate n 0) = List.replicate n (D.int 0) := by unfold dI; rw [List.map_replicate]
theorem ok_lead_at {P : Program} {w : World} {K : PySem.W.Frag} {mg : Str → Option Value} {base : Heap} {f : Addr} {fd : FuncData} (T : Txt mg) (c_value_at : Cal P w K mg base 1 "value_at" ["polynomial", "place"] R_value_at) (c_number_at : Cal P w K mg base 1 "number_at" ["polynomial", "power"] R_number_at) (c_left_side : Cal P w K mg base 4 "left_side" ["kind", "parts", "y"] R_left_side) (F : Fun K "lead_at" "lead_at" s_lead_at f fd) : FnOk P w K mg base CX0 5 f fd ["kind", "parts", "place"] (SpR K R_lead_at) := by
  obtain ⟨f_value_at, fd_value_at, G_value_at, m_value_at, k_value_at, b_value_at⟩ := c_value_at.ex
  obtain ⟨f_number_at, fd_number_at, G_number_at, m_number_at, k_number_at, b_number_at⟩ := c_number_at.ex
  obtain ⟨f_left_side, fd_left_side, G_left_side, m_left_side, k_left_side, b_left_side⟩ := c_left_side.ex
  refine fn_ok F sc_lead_at (by decide) (fun ds d h => ?_) (fun cdv A outer s H E hr => ?_)
  · exact len_lead_at h
  · have hu65 := hu65_of hr
    refine ⟨_, (pss_cons (ps_if (pt_cmpR op_eq (pv 0) pe_int (nomark _)) (pss_one (ps_ret (pe_call G_value_at (hr.mono (by decide)) (by rfl) m_value_at k_value_at b_value_at .nil pass0 (pa_cons (pe_ix ix_list (pv 1) (pe_un un_neg pe_int) (fun _ _ => rfl)) (pa_cons (pv 2) pa_nil))))) pss_nil)
      (pss_cons (ps_set (i := 3) sc_lead_at.nd rfl (Or.inl rfl) (pe_op op_sub (pe_op op_add (pv 2) (pe_callB call_len_seq (by rfl) T.b_len PySem.boot_len (pa_cons (pv 1) pa_nil))) pe_int))
      (pss_one (ps_ret (pe_call G_number_at (hr.mono (by decide)) (by rfl) m_number_at k_number_at b_number_at .nil pass0 (pa_cons (pe_call G_left_side (hr.mono (by decide)) (by rfl) m_left_side k_left_side b_left_side .nil pass0 (pa_cons (pv 0) (pa_cons (pv 1) (pa_cons (pe_op op_cat (pe_op op_rep (pe_lst (pa_cons pe_int pa_nil)) (pv 3)) (pe_lst (pa_cons pe_int pa_nil))) pa_nil)))) (pa_cons (pv 2) pa_nil))))))), fun ds d hR G0 H0 Q Z k => ?_⟩
    obtain ⟨kind, ps, place, rfl, ho, hp, rfl⟩ := hR
    have h1 := ho.n1
    have h4 := ho.n4
    unfold Rn.leadI at k
    refine q_when (et_test (ev_eqI (ev_var rfl).r ev_i.r).r) (fun q => ?_) (fun q => ?_)
    · have hk : kind = 1 := by have := of_decide_eq_true q; omega
      rw [if_pos hk] at k
      have hl := ho.p _ (getD_mem (i := ps.length - 1) (l := ps) (by omega))
      exact c_ret (ev_call (ea_cons (ev_ixLast (ev_var rfl) .lst (ev_neg ev_i.r).r (dLL_last h1)) (ea_cons (ev_var rfl) ea_nil)) ⟨_, ((place : Nat) : Int), rfl, by omega, sz_mono hl.2 (by decide), Nat.lt_of_lt_of_le (nat_sz (k := 5) (show place < 2 ^ 5 by omega)) (Nat.pow_le_pow_right (by decide) (by decide)), rfl⟩) k
    · have hk : ¬ kind = 1 := by have := of_decide_eq_false q; omega
      rw [if_neg hk] at k
      refine q_asg (d := .int ((place + (ps.length - 1) : Nat) : Int)) (ev_is (ev_opI (ev_opI (ev_var rfl).r (ev_len rfl (ev_var rfl).r .lst).r).r ev_i.r) (by rw [dLL_len]; congr 1; omega)) ?_
      refine c_ret (ev_call (ea_cons (ev_call (d := .lst (dI (Sl.leftI kind ps (Rn.repI (place + (ps.length - 1)))))) (ea_cons (ev_var rfl) (ea_cons (ev_var rfl) (ea_cons (ev_is (n_cat (n_rep (k := place + (ps.length - 1)) (n_lst (ea_cons ev_i ea_nil) (by show 1 ≤ 1000000; decide)).ev (ev_var rfl).r (by omega)).ev (n_lst (ea_cons ev_i ea_nil) (by show 1 ≤ 1000000; decide)).ev (by rw [List.length_replicate]; show _ + 1 ≤ _; omega)).ev (show D.lst _ = .lst (dI (Rn.repI (place + (ps.length - 1)))) from ?_)) ea_nil))) ⟨kind, ps, _, rfl, by omega, fun p hp => ⟨by have := (ho.p p hp).1; omega, sz_mono (ho.p p hp).2 (by decide)⟩, by rw [repI_len]; omega, sz_mono (repI_sz _) (by decide), rfl⟩) (ea_cons (ev_var rfl) ea_nil)) ⟨_, place, rfl, rfl⟩) k
      unfold Rn.repI
      rw [dI_append, dI_rep]; rfl
abbrev s_known_at : Stmt := topS 18
abbrev nm_known_at : List Str := ["kind", "parts", "tops", "place", "step", "part"]
theorem sc_known_at : FnScope nm_known_at ["kind", "parts", "tops", "place"] (defScope s_known_at) := ⟨rfl, rfl, rfl, by decide +kernel, rfl, by decide +kernel, by decide +kernel⟩
def R_known_at : List D → D → Prop := fun ds d => ∃ (kind : Nat) (ps : List (List Int)) (tops : List Int) (place : Nat), ds = [.int (kind : Int), .lst (dLL ps), .lst (dI tops), .int (place : Int)] ∧ OkP ps ∧ place ≤ 19 ∧ tops.length = place + (ps.length - 1) ∧ tops.length ≤ 30 ∧ Sz 10000 tops ∧ d = .int (Rn.knownI kind ps tops place)
theorem len_known_at {ds : List D} {d : D} (h : R_known_at ds d) : ds.length = 4 := by obtain ⟨a, b, c, e, rfl, _⟩ := h; rfl
def knD (f : Nat → List Int → Int) : D → D
  | .tup [.int i, .lst l] => .int (f i.toNat (l.map toI))
  | d => d
theorem enumLL_map (f : Nat → List Int → Int) (S : List (List Int)) : (enumLL S).map (knD f) = dI (S.zipIdx.map fun x => f x.2 x.1) := by
  apply List.ext_getElem?
  intro i
  rw [List.getElem?_map]
  unfold dI
  rw [List.map_map, List.getElem?_map, List.getElem?_zipIdx]
  unfold enumLL dLL
  rw [List.getElem?_map, List.getElem?_zipIdx, List.getElem?_map]
  cases e : S[i]? with
  | none => rfl
  | some p =>
    show some (D.int (f (Int.toNat ((0 + i : Nat) : Int)) ((dI p).map toI))) = some (D.int (f (0 + i) p))
    rw [toI_dI, Int.toNat_natCast]
theorem known_sum (x : Int) : ∀ (S : List (List Int)) (ts : List Int) (j : Nat), (S.zipIdx j).map (fun y => Ht.valI y.1 x * Sl.co ts y.2) = (S.zipIdx j).map (fun y => Ht.valI y.1 x * Sl.co (ts.drop j) (y.2 - j)) := fun S ts j => by
  refine List.map_congr_left fun y hy => ?_
  have := List.le_snd_of_mem_zipIdx hy
  rw [Rn.co_drop, show j + (y.2 - j) = y.2 by omega]
theorem knownV_sum (x : Int) : ∀ (S : List (List Int)) (ts : List Int) (j : Nat), S.length + j ≤ ts.length → ((S.zipIdx j).map fun y => Ht.valI y.1 x * Sl.co ts y.2).sum = Rn.knownV S (ts.drop j) x
  | [], ts, j, _ => by
    show (0 : Int) = Rn.knownV [] _ x
    unfold Rn.knownV; rfl
  | p :: S, ts, j, h => by
    rw [List.length_cons] at h
    have ih := knownV_sum x S ts (j + 1) (by omega)
    rw [List.zipIdx_cons, List.map_cons, List.sum_cons, ih]
    have hj : j < ts.length := by omega
    rw [List.drop_eq_getElem_cons hj]
    show Ht.valI p x * Sl.co ts j + _ = Ht.valI p x * ts[j] + Rn.knownV S (ts.drop (j + 1)) x
    unfold Sl.co
    rw [List.getD_eq_getElem?_getD, List.getElem?_eq_getElem hj]; rfl
theorem ok_known_at {P : Program} {w : World} {K : PySem.W.Frag} {mg : Str → Option Value} {base : Heap} {f : Addr} {fd : FuncData} (T : Txt mg) (c_value_at : Cal P w K mg base 1 "value_at" ["polynomial", "place"] R_value_at) (c_number_at : Cal P w K mg base 1 "number_at" ["polynomial", "power"] R_number_at) (c_left_side : Cal P w K mg base 4 "left_side" ["kind", "parts", "y"] R_left_side) (c_trimmed : Cal P w K mg base 1 "trimmed" ["numbers"] R_trimmed) (F : Fun K "known_at" "known_at" s_known_at f fd) : FnOk P w K mg base CX0 5 f fd ["kind", "parts", "tops", "place"] (SpR K R_known_at) := by
  obtain ⟨f_value_at, fd_value_at, G_value_at, m_value_at, k_value_at, b_value_at⟩ := c_value_at.ex
  obtain ⟨f_number_at, fd_number_at, G_number_at, m_number_at, k_number_at, b_number_at⟩ := c_number_at.ex
  obtain ⟨f_left_side, fd_left_side, G_left_side, m_left_side, k_left_side, b_left_side⟩ := c_left_side.ex
  obtain ⟨f_trimmed, fd_trimmed, G_trimmed, m_trimmed, k_trimmed, b_trimmed⟩ := c_trimmed.ex
  refine fn_ok F sc_known_at (by decide) (fun ds d h => ?_) (fun cdv A outer s H E hr => ?_)
  · exact len_known_at h
  · have hu65 := hu65_of hr
    refine ⟨_, (pss_cons (ps_if (pt_cmpR op_eq (pv 0) pe_int (nomark _)) (pss_one (ps_ret (pe_callB (cr_sum rfl) (by rfl) T.b_sum (by decide +kernel) (pa_cons (pe_lc (own := [("step", 4), ("part", 5)]) rfl sc_known_at.nd (pi_enum (by rfl) T.b_enumerate (pa_cons (pe_slice sl_list (pv 1) po_none (po_some (pe_un un_neg pe_int))) pa_nil)) (blkOk_by (own := [("step", 4), ("part", 5)]) (N := nm_known_at) (sc := defScope s_known_at) (by decide +kernel)) (fun _ _ _ _ _ => by exact (by refine pg_tupK K 2 (t := gCons (gName 4) (gCons (gName 5) (gNil))) rfl ?_; exact (pgs_cons (pg_name (i := 4) sc_known_at.nd rfl (Or.inl rfl)) (pgs_cons (pg_name (i := 5) sc_known_at.nd rfl (Or.inl rfl)) pgs_nil)))) (fun _ _ _ _ _ => by exact pts_nil) (fun _ _ _ _ _ => by exact (pe_op op_mulW (pe_call G_value_at (hr.mono (by decide)) (by rfl) m_value_at k_value_at b_value_at .nil pass0 (pa_cons (pv 5) (pa_cons (pv 3) pa_nil))) (pe_ix (ix_listK K) (pv 2) (pe_op op_add (pv 3) (pv 4)) (fun _ _ => rfl))))) pa_nil)))) pss_nil)
      (pss_one (ps_ret (pe_call G_number_at (hr.mono (by decide)) (by rfl) m_number_at k_number_at b_number_at .nil pass0 (pa_cons (pe_call G_left_side (hr.mono (by decide)) (by rfl) m_left_side k_left_side b_left_side .nil pass0 (pa_cons (pv 0) (pa_cons (pv 1) (pa_cons (pe_call G_trimmed (hr.mono (by decide)) (by rfl) m_trimmed k_trimmed b_trimmed .nil pass0 (pa_cons (pv 2) pa_nil)) pa_nil)))) (pa_cons (pv 3) pa_nil)))))), fun ds d hR G0 H0 Q Z k => ?_⟩
    obtain ⟨kind, ps, tops, place, rfl, ho, hp, htl, ht30, hs, rfl⟩ := hR
    have h1 := ho.n1
    have h4 := ho.n4
    unfold Rn.knownI at k
    refine q_when (et_test (ev_eqI (ev_var rfl).r ev_i.r).r) (fun q => ?_) (fun q => ?_)
    · have hk : kind = 1 := by have := of_decide_eq_true q; omega
      rw [if_pos hk] at k
      have hsl : D.lst (cut (dLL ps) none (some (-1))) = .lst (dLL (ps.take (ps.length - 1))) := by
        rw [cut_init, dLL_len]; unfold dLL; rw [List.map_take]
      have hpl : (ps.take (ps.length - 1)).length = ps.length - 1 := by rw [List.length_take]; omega
      have hpm : ∀ p ∈ ps.take (ps.length - 1), p.length ≤ 5 ∧ Sz 365 p := fun p hp => ho.p p (List.mem_of_mem_take hp)
      have hx : ((place : Nat) : Int).natAbs < 2 ^ 5 := nat_sz (show place < 2 ^ 5 by omega)
      generalize ps.take (ps.length - 1) = S at *
      refine c_ret (ev_is (ev_sum (ns := S.zipIdx.map fun y => Ht.valI y.1 ((place : Nat) : Int) * Sl.co tops (place + y.2)) (ev_is (n_lc (ds := enumLL S) (it_enum (ev_is (n_sl (lo := none) (ev_var rfl) .lst eo_none (eo_some (ev_neg ev_i.r).r)).ev hsl) .lst) _ [4, 5] (two 4 5) (fun d hd => enumLL_tg d hd) (by decide) (fun _ => true) (knD fun i p => Ht.valI p ((place : Nat) : Int) * Sl.co tops (place + i)) (by rw [enumLL_len]; omega) (fun d hd => et_yes) (fun d hd _ => ?_)).ev ?_).r .lst) ?_) k
      · obtain ⟨i, hi'⟩ := List.mem_iff_getElem?.mp hd
        obtain ⟨p, hpi, rfl⟩ := enumLL_get hi'
        have hi : i < S.length := (List.getElem?_eq_some_iff.mp hpi).1
        obtain ⟨p5, psz⟩ := hpm p (List.mem_of_getElem? hpi)
        have hv := val_sz hx p psz
        have hv' := log2_of_lt (Nat.lt_of_lt_of_le hv (Nat.pow_le_pow_right (by decide) (show _ ≤ 1000 by omega))) (by decide)
        have hco := log2_of_lt (sz_co hs (place + i)) (by decide)
        refine ev_is (ev_mul (ev_call (d := .int (Ht.valI p ((place : Nat) : Int))) (ea_cons (ev_var rfl) (ea_cons (ev_var rfl) ea_nil)) ⟨p, ((place : Nat) : Int), rfl, by omega, sz_mono psz (by decide), Nat.lt_of_lt_of_le hx (Nat.pow_le_pow_right (by decide) (by decide)), rfl⟩).r (ev_ix (k := place + i) (ev_var rfl) .lst (er_is (ev_opI (ev_var rfl).r (ev_var rfl).r).r (by rw [Int.natCast_add])) (dI_get (by omega))).r (mulW_of (a := 1000) (b := 10000) (by omega) (by omega) (by decide))) ?_
        show _ = D.int (Ht.valI ((dI p).map toI) _ * Sl.co tops (place + Int.toNat (i : Int)))
        rw [toI_dI, Int.toNat_natCast]
      · rw [picked_all (fun _ _ => rfl)]
        exact congrArg D.lst (enumLL_map _ _)
      · congr 1
        have e : (S.zipIdx.map fun y => Ht.valI y.1 ((place : Nat) : Int) * Sl.co tops (place + y.2)) = S.zipIdx.map fun y => Ht.valI y.1 ((place : Nat) : Int) * Sl.co (tops.drop place) y.2 := List.map_congr_left fun y _ => by rw [Rn.co_drop]
        rw [e, knownV_sum _ S (tops.drop place) 0 (by rw [List.length_drop]; omega)]
        rfl
    · have hk : ¬ kind = 1 := by have := of_decide_eq_false q; omega
      rw [if_neg hk] at k
      have htr := Sl.trimI_len tops
      exact c_ret (ev_call (ea_cons (ev_call (d := .lst (dI (Sl.leftI kind ps (Sl.trimI tops)))) (ea_cons (ev_var rfl) (ea_cons (ev_var rfl) (ea_cons (ev_call (d := .lst (dI (Sl.trimI tops))) (ea_cons (ev_var rfl) ea_nil) ⟨tops, rfl, by omega, rfl⟩) ea_nil))) ⟨kind, ps, _, rfl, by omega, fun p hp => ⟨by have := (ho.p p hp).1; omega, sz_mono (ho.p p hp).2 (by decide)⟩, by omega, sz_mono (fun x hx => hs x (Sl.trimI_mem _ _ hx)) (by decide), rfl⟩) (ea_cons (ev_var rfl) ea_nil)) ⟨_, place, rfl, rfl⟩) k
end Pg
set_option Elab.async false
set_option linter.all false
set_option maxRecDepth 100000
set_option maxHeartbeats 2000000
namespace Pg
open PySem PyProof.Rows L2 Fw
abbrev s_can_go_on : Stmt := topS 14
abbrev nm_can_go_on : List Str := ["kind", "parts", "count", "places", "place"]
theorem sc_can_go_on : FnScope nm_can_go_on ["kind", "parts", "count"] (defScope s_can_go_on) := ⟨rfl, rfl, rfl, by decide +kernel, rfl, by decide +kernel, by decide +kernel⟩
def placesI (kind m count : Nat) : Nat := if kind = 0 then 1 else count + 1 - m
def canI (kind : Nat) (ps : List (List Int)) (count : Nat) : Bool := (List.range (placesI kind ps.length count)).all fun i => !decide (Ht.valI (ps.getD (ps.length - 1) []) ((i : Nat) : Int) = 0)
def R_can_go_on : List D → D → Prop := fun ds d => ∃ (kind : Nat) (ps : List (List Int)) (count : Nat), ds = [.int (kind : Int), .lst (dLL ps), .int (count : Int)] ∧ OkP ps ∧ count ≤ 20 ∧ d = .bl (canI kind ps count)
theorem len_can_go_on {ds : List D} {d : D} (h : R_can_go_on ds d) : ds.length = 3 := by obtain ⟨a, b, c, rfl, _⟩ := h; rfl
def cgD (f : Nat → Bool) : D → D
  | .int i => .bl (f i.toNat)
  | d => d
theorem ok_can_go_on {P : Program} {w : World} {K : PySem.W.Frag} {mg : Str → Option Value} {base : Heap} {f : Addr} {fd : FuncData} (T : Txt mg) (c_value_at : Cal P w K mg base 1 "value_at" ["polynomial", "place"] R_value_at) (F : Fun K "can_go_on" "can_go_on" s_can_go_on f fd) : FnOk P w K mg base CX0 2 f fd ["kind", "parts", "count"] (SpR K R_can_go_on) := by
  obtain ⟨f_value_at, fd_value_at, G_value_at, m_value_at, k_value_at, b_value_at⟩ := c_value_at.ex
  refine fn_ok F sc_can_go_on (by decide) (fun ds d h => ?_) (fun cdv A outer s H E hr => ?_)
  · exact len_can_go_on h
  · have hu65 := hu65_of hr
    refine ⟨_, (pss_cons (ps_set (i := 3) sc_can_go_on.nd rfl (Or.inl rfl) (pe_ifExp (pt_cmpR op_eq (pv 0) pe_int (nomark _)) pe_int (pe_op op_add (pe_op op_sub (pv 2) (pe_callB call_len_seq (by rfl) T.b_len PySem.boot_len (pa_cons (pv 1) pa_nil))) pe_int)))
      (pss_one (ps_ret (pe_callB (cr_all rfl) (by rfl) T.b_all (by decide +kernel) (pa_cons (pe_lc (own := [("place", 4)]) rfl sc_can_go_on.nd (pi_range1 (by rfl) T.b_range (pa_cons (pv 3) pa_nil)) (blkOk_by (own := [("place", 4)]) (N := nm_can_go_on) (sc := defScope s_can_go_on) (by decide +kernel)) (fun _ _ _ _ _ => by exact (pg_name (i := 4) sc_can_go_on.nd rfl (Or.inl rfl))) (fun _ _ _ _ _ => by exact pts_nil) (fun _ _ _ _ _ => by exact (pe_cmpR op_ne (pe_call G_value_at (hr.mono (by decide)) (by rfl) m_value_at k_value_at b_value_at .nil pass0 (pa_cons (pe_ix (ix_listK K) (pv 1) (pe_un un_neg pe_int) (fun _ _ => rfl)) (pa_cons (pv 4) pa_nil))) pe_int (nomark _)))) pa_nil))))), fun ds d hR G0 H0 Q Z k => ?_⟩
    obtain ⟨kind, ps, count, rfl, ho, hc, rfl⟩ := hR
    have h1 := ho.n1
    have h4 := ho.n4
    have hl := ho.p _ (getD_mem (i := ps.length - 1) (l := ps) (by omega))
    refine q_asg (d := .int (if kind = 0 then 1 else (count : Int) - (ps.length : Nat) + 1)) (ev_if (et_test (ev_eqI (ev_var rfl).r ev_i.r).r) (fun q => ?_) (fun q => ?_)) ?_
    · have hk : kind = 0 := by have := of_decide_eq_true q; omega
      rw [if_pos hk]
      exact ev_i
    · have hk : ¬ kind = 0 := by have := of_decide_eq_false q; omega
      rw [if_neg hk]
      exact ev_is (ev_opI (ev_opI (ev_var rfl).r (ev_len rfl (ev_var rfl).r .lst).r).r ev_i.r) (by rw [dLL_len])
    · have hz : (if kind = 0 then 1 else (count : Int) - (ps.length : Nat) + 1).toNat = placesI kind ps.length count := by
        unfold placesI
        split <;> omega
      have hzb : -1000000 ≤ (if kind = 0 then 1 else (count : Int) - (ps.length : Nat) + 1) ∧ (if kind = 0 then 1 else (count : Int) - (ps.length : Nat) + 1) ≤ 1000000 := by split <;> omega
      have hpl : placesI kind ps.length count ≤ 21 := by unfold placesI; split <;> omega
      unfold canI at k
      generalize (if kind = 0 then 1 else (count : Int) - (ps.length : Nat) + 1) = z at *
      generalize placesI kind ps.length count = m at *
      refine c_ret (ev_is (ev_all (bs := (List.range m).map fun i => !decide (Ht.valI (ps.getD (ps.length - 1) []) ((i : Nat) : Int) = 0)) (ev_is (n_lc (it_range1Z (n := z) (ev_var rfl).r hzb) _ [4] (fun d as => as.set 4 (.dat d)) (fun d hd => tg_name) (by decide) (fun _ => true) (cgD fun i => !decide (Ht.valI (ps.getD (ps.length - 1) []) ((i : Nat) : Int) = 0)) (by rw [List.length_map, List.length_range]; omega) (fun d hd => et_yes) (fun d hd _ => ?_)).ev ?_).r) ?_) k
      · obtain ⟨i, hi, rfl⟩ := mem_range_D hd
        refine ev_is (ev_neI (ev_call (d := .int (Ht.valI (ps.getD (ps.length - 1) []) ((i : Nat) : Int))) (ea_cons (ev_ixLast (ev_var rfl) .lst (ev_neg ev_i.r).r (dLL_last h1)) (ea_cons (ev_var rfl) ea_nil)) ⟨_, ((i : Nat) : Int), rfl, by omega, sz_mono hl.2 (by decide), Nat.lt_of_lt_of_le (nat_sz (k := 5) (show i < 2 ^ 5 by omega)) (Nat.pow_le_pow_right (by decide) (by decide)), rfl⟩).r ev_i.r) ?_
        show _ = D.bl (!decide (Ht.valI (ps.getD (ps.length - 1) []) ((Int.toNat (i : Int) : Nat) : Int) = 0))
        rw [Int.toNat_natCast]
      · rw [picked_all (fun _ _ => rfl), hz]
        unfold dB
        rw [List.map_map, List.map_map]
        exact congrArg D.lst (List.map_congr_left fun i _ => by
          show D.bl (!decide (Ht.valI (ps.getD (ps.length - 1) []) ((Int.toNat (i : Int) : Nat) : Int) = 0)) = _
          rw [Int.toNat_natCast]; rfl)
      · rw [List.all_map]; rfl
end Pg
set_option Elab.async false
set_option linter.all false
set_option maxRecDepth 100000
set_option maxHeartbeats 2000000
namespace Pg
open PySem PyProof.Rows L2 Fw
abbrev s_gone_on : Stmt := topS 15
abbrev nm_gone_on : List Str := ["kind", "parts", "right", "beginning", "count", "start", "tops", "bottom", "place", "lead", "wanted", "rest", "top"]
theorem sc_gone_on : FnScope nm_gone_on ["kind", "parts", "right", "beginning", "count"] (defScope s_gone_on) := ⟨rfl, rfl, rfl, by decide +kernel, rfl, by decide +kernel, by decide +kernel⟩
/-! ### how great the numbers become -/
structure SzB (m : Nat) (b : Rn.Bg) : Prop where
  t : Sz m b.tops
  b : b.bottom.natAbs < 2 ^ m
theorem rel_ra : ∀ ps : List (List Int), Sl.RelAll 1 ps (ps.map Sl.ra)
  | [] => .nil
  | p :: ps => .cons (fun n => by rw [Sl.ra_cq]; grind) (rel_ra ps)
theorem fall3 {n k : Nat} (hn : n ≤ 3) (hk : k + n ≤ 19) : Al10.factorial (k + n) / Al10.factorial k < 2 ^ 13 := by
  have : ∀ (n : Fin 4) (k : Fin 20), k.val + n.val ≤ 19 → Al10.factorial (k.val + n.val) / Al10.factorial k.val < 2 ^ 13 := by decide +kernel
  exact this ⟨n, by omega⟩ ⟨k, by omega⟩ hk
theorem lead_zero {ps : List (List Int)} {n : Nat} (h : ps.length = n + 1) (k : Nat) : Rn.leadI 0 ps k = Sl.co (ps.getD n []) 0 * ((Al10.factorial (k + n) / Al10.factorial k : Nat) : Int) := by
  have := Rn.lead0 (rel_ra ps) (n := n) (by rw [List.length_map]; exact h) k
  have e : ((ps.map Sl.ra).getD n []).headD 0 = ((Sl.co (ps.getD n []) 0 : Int) : Rat) := by
    rw [Rn.headD_cq, ← Sl.ra_cq]
    congr 1
    rw [List.getD_eq_getElem?_getD, List.getElem?_map, List.getD_eq_getElem?_getD]
    cases ps[n]? <;> rfl
  rw [e] at this
  refine Rat.intCast_inj.mp ?_
  rw [this, Rat.intCast_mul, Rat.intCast_natCast]; grind
theorem mul_sz {a b : Int} {i j : Nat} (h1 : a.natAbs < 2 ^ i) (h2 : b.natAbs < 2 ^ j) : (a * b).natAbs < 2 ^ (i + j) := by
  rw [Int.natAbs_mul, Nat.pow_add]
  exact Nat.mul_lt_mul'' h1 h2
theorem up_sz {a : Int} {i j : Nat} (h : a.natAbs < 2 ^ i) (hj : i ≤ j) : a.natAbs < 2 ^ j := Nat.lt_of_lt_of_le h (Nat.pow_le_pow_right (by decide) hj)
theorem valP_sz {p : List Int} (h : p.length ≤ 5 ∧ Sz 365 p) {x : Nat} (hx : x ≤ 19) : (Ht.valI p ((x : Nat) : Int)).natAbs < 2 ^ 395 := by
  have := val_sz (nat_sz (k := 5) (show x < 2 ^ 5 by omega)) p h.2
  exact up_sz this (by omega)
theorem lead_lt {kind : Nat} {ps : List (List Int)} {k : Nat} (hk : kind ≤ 1) (ho : OkP ps) (hp : k + (ps.length - 1) ≤ 19) : (Rn.leadI kind ps k).natAbs < 2 ^ 395 := by
  have h1 := ho.n1
  have h4 := ho.n4
  have hl := ho.p _ (getD_mem (i := ps.length - 1) (l := ps) (by omega))
  by_cases h0 : kind = 0
  · subst h0
    rw [lead_zero (n := ps.length - 1) (by omega)]
    have a := sz_co hl.2 0
    have b := nat_sz (fall3 (n := ps.length - 1) (k := k) (by omega) hp)
    exact up_sz (mul_sz a b) (by decide)
  · unfold Rn.leadI
    rw [if_pos (by omega)]
    exact valP_sz hl (by omega)
theorem slopeI_sz5 {k : Nat} {l : List Int} (h : Sz k l) (hl : l.length ≤ 31) : Sz (k + 5) (Sl.slopeI l) := fun x hx => by
  unfold Sl.slopeI at hx
  obtain ⟨i, hi, rfl⟩ := List.mem_map.mp hx
  have hi' := List.mem_range.mp hi
  have h1 := sz_co h (i + 1)
  rw [Int.natAbs_mul, Nat.pow_add, Nat.mul_comm]
  exact Nat.mul_lt_mul'' h1 (by omega)
theorem leftSt0_sz {k i : Nat} {y : List Int} (hy : y.length ≤ 31) (hs : Sz k y) : ∀ ps : List (List Int), (∀ p ∈ ps, p.length ≤ 5 ∧ Sz i p) → (leftSt 0 ps y).2.length ≤ 31 ∧ Sz (k + 5 * ps.length) (leftSt 0 ps y).2 ∧ Sz (i + k + 3 + 6 * ps.length) (leftSt 0 ps y).1 := by
  intro ps
  generalize hn : ps.length = n
  induction n generalizing ps with
  | zero =>
    intro _
    have : ps = [] := List.eq_nil_of_length_eq_zero hn
    subst this
    exact ⟨hy, hs, fun x hx => by cases hx⟩
  | succ n ih =>
    intro h
    obtain ⟨v, b, rfl⟩ : ∃ v b, ps = v ++ [b] := ⟨ps.dropLast, ps.getLast (by intro z; subst z; simp at hn), (List.dropLast_concat_getLast _).symm⟩
    rw [List.length_append] at hn
    have hv : v.length = n := by simpa using hn
    obtain ⟨h1, h2, h3⟩ := ih v hv fun p hp => h p (List.mem_append.mpr (.inl hp))
    have hb := h b (by simp)
    rw [leftSt_more]
    unfold leftStep
    rw [if_pos rfl]
    refine ⟨Nat.le_trans (slopeI_len _) h1, sz_mono (slopeI_sz5 h2 h1) (by omega), ?_⟩
    have ht := timesI_sz (m := 3) hb.2 h2 (by omega)
    exact sz_mono (plusI_sz h3 (sz_mono ht (by omega : _ ≤ i + k + 3 + 6 * n))) (by omega)
theorem knownV_sz {m x : Nat} (hx : x ≤ 19) : ∀ (ps : List (List Int)) (ts : List Int), (∀ p ∈ ps, p.length ≤ 5 ∧ Sz 365 p) → Sz m ts → (Rn.knownV ps ts ((x : Nat) : Int)).natAbs < 2 ^ (m + 395 + ps.length)
  | [], ts, _, _ => by unfold Rn.knownV; exact Nat.two_pow_pos _
  | p :: ps, [], _, _ => by unfold Rn.knownV; exact Nat.two_pow_pos _
  | p :: ps, t :: ts, hp, ht => by
    have ih := knownV_sz hx ps ts (fun q hq => hp q (List.mem_cons_of_mem _ hq)) fun y hy => ht y (List.mem_cons_of_mem _ hy)
    have a := valP_sz (hp p (List.mem_cons_self ..)) hx
    have b := ht t (List.mem_cons_self ..)
    have c := up_sz (mul_sz a b) (show 395 + m ≤ m + 395 + ps.length by omega)
    show (Ht.valI p ((x : Nat) : Int) * t + Rn.knownV ps ts ((x : Nat) : Int)).natAbs < 2 ^ (m + 395 + (ps.length + 1))
    rw [show m + 395 + (ps.length + 1) = m + 395 + ps.length + 1 by omega, pow_more]
    omega
theorem known_lt {kind : Nat} {ps : List (List Int)} {ts : List Int} {k m : Nat} (hk : kind ≤ 1) (ho : OkP ps) (hx : k ≤ 19) (hl : ts.length ≤ 31) (hs : Sz m ts) : (Rn.knownI kind ps ts k).natAbs < 2 ^ (m + 398) := by
  have h4 := ho.n4
  unfold Rn.knownI
  by_cases h0 : kind = 0
  · subst h0
    rw [if_neg (by decide), leftI_st]
    have htr := Sl.trimI_len ts
    obtain ⟨_, _, h3⟩ := leftSt0_sz (by omega) (fun x hx => hs x (Sl.trimI_mem _ _ hx)) ps ho.p
    exact up_sz (sz_co h3 k) (by omega)
  · rw [if_pos (by omega)]
    have := knownV_sz hx (ps.take (ps.length - 1)) (ts.drop k) (fun p hp => ho.p p (List.mem_of_mem_take hp)) fun y hy => hs y (List.mem_of_mem_drop hy)
    rw [List.length_take] at this
    exact up_sz this (by omega)
theorem want_lt {kind : Nat} {right : List Int} {k : Nat} (hr : right.length ≤ 5 ∧ Sz 365 right) (hx : k ≤ 19) : (Rn.wantI kind right k).natAbs < 2 ^ 395 := by
  unfold Rn.wantI
  split
  · exact up_sz (sz_co hr.2 k) (by decide)
  · exact valP_sz hr hx
theorem go_sz {kind : Nat} {ps : List (List Int)} {right : List Int} {b : Rn.Bg} {m : Nat} (hk : kind ≤ 1) (ho : OkP ps) (hr : right.length ≤ 5 ∧ Sz 365 right) (hl : b.tops.length ≤ 19) (hl2 : ps.length - 1 ≤ b.tops.length) (h : SzB m b) : SzB (m + 400) (Rn.goI kind ps right b) := by
  have hld := lead_lt (k := b.tops.length - (ps.length - 1)) hk ho (by omega)
  have hkn := known_lt (k := b.tops.length - (ps.length - 1)) hk ho (by omega) (by omega) h.t
  have hwn := want_lt (kind := kind) (k := b.tops.length - (ps.length - 1)) hr (by omega)
  refine ⟨fun x hx => ?_, up_sz (mul_sz h.b hld) (by omega)⟩
  unfold Rn.goI at hx
  rcases List.mem_append.mp hx with hx | hx
  · obtain ⟨t, ht, rfl⟩ := List.mem_map.mp hx
    exact up_sz (mul_sz (h.t t ht) hld) (by omega)
  · rw [List.mem_singleton] at hx
    rw [hx]
    unfold Rn.restI
    have a := up_sz (mul_sz hwn h.b) (show 395 + m ≤ m + 398 by omega)
    refine up_sz (i := m + 398 + 1) ?_ (by omega)
    rw [pow_more]
    omega
def startI (kind : Nat) (b : Rn.Bg) : Rn.Bg := if kind = 0 then Rn.slopesBg b else b
theorem start_len (kind : Nat) (b : Rn.Bg) : (startI kind b).tops.length = b.tops.length := by
  unfold startI
  split
  · unfold Rn.slopesBg
    rw [List.length_map, List.length_zipIdx]
  · rfl
theorem start_sz {kind : Nat} {b : Rn.Bg} (hl : b.tops.length ≤ 3) (h : SzB 226 b) : SzB 230 (startI kind b) := by
  have hf : Al10.factorial b.tops.length < 2 ^ 3 := by
    have : ∀ i : Fin 4, Al10.factorial i.val < 2 ^ 3 := by decide +kernel
    exact this ⟨_, by omega⟩
  unfold startI
  split
  · refine ⟨fun x hx => ?_, up_sz (mul_sz h.b (nat_sz hf)) (by decide)⟩
    unfold Rn.slopesBg at hx
    obtain ⟨y, hy, rfl⟩ := List.mem_map.mp hx
    have hm : y.1 ∈ b.tops := (List.mem_zipIdx' hy).2 ▸ List.getElem_mem _
    exact up_sz (mul_sz (nat_sz (Nat.lt_of_le_of_lt (Nat.div_le_self _ _) hf)) (h.t _ hm)) (by decide)
  · exact ⟨sz_mono h.t (by decide), up_sz h.b (by decide)⟩
def goneI (kind : Nat) (ps : List (List Int)) (right : List Int) (b : Rn.Bg) (count : Nat) : Rn.Bg := Rn.goN kind ps right (count - b.tops.length) (startI kind b)
def goneT (kind : Nat) (ps : List (List Int)) (right : List Int) (b : Rn.Bg) (count : Nat) : Rn.Bg := ⟨(goneI kind ps right b count).tops.take count, (goneI kind ps right b count).bottom⟩
theorem goN_sz {kind : Nat} {ps : List (List Int)} {right : List Int} (hk : kind ≤ 1) (ho : OkP ps) (hr : right.length ≤ 5 ∧ Sz 365 right) : ∀ (f : Nat) (b : Rn.Bg) (m : Nat), b.tops.length + f ≤ 20 → ps.length - 1 ≤ b.tops.length → SzB m b → SzB (m + 400 * f) (Rn.goN kind ps right f b)
  | 0, b, m, _, _, h => h
  | f + 1, b, m, hl, hl2, h => by
    have := goN_sz hk ho hr f (Rn.goI kind ps right b) (m + 400) (by rw [Rn.goI_len]; omega) (by rw [Rn.goI_len]; omega) (go_sz hk ho hr (by omega) hl2 h)
    rw [show m + 400 * (f + 1) = m + 400 + 400 * f by omega]
    exact this
def R_gone_on : List D → D → Prop := fun ds d => ∃ (kind : Nat) (ps : List (List Int)) (right : List Int) (b : Rn.Bg) (count : Nat), ds = [.int (kind : Int), .lst (dLL ps), .lst (dI right), bgD b, .int (count : Int)] ∧ kind ≤ 1 ∧ OkP ps ∧ (right.length ≤ 5 ∧ Sz 365 right) ∧ b.tops.length = ps.length - 1 ∧ SzB 226 b ∧ count ≤ 20 ∧ d = bgD (goneT kind ps right b count)
theorem len_gone_on {ds : List D} {d : D} (h : R_gone_on ds d) : ds.length = 5 := by obtain ⟨a, b, c, e, f, rfl, _⟩ := h; rfl
structure GoI (kind : Nat) (ps : List (List Int)) (right : List Int) (count : Nat) (fin c : Rn.Bg) : Prop where
  lo : ps.length - 1 ≤ c.tops.length
  hi : c.tops.length ≤ max count (ps.length - 1)
  sz : SzB (230 + 400 * (c.tops.length - (ps.length - 1))) c
  fin : Rn.goN kind ps right (count - c.tops.length) c = fin
def muD (m : Int) : D → D
  | .int t => .int (t * m)
  | d => d
theorem ok_gone_on {P : Program} {w : World} {K : PySem.W.Frag} {mg : Str → Option Value} {base : Heap} {f : Addr} {fd : FuncData} (T : Txt mg) (c_from_slopes : Cal P w K mg base 2 "from_slopes" ["tops", "bottom"] R_from_slopes) (c_lead_at : Cal P w K mg base 5 "lead_at" ["kind", "parts", "place"] R_lead_at) (c_number_at : Cal P w K mg base 1 "number_at" ["polynomial", "power"] R_number_at) (c_value_at : Cal P w K mg base 1 "value_at" ["polynomial", "place"] R_value_at) (c_known_at : Cal P w K mg base 5 "known_at" ["kind", "parts", "tops", "place"] R_known_at) (F : Fun K "gone_on" "gone_on" s_gone_on f fd) : FnOk P w K mg base CX0 6 f fd ["kind", "parts", "right", "beginning", "count"] (SpR K R_gone_on) := by
  obtain ⟨f_from_slopes, fd_from_slopes, G_from_slopes, m_from_slopes, k_from_slopes, b_from_slopes⟩ := c_from_slopes.ex
  obtain ⟨f_lead_at, fd_lead_at, G_lead_at, m_lead_at, k_lead_at, b_lead_at⟩ := c_lead_at.ex
  obtain ⟨f_number_at, fd_number_at, G_number_at, m_number_at, k_number_at, b_number_at⟩ := c_number_at.ex
  obtain ⟨f_value_at, fd_value_at, G_value_at, m_value_at, k_value_at, b_value_at⟩ := c_value_at.ex
  obtain ⟨f_known_at, fd_known_at, G_known_at, m_known_at, k_known_at, b_known_at⟩ := c_known_at.ex
  refine fn_ok F sc_gone_on (by decide) (fun ds d h => ?_) (fun cdv A outer s H E hr => ?_)
  · exact len_gone_on h
  · have hu65 := hu65_of hr
    refine ⟨_, (pss_cons (ps_set (i := 5) sc_gone_on.nd rfl (Or.inl rfl) (pe_ifExp (pt_cmpR op_eq (pv 0) pe_int (nomark _)) (pe_call G_from_slopes (hr.mono (by decide)) (by rfl) m_from_slopes k_from_slopes b_from_slopes .nil pass0 (pa_cons (pe_ix ix_tup (pv 3) pe_int (fun _ _ => rfl)) (pa_cons (pe_ix ix_tup (pv 3) pe_int (fun _ _ => rfl)) pa_nil))) (pv 3)))
      (pss_cons (ps_set (i := 6) sc_gone_on.nd rfl (Or.inl rfl) (pe_ix ix_tup (pv 5) pe_int (fun _ _ => rfl)))
      (pss_cons (ps_set (i := 7) sc_gone_on.nd rfl (Or.inl rfl) (pe_ix ix_tup (pv 5) pe_int (fun _ _ => rfl)))
      (pss_cons (ps_while PassesOwn.never (pt_cmpR op_lt (pe_callB call_len_seq (by rfl) T.b_len PySem.boot_len (pa_cons (pv 6) pa_nil)) (pv 4) (nomark _)) (pss_cons (ps_set (i := 8) sc_gone_on.nd rfl (Or.inl rfl) (pe_op op_add (pe_op op_sub (pe_callB call_len_seq (by rfl) T.b_len PySem.boot_len (pa_cons (pv 6) pa_nil)) (pe_callB call_len_seq (by rfl) T.b_len PySem.boot_len (pa_cons (pv 1) pa_nil))) pe_int))
      (pss_cons (ps_set (i := 9) sc_gone_on.nd rfl (Or.inr rfl) (pe_call G_lead_at (hr.mono (by decide)) (by rfl) m_lead_at k_lead_at b_lead_at .nil pass0 (pa_cons (pv 0) (pa_cons (pv 1) (pa_cons (pv 8) pa_nil)))))
      (pss_cons (ps_set (i := 10) sc_gone_on.nd rfl (Or.inl rfl) (pe_ifExp (pt_cmpR op_eq (pv 0) pe_int (nomark _)) (pe_call G_number_at (hr.mono (by decide)) (by rfl) m_number_at k_number_at b_number_at .nil pass0 (pa_cons (pv 2) (pa_cons (pv 8) pa_nil))) (pe_call G_value_at (hr.mono (by decide)) (by rfl) m_value_at k_value_at b_value_at .nil pass0 (pa_cons (pv 2) (pa_cons (pv 8) pa_nil)))))
      (pss_cons (ps_set (i := 11) sc_gone_on.nd rfl (Or.inl rfl) (pe_op op_sub (pe_op op_mulW (pv 10) (pv 7)) (pe_call G_known_at (hr.mono (by decide)) (by rfl) m_known_at k_known_at b_known_at .nil pass0 (pa_cons (pv 0) (pa_cons (pv 1) (pa_cons (pv 6) (pa_cons (pv 8) pa_nil)))))))
      (pss_cons (ps_set (i := 6) sc_gone_on.nd rfl (Or.inl rfl) (pe_op op_cat (pe_lc (own := [("top", 12)]) rfl sc_gone_on.nd (pi_list (pv 6)) (blkOk_by (own := [("top", 12)]) (N := nm_gone_on) (sc := defScope s_gone_on) (by decide +kernel)) (fun _ _ _ _ _ => by exact (pg_name (i := 12) sc_gone_on.nd rfl (Or.inl rfl))) (fun _ _ _ _ _ => by exact pts_nil) (fun _ _ _ _ _ => by exact (pe_op op_mulW (pv 12) (pv 9)))) (pe_lst (pa_cons (pv 11) pa_nil))))
      (pss_one (ps_set (i := 7) sc_gone_on.nd rfl (Or.inl rfl) (pe_op op_mulW (pv 7) (pv 9))))))))))
      (pss_one (ps_ret (pe_tup (pa_cons (pe_slice sl_list (pv 6) po_none (po_some (pv 4))) (pa_cons (pv 7) pa_nil))))))))), fun ds d hR G0 H0 Q Z k => ?_⟩
    obtain ⟨kind, ps, right, b, count, rfl, hk, ho, hr, hbl, hsz, hc, rfl⟩ := hR
    have h1 := ho.n1
    have h4 := ho.n4
    have hsl := start_len kind b
    have hs0 := start_sz (kind := kind) (by omega) hsz
    refine q_asg (d := bgD (startI kind b)) (ev_if (et_test (ev_eqI (ev_var rfl).r ev_i.r).r) (fun q => ?_) (fun q => ?_)) ?_
    · have h0 : kind = 0 := by have := of_decide_eq_true q; omega
      unfold startI
      rw [if_pos h0]
      exact ev_call (ea_cons (ev_ixT (k := 0) (ev_var rfl) ev_i.r rfl) (ea_cons (ev_ixT (k := 1) (ev_var rfl) ev_i.r rfl) ea_nil)) ⟨b, rfl, by omega, sz_mono hsz.t (by decide), up_sz hsz.b (by decide), rfl⟩
    · have h0 : ¬ kind = 0 := by have := of_decide_eq_false q; omega
      unfold startI
      rw [if_neg h0]
      exact ev_var rfl
    have hgo : goneI kind ps right b count = Rn.goN kind ps right (count - (startI kind b).tops.length) (startI kind b) := by unfold goneI; rw [hsl]
    unfold goneT at k
    generalize goneI kind ps right b count = fin at *
    generalize startI kind b = st at *
    refine q_asg (d := .lst (dI st.tops)) (ev_ixT (k := 0) (ev_var rfl) ev_i.r rfl) ?_
    refine q_asg (d := .int st.bottom) (ev_ixT (k := 1) (ev_var rfl) ev_i.r rfl) ?_
    refine q_while (fun c : Rn.Bg => [.dat (.int (kind : Int)), .dat (.lst (dLL ps)), .dat (.lst (dI right)), .no, .dat (.int (count : Int)), .no, .dat (.lst (dI c.tops)), .dat (.int c.bottom), .no, .no, .no, .no, .no]) (GoI kind ps right count fin) (fun c => count - c.tops.length) st (le_eq rfl (le_eq rfl (le_eq rfl (le_no (le_eq rfl (le_no (le_eq rfl (le_eq rfl (le_refl _))))))))) ⟨by omega, by omega, by rw [hsl, hbl, Nat.sub_self]; exact hs0, hgo.symm⟩ fun c g => ?_
    have glo := g.lo
    have ghi := g.hi
    refine ⟨decide (c.tops.length < count), et_is (et_test (ev_opB (ev_len rfl (ev_var rfl).r .lst).r (ev_var rfl).r).r) (by rw [dI_len]; by_cases h : c.tops.length < count; rw [decide_eq_true h, decide_eq_true (by omega)]; rw [decide_eq_false h, decide_eq_false (by omega)]), fun q => ?_, fun q => ?_⟩
    · have hlt : c.tops.length < count := of_decide_eq_true q
      have hpl : (c.tops.length : Int) - (ps.length : Nat) + 1 = ((c.tops.length - (ps.length - 1) : Nat) : Int) := by omega
      have hszc := sz_mono g.sz.t (show _ ≤ 10000 by omega)
      have hbt := up_sz g.sz.b (show _ ≤ 10000 by omega)
      have hgs := go_sz hk ho hr (by omega) glo g.sz
      have hld := lead_lt (k := c.tops.length - (ps.length - 1)) hk ho (by omega)
      have hwn := want_lt (kind := kind) (k := c.tops.length - (ps.length - 1)) hr (by omega)
      have hll := log2_of_lt hld (by decide)
      have hwl := log2_of_lt hwn (by decide)
      have hbl2 := log2_of_lt hbt (by decide)
      have hgi : (Rn.goI kind ps right c).tops = (c.tops.map fun t => t * Rn.leadI kind ps (c.tops.length - (ps.length - 1))) ++ [Rn.restI kind ps right c] := rfl
      have hgb : (Rn.goI kind ps right c).bottom = c.bottom * Rn.leadI kind ps (c.tops.length - (ps.length - 1)) := rfl
      have hgl := Rn.goI_len kind ps right c
      have hre : Rn.restI kind ps right c = Rn.wantI kind right (c.tops.length - (ps.length - 1)) * c.bottom - Rn.knownI kind ps c.tops (c.tops.length - (ps.length - 1)) := rfl
      have hp19 : c.tops.length - (ps.length - 1) ≤ 19 := by omega
      have htl : c.tops.length = (c.tops.length - (ps.length - 1)) + (ps.length - 1) := by omega
      refine q_asg (d := .int ((c.tops.length - (ps.length - 1) : Nat) : Int)) (ev_is (ev_opI (ev_opI (ev_len rfl (ev_var rfl).r .lst).r (ev_len rfl (ev_var rfl).r .lst).r).r ev_i.r) (by rw [dI_len, dLL_len, ← hpl])) ?_
      generalize c.tops.length - (ps.length - 1) = pl at *
      refine q_asg (d := .int (Rn.leadI kind ps pl)) (ev_call (ea_cons (ev_var rfl) (ea_cons (ev_var rfl) (ea_cons (ev_var rfl) ea_nil))) ⟨kind, ps, pl, rfl, ho, hp19, rfl⟩) ?_
      refine q_asg (d := .int (Rn.wantI kind right pl)) (ev_if (et_test (ev_eqI (ev_var rfl).r ev_i.r).r) (fun q => ?_) (fun q => ?_)) ?_
      · have h0 : kind = 0 := by have := of_decide_eq_true q; omega
        unfold Rn.wantI
        rw [if_pos h0]
        exact ev_call (ea_cons (ev_var rfl) (ea_cons (ev_var rfl) ea_nil)) ⟨right, pl, rfl, rfl⟩
      · have h0 : ¬ kind = 0 := by have := of_decide_eq_false q; omega
        unfold Rn.wantI
        rw [if_neg h0]
        exact ev_call (ea_cons (ev_var rfl) (ea_cons (ev_var rfl) ea_nil)) ⟨right, ((pl : Nat) : Int), rfl, by omega, sz_mono hr.2 (by decide), Nat.lt_of_lt_of_le (nat_sz (k := 5) (show pl < 2 ^ 5 by omega)) (Nat.pow_le_pow_right (by decide) (by decide)), rfl⟩
      refine q_asg (d := .int (Rn.restI kind ps right c)) (ev_is (ev_opI (ev_mul (ev_var rfl).r (ev_var rfl).r (mulW_of (a := 395) (b := 10000) (by omega) (by omega) (by decide))).r (ev_call (d := .int (Rn.knownI kind ps c.tops pl)) (ea_cons (ev_var rfl) (ea_cons (ev_var rfl) (ea_cons (ev_var rfl) (ea_cons (ev_var rfl) ea_nil)))) ⟨kind, ps, c.tops, pl, rfl, ho, hp19, htl, by omega, hszc, rfl⟩).r) (by rw [hre])) ?_
      refine q_asg (d := .lst (dI (Rn.goI kind ps right c).tops)) (ev_is (n_cat (n_lc (it_list (ev_var rfl) .lst) _ [12] (fun d as => as.set 12 (.dat d)) (fun d hd => tg_name) (by decide) (fun _ => true) (muD (Rn.leadI kind ps pl)) (by rw [dI_len]; omega) (fun d hd => et_yes) (fun d hd _ => ?_)).ev (n_lst (ea_cons (ev_var rfl) ea_nil) (by show 1 ≤ 1000000; decide)).ev ?_).ev ?_) ?_
      · obtain ⟨t, ht, rfl⟩ := List.mem_map.mp hd
        have htl2 := log2_of_lt (hszc t ht) (by decide)
        exact ev_mul (ev_var rfl).r (ev_var rfl).r (mulW_of (a := 10000) (b := 395) (by omega) (by omega) (by decide))
      · have := picked_len (p := fun _ => true) (f := muD (Rn.leadI kind ps pl)) (ds := dI c.tops)
        rw [dI_len] at this
        show _ + 1 ≤ _
        omega
      · rw [picked_all (fun _ _ => rfl), hgi, dI_append]
        unfold dI
        rw [List.map_map, List.map_map]
        rfl
      · refine c_asg (d := .int (Rn.goI kind ps right c).bottom) (ev_is (ev_mul (ev_var rfl).r (ev_var rfl).r (mulW_of (a := 10000) (b := 395) (by omega) (by omega) (by decide))) (by rw [hgb])) ?_
        refine c_nx (Rn.goI kind ps right c) (le_eq rfl (le_eq rfl (le_eq rfl (le_no (le_eq rfl (le_no (le_eq rfl (le_eq rfl (le_no (le_no (le_no (le_no (le_no le_nil))))))))))))) ⟨by omega, by omega, ?_, ?_⟩ (by show count - (Rn.goI kind ps right c).tops.length < count - c.tops.length; omega)
        · refine ⟨sz_mono hgs.t (by omega), up_sz hgs.b (by omega)⟩
        · rw [← g.fin, hgl, show count - c.tops.length = (count - (c.tops.length + 1)) + 1 by omega]
          rfl
    · have hlt : ¬ c.tops.length < count := of_decide_eq_false q
      have hfin : c = fin := by
        have := g.fin
        rw [show count - c.tops.length = 0 by omega] at this
        exact this
      subst hfin
      exact c_ret (ev_tup (ea_cons (ev_is (n_sl (lo := none) (ev_var rfl) .lst eo_none (eo_some (ev_var rfl).r)).ev (by rw [cut_dI_to])) (ea_cons (ev_var rfl) ea_nil)) (by show 2 ≤ 1000000; decide)) k
end Pg
set_option Elab.async false
set_option linter.all false
set_option maxRecDepth 100000
set_option maxHeartbeats 2000000
namespace Pg
open PySem PyProof.Rows L2 Fw
abbrev s_counts_fit : Stmt := topS 53
abbrev nm_counts_fit : List Str := ["kind", "sizes", "count", "size"]
theorem sc_counts_fit : FnScope nm_counts_fit ["kind", "sizes", "count"] (defScope s_counts_fit) := ⟨rfl, rfl, rfl, by decide +kernel, rfl, by decide +kernel, by decide +kernel⟩
def badS (s : Nat) : Bool := decide (s < 1) || decide (4 < s)
def fitB (kind : Nat) (sizes : List Nat) (count : Nat) : Bool := if 1 < kind ∨ sizes.length < 1 ∨ 2 < sizes.length then false else if sizes.any badS = true then false else decide (count = sizes.sum + sizes.length)
def fitZ (kind : Nat) (sizes : List Nat) (count : Int) : Bool := if 1 < kind ∨ sizes.length < 1 ∨ 2 < sizes.length then false else if sizes.any badS = true then false else decide (count = ((sizes.sum : Nat) : Int) + ((sizes.length : Nat) : Int))
theorem fitZ_nat (kind : Nat) (sizes : List Nat) (count : Nat) : fitZ kind sizes (count : Int) = fitB kind sizes count := by
  unfold fitZ fitB
  have e : decide ((count : Int) = ((sizes.sum : Nat) : Int) + ((sizes.length : Nat) : Int)) = decide (count = sizes.sum + sizes.length) := by
    by_cases e : count = sizes.sum + sizes.length
    · rw [decide_eq_true e, decide_eq_true (by omega)]
    · rw [decide_eq_false e, decide_eq_false (by omega)]
  rw [e]
def R_counts_fit : List D → D → Prop := fun ds d => ∃ (kind : Nat) (sizes : List Nat) (count : Int) (sd : D), ds = [.int (kind : Int), sd, .int count] ∧ Ls sd (dN sizes) ∧ sizes.length ≤ 1000000 ∧ d = .bl (fitZ kind sizes count)
theorem len_counts_fit {ds : List D} {d : D} (h : R_counts_fit ds d) : ds.length = 3 := by obtain ⟨a, b, c, e, rfl, _⟩ := h; rfl
def badD : D → D
  | .int i => .bl (badS i.toNat)
  | d => d
theorem badD_at (s : Nat) : badD (.int (s : Int)) = .bl (badS s) := by show D.bl (badS (Int.toNat (s : Int))) = _; rw [Int.toNat_natCast]
theorem sum_cast : ∀ w : List Nat, (w.map fun (b : Nat) => (b : Int)).sum = (w.sum : Nat)
  | [] => rfl
  | a :: w => by rw [List.map_cons, List.sum_cons, List.sum_cons, sum_cast w]; omega
theorem dec_int (a b : Nat) : decide ((a : Int) < b) = decide (a < b) := by
  by_cases h : a < b
  · rw [decide_eq_true h, decide_eq_true (by omega)]
  · rw [decide_eq_false h, decide_eq_false (by omega)]
theorem ok_counts_fit {P : Program} {w : World} {K : PySem.W.Frag} {mg : Str → Option Value} {base : Heap} {f : Addr} {fd : FuncData} (T : Txt mg) (n_MOST_PARTS : Num mg "MOST_PARTS" (4)) (F : Fun K "counts_fit" "counts_fit" s_counts_fit f fd) : FnOk P w K mg base CX0 1 f fd ["kind", "sizes", "count"] (SpR K R_counts_fit) := by
  obtain ⟨t_MOST_PARTS, m_MOST_PARTS⟩ := n_MOST_PARTS
  refine fn_ok F sc_counts_fit (by decide) (fun ds d h => ?_) (fun cdv A outer s H E hr => ?_)
  · exact len_counts_fit h
  · have hu65 := hu65_of hr
    refine ⟨_, (pss_cons (ps_if ((pw_or (pt_cmpR op_gt (pv 0) pe_int (nomark _)) (pw_or (pt_cmpR op_lt (pe_callB call_len_seq (by rfl) T.b_len PySem.boot_len (pa_cons (pv 1) pa_nil)) pe_int (nomark _)) (pw_or1 (pt_cmpR op_gt (pe_callB call_len_seq (by rfl) T.b_len PySem.boot_len (pa_cons (pv 1) pa_nil)) pe_int (nomark _)))))).pt (pss_one (ps_ret pe_bl)) pss_nil)
      (pss_cons (ps_if (pt_val (pe_callB (cr_any rfl) (by rfl) T.b_any (by decide +kernel) (pa_cons (pe_lc (own := [("size", 3)]) rfl sc_counts_fit.nd (pi_list (pv 1)) (blkOk_by (own := [("size", 3)]) (N := nm_counts_fit) (sc := defScope s_counts_fit) (by decide +kernel)) (fun _ _ _ _ _ => by exact (pg_name (i := 3) sc_counts_fit.nd rfl (Or.inl rfl))) (fun _ _ _ _ _ => by exact pts_nil) (fun _ _ _ _ _ => by exact (pe_or (pe_cmpR op_lt (pv 3) pe_int (nomark _)) (pe_one (pe_cmpR op_gt (pv 3) (pe_glob (v := .int (4)) (by rfl) m_MOST_PARTS ⟨_, rfl⟩) (nomark _)))))) pa_nil))) (pss_one (ps_ret pe_bl)) pss_nil)
      (pss_one (ps_ret (pe_cmpR op_eq (pv 2) (pe_op op_add (pe_callB (cr_sum rfl) (by rfl) T.b_sum (by decide +kernel) (pa_cons (pv 1) pa_nil)) (pe_callB call_len_seq (by rfl) T.b_len PySem.boot_len (pa_cons (pv 1) pa_nil))) (nomark _)))))), fun ds d hR G0 H0 Q Z k => ?_⟩
    obtain ⟨kind, sizes, count, sd, rfl, hs, hz, rfl⟩ := hR
    unfold fitZ at k
    refine q_when (b := decide (1 < kind ∨ sizes.length < 1 ∨ 2 < sizes.length)) (et_is (et_or (et_test (ev_opB (ev_var rfl).r ev_i.r).r) fun _ => et_or (et_test (ev_opB (ev_len rfl (ev_var rfl).r hs).r ev_i.r).r) fun _ => et_test (ev_opB (ev_len rfl (ev_var rfl).r hs).r ev_i.r).r) ?_) (fun q => ?_) (fun q => ?_)
    · rw [dN_len, Bool.decide_or, Bool.decide_or]
      exact congr (congrArg or (dec_int 1 kind)) (congr (congrArg or (dec_int sizes.length 1)) (dec_int 2 sizes.length))
    · rw [if_pos (of_decide_eq_true q)] at k
      exact c_ret ev_b k
    · rw [if_neg (of_decide_eq_false q)] at k
      refine q_when (et_B (ev_any (bs := sizes.map badS) (ev_is (n_lc (it_list (ev_var rfl) hs) _ [3] (fun d as => as.set 3 (.dat d)) (fun d hd => tg_name) (by decide) (fun _ => true) badD (by rw [dN_len]; omega) (fun d hd => et_yes) (fun d hd _ => ?_)).ev ?_).r).r) (fun q2 => ?_) (fun q2 => ?_)
      · obtain ⟨s, hsm, rfl⟩ := List.mem_map.mp hd
        rw [badD_at]
        refine ev_is (ev_orV (ev_opB (ev_var rfl).r ev_i.r).r fun _ => ev_opB (ev_var rfl).r ev_i.r) ?_
        exact congrArg D.bl (congr (congrArg or (dec_int s 1)) (dec_int 4 s))
      · rw [picked_all (fun _ _ => rfl)]
        unfold dN dB
        rw [List.map_map, List.map_map]
        exact congrArg D.lst (List.map_congr_left fun s _ => badD_at s)
      · rw [List.any_map] at q2
        rw [if_pos (by simpa using q2)] at k
        exact c_ret ev_b k
      · rw [List.any_map] at q2
        rw [if_neg (by simpa using q2)] at k
        refine c_ret (ev_is (ev_eqI (ev_var rfl).r (ev_opI (ev_sum (ns := sizes.map fun (b : Nat) => (b : Int)) (ev_var rfl).r (by rw [← dN_dI]; exact hs)).r (ev_len rfl (ev_var rfl).r hs).r).r) ?_) k
        rw [sum_cast, dN_len]
abbrev s_whole_equations : Stmt := topS 56
abbrev nm_whole_equations : List Str := ["sizes", "polynomials", "equations", "start", "size", "end", "common", "scaled", "terms"]
theorem sc_whole_equations : FnScope nm_whole_equations ["sizes", "polynomials"] (defScope s_whole_equations) := ⟨rfl, rfl, rfl, by decide +kernel, rfl, by decide +kernel, by decide +kernel⟩
abbrev EqI := List (List Int) × List Int
def dE (e : EqI) : D := pairD (.lst (dLL e.1)) (.lst (dI e.2))
def dEs (es : List EqI) : List D := es.map dE
def wholes (l : List (List Sl.Tm)) : List (List Int) := l.map fun ts => Sl.wholeI ts (Sl.lcmAll l 1)
def eqAt (n : Nat) (l : List (List Sl.Tm)) : EqI := ((wholes (l.take (n + 1))).take n, (wholes (l.take (n + 1))).getD n [])
def eqsI : List Nat → List (List Sl.Tm) → List EqI
  | [], _ => []
  | n :: ns, l => eqAt n l :: eqsI ns (l.drop (n + 1))
def upTo (ns : List Nat) : Nat := ns.sum + ns.length
theorem eqs_more : ∀ (ns : List Nat) (n : Nat) (l : List (List Sl.Tm)), eqsI (ns ++ [n]) l = eqsI ns l ++ [eqAt n (l.drop (upTo ns))]
  | [], n, l => rfl
  | m :: ns, n, l => by
    show eqAt m l :: eqsI (ns ++ [n]) (l.drop (m + 1)) = eqAt m l :: eqsI ns (l.drop (m + 1)) ++ [_]
    rw [eqs_more ns n, List.drop_drop, List.cons_append]
    unfold upTo
    rw [List.sum_cons, List.length_cons, show m + 1 + (ns.sum + ns.length) = m + ns.sum + (ns.length + 1) by omega]
theorem eqs_len : ∀ (ns : List Nat) (l : List (List Sl.Tm)), (eqsI ns l).length = ns.length
  | [], l => rfl
  | m :: ns, l => by show (eqsI ns _).length + 1 = _; rw [eqs_len ns, List.length_cons]
theorem upTo_more (ns : List Nat) (n : Nat) : upTo (ns ++ [n]) = upTo ns + n + 1 := by
  unfold upTo; rw [List.sum_append, List.length_append]; simp; omega
theorem upTo_take (ns : List Nat) (i : Nat) : upTo (ns.take i) ≤ upTo ns := by
  have h := List.take_append_drop i ns
  have e : upTo ns = upTo (ns.take i ++ ns.drop i) := by rw [h]
  rw [e]
  unfold upTo
  rw [List.sum_append, List.length_append]
  omega
def R_whole_equations : List D → D → Prop := fun ds d => ∃ (sizes : List Nat) (l : List (List Sl.Tm)) (sd : D), ds = [sd, .lst (dLT l)] ∧ Ls sd (dN sizes) ∧ sizes.length ≤ 1000 ∧ (∀ n ∈ sizes, n ≤ 4) ∧ l.length = upTo sizes ∧ (∀ ts ∈ l, Oks ts) ∧ d = .lst (dEs (eqsI sizes l))
theorem len_whole_equations {ds : List D} {d : D} (h : R_whole_equations ds d) : ds.length = 2 := by obtain ⟨a, b, c, rfl, _⟩ := h; rfl
theorem dEs_len (es : List EqI) : (dEs es).length = es.length := List.length_map ..
theorem ok_whole_equations {P : Program} {w : World} {K : PySem.W.Frag} {mg : Str → Option Value} {base : Heap} {f : Addr} {fd : FuncData} (T : Txt mg) (c_common_bottom : Cal P w K mg base 3 "common_bottom" ["polynomials"] R_common_bottom) (c_whole_numbers : Cal P w K mg base 2 "whole_numbers" ["terms", "common"] R_whole_numbers) (F : Fun K "whole_equations" "whole_equations" s_whole_equations f fd) : FnOk P w K mg base CX0 4 f fd ["sizes", "polynomials"] (SpR K R_whole_equations) := by
  obtain ⟨f_common_bottom, fd_common_bottom, G_common_bottom, m_common_bottom, k_common_bottom, b_common_bottom⟩ := c_common_bottom.ex
  obtain ⟨f_whole_numbers, fd_whole_numbers, G_whole_numbers, m_whole_numbers, k_whole_numbers, b_whole_numbers⟩ := c_whole_numbers.ex
  refine fn_ok F sc_whole_equations (by decide) (fun ds d h => ?_) (fun cdv A outer s H E hr => ?_)
  · exact len_whole_equations h
  · have hu65 := hu65_of hr
    refine ⟨_, (pss_cons (ps_set (i := 2) sc_whole_equations.nd rfl (Or.inl rfl) (pe_lst pa_nil))
      (pss_cons (ps_set (i := 3) sc_whole_equations.nd rfl (Or.inl rfl) pe_int)
      (pss_cons (ps_for PassesOwn.never rfl (pi_list (pv 0)) (pg_name (i := 4) sc_whole_equations.nd rfl (Or.inl rfl)) (pss_cons (ps_set (i := 5) sc_whole_equations.nd rfl (Or.inl rfl) (pe_op op_add (pe_op op_add (pv 3) (pv 4)) pe_int))
      (pss_cons (ps_set (i := 6) sc_whole_equations.nd rfl (Or.inr rfl) (pe_call G_common_bottom (hr.mono (by decide)) (by rfl) m_common_bottom k_common_bottom b_common_bottom .nil pass0 (pa_cons (pe_slice sl_list (pv 1) (po_some (pv 3)) (po_some (pv 5))) pa_nil)))
      (pss_cons (ps_setLc (i := 7) (own := [("terms", 8)]) rfl sc_whole_equations.nd rfl rfl (sw_true rfl rfl rfl (by decide +kernel)) (pi_list (pe_slice sl_list (pv 1) (po_some (pv 3)) (po_some (pv 5)))) (blkOk_by (own := [("terms", 8)]) (N := nm_whole_equations) (sc := defScope s_whole_equations) (by decide +kernel)) (fun _ _ _ _ _ => by exact (pg_name (i := 8) sc_whole_equations.nd rfl (Or.inl rfl))) (fun _ _ _ _ _ => by exact pts_nil) (fun _ _ _ _ _ => by exact (pe_call G_whole_numbers (hr.mono (by decide)) (by rfl) m_whole_numbers k_whole_numbers b_whole_numbers .nil pass0 (pa_cons (pv 8) (pa_cons (pv 6) pa_nil)))))
      (pss_cons (ps_expr (pe_bm PySem.F.plainAttrs_list PySem.F.slot_list_append PySem.F.type_list_append mt_append (pv 2) (pa_cons (pe_tup (pa_cons (pe_slice sl_list (pv 7) po_none (po_some (pv 4))) (pa_cons (pe_ix ix_list (pv 7) (pv 4) (fun _ _ => rfl)) pa_nil))) pa_nil)))
      (pss_one (ps_set (i := 3) sc_whole_equations.nd rfl (Or.inl rfl) (pv 5))))))))
      (pss_one (ps_ret (pv 2)))))), fun ds d hR G0 H0 Q Z k => ?_⟩
    obtain ⟨sizes, l, sd, rfl, hsd, hs, h4, hl, ho, rfl⟩ := hR
    refine q_new (ds := dEs (eqsI (sizes.take 0) l)) (n_lst ea_nil (by show 0 ≤ 1000000; decide)) ?_
    refine q_asg (d := .int ((upTo (sizes.take 0) : Nat) : Int)) ev_i ?_
    refine q_for (it_list (ev_var rfl) hsd) (fun i => [.dat sd, .dat (.lst (dLT l)), .mu (dEs (eqsI (sizes.take i) l)), .dat (.int ((upTo (sizes.take i) : Nat) : Int)), .no, .no, .no, .no, .no]) [4] (fun d as => as.set 4 (.dat d)) (fun d _ => tg_name) (le_eq rfl (le_eq rfl (le_eq rfl (le_eq rfl (le_refl _))))) (fun B C sub i d hd => ?_) ?_
    · obtain ⟨n, hn, rfl⟩ := dN_get hd
      have hi : i < sizes.length := (List.getElem?_eq_some_iff.mp hn).1
      have hn4 := h4 n (List.mem_of_getElem? hn)
      have htk : sizes.take (i + 1) = sizes.take i ++ [n] := by rw [List.take_add_one, hn]; rfl
      have hle := upTo_take sizes (i + 1)
      have hel := eqs_len (sizes.take i) l
      rw [List.length_take] at hel
      rw [htk, upTo_more] at hle
      rw [htk, upTo_more, eqs_more]
      generalize upTo (sizes.take i) = u at *
      generalize eqsI (sizes.take i) l = es at *
      show Co K B C [.dat sd, .dat (.lst (dLT l)), .mu (dEs es), .dat (.int (u : Int)), .dat (.int (n : Int)), .no, .no, .no, .no] _
      have hwl : (wholes ((l.drop u).take (n + 1))).length = n + 1 := by
        unfold wholes
        rw [List.length_map, List.length_take, List.length_drop]; omega
      have hsl : D.lst (cut (dLT l) (some ((u : Nat) : Int)) (some ((u + n + 1 : Nat) : Int))) = .lst (dLT ((l.drop u).take (n + 1))) := by
        rw [cut_mid _ _ _ (by unfold dLT; rw [List.length_map]; omega) (by omega), show u + n + 1 - u = n + 1 by omega]
        unfold dLT
        rw [List.map_take, List.map_drop]
      have hol : ∀ ts ∈ (l.drop u).take (n + 1), Oks ts := fun ts hts => ho ts (List.mem_of_mem_drop (List.mem_of_mem_take hts))
      have hll : ((l.drop u).take (n + 1)).length ≤ 5 := by rw [List.length_take]; omega
      refine q_asg (d := .int ((u + n + 1 : Nat) : Int)) (ev_is (ev_opI (ev_opI (ev_var rfl).r (ev_var rfl).r).r ev_i.r) (by congr 1)) ?_
      refine q_asg (d := .int ((Sl.lcmAll ((l.drop u).take (n + 1)) 1 : Nat) : Int)) (ev_call (ea_cons (ev_is (n_sl (ev_var rfl) .lst (eo_some (ev_var rfl).r) (eo_some (ev_var rfl).r)).ev hsl) ea_nil) ⟨(l.drop u).take (n + 1), rfl, by omega, hol, rfl⟩) ?_
      have hc := lcmAll_lt (k := 1) ((l.drop u).take (n + 1)) 1 (by decide) (by decide) hol
      have hcl : (Sl.lcmAll ((l.drop u).take (n + 1)) 1).log2 < 100000 := Nat.lt_of_lt_of_le (log2_of_lt hc (by omega)) (by omega)
      refine q_asg (d := .lst (dLL (wholes ((l.drop u).take (n + 1))))) (ev_is (n_lc (ds := dLT ((l.drop u).take (n + 1))) (it_list (ev_is (n_sl (ev_var rfl) .lst (eo_some (ev_var rfl).r) (eo_some (ev_var rfl).r)).ev hsl) .lst) _ [8] (fun d as => as.set 8 (.dat d)) (fun d hd => tg_name) (by decide) (fun _ => true) (onTs fun ts => .lst (dI (Sl.wholeI ts (Sl.lcmAll ((l.drop u).take (n + 1)) 1)))) (by rw [show (dLT ((l.drop u).take (n + 1))).length = ((l.drop u).take (n + 1)).length from List.length_map ..]; omega) (fun d hd => et_yes) (fun d hd _ => ?_)).ev ?_) ?_
      · obtain ⟨ts, hts, rfl⟩ := List.mem_map.mp hd
        have h := hol ts hts
        refine ev_call (ea_cons (ev_var rfl) (ea_cons (ev_var rfl) ea_nil)) ⟨ts, Sl.lcmAll ((l.drop u).take (n + 1)) 1, rfl, fun t ht => ⟨h.p t ht, h.d0 t ht, ?_, ?_⟩, hcl, onTs_at _ ts⟩
        · have := log2_of_lt (h.d t ht) (by decide); omega
        · have := log2_of_lt (h.n t ht) (by decide); omega
      · rw [picked_all (fun _ _ => rfl)]
        unfold wholes dLL dLT
        rw [List.map_map, List.map_map]
        congr 1
        exact List.map_congr_left fun ts _ => onTs_at _ ts
      · refine q_app (d := dE (eqAt n (l.drop u))) rfl (ev_tup (ea_cons (ev_is (n_sl (lo := none) (ev_var rfl) .lst eo_none (eo_some (ev_var rfl).r)).ev (show D.lst (cut (dLL (wholes ((l.drop u).take (n + 1)))) none (some ((n : Nat) : Int))) = .lst (dLL (eqAt n (l.drop u)).1) from ?_)) (ea_cons (ev_ix (k := n) (ev_var rfl) .lst (ev_var rfl).r (dLL_atD (by omega))) ea_nil)) (by show 2 ≤ 1000000; decide)) (by rw [dEs_len]; omega) ?_
        · rw [cut_to]
          unfold dLL eqAt
          rw [List.map_take]
        · refine c_asg (ev_var rfl) ?_
          refine c_at (le_eq rfl (le_eq rfl (le_eq ?_ (le_eq rfl (le_no (le_no (le_no (le_no (le_no le_nil)))))))))
          unfold dEs
          rw [List.map_append]
          rfl
    · refine c_frz (n := 2) rfl ?_
      refine c_ret (ev_is (ev_var rfl) ?_) k
      rw [dN_len, List.take_length]
abbrev s_read_number : Stmt := topS 30
abbrev nm_read_number : List Str := ["text"]
theorem sc_read_number : FnScope nm_read_number ["text"] (defScope s_read_number) := ⟨rfl, rfl, rfl, by decide +kernel, rfl, by decide +kernel, by decide +kernel⟩
def R_read_number : List D → D → Prop := fun ds d => ∃ t : List Nat, ds = [.inp (dN t)] ∧ t.length ≤ 200 ∧ d = dOTs (Sl.readN t)
theorem len_read_number {ds : List D} {d : D} (h : R_read_number ds d) : ds.length = 1 := by obtain ⟨a, rfl, _⟩ := h; rfl
theorem mem_castX (t : List Nat) : decide ((120 : Int) ∈ t.map fun (b : Nat) => (b : Int)) = decide (120 ∈ t) := by
  by_cases h : 120 ∈ t
  · rw [decide_eq_true h]
    exact decide_eq_true (List.mem_map.mpr ⟨120, h, rfl⟩)
  · rw [decide_eq_false h, decide_eq_false]
    intro z
    obtain ⟨b, hb, e⟩ := List.mem_map.mp z
    have : b = 120 := by omega
    rw [this] at hb
    exact h hb
theorem ok_read_number {P : Program} {w : World} {K : PySem.W.Frag} {mg : Str → Option Value} {base : Heap} {f : Addr} {fd : FuncData} (T : Txt mg) (c_read_polynomial : Cal P w K mg base 5 "read_polynomial" ["text"] R_read_polynomial) (n_LETTER_X : Num mg "LETTER_X" (120)) (F : Fun K "read_number" "read_number" s_read_number f fd) : FnOk P w K mg base CX0 6 f fd ["text"] (SpR K R_read_number) := by
  obtain ⟨f_read_polynomial, fd_read_polynomial, G_read_polynomial, m_read_polynomial, k_read_polynomial, b_read_polynomial⟩ := c_read_polynomial.ex
  obtain ⟨t_LETTER_X, m_LETTER_X⟩ := n_LETTER_X
  refine fn_ok F sc_read_number (by decide) (fun ds d h => ?_) (fun cdv A outer s H E hr => ?_)
  · exact len_read_number h
  · have hu65 := hu65_of hr
    refine ⟨_, (pss_cons (ps_if (pt_cmpR op_in_seq (pe_glob (v := .int (120)) (by rfl) m_LETTER_X ⟨_, rfl⟩) (pv 0) (by with_unfolding_all rfl)) (pss_one (ps_ret pe_non)) pss_nil)
      (pss_one (ps_ret (pe_call G_read_polynomial (hr.mono (by decide)) (by rfl) m_read_polynomial k_read_polynomial b_read_polynomial .nil pass0 (pa_cons (pv 0) pa_nil))))), fun ds d hR G0 H0 Q Z k => ?_⟩
    obtain ⟨t, rfl, hl, rfl⟩ := hR
    unfold Sl.readN at k
    refine q_when (b := decide (120 ∈ t)) (et_is (et_test (ev_inI (neg := false) (ns := t.map fun (b : Nat) => (b : Int)) ev_i.r (ev_var rfl).r (by rw [← dN_dI]; exact .inp)).r) (mem_castX t)) (fun q => ?_) (fun q => ?_)
    · rw [if_pos (of_decide_eq_true q)] at k
      exact c_ret ev_non k
    · rw [if_neg (of_decide_eq_false q)] at k
      exact c_ret (ev_call (ea_cons (ev_var rfl) ea_nil) ⟨t, rfl, hl, rfl⟩) k
abbrev s_over_common_bottom : Stmt := topS 59
abbrev nm_over_common_bottom : List Str := ["numbers", "common", "terms"]
theorem sc_over_common_bottom : FnScope nm_over_common_bottom ["numbers"] (defScope s_over_common_bottom) := ⟨rfl, rfl, rfl, by decide +kernel, rfl, by decide +kernel, by decide +kernel⟩
def begI (l : List (List Sl.Tm)) : Rn.Bg := ⟨l.map fun ts => Sl.co (Sl.wholeI ts (Sl.lcmAll l 1)) 0, ((Sl.lcmAll l 1 : Nat) : Int)⟩
def R_over_common_bottom : List D → D → Prop := fun ds d => ∃ l : List (List Sl.Tm), ds = [.lst (dLT l)] ∧ l.length ≤ 50 ∧ (∀ ts ∈ l, Oks ts) ∧ d = bgD (begI l)
theorem len_over_common_bottom {ds : List D} {d : D} (h : R_over_common_bottom ds d) : ds.length = 1 := by obtain ⟨a, rfl, _⟩ := h; rfl
theorem ok_over_common_bottom {P : Program} {w : World} {K : PySem.W.Frag} {mg : Str → Option Value} {base : Heap} {f : Addr} {fd : FuncData} (T : Txt mg) (c_common_bottom : Cal P w K mg base 3 "common_bottom" ["polynomials"] R_common_bottom) (c_number_at : Cal P w K mg base 1 "number_at" ["polynomial", "power"] R_number_at) (c_whole_numbers : Cal P w K mg base 2 "whole_numbers" ["terms", "common"] R_whole_numbers) (F : Fun K "over_common_bottom" "over_common_bottom" s_over_common_bottom f fd) : FnOk P w K mg base CX0 4 f fd ["numbers"] (SpR K R_over_common_bottom) := by
  obtain ⟨f_common_bottom, fd_common_bottom, G_common_bottom, m_common_bottom, k_common_bottom, b_common_bottom⟩ := c_common_bottom.ex
  obtain ⟨f_number_at, fd_number_at, G_number_at, m_number_at, k_number_at, b_number_at⟩ := c_number_at.ex
  obtain ⟨f_whole_numbers, fd_whole_numbers, G_whole_numbers, m_whole_numbers, k_whole_numbers, b_whole_numbers⟩ := c_whole_numbers.ex
  refine fn_ok F sc_over_common_bottom (by decide) (fun ds d h => ?_) (fun cdv A outer s H E hr => ?_)
  · exact len_over_common_bottom h
  · have hu65 := hu65_of hr
    refine ⟨_, (pss_cons (ps_set (i := 1) sc_over_common_bottom.nd rfl (Or.inr rfl) (pe_call G_common_bottom (hr.mono (by decide)) (by rfl) m_common_bottom k_common_bottom b_common_bottom .nil pass0 (pa_cons (pv 0) pa_nil)))
      (pss_one (ps_ret (pe_tup (pa_cons (pe_lc (own := [("terms", 2)]) rfl sc_over_common_bottom.nd (pi_list (pv 0)) (blkOk_by (own := [("terms", 2)]) (N := nm_over_common_bottom) (sc := defScope s_over_common_bottom) (by decide +kernel)) (fun _ _ _ _ _ => by exact (pg_name (i := 2) sc_over_common_bottom.nd rfl (Or.inl rfl))) (fun _ _ _ _ _ => by exact pts_nil) (fun _ _ _ _ _ => by exact (pe_call G_number_at (hr.mono (by decide)) (by rfl) m_number_at k_number_at b_number_at .nil pass0 (pa_cons (pe_call G_whole_numbers (hr.mono (by decide)) (by rfl) m_whole_numbers k_whole_numbers b_whole_numbers .nil pass0 (pa_cons (pv 2) (pa_cons (pv 1) pa_nil))) (pa_cons pe_int pa_nil))))) (pa_cons (pv 1) pa_nil)))))), fun ds d hR G0 H0 Q Z k => ?_⟩
    obtain ⟨l, rfl, hl, ho, rfl⟩ := hR
    refine q_asg (d := .int ((Sl.lcmAll l 1 : Nat) : Int)) (ev_call (ea_cons (ev_var rfl) ea_nil) ⟨l, rfl, hl, ho, rfl⟩) ?_
    have hc := lcmAll_lt (k := 1) l 1 (by decide) (by decide) ho
    have hcl : (Sl.lcmAll l 1).log2 < 100000 := Nat.lt_of_lt_of_le (log2_of_lt hc (by omega)) (by omega)
    refine c_ret (ev_tup (ea_cons (ev_is (n_lc (ds := dLT l) (it_list (ev_var rfl) .lst) _ [2] (fun d as => as.set 2 (.dat d)) (fun d hd => tg_name) (by decide) (fun _ => true) (onTs fun ts => .int (Sl.co (Sl.wholeI ts (Sl.lcmAll l 1)) 0)) (by rw [show (dLT l).length = l.length from List.length_map ..]; omega) (fun d hd => et_yes) (fun d hd _ => ?_)).ev (show D.lst _ = .lst (dI (begI l).tops) from ?_)) (ea_cons (ev_var rfl) ea_nil)) (by show 2 ≤ 1000000; decide)) k
    · obtain ⟨ts, hts, rfl⟩ := List.mem_map.mp hd
      have h := ho ts hts
      rw [onTs_at]
      refine ev_call (ea_cons (ev_call (d := .lst (dI (Sl.wholeI ts (Sl.lcmAll l 1)))) (ea_cons (ev_var rfl) (ea_cons (ev_var rfl) ea_nil)) ⟨ts, Sl.lcmAll l 1, rfl, fun t ht => ⟨h.p t ht, h.d0 t ht, ?_, ?_⟩, hcl, rfl⟩) (ea_cons ev_i ea_nil)) ⟨_, 0, rfl, rfl⟩
      · have := log2_of_lt (h.d t ht) (by decide); omega
      · have := log2_of_lt (h.n t ht) (by decide); omega
    · rw [picked_all (fun _ _ => rfl)]
      unfold begI dLT dI
      rw [List.map_map, List.map_map]
      congr 1
      exact List.map_congr_left fun ts _ => onTs_at _ ts
end Pg
set_option Elab.async false
set_option linter.all false
set_option maxRecDepth 100000
set_option maxHeartbeats 2000000
namespace Pg
open PySem PyProof.Rows L2 Fw
open Sl (Tm Valid)
/-! ### what run makes of what is handed in -/
def badR (kind size len : Nat) : Prop := 1 < kind ∨ size < 1 ∨ 4 < size ∨ len ≠ 2 * size
instance (kind size len : Nat) : Decidable (badR kind size len) := by unfold badR; infer_instance
theorem fit_run (kind size len : Nat) : fitZ kind [size] ((len : Int) - (size : Int) + 1) = !decide (badR kind size len) := by
  unfold fitZ
  by_cases h : badR kind size len
  · rw [decide_eq_true h]
    unfold badR at h
    split
    · rfl
    · split
      · rfl
      · rename_i q1 q2
        have q3 : badS size = false := by
          cases e : badS size with
          | false => rfl
          | true => exact absurd (by simp [e]) q2
        unfold badS at q3
        simp only [Bool.or_eq_false_iff, decide_eq_false_iff_not] at q3
        refine decide_eq_false ?_
        simp only [List.length_cons, List.length_nil, List.sum_cons, List.sum_nil] at q1 ⊢
        omega
  · rw [decide_eq_false h]
    unfold badR at h
    have q3 : badS size = false := by
      unfold badS
      simp only [Bool.or_eq_false_iff, decide_eq_false_iff_not]
      omega
    rw [if_neg (by simp only [List.length_cons, List.length_nil]; omega), if_neg (by simp [q3])]
    refine decide_eq_true ?_
    simp only [List.length_cons, List.length_nil, List.sum_cons, List.sum_nil]
    omega
def psR (size : Nat) (texts : List (List Nat)) : List (List Tm) := lsOf (texts.take (size + 1))
def nosR (size : Nat) (texts : List (List Nat)) : List (Option (List Tm)) := (texts.drop (size + 1)).map Sl.readN
def nsR (size : Nat) (texts : List (List Nat)) : List (List Tm) := (nosR size texts).map fun o => o.getD []
def eqR (size : Nat) (texts : List (List Nat)) : EqI := eqAt size (psR size texts)
def begR (size : Nat) (texts : List (List Nat)) : Rn.Bg := begI (nsR size texts)
def foundR (kind n size : Nat) (texts : List (List Nat)) : Rn.Bg := goneT kind (eqR size texts).1 (eqR size texts).2 (begR size texts) n
def onesI (l : List Int) : List (List Int) := l.map fun t => [t]
def toldR (n : Nat) (b : Rn.Bg) : List Nat := toldP n b.bottom (onesI b.tops) (onesI b.tops).length
def runA (kind n size : Nat) (texts : List (List Nat)) : List Int :=
  if badR kind size texts.length then [-6]
  else if 20 < n then [-2]
  else if refusal (osOf (texts.take (size + 1))) ≠ 0 then [refusal (osOf (texts.take (size + 1)))]
  else if refusal (nosR size texts) ≠ 0 then [refusal (nosR size texts)]
  else if canI kind (eqR size texts).1 n = false then [-5]
  else (toldR n (foundR kind n size texts)).map fun (b : Nat) => (b : Int)
theorem nos_len {size : Nat} {texts : List (List Nat)} (h : ∀ t ∈ texts, t.length ≤ 200) : ∀ ts, some ts ∈ nosR size texts → ts.length ≤ 1000 := fun ts hm => by
  obtain ⟨t, ht, e⟩ := List.mem_map.mp hm
  have hr := (Sl.readN_sound e).1
  have h1 := (Sl.read_sound hr).2
  have h2 := write_ge ts
  have h3 := h t (List.mem_of_mem_drop ht)
  rw [h1] at h2
  omega
theorem ns_ok {size : Nat} {texts : List (List Nat)} (h : refusal (nosR size texts) = 0) : ∀ ts ∈ nsR size texts, Valid ts ∧ Sl.tooBig ts = false ∧ Oks ts ∧ Sl.top (ts.map Sl.xr) = 0 := fun ts hm => by
  obtain ⟨o, ho, rfl⟩ := List.mem_map.mp hm
  obtain ⟨ts, rfl, hb⟩ := refusal_zero h o ho
  obtain ⟨t, _, e⟩ := List.mem_map.mp ho
  obtain ⟨_, hv, ht⟩ := Sl.readN_sound e
  exact ⟨hv, hb, oks_of hv hb, ht⟩
/-- what holds where nothing is refused by its counts and texts -/
structure RunOk (kind n size : Nat) (texts : List (List Nat)) : Prop where
  k : kind ≤ 1
  s1 : 1 ≤ size
  s4 : size ≤ 4
  n20 : n ≤ 20
  tl : texts.length = 2 * size
  r1 : refusal (osOf (texts.take (size + 1))) = 0
  r2 : refusal (nosR size texts) = 0
section
variable {kind n size : Nat} {texts : List (List Nat)}
theorem ps_len (o : RunOk kind n size texts) : (psR size texts).length = size + 1 := by
  have := o.tl
  have := o.s1
  unfold psR lsOf osOf
  rw [List.length_map, List.length_map, List.length_take]; omega
theorem ns_len (o : RunOk kind n size texts) : (nsR size texts).length = size - 1 := by
  have := o.tl
  have := o.s1
  unfold nsR nosR
  rw [List.length_map, List.length_map, List.length_drop]; omega
theorem ps_oks (o : RunOk kind n size texts) : ∀ ts ∈ psR size texts, Oks ts := fun ts ht => (ls_ok o.r1 ts ht).2.2
theorem take_all (o : RunOk kind n size texts) : (psR size texts).take (size + 1) = psR size texts := List.take_of_length_le (by rw [ps_len o]; exact Nat.le_refl _)
theorem wholes_ok (o : RunOk kind n size texts) : ∀ p ∈ wholes (psR size texts), p.length ≤ 5 ∧ Sz 365 p := fun p hp => by
  have hl := ps_len o
  have h4 := o.s4
  have hc := lcmAll_lt (k := 1) (psR size texts) 1 (by decide) (by decide) (ps_oks o)
  have hc' : Sl.lcmAll (psR size texts) 1 < 2 ^ 351 := Nat.lt_of_lt_of_le hc (Nat.pow_le_pow_right (by decide) (by omega))
  unfold wholes at hp
  obtain ⟨ts, ht, rfl⟩ := List.mem_map.mp hp
  obtain ⟨a, b, _⟩ := whole_ok (ps_oks o ts ht) hc'
  exact ⟨a, b⟩
theorem wholes_len (l : List (List Tm)) : (wholes l).length = l.length := by unfold wholes; rw [List.length_map]
theorem eqR_1 (o : RunOk kind n size texts) : (eqR size texts).1 = (wholes (psR size texts)).take size := by
  unfold eqR eqAt
  rw [take_all o]
theorem eqR_2 (o : RunOk kind n size texts) : (eqR size texts).2 = (wholes (psR size texts)).getD size [] := by
  unfold eqR eqAt
  rw [take_all o]
theorem eq_len (o : RunOk kind n size texts) : (eqR size texts).1.length = size := by
  have hl := ps_len o
  rw [eqR_1 o, List.length_take, wholes_len]
  omega
theorem eq_okp (o : RunOk kind n size texts) : OkP (eqR size texts).1 := by
  have hl := eq_len o
  refine ⟨by rw [hl]; exact o.s1, by rw [hl]; exact o.s4, fun p hp => ?_⟩
  rw [eqR_1 o] at hp
  exact wholes_ok o p (List.mem_of_mem_take hp)
theorem eq_right (o : RunOk kind n size texts) : (eqR size texts).2.length ≤ 5 ∧ Sz 365 (eqR size texts).2 := by
  rw [eqR_2 o]
  refine wholes_ok o _ ?_
  rw [List.getD_eq_getElem?_getD, List.getElem?_eq_getElem (by rw [wholes_len, ps_len o]; omega)]
  exact List.getElem_mem _
theorem beg_len (o : RunOk kind n size texts) : (begR size texts).tops.length = size - 1 := by
  unfold begR begI
  rw [List.length_map, ns_len o]
theorem beg_pos (o : RunOk kind n size texts) : 0 < Sl.lcmAll (nsR size texts) 1 := Sl.lcmAll_pos (nsR size texts) 1 (by decide) fun ts ht t hm => (ns_ok o.r2 ts ht).2.2.1.d0 t hm
theorem beg_sz (o : RunOk kind n size texts) : SzB 226 (begR size texts) := by
  have hl := ns_len o
  have h4 := o.s4
  have hok : ∀ ts ∈ nsR size texts, Oks ts := fun ts ht => (ns_ok o.r2 ts ht).2.2.1
  have hc := lcmAll_lt (k := 1) (nsR size texts) 1 (by decide) (by decide) hok
  have hc' : Sl.lcmAll (nsR size texts) 1 < 2 ^ 211 := Nat.lt_of_lt_of_le hc (Nat.pow_le_pow_right (by decide) (by omega))
  refine ⟨fun x hx => ?_, up_sz (nat_sz hc') (by decide)⟩
  unfold begR begI at hx
  obtain ⟨ts, ht, rfl⟩ := List.mem_map.mp hx
  obtain ⟨_, b, _⟩ := whole_ok (hok ts ht) hc'
  exact up_sz (sz_co b 0) (by decide)
theorem beg_nz (o : RunOk kind n size texts) : (begR size texts).bottom ≠ 0 := by
  have := beg_pos o
  show ((Sl.lcmAll (nsR size texts) 1 : Nat) : Int) ≠ 0
  omega
theorem val_at0 (l : List Int) : Ht.valI l 0 = Sl.co l 0 := by
  cases l with
  | nil => rfl
  | cons c l =>
    show Ht.valI l 0 * 0 + c = c
    omega
/-- where it can go on, the next number is never multiplied by 0 -/
theorem can_lead {ps : List (List Int)} (hk : kind ≤ 1) (h1 : 1 ≤ ps.length) (hc : canI kind ps n = true) : ∀ i, i < n + 1 - ps.length → Rn.leadI kind ps i ≠ 0 := fun i hi => by
  unfold canI at hc
  rw [List.all_eq_true] at hc
  by_cases h0 : kind = 0
  · subst h0
    have := hc 0 (by unfold placesI; rw [if_pos rfl]; simp)
    have hv : Ht.valI (ps.getD (ps.length - 1) []) 0 ≠ 0 := by simpa using this
    rw [val_at0] at hv
    rw [lead_zero (n := ps.length - 1) (by omega)]
    refine Int.mul_ne_zero hv ?_
    have := Rn.fact_div_pos i (ps.length - 1)
    omega
  · have := hc i (by unfold placesI; rw [if_neg h0]; exact List.mem_range.mpr hi)
    unfold Rn.leadI
    rw [if_pos (by omega)]
    simpa using this
theorem goN_nz {ps : List (List Int)} {right : List Int} : ∀ (f : Nat) (b : Rn.Bg) (k : Nat), b.tops.length = k + (ps.length - 1) → b.bottom ≠ 0 → (∀ i, k ≤ i → i < k + f → Rn.leadI kind ps i ≠ 0) → (Rn.goN kind ps right f b).bottom ≠ 0
  | 0, b, k, _, h, _ => h
  | f + 1, b, k, hl, h, hz => by
    refine goN_nz f (Rn.goI kind ps right b) (k + 1) (by rw [Rn.goI_len]; omega) ?_ fun i h1 h2 => hz i (by omega) (by omega)
    show b.bottom * Rn.leadI kind ps (b.tops.length - (ps.length - 1)) ≠ 0
    rw [show b.tops.length - (ps.length - 1) = k by omega]
    exact Int.mul_ne_zero h (hz k (Nat.le_refl _) (by omega))
theorem goN_len {ps : List (List Int)} {right : List Int} : ∀ (f : Nat) (b : Rn.Bg), (Rn.goN kind ps right f b).tops.length = b.tops.length + f
  | 0, b => rfl
  | f + 1, b => by
    show (Rn.goN kind ps right f (Rn.goI kind ps right b)).tops.length = _
    rw [goN_len f, Rn.goI_len]; omega
theorem start_nz {b : Rn.Bg} (h : b.bottom ≠ 0) : (startI kind b).bottom ≠ 0 := by
  unfold startI
  split
  · refine Int.mul_ne_zero h ?_
    have := Rn.fact_pos b.tops.length
    omega
  · exact h
theorem found_len (o : RunOk kind n size texts) : (foundR kind n size texts).tops.length = n := by
  have hb := beg_len o
  show ((goneI kind (eqR size texts).1 (eqR size texts).2 (begR size texts) n).tops.take n).length = n
  unfold goneI
  rw [List.length_take, goN_len, start_len]
  omega
theorem found_sz (o : RunOk kind n size texts) : SzB 8300 (foundR kind n size texts) := by
  have hb := beg_len o
  have h4 := o.s4
  have h1 := o.s1
  have hn := o.n20
  have hl := eq_len o
  have := goN_sz o.k (eq_okp o) (eq_right o) (n - (begR size texts).tops.length) (startI kind (begR size texts)) 230 (by rw [start_len]; omega) (by rw [start_len, hl]; omega) (start_sz (by omega) (beg_sz o))
  exact ⟨fun x hx => up_sz (this.t x (List.mem_of_mem_take hx)) (by omega), up_sz this.b (by omega)⟩
theorem found_nz (o : RunOk kind n size texts) (hc : canI kind (eqR size texts).1 n = true) : (foundR kind n size texts).bottom ≠ 0 := by
  have hb := beg_len o
  have hl := eq_len o
  have h1 := o.s1
  refine goN_nz _ _ 0 (by rw [start_len, hb, hl]; omega) (start_nz (beg_nz o)) fun i _ h2 => can_lead o.k (by omega) hc i (by omega)
end
theorem flat_len {m : Int} {B : Nat} : ∀ ps : List (List Int), (∀ l ∈ ps, (told1 m l).length ≤ B) → (ps.flatMap (told1 m)).length ≤ ps.length * B
  | [], _ => by simp
  | p :: ps, h => by
    have ih := flat_len ps fun l hl => h l (List.mem_cons_of_mem _ hl)
    have h1 := h p (List.mem_cons_self ..)
    rw [List.flatMap_cons, List.length_append, List.length_cons, Nat.add_mul]
    omega
theorem ones_ok {b : Rn.Bg} (hz : b.bottom ≠ 0) (hs : SzB 8300 b) : ∀ l ∈ onesI b.tops, ((l.length ≤ 1000 ∧ (Sl.write (Sl.termsOver l b.bottom)).length ≤ 30000) ∧ ∀ t ∈ Sl.termsOver l b.bottom, Okt t) := fun l hl => by
  obtain ⟨t, ht, rfl⟩ := List.mem_map.mp hl
  have hsz : Sz 8300 [t] := fun x hx => by rw [List.mem_singleton] at hx; rw [hx]; exact hs.t t ht
  have hbd := terms_bd (k := 8300) (l := [t]) hz (by show 1 ≤ 8300; decide) hsz hs.b (by decide)
  have hw := write_len hbd
  have htm := terms_len [t] b.bottom
  have htm' : (Sl.termsOver [t] b.bottom).length ≤ 1 := htm
  have : (Sl.termsOver [t] b.bottom).length * (3 * 8300 + 10) ≤ 1 * (3 * 8300 + 10) := Nat.mul_le_mul_right _ htm'
  exact ⟨⟨by show 1 ≤ 1000; decide, by omega⟩, fun t ht => okt_of (hbd t ht) (by decide)⟩
theorem told_ok {n : Nat} {b : Rn.Bg} (hz : b.bottom ≠ 0) (hs : SzB 8300 b) (hl : b.tops.length ≤ 20) : (toldR n b).length ≤ 999000 := by
  unfold toldR toldP
  rw [List.take_length, List.length_cons]
  have h1 : ∀ l ∈ onesI b.tops, (told1 b.bottom l).length ≤ 30001 := fun l hl => by
    have := (ones_ok hz hs l hl).1.2
    unfold told1
    rw [List.length_cons]; omega
  have := flat_len (onesI b.tops) h1
  have h2 : (onesI b.tops).length = b.tops.length := by unfold onesI; rw [List.length_map]
  rw [h2] at this
  have h3 : b.tops.length * 30001 ≤ 20 * 30001 := Nat.mul_le_mul_right _ hl
  omega
end Pg
set_option Elab.async false
set_option linter.all false
set_option maxRecDepth 100000
set_option maxHeartbeats 2000000
namespace Pg
open PySem PyProof.Rows L2 Fw
abbrev s_run : Stmt := topS 52
abbrev nm_run : List Str := ["kind", "n", "size", "texts", "polynomials", "numbers", "read", "equation", "found", "refusal", "text", "top"]
theorem sc_run : FnScope nm_run ["kind", "n", "size", "texts"] (defScope s_run) := ⟨rfl, rfl, rfl, by decide +kernel, rfl, by decide +kernel, by decide +kernel⟩
def readND : D → D
  | .inp l => dOTs (Sl.readN (l.map fun x => (toI x).toNat))
  | d => d
theorem readND_at (t : List Nat) : readND (.inp (dN t)) = dOTs (Sl.readN t) := by
  show dOTs (Sl.readN ((dN t).map fun x => (toI x).toNat)) = _
  unfold dN
  rw [List.map_map]
  have : (t.map ((fun x => (toI x).toNat) ∘ fun (b : Nat) => D.int (b : Int))) = t := by
    have := List.map_congr_left (f := (fun x => (toI x).toNat) ∘ fun (b : Nat) => D.int (b : Int)) (g := id) (l := t) fun b _ => rfl
    rw [this]; simp
  rw [this]
def oneD (d : D) : D := .lst [d]
theorem ones_dLL (l : List Int) : (dI l).map oneD = dLL (onesI l) := by
  unfold dI dLL onesI
  rw [List.map_map, List.map_map]
  rfl
def R_run : List D → D → Prop := fun ds d => ∃ (kind n size : Nat) (texts : List (List Nat)), ds = [.int (kind : Int), .int (n : Int), .int (size : Int), .inp (dTx texts)] ∧ texts.length ≤ 12 ∧ (∀ t ∈ texts, t.length ≤ 200) ∧ d = .lst (dI (runA kind n size texts))
theorem len_run {ds : List D} {d : D} (h : R_run ds d) : ds.length = 4 := by obtain ⟨a, b, c, e, rfl, _⟩ := h; rfl
theorem ok_run {P : Program} {w : World} {K : PySem.W.Frag} {mg : Str → Option Value} {base : Heap} {f : Addr} {fd : FuncData} (T : Txt mg) (c_counts_fit : Cal P w K mg base 1 "counts_fit" ["kind", "sizes", "count"] R_counts_fit) (c_read_polynomial : Cal P w K mg base 5 "read_polynomial" ["text"] R_read_polynomial) (c_read_number : Cal P w K mg base 6 "read_number" ["text"] R_read_number) (c_texts_refusal : Cal P w K mg base 2 "texts_refusal" ["polynomials"] R_texts_refusal) (c_whole_equations : Cal P w K mg base 4 "whole_equations" ["sizes", "polynomials"] R_whole_equations) (c_can_go_on : Cal P w K mg base 2 "can_go_on" ["kind", "parts", "count"] R_can_go_on) (c_gone_on : Cal P w K mg base 6 "gone_on" ["kind", "parts", "right", "beginning", "count"] R_gone_on) (c_over_common_bottom : Cal P w K mg base 4 "over_common_bottom" ["numbers"] R_over_common_bottom) (c_told : Cal P w K mg base 5 "told" ["number", "polynomials", "bottom"] R_told) (n_WRONG_COUNT : Num mg "WRONG_COUNT" (-6)) (n_MOST_VALUES : Num mg "MOST_VALUES" (20)) (n_TOO_BIG : Num mg "TOO_BIG" (-2)) (n_NO_WAY_ON : Num mg "NO_WAY_ON" (-5)) (F : Fun K "run" "run" s_run f fd) : FnOk P w K mg base CX0 7 f fd ["kind", "n", "size", "texts"] (SpR K R_run) := by
  obtain ⟨f_counts_fit, fd_counts_fit, G_counts_fit, m_counts_fit, k_counts_fit, b_counts_fit⟩ := c_counts_fit.ex
  obtain ⟨f_read_polynomial, fd_read_polynomial, G_read_polynomial, m_read_polynomial, k_read_polynomial, b_read_polynomial⟩ := c_read_polynomial.ex
  obtain ⟨f_read_number, fd_read_number, G_read_number, m_read_number, k_read_number, b_read_number⟩ := c_read_number.ex
  obtain ⟨f_texts_refusal, fd_texts_refusal, G_texts_refusal, m_texts_refusal, k_texts_refusal, b_texts_refusal⟩ := c_texts_refusal.ex
  obtain ⟨f_whole_equations, fd_whole_equations, G_whole_equations, m_whole_equations, k_whole_equations, b_whole_equations⟩ := c_whole_equations.ex
  obtain ⟨f_can_go_on, fd_can_go_on, G_can_go_on, m_can_go_on, k_can_go_on, b_can_go_on⟩ := c_can_go_on.ex
  obtain ⟨f_gone_on, fd_gone_on, G_gone_on, m_gone_on, k_gone_on, b_gone_on⟩ := c_gone_on.ex
  obtain ⟨f_over_common_bottom, fd_over_common_bottom, G_over_common_bottom, m_over_common_bottom, k_over_common_bottom, b_over_common_bottom⟩ := c_over_common_bottom.ex
  obtain ⟨f_told, fd_told, G_told, m_told, k_told, b_told⟩ := c_told.ex
  obtain ⟨t_WRONG_COUNT, m_WRONG_COUNT⟩ := n_WRONG_COUNT
  obtain ⟨t_MOST_VALUES, m_MOST_VALUES⟩ := n_MOST_VALUES
  obtain ⟨t_TOO_BIG, m_TOO_BIG⟩ := n_TOO_BIG
  obtain ⟨t_NO_WAY_ON, m_NO_WAY_ON⟩ := n_NO_WAY_ON
  refine fn_ok F sc_run (by decide) (fun ds d h => ?_) (fun cdv A outer s H E hr => ?_)
  · exact len_run h
  · have hu65 := hu65_of hr
    refine ⟨_, (pss_cons (ps_if (pt_not (pt_val (pe_call G_counts_fit (hr.mono (by decide)) (by rfl) m_counts_fit k_counts_fit b_counts_fit .nil pass0 (pa_cons (pv 0) (pa_cons (pe_lst (pa_cons (pv 2) pa_nil)) (pa_cons (pe_op op_add (pe_op op_sub (pe_callB call_len_seq (by rfl) T.b_len PySem.boot_len (pa_cons (pv 3) pa_nil)) (pv 2)) pe_int) pa_nil)))))) (pss_one (ps_ret (pe_lst (pa_cons (pe_glob (v := .int (-6)) (by rfl) m_WRONG_COUNT ⟨_, rfl⟩) pa_nil)))) pss_nil)
      (pss_cons (ps_if (pt_cmpR op_gt (pv 1) (pe_glob (v := .int (20)) (by rfl) m_MOST_VALUES ⟨_, rfl⟩) (nomark _)) (pss_one (ps_ret (pe_lst (pa_cons (pe_glob (v := .int (-2)) (by rfl) m_TOO_BIG ⟨_, rfl⟩) pa_nil)))) pss_nil)
      (pss_cons (ps_setLc (i := 4) (own := [("text", 10)]) rfl sc_run.nd rfl rfl (sw_true rfl rfl rfl (by decide +kernel)) (pi_list (pe_slice sl_list (pv 3) po_none (po_some (pe_op op_add (pv 2) pe_int)))) (blkOk_by (own := [("text", 10)]) (N := nm_run) (sc := defScope s_run) (by decide +kernel)) (fun _ _ _ _ _ => by exact (pg_name (i := 10) sc_run.nd rfl (Or.inl rfl))) (fun _ _ _ _ _ => by exact pts_nil) (fun _ _ _ _ _ => by exact (pe_call G_read_polynomial (hr.mono (by decide)) (by rfl) m_read_polynomial k_read_polynomial b_read_polynomial .nil pass0 (pa_cons (pv 10) pa_nil))))
      (pss_cons (ps_setLc (i := 5) (own := [("text", 10)]) rfl sc_run.nd rfl rfl (sw_true rfl rfl rfl (by decide +kernel)) (pi_list (pe_slice sl_list (pv 3) (po_some (pe_op op_add (pv 2) pe_int)) po_none)) (blkOk_by (own := [("text", 10)]) (N := nm_run) (sc := defScope s_run) (by decide +kernel)) (fun _ _ _ _ _ => by exact (pg_name (i := 10) sc_run.nd rfl (Or.inl rfl))) (fun _ _ _ _ _ => by exact pts_nil) (fun _ _ _ _ _ => by exact (pe_call G_read_number (hr.mono (by decide)) (by rfl) m_read_number k_read_number b_read_number .nil pass0 (pa_cons (pv 10) pa_nil))))
      (pss_cons (ps_for PassesOwn.never rfl (pi_tup (pe_tup (pa_cons (pv 4) (pa_cons (pv 5) pa_nil)))) (pg_name (i := 6) sc_run.nd rfl (Or.inl rfl)) (pss_cons (ps_set (i := 9) sc_run.nd rfl (Or.inl rfl) (pe_call G_texts_refusal (hr.mono (by decide)) (by rfl) m_texts_refusal k_texts_refusal b_texts_refusal .nil pass0 (pa_cons (pv 6) pa_nil)))
      (pss_one (ps_if (pt_cmpR op_ne (pv 9) pe_int (nomark _)) (pss_one (ps_ret (pe_lst (pa_cons (pv 9) pa_nil)))) pss_nil))))
      (pss_cons (ps_set (i := 7) sc_run.nd rfl (Or.inl rfl) (pe_ix ix_list (pe_call G_whole_equations (hr.mono (by decide)) (by rfl) m_whole_equations k_whole_equations b_whole_equations .nil pass0 (pa_cons (pe_lst (pa_cons (pv 2) pa_nil)) (pa_cons (pv 4) pa_nil))) pe_int (fun _ _ => rfl)))
      (pss_cons (ps_if (pt_not (pt_val (pe_call G_can_go_on (hr.mono (by decide)) (by rfl) m_can_go_on k_can_go_on b_can_go_on .nil pass0 (pa_cons (pv 0) (pa_cons (pe_ix ix_tup (pv 7) pe_int (fun _ _ => rfl)) (pa_cons (pv 1) pa_nil)))))) (pss_one (ps_ret (pe_lst (pa_cons (pe_glob (v := .int (-5)) (by rfl) m_NO_WAY_ON ⟨_, rfl⟩) pa_nil)))) pss_nil)
      (pss_cons (ps_set (i := 8) sc_run.nd rfl (Or.inl rfl) (pe_call G_gone_on (hr.mono (by decide)) (by rfl) m_gone_on k_gone_on b_gone_on .nil pass0 (pa_cons (pv 0) (pa_cons (pe_ix ix_tup (pv 7) pe_int (fun _ _ => rfl)) (pa_cons (pe_ix ix_tup (pv 7) pe_int (fun _ _ => rfl)) (pa_cons (pe_call G_over_common_bottom (hr.mono (by decide)) (by rfl) m_over_common_bottom k_over_common_bottom b_over_common_bottom .nil pass0 (pa_cons (pv 5) pa_nil)) (pa_cons (pv 1) pa_nil)))))))
      (pss_one (ps_ret (pe_call G_told (hr.mono (by decide)) (by rfl) m_told k_told b_told .nil pass0 (pa_cons (pv 1) (pa_cons (pe_lc (own := [("top", 11)]) rfl sc_run.nd (pi_list (pe_ix ix_tup (pv 8) pe_int (fun _ _ => rfl))) (blkOk_by (own := [("top", 11)]) (N := nm_run) (sc := defScope s_run) (by decide +kernel)) (fun _ _ _ _ _ => by exact (pg_name (i := 11) sc_run.nd rfl (Or.inl rfl))) (fun _ _ _ _ _ => by exact pts_nil) (fun _ _ _ _ _ => by exact (pe_lst (pa_cons (pv 11) pa_nil)))) (pa_cons (pe_ix ix_tup (pv 8) pe_int (fun _ _ => rfl)) pa_nil)))))))))))))), fun ds d hR G0 H0 Q Z k => ?_⟩
    obtain ⟨kind, n, size, texts, rfl, htl, htt, rfl⟩ := hR
    unfold runA at k
    have hlen : D.int (((dTx texts).length : Nat) - (size : Int) + 1) = .int ((texts.length : Nat) - (size : Int) + 1) := by unfold dTx; rw [List.length_map]
    refine q_when (b := decide (badR kind size texts.length)) (et_is (et_not (et_B (ev_call (d := .bl (fitZ kind [size] ((texts.length : Nat) - (size : Int) + 1))) (ea_cons (ev_var rfl) (ea_cons (n_lst (ea_cons (ev_var rfl) ea_nil) (by show 1 ≤ 1000000; decide)).ev (ea_cons (ev_is (ev_opI (ev_opI (ev_len rfl (ev_var rfl).r .inp).r (ev_var rfl).r).r ev_i.r) hlen) ea_nil))) ⟨kind, [size], (texts.length : Nat) - (size : Int) + 1, .lst (dN [size]), rfl, .lst, by show 1 ≤ 1000000; decide, rfl⟩).r)) (by rw [fit_run, Bool.not_not])) (fun q => ?_) (fun q => ?_)
    · rw [if_pos (of_decide_eq_true q)] at k
      exact c_ret (n_lst (ea_cons ev_i ea_nil) (by decide)).ev k
    have hbad := of_decide_eq_false q
    rw [if_neg hbad] at k
    unfold badR at hbad
    have hsz : size ≤ 4 := by omega
    refine q_when (et_test (ev_opB (ev_var rfl).r ev_i.r).r) (fun q2 => ?_) (fun q2 => ?_)
    · have h20 : 20 < n := by have := of_decide_eq_true q2; omega
      rw [if_pos h20] at k
      exact c_ret (n_lst (ea_cons ev_i ea_nil) (by decide)).ev k
    have h20 : ¬ 20 < n := by have := of_decide_eq_false q2; omega
    rw [if_neg h20] at k
    have hs1 : D.lst (cut (dTx texts) none (some ((size + 1 : Nat) : Int))) = .lst (dTx (texts.take (size + 1))) := by
      rw [cut_to]; unfold dTx; rw [List.map_take]
    have hs2 : D.lst (cut (dTx texts) (some ((size + 1 : Nat) : Int)) none) = .lst (dTx (texts.drop (size + 1))) := by
      rw [cut_from]; unfold dTx; rw [List.map_drop]
    have hp1 : ∀ t ∈ texts.take (size + 1), t.length ≤ 200 := fun t ht => htt t (List.mem_of_mem_take ht)
    have hp2 : ∀ t ∈ texts.drop (size + 1), t.length ≤ 200 := fun t ht => htt t (List.mem_of_mem_drop ht)
    have hl1 : (texts.take (size + 1)).length ≤ 12 := by rw [List.length_take]; omega
    have hl2 : (texts.drop (size + 1)).length ≤ 12 := by rw [List.length_drop]; omega
    refine q_asg (d := .lst ((osOf (texts.take (size + 1))).map dOTs)) (ev_is (n_lc (ds := dTx (texts.take (size + 1))) (it_list (ev_is (n_sl (lo := none) (ev_var rfl) .inp eo_none (eo_some (i := ((size + 1 : Nat) : Int)) (er_is (ev_opI (ev_var rfl).r ev_i.r).r (by rw [Int.natCast_add]; rfl)))).ev hs1) .lst) _ [10] (fun d as => as.set 10 (.dat d)) (fun d hd => tg_name) (by decide) (fun _ => true) readD (by unfold dTx; rw [List.length_map]; omega) (fun d hd => et_yes) (fun d hd _ => ?_)).ev ?_) ?_
    · obtain ⟨t, ht, rfl⟩ := List.mem_map.mp hd
      rw [readD_at]
      exact ev_call (ea_cons (ev_var rfl) ea_nil) ⟨t, rfl, hp1 t ht, rfl⟩
    · rw [picked_all (fun _ _ => rfl)]
      unfold dTx osOf
      rw [List.map_map, List.map_map]
      exact congrArg D.lst (List.map_congr_left fun t _ => readD_at t)
    refine q_asg (d := .lst ((nosR size texts).map dOTs)) (ev_is (n_lc (ds := dTx (texts.drop (size + 1))) (it_list (ev_is (n_sl (hi := none) (ev_var rfl) .inp (eo_some (i := ((size + 1 : Nat) : Int)) (er_is (ev_opI (ev_var rfl).r ev_i.r).r (by rw [Int.natCast_add]; rfl))) eo_none).ev hs2) .lst) _ [10] (fun d as => as.set 10 (.dat d)) (fun d hd => tg_name) (by decide) (fun _ => true) readND (by unfold dTx; rw [List.length_map]; omega) (fun d hd => et_yes) (fun d hd _ => ?_)).ev ?_) ?_
    · obtain ⟨t, ht, rfl⟩ := List.mem_map.mp hd
      rw [readND_at]
      exact ev_call (ea_cons (ev_var rfl) ea_nil) ⟨t, rfl, hp2 t ht, rfl⟩
    · rw [picked_all (fun _ _ => rfl)]
      unfold dTx nosR
      rw [List.map_map, List.map_map]
      exact congrArg D.lst (List.map_congr_left fun t _ => readND_at t)
    refine q_forI (it_tup (ev_tup (ea_cons (ev_var rfl) (ea_cons (ev_var rfl) ea_nil)) (by show 2 ≤ 1000000; decide))) (fun _ => [.dat (.int (kind : Int)), .dat (.int (n : Int)), .dat (.int (size : Int)), .no, .dat (.lst ((osOf (texts.take (size + 1))).map dOTs)), .dat (.lst ((nosR size texts).map dOTs)), .no, .no, .no, .no, .no, .no]) (fun i => (1 ≤ i → refusal (osOf (texts.take (size + 1))) = 0) ∧ (2 ≤ i → refusal (nosR size texts) = 0)) [6] (fun d as => as.set 6 (.dat d)) (fun d _ => tg_name) (le_eq rfl (le_eq rfl (le_eq rfl (le_no (le_eq rfl (le_eq rfl (le_refl _))))))) ⟨fun z => absurd z (by decide), fun z => absurd z (by decide)⟩ (fun B C sub i d hd hI => ?_) (fun hI => ?_)
    · match i, hd, hI with
      | 0, hd, hI =>
        cases hd
        show Co K B C [.dat (.int (kind : Int)), .dat (.int (n : Int)), .dat (.int (size : Int)), .no, .dat (.lst ((osOf (texts.take (size + 1))).map dOTs)), .dat (.lst ((nosR size texts).map dOTs)), .dat (.lst ((osOf (texts.take (size + 1))).map dOTs)), .no, .no, .no, .no, .no] _
        refine q_asg (d := .int (refusal (osOf (texts.take (size + 1))))) (ev_call (ea_cons (ev_var rfl) ea_nil) ⟨osOf (texts.take (size + 1)), rfl, by unfold osOf; rw [List.length_map]; omega, os_len hp1, rfl⟩) ?_
        refine c_if (et_test (ev_neI (ev_var rfl).r ev_i.r).r) (fun q3 => ?_) (fun q3 => ?_)
        · have r0 : refusal (osOf (texts.take (size + 1))) ≠ 0 := by simpa using q3
          rw [if_pos r0] at k
          exact c_ret (n_lst (ea_cons (ev_var rfl) ea_nil) (by show 1 ≤ 1000000; decide)).ev (k.up sub)
        · have r0 : refusal (osOf (texts.take (size + 1))) = 0 := by simpa using q3
          exact c_next (c_atI ⟨fun _ => r0, fun z => absurd z (by decide)⟩ (le_eq rfl (le_eq rfl (le_eq rfl (le_no (le_eq rfl (le_eq rfl (le_no (le_no (le_no (le_no (le_no (le_no le_nil)))))))))))))
      | 1, hd, hI =>
        cases hd
        have r1 := hI.1 (Nat.le_refl _)
        rw [if_neg (by rw [r1]; decide)] at k
        show Co K B C [.dat (.int (kind : Int)), .dat (.int (n : Int)), .dat (.int (size : Int)), .no, .dat (.lst ((osOf (texts.take (size + 1))).map dOTs)), .dat (.lst ((nosR size texts).map dOTs)), .dat (.lst ((nosR size texts).map dOTs)), .no, .no, .no, .no, .no] _
        refine q_asg (d := .int (refusal (nosR size texts))) (ev_call (ea_cons (ev_var rfl) ea_nil) ⟨nosR size texts, rfl, by unfold nosR; rw [List.length_map]; omega, nos_len htt, rfl⟩) ?_
        refine c_if (et_test (ev_neI (ev_var rfl).r ev_i.r).r) (fun q3 => ?_) (fun q3 => ?_)
        · have r0 : refusal (nosR size texts) ≠ 0 := by simpa using q3
          rw [if_pos r0] at k
          exact c_ret (n_lst (ea_cons (ev_var rfl) ea_nil) (by show 1 ≤ 1000000; decide)).ev (k.up sub)
        · have r0 : refusal (nosR size texts) = 0 := by simpa using q3
          exact c_next (c_atI ⟨fun _ => r1, fun _ => r0⟩ (le_eq rfl (le_eq rfl (le_eq rfl (le_no (le_eq rfl (le_eq rfl (le_no (le_no (le_no (le_no (le_no (le_no le_nil)))))))))))))
      | i + 2, hd, hI => cases hd
    have r1 : refusal (osOf (texts.take (size + 1))) = 0 := hI.1 (by show 1 ≤ 2; decide)
    have r2 : refusal (nosR size texts) = 0 := hI.2 (Nat.le_refl _)
    rw [if_neg (by rw [r1]; decide), if_neg (by rw [r2]; decide)] at k
    have o : RunOk kind n size texts := ⟨by omega, by omega, by omega, by omega, by omega, r1, r2⟩
    have hel := eq_len o
    have hok := eq_okp o
    refine q_asg (d := dE (eqR size texts)) (ev_ix (k := 0) (ev_call (d := .lst (dEs (eqsI [size] (psR size texts)))) (ea_cons (n_lst (ea_cons (ev_var rfl) ea_nil) (by show 1 ≤ 1000000; decide)).ev (ea_cons (ev_is (ev_var rfl) (show D.lst ((osOf (texts.take (size + 1))).map dOTs) = .lst (dLT (psR size texts)) from congrArg D.lst (os_ls r1))) ea_nil)) ⟨[size], psR size texts, .lst (dN [size]), rfl, .lst, by show 1 ≤ 1000; decide, fun m hm => by rw [List.mem_singleton] at hm; omega, by rw [ps_len o]; unfold upTo; simp, ps_oks o, rfl⟩) .lst ev_i.r rfl) ?_
    refine q_when (b := !canI kind (eqR size texts).1 n) (et_not (et_B (ev_call (ea_cons (ev_var rfl) (ea_cons (ev_ixT (k := 0) (ev_var rfl) ev_i.r rfl) (ea_cons (ev_var rfl) ea_nil))) ⟨kind, (eqR size texts).1, n, rfl, hok, o.n20, rfl⟩).r)) (fun q4 => ?_) (fun q4 => ?_)
    · have hc : canI kind (eqR size texts).1 n = false := by simpa using q4
      rw [if_pos hc] at k
      exact c_ret (n_lst (ea_cons ev_i ea_nil) (by decide)).ev k
    have hc : canI kind (eqR size texts).1 n = true := by simpa using q4
    rw [if_neg (by rw [hc]; decide)] at k
    have hnsl := ns_len o
    refine q_asg (d := bgD (foundR kind n size texts)) (ev_call (ea_cons (ev_var rfl) (ea_cons (ev_ixT (k := 0) (ev_var rfl) ev_i.r rfl) (ea_cons (ev_ixT (k := 1) (ev_var rfl) ev_i.r rfl) (ea_cons (ev_call (d := bgD (begR size texts)) (ea_cons (ev_is (ev_var rfl) (show D.lst ((nosR size texts).map dOTs) = .lst (dLT (nsR size texts)) from congrArg D.lst (os_ls r2))) ea_nil) ⟨nsR size texts, rfl, by omega, fun ts ht => (ns_ok r2 ts ht).2.2.1, rfl⟩) (ea_cons (ev_var rfl) ea_nil))))) ⟨kind, (eqR size texts).1, (eqR size texts).2, begR size texts, n, rfl, o.k, hok, eq_right o, by rw [beg_len o, hel], beg_sz o, o.n20, rfl⟩) ?_
    have hfl := found_len o
    have hfs := found_sz o
    have hfz := found_nz o hc
    have hn20 := o.n20
    generalize foundR kind n size texts = fd at *
    have hol : (onesI fd.tops).length = n := by unfold onesI; rw [List.length_map]; exact hfl
    refine c_ret (ev_is (ev_call (d := .lst (dN (toldR n fd))) (ea_cons (ev_var rfl) (ea_cons (ev_is (n_lc (it_list (ev_ixT (k := 0) (ev_var rfl) ev_i.r rfl) .lst) _ [11] (fun d as => as.set 11 (.dat d)) (fun d hd => tg_name) (by decide) (fun _ => true) oneD (by rw [dI_len]; omega) (fun d hd => et_yes) (fun d hd _ => ?_)).ev (show D.lst _ = .lst (dLL (onesI fd.tops)) from ?_)) (ea_cons (ev_ixT (k := 1) (ev_var rfl) ev_i.r rfl) ea_nil))) ⟨n, onesI fd.tops, fd.bottom, rfl, hfz, Nat.lt_trans (log2_of_lt hfs.b (by decide)) (by decide), by omega, fun l hl => ?_, told_ok hfz hfs (by omega), rfl⟩) ?_) k
    · exact (n_lst (ea_cons (ev_var rfl) ea_nil) (by show 1 ≤ 1000000; decide)).ev
    · rw [picked_all (fun _ _ => rfl)]
      exact congrArg D.lst (ones_dLL _)
    · obtain ⟨⟨a, b⟩, c⟩ := ones_ok hfz hfs l hl
      exact ⟨⟨a, by omega⟩, c⟩
    · rw [← dN_dI]
end Pg
set_option Elab.async false
set_option linter.all false
set_option maxRecDepth 100000
namespace Pg
open PySem PyProof.Rows L2 Fw
open Sl (Tm Valid Rel RelAll Tr TrI)
open AlOne (Uni)
/-! ### the beginning's numbers, by the specification -/
theorem mapM_nos : ∀ t : List (List Nat), t.mapM AlOne.readNum = if (t.map Sl.readN).any (fun o => o.isNone) = true then none else some (((t.map Sl.readN).map fun o => o.getD []).map Sl.numOf)
  | [] => by simp
  | x :: t => by
    have ih := mapM_nos t
    rw [List.mapM_cons, Sl.readNum_spec x, List.map_cons, List.any_cons]
    cases e : Sl.readN x with
    | none => rfl
    | some l =>
      show ((t.mapM AlOne.readNum).bind fun r => some (Sl.numOf l :: r)) = _
      rw [ih]
      show _ = if (t.map Sl.readN).any (fun o => o.isNone) = true then none else some (Sl.numOf l :: ((t.map Sl.readN).map fun o => o.getD []).map Sl.numOf)
      by_cases q : (t.map Sl.readN).any (fun o => o.isNone) = true
      · rw [if_pos q, if_pos q]; rfl
      · rw [if_neg q, if_neg q]; rfl
theorem all_numOk : ∀ t : List (List Nat), ¬ (t.map Sl.readN).any (fun o => o.isNone) = true → (((t.map Sl.readN).map fun o => o.getD []).map Sl.numOf).all Al10.numberOk = !((t.map Sl.readN).any fun o => Sl.tooBig (o.getD []))
  | [], _ => rfl
  | x :: t, h => by
    rw [List.map_cons, List.any_cons] at h
    cases e : Sl.readN x with
    | none => rw [e] at h; exact absurd rfl h
    | some l =>
      rw [e] at h
      have h' : ¬ (t.map Sl.readN).any (fun o => o.isNone) = true := fun z => h (by rw [z]; rfl)
      have ih := all_numOk t h'
      obtain ⟨_, hv, ht⟩ := Sl.readN_sound e
      rw [List.map_cons, e, List.map_cons, List.map_cons, List.all_cons, List.any_cons, ih]
      show (Al10.numberOk (Sl.numOf l) && _) = !(Sl.tooBig l || _)
      rw [Sl.numberOk_spec hv ht, Bool.not_or]
theorem nums_is (t : List (List Nat)) (go : List Rat → Al10.Ans) : (match t.mapM AlOne.readNum with
    | none => Al10.no (-1)
    | some cs => if cs.all Al10.numberOk = false then Al10.no (-2) else go cs) = if refusal (t.map Sl.readN) ≠ 0 then Al10.no (refusal (t.map Sl.readN)) else go (((t.map Sl.readN).map fun o => o.getD []).map Sl.numOf) := by
  rw [mapM_nos]
  by_cases q : (t.map Sl.readN).any (fun o => o.isNone) = true
  · have r : refusal (t.map Sl.readN) = -1 := by unfold refusal; rw [if_pos q]
    rw [if_pos q, r, if_pos (by decide)]
  · rw [if_neg q]
    have hf := all_numOk t q
    show (if (((t.map Sl.readN).map fun o => o.getD []).map Sl.numOf).all Al10.numberOk = false then Al10.no (-2) else go _) = _
    rw [hf]
    by_cases q2 : ((t.map Sl.readN).any fun o => Sl.tooBig (o.getD [])) = true
    · have r : refusal (t.map Sl.readN) = -2 := by unfold refusal; rw [if_neg q, if_pos q2]
      rw [q2, r, if_pos (by decide), if_pos (by decide)]
    · have r : refusal (t.map Sl.readN) = 0 := by unfold refusal; rw [if_neg q, if_neg q2]
      rw [r, if_neg (by simpa using q2), if_neg (by decide)]
/-! ### what is told -/
theorem flat_texts {m : Int} (hm : m ≠ 0) : ∀ (ts : List Int) (cs : List Rat), ts.length = cs.length → (∀ i, i < cs.length → (Sl.co ts i : Rat) = (m : Rat) * Sl.cq cs i) → ((onesI ts).flatMap (told1 m)).map (fun (b : Nat) => (b : Int)) = (cs.map AlOne.numText).flatMap Al10Neutral.shownText
  | [], [], _, _ => rfl
  | [], c :: cs, h, _ => by cases h
  | t :: ts, [], h, _ => by cases h
  | t :: ts, c :: cs, h, hr => by
    have h0 : (t : Rat) = (m : Rat) * c := hr 0 (by rw [List.length_cons]; omega)
    have ih := flat_texts hm ts cs (by simpa using h) fun i hi => by
      have := hr (i + 1) (by rw [List.length_cons]; omega)
      rwa [Sl.co_succ, Sl.cq_succ] at this
    have e : onesI (t :: ts) = [t] :: onesI ts := rfl
    rw [e, List.flatMap_cons, List.map_append, ih, List.map_cons, List.flatMap_cons, Sl.num_over hm h0]
    congr 1
theorem told_texts {n : Nat} {b : Rn.Bg} {cs : List Rat} (hz : b.bottom ≠ 0) (hl : b.tops.length = cs.length) (hr : ∀ i, i < cs.length → (Sl.co b.tops i : Rat) = (b.bottom : Rat) * Sl.cq cs i) : (toldR n b).map (fun (b : Nat) => (b : Int)) = (n : Int) :: (cs.map AlOne.numText).flatMap Al10Neutral.shownText := by
  unfold toldR toldP
  rw [List.take_length, List.map_cons, flat_texts hz _ _ hl hr]
/-! ### the equation and the beginning -/
section
variable {kind n size : Nat} {texts : List (List Nat)}
def eS (size : Nat) (texts : List (List Nat)) : Al10.Eq := ⟨((psR size texts).map uniT).take size, ((psR size texts).map uniT).getD size []⟩
def csS (size : Nat) (texts : List (List Nat)) : List Rat := (nsR size texts).map Sl.numOf
theorem all_rel (o : RunOk kind n size texts) : 0 < Sl.lcmAll (psR size texts) 1 ∧ RelAll ((Sl.lcmAll (psR size texts) 1 : Nat) : Rat) (wholes (psR size texts)) ((psR size texts).map uniT) := by
  have hrd : ∀ ts ∈ psR size texts, Rd ts := rds_of o.r1
  have hc := Sl.lcmAll_pos (psR size texts) 1 (by decide) fun ts ht t hm => (hrd ts ht).o.d0 t hm
  exact ⟨hc, rel_all hc (psR size texts) hrd (Sl.lcmAll_dvd (psR size texts) 1).2⟩
theorem eq_rel (o : RunOk kind n size texts) : RelAll ((Sl.lcmAll (psR size texts) 1 : Nat) : Rat) (eqR size texts).1 (eS size texts).ps := by
  rw [eqR_1 o]
  exact rel_take size (all_rel o).2
theorem right_rel (o : RunOk kind n size texts) : Rel ((Sl.lcmAll (psR size texts) 1 : Nat) : Rat) (eqR size texts).2 (eS size texts).f := by
  rw [eqR_2 o]
  exact rel_get size (all_rel o).2
theorem s_nz (o : RunOk kind n size texts) : ((Sl.lcmAll (psR size texts) 1 : Nat) : Rat) ≠ 0 := fun z => by
  have h := (all_rel o).1
  have : ((Sl.lcmAll (psR size texts) 1 : Nat) : Rat) = ((0 : Nat) : Rat) := z
  have := Rat.natCast_inj.mp this
  omega
theorem eS_len (o : RunOk kind n size texts) : (eS size texts).ps.length = size := by
  have hl := ps_len o
  show (((psR size texts).map uniT).take size).length = size
  rw [List.length_take, List.length_map]
  omega
theorem cs_len (o : RunOk kind n size texts) : (csS size texts).length = size - 1 := by
  unfold csS
  rw [List.length_map, ns_len o]
theorem beg_rb (o : RunOk kind n size texts) : Rn.RB (begR size texts) (csS size texts) := by
  refine ⟨by rw [beg_len o, cs_len o], beg_nz o, fun i => ?_⟩
  have hc := beg_pos o
  have hd := (Sl.lcmAll_dvd (nsR size texts) 1).2
  have hok := ns_ok o.r2
  unfold begR begI csS
  show (Sl.co ((nsR size texts).map fun ts => Sl.co (Sl.wholeI ts (Sl.lcmAll (nsR size texts) 1)) 0) i : Rat) = (((Sl.lcmAll (nsR size texts) 1 : Nat) : Int) : Rat) * Sl.cq ((nsR size texts).map Sl.numOf) i
  rw [Rat.intCast_natCast]
  generalize Sl.lcmAll (nsR size texts) 1 = c at *
  generalize nsR size texts = l at *
  unfold Sl.co Sl.cq
  rw [List.getD_eq_getElem?_getD, List.getElem?_map, List.getD_eq_getElem?_getD (l := l.map Sl.numOf), List.getElem?_map]
  cases e : l[i]? with
  | none => show (0 : Rat) = (c : Rat) * 0; grind
  | some ts =>
    have hm := List.mem_of_getElem? e
    obtain ⟨hv, hb, _, _⟩ := hok ts hm
    have := Sl.whole_rel hv hb hc (hd ts hm) 0
    rw [Sl.uni_cq hv hb] at this
    exact this
theorem can0 (o : RunOk 0 n size texts) : canI 0 (eqR size texts).1 n = false ↔ ((eS size texts).ps.getD (size - 1) []).headD 0 = 0 := by
  have hl := eq_len o
  have hr := rel_get (size - 1) (eq_rel o) 0
  have hs := s_nz o
  unfold canI placesI
  rw [if_pos rfl, hl, Rn.headD_cq]
  have e : (List.range 1).all (fun i => !decide (Ht.valI ((eqR size texts).1.getD (size - 1) []) ((i : Nat) : Int) = 0)) = !decide (Sl.co ((eqR size texts).1.getD (size - 1) []) 0 = 0) := by
    rw [← val_at0]
    show (!decide (Ht.valI ((eqR size texts).1.getD (size - 1) []) ((0 : Nat) : Int) = 0) && true) = _
    rw [Bool.and_true]; rfl
  rw [e]
  generalize Sl.co ((eqR size texts).1.getD (size - 1) []) 0 = a at *
  generalize Sl.cq ((eS size texts).ps.getD (size - 1) []) 0 = q at *
  constructor
  · intro h
    have ha : a = 0 := by simpa using h
    rw [ha] at hr
    have hr' : ((Sl.lcmAll (psR size texts) 1 : Nat) : Rat) * q = 0 := hr.symm
    rcases Rat.mul_eq_zero.mp hr' with z | z
    · exact absurd z hs
    · exact z
  · intro h
    rw [h, Rat.mul_zero] at hr
    have : ((a : Int) : Rat) = ((0 : Int) : Rat) := hr
    have := Rat.intCast_inj.mp this
    simpa using this
theorem can1 (o : RunOk 1 n size texts) : canI 1 (eqR size texts).1 n = true ↔ Rn.goesOn (eqR size texts).1 0 (n - (size - 1)) := by
  have hl := eq_len o
  have h1 := o.s1
  unfold canI placesI Rn.goesOn
  rw [if_neg (by decide), List.all_eq_true, hl]
  constructor
  · intro h i _ hi
    have := h i (List.mem_range.mpr (by omega))
    unfold Rn.leadI
    rw [if_pos rfl, hl]
    simpa using this
  · intro h i hi
    have := h i (Nat.zero_le _) (by have := List.mem_range.mp hi; omega)
    unfold Rn.leadI at this
    rw [if_pos rfl, hl] at this
    simpa using this
theorem found_is (kind n size : Nat) (texts : List (List Nat)) : (foundR kind n size texts).tops = (goneI kind (eqR size texts).1 (eqR size texts).2 (begR size texts) n).tops.take n ∧ (foundR kind n size texts).bottom = (goneI kind (eqR size texts).1 (eqR size texts).2 (begR size texts) n).bottom := ⟨rfl, rfl⟩
theorem tell {l : List Rat} (h : Rn.RB (goneI kind (eqR size texts).1 (eqR size texts).2 (begR size texts) n) l) : (toldR n (foundR kind n size texts)).map (fun (b : Nat) => (b : Int)) = (n : Int) :: ((l.take n).map AlOne.numText).flatMap Al10Neutral.shownText := by
  obtain ⟨a, b⟩ := Rn.take_bg h n
  exact told_texts h.nz a b
theorem series_is (o : RunOk 0 n size texts) (h0 : ¬ ((eS size texts).ps.getD (size - 1) []).headD 0 = 0) : (toldR n (foundR 0 n size texts)).map (fun (b : Nat) => (b : Int)) = (n : Int) :: ((Al10.series (eS size texts) n (csS size texts)).map AlOne.numText).flatMap Al10Neutral.shownText := by
  have hl := eS_len o
  have h1 := o.s1
  have hrb := Rn.slopes_bg (beg_rb o)
  have hcl := cs_len o
  unfold Al10.series
  refine tell ?_
  unfold goneI startI
  rw [if_pos rfl, (beg_rb o).len]
  refine Rn.series_go (s_nz o) (eq_rel o) (right_rel o) (by omega) (by rw [hl]; exact h0) _ _ _ hrb ?_
  rw [List.length_map, List.length_zip, List.length_range, hl, hcl]
  omega
theorem values_is (o : RunOk 1 n size texts) : (canI 1 (eqR size texts).1 n = false → Al10.values (eS size texts) n (csS size texts) = none) ∧ (canI 1 (eqR size texts).1 n = true → ∃ l, Al10.values (eS size texts) n (csS size texts) = some l ∧ (toldR n (foundR 1 n size texts)).map (fun (b : Nat) => (b : Int)) = (n : Int) :: (l.map AlOne.numText).flatMap Al10Neutral.shownText) := by
  have hl := eS_len o
  have h1 := o.s1
  have hcl := cs_len o
  have hv := Rn.values_go (n := size - 1) (s_nz o) (eq_rel o) (right_rel o) (by omega) (n - (csS size texts).length) (begR size texts) (csS size texts) 0 (beg_rb o) (by omega)
  have hcan := can1 o
  rw [← hcl] at hcan
  unfold Al10.values
  constructor
  · intro hc
    rw [hv.2 (fun z => by rw [hcan.mpr z] at hc; cases hc)]; rfl
  · intro hc
    obtain ⟨v, e, hb⟩ := hv.1 (hcan.mp hc)
    refine ⟨v.take n, by rw [e]; rfl, tell ?_⟩
    unfold goneI startI
    rw [if_neg (by decide), (beg_rb o).len]
    exact hb
end
theorem ans_run (kind n size : Nat) (t : List (List Nat)) : Al10.answer (.run kind n size t) = if 1 < kind ∨ size < 1 ∨ 4 < size ∨ t.length ≠ 2 * size then Al10.no (-6) else if 20 < n then Al10.no (-2) else Al10.polys (t.take (size + 1)) fun ps => (match (t.drop (size + 1)).mapM AlOne.readNum with
    | none => Al10.no (-1)
    | some cs => if cs.all Al10.numberOk = false then Al10.no (-2) else
      (fun cs => if kind = 0 then (if ((ps.take size).getD (size - 1) []).headD 0 = 0 then Al10.no (-5) else ⟨(n : Nat), (Al10.series ⟨ps.take size, ps.getD size []⟩ n cs).map AlOne.numText⟩)
      else (match Al10.values ⟨ps.take size, ps.getD size []⟩ n cs with
        | none => Al10.no (-5)
        | some l => ⟨(n : Nat), l.map AlOne.numText⟩)) cs) := rfl
theorem run_answer (kind n size : Nat) (texts : List (List Nat)) : runA kind n size texts = (Al10.answer (.run kind n size texts)).code :: (Al10.answer (.run kind n size texts)).texts.flatMap Al10Neutral.shownText := by
  rw [ans_run]
  unfold runA
  by_cases q : 1 < kind ∨ size < 1 ∨ 4 < size ∨ texts.length ≠ 2 * size
  · rw [if_pos (show badR kind size texts.length from q), if_pos q]; rfl
  · rw [if_neg (show ¬ badR kind size texts.length from q), if_neg q]
    by_cases q2 : 20 < n
    · rw [if_pos q2, if_pos q2]; rfl
    · rw [if_neg q2, if_neg q2, polys_is]
      by_cases r0 : refusal (osOf (texts.take (size + 1))) ≠ 0
      · rw [if_pos r0, if_pos r0]; rfl
      · rw [if_neg r0, if_neg r0, nums_is]
        have e1 : refusal ((texts.drop (size + 1)).map Sl.readN) = refusal (nosR size texts) := rfl
        rw [e1]
        by_cases r1 : refusal (nosR size texts) ≠ 0
        · rw [if_pos r1, if_pos r1]; rfl
        · rw [if_neg r1, if_neg r1]
          have o : RunOk kind n size texts := ⟨by omega, by omega, by omega, by omega, by omega, Decidable.not_not.mp r0, Decidable.not_not.mp r1⟩
          show _ = (if kind = 0 then (if ((eS size texts).ps.getD (size - 1) []).headD 0 = 0 then Al10.no (-5) else ⟨(n : Nat), (Al10.series (eS size texts) n (csS size texts)).map AlOne.numText⟩)
            else (match Al10.values (eS size texts) n (csS size texts) with
              | none => Al10.no (-5)
              | some l => ⟨(n : Nat), l.map AlOne.numText⟩) : Al10.Ans).code :: (if kind = 0 then (if ((eS size texts).ps.getD (size - 1) []).headD 0 = 0 then Al10.no (-5) else ⟨(n : Nat), (Al10.series (eS size texts) n (csS size texts)).map AlOne.numText⟩)
            else (match Al10.values (eS size texts) n (csS size texts) with
              | none => Al10.no (-5)
              | some l => ⟨(n : Nat), l.map AlOne.numText⟩) : Al10.Ans).texts.flatMap Al10Neutral.shownText
          by_cases k0 : kind = 0
          · subst k0
            rw [if_pos rfl]
            have hc := can0 o
            by_cases h0 : ((eS size texts).ps.getD (size - 1) []).headD 0 = 0
            · rw [if_pos (hc.mpr h0), if_pos h0]; rfl
            · rw [if_neg (fun z => h0 (hc.mp z)), if_neg h0]
              exact series_is o h0
          · have k1 : kind = 1 := by omega
            subst k1
            rw [if_neg k0]
            obtain ⟨v0, v1⟩ := values_is o
            cases hc : canI 1 (eqR size texts).1 n with
            | false => rw [if_pos rfl, v0 hc]; rfl
            | true =>
              obtain ⟨l, e, ht⟩ := v1 hc
              rw [if_neg (by decide), e]
              exact ht
theorem run_is (kind n size : Nat) (texts : List (List Nat)) : runA kind n size texts = PyAl10.run (kind : Int) (n : Int) (size : Int) (texts.map fun t => t.map fun (b : Nat) => (b : Int)) := by
  rw [run_answer]
  unfold PyAl10.run Al10Neutral.f
  show _ = (Al10.answer (.run (Int.toNat (kind : Int)) (Int.toNat (n : Int)) (Int.toNat (size : Int)) ((texts.map fun t => t.map fun (b : Nat) => (b : Int)).map Al10Neutral.nats))).code :: (Al10.answer (.run (Int.toNat (kind : Int)) (Int.toNat (n : Int)) (Int.toNat (size : Int)) ((texts.map fun t => t.map fun (b : Nat) => (b : Int)).map Al10Neutral.nats))).texts.flatMap Al10Neutral.shownText
  rw [nats_all, Int.toNat_natCast, Int.toNat_natCast, Int.toNat_natCast]
open PySem.W (Codec WData)
theorem spec_run (K : PySem.W.Frag) (H : Hp) (xs : List V) (a : Codec.denoteAll PySem.Challenge.rw_slopesteps_s03_run.args) (hw : Codec.withinAll PySem.Challenge.rw_slopesteps_s03_run.args a = true) (hx : DwAll K H xs (Codec.encAll PySem.Challenge.rw_slopesteps_s03_run.args a)) :
    SpR K R_run xs H (fun v H' => Dw K H' v (PySem.Challenge.rw_slopesteps_s03_run.ret.enc (Codec.app PySem.Challenge.rw_slopesteps_s03_run.args PySem.Challenge.rw_slopesteps_s03_run.f a))) (fun _ _ _ => False) := by
  obtain ⟨kind, n, size, texts, u⟩ := a
  have hk : 0 ≤ kind := int_lo (and_l hw)
  have hn : 0 ≤ n := int_lo (and_l (and_r hw))
  have hs : 0 ≤ size := int_lo (and_l (and_r (and_r hw)))
  obtain ⟨t1, t2⟩ := list_in (and_l (and_r (and_r (and_r hw))))
  have ht : ∀ t ∈ texts, t.length ≤ 200 ∧ ∀ b ∈ t, 0 ≤ b := fun t hm => by
    obtain ⟨s1, s2⟩ := list_in (t2 t hm)
    exact ⟨s1, fun b hb => int_lo (s2 b hb)⟩
  obtain ⟨ns, hns, hnl⟩ := texts_nat (n := 200) ht
  subst hns
  obtain ⟨kn, rfl⟩ : ∃ kn : Nat, kind = (kn : Int) := ⟨kind.toNat, (Int.toNat_of_nonneg hk).symm⟩
  obtain ⟨nn, rfl⟩ : ∃ nn : Nat, n = (nn : Int) := ⟨n.toNat, (Int.toNat_of_nonneg hn).symm⟩
  obtain ⟨sn, rfl⟩ : ∃ sn : Nat, size = (sn : Int) := ⟨size.toNat, (Int.toNat_of_nonneg hs).symm⟩
  have hx' : DwAll K H xs [.int (kn : Int), .int (nn : Int), .int (sn : Int), .list ((ns.map fun t => t.map fun (b : Nat) => (b : Int)).map fun l => .list (l.map WData.int))] := hx
  cases hx' with
  | cons h1 h2 =>
    cases h2 with
    | cons h3 h4 =>
      cases h4 with
      | cons h5 h6 =>
        cases h6 with
        | cons h7 h8 =>
          cases h8
          cases h1
          cases h3
          cases h5
          refine ⟨H, [.int (kn : Int), .int (nn : Int), .int (sn : Int), .inp (dTx ns)], .lst (dI (runA kn nn sn ns)), Same.refl H, .cons (.int _) (.cons (.int _) (.cons (.int _) (.cons ?_ .nil))), ⟨kn, nn, sn, ns, rfl, ?_, hnl, rfl⟩, fun v G' H' st r => ?_⟩
          · have := rp_inps h7
            rw [List.map_map] at this
            unfold dTx
            have e : (fun t : List Nat => D.inp (dN t)) = (fun ns : List Int => D.inp (dI ns)) ∘ fun (t : List Nat) => t.map fun (b : Nat) => (b : Int) := by
              funext t; show D.inp (dN t) = D.inp (dI _); rw [dN_dI]
            rw [e]; exact this
          · have := t1
            rw [List.length_map] at this
            omega
          · have := dw_back (r.mono st.s)
            rw [run_is] at this
            exact this
end Pg
set_option Elab.async false
set_option linter.all false
set_option maxRecDepth 100000
set_option maxHeartbeats 4000000
namespace Pg
open PySem PyProof.Rows L2 Fw
theorem all_mk {P : Program} {w : World} {K : PySem.W.Frag} {h : Heap} {mg : Str → Option Value} {fa : Addr} (X : K.In h) (G : h.Ns mainGlobals mg) (hfa : mg "run" = some (.ref fa))
    {f_greatest_divisor : Addr} {od_greatest_divisor an_greatest_divisor : Option Addr} {sl_greatest_divisor : Array (Option Value)} {oc_greatest_divisor kV_greatest_divisor dc_greatest_divisor pm_greatest_divisor cd_greatest_divisor ct_greatest_divisor : Value}
    (a_greatest_divisor : PySem.W.nsIn K mainGlobals "greatest_divisor" = some (some (.ref f_greatest_divisor))) (l_greatest_divisor : K.lookup f_greatest_divisor = some ⟨oc_greatest_divisor, od_greatest_divisor, .func (PySem.W.fnOf "greatest_divisor" "greatest_divisor" (defArgs s_greatest_divisor) (defBody s_greatest_divisor) (defScope s_greatest_divisor) .none kV_greatest_divisor dc_greatest_divisor pm_greatest_divisor an_greatest_divisor cd_greatest_divisor ct_greatest_divisor), sl_greatest_divisor⟩) (c_greatest_divisor : PySem.W.codeIn K cd_greatest_divisor "greatest_divisor" = true) (k_greatest_divisor : PySem.W.keepIn K (.ref f_greatest_divisor) = true)
    {f_write_whole : Addr} {od_write_whole an_write_whole : Option Addr} {sl_write_whole : Array (Option Value)} {oc_write_whole kV_write_whole dc_write_whole pm_write_whole cd_write_whole ct_write_whole : Value}
    (a_write_whole : PySem.W.nsIn K mainGlobals "write_whole" = some (some (.ref f_write_whole))) (l_write_whole : K.lookup f_write_whole = some ⟨oc_write_whole, od_write_whole, .func (PySem.W.fnOf "write_whole" "write_whole" (defArgs s_write_whole) (defBody s_write_whole) (defScope s_write_whole) .none kV_write_whole dc_write_whole pm_write_whole an_write_whole cd_write_whole ct_write_whole), sl_write_whole⟩) (c_write_whole : PySem.W.codeIn K cd_write_whole "write_whole" = true) (k_write_whole : PySem.W.keepIn K (.ref f_write_whole) = true)
    {f_write_fraction : Addr} {od_write_fraction an_write_fraction : Option Addr} {sl_write_fraction : Array (Option Value)} {oc_write_fraction kV_write_fraction dc_write_fraction pm_write_fraction cd_write_fraction ct_write_fraction : Value}
    (a_write_fraction : PySem.W.nsIn K mainGlobals "write_fraction" = some (some (.ref f_write_fraction))) (l_write_fraction : K.lookup f_write_fraction = some ⟨oc_write_fraction, od_write_fraction, .func (PySem.W.fnOf "write_fraction" "write_fraction" (defArgs s_write_fraction) (defBody s_write_fraction) (defScope s_write_fraction) .none kV_write_fraction dc_write_fraction pm_write_fraction an_write_fraction cd_write_fraction ct_write_fraction), sl_write_fraction⟩) (c_write_fraction : PySem.W.codeIn K cd_write_fraction "write_fraction" = true) (k_write_fraction : PySem.W.keepIn K (.ref f_write_fraction) = true)
    {f_write_term : Addr} {od_write_term an_write_term : Option Addr} {sl_write_term : Array (Option Value)} {oc_write_term kV_write_term dc_write_term pm_write_term cd_write_term ct_write_term : Value}
    (a_write_term : PySem.W.nsIn K mainGlobals "write_term" = some (some (.ref f_write_term))) (l_write_term : K.lookup f_write_term = some ⟨oc_write_term, od_write_term, .func (PySem.W.fnOf "write_term" "write_term" (defArgs s_write_term) (defBody s_write_term) (defScope s_write_term) .none kV_write_term dc_write_term pm_write_term an_write_term cd_write_term ct_write_term), sl_write_term⟩) (c_write_term : PySem.W.codeIn K cd_write_term "write_term" = true) (k_write_term : PySem.W.keepIn K (.ref f_write_term) = true)
    {f_write_polynomial : Addr} {od_write_polynomial an_write_polynomial : Option Addr} {sl_write_polynomial : Array (Option Value)} {oc_write_polynomial kV_write_polynomial dc_write_polynomial pm_write_polynomial cd_write_polynomial ct_write_polynomial : Value}
    (a_write_polynomial : PySem.W.nsIn K mainGlobals "write_polynomial" = some (some (.ref f_write_polynomial))) (l_write_polynomial : K.lookup f_write_polynomial = some ⟨oc_write_polynomial, od_write_polynomial, .func (PySem.W.fnOf "write_polynomial" "write_polynomial" (defArgs s_write_polynomial) (defBody s_write_polynomial) (defScope s_write_polynomial) .none kV_write_polynomial dc_write_polynomial pm_write_polynomial an_write_polynomial cd_write_polynomial ct_write_polynomial), sl_write_polynomial⟩) (c_write_polynomial : PySem.W.codeIn K cd_write_polynomial "write_polynomial" = true) (k_write_polynomial : PySem.W.keepIn K (.ref f_write_polynomial) = true)
    {f_lowest_term : Addr} {od_lowest_term an_lowest_term : Option Addr} {sl_lowest_term : Array (Option Value)} {oc_lowest_term kV_lowest_term dc_lowest_term pm_lowest_term cd_lowest_term ct_lowest_term : Value}
    (a_lowest_term : PySem.W.nsIn K mainGlobals "lowest_term" = some (some (.ref f_lowest_term))) (l_lowest_term : K.lookup f_lowest_term = some ⟨oc_lowest_term, od_lowest_term, .func (PySem.W.fnOf "lowest_term" "lowest_term" (defArgs s_lowest_term) (defBody s_lowest_term) (defScope s_lowest_term) .none kV_lowest_term dc_lowest_term pm_lowest_term an_lowest_term cd_lowest_term ct_lowest_term), sl_lowest_term⟩) (c_lowest_term : PySem.W.codeIn K cd_lowest_term "lowest_term" = true) (k_lowest_term : PySem.W.keepIn K (.ref f_lowest_term) = true)
    {f_read_whole : Addr} {od_read_whole an_read_whole : Option Addr} {sl_read_whole : Array (Option Value)} {oc_read_whole kV_read_whole dc_read_whole pm_read_whole cd_read_whole ct_read_whole : Value}
    (a_read_whole : PySem.W.nsIn K mainGlobals "read_whole" = some (some (.ref f_read_whole))) (l_read_whole : K.lookup f_read_whole = some ⟨oc_read_whole, od_read_whole, .func (PySem.W.fnOf "read_whole" "read_whole" (defArgs s_read_whole) (defBody s_read_whole) (defScope s_read_whole) .none kV_read_whole dc_read_whole pm_read_whole an_read_whole cd_read_whole ct_read_whole), sl_read_whole⟩) (c_read_whole : PySem.W.codeIn K cd_read_whole "read_whole" = true) (k_read_whole : PySem.W.keepIn K (.ref f_read_whole) = true)
    {f_read_fraction : Addr} {od_read_fraction an_read_fraction : Option Addr} {sl_read_fraction : Array (Option Value)} {oc_read_fraction kV_read_fraction dc_read_fraction pm_read_fraction cd_read_fraction ct_read_fraction : Value}
    (a_read_fraction : PySem.W.nsIn K mainGlobals "read_fraction" = some (some (.ref f_read_fraction))) (l_read_fraction : K.lookup f_read_fraction = some ⟨oc_read_fraction, od_read_fraction, .func (PySem.W.fnOf "read_fraction" "read_fraction" (defArgs s_read_fraction) (defBody s_read_fraction) (defScope s_read_fraction) .none kV_read_fraction dc_read_fraction pm_read_fraction an_read_fraction cd_read_fraction ct_read_fraction), sl_read_fraction⟩) (c_read_fraction : PySem.W.codeIn K cd_read_fraction "read_fraction" = true) (k_read_fraction : PySem.W.keepIn K (.ref f_read_fraction) = true)
    {f_read_power : Addr} {od_read_power an_read_power : Option Addr} {sl_read_power : Array (Option Value)} {oc_read_power kV_read_power dc_read_power pm_read_power cd_read_power ct_read_power : Value}
    (a_read_power : PySem.W.nsIn K mainGlobals "read_power" = some (some (.ref f_read_power))) (l_read_power : K.lookup f_read_power = some ⟨oc_read_power, od_read_power, .func (PySem.W.fnOf "read_power" "read_power" (defArgs s_read_power) (defBody s_read_power) (defScope s_read_power) .none kV_read_power dc_read_power pm_read_power an_read_power cd_read_power ct_read_power), sl_read_power⟩) (c_read_power : PySem.W.codeIn K cd_read_power "read_power" = true) (k_read_power : PySem.W.keepIn K (.ref f_read_power) = true)
    {f_read_term : Addr} {od_read_term an_read_term : Option Addr} {sl_read_term : Array (Option Value)} {oc_read_term kV_read_term dc_read_term pm_read_term cd_read_term ct_read_term : Value}
    (a_read_term : PySem.W.nsIn K mainGlobals "read_term" = some (some (.ref f_read_term))) (l_read_term : K.lookup f_read_term = some ⟨oc_read_term, od_read_term, .func (PySem.W.fnOf "read_term" "read_term" (defArgs s_read_term) (defBody s_read_term) (defScope s_read_term) .none kV_read_term dc_read_term pm_read_term an_read_term cd_read_term ct_read_term), sl_read_term⟩) (c_read_term : PySem.W.codeIn K cd_read_term "read_term" = true) (k_read_term : PySem.W.keepIn K (.ref f_read_term) = true)
    {f_powers_fall : Addr} {od_powers_fall an_powers_fall : Option Addr} {sl_powers_fall : Array (Option Value)} {oc_powers_fall kV_powers_fall dc_powers_fall pm_powers_fall cd_powers_fall ct_powers_fall : Value}
    (a_powers_fall : PySem.W.nsIn K mainGlobals "powers_fall" = some (some (.ref f_powers_fall))) (l_powers_fall : K.lookup f_powers_fall = some ⟨oc_powers_fall, od_powers_fall, .func (PySem.W.fnOf "powers_fall" "powers_fall" (defArgs s_powers_fall) (defBody s_powers_fall) (defScope s_powers_fall) .none kV_powers_fall dc_powers_fall pm_powers_fall an_powers_fall cd_powers_fall ct_powers_fall), sl_powers_fall⟩) (c_powers_fall : PySem.W.codeIn K cd_powers_fall "powers_fall" = true) (k_powers_fall : PySem.W.keepIn K (.ref f_powers_fall) = true)
    {f_split_at_signs : Addr} {od_split_at_signs an_split_at_signs : Option Addr} {sl_split_at_signs : Array (Option Value)} {oc_split_at_signs kV_split_at_signs dc_split_at_signs pm_split_at_signs cd_split_at_signs ct_split_at_signs : Value}
    (a_split_at_signs : PySem.W.nsIn K mainGlobals "split_at_signs" = some (some (.ref f_split_at_signs))) (l_split_at_signs : K.lookup f_split_at_signs = some ⟨oc_split_at_signs, od_split_at_signs, .func (PySem.W.fnOf "split_at_signs" "split_at_signs" (defArgs s_split_at_signs) (defBody s_split_at_signs) (defScope s_split_at_signs) .none kV_split_at_signs dc_split_at_signs pm_split_at_signs an_split_at_signs cd_split_at_signs ct_split_at_signs), sl_split_at_signs⟩) (c_split_at_signs : PySem.W.codeIn K cd_split_at_signs "split_at_signs" = true) (k_split_at_signs : PySem.W.keepIn K (.ref f_split_at_signs) = true)
    {f_read_polynomial : Addr} {od_read_polynomial an_read_polynomial : Option Addr} {sl_read_polynomial : Array (Option Value)} {oc_read_polynomial kV_read_polynomial dc_read_polynomial pm_read_polynomial cd_read_polynomial ct_read_polynomial : Value}
    (a_read_polynomial : PySem.W.nsIn K mainGlobals "read_polynomial" = some (some (.ref f_read_polynomial))) (l_read_polynomial : K.lookup f_read_polynomial = some ⟨oc_read_polynomial, od_read_polynomial, .func (PySem.W.fnOf "read_polynomial" "read_polynomial" (defArgs s_read_polynomial) (defBody s_read_polynomial) (defScope s_read_polynomial) .none kV_read_polynomial dc_read_polynomial pm_read_polynomial an_read_polynomial cd_read_polynomial ct_read_polynomial), sl_read_polynomial⟩) (c_read_polynomial : PySem.W.codeIn K cd_read_polynomial "read_polynomial" = true) (k_read_polynomial : PySem.W.keepIn K (.ref f_read_polynomial) = true)
    {f_trimmed : Addr} {od_trimmed an_trimmed : Option Addr} {sl_trimmed : Array (Option Value)} {oc_trimmed kV_trimmed dc_trimmed pm_trimmed cd_trimmed ct_trimmed : Value}
    (a_trimmed : PySem.W.nsIn K mainGlobals "trimmed" = some (some (.ref f_trimmed))) (l_trimmed : K.lookup f_trimmed = some ⟨oc_trimmed, od_trimmed, .func (PySem.W.fnOf "trimmed" "trimmed" (defArgs s_trimmed) (defBody s_trimmed) (defScope s_trimmed) .none kV_trimmed dc_trimmed pm_trimmed an_trimmed cd_trimmed ct_trimmed), sl_trimmed⟩) (c_trimmed : PySem.W.codeIn K cd_trimmed "trimmed" = true) (k_trimmed : PySem.W.keepIn K (.ref f_trimmed) = true)
    {f_number_at : Addr} {od_number_at an_number_at : Option Addr} {sl_number_at : Array (Option Value)} {oc_number_at kV_number_at dc_number_at pm_number_at cd_number_at ct_number_at : Value}
    (a_number_at : PySem.W.nsIn K mainGlobals "number_at" = some (some (.ref f_number_at))) (l_number_at : K.lookup f_number_at = some ⟨oc_number_at, od_number_at, .func (PySem.W.fnOf "number_at" "number_at" (defArgs s_number_at) (defBody s_number_at) (defScope s_number_at) .none kV_number_at dc_number_at pm_number_at an_number_at cd_number_at ct_number_at), sl_number_at⟩) (c_number_at : PySem.W.codeIn K cd_number_at "number_at" = true) (k_number_at : PySem.W.keepIn K (.ref f_number_at) = true)
    {f_plus : Addr} {od_plus an_plus : Option Addr} {sl_plus : Array (Option Value)} {oc_plus kV_plus dc_plus pm_plus cd_plus ct_plus : Value}
    (a_plus : PySem.W.nsIn K mainGlobals "plus" = some (some (.ref f_plus))) (l_plus : K.lookup f_plus = some ⟨oc_plus, od_plus, .func (PySem.W.fnOf "plus" "plus" (defArgs s_plus) (defBody s_plus) (defScope s_plus) .none kV_plus dc_plus pm_plus an_plus cd_plus ct_plus), sl_plus⟩) (c_plus : PySem.W.codeIn K cd_plus "plus" = true) (k_plus : PySem.W.keepIn K (.ref f_plus) = true)
    {f_slope : Addr} {od_slope an_slope : Option Addr} {sl_slope : Array (Option Value)} {oc_slope kV_slope dc_slope pm_slope cd_slope ct_slope : Value}
    (a_slope : PySem.W.nsIn K mainGlobals "slope" = some (some (.ref f_slope))) (l_slope : K.lookup f_slope = some ⟨oc_slope, od_slope, .func (PySem.W.fnOf "slope" "slope" (defArgs s_slope) (defBody s_slope) (defScope s_slope) .none kV_slope dc_slope pm_slope an_slope cd_slope ct_slope), sl_slope⟩) (c_slope : PySem.W.codeIn K cd_slope "slope" = true) (k_slope : PySem.W.keepIn K (.ref f_slope) = true)
    {f_times : Addr} {od_times an_times : Option Addr} {sl_times : Array (Option Value)} {oc_times kV_times dc_times pm_times cd_times ct_times : Value}
    (a_times : PySem.W.nsIn K mainGlobals "times" = some (some (.ref f_times))) (l_times : K.lookup f_times = some ⟨oc_times, od_times, .func (PySem.W.fnOf "times" "times" (defArgs s_times) (defBody s_times) (defScope s_times) .none kV_times dc_times pm_times an_times cd_times ct_times), sl_times⟩) (c_times : PySem.W.codeIn K cd_times "times" = true) (k_times : PySem.W.keepIn K (.ref f_times) = true)
    {f_stepped : Addr} {od_stepped an_stepped : Option Addr} {sl_stepped : Array (Option Value)} {oc_stepped kV_stepped dc_stepped pm_stepped cd_stepped ct_stepped : Value}
    (a_stepped : PySem.W.nsIn K mainGlobals "stepped" = some (some (.ref f_stepped))) (l_stepped : K.lookup f_stepped = some ⟨oc_stepped, od_stepped, .func (PySem.W.fnOf "stepped" "stepped" (defArgs s_stepped) (defBody s_stepped) (defScope s_stepped) .none kV_stepped dc_stepped pm_stepped an_stepped cd_stepped ct_stepped), sl_stepped⟩) (c_stepped : PySem.W.codeIn K cd_stepped "stepped" = true) (k_stepped : PySem.W.keepIn K (.ref f_stepped) = true)
    {f_left_side : Addr} {od_left_side an_left_side : Option Addr} {sl_left_side : Array (Option Value)} {oc_left_side kV_left_side dc_left_side pm_left_side cd_left_side ct_left_side : Value}
    (a_left_side : PySem.W.nsIn K mainGlobals "left_side" = some (some (.ref f_left_side))) (l_left_side : K.lookup f_left_side = some ⟨oc_left_side, od_left_side, .func (PySem.W.fnOf "left_side" "left_side" (defArgs s_left_side) (defBody s_left_side) (defScope s_left_side) .none kV_left_side dc_left_side pm_left_side an_left_side cd_left_side ct_left_side), sl_left_side⟩) (c_left_side : PySem.W.codeIn K cd_left_side "left_side" = true) (k_left_side : PySem.W.keepIn K (.ref f_left_side) = true)
    {f_terms_over : Addr} {od_terms_over an_terms_over : Option Addr} {sl_terms_over : Array (Option Value)} {oc_terms_over kV_terms_over dc_terms_over pm_terms_over cd_terms_over ct_terms_over : Value}
    (a_terms_over : PySem.W.nsIn K mainGlobals "terms_over" = some (some (.ref f_terms_over))) (l_terms_over : K.lookup f_terms_over = some ⟨oc_terms_over, od_terms_over, .func (PySem.W.fnOf "terms_over" "terms_over" (defArgs s_terms_over) (defBody s_terms_over) (defScope s_terms_over) .none kV_terms_over dc_terms_over pm_terms_over an_terms_over cd_terms_over ct_terms_over), sl_terms_over⟩) (c_terms_over : PySem.W.codeIn K cd_terms_over "terms_over" = true) (k_terms_over : PySem.W.keepIn K (.ref f_terms_over) = true)
    {f_least_multiple : Addr} {od_least_multiple an_least_multiple : Option Addr} {sl_least_multiple : Array (Option Value)} {oc_least_multiple kV_least_multiple dc_least_multiple pm_least_multiple cd_least_multiple ct_least_multiple : Value}
    (a_least_multiple : PySem.W.nsIn K mainGlobals "least_multiple" = some (some (.ref f_least_multiple))) (l_least_multiple : K.lookup f_least_multiple = some ⟨oc_least_multiple, od_least_multiple, .func (PySem.W.fnOf "least_multiple" "least_multiple" (defArgs s_least_multiple) (defBody s_least_multiple) (defScope s_least_multiple) .none kV_least_multiple dc_least_multiple pm_least_multiple an_least_multiple cd_least_multiple ct_least_multiple), sl_least_multiple⟩) (c_least_multiple : PySem.W.codeIn K cd_least_multiple "least_multiple" = true) (k_least_multiple : PySem.W.keepIn K (.ref f_least_multiple) = true)
    {f_whole_numbers : Addr} {od_whole_numbers an_whole_numbers : Option Addr} {sl_whole_numbers : Array (Option Value)} {oc_whole_numbers kV_whole_numbers dc_whole_numbers pm_whole_numbers cd_whole_numbers ct_whole_numbers : Value}
    (a_whole_numbers : PySem.W.nsIn K mainGlobals "whole_numbers" = some (some (.ref f_whole_numbers))) (l_whole_numbers : K.lookup f_whole_numbers = some ⟨oc_whole_numbers, od_whole_numbers, .func (PySem.W.fnOf "whole_numbers" "whole_numbers" (defArgs s_whole_numbers) (defBody s_whole_numbers) (defScope s_whole_numbers) .none kV_whole_numbers dc_whole_numbers pm_whole_numbers an_whole_numbers cd_whole_numbers ct_whole_numbers), sl_whole_numbers⟩) (c_whole_numbers : PySem.W.codeIn K cd_whole_numbers "whole_numbers" = true) (k_whole_numbers : PySem.W.keepIn K (.ref f_whole_numbers) = true)
    {f_common_bottom : Addr} {od_common_bottom an_common_bottom : Option Addr} {sl_common_bottom : Array (Option Value)} {oc_common_bottom kV_common_bottom dc_common_bottom pm_common_bottom cd_common_bottom ct_common_bottom : Value}
    (a_common_bottom : PySem.W.nsIn K mainGlobals "common_bottom" = some (some (.ref f_common_bottom))) (l_common_bottom : K.lookup f_common_bottom = some ⟨oc_common_bottom, od_common_bottom, .func (PySem.W.fnOf "common_bottom" "common_bottom" (defArgs s_common_bottom) (defBody s_common_bottom) (defScope s_common_bottom) .none kV_common_bottom dc_common_bottom pm_common_bottom an_common_bottom cd_common_bottom ct_common_bottom), sl_common_bottom⟩) (c_common_bottom : PySem.W.codeIn K cd_common_bottom "common_bottom" = true) (k_common_bottom : PySem.W.keepIn K (.ref f_common_bottom) = true)
    {f_too_big : Addr} {od_too_big an_too_big : Option Addr} {sl_too_big : Array (Option Value)} {oc_too_big kV_too_big dc_too_big pm_too_big cd_too_big ct_too_big : Value}
    (a_too_big : PySem.W.nsIn K mainGlobals "too_big" = some (some (.ref f_too_big))) (l_too_big : K.lookup f_too_big = some ⟨oc_too_big, od_too_big, .func (PySem.W.fnOf "too_big" "too_big" (defArgs s_too_big) (defBody s_too_big) (defScope s_too_big) .none kV_too_big dc_too_big pm_too_big an_too_big cd_too_big ct_too_big), sl_too_big⟩) (c_too_big : PySem.W.codeIn K cd_too_big "too_big" = true) (k_too_big : PySem.W.keepIn K (.ref f_too_big) = true)
    {f_texts_refusal : Addr} {od_texts_refusal an_texts_refusal : Option Addr} {sl_texts_refusal : Array (Option Value)} {oc_texts_refusal kV_texts_refusal dc_texts_refusal pm_texts_refusal cd_texts_refusal ct_texts_refusal : Value}
    (a_texts_refusal : PySem.W.nsIn K mainGlobals "texts_refusal" = some (some (.ref f_texts_refusal))) (l_texts_refusal : K.lookup f_texts_refusal = some ⟨oc_texts_refusal, od_texts_refusal, .func (PySem.W.fnOf "texts_refusal" "texts_refusal" (defArgs s_texts_refusal) (defBody s_texts_refusal) (defScope s_texts_refusal) .none kV_texts_refusal dc_texts_refusal pm_texts_refusal an_texts_refusal cd_texts_refusal ct_texts_refusal), sl_texts_refusal⟩) (c_texts_refusal : PySem.W.codeIn K cd_texts_refusal "texts_refusal" = true) (k_texts_refusal : PySem.W.keepIn K (.ref f_texts_refusal) = true)
    {f_told : Addr} {od_told an_told : Option Addr} {sl_told : Array (Option Value)} {oc_told kV_told dc_told pm_told cd_told ct_told : Value}
    (a_told : PySem.W.nsIn K mainGlobals "told" = some (some (.ref f_told))) (l_told : K.lookup f_told = some ⟨oc_told, od_told, .func (PySem.W.fnOf "told" "told" (defArgs s_told) (defBody s_told) (defScope s_told) .none kV_told dc_told pm_told an_told cd_told ct_told), sl_told⟩) (c_told : PySem.W.codeIn K cd_told "told" = true) (k_told : PySem.W.keepIn K (.ref f_told) = true)
    {f_product_up_to : Addr} {od_product_up_to an_product_up_to : Option Addr} {sl_product_up_to : Array (Option Value)} {oc_product_up_to kV_product_up_to dc_product_up_to pm_product_up_to cd_product_up_to ct_product_up_to : Value}
    (a_product_up_to : PySem.W.nsIn K mainGlobals "product_up_to" = some (some (.ref f_product_up_to))) (l_product_up_to : K.lookup f_product_up_to = some ⟨oc_product_up_to, od_product_up_to, .func (PySem.W.fnOf "product_up_to" "product_up_to" (defArgs s_product_up_to) (defBody s_product_up_to) (defScope s_product_up_to) .none kV_product_up_to dc_product_up_to pm_product_up_to an_product_up_to cd_product_up_to ct_product_up_to), sl_product_up_to⟩) (c_product_up_to : PySem.W.codeIn K cd_product_up_to "product_up_to" = true) (k_product_up_to : PySem.W.keepIn K (.ref f_product_up_to) = true)
    {f_value_at : Addr} {od_value_at an_value_at : Option Addr} {sl_value_at : Array (Option Value)} {oc_value_at kV_value_at dc_value_at pm_value_at cd_value_at ct_value_at : Value}
    (a_value_at : PySem.W.nsIn K mainGlobals "value_at" = some (some (.ref f_value_at))) (l_value_at : K.lookup f_value_at = some ⟨oc_value_at, od_value_at, .func (PySem.W.fnOf "value_at" "value_at" (defArgs s_value_at) (defBody s_value_at) (defScope s_value_at) .none kV_value_at dc_value_at pm_value_at an_value_at cd_value_at ct_value_at), sl_value_at⟩) (c_value_at : PySem.W.codeIn K cd_value_at "value_at" = true) (k_value_at : PySem.W.keepIn K (.ref f_value_at) = true)
    {f_from_slopes : Addr} {od_from_slopes an_from_slopes : Option Addr} {sl_from_slopes : Array (Option Value)} {oc_from_slopes kV_from_slopes dc_from_slopes pm_from_slopes cd_from_slopes ct_from_slopes : Value}
    (a_from_slopes : PySem.W.nsIn K mainGlobals "from_slopes" = some (some (.ref f_from_slopes))) (l_from_slopes : K.lookup f_from_slopes = some ⟨oc_from_slopes, od_from_slopes, .func (PySem.W.fnOf "from_slopes" "from_slopes" (defArgs s_from_slopes) (defBody s_from_slopes) (defScope s_from_slopes) .none kV_from_slopes dc_from_slopes pm_from_slopes an_from_slopes cd_from_slopes ct_from_slopes), sl_from_slopes⟩) (c_from_slopes : PySem.W.codeIn K cd_from_slopes "from_slopes" = true) (k_from_slopes : PySem.W.keepIn K (.ref f_from_slopes) = true)
    {f_lead_at : Addr} {od_lead_at an_lead_at : Option Addr} {sl_lead_at : Array (Option Value)} {oc_lead_at kV_lead_at dc_lead_at pm_lead_at cd_lead_at ct_lead_at : Value}
    (a_lead_at : PySem.W.nsIn K mainGlobals "lead_at" = some (some (.ref f_lead_at))) (l_lead_at : K.lookup f_lead_at = some ⟨oc_lead_at, od_lead_at, .func (PySem.W.fnOf "lead_at" "lead_at" (defArgs s_lead_at) (defBody s_lead_at) (defScope s_lead_at) .none kV_lead_at dc_lead_at pm_lead_at an_lead_at cd_lead_at ct_lead_at), sl_lead_at⟩) (c_lead_at : PySem.W.codeIn K cd_lead_at "lead_at" = true) (k_lead_at : PySem.W.keepIn K (.ref f_lead_at) = true)
    {f_known_at : Addr} {od_known_at an_known_at : Option Addr} {sl_known_at : Array (Option Value)} {oc_known_at kV_known_at dc_known_at pm_known_at cd_known_at ct_known_at : Value}
    (a_known_at : PySem.W.nsIn K mainGlobals "known_at" = some (some (.ref f_known_at))) (l_known_at : K.lookup f_known_at = some ⟨oc_known_at, od_known_at, .func (PySem.W.fnOf "known_at" "known_at" (defArgs s_known_at) (defBody s_known_at) (defScope s_known_at) .none kV_known_at dc_known_at pm_known_at an_known_at cd_known_at ct_known_at), sl_known_at⟩) (c_known_at : PySem.W.codeIn K cd_known_at "known_at" = true) (k_known_at : PySem.W.keepIn K (.ref f_known_at) = true)
    {f_can_go_on : Addr} {od_can_go_on an_can_go_on : Option Addr} {sl_can_go_on : Array (Option Value)} {oc_can_go_on kV_can_go_on dc_can_go_on pm_can_go_on cd_can_go_on ct_can_go_on : Value}
    (a_can_go_on : PySem.W.nsIn K mainGlobals "can_go_on" = some (some (.ref f_can_go_on))) (l_can_go_on : K.lookup f_can_go_on = some ⟨oc_can_go_on, od_can_go_on, .func (PySem.W.fnOf "can_go_on" "can_go_on" (defArgs s_can_go_on) (defBody s_can_go_on) (defScope s_can_go_on) .none kV_can_go_on dc_can_go_on pm_can_go_on an_can_go_on cd_can_go_on ct_can_go_on), sl_can_go_on⟩) (c_can_go_on : PySem.W.codeIn K cd_can_go_on "can_go_on" = true) (k_can_go_on : PySem.W.keepIn K (.ref f_can_go_on) = true)
    {f_gone_on : Addr} {od_gone_on an_gone_on : Option Addr} {sl_gone_on : Array (Option Value)} {oc_gone_on kV_gone_on dc_gone_on pm_gone_on cd_gone_on ct_gone_on : Value}
    (a_gone_on : PySem.W.nsIn K mainGlobals "gone_on" = some (some (.ref f_gone_on))) (l_gone_on : K.lookup f_gone_on = some ⟨oc_gone_on, od_gone_on, .func (PySem.W.fnOf "gone_on" "gone_on" (defArgs s_gone_on) (defBody s_gone_on) (defScope s_gone_on) .none kV_gone_on dc_gone_on pm_gone_on an_gone_on cd_gone_on ct_gone_on), sl_gone_on⟩) (c_gone_on : PySem.W.codeIn K cd_gone_on "gone_on" = true) (k_gone_on : PySem.W.keepIn K (.ref f_gone_on) = true)
    {f_counts_fit : Addr} {od_counts_fit an_counts_fit : Option Addr} {sl_counts_fit : Array (Option Value)} {oc_counts_fit kV_counts_fit dc_counts_fit pm_counts_fit cd_counts_fit ct_counts_fit : Value}
    (a_counts_fit : PySem.W.nsIn K mainGlobals "counts_fit" = some (some (.ref f_counts_fit))) (l_counts_fit : K.lookup f_counts_fit = some ⟨oc_counts_fit, od_counts_fit, .func (PySem.W.fnOf "counts_fit" "counts_fit" (defArgs s_counts_fit) (defBody s_counts_fit) (defScope s_counts_fit) .none kV_counts_fit dc_counts_fit pm_counts_fit an_counts_fit cd_counts_fit ct_counts_fit), sl_counts_fit⟩) (c_counts_fit : PySem.W.codeIn K cd_counts_fit "counts_fit" = true) (k_counts_fit : PySem.W.keepIn K (.ref f_counts_fit) = true)
    {f_whole_equations : Addr} {od_whole_equations an_whole_equations : Option Addr} {sl_whole_equations : Array (Option Value)} {oc_whole_equations kV_whole_equations dc_whole_equations pm_whole_equations cd_whole_equations ct_whole_equations : Value}
    (a_whole_equations : PySem.W.nsIn K mainGlobals "whole_equations" = some (some (.ref f_whole_equations))) (l_whole_equations : K.lookup f_whole_equations = some ⟨oc_whole_equations, od_whole_equations, .func (PySem.W.fnOf "whole_equations" "whole_equations" (defArgs s_whole_equations) (defBody s_whole_equations) (defScope s_whole_equations) .none kV_whole_equations dc_whole_equations pm_whole_equations an_whole_equations cd_whole_equations ct_whole_equations), sl_whole_equations⟩) (c_whole_equations : PySem.W.codeIn K cd_whole_equations "whole_equations" = true) (k_whole_equations : PySem.W.keepIn K (.ref f_whole_equations) = true)
    {f_read_number : Addr} {od_read_number an_read_number : Option Addr} {sl_read_number : Array (Option Value)} {oc_read_number kV_read_number dc_read_number pm_read_number cd_read_number ct_read_number : Value}
    (a_read_number : PySem.W.nsIn K mainGlobals "read_number" = some (some (.ref f_read_number))) (l_read_number : K.lookup f_read_number = some ⟨oc_read_number, od_read_number, .func (PySem.W.fnOf "read_number" "read_number" (defArgs s_read_number) (defBody s_read_number) (defScope s_read_number) .none kV_read_number dc_read_number pm_read_number an_read_number cd_read_number ct_read_number), sl_read_number⟩) (c_read_number : PySem.W.codeIn K cd_read_number "read_number" = true) (k_read_number : PySem.W.keepIn K (.ref f_read_number) = true)
    {f_over_common_bottom : Addr} {od_over_common_bottom an_over_common_bottom : Option Addr} {sl_over_common_bottom : Array (Option Value)} {oc_over_common_bottom kV_over_common_bottom dc_over_common_bottom pm_over_common_bottom cd_over_common_bottom ct_over_common_bottom : Value}
    (a_over_common_bottom : PySem.W.nsIn K mainGlobals "over_common_bottom" = some (some (.ref f_over_common_bottom))) (l_over_common_bottom : K.lookup f_over_common_bottom = some ⟨oc_over_common_bottom, od_over_common_bottom, .func (PySem.W.fnOf "over_common_bottom" "over_common_bottom" (defArgs s_over_common_bottom) (defBody s_over_common_bottom) (defScope s_over_common_bottom) .none kV_over_common_bottom dc_over_common_bottom pm_over_common_bottom an_over_common_bottom cd_over_common_bottom ct_over_common_bottom), sl_over_common_bottom⟩) (c_over_common_bottom : PySem.W.codeIn K cd_over_common_bottom "over_common_bottom" = true) (k_over_common_bottom : PySem.W.keepIn K (.ref f_over_common_bottom) = true)
    {f_run : Addr} {od_run an_run : Option Addr} {sl_run : Array (Option Value)} {oc_run kV_run dc_run pm_run cd_run ct_run : Value}
    (a_run : PySem.W.nsIn K mainGlobals "run" = some (some (.ref f_run))) (l_run : K.lookup f_run = some ⟨oc_run, od_run, .func (PySem.W.fnOf "run" "run" (defArgs s_run) (defBody s_run) (defScope s_run) .none kV_run dc_run pm_run an_run cd_run ct_run), sl_run⟩) (c_run : PySem.W.codeIn K cd_run "run" = true) (k_run : PySem.W.keepIn K (.ref f_run) = true)
    {t_DIGIT_ZERO : Tok} (v_DIGIT_ZERO : PySem.W.nsIn K mainGlobals "DIGIT_ZERO" = some (some (.int (48) t_DIGIT_ZERO)))
    {t_SLASH : Tok} (v_SLASH : PySem.W.nsIn K mainGlobals "SLASH" = some (some (.int (47) t_SLASH)))
    {t_STAR : Tok} (v_STAR : PySem.W.nsIn K mainGlobals "STAR" = some (some (.int (42) t_STAR)))
    {t_LETTER_X : Tok} (v_LETTER_X : PySem.W.nsIn K mainGlobals "LETTER_X" = some (some (.int (120) t_LETTER_X)))
    {t_CARET : Tok} (v_CARET : PySem.W.nsIn K mainGlobals "CARET" = some (some (.int (94) t_CARET)))
    {t_BLANK : Tok} (v_BLANK : PySem.W.nsIn K mainGlobals "BLANK" = some (some (.int (32) t_BLANK)))
    {t_MINUS : Tok} (v_MINUS : PySem.W.nsIn K mainGlobals "MINUS" = some (some (.int (45) t_MINUS)))
    {t_PLUS : Tok} (v_PLUS : PySem.W.nsIn K mainGlobals "PLUS" = some (some (.int (43) t_PLUS)))
    {t_DIGIT_NINE : Tok} (v_DIGIT_NINE : PySem.W.nsIn K mainGlobals "DIGIT_NINE" = some (some (.int (57) t_DIGIT_NINE)))
    {t_MOST_DEGREE : Tok} (v_MOST_DEGREE : PySem.W.nsIn K mainGlobals "MOST_DEGREE" = some (some (.int (4) t_MOST_DEGREE)))
    {t_MOST_NUMBER : Tok} (v_MOST_NUMBER : PySem.W.nsIn K mainGlobals "MOST_NUMBER" = some (some (.int (9999) t_MOST_NUMBER)))
    {t_NOT_SUCH_A_TEXT : Tok} (v_NOT_SUCH_A_TEXT : PySem.W.nsIn K mainGlobals "NOT_SUCH_A_TEXT" = some (some (.int (-1) t_NOT_SUCH_A_TEXT)))
    {t_TOO_BIG : Tok} (v_TOO_BIG : PySem.W.nsIn K mainGlobals "TOO_BIG" = some (some (.int (-2) t_TOO_BIG)))
    {t_MOST_PARTS : Tok} (v_MOST_PARTS : PySem.W.nsIn K mainGlobals "MOST_PARTS" = some (some (.int (4) t_MOST_PARTS)))
    {t_WRONG_COUNT : Tok} (v_WRONG_COUNT : PySem.W.nsIn K mainGlobals "WRONG_COUNT" = some (some (.int (-6) t_WRONG_COUNT)))
    {t_MOST_VALUES : Tok} (v_MOST_VALUES : PySem.W.nsIn K mainGlobals "MOST_VALUES" = some (some (.int (20) t_MOST_VALUES)))
    {t_NO_WAY_ON : Tok} (v_NO_WAY_ON : PySem.W.nsIn K mainGlobals "NO_WAY_ON" = some (some (.int (-5) t_NO_WAY_ON)))
    (z_len : PySem.W.nsIn K mainGlobals "len" = some none)
    (z_range : PySem.W.nsIn K mainGlobals "range" = some none)
    (z_max : PySem.W.nsIn K mainGlobals "max" = some none)
    (z_min : PySem.W.nsIn K mainGlobals "min" = some none)
    (z_abs : PySem.W.nsIn K mainGlobals "abs" = some none)
    (z_sum : PySem.W.nsIn K mainGlobals "sum" = some none)
    (z_any : PySem.W.nsIn K mainGlobals "any" = some none)
    (z_all : PySem.W.nsIn K mainGlobals "all" = some none)
    (z_enumerate : PySem.W.nsIn K mainGlobals "enumerate" = some none)
    (z_zip : PySem.W.nsIn K mainGlobals "zip" = some none)
    (z_reversed : PySem.W.nsIn K mainGlobals "reversed" = some none)
    (z_list : PySem.W.nsIn K mainGlobals "list" = some none)
    : ∃ fd : FuncData, (∀ (s : Shared) (us : List Value), us.length = (["kind", "n", "size", "texts"] : List Str).length → BindsTo s fd ⟨us, []⟩ ((["kind", "n", "size", "texts"] : List Str).zip us)) ∧ ∀ base : Heap, K.In base → base.Ns mainGlobals mg → FnOk P w K mg base CX0 7 fa fd ["kind", "n", "size", "texts"] (SpR K R_run) := by
  have e := hfa.symm.trans (PySem.W.mg_of X G a_run)
  cases e
  have T : Txt mg := ⟨PySem.W.mg_none_of X G z_len, PySem.W.mg_none_of X G z_range, PySem.W.mg_none_of X G z_max, PySem.W.mg_none_of X G z_min, PySem.W.mg_none_of X G z_abs, PySem.W.mg_none_of X G z_sum, PySem.W.mg_none_of X G z_any, PySem.W.mg_none_of X G z_all, PySem.W.mg_none_of X G z_enumerate, PySem.W.mg_none_of X G z_zip, PySem.W.mg_none_of X G z_reversed, PySem.W.mg_none_of X G z_list⟩
  have n_DIGIT_ZERO : Num mg "DIGIT_ZERO" (48) := ⟨_, PySem.W.mg_of X G v_DIGIT_ZERO⟩
  have n_SLASH : Num mg "SLASH" (47) := ⟨_, PySem.W.mg_of X G v_SLASH⟩
  have n_STAR : Num mg "STAR" (42) := ⟨_, PySem.W.mg_of X G v_STAR⟩
  have n_LETTER_X : Num mg "LETTER_X" (120) := ⟨_, PySem.W.mg_of X G v_LETTER_X⟩
  have n_CARET : Num mg "CARET" (94) := ⟨_, PySem.W.mg_of X G v_CARET⟩
  have n_BLANK : Num mg "BLANK" (32) := ⟨_, PySem.W.mg_of X G v_BLANK⟩
  have n_MINUS : Num mg "MINUS" (45) := ⟨_, PySem.W.mg_of X G v_MINUS⟩
  have n_PLUS : Num mg "PLUS" (43) := ⟨_, PySem.W.mg_of X G v_PLUS⟩
  have n_DIGIT_NINE : Num mg "DIGIT_NINE" (57) := ⟨_, PySem.W.mg_of X G v_DIGIT_NINE⟩
  have n_MOST_DEGREE : Num mg "MOST_DEGREE" (4) := ⟨_, PySem.W.mg_of X G v_MOST_DEGREE⟩
  have n_MOST_NUMBER : Num mg "MOST_NUMBER" (9999) := ⟨_, PySem.W.mg_of X G v_MOST_NUMBER⟩
  have n_NOT_SUCH_A_TEXT : Num mg "NOT_SUCH_A_TEXT" (-1) := ⟨_, PySem.W.mg_of X G v_NOT_SUCH_A_TEXT⟩
  have n_TOO_BIG : Num mg "TOO_BIG" (-2) := ⟨_, PySem.W.mg_of X G v_TOO_BIG⟩
  have n_MOST_PARTS : Num mg "MOST_PARTS" (4) := ⟨_, PySem.W.mg_of X G v_MOST_PARTS⟩
  have n_WRONG_COUNT : Num mg "WRONG_COUNT" (-6) := ⟨_, PySem.W.mg_of X G v_WRONG_COUNT⟩
  have n_MOST_VALUES : Num mg "MOST_VALUES" (20) := ⟨_, PySem.W.mg_of X G v_MOST_VALUES⟩
  have n_NO_WAY_ON : Num mg "NO_WAY_ON" (-5) := ⟨_, PySem.W.mg_of X G v_NO_WAY_ON⟩
  have F_greatest_divisor := fun_mk (st := s_greatest_divisor) l_greatest_divisor c_greatest_divisor k_greatest_divisor
  have F_write_whole := fun_mk (st := s_write_whole) l_write_whole c_write_whole k_write_whole
  have F_write_fraction := fun_mk (st := s_write_fraction) l_write_fraction c_write_fraction k_write_fraction
  have F_write_term := fun_mk (st := s_write_term) l_write_term c_write_term k_write_term
  have F_write_polynomial := fun_mk (st := s_write_polynomial) l_write_polynomial c_write_polynomial k_write_polynomial
  have F_lowest_term := fun_mk (st := s_lowest_term) l_lowest_term c_lowest_term k_lowest_term
  have F_read_whole := fun_mk (st := s_read_whole) l_read_whole c_read_whole k_read_whole
  have F_read_fraction := fun_mk (st := s_read_fraction) l_read_fraction c_read_fraction k_read_fraction
  have F_read_power := fun_mk (st := s_read_power) l_read_power c_read_power k_read_power
  have F_read_term := fun_mk (st := s_read_term) l_read_term c_read_term k_read_term
  have F_powers_fall := fun_mk (st := s_powers_fall) l_powers_fall c_powers_fall k_powers_fall
  have F_split_at_signs := fun_mk (st := s_split_at_signs) l_split_at_signs c_split_at_signs k_split_at_signs
  have F_read_polynomial := fun_mk (st := s_read_polynomial) l_read_polynomial c_read_polynomial k_read_polynomial
  have F_trimmed := fun_mk (st := s_trimmed) l_trimmed c_trimmed k_trimmed
  have F_number_at := fun_mk (st := s_number_at) l_number_at c_number_at k_number_at
  have F_plus := fun_mk (st := s_plus) l_plus c_plus k_plus
  have F_slope := fun_mk (st := s_slope) l_slope c_slope k_slope
  have F_times := fun_mk (st := s_times) l_times c_times k_times
  have F_stepped := fun_mk (st := s_stepped) l_stepped c_stepped k_stepped
  have F_left_side := fun_mk (st := s_left_side) l_left_side c_left_side k_left_side
  have F_terms_over := fun_mk (st := s_terms_over) l_terms_over c_terms_over k_terms_over
  have F_least_multiple := fun_mk (st := s_least_multiple) l_least_multiple c_least_multiple k_least_multiple
  have F_whole_numbers := fun_mk (st := s_whole_numbers) l_whole_numbers c_whole_numbers k_whole_numbers
  have F_common_bottom := fun_mk (st := s_common_bottom) l_common_bottom c_common_bottom k_common_bottom
  have F_too_big := fun_mk (st := s_too_big) l_too_big c_too_big k_too_big
  have F_texts_refusal := fun_mk (st := s_texts_refusal) l_texts_refusal c_texts_refusal k_texts_refusal
  have F_told := fun_mk (st := s_told) l_told c_told k_told
  have F_product_up_to := fun_mk (st := s_product_up_to) l_product_up_to c_product_up_to k_product_up_to
  have F_value_at := fun_mk (st := s_value_at) l_value_at c_value_at k_value_at
  have F_from_slopes := fun_mk (st := s_from_slopes) l_from_slopes c_from_slopes k_from_slopes
  have F_lead_at := fun_mk (st := s_lead_at) l_lead_at c_lead_at k_lead_at
  have F_known_at := fun_mk (st := s_known_at) l_known_at c_known_at k_known_at
  have F_can_go_on := fun_mk (st := s_can_go_on) l_can_go_on c_can_go_on k_can_go_on
  have F_gone_on := fun_mk (st := s_gone_on) l_gone_on c_gone_on k_gone_on
  have F_counts_fit := fun_mk (st := s_counts_fit) l_counts_fit c_counts_fit k_counts_fit
  have F_whole_equations := fun_mk (st := s_whole_equations) l_whole_equations c_whole_equations k_whole_equations
  have F_read_number := fun_mk (st := s_read_number) l_read_number c_read_number k_read_number
  have F_over_common_bottom := fun_mk (st := s_over_common_bottom) l_over_common_bottom c_over_common_bottom k_over_common_bottom
  have F_run := fun_mk (st := s_run) l_run c_run k_run
  refine ⟨PySem.W.fnOf "run" "run" (defArgs s_run) (defBody s_run) (defScope s_run) .none kV_run dc_run pm_run an_run cd_run ct_run, fun s us hu => match us, hu with | [_, _, _, _], _ => .of_eq rfl, fun base _ _ => ?_⟩
  have C_greatest_divisor : Cal P w K mg base 1 "greatest_divisor" ["first", "second"] R_greatest_divisor := ⟨_, _, ok_greatest_divisor T F_greatest_divisor, PySem.W.mg_of X G a_greatest_divisor, F_greatest_divisor.kp, F_greatest_divisor.binds (ps := ["first", "second"]) fun _ _ _ _ _ _ us hl => match us, hl with | [_, _], _ => rfl⟩
  have C_write_whole : Cal P w K mg base 1 "write_whole" ["number"] R_write_whole := ⟨_, _, ok_write_whole T n_DIGIT_ZERO F_write_whole, PySem.W.mg_of X G a_write_whole, F_write_whole.kp, F_write_whole.binds (ps := ["number"]) fun _ _ _ _ _ _ us hl => match us, hl with | [_], _ => rfl⟩
  have C_write_fraction : Cal P w K mg base 2 "write_fraction" ["top", "bottom"] R_write_fraction := ⟨_, _, ok_write_fraction T C_write_whole n_SLASH F_write_fraction, PySem.W.mg_of X G a_write_fraction, F_write_fraction.kp, F_write_fraction.binds (ps := ["top", "bottom"]) fun _ _ _ _ _ _ us hl => match us, hl with | [_, _], _ => rfl⟩
  have C_write_term : Cal P w K mg base 3 "write_term" ["power", "top", "bottom"] R_write_term := ⟨_, _, ok_write_term T C_write_fraction C_write_whole n_STAR n_LETTER_X n_CARET F_write_term, PySem.W.mg_of X G a_write_term, F_write_term.kp, F_write_term.binds (ps := ["power", "top", "bottom"]) fun _ _ _ _ _ _ us hl => match us, hl with | [_, _, _], _ => rfl⟩
  have C_write_polynomial : Cal P w K mg base 4 "write_polynomial" ["terms"] R_write_polynomial := ⟨_, _, ok_write_polynomial T C_write_term n_DIGIT_ZERO n_BLANK n_MINUS n_PLUS F_write_polynomial, PySem.W.mg_of X G a_write_polynomial, F_write_polynomial.kp, F_write_polynomial.binds (ps := ["terms"]) fun _ _ _ _ _ _ us hl => match us, hl with | [_], _ => rfl⟩
  have C_lowest_term : Cal P w K mg base 2 "lowest_term" ["term"] R_lowest_term := ⟨_, _, ok_lowest_term T C_greatest_divisor F_lowest_term, PySem.W.mg_of X G a_lowest_term, F_lowest_term.kp, F_lowest_term.binds (ps := ["term"]) fun _ _ _ _ _ _ us hl => match us, hl with | [_], _ => rfl⟩
  have C_read_whole : Cal P w K mg base 1 "read_whole" ["piece"] R_read_whole := ⟨_, _, ok_read_whole T n_DIGIT_NINE n_DIGIT_ZERO F_read_whole, PySem.W.mg_of X G a_read_whole, F_read_whole.kp, F_read_whole.binds (ps := ["piece"]) fun _ _ _ _ _ _ us hl => match us, hl with | [_], _ => rfl⟩
  have C_read_fraction : Cal P w K mg base 2 "read_fraction" ["piece"] R_read_fraction := ⟨_, _, ok_read_fraction T C_read_whole n_SLASH F_read_fraction, PySem.W.mg_of X G a_read_fraction, F_read_fraction.kp, F_read_fraction.binds (ps := ["piece"]) fun _ _ _ _ _ _ us hl => match us, hl with | [_], _ => rfl⟩
  have C_read_power : Cal P w K mg base 2 "read_power" ["piece"] R_read_power := ⟨_, _, ok_read_power T C_read_whole n_LETTER_X n_CARET F_read_power, PySem.W.mg_of X G a_read_power, F_read_power.kp, F_read_power.binds (ps := ["piece"]) fun _ _ _ _ _ _ us hl => match us, hl with | [_], _ => rfl⟩
  have C_read_term : Cal P w K mg base 3 "read_term" ["sign", "piece"] R_read_term := ⟨_, _, ok_read_term T C_read_fraction C_read_power n_STAR n_LETTER_X F_read_term, PySem.W.mg_of X G a_read_term, F_read_term.kp, F_read_term.binds (ps := ["sign", "piece"]) fun _ _ _ _ _ _ us hl => match us, hl with | [_, _], _ => rfl⟩
  have C_powers_fall : Cal P w K mg base 1 "powers_fall" ["terms"] R_powers_fall := ⟨_, _, ok_powers_fall T F_powers_fall, PySem.W.mg_of X G a_powers_fall, F_powers_fall.kp, F_powers_fall.binds (ps := ["terms"]) fun _ _ _ _ _ _ us hl => match us, hl with | [_], _ => rfl⟩
  have C_split_at_signs : Cal P w K mg base 1 "split_at_signs" ["text"] R_split_at_signs := ⟨_, _, ok_split_at_signs T n_MINUS n_PLUS n_BLANK F_split_at_signs, PySem.W.mg_of X G a_split_at_signs, F_split_at_signs.kp, F_split_at_signs.binds (ps := ["text"]) fun _ _ _ _ _ _ us hl => match us, hl with | [_], _ => rfl⟩
  have C_read_polynomial : Cal P w K mg base 5 "read_polynomial" ["text"] R_read_polynomial := ⟨_, _, ok_read_polynomial T C_split_at_signs C_read_term C_powers_fall C_lowest_term C_write_polynomial F_read_polynomial, PySem.W.mg_of X G a_read_polynomial, F_read_polynomial.kp, F_read_polynomial.binds (ps := ["text"]) fun _ _ _ _ _ _ us hl => match us, hl with | [_], _ => rfl⟩
  have C_trimmed : Cal P w K mg base 1 "trimmed" ["numbers"] R_trimmed := ⟨_, _, ok_trimmed T F_trimmed, PySem.W.mg_of X G a_trimmed, F_trimmed.kp, F_trimmed.binds (ps := ["numbers"]) fun _ _ _ _ _ _ us hl => match us, hl with | [_], _ => rfl⟩
  have C_number_at : Cal P w K mg base 1 "number_at" ["polynomial", "power"] R_number_at := ⟨_, _, ok_number_at T F_number_at, PySem.W.mg_of X G a_number_at, F_number_at.kp, F_number_at.binds (ps := ["polynomial", "power"]) fun _ _ _ _ _ _ us hl => match us, hl with | [_, _], _ => rfl⟩
  have C_plus : Cal P w K mg base 2 "plus" ["first", "second"] R_plus := ⟨_, _, ok_plus T C_trimmed C_number_at F_plus, PySem.W.mg_of X G a_plus, F_plus.kp, F_plus.binds (ps := ["first", "second"]) fun _ _ _ _ _ _ us hl => match us, hl with | [_, _], _ => rfl⟩
  have C_slope : Cal P w K mg base 1 "slope" ["polynomial"] R_slope := ⟨_, _, ok_slope T F_slope, PySem.W.mg_of X G a_slope, F_slope.kp, F_slope.binds (ps := ["polynomial"]) fun _ _ _ _ _ _ us hl => match us, hl with | [_], _ => rfl⟩
  have C_times : Cal P w K mg base 1 "times" ["first", "second"] R_times := ⟨_, _, ok_times T F_times, PySem.W.mg_of X G a_times, F_times.kp, F_times.binds (ps := ["first", "second"]) fun _ _ _ _ _ _ us hl => match us, hl with | [_, _], _ => rfl⟩
  have C_stepped : Cal P w K mg base 3 "stepped" ["polynomial"] R_stepped := ⟨_, _, ok_stepped T C_plus C_times F_stepped, PySem.W.mg_of X G a_stepped, F_stepped.kp, F_stepped.binds (ps := ["polynomial"]) fun _ _ _ _ _ _ us hl => match us, hl with | [_], _ => rfl⟩
  have C_left_side : Cal P w K mg base 4 "left_side" ["kind", "parts", "y"] R_left_side := ⟨_, _, ok_left_side T C_plus C_times C_slope C_stepped F_left_side, PySem.W.mg_of X G a_left_side, F_left_side.kp, F_left_side.binds (ps := ["kind", "parts", "y"]) fun _ _ _ _ _ _ us hl => match us, hl with | [_, _, _], _ => rfl⟩
  have C_terms_over : Cal P w K mg base 3 "terms_over" ["numbers", "bottom"] R_terms_over := ⟨_, _, ok_terms_over T C_lowest_term F_terms_over, PySem.W.mg_of X G a_terms_over, F_terms_over.kp, F_terms_over.binds (ps := ["numbers", "bottom"]) fun _ _ _ _ _ _ us hl => match us, hl with | [_, _], _ => rfl⟩
  have C_least_multiple : Cal P w K mg base 2 "least_multiple" ["first", "second"] R_least_multiple := ⟨_, _, ok_least_multiple T C_greatest_divisor F_least_multiple, PySem.W.mg_of X G a_least_multiple, F_least_multiple.kp, F_least_multiple.binds (ps := ["first", "second"]) fun _ _ _ _ _ _ us hl => match us, hl with | [_, _], _ => rfl⟩
  have C_whole_numbers : Cal P w K mg base 2 "whole_numbers" ["terms", "common"] R_whole_numbers := ⟨_, _, ok_whole_numbers T C_trimmed n_MOST_DEGREE F_whole_numbers, PySem.W.mg_of X G a_whole_numbers, F_whole_numbers.kp, F_whole_numbers.binds (ps := ["terms", "common"]) fun _ _ _ _ _ _ us hl => match us, hl with | [_, _], _ => rfl⟩
  have C_common_bottom : Cal P w K mg base 3 "common_bottom" ["polynomials"] R_common_bottom := ⟨_, _, ok_common_bottom T C_least_multiple F_common_bottom, PySem.W.mg_of X G a_common_bottom, F_common_bottom.kp, F_common_bottom.binds (ps := ["polynomials"]) fun _ _ _ _ _ _ us hl => match us, hl with | [_], _ => rfl⟩
  have C_too_big : Cal P w K mg base 1 "too_big" ["terms"] R_too_big := ⟨_, _, ok_too_big T n_MOST_NUMBER n_MOST_DEGREE F_too_big, PySem.W.mg_of X G a_too_big, F_too_big.kp, F_too_big.binds (ps := ["terms"]) fun _ _ _ _ _ _ us hl => match us, hl with | [_], _ => rfl⟩
  have C_texts_refusal : Cal P w K mg base 2 "texts_refusal" ["polynomials"] R_texts_refusal := ⟨_, _, ok_texts_refusal T C_too_big n_NOT_SUCH_A_TEXT n_TOO_BIG F_texts_refusal, PySem.W.mg_of X G a_texts_refusal, F_texts_refusal.kp, F_texts_refusal.binds (ps := ["polynomials"]) fun _ _ _ _ _ _ us hl => match us, hl with | [_], _ => rfl⟩
  have C_told : Cal P w K mg base 5 "told" ["number", "polynomials", "bottom"] R_told := ⟨_, _, ok_told T C_write_polynomial C_terms_over F_told, PySem.W.mg_of X G a_told, F_told.kp, F_told.binds (ps := ["number", "polynomials", "bottom"]) fun _ _ _ _ _ _ us hl => match us, hl with | [_, _, _], _ => rfl⟩
  have C_product_up_to : Cal P w K mg base 1 "product_up_to" ["count"] R_product_up_to := ⟨_, _, ok_product_up_to T F_product_up_to, PySem.W.mg_of X G a_product_up_to, F_product_up_to.kp, F_product_up_to.binds (ps := ["count"]) fun _ _ _ _ _ _ us hl => match us, hl with | [_], _ => rfl⟩
  have C_value_at : Cal P w K mg base 1 "value_at" ["polynomial", "place"] R_value_at := ⟨_, _, ok_value_at T F_value_at, PySem.W.mg_of X G a_value_at, F_value_at.kp, F_value_at.binds (ps := ["polynomial", "place"]) fun _ _ _ _ _ _ us hl => match us, hl with | [_, _], _ => rfl⟩
  have C_from_slopes : Cal P w K mg base 2 "from_slopes" ["tops", "bottom"] R_from_slopes := ⟨_, _, ok_from_slopes T C_product_up_to F_from_slopes, PySem.W.mg_of X G a_from_slopes, F_from_slopes.kp, F_from_slopes.binds (ps := ["tops", "bottom"]) fun _ _ _ _ _ _ us hl => match us, hl with | [_, _], _ => rfl⟩
  have C_lead_at : Cal P w K mg base 5 "lead_at" ["kind", "parts", "place"] R_lead_at := ⟨_, _, ok_lead_at T C_value_at C_number_at C_left_side F_lead_at, PySem.W.mg_of X G a_lead_at, F_lead_at.kp, F_lead_at.binds (ps := ["kind", "parts", "place"]) fun _ _ _ _ _ _ us hl => match us, hl with | [_, _, _], _ => rfl⟩
  have C_known_at : Cal P w K mg base 5 "known_at" ["kind", "parts", "tops", "place"] R_known_at := ⟨_, _, ok_known_at T C_value_at C_number_at C_left_side C_trimmed F_known_at, PySem.W.mg_of X G a_known_at, F_known_at.kp, F_known_at.binds (ps := ["kind", "parts", "tops", "place"]) fun _ _ _ _ _ _ us hl => match us, hl with | [_, _, _, _], _ => rfl⟩
  have C_can_go_on : Cal P w K mg base 2 "can_go_on" ["kind", "parts", "count"] R_can_go_on := ⟨_, _, ok_can_go_on T C_value_at F_can_go_on, PySem.W.mg_of X G a_can_go_on, F_can_go_on.kp, F_can_go_on.binds (ps := ["kind", "parts", "count"]) fun _ _ _ _ _ _ us hl => match us, hl with | [_, _, _], _ => rfl⟩
  have C_gone_on : Cal P w K mg base 6 "gone_on" ["kind", "parts", "right", "beginning", "count"] R_gone_on := ⟨_, _, ok_gone_on T C_from_slopes C_lead_at C_number_at C_value_at C_known_at F_gone_on, PySem.W.mg_of X G a_gone_on, F_gone_on.kp, F_gone_on.binds (ps := ["kind", "parts", "right", "beginning", "count"]) fun _ _ _ _ _ _ us hl => match us, hl with | [_, _, _, _, _], _ => rfl⟩
  have C_counts_fit : Cal P w K mg base 1 "counts_fit" ["kind", "sizes", "count"] R_counts_fit := ⟨_, _, ok_counts_fit T n_MOST_PARTS F_counts_fit, PySem.W.mg_of X G a_counts_fit, F_counts_fit.kp, F_counts_fit.binds (ps := ["kind", "sizes", "count"]) fun _ _ _ _ _ _ us hl => match us, hl with | [_, _, _], _ => rfl⟩
  have C_whole_equations : Cal P w K mg base 4 "whole_equations" ["sizes", "polynomials"] R_whole_equations := ⟨_, _, ok_whole_equations T C_common_bottom C_whole_numbers F_whole_equations, PySem.W.mg_of X G a_whole_equations, F_whole_equations.kp, F_whole_equations.binds (ps := ["sizes", "polynomials"]) fun _ _ _ _ _ _ us hl => match us, hl with | [_, _], _ => rfl⟩
  have C_read_number : Cal P w K mg base 6 "read_number" ["text"] R_read_number := ⟨_, _, ok_read_number T C_read_polynomial n_LETTER_X F_read_number, PySem.W.mg_of X G a_read_number, F_read_number.kp, F_read_number.binds (ps := ["text"]) fun _ _ _ _ _ _ us hl => match us, hl with | [_], _ => rfl⟩
  have C_over_common_bottom : Cal P w K mg base 4 "over_common_bottom" ["numbers"] R_over_common_bottom := ⟨_, _, ok_over_common_bottom T C_common_bottom C_number_at C_whole_numbers F_over_common_bottom, PySem.W.mg_of X G a_over_common_bottom, F_over_common_bottom.kp, F_over_common_bottom.binds (ps := ["numbers"]) fun _ _ _ _ _ _ us hl => match us, hl with | [_], _ => rfl⟩
  exact ok_run T C_counts_fit C_read_polynomial C_read_number C_texts_refusal C_whole_equations C_can_go_on C_gone_on C_over_common_bottom C_told n_WRONG_COUNT n_MOST_VALUES n_TOO_BIG n_NO_WAY_ON F_run
end Pg
open PySem PySem.W PyProof.Rows
set_option maxRecDepth 100000 in
set_option maxHeartbeats 8000000 in
theorem PySem.Challenge.cw_slopesteps_s03_run_holds : PySem.Challenge.rw_slopesteps_s03_run.Holds := by
  w_on; k_headS; (case hw => exact ⟨[.int 0, .int 0, .int 0, .list []], by decide +kernel, by decide +kernel⟩)
  k_fillS
  refine L2.walk_specK (r := PySem.Challenge.rw_slopesteps_s03_run) (k := 7) (CX := L2.CX0) (ps := ["kind", "n", "size", "texts"]) (sp := fun K => Fw.SpR K Pg.R_run) (by decide +kernel) rfl rfl ⟨rfl, by decide, by decide⟩ (fun w h Y => PySem.W.kIn_of Y) ?F ?S (fun _ _ _ _ z => z)
  case F =>
    intro w mg fa h Y KX G hmg
    refine' Pg.all_mk KX G hmg ?a_greatest_divisor ?l_greatest_divisor ?c_greatest_divisor ?k_greatest_divisor ?a_write_whole ?l_write_whole ?c_write_whole ?k_write_whole ?a_write_fraction ?l_write_fraction ?c_write_fraction ?k_write_fraction ?a_write_term ?l_write_term ?c_write_term ?k_write_term ?a_write_polynomial ?l_write_polynomial ?c_write_polynomial ?k_write_polynomial ?a_lowest_term ?l_lowest_term ?c_lowest_term ?k_lowest_term ?a_read_whole ?l_read_whole ?c_read_whole ?k_read_whole ?a_read_fraction ?l_read_fraction ?c_read_fraction ?k_read_fraction ?a_read_power ?l_read_power ?c_read_power ?k_read_power ?a_read_term ?l_read_term ?c_read_term ?k_read_term ?a_powers_fall ?l_powers_fall ?c_powers_fall ?k_powers_fall ?a_split_at_signs ?l_split_at_signs ?c_split_at_signs ?k_split_at_signs ?a_read_polynomial ?l_read_polynomial ?c_read_polynomial ?k_read_polynomial ?a_trimmed ?l_trimmed ?c_trimmed ?k_trimmed ?a_number_at ?l_number_at ?c_number_at ?k_number_at ?a_plus ?l_plus ?c_plus ?k_plus ?a_slope ?l_slope ?c_slope ?k_slope ?a_times ?l_times ?c_times ?k_times ?a_stepped ?l_stepped ?c_stepped ?k_stepped ?a_left_side ?l_left_side ?c_left_side ?k_left_side ?a_terms_over ?l_terms_over ?c_terms_over ?k_terms_over ?a_least_multiple ?l_least_multiple ?c_least_multiple ?k_least_multiple ?a_whole_numbers ?l_whole_numbers ?c_whole_numbers ?k_whole_numbers ?a_common_bottom ?l_common_bottom ?c_common_bottom ?k_common_bottom ?a_too_big ?l_too_big ?c_too_big ?k_too_big ?a_texts_refusal ?l_texts_refusal ?c_texts_refusal ?k_texts_refusal ?a_told ?l_told ?c_told ?k_told ?a_product_up_to ?l_product_up_to ?c_product_up_to ?k_product_up_to ?a_value_at ?l_value_at ?c_value_at ?k_value_at ?a_from_slopes ?l_from_slopes ?c_from_slopes ?k_from_slopes ?a_lead_at ?l_lead_at ?c_lead_at ?k_lead_at ?a_known_at ?l_known_at ?c_known_at ?k_known_at ?a_can_go_on ?l_can_go_on ?c_can_go_on ?k_can_go_on ?a_gone_on ?l_gone_on ?c_gone_on ?k_gone_on ?a_counts_fit ?l_counts_fit ?c_counts_fit ?k_counts_fit ?a_whole_equations ?l_whole_equations ?c_whole_equations ?k_whole_equations ?a_read_number ?l_read_number ?c_read_number ?k_read_number ?a_over_common_bottom ?l_over_common_bottom ?c_over_common_bottom ?k_over_common_bottom ?a_run ?l_run ?c_run ?k_run ?v_DIGIT_ZERO ?v_SLASH ?v_STAR ?v_LETTER_X ?v_CARET ?v_BLANK ?v_MINUS ?v_PLUS ?v_DIGIT_NINE ?v_MOST_DEGREE ?v_MOST_NUMBER ?v_NOT_SUCH_A_TEXT ?v_TOO_BIG ?v_MOST_PARTS ?v_WRONG_COUNT ?v_MOST_VALUES ?v_NO_WAY_ON ?z_len ?z_range ?z_max ?z_min ?z_abs ?z_sum ?z_any ?z_all ?z_enumerate ?z_zip ?z_reversed ?z_list
    (case a_greatest_divisor => k_is)
    (case l_greatest_divisor => k_is)
    (case c_greatest_divisor => k_is)
    (case k_greatest_divisor => k_is)
    (case a_write_whole => k_is)
    (case l_write_whole => k_is)
    (case c_write_whole => k_is)
    (case k_write_whole => k_is)
    (case a_write_fraction => k_is)
    (case l_write_fraction => k_is)
    (case c_write_fraction => k_is)
    (case k_write_fraction => k_is)
    (case a_write_term => k_is)
    (case l_write_term => k_is)
    (case c_write_term => k_is)
    (case k_write_term => k_is)
    (case a_write_polynomial => k_is)
    (case l_write_polynomial => k_is)
    (case c_write_polynomial => k_is)
    (case k_write_polynomial => k_is)
    (case a_lowest_term => k_is)
    (case l_lowest_term => k_is)
    (case c_lowest_term => k_is)
    (case k_lowest_term => k_is)
    (case a_read_whole => k_is)
    (case l_read_whole => k_is)
    (case c_read_whole => k_is)
    (case k_read_whole => k_is)
    (case a_read_fraction => k_is)
    (case l_read_fraction => k_is)
    (case c_read_fraction => k_is)
    (case k_read_fraction => k_is)
    (case a_read_power => k_is)
    (case l_read_power => k_is)
    (case c_read_power => k_is)
    (case k_read_power => k_is)
    (case a_read_term => k_is)
    (case l_read_term => k_is)
    (case c_read_term => k_is)
    (case k_read_term => k_is)
    (case a_powers_fall => k_is)
    (case l_powers_fall => k_is)
    (case c_powers_fall => k_is)
    (case k_powers_fall => k_is)
    (case a_split_at_signs => k_is)
    (case l_split_at_signs => k_is)
    (case c_split_at_signs => k_is)
    (case k_split_at_signs => k_is)
    (case a_read_polynomial => k_is)
    (case l_read_polynomial => k_is)
    (case c_read_polynomial => k_is)
    (case k_read_polynomial => k_is)
    (case a_trimmed => k_is)
    (case l_trimmed => k_is)
    (case c_trimmed => k_is)
    (case k_trimmed => k_is)
    (case a_number_at => k_is)
    (case l_number_at => k_is)
    (case c_number_at => k_is)
    (case k_number_at => k_is)
    (case a_plus => k_is)
    (case l_plus => k_is)
    (case c_plus => k_is)
    (case k_plus => k_is)
    (case a_slope => k_is)
    (case l_slope => k_is)
    (case c_slope => k_is)
    (case k_slope => k_is)
    (case a_times => k_is)
    (case l_times => k_is)
    (case c_times => k_is)
    (case k_times => k_is)
    (case a_stepped => k_is)
    (case l_stepped => k_is)
    (case c_stepped => k_is)
    (case k_stepped => k_is)
    (case a_left_side => k_is)
    (case l_left_side => k_is)
    (case c_left_side => k_is)
    (case k_left_side => k_is)
    (case a_terms_over => k_is)
    (case l_terms_over => k_is)
    (case c_terms_over => k_is)
    (case k_terms_over => k_is)
    (case a_least_multiple => k_is)
    (case l_least_multiple => k_is)
    (case c_least_multiple => k_is)
    (case k_least_multiple => k_is)
    (case a_whole_numbers => k_is)
    (case l_whole_numbers => k_is)
    (case c_whole_numbers => k_is)
    (case k_whole_numbers => k_is)
    (case a_common_bottom => k_is)
    (case l_common_bottom => k_is)
    (case c_common_bottom => k_is)
    (case k_common_bottom => k_is)
    (case a_too_big => k_is)
    (case l_too_big => k_is)
    (case c_too_big => k_is)
    (case k_too_big => k_is)
    (case a_texts_refusal => k_is)
    (case l_texts_refusal => k_is)
    (case c_texts_refusal => k_is)
    (case k_texts_refusal => k_is)
    (case a_told => k_is)
    (case l_told => k_is)
    (case c_told => k_is)
    (case k_told => k_is)
    (case a_product_up_to => k_is)
    (case l_product_up_to => k_is)
    (case c_product_up_to => k_is)
    (case k_product_up_to => k_is)
    (case a_value_at => k_is)
    (case l_value_at => k_is)
    (case c_value_at => k_is)
    (case k_value_at => k_is)
    (case a_from_slopes => k_is)
    (case l_from_slopes => k_is)
    (case c_from_slopes => k_is)
    (case k_from_slopes => k_is)
    (case a_lead_at => k_is)
    (case l_lead_at => k_is)
    (case c_lead_at => k_is)
    (case k_lead_at => k_is)
    (case a_known_at => k_is)
    (case l_known_at => k_is)
    (case c_known_at => k_is)
    (case k_known_at => k_is)
    (case a_can_go_on => k_is)
    (case l_can_go_on => k_is)
    (case c_can_go_on => k_is)
    (case k_can_go_on => k_is)
    (case a_gone_on => k_is)
    (case l_gone_on => k_is)
    (case c_gone_on => k_is)
    (case k_gone_on => k_is)
    (case a_counts_fit => k_is)
    (case l_counts_fit => k_is)
    (case c_counts_fit => k_is)
    (case k_counts_fit => k_is)
    (case a_whole_equations => k_is)
    (case l_whole_equations => k_is)
    (case c_whole_equations => k_is)
    (case k_whole_equations => k_is)
    (case a_read_number => k_is)
    (case l_read_number => k_is)
    (case c_read_number => k_is)
    (case k_read_number => k_is)
    (case a_over_common_bottom => k_is)
    (case l_over_common_bottom => k_is)
    (case c_over_common_bottom => k_is)
    (case k_over_common_bottom => k_is)
    (case a_run => k_is)
    (case l_run => k_is)
    (case c_run => k_is)
    (case k_run => k_is)
    (case v_DIGIT_ZERO => k_is)
    (case v_SLASH => k_is)
    (case v_STAR => k_is)
    (case v_LETTER_X => k_is)
    (case v_CARET => k_is)
    (case v_BLANK => k_is)
    (case v_MINUS => k_is)
    (case v_PLUS => k_is)
    (case v_DIGIT_NINE => k_is)
    (case v_MOST_DEGREE => k_is)
    (case v_MOST_NUMBER => k_is)
    (case v_NOT_SUCH_A_TEXT => k_is)
    (case v_TOO_BIG => k_is)
    (case v_MOST_PARTS => k_is)
    (case v_WRONG_COUNT => k_is)
    (case v_MOST_VALUES => k_is)
    (case v_NO_WAY_ON => k_is)
    (case z_len => k_is)
    (case z_range => k_is)
    (case z_max => k_is)
    (case z_min => k_is)
    (case z_abs => k_is)
    (case z_sum => k_is)
    (case z_any => k_is)
    (case z_all => k_is)
    (case z_enumerate => k_is)
    (case z_zip => k_is)
    (case z_reversed => k_is)
    (case z_list => k_is)
  case S =>
    exact fun K H xs a _ hw _ hx => Pg.spec_run K H xs a hw hx
