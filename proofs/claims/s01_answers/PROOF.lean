import PyProof.Rows.All
import Wide.All
import OpenK.AllK
import Wide.FinOn
import Open.SpecLaws
import KE.OsGo
import HandS.ForSpec
import HandS.ForMost
import HandS.Walk
import HandS.Evl
import HandS.Zip
import HandS.Wide
import HandS.SetFor
import HandS.Defaults
import PySem.Challenge.RW_laidcoins_s01_answers
set_option Elab.async false
section
namespace Fr
open Sr58
structure Norm (f : Frac) : Prop where
  pos : 0 < f.d
  cop : Nat.gcd f.n.natAbs f.d = 1
theorem frac_pos (n : Int) {d : Nat} (h : 0 < d) : frac n d = ⟨n / ((Nat.gcd n.natAbs d : Nat) : Int), d / Nat.gcd n.natAbs d⟩ := by
  have g0 : 0 < Nat.gcd n.natAbs d := Nat.gcd_pos_of_pos_right _ h
  have g1 : Nat.gcd n.natAbs d ≤ d := Nat.le_of_dvd h (Nat.gcd_dvd_right _ _)
  have q : 0 < d / Nat.gcd n.natAbs d := Nat.div_pos g1 g0
  simp only [frac]
  rw [if_neg (by omega), if_neg (by omega)]
theorem frac_d_mul (n : Int) {d : Nat} (h : 0 < d) : (frac n d).d * Nat.gcd n.natAbs d = d := by
  rw [frac_pos n h]
  exact Nat.div_mul_cancel (Nat.gcd_dvd_right _ _)
theorem frac_n_mul (n : Int) {d : Nat} (h : 0 < d) : (frac n d).n * ((Nat.gcd n.natAbs d : Nat) : Int) = n := by
  rw [frac_pos n h]
  exact Int.ediv_mul_cancel (Int.ofNat_dvd_left.mpr (Nat.gcd_dvd_left _ _))
theorem frac_cross (n : Int) {d : Nat} (h : 0 < d) : (frac n d).n * (d : Int) = n * ((frac n d).d : Int) := by
  have e1 := frac_n_mul n h
  have e2 := frac_d_mul n h
  have e3 : ((frac n d).d : Int) * ((Nat.gcd n.natAbs d : Nat) : Int) = (d : Int) := by
    rw [← Int.natCast_mul, e2]
  calc (frac n d).n * (d : Int) = (frac n d).n * (((frac n d).d : Int) * ((Nat.gcd n.natAbs d : Nat) : Int)) := by rw [e3]
    _ = ((frac n d).n * ((Nat.gcd n.natAbs d : Nat) : Int)) * ((frac n d).d : Int) := by
      rw [Int.mul_assoc, Int.mul_comm ((Nat.gcd n.natAbs d : Nat) : Int)]
    _ = n * ((frac n d).d : Int) := by rw [e1]
theorem frac_norm (n : Int) {d : Nat} (h : 0 < d) : Norm (frac n d) := by
  have g0 : 0 < Nat.gcd n.natAbs d := Nat.gcd_pos_of_pos_right _ h
  have e1 := frac_n_mul n h
  have e2 := frac_d_mul n h
  refine ⟨?_, ?_⟩
  · rcases Nat.eq_zero_or_pos (frac n d).d with z | z
    · rw [z, Nat.zero_mul] at e2
      omega
    · exact z
  · have e3 : (frac n d).n.natAbs * Nat.gcd n.natAbs d = n.natAbs := by
      have := congrArg Int.natAbs e1
      rw [Int.natAbs_mul, Int.natAbs_natCast] at this
      exact this
    have e4 : Nat.gcd ((frac n d).n.natAbs * Nat.gcd n.natAbs d) ((frac n d).d * Nat.gcd n.natAbs d) = Nat.gcd n.natAbs d := by
      rw [e3, e2]
    rw [Nat.gcd_mul_right] at e4
    exact Nat.eq_of_mul_eq_mul_right g0 (by rw [e4, Nat.one_mul])
theorem norm_ext {f g : Frac} (hf : Norm f) (hg : Norm g) (h : f.n * (g.d : Int) = g.n * (f.d : Int)) : f = g := by
  have a : f.n.natAbs * g.d = g.n.natAbs * f.d := by
    have := congrArg Int.natAbs h
    rw [Int.natAbs_mul, Int.natAbs_mul, Int.natAbs_natCast, Int.natAbs_natCast] at this
    exact this
  have d1 : f.d ∣ g.d := by
    have c : Nat.Coprime f.d f.n.natAbs := (Nat.gcd_comm _ _).trans hf.cop
    exact c.dvd_of_dvd_mul_left ⟨g.n.natAbs, by rw [a, Nat.mul_comm]⟩
  have d2 : g.d ∣ f.d := by
    have c : Nat.Coprime g.d g.n.natAbs := (Nat.gcd_comm _ _).trans hg.cop
    exact c.dvd_of_dvd_mul_left ⟨f.n.natAbs, by rw [← a, Nat.mul_comm]⟩
  have e : f.d = g.d := Nat.dvd_antisymm d1 d2
  have en : f.n = g.n := by
    rw [e] at h
    have z : (g.d : Int) ≠ 0 := by
      have := hg.pos
      omega
    exact Int.eq_of_mul_eq_mul_right z h
  cases f
  cases g
  simp only at e en
  rw [e, en]
theorem frac_eq {n m : Int} {d e : Nat} (hd : 0 < d) (he : 0 < e) (h : n * (e : Int) = m * (d : Int)) : frac n d = frac m e := by
  have c1 := frac_cross n hd
  have c2 := frac_cross m he
  refine norm_ext (frac_norm n hd) (frac_norm m he) ?_
  generalize frac n d = f at *
  generalize frac m e = g at *
  have z : ((d : Int) * (e : Int)) ≠ 0 := Int.mul_ne_zero (by omega) (by omega)
  apply Int.eq_of_mul_eq_mul_right z
  calc f.n * (g.d : Int) * ((d : Int) * (e : Int)) = (f.n * (d : Int)) * ((g.d : Int) * (e : Int)) := by ac_rfl
    _ = (n * (f.d : Int)) * ((g.d : Int) * (e : Int)) := by rw [c1]
    _ = (n * (e : Int)) * ((f.d : Int) * (g.d : Int)) := by ac_rfl
    _ = (m * (d : Int)) * ((f.d : Int) * (g.d : Int)) := by rw [h]
    _ = (m * (g.d : Int)) * ((f.d : Int) * (d : Int)) := by ac_rfl
    _ = (g.n * (e : Int)) * ((f.d : Int) * (d : Int)) := by rw [c2]
    _ = g.n * (f.d : Int) * ((d : Int) * (e : Int)) := by ac_rfl
theorem frac_scale (n : Int) {d k : Nat} (hd : 0 < d) (hk : 0 < k) : frac (n * (k : Int)) (d * k) = frac n d :=
  frac_eq (Nat.mul_pos hd hk) hd (by rw [Int.natCast_mul]; ac_rfl)
theorem frac_self {f : Frac} (h : Norm f) : frac f.n f.d = f := norm_ext (frac_norm _ h.pos) h (frac_cross _ h.pos)
theorem norm_whole (n : Int) : Norm (whole n) := ⟨Nat.one_pos, Nat.gcd_one_right _⟩
theorem whole_eq (n : Int) : whole n = frac n 1 := (frac_self (norm_whole n)).symm
theorem whole_zero {d : Nat} (h : 0 < d) : whole 0 = frac 0 d := by
  rw [whole_eq]
  exact frac_eq Nat.one_pos h (by rw [Int.zero_mul, Int.zero_mul])
theorem whole_one {d : Nat} (h : 0 < d) : whole 1 = frac (d : Int) d := by
  rw [whole_eq]
  exact frac_eq Nat.one_pos h (by simp)
theorem plus_frac (a b : Int) {d e : Nat} (hd : 0 < d) (he : 0 < e) : plus (frac a d) (frac b e) = frac (a * (e : Int) + b * (d : Int)) (d * e) := by
  have c1 := frac_cross a hd
  have c2 := frac_cross b he
  have p1 := (frac_norm a hd).pos
  have p2 := (frac_norm b he).pos
  generalize frac a d = f at *
  generalize frac b e = g at *
  refine frac_eq (Nat.mul_pos p1 p2) (Nat.mul_pos hd he) ?_
  rw [Int.natCast_mul, Int.natCast_mul, Int.add_mul, Int.add_mul]
  have x1 : f.n * (g.d : Int) * ((d : Int) * (e : Int)) = a * (e : Int) * ((f.d : Int) * (g.d : Int)) := by
    calc f.n * (g.d : Int) * ((d : Int) * (e : Int)) = (f.n * (d : Int)) * ((g.d : Int) * (e : Int)) := by ac_rfl
      _ = (a * (f.d : Int)) * ((g.d : Int) * (e : Int)) := by rw [c1]
      _ = _ := by ac_rfl
  have x2 : g.n * (f.d : Int) * ((d : Int) * (e : Int)) = b * (d : Int) * ((f.d : Int) * (g.d : Int)) := by
    calc g.n * (f.d : Int) * ((d : Int) * (e : Int)) = (g.n * (e : Int)) * ((f.d : Int) * (d : Int)) := by ac_rfl
      _ = (b * (g.d : Int)) * ((f.d : Int) * (d : Int)) := by rw [c2]
      _ = _ := by ac_rfl
  rw [x1, x2]
theorem plus_same (a b : Int) {d : Nat} (hd : 0 < d) : plus (frac a d) (frac b d) = frac (a + b) d := by
  rw [plus_frac a b hd hd, ← Int.add_mul]
  exact frac_scale _ hd hd
theorem times_frac (a b : Int) {d e : Nat} (hd : 0 < d) (he : 0 < e) : times (frac a d) (frac b e) = frac (a * b) (d * e) := by
  have c1 := frac_cross a hd
  have c2 := frac_cross b he
  have p1 := (frac_norm a hd).pos
  have p2 := (frac_norm b he).pos
  generalize frac a d = f at *
  generalize frac b e = g at *
  refine frac_eq (Nat.mul_pos p1 p2) (Nat.mul_pos hd he) ?_
  rw [Int.natCast_mul, Int.natCast_mul]
  calc f.n * g.n * ((d : Int) * (e : Int)) = (f.n * (d : Int)) * (g.n * (e : Int)) := by ac_rfl
    _ = (a * (f.d : Int)) * (b * (g.d : Int)) := by rw [c1, c2]
    _ = a * b * ((f.d : Int) * (g.d : Int)) := by ac_rfl
theorem times_whole (w b : Int) {d : Nat} (hd : 0 < d) : times (whole w) (frac b d) = frac (w * b) d := by
  rw [whole_eq, times_frac w b Nat.one_pos hd, Nat.one_mul]
theorem less_same (a b : Int) {d : Nat} (hd : 0 < d) : less (frac a d) (frac b d) = decide (a < b) := by
  have c1 := frac_cross a hd
  have c2 := frac_cross b hd
  have p1 := (frac_norm a hd).pos
  have p2 := (frac_norm b hd).pos
  unfold less
  generalize frac a d = f at *
  generalize frac b d = g at *
  have d0 : (0 : Int) < (d : Int) := by omega
  have fg : (0 : Int) < (f.d : Int) * (g.d : Int) := Int.mul_pos (by omega) (by omega)
  refine decide_eq_decide.mpr ?_
  have x1 : f.n * (g.d : Int) * (d : Int) = a * ((f.d : Int) * (g.d : Int)) := by
    calc f.n * (g.d : Int) * (d : Int) = (f.n * (d : Int)) * (g.d : Int) := by ac_rfl
      _ = (a * (f.d : Int)) * (g.d : Int) := by rw [c1]
      _ = _ := by ac_rfl
  have x2 : g.n * (f.d : Int) * (d : Int) = b * ((f.d : Int) * (g.d : Int)) := by
    calc g.n * (f.d : Int) * (d : Int) = (g.n * (d : Int)) * (f.d : Int) := by ac_rfl
      _ = (b * (g.d : Int)) * (f.d : Int) := by rw [c2]
      _ = _ := by ac_rfl
  constructor
  · intro h
    have h1 := Int.mul_lt_mul_of_pos_right h d0
    rw [x1, x2] at h1
    exact Int.lt_of_mul_lt_mul_right h1 (Int.le_of_lt fg)
  · intro h
    have h1 := Int.mul_lt_mul_of_pos_right h fg
    rw [← x1, ← x2] at h1
    exact Int.lt_of_mul_lt_mul_right h1 (Int.le_of_lt d0)
theorem neg_frac (a : Int) {d : Nat} (hd : 0 < d) : frac (-(frac a d).n) (frac a d).d = frac (-a) d := by
  have c1 := frac_cross a hd
  have p1 := (frac_norm a hd).pos
  refine frac_eq p1 hd ?_
  rw [Int.neg_mul, Int.neg_mul, c1]
theorem compl_frac (a : Int) {d : Nat} (hd : 0 < d) : frac (((frac a d).d : Int) - (frac a d).n) (frac a d).d = frac ((d : Int) - a) d := by
  have c1 := frac_cross a hd
  have p1 := (frac_norm a hd).pos
  refine frac_eq p1 hd ?_
  rw [Int.sub_mul, Int.sub_mul, c1]
  congr 1
  exact Int.mul_comm _ _
theorem total_frac {d : Nat} (hd : 0 < d) : ∀ (l : List Int) (a : Int), (l.map (fun x => frac x d)).foldl plus (frac a d) = frac (l.foldl (· + ·) a) d
  | [], _ => rfl
  | x :: l, a => by
    simp only [List.map_cons, List.foldl_cons]
    rw [plus_same a x hd]
    exact total_frac hd l (a + x)
theorem total_eq {d : Nat} (hd : 0 < d) (l : List Int) : total (l.map fun x => frac x d) = frac (l.foldl (· + ·) 0) d := by
  unfold total
  rw [whole_zero hd]
  exact total_frac hd l 0
end Fr
end
section
set_option linter.unusedVariables false
namespace Mn
open Sr58 Fr
abbrev P2 := Int × Int
/-- of a coin's parts those that fit the row -/
def fit (k : Nat) (p : P2) (row : List Int) : Int := (if 2 * (k : Int) + 1 ∈ row then 0 else p.1) + (if 2 * (k : Int) ∈ row then 0 else p.2)
def allParts : Nat → List P2 → List Int → Int
  | _, [], _ => 1
  | k, p :: ps, row => fit k p row * allParts (k + 1) ps row
def tot (p : P2) : Nat := (p.1 + p.2).toNat
def wholeParts : List P2 → Nat
  | [] => 1
  | p :: ps => tot p * wholeParts ps
def up (l : List Nat) : List Int := l.map fun (x : Nat) => (x : Int)
theorem mem_up {l : List Nat} {x : Nat} : (x : Int) ∈ up l ↔ x ∈ l := by
  unfold up
  rw [List.mem_map]
  constructor
  · rintro ⟨y, hy, e⟩
    have : y = x := by omega
    exact this ▸ hy
  · intro h
    exact ⟨x, h, rfl⟩
structure Parts (d : Desk) (ps : List P2) : Prop where
  pos : ∀ p ∈ ps, 0 ≤ p.1 ∧ 0 ≤ p.2 ∧ 0 < p.1 + p.2
  lo : ∀ (i : Nat) (p : P2), ps[i]? = some p → likely d (2 * i) = frac p.1 (tot p)
  hi : ∀ (i : Nat) (p : P2), ps[i]? = some p → likely d (2 * i + 1) = frac p.2 (tot p)
theorem tot_pos {p : P2} (h : 0 < p.1 + p.2) : 0 < tot p := by
  unfold tot
  omega
theorem tot_cast {p : P2} (h : 0 < p.1 + p.2) : (tot p : Int) = p.1 + p.2 := by
  unfold tot
  omega
theorem wholeParts_pos : ∀ {ps : List P2}, (∀ p ∈ ps, 0 < p.1 + p.2) → 0 < wholeParts ps
  | [], _ => Nat.one_pos
  | p :: ps, h => Nat.mul_pos (tot_pos (h p (List.mem_cons_self ..))) (wholeParts_pos fun q hq => h q (List.mem_cons_of_mem _ hq))
/-! ### all -/
/-- what a told number's own part is -/
def own (ps : List P2) (x : Nat) : Int := if x % 2 = 1 then (ps.getD (x / 2) (0, 0)).2 else (ps.getD (x / 2) (0, 0)).1
theorem fit_low {k : Nat} {p : P2} {x : Nat} {l : List Nat} (h : x / 2 < k) : fit k p (up (x :: l)) = fit k p (up l) := by
  unfold fit
  have e1 : (2 * (k : Int) + 1 ∈ up (x :: l)) ↔ (2 * (k : Int) + 1 ∈ up l) := by
    have a := mem_up (l := x :: l) (x := 2 * k + 1)
    have b := mem_up (l := l) (x := 2 * k + 1)
    have c : 2 * k + 1 ∈ x :: l ↔ 2 * k + 1 ∈ l := by
      rw [List.mem_cons]
      constructor
      · rintro (e | e)
        · omega
        · exact e
      · exact Or.inr
    push_cast at a b
    rw [a, b, c]
  have e2 : (2 * (k : Int) ∈ up (x :: l)) ↔ (2 * (k : Int) ∈ up l) := by
    have a := mem_up (l := x :: l) (x := 2 * k)
    have b := mem_up (l := l) (x := 2 * k)
    have c : 2 * k ∈ x :: l ↔ 2 * k ∈ l := by
      rw [List.mem_cons]
      constructor
      · rintro (e | e)
        · omega
        · exact e
      · exact Or.inr
    push_cast at a b
    rw [a, b, c]
  simp only [e1, e2]
theorem fit_ne {k : Nat} {p : P2} {x : Nat} {l : List Nat} (h : x / 2 ≠ k) : fit k p (up (x :: l)) = fit k p (up l) := by
  unfold fit
  have e1 : (2 * (k : Int) + 1 ∈ up (x :: l)) ↔ (2 * (k : Int) + 1 ∈ up l) := by
    have a := mem_up (l := x :: l) (x := 2 * k + 1)
    have b := mem_up (l := l) (x := 2 * k + 1)
    have c : 2 * k + 1 ∈ x :: l ↔ 2 * k + 1 ∈ l := by
      rw [List.mem_cons]
      constructor
      · rintro (e | e)
        · omega
        · exact e
      · exact Or.inr
    push_cast at a b
    rw [a, b, c]
  have e2 : (2 * (k : Int) ∈ up (x :: l)) ↔ (2 * (k : Int) ∈ up l) := by
    have a := mem_up (l := x :: l) (x := 2 * k)
    have b := mem_up (l := l) (x := 2 * k)
    have c : 2 * k ∈ x :: l ↔ 2 * k ∈ l := by
      rw [List.mem_cons]
      constructor
      · rintro (e | e)
        · omega
        · exact e
      · exact Or.inr
    push_cast at a b
    rw [a, b, c]
  simp only [e1, e2]
theorem allParts_low : ∀ {ps : List P2} {k : Nat} {x : Nat} {l : List Nat}, x / 2 < k → allParts k ps (up (x :: l)) = allParts k ps (up l)
  | [], _, _, _, _ => rfl
  | p :: ps, k, x, l, h => by
    unfold allParts
    rw [fit_low h, allParts_low (by omega)]
/-- one told number more, whose coin isn't told yet -/
theorem allParts_more : ∀ {ps : List P2} {k : Nat} {x : Nat} {l : List Nat}, (∀ p ∈ ps, 0 < p.1 + p.2) → k ≤ x / 2 → x / 2 < k + ps.length → x ∉ l → opposite x ∉ l →
    allParts k ps (up (x :: l)) * (tot (ps.getD (x / 2 - k) (0, 0)) : Int) = allParts k ps (up l) * (if x % 2 = 1 then (ps.getD (x / 2 - k) (0, 0)).2 else (ps.getD (x / 2 - k) (0, 0)).1)
  | [], k, x, l, _, h1, h2, _, _ => by
    simp at h2
    omega
  | p :: ps, k, x, l, hp, h1, h2, hx, ho => by
    have p0 := hp p (List.mem_cons_self ..)
    by_cases e : x / 2 = k
    · have e0 : x / 2 - k = 0 := by omega
      unfold allParts
      rw [allParts_low (by omega), e0, List.getD_cons_zero]
      have F0 : fit k p (up l) = (tot p : Int) := by
        rw [tot_cast p0]
        unfold fit
        have a := mem_up (l := l) (x := 2 * k + 1)
        have b := mem_up (l := l) (x := 2 * k)
        push_cast at a b
        have n1 : 2 * k + 1 ∉ l := by
          intro q
          rcases Nat.mod_two_eq_zero_or_one x with z | z
          · apply ho
            unfold opposite
            rw [if_pos z]
            have : x + 1 = 2 * k + 1 := by omega
            rw [this]
            exact q
          · apply hx
            have : x = 2 * k + 1 := by omega
            rw [this]
            exact q
        have n2 : 2 * k ∉ l := by
          intro q
          rcases Nat.mod_two_eq_zero_or_one x with z | z
          · apply hx
            have : x = 2 * k := by omega
            rw [this]
            exact q
          · apply ho
            unfold opposite
            rw [if_neg (by omega)]
            have : x - 1 = 2 * k := by omega
            rw [this]
            exact q
        rw [if_neg (by rw [a]; exact n1), if_neg (by rw [b]; exact n2)]
      have F1 : fit k p (up (x :: l)) = if x % 2 = 1 then p.2 else p.1 := by
        unfold fit
        have a := mem_up (l := x :: l) (x := 2 * k + 1)
        have b := mem_up (l := x :: l) (x := 2 * k)
        push_cast at a b
        rcases Nat.mod_two_eq_zero_or_one x with z | z
        · have n1 : 2 * k + 1 ∉ x :: l := by
            intro q
            rw [List.mem_cons] at q
            rcases q with q | q
            · omega
            · apply ho
              unfold opposite
              rw [if_pos z]
              have : x + 1 = 2 * k + 1 := by omega
              rw [this]
              exact q
          have y2 : 2 * k ∈ x :: l := by
            have : x = 2 * k := by omega
            rw [← this]
            exact List.mem_cons_self ..
          rw [if_neg (by rw [a]; exact n1), if_pos (by rw [b]; exact y2), if_neg (by omega)]
          exact Int.add_zero _
        · have n2 : 2 * k ∉ x :: l := by
            intro q
            rw [List.mem_cons] at q
            rcases q with q | q
            · omega
            · apply ho
              unfold opposite
              rw [if_neg (by omega)]
              have : x - 1 = 2 * k := by omega
              rw [this]
              exact q
          have y1 : 2 * k + 1 ∈ x :: l := by
            have : x = 2 * k + 1 := by omega
            rw [← this]
            exact List.mem_cons_self ..
          rw [if_pos (by rw [a]; exact y1), if_neg (by rw [b]; exact n2), if_pos z]
          exact Int.zero_add _
      rw [F0, F1]
      ac_rfl
    · unfold allParts
      have e1 : x / 2 - k = (x / 2 - (k + 1)) + 1 := by omega
      rw [fit_ne e, e1, List.getD_cons_succ]
      have ih := allParts_more (ps := ps) (k := k + 1) (x := x) (l := l) (fun q hq => hp q (List.mem_cons_of_mem _ hq)) (by omega) (by simp only [List.length_cons] at h2; omega) hx ho
      rw [Int.mul_assoc, Int.mul_assoc, ih]
def ownProd (ps : List P2) : List Nat → Int
  | [] => 1
  | x :: l => own ps x * ownProd ps l
def totProd (ps : List P2) : List Nat → Nat
  | [] => 1
  | x :: l => tot (ps.getD (x / 2) (0, 0)) * totProd ps l
theorem allParts_nil : ∀ {ps : List P2} {k : Nat}, (∀ p ∈ ps, 0 < p.1 + p.2) → allParts k ps (up []) = (wholeParts ps : Int)
  | [], _, _ => rfl
  | p :: ps, k, h => by
    unfold allParts wholeParts
    rw [allParts_nil (fun q hq => h q (List.mem_cons_of_mem _ hq)), Int.natCast_mul, tot_cast (h p (List.mem_cons_self ..))]
    rfl
theorem allParts_prod {ps : List P2} (hp : ∀ p ∈ ps, 0 < p.1 + p.2) : ∀ {l : List Nat}, l.Nodup → (∀ x ∈ l, x / 2 < ps.length) → (∀ x ∈ l, opposite x ∉ l) →
    allParts 0 ps (up l) * (totProd ps l : Int) = ownProd ps l * (wholeParts ps : Int)
  | [], _, _, _ => by
    rw [allParts_nil hp]
    show (wholeParts ps : Int) * 1 = 1 * (wholeParts ps : Int)
    omega
  | x :: l, hn, hb, ho => by
    rw [List.nodup_cons] at hn
    have m := allParts_more (ps := ps) (k := 0) (x := x) (l := l) hp (Nat.zero_le _) (by have := hb x (List.mem_cons_self ..); omega) hn.1 (fun q => ho x (List.mem_cons_self ..) (List.mem_cons_of_mem _ q))
    have ih := allParts_prod hp hn.2 (fun y hy => hb y (List.mem_cons_of_mem _ hy)) (fun y hy q => ho y (List.mem_cons_of_mem _ hy) (List.mem_cons_of_mem _ q))
    rw [Nat.sub_zero] at m
    show allParts 0 ps (up (x :: l)) * ((tot (ps.getD (x / 2) (0, 0)) * totProd ps l : Nat) : Int) = own ps x * ownProd ps l * (wholeParts ps : Int)
    rw [Int.natCast_mul, ← Int.mul_assoc, m]
    show allParts 0 ps (up l) * own ps x * (totProd ps l : Int) = _
    calc allParts 0 ps (up l) * own ps x * (totProd ps l : Int) = own ps x * (allParts 0 ps (up l) * (totProd ps l : Int)) := by ac_rfl
      _ = own ps x * (ownProd ps l * (wholeParts ps : Int)) := by rw [ih]
      _ = _ := by ac_rfl
theorem getD_some {ps : List P2} {i : Nat} (h : i < ps.length) : ps[i]? = some (ps.getD i (0, 0)) := by
  rw [List.getD_eq_getElem?_getD, List.getElem?_eq_getElem h]
  rfl
theorem getD_pos {ps : List P2} (hp : ∀ p ∈ ps, 0 < p.1 + p.2) {i : Nat} (h : i < ps.length) : 0 < (ps.getD i (0, 0)).1 + (ps.getD i (0, 0)).2 := by
  rw [List.getD_eq_getElem?_getD, List.getElem?_eq_getElem h]
  exact hp _ (List.getElem_mem h)
theorem likely_own {d : Desk} {ps : List P2} (P : Parts d ps) {x : Nat} (h : x / 2 < ps.length) : likely d x = frac (own ps x) (tot (ps.getD (x / 2) (0, 0))) := by
  have g := getD_some h
  unfold own
  rcases Nat.mod_two_eq_zero_or_one x with z | z
  · have e := P.lo _ _ g
    rw [if_neg (by omega), ← e]
    congr 1
    omega
  · have e := P.hi _ _ g
    rw [if_pos z, ← e]
    congr 1
    omega
theorem times_fold {d : Desk} {ps : List P2} (P : Parts d ps) : ∀ {l : List Nat} {a : Int} {e : Nat}, 0 < e → (∀ x ∈ l, x / 2 < ps.length) → (l.map (likely d)).foldl times (frac a e) = frac (a * ownProd ps l) (e * totProd ps l)
  | [], a, e, _, _ => by
    show frac a e = frac (a * 1) (e * 1)
    rw [Int.mul_one, Nat.mul_one]
  | x :: l, a, e, he, hb => by
    have hx := hb x (List.mem_cons_self ..)
    have tp := tot_pos (getD_pos (fun p hp => (P.pos p hp).2.2) hx)
    simp only [List.map_cons, List.foldl_cons]
    rw [likely_own P hx, times_frac _ _ he tp, times_fold P (Nat.mul_pos he tp) (fun y hy => hb y (List.mem_cons_of_mem _ hy))]
    show frac (a * own ps x * ownProd ps l) (e * tot (ps.getD (x / 2) (0, 0)) * totProd ps l) = frac (a * (own ps x * ownProd ps l)) (e * (tot (ps.getD (x / 2) (0, 0)) * totProd ps l))
    rw [Int.mul_assoc, Nat.mul_assoc]
theorem totProd_pos {ps : List P2} (hp : ∀ p ∈ ps, 0 < p.1 + p.2) : ∀ {l : List Nat}, (∀ x ∈ l, x / 2 < ps.length) → 0 < totProd ps l
  | [], _ => Nat.one_pos
  | x :: l, hb => Nat.mul_pos (tot_pos (getD_pos hp (hb x (List.mem_cons_self ..)))) (totProd_pos hp fun y hy => hb y (List.mem_cons_of_mem _ hy))
theorem nodup_eraseDups : ∀ (n : Nat) (l : List Nat), l.length ≤ n → l.eraseDups.Nodup
  | _, [], _ => by simp
  | 0, _ :: _, h => by simp at h
  | n + 1, a :: l, h => by
    rw [List.eraseDups_cons, List.nodup_cons]
    refine ⟨?_, nodup_eraseDups n _ ?_⟩
    · rw [List.mem_eraseDups, List.mem_filter]
      rintro ⟨_, q⟩
      simp at q
    · have := List.length_filter_le (fun b => !b == a) l
      simp only [List.length_cons] at h
      omega
theorem allParts_congr : ∀ {ps : List P2} {k : Nat} {r s : List Int}, (∀ z, z ∈ r ↔ z ∈ s) → allParts k ps r = allParts k ps s
  | [], _, _, _, _ => rfl
  | p :: ps, k, r, s, h => by
    unfold allParts fit
    rw [allParts_congr h]
    simp only [h]
theorem allParts_zero : ∀ {ps : List P2} {k i : Nat} {r : List Int}, k ≤ i → i < k + ps.length → 2 * (i : Int) ∈ r → 2 * (i : Int) + 1 ∈ r → allParts k ps r = 0
  | [], k, i, r, h1, h2, _, _ => by
    simp at h2
    omega
  | p :: ps, k, i, r, h1, h2, m0, m1 => by
    unfold allParts
    by_cases e : i = k
    · subst e
      unfold fit
      rw [if_pos m1, if_pos m0]
      simp
    · rw [allParts_zero (k := k + 1) (by omega) (by simp only [List.length_cons] at h2; omega) m0 m1, Int.mul_zero]
theorem likelyAll_eq {d : Desk} {ps : List P2} (P : Parts d ps) {l : List Nat} (hb : ∀ x ∈ l, x / 2 < ps.length) : likelyAll d l = frac (allParts 0 ps (up l)) (wholeParts ps) := by
  have hp : ∀ p ∈ ps, 0 < p.1 + p.2 := fun p h => (P.pos p h).2.2
  have wp := wholeParts_pos hp
  unfold likelyAll
  by_cases c : (l.any fun x => l.contains (opposite x)) = true
  · rw [if_pos c]
    rw [List.any_eq_true] at c
    obtain ⟨x, hx, hc⟩ := c
    rw [List.contains_iff_mem] at hc
    have z : allParts 0 ps (up l) = 0 := by
      have b := hb x hx
      unfold opposite at hc
      have a0 := mem_up (l := l) (x := 2 * (x / 2))
      have a1 := mem_up (l := l) (x := 2 * (x / 2) + 1)
      push_cast at a0 a1
      rcases Nat.mod_two_eq_zero_or_one x with z | z
      · rw [if_pos z] at hc
        refine allParts_zero (i := x / 2) (Nat.zero_le _) (by omega) ?_ ?_
        · rw [show ((x / 2 : Nat) : Int) = (x : Int) / 2 from by omega, a0]
          rw [show 2 * (x / 2) = x from by omega]
          exact hx
        · rw [show ((x / 2 : Nat) : Int) = (x : Int) / 2 from by omega, a1]
          rw [show 2 * (x / 2) + 1 = x + 1 from by omega]
          exact hc
      · rw [if_neg (by omega)] at hc
        refine allParts_zero (i := x / 2) (Nat.zero_le _) (by omega) ?_ ?_
        · rw [show ((x / 2 : Nat) : Int) = (x : Int) / 2 from by omega, a0]
          rw [show 2 * (x / 2) = x - 1 from by omega]
          exact hc
        · rw [show ((x / 2 : Nat) : Int) = (x : Int) / 2 from by omega, a1]
          rw [show 2 * (x / 2) + 1 = x from by omega]
          exact hx
    rw [z]
    exact whole_zero wp
  · rw [if_neg c]
    have hb' : ∀ x ∈ l.eraseDups, x / 2 < ps.length := fun x hx => hb x (List.mem_eraseDups.mp hx)
    rw [whole_eq, times_fold P Nat.one_pos hb', Int.one_mul, Nat.one_mul]
    have ho : ∀ x ∈ l.eraseDups, opposite x ∉ l.eraseDups := by
      intro x hx q
      rw [List.mem_eraseDups] at hx q
      apply c
      rw [List.any_eq_true]
      exact ⟨x, hx, List.contains_iff_mem.mpr q⟩
    have e := allParts_prod hp (nodup_eraseDups _ l (Nat.le_refl _)) hb' ho
    have e2 : allParts 0 ps (up l.eraseDups) = allParts 0 ps (up l) := by
      refine allParts_congr fun z => ?_
      unfold up
      rw [List.mem_map, List.mem_map]
      constructor
      · rintro ⟨y, hy, e⟩
        exact ⟨y, List.mem_eraseDups.mp hy, e⟩
      · rintro ⟨y, hy, e⟩
        exact ⟨y, List.mem_eraseDups.mpr hy, e⟩
    rw [e2] at e
    exact frac_eq (totProd_pos hp hb') wp e.symm
/-! ### many -/
/-- counts with one coin more -/
def conv (p : P2) (c : List Int) : List Int := List.zipWith (· + ·) (c.map (fun x => x * p.1) ++ [0]) (0 :: c.map fun x => x * p.2)
theorem conv_len (p : P2) (c : List Int) : (conv p c).length = c.length + 1 := by
  unfold conv
  simp
theorem conv_get (p : P2) (c : List Int) (k : Nat) : (conv p c).getD k 0 = c.getD k 0 * p.1 + (if k = 0 then 0 else c.getD (k - 1) 0 * p.2) := by
  unfold conv
  rw [List.getD_eq_getElem?_getD, List.getElem?_zipWith, List.getD_eq_getElem?_getD, List.getElem?_append, List.length_map, List.getD_eq_getElem?_getD]
  by_cases h : k < c.length
  · rw [if_pos h, List.getElem?_map, List.getElem?_eq_getElem h]
    cases k with
    | zero => simp
    | succ j =>
      have hj : j < c.length := by omega
      simp [List.getElem?_eq_getElem hj]
  · rw [if_neg h, List.getElem?_eq_none (l := c) (i := k) (by omega)]
    by_cases e : k = c.length
    · subst e
      cases hc : c.length with
      | zero =>
        have : c = [] := List.length_eq_zero_iff.mp hc
        subst this
        simp
      | succ j =>
        have hj : j < c.length := by omega
        simp [List.getElem?_eq_getElem hj]
    · cases k with
      | zero => omega
      | succ j =>
        have hj : ¬ j < c.length := by omega
        have e2 : j + 1 - c.length = (j - c.length) + 1 := by omega
        rw [e2]
        simp [List.getElem?_eq_none (l := c) (i := j) (by omega)]
theorem ext_getD {a b : List Int} (hl : a.length = b.length) (h : ∀ k, a.getD k 0 = b.getD k 0) : a = b := by
  refine List.ext_getElem hl fun i h1 h2 => ?_
  have := h i
  rw [List.getD_eq_getElem?_getD, List.getD_eq_getElem?_getD, List.getElem?_eq_getElem h1, List.getElem?_eq_getElem h2] at this
  exact this
theorem conv_comm (p q : P2) (c : List Int) : conv p (conv q c) = conv q (conv p c) := by
  refine ext_getD (by rw [conv_len, conv_len, conv_len, conv_len]) fun k => ?_
  rw [conv_get, conv_get, conv_get, conv_get, conv_get, conv_get]
  rcases k with _ | _ | k
  · simp [Int.mul_assoc, Int.mul_comm p.1]
  · simp only [Nat.add_one_ne_zero, if_false, Nat.zero_add, Nat.sub_self, if_true, Int.add_zero, Int.add_mul]
    simp only [Int.mul_assoc, Int.mul_comm p.1, Int.mul_comm p.2, Int.add_assoc]
    omega
  · simp only [Nat.add_one_ne_zero, if_false, Nat.add_sub_cancel, Int.add_mul]
    simp only [Int.mul_assoc, Int.mul_comm p.1, Int.mul_comm p.2, Int.add_assoc]
    omega
def scale (m : Int) (c : List Int) : List Int := c.map fun x => x * m
theorem scale_get (m : Int) (c : List Int) (k : Nat) : (scale m c).getD k 0 = c.getD k 0 * m := by
  unfold scale
  rw [List.getD_eq_getElem?_getD, List.getD_eq_getElem?_getD, List.getElem?_map]
  cases c[k]? with
  | none => simp
  | some x => rfl
theorem scale_len (m : Int) (c : List Int) : (scale m c).length = c.length := List.length_map _
theorem conv_scale (p : P2) (m : Int) (c : List Int) : conv p (scale m c) = scale m (conv p c) := by
  refine ext_getD (by rw [conv_len, scale_len, scale_len, conv_len]) fun k => ?_
  rw [conv_get, scale_get, scale_get, scale_get, conv_get, Int.add_mul]
  have e : c.getD k 0 * m * p.1 = c.getD k 0 * p.1 * m := by ac_rfl
  rw [e]
  by_cases h : k = 0
  · rw [if_pos h, if_pos h, Int.zero_mul]
  · rw [if_neg h, if_neg h]
    have e : c.getD (k - 1) 0 * m * p.2 = c.getD (k - 1) 0 * p.2 * m := by ac_rfl
    rw [e]
theorem scale_scale (m n : Int) (c : List Int) : scale m (scale n c) = scale (n * m) c := by
  unfold scale
  rw [List.map_map]
  refine List.map_congr_left fun x _ => ?_
  show x * n * m = x * (n * m)
  rw [Int.mul_assoc]
/-- by the coins of the row, the last first -/
def convs (ps : List P2) (s : List Nat) (c : List Int) : List Int := s.foldr (fun i c => conv (ps.getD i (0, 0)) c) c
theorem convs_conv (ps : List P2) (p : P2) : ∀ (s : List Nat) (c : List Int), convs ps s (conv p c) = conv p (convs ps s c)
  | [], _ => rfl
  | i :: s, c => by
    show conv _ (convs ps s (conv p c)) = conv p (conv _ (convs ps s c))
    rw [convs_conv ps p s c, conv_comm]
theorem convs_scale (ps : List P2) (m : Int) : ∀ (s : List Nat) (c : List Int), convs ps s (scale m c) = scale m (convs ps s c)
  | [], _ => rfl
  | i :: s, c => by
    show conv _ (convs ps s (scale m c)) = scale m (conv _ (convs ps s c))
    rw [convs_scale ps m s c, conv_scale]
/-- the counts as they are made coin by coin -/
def countsFrom : Nat → List P2 → List Int → List Int → List Int
  | _, [], _, c => c
  | k, p :: ps, row, c => countsFrom (k + 1) ps row (if (k : Int) ∈ row then conv p c else scale (p.1 + p.2) c)
def manyParts (ps : List P2) (t : Nat) (row : List Int) : Int := ((countsFrom 0 ps row [1]).drop t).foldl (· + ·) 0
/-- the whole of the coins that the row hasn't -/
def offParts : Nat → List P2 → List Nat → Int
  | _, [], _ => 1
  | k, p :: ps, s => (if k ∈ s then 1 else p.1 + p.2) * offParts (k + 1) ps s
def Rising : List Nat → Prop
  | a :: b :: l => a < b ∧ Rising (b :: l)
  | _ => True
theorem Rising.tail {a : Nat} {l : List Nat} (h : Rising (a :: l)) : Rising l := by
  cases l with
  | nil => trivial
  | cons b l => exact h.2
theorem Rising.lt : ∀ {l : List Nat} {a : Nat}, Rising (a :: l) → ∀ x ∈ l, a < x
  | [], _, _, x, hx => by cases hx
  | b :: l, a, h, x, hx => by
    rcases List.mem_cons.mp hx with e | e
    · rw [e]
      exact h.1
    · exact Nat.lt_trans h.1 (Rising.lt h.2 x e)
theorem countsFrom_congr : ∀ {ps : List P2} {k : Nat} {r s : List Int} {c : List Int}, (∀ i : Nat, k ≤ i → ((i : Int) ∈ r ↔ (i : Int) ∈ s)) → countsFrom k ps r c = countsFrom k ps s c
  | [], _, _, _, _, _ => rfl
  | p :: ps, k, r, s, c, h => by
    unfold countsFrom
    have e : (k : Int) ∈ r ↔ (k : Int) ∈ s := h k (Nat.le_refl _)
    simp only [e]
    exact countsFrom_congr fun i hi => h i (by omega)
theorem offParts_congr : ∀ {ps : List P2} {k : Nat} {r s : List Nat}, (∀ i : Nat, k ≤ i → (i ∈ r ↔ i ∈ s)) → offParts k ps r = offParts k ps s
  | [], _, _, _, _ => rfl
  | p :: ps, k, r, s, h => by
    unfold offParts
    have e : k ∈ r ↔ k ∈ s := h k (Nat.le_refl _)
    simp only [e]
    rw [offParts_congr (r := r) (s := s) fun i hi => h i (by omega)]
theorem drop_getD (all : List P2) {k : Nat} {p : P2} {ps : List P2} (h : all.drop k = p :: ps) : all.getD k (0, 0) = p ∧ all.drop (k + 1) = ps := by
  constructor
  · have e : (all.drop k)[0]? = some p := by rw [h]; rfl
    rw [List.getElem?_drop, Nat.add_zero] at e
    rw [List.getD_eq_getElem?_getD, e]
    rfl
  · rw [← List.drop_drop, h]
    rfl
theorem counts_eq {all : List P2} : ∀ {ps : List P2} {k : Nat} {s : List Nat} {c : List Int}, all.drop k = ps → Rising s → (∀ x ∈ s, k ≤ x ∧ x < k + ps.length) →
    countsFrom k ps (up s) c = scale (offParts k ps s) (convs all s c)
  | [], k, s, c, _, _, hb => by
    cases s with
    | nil =>
      show c = scale 1 c
      unfold scale
      simp
    | cons x s =>
      have := hb x (List.mem_cons_self ..)
      simp at this
      omega
  | p :: ps, k, s, c, hd, hs, hb => by
    obtain ⟨g, hd'⟩ := drop_getD all hd
    unfold countsFrom offParts
    by_cases m : k ∈ s
    · rw [if_pos (mem_up.mpr m), if_pos m, Int.one_mul]
      cases s with
      | nil => cases m
      | cons x s =>
        have ex : x = k := by
          rcases List.mem_cons.mp m with e | e
          · exact e.symm
          · have a := hs.lt k e
            have b := (hb x (List.mem_cons_self ..)).1
            omega
        subst ex
        have c1 : ∀ i : Nat, x + 1 ≤ i → (i ∈ x :: s ↔ i ∈ s) := by
          intro i hi
          rw [List.mem_cons]
          constructor
          · rintro (e | e)
            · omega
            · exact e
          · exact Or.inr
        rw [countsFrom_congr (s := up s) fun i hi => by rw [mem_up, mem_up]; exact c1 i hi, offParts_congr c1]
        rw [counts_eq hd' hs.tail (fun y hy => ⟨by have := hs.lt y hy; omega, by have := (hb y (List.mem_cons_of_mem _ hy)).2; simp only [List.length_cons] at this; omega⟩)]
        rw [convs_conv]
        show _ = scale _ (conv (all.getD x (0, 0)) (convs all s c))
        rw [g]
    · rw [if_neg (by rw [mem_up]; exact m), if_neg m]
      rw [counts_eq hd' hs (fun y hy => ⟨by have := (hb y hy).1; have : y ≠ k := fun e => m (e ▸ hy); omega, by have := (hb y hy).2; simp only [List.length_cons] at this; omega⟩)]
      rw [convs_scale, scale_scale]
/-- the whole of the row's coins -/
def onParts (ps : List P2) : List Nat → Nat
  | [] => 1
  | i :: s => tot (ps.getD i (0, 0)) * onParts ps s
theorem onParts_pos {ps : List P2} (hp : ∀ p ∈ ps, 0 < p.1 + p.2) : ∀ {s : List Nat}, (∀ x ∈ s, x < ps.length) → 0 < onParts ps s
  | [], _ => Nat.one_pos
  | x :: s, hb => Nat.mul_pos (tot_pos (getD_pos hp (hb x (List.mem_cons_self ..)))) (onParts_pos hp fun y hy => hb y (List.mem_cons_of_mem _ hy))
theorem off_on {all : List P2} (hp : ∀ p ∈ all, 0 < p.1 + p.2) : ∀ {ps : List P2} {k : Nat} {s : List Nat}, all.drop k = ps → Rising s → (∀ x ∈ s, k ≤ x ∧ x < k + ps.length) →
    offParts k ps s * (onParts all s : Int) = (wholeParts ps : Int)
  | [], k, s, _, _, hb => by
    cases s with
    | nil => rfl
    | cons x s =>
      have := hb x (List.mem_cons_self ..)
      simp at this
      omega
  | p :: ps, k, s, hd, hs, hb => by
    obtain ⟨g, hd'⟩ := drop_getD all hd
    have p0 : 0 < p.1 + p.2 := hp p (List.mem_of_mem_drop (i := k) (by rw [hd]; exact List.mem_cons_self ..))
    unfold offParts wholeParts
    rw [Int.natCast_mul]
    by_cases m : k ∈ s
    · rw [if_pos m, Int.one_mul]
      cases s with
      | nil => cases m
      | cons x s =>
        have ex : x = k := by
          rcases List.mem_cons.mp m with e | e
          · exact e.symm
          · have a := hs.lt k e
            have b := (hb x (List.mem_cons_self ..)).1
            omega
        subst ex
        have c1 : ∀ i : Nat, x + 1 ≤ i → (i ∈ x :: s ↔ i ∈ s) := by
          intro i hi
          rw [List.mem_cons]
          constructor
          · rintro (e | e)
            · omega
            · exact e
          · exact Or.inr
        rw [offParts_congr c1]
        have ih := off_on hp hd' hs.tail (fun y hy => ⟨by have := hs.lt y hy; omega, by have := (hb y (List.mem_cons_of_mem _ hy)).2; simp only [List.length_cons] at this; omega⟩)
        show _ * ((tot (all.getD x (0, 0)) * onParts all s : Nat) : Int) = _
        rw [g, Int.natCast_mul, ← ih]
        ac_rfl
    · rw [if_neg m]
      have ih := off_on hp hd' hs (fun y hy => ⟨by have := (hb y hy).1; have : y ≠ k := fun e => m (e ▸ hy); omega, by have := (hb y hy).2; simp only [List.length_cons] at this; omega⟩)
      rw [Int.mul_assoc, ih, tot_cast p0]
theorem fracs_getD {c : List Int} {e : Nat} (he : 0 < e) (k : Nat) : (c.map fun x => frac x e).getD k (whole 0) = frac (c.getD k 0) e := by
  rw [List.getD_eq_getElem?_getD, List.getD_eq_getElem?_getD, List.getElem?_map]
  cases c[k]? with
  | none => exact whole_zero he
  | some x => rfl
theorem spread_eq {d : Desk} {ps : List P2} (P : Parts d ps) : ∀ {s : List Nat}, (∀ x ∈ s, x < ps.length) → spread d s = (convs ps s [1]).map fun x => frac x (onParts ps s)
  | [], _ => by
    show [whole 1] = [frac 1 1]
    rw [whole_eq]
  | i :: s, hb => by
    have hp : ∀ p ∈ ps, 0 < p.1 + p.2 := fun p h => (P.pos p h).2.2
    have hi := hb i (List.mem_cons_self ..)
    have hb' : ∀ x ∈ s, x < ps.length := fun y hy => hb y (List.mem_cons_of_mem _ hy)
    have ih := spread_eq P hb'
    have tp := tot_pos (getD_pos hp hi)
    have op := onParts_pos hp hb'
    have l0 := P.lo _ _ (getD_some hi)
    have l1 := P.hi _ _ (getD_some hi)
    show ((List.range ((spread d s).length + 1)).map fun k => plus (times (likely d (2 * i)) ((spread d s).getD k (whole 0))) (if k = 0 then whole 0 else times (likely d (2 * i + 1)) ((spread d s).getD (k - 1) (whole 0)))) = (conv (ps.getD i (0, 0)) (convs ps s [1])).map fun x => frac x (tot (ps.getD i (0, 0)) * onParts ps s)
    rw [ih, l0, l1, List.length_map]
    generalize ps.getD i (0, 0) = p at *
    generalize convs ps s [1] = c at *
    refine List.ext_getElem (by rw [List.length_map, List.length_map, List.length_range, conv_len]) fun k h1 h2 => ?_
    rw [List.getElem_map, List.getElem_map, List.getElem_range]
    have hk : k < (conv p c).length := by
      rw [List.length_map] at h2
      exact h2
    have e1 : (conv p c)[k] = (conv p c).getD k 0 := by
      rw [List.getD_eq_getElem?_getD, List.getElem?_eq_getElem hk]
      rfl
    rw [e1, conv_get, fracs_getD op, fracs_getD op, times_frac _ _ tp op, times_frac _ _ tp op]
    have q : 0 < tot p * onParts ps s := Nat.mul_pos tp op
    by_cases k0 : k = 0
    · rw [if_pos k0, if_pos k0, whole_zero q, plus_same _ _ q, Int.mul_comm p.1]
    · rw [if_neg k0, if_neg k0, plus_same _ _ q, Int.mul_comm p.1, Int.mul_comm p.2]
theorem foldl_scale (m : Int) : ∀ (c : List Int) (a : Int), (scale m c).foldl (· + ·) (a * m) = c.foldl (· + ·) a * m
  | [], _ => rfl
  | x :: c, a => by
    show (scale m c).foldl (· + ·) (a * m + x * m) = _
    rw [← Int.add_mul]
    exact foldl_scale m c (a + x)
theorem likelyMany_eq {d : Desk} {ps : List P2} (P : Parts d ps) {t : Nat} {s : List Nat} (hb : ∀ x ∈ s, x < ps.length) (hs : Rising s) : likelyMany d t s = frac (manyParts ps t (up s)) (wholeParts ps) := by
  have hp : ∀ p ∈ ps, 0 < p.1 + p.2 := fun p h => (P.pos p h).2.2
  have wp := wholeParts_pos hp
  have op := onParts_pos hp hb
  have hb' : ∀ x ∈ s, 0 ≤ x ∧ x < 0 + ps.length := fun x hx => ⟨Nat.zero_le _, by have := hb x hx; omega⟩
  have e1 := counts_eq (all := ps) (ps := ps) (k := 0) (s := s) (c := [1]) rfl hs hb'
  have e2 := off_on (all := ps) hp (ps := ps) (k := 0) (s := s) rfl hs hb'
  unfold likelyMany manyParts
  rw [spread_eq P hb, e1, ← List.map_drop, total_eq op]
  have e3 : (scale (offParts 0 ps s) (convs ps s [1])).drop t = scale (offParts 0 ps s) ((convs ps s [1]).drop t) := by
    unfold scale
    rw [List.map_drop]
  have e4 := foldl_scale (offParts 0 ps s) ((convs ps s [1]).drop t) 0
  rw [Int.zero_mul] at e4
  rw [e3, e4]
  refine frac_eq op wp ?_
  have e2' : offParts 0 ps s * (onParts ps s : Int) = (wholeParts ps : Int) := e2
  rw [← e2', Int.mul_assoc]
/-! ### the terms, the mean -/
abbrev T3 := Int × Int × List Int
def enc (t : Term) : T3 := match t.sort with
  | .all l => (t.w, -1, up l)
  | .many k s => (t.w, (k : Int), up s)
def termParts (ps : List P2) (t : T3) : Int := if t.2.1 = -1 then allParts 0 ps t.2.2 else manyParts ps t.2.1.toNat t.2.2
def TermOk (n : Nat) (t : Term) : Prop := match t.sort with
  | .all l => (∀ x ∈ l, x / 2 < n)
  | .many _ s => (∀ x ∈ s, x < n) ∧ Rising s
theorem likelyTerm_eq {d : Desk} {ps : List P2} (P : Parts d ps) {t : Term} (h : TermOk ps.length t) : likelyTerm d t.sort = frac (termParts ps (enc t)) (wholeParts ps) := by
  obtain ⟨w, k⟩ := t
  cases k with
  | all l =>
    show likelyAll d l = frac (allParts 0 ps (up l)) _
    exact likelyAll_eq P h
  | many k s =>
    show likelyMany d k s = frac (if (k : Int) = -1 then _ else manyParts ps ((k : Int)).toNat (up s)) _
    rw [if_neg (by omega), Int.toNat_natCast]
    exact likelyMany_eq P h.1 h.2
def upper (ps : List P2) (ts : List T3) : Int := (ts.map fun t => t.1 * termParts ps t).foldl (· + ·) 0
theorem mean_eq {d : Desk} {ps : List P2} (P : Parts d ps) (h : ∀ t ∈ d.terms, TermOk ps.length t) : mean d = frac (upper ps (d.terms.map enc)) (wholeParts ps) := by
  have wp := wholeParts_pos fun p h => (P.pos p h).2.2
  unfold mean upper
  rw [← total_eq wp, List.map_map, List.map_map]
  refine congrArg total (List.map_congr_left fun t ht => ?_)
  show times (whole t.w) (likelyTerm d t.sort) = frac ((enc t).1 * termParts ps (enc t)) (wholeParts ps)
  rw [likelyTerm_eq P (h t ht), times_whole _ _ wp]
  have : (enc t).1 = t.w := by
    obtain ⟨w, k⟩ := t
    cases k <;> rfl
  rw [this]
end Mn
end
section
set_option linter.unusedVariables false
namespace Dk
open Sr58 Fr Mn
def coinParts (c : P2) (l : Int) : P2 := if l = 0 then (c.2, 0) else if l = 1 then (0, c.2) else (c.2 - c.1, c.1)
def partsOf (cs : List P2) (ls : List Int) : List P2 := List.zipWith coinParts cs ls
def good (c : P2) : Prop := 0 ≤ c.1 ∧ c.1 ≤ c.2 ∧ 1 ≤ c.2 ∧ c.2 ≤ 10
def frOf (c : P2) : Frac := frac c.1 c.2.toNat
def lt1 (x : Option Bool) : Int := match x with
  | none => -1
  | some v => bit v
theorem laidTold_eq (d : Desk) : laidTold d = d.laid.map lt1 := rfl
/-- a term as it may stand -/
def termGood (n : Nat) (t : Term) : Prop := (-100 ≤ t.w ∧ t.w ≤ 100) ∧ (match t.sort with
  | .all l => (∀ x ∈ l, x / 2 < n) ∧ l.length ≤ 20
  | .many k s => ((∀ x ∈ s, x < n) ∧ Rising s) ∧ s.length ≤ 70 ∧ k ≤ 20)
theorem termGood.ok {n : Nat} {t : Term} (h : termGood n t) : TermOk n t := by
  obtain ⟨w, k⟩ := t
  cases k with
  | all l => exact h.2.1
  | many k s => exact h.2.1
structure Rel (cs : List P2) (d : Desk) : Prop where
  p : d.p = cs.map frOf
  good : ∀ c ∈ cs, good c
  len : d.laid.length = cs.length
  n1 : 1 ≤ cs.length
  n10 : cs.length ≤ 10
  terms : ∀ t ∈ d.terms, termGood cs.length t
  nt : d.terms.length ≤ 12
theorem Rel.coins {cs : List P2} {d : Desk} (R : Rel cs d) : coins d = cs.length := by
  unfold Sr58.coins
  rw [R.p, List.length_map]
theorem partsOf_len {cs : List P2} {d : Desk} (R : Rel cs d) : (partsOf cs (laidTold d)).length = cs.length := by
  unfold partsOf
  rw [List.length_zipWith, laidTold_eq, List.length_map, R.len, Nat.min_self]
theorem coinParts_sum (c : P2) (l : Int) : (coinParts c l).1 + (coinParts c l).2 = c.2 := by
  unfold coinParts
  split
  · exact Int.add_zero _
  · split
    · exact Int.zero_add _
    · show c.2 - c.1 + c.1 = c.2
      omega
theorem coinParts_nonneg {c : P2} (g : good c) (l : Int) : 0 ≤ (coinParts c l).1 ∧ 0 ≤ (coinParts c l).2 := by
  obtain ⟨a, b, e, f⟩ := g
  unfold coinParts
  split
  · exact ⟨by show 0 ≤ c.2; omega, Int.le_refl _⟩
  · split
    · exact ⟨Int.le_refl _, by show 0 ≤ c.2; omega⟩
    · exact ⟨by show 0 ≤ c.2 - c.1; omega, a⟩
theorem partsOf_get {cs : List P2} {d : Desk} {i : Nat} {p : P2} (h : (partsOf cs (laidTold d))[i]? = some p) : ∃ (c : P2) (l : Option Bool), cs[i]? = some c ∧ d.laid[i]? = some l ∧ p = coinParts c (lt1 l) := by
  unfold partsOf at h
  rw [List.getElem?_zipWith, laidTold_eq, List.getElem?_map] at h
  cases e1 : cs[i]? with
  | none =>
    rw [e1] at h
    cases h
  | some c =>
    cases e2 : d.laid[i]? with
    | none =>
      rw [e1, e2] at h
      cases h
    | some l =>
      rw [e1, e2] at h
      exact ⟨c, l, rfl, rfl, (Option.some.inj h).symm⟩
theorem tot_coin {c : P2} (l : Int) : tot (coinParts c l) = c.2.toNat := by
  unfold tot
  rw [coinParts_sum]
theorem chance_get {cs : List P2} {d : Desk} (R : Rel cs d) {i : Nat} {c : P2} (h : cs[i]? = some c) : d.p.getD i (whole 0) = frac c.1 c.2.toNat := by
  rw [R.p, List.getD_eq_getElem?_getD, List.getElem?_map, h]
  rfl
theorem Rel.parts {cs : List P2} {d : Desk} (R : Rel cs d) : Parts d (partsOf cs (laidTold d)) := by
  refine ⟨fun p hp => ?_, fun i p hp => ?_, fun i p hp => ?_⟩
  · obtain ⟨i, hi⟩ := List.getElem?_of_mem hp
    obtain ⟨c, l, hc, hl, rfl⟩ := partsOf_get hi
    have g := R.good c (List.mem_of_getElem? hc)
    have := coinParts_nonneg g (lt1 l)
    refine ⟨this.1, this.2, ?_⟩
    rw [coinParts_sum]
    have := g.2.2.1
    omega
  · obtain ⟨c, l, hc, hl, rfl⟩ := partsOf_get hp
    have g := R.good c (List.mem_of_getElem? hc)
    have c0 : 0 < c.2.toNat := by
      have := g.2.2.1
      omega
    have cc : (c.2.toNat : Int) = c.2 := by
      have := g.2.2.1
      omega
    rw [tot_coin]
    unfold likely
    have e1 : 2 * i / 2 = i := by omega
    have e2 : 2 * i % 2 = 0 := by omega
    have e3 : laidAt d i = l := by
      unfold laidAt
      rw [List.getD_eq_getElem?_getD, hl]
      rfl
    rw [e1, e2, e3]
    cases l with
    | none =>
      show chance d i false = frac (c.2 - c.1) c.2.toNat
      unfold chance
      rw [chance_get R hc]
      have := compl_frac c.1 c0
      rw [cc] at this
      exact this
    | some v =>
      cases v with
      | false =>
        show whole 1 = frac c.2 c.2.toNat
        have := whole_one c0
        rw [cc] at this
        exact this
      | true =>
        show whole 0 = frac 0 c.2.toNat
        exact whole_zero c0
  · obtain ⟨c, l, hc, hl, rfl⟩ := partsOf_get hp
    have g := R.good c (List.mem_of_getElem? hc)
    have c0 : 0 < c.2.toNat := by
      have := g.2.2.1
      omega
    have cc : (c.2.toNat : Int) = c.2 := by
      have := g.2.2.1
      omega
    rw [tot_coin]
    unfold likely
    have e1 : (2 * i + 1) / 2 = i := by omega
    have e2 : (2 * i + 1) % 2 = 1 := by omega
    have e3 : laidAt d i = l := by
      unfold laidAt
      rw [List.getD_eq_getElem?_getD, hl]
      rfl
    rw [e1, e2, e3]
    cases l with
    | none =>
      show chance d i true = frac c.1 c.2.toNat
      unfold chance
      rw [chance_get R hc]
      rfl
    | some v =>
      cases v with
      | false =>
        show whole 0 = frac 0 c.2.toNat
        exact whole_zero c0
      | true =>
        show whole 1 = frac c.2 c.2.toNat
        have := whole_one c0
        rw [cc] at this
        exact this
/-- the lower number: the product of all coins' b -/
def lower : List P2 → Nat
  | [] => 1
  | c :: cs => c.2.toNat * lower cs
theorem whole_lower : ∀ {cs : List P2} {ls : List Int}, ls.length = cs.length → wholeParts (partsOf cs ls) = lower cs
  | [], [], _ => rfl
  | [], _ :: _, h => by simp at h
  | _ :: _, [], h => by simp at h
  | c :: cs, l :: ls, h => by
    show tot (coinParts c l) * wholeParts (partsOf cs ls) = c.2.toNat * lower cs
    rw [tot_coin, whole_lower (by simpa using h)]
theorem lower_pos : ∀ {cs : List P2}, (∀ c ∈ cs, good c) → 0 < lower cs
  | [], _ => Nat.one_pos
  | c :: cs, h => Nat.mul_pos (by have := (h c (List.mem_cons_self ..)).2.2.1; omega) (lower_pos fun q hq => h q (List.mem_cons_of_mem _ hq))
/-- the mean's upper number over `lower` -/
def meanUp (cs : List P2) (d : Desk) : Int := upper (partsOf cs (laidTold d)) (d.terms.map enc)
theorem Rel.mean {cs : List P2} {d : Desk} (R : Rel cs d) : Sr58.mean d = frac (meanUp cs d) (lower cs) := by
  have e := mean_eq R.parts (fun t ht => by rw [partsOf_len R]; exact (R.terms t ht).ok)
  rw [whole_lower (by rw [laidTold_eq, List.length_map, R.len])] at e
  exact e
theorem Rel.term {cs : List P2} {d : Desk} (R : Rel cs d) {t : Term} (ht : t ∈ d.terms) : likelyTerm d t.sort = frac (termParts (partsOf cs (laidTold d)) (enc t)) (lower cs) := by
  have e := likelyTerm_eq R.parts (t := t) (by rw [partsOf_len R]; exact (R.terms t ht).ok)
  rw [whole_lower (by rw [laidTold_eq, List.length_map, R.len])] at e
  exact e
theorem Rel.lay {cs : List P2} {d : Desk} (R : Rel cs d) (i : Nat) (v : Option Bool) : Rel cs (Sr58.lay d i v) :=
  ⟨R.p, R.good, by show (d.laid.set i v).length = _; rw [List.length_set]; exact R.len, R.n1, R.n10, R.terms, R.nt⟩
theorem laidTold_lay (d : Desk) (i : Nat) (v : Option Bool) : laidTold (Sr58.lay d i v) = (laidTold d).set i (lt1 v) := by
  rw [laidTold_eq, laidTold_eq]
  show (d.laid.set i v).map lt1 = _
  rw [List.map_set]
theorem Rel.better {cs : List P2} {d : Desk} (R : Rel cs d) (i : Nat) : better d i = if d.much then decide (meanUp cs (Sr58.lay d i (some false)) < meanUp cs (Sr58.lay d i (some true))) else decide (meanUp cs (Sr58.lay d i (some true)) < meanUp cs (Sr58.lay d i (some false))) := by
  unfold Sr58.better
  rw [(R.lay i (some false)).mean, (R.lay i (some true)).mean]
  simp only [less_same _ _ (lower_pos R.good)]
theorem Rel.swing {cs : List P2} {d : Desk} (R : Rel cs d) (i : Nat) : swing d i = frac (meanUp cs (Sr58.lay d i (some true)) - meanUp cs (Sr58.lay d i (some false))) (lower cs) := by
  unfold Sr58.swing
  rw [(R.lay i (some false)).mean, (R.lay i (some true)).mean]
  simp only [neg_frac _ (lower_pos R.good), plus_same _ _ (lower_pos R.good)]
  rfl
theorem Rel.choose {cs : List P2} {d : Desk} (R : Rel cs d) (i : Nat) : Rel cs (Sr58.choose d i) := by
  unfold Sr58.choose
  split
  · exact R
  · exact R.lay _ _
theorem Rel.run {cs : List P2} : ∀ {o : List Nat} {d : Desk}, Rel cs d → Rel cs (Sr58.run d o)
  | [], _, R => R
  | i :: o, d, R => by
    show Rel cs (Sr58.run (Sr58.choose d i) o)
    exact Rel.run (R.choose i)
theorem Rel.want {cs : List P2} {d : Desk} (R : Rel cs d) (b : Bool) : Rel cs { d with much := b } := ⟨R.p, R.good, R.len, R.n1, R.n10, R.terms, R.nt⟩
theorem Rel.clear {cs : List P2} {d : Desk} (R : Rel cs d) : Rel cs { d with laid := List.replicate (Sr58.coins d) none } :=
  ⟨R.p, R.good, by show (List.replicate _ _).length = _; rw [List.length_replicate, R.coins], R.n1, R.n10, R.terms, R.nt⟩
theorem Rel.drop {cs : List P2} {d : Desk} (R : Rel cs d) (j : Nat) : Rel cs { d with terms := d.terms.eraseIdx j } :=
  ⟨R.p, R.good, R.len, R.n1, R.n10, fun t ht => R.terms t (List.mem_of_mem_eraseIdx ht), by
    show (d.terms.eraseIdx j).length ≤ 12
    have := List.length_eraseIdx_le (l := d.terms) (i := j)
    exact Nat.le_trans this R.nt⟩
theorem Rel.add {cs : List P2} {d : Desk} (R : Rel cs d) {t : Term} (h : termGood cs.length t) (hn : d.terms.length < 12) : Rel cs { d with terms := d.terms ++ [t] } :=
  ⟨R.p, R.good, R.len, R.n1, R.n10, fun q hq => by
    rcases List.mem_append.mp hq with e | e
    · exact R.terms q e
    · rw [List.mem_singleton.mp e]
      exact h, by
    show (d.terms ++ [t]).length ≤ 12
    rw [List.length_append, List.length_singleton]
    omega⟩
theorem Rel.coin {cs : List P2} {d : Desk} (R : Rel cs d) (i : Nat) {c : P2} (h : Dk.good c) : Rel (cs.set i c) { d with p := d.p.set i (frOf c) } := by
  have L : (cs.set i c).length = cs.length := List.length_set
  refine ⟨?_, fun q hq => ?_, ?_, ?_, ?_, ?_, R.nt⟩
  · show d.p.set i (frOf c) = _
    rw [R.p, List.map_set]
  · rcases List.mem_or_eq_of_mem_set hq with e | e
    · exact R.good q e
    · rw [e]
      exact h
  · rw [L]
    exact R.len
  · rw [L]
    exact R.n1
  · rw [L]
    exact R.n10
  · rw [L]
    exact R.terms
theorem Rel.begin_ {n : Nat} (h1 : 1 ≤ n) (h2 : n ≤ 10) : Rel (List.replicate n (1, 2)) ⟨List.replicate n half, [], false, List.replicate n none⟩ := by
  have L : (List.replicate n ((1, 2) : P2)).length = n := List.length_replicate
  refine ⟨?_, fun c hc => ?_, ?_, ?_, ?_, fun t ht => ?_, Nat.zero_le _⟩
  · show List.replicate n half = (List.replicate n ((1, 2) : P2)).map frOf
    rw [List.map_replicate]
    congr 1
  · rw [(List.mem_replicate.mp hc).2]
    exact ⟨by decide, by decide, by decide, by decide⟩
  · show (List.replicate n (none : Option Bool)).length = _
    rw [List.length_replicate, L]
  · rw [L]
    exact h1
  · rw [L]
    exact h2
  · cases ht
end Dk
end
section
set_option linter.unusedVariables false
namespace Pz
open Sr58 Fr Mn Dk
/-! ### how a list of calls is taken apart -/
theorem calls_step {f : Nat} {p : Int} {r : List Int} {cs : List (List (List Int))} (h : PyFlat.calls PySr58.shape (f + 1) (p :: r) = some cs) :
    ∃ n k cs', PySr58.shape p = some (n, k) ∧ n ≤ r.length ∧ ∃ xs t, PyFlat.rows k (r.drop n) = some (xs, t) ∧ cs = ((p :: r.take n) :: xs) :: cs' ∧ PyFlat.calls PySr58.shape f t = some cs' := by
  unfold PyFlat.calls PyFlat.call at h
  simp only at h
  cases e : PySr58.shape p with
  | none =>
    rw [e] at h
    simp at h
  | some nk =>
    obtain ⟨n, k⟩ := nk
    rw [e] at h
    simp only at h
    by_cases hl : r.length < n
    · rw [if_pos hl] at h
      simp at h
    · rw [if_neg hl] at h
      cases e2 : PyFlat.rows k (r.drop n) with
      | none =>
        rw [e2] at h
        simp at h
      | some xt =>
        obtain ⟨xs, t⟩ := xt
        rw [e2] at h
        simp only at h
        cases e3 : PyFlat.calls PySr58.shape f t with
        | none =>
          rw [e3] at h
          simp at h
        | some cs' =>
          rw [e3] at h
          exact ⟨n, k, cs', rfl, by omega, xs, t, e2, (Option.some.inj h).symm, e3⟩
/-- how many whole numbers a call has, whether it has a row -/
def NUM : List Nat := [1, 3, 1, 2, 1, 1, 2, 1, 1, 0, 0, 2, 1, 0, 0, 1, 0, 0]
def ROW : List Nat := [0, 0, 1, 1, 0, 0, 0, 0, 0, 1, 0, 0, 0, 0, 0, 0, 0, 0]
theorem shape_some {p : Int} {n k : Nat} (h : PySr58.shape p = some (n, k)) : ∃ j : Nat, j < 18 ∧ p = (j : Int) ∧ n = NUM.getD j 0 ∧ k = ROW.getD j 0 := by
  unfold PySr58.shape at h
  by_cases c0 : p = 0
  · rw [if_pos c0] at h; cases h; exact ⟨0, by decide, c0, rfl, rfl⟩
  rw [if_neg c0] at h
  by_cases c1 : p = 1
  · rw [if_pos c1] at h; cases h; exact ⟨1, by decide, c1, rfl, rfl⟩
  rw [if_neg c1] at h
  by_cases c2 : p = 2
  · rw [if_pos c2] at h; cases h; exact ⟨2, by decide, c2, rfl, rfl⟩
  rw [if_neg c2] at h
  by_cases c3 : p = 3
  · rw [if_pos c3] at h; cases h; exact ⟨3, by decide, c3, rfl, rfl⟩
  rw [if_neg c3] at h
  by_cases c4 : p = 4
  · rw [if_pos c4] at h; cases h; exact ⟨4, by decide, c4, rfl, rfl⟩
  rw [if_neg c4] at h
  by_cases c5 : p = 5
  · rw [if_pos c5] at h; cases h; exact ⟨5, by decide, c5, rfl, rfl⟩
  rw [if_neg c5] at h
  by_cases c6 : p = 6
  · rw [if_pos c6] at h; cases h; exact ⟨6, by decide, c6, rfl, rfl⟩
  rw [if_neg c6] at h
  by_cases c7 : p = 7
  · rw [if_pos c7] at h; cases h; exact ⟨7, by decide, c7, rfl, rfl⟩
  rw [if_neg c7] at h
  by_cases c8 : p = 8
  · rw [if_pos c8] at h; cases h; exact ⟨8, by decide, c8, rfl, rfl⟩
  rw [if_neg c8] at h
  by_cases c9 : p = 9
  · rw [if_pos c9] at h; cases h; exact ⟨9, by decide, c9, rfl, rfl⟩
  rw [if_neg c9] at h
  by_cases c10 : p = 10
  · rw [if_pos c10] at h; cases h; exact ⟨10, by decide, c10, rfl, rfl⟩
  rw [if_neg c10] at h
  by_cases c11 : p = 11
  · rw [if_pos c11] at h; cases h; exact ⟨11, by decide, c11, rfl, rfl⟩
  rw [if_neg c11] at h
  by_cases c12 : p = 12
  · rw [if_pos c12] at h; cases h; exact ⟨12, by decide, c12, rfl, rfl⟩
  rw [if_neg c12] at h
  by_cases c13 : p = 13
  · rw [if_pos c13] at h; cases h; exact ⟨13, by decide, c13, rfl, rfl⟩
  rw [if_neg c13] at h
  by_cases c14 : p = 14
  · rw [if_pos c14] at h; cases h; exact ⟨14, by decide, c14, rfl, rfl⟩
  rw [if_neg c14] at h
  by_cases c15 : p = 15
  · rw [if_pos c15] at h; cases h; exact ⟨15, by decide, c15, rfl, rfl⟩
  rw [if_neg c15] at h
  by_cases c16 : p = 16
  · rw [if_pos c16] at h; cases h; exact ⟨16, by decide, c16, rfl, rfl⟩
  rw [if_neg c16] at h
  by_cases c17 : p = 17
  · rw [if_pos c17] at h; cases h; exact ⟨17, by decide, c17, rfl, rfl⟩
  rw [if_neg c17] at h
  cases h
theorem rows0 {r : List Int} {xs : List (List Int)} {t : List Int} (h : PyFlat.rows 0 r = some (xs, t)) : xs = [] ∧ t = r := by
  unfold PyFlat.rows at h
  cases h
  exact ⟨rfl, rfl⟩
theorem rows1 {r : List Int} {xs : List (List Int)} {t : List Int} (h : PyFlat.rows 1 r = some (xs, t)) : ∃ (m : Nat) (r2 : List Int), r = (m : Int) :: r2 ∧ m ≤ r2.length ∧ xs = [r2.take m] ∧ t = r2.drop m := by
  unfold PyFlat.rows PyFlat.row at h
  cases r with
  | nil => simp at h
  | cons z r2 =>
    simp only at h
    by_cases c : 0 ≤ z ∧ z.toNat ≤ r2.length
    · rw [if_pos c] at h
      simp only [PyFlat.rows] at h
      cases h
      exact ⟨z.toNat, r2, by rw [Int.toNat_of_nonneg c.1], c.2, rfl, rfl⟩
    · rw [if_neg c] at h
      simp at h
/-- a call's numbers, its row -/
structure Piece where
  j : Nat
  xs : List Int
  row : List Int
/-- the call of the specification -/
def callOf (j : Nat) (xs row : List Int) : Option Sr58.Call := match j, xs with
  | 0, [a] => some (.begin_ a)
  | 1, [a, b, c] => some (.coin a b c)
  | 2, [a] => some (.all a row)
  | 3, [a, b] => some (.many a b row)
  | 4, [a] => some (.drop a)
  | 5, [a] => some (.want a)
  | 6, [a, b] => some (.lay a b)
  | 7, [a] => some (.lift a)
  | 8, [a] => some (.choose a)
  | 9, [] => some (.run row)
  | 10, [] => some .mean
  | 11, [a, b] => some (.meanif a b)
  | 12, [a] => some (.chance a)
  | 13, [] => some .worth
  | 14, [] => some .best
  | 15, [a] => some (.swing a)
  | 16, [] => some .table
  | 17, [] => some .clear
  | _, _ => none
theorem len0 {l : List Int} (h : l.length = 0) : l = [] := List.length_eq_zero_iff.mp h
theorem len1 {l : List Int} (h : l.length = 1) : ∃ a, l = [a] := List.length_eq_one_iff.mp h
theorem len2 {l : List Int} (h : l.length = 2) : ∃ a b, l = [a, b] := by
  match l, h with
  | [a, b], _ => exact ⟨a, b, rfl⟩
theorem len3 {l : List Int} (h : l.length = 3) : ∃ a b c, l = [a, b, c] := by
  match l, h with
  | [a, b, c], _ => exact ⟨a, b, c, rfl⟩
/-- what one call answers -/
def ans (st : Sr58.State) (x : Sr58.Call) : List Int := (Sr58.step st x).2.num :: (Sr58.step st x).2.nums
theorem step_eq {st : Sr58.State} {c : List (List Int)} {x : Sr58.Call} (h : Sr58Neutral.callOf c = some x) : Sr58Neutral.step st c = ((Sr58.step st x).1, ans st x) := by
  unfold Sr58Neutral.step
  rw [h]
  rfl
theorem piece_call {j : Nat} {xs row : List Int} {rows : List (List Int)} (hj : j < 18) (hx : xs.length = NUM.getD j 0) (hr : (ROW.getD j 0 = 0 ∧ rows = []) ∨ (ROW.getD j 0 = 1 ∧ rows = [row])) :
    ∃ x, callOf j xs row = some x ∧ Sr58Neutral.callOf (PySr58.whole (((j : Int) :: xs) :: rows)) = some x := by
  match j with
  | 0 =>
    obtain ⟨a, rfl⟩ := len1 hx
    rcases hr with ⟨h, rfl⟩ | ⟨h, rfl⟩
    · exact ⟨_, rfl, rfl⟩
    · cases h
  | 1 =>
    obtain ⟨a, b, c, rfl⟩ := len3 hx
    rcases hr with ⟨h, rfl⟩ | ⟨h, rfl⟩
    · exact ⟨_, rfl, rfl⟩
    · cases h
  | 2 =>
    obtain ⟨a, rfl⟩ := len1 hx
    rcases hr with ⟨h, rfl⟩ | ⟨h, rfl⟩
    · cases h
    · exact ⟨_, rfl, rfl⟩
  | 3 =>
    obtain ⟨a, b, rfl⟩ := len2 hx
    rcases hr with ⟨h, rfl⟩ | ⟨h, rfl⟩
    · cases h
    · exact ⟨_, rfl, rfl⟩
  | 4 =>
    obtain ⟨a, rfl⟩ := len1 hx
    rcases hr with ⟨h, rfl⟩ | ⟨h, rfl⟩
    · exact ⟨_, rfl, rfl⟩
    · cases h
  | 5 =>
    obtain ⟨a, rfl⟩ := len1 hx
    rcases hr with ⟨h, rfl⟩ | ⟨h, rfl⟩
    · exact ⟨_, rfl, rfl⟩
    · cases h
  | 6 =>
    obtain ⟨a, b, rfl⟩ := len2 hx
    rcases hr with ⟨h, rfl⟩ | ⟨h, rfl⟩
    · exact ⟨_, rfl, rfl⟩
    · cases h
  | 7 =>
    obtain ⟨a, rfl⟩ := len1 hx
    rcases hr with ⟨h, rfl⟩ | ⟨h, rfl⟩
    · exact ⟨_, rfl, rfl⟩
    · cases h
  | 8 =>
    obtain ⟨a, rfl⟩ := len1 hx
    rcases hr with ⟨h, rfl⟩ | ⟨h, rfl⟩
    · exact ⟨_, rfl, rfl⟩
    · cases h
  | 9 =>
    have := len0 hx; subst this
    rcases hr with ⟨h, rfl⟩ | ⟨h, rfl⟩
    · cases h
    · exact ⟨_, rfl, rfl⟩
  | 10 =>
    have := len0 hx; subst this
    rcases hr with ⟨h, rfl⟩ | ⟨h, rfl⟩
    · exact ⟨_, rfl, rfl⟩
    · cases h
  | 11 =>
    obtain ⟨a, b, rfl⟩ := len2 hx
    rcases hr with ⟨h, rfl⟩ | ⟨h, rfl⟩
    · exact ⟨_, rfl, rfl⟩
    · cases h
  | 12 =>
    obtain ⟨a, rfl⟩ := len1 hx
    rcases hr with ⟨h, rfl⟩ | ⟨h, rfl⟩
    · exact ⟨_, rfl, rfl⟩
    · cases h
  | 13 =>
    have := len0 hx; subst this
    rcases hr with ⟨h, rfl⟩ | ⟨h, rfl⟩
    · exact ⟨_, rfl, rfl⟩
    · cases h
  | 14 =>
    have := len0 hx; subst this
    rcases hr with ⟨h, rfl⟩ | ⟨h, rfl⟩
    · exact ⟨_, rfl, rfl⟩
    · cases h
  | 15 =>
    obtain ⟨a, rfl⟩ := len1 hx
    rcases hr with ⟨h, rfl⟩ | ⟨h, rfl⟩
    · exact ⟨_, rfl, rfl⟩
    · cases h
  | 16 =>
    have := len0 hx; subst this
    rcases hr with ⟨h, rfl⟩ | ⟨h, rfl⟩
    · exact ⟨_, rfl, rfl⟩
    · cases h
  | 17 =>
    have := len0 hx; subst this
    rcases hr with ⟨h, rfl⟩ | ⟨h, rfl⟩
    · exact ⟨_, rfl, rfl⟩
    · cases h
  | j + 18 => omega
/-! ### answers are short -/
theorem flat_len {α : Type} (g : α → List Int) (m : Nat) : ∀ (l : List α), (∀ x ∈ l, (g x).length ≤ m) → (l.flatMap g).length ≤ l.length * m
  | [], _ => by simp
  | x :: l, h => by
    have h1 := h x (List.mem_cons_self ..)
    have h2 := flat_len g m l fun y hy => h y (List.mem_cons_of_mem _ hy)
    rw [List.flatMap_cons, List.length_append, List.length_cons, Nat.add_mul]
    omega
theorem tellTerm_len {n : Nat} {t : Term} (h : termGood n t) : (tellTerm t).length ≤ 73 := by
  obtain ⟨w, k⟩ := t
  cases k with
  | all l =>
    have h2 : l.length ≤ 20 := h.2.2
    show (_ :: _ :: _ :: (l.map _)).length ≤ 73
    simp only [List.length_cons, List.length_map]
    omega
  | many k s =>
    have h2 : s.length ≤ 70 := h.2.2.1
    show (_ :: _ :: _ :: (s.map _)).length ≤ 73
    simp only [List.length_cons, List.length_map]
    omega
theorem ways_len : ∀ {l : List (Option Bool)}, ∀ x ∈ waysFrom l, x.length = l.length
  | [], x, h => by
    unfold waysFrom at h
    rw [List.mem_singleton.mp h]
    rfl
  | some v :: l, x, h => by
    unfold waysFrom at h
    obtain ⟨y, hy, rfl⟩ := List.mem_map.mp h
    have := ways_len y hy
    simp only [List.length_cons, this]
  | none :: l, x, h => by
    unfold waysFrom at h
    rcases List.mem_append.mp h with h | h
    · obtain ⟨y, hy, rfl⟩ := List.mem_map.mp h
      have := ways_len y hy
      simp only [List.length_cons, this]
    · obtain ⟨y, hy, rfl⟩ := List.mem_map.mp h
      have := ways_len y hy
      simp only [List.length_cons, this]
theorem best_mem {α : Type} (g : α → Int) (c : Int → Int → Bool) : ∀ (l : List α) (b : Int × α), (l.foldl (fun b y => if c b.1 (g y) = true then (g y, y) else b) b).2 = b.2 ∨ (l.foldl (fun b y => if c b.1 (g y) = true then (g y, y) else b) b).2 ∈ l
  | [], b => .inl rfl
  | y :: l, b => by
    rw [List.foldl_cons]
    rcases best_mem g c l (if c b.1 (g y) = true then (g y, y) else b) with h | h
    · by_cases e : c b.1 (g y) = true
      · rw [if_pos e] at h ⊢
        right
        rw [h]
        exact List.mem_cons_self ..
      · rw [if_neg e] at h ⊢
        exact .inl h
    · exact .inr (List.mem_cons_of_mem _ h)
theorem best_len (d : Desk) : (Sr58.best d).2.length ≤ d.laid.length := by
  unfold Sr58.best
  have hw := ways_len (l := d.laid)
  have e : ways d = waysFrom d.laid := rfl
  cases c : ways d with
  | nil => exact Nat.zero_le _
  | cons x l =>
    rw [e] at c
    rw [c] at hw
    rcases best_mem (fun y => Sr58.worth d y) (fun p q => if d.much then decide (p < q) else decide (q < p)) l (Sr58.worth d x, x) with h | h
    · have := hw x (List.mem_cons_self ..)
      refine Nat.le_of_eq (Eq.trans (congrArg List.length ?_) this)
      exact h
    · have := hw _ (List.mem_cons_of_mem _ h)
      exact Nat.le_of_eq this
theorem nums_len {cs : List P2} {d : Desk} (R : Rel cs d) (x : Sr58.Call) : (Sr58.doing d x).2.nums.length ≤ 900 := by
  have n10 := R.n10
  have ll := R.len
  have say0 : ∀ z, (Sr58.say z).nums.length ≤ 900 := fun z => Nat.zero_le _
  have tell0 : ∀ z, (Sr58.tell z).nums.length ≤ 900 := fun z => by
    show 2 ≤ 900
    decide
  cases x with
  | begin_ n => exact Nat.zero_le _
  | coin i a b =>
    simp only [Sr58.doing]
    split <;> (try exact say0 _)
    split <;> exact say0 _
  | all w l =>
    simp only [Sr58.doing]
    split <;> (try exact say0 _)
    split <;> exact say0 _
  | many w t s =>
    simp only [Sr58.doing]
    split <;> (try exact say0 _)
    split <;> exact say0 _
  | drop j =>
    simp only [Sr58.doing]
    split <;> exact say0 _
  | want j =>
    simp only [Sr58.doing]
    split <;> exact say0 _
  | lay i v =>
    simp only [Sr58.doing]
    split <;> (try exact say0 _)
    split <;> (try exact say0 _)
    split <;> exact say0 _
  | lift i =>
    simp only [Sr58.doing]
    split <;> (try exact say0 _)
    split <;> exact say0 _
  | choose i =>
    simp only [Sr58.doing]
    split <;> (try exact say0 _)
    split <;> exact say0 _
  | run o =>
    simp only [Sr58.doing]
    split
    · exact say0 _
    · show (laidTold _).length ≤ 900
      rw [laidTold_eq, List.length_map, (Rel.run R).len]
      omega
  | mean => exact tell0 _
  | meanif i v =>
    simp only [Sr58.doing]
    split <;> (try exact say0 _)
    split <;> (try exact say0 _)
    split <;> first | exact say0 _ | exact tell0 _
  | chance j =>
    simp only [Sr58.doing]
    split <;> first | exact say0 _ | exact tell0 _
  | worth =>
    simp only [Sr58.doing]
    split
    · exact say0 _
    · show 1 ≤ 900
      decide
  | best =>
    show (_ :: (Sr58.best d).2.map bit).length ≤ 900
    have := best_len d
    rw [List.length_cons, List.length_map]
    omega
  | swing i =>
    simp only [Sr58.doing]
    split <;> (try exact say0 _)
    split <;> first | exact say0 _ | exact tell0 _
  | table =>
    show (laidTold d ++ (d.terms.length : Int) :: d.terms.flatMap tellTerm).length ≤ 900
    have h1 := flat_len tellTerm 73 d.terms fun t ht => tellTerm_len (R.terms t ht)
    have h2 := R.nt
    rw [List.length_append, List.length_cons, laidTold_eq, List.length_map]
    have h3 : d.terms.length * 73 ≤ 12 * 73 := Nat.mul_le_mul_right _ h2
    omega
  | clear => exact say0 _
theorem ans_len {st : Sr58.State} (h : ∀ d, st = some d → ∃ cs, Rel cs d) (x : Sr58.Call) : (ans st x).length ≤ 1000 := by
  unfold ans
  rw [List.length_cons]
  have say0 : ∀ z, (Sr58.say z).nums.length = 0 := fun z => rfl
  have key : ∀ d, st = some d → ((match Sr58.doing d x with
      | (some r, a) => ((some r : Sr58.State), a)
      | (none, a) => (st, a)) : Sr58.State × Sr58.Ans).2.nums.length ≤ 900 := by
    intro d hd
    obtain ⟨cs, R⟩ := h d hd
    have := nums_len R x
    rcases e : Sr58.doing d x with ⟨o, a⟩
    rw [e] at this
    cases o <;> exact this
  cases st with
  | none => cases x <;> first | exact Nat.le_of_ble_eq_true rfl | skip
            all_goals (simp only [Sr58.step]; split <;> exact Nat.le_of_ble_eq_true rfl)
  | some d =>
    have k := key d rfl
    cases x
    case begin_ n =>
      simp only [Sr58.step]
      split <;> exact Nat.le_of_ble_eq_true rfl
    all_goals exact Nat.le_trans (Nat.add_le_add_right k 1) (by decide)
end Pz
end
section
set_option linter.unusedVariables false
namespace Bs
open Sr58 Fr Mn Dk
/-! ### a way's numbers; what is so -/
def bits (x : List Bool) : List Int := x.map bit
theorem bits_len (x : List Bool) : (bits x).length = x.length := List.length_map _
theorem bits_get {x : List Bool} {i : Nat} (h : i < x.length) : (bits x)[i]? = some (bit (x.getD i false)) := by
  unfold bits
  rw [List.getElem?_map, List.getD_eq_getElem?_getD, List.getElem?_eq_getElem h]
  rfl
theorem bit_eq (b c : Bool) : (bit b = bit c) ↔ b = c := by
  cases b <;> cases c <;> decide
/-- all told -/
theorem lit_iff {x : List Bool} {l : Nat} : (decide (bit (x.getD (l / 2) false) = ((l % 2 : Nat) : Int))) = lit x l := by
  unfold lit
  rcases Nat.mod_two_eq_zero_or_one l with e | e
  · rw [e]
    cases x.getD (l / 2) false <;> rfl
  · rw [e]
    cases x.getD (l / 2) false <;> rfl
theorem ones_sum (x : List Bool) : ∀ (s : List Nat), ((s.map fun i => bit (x.getD i false)).sum) = ((ones x s : Nat) : Int)
  | [] => rfl
  | i :: s => by
    have ih := ones_sum x s
    unfold ones at ih ⊢
    rw [List.map_cons, List.sum_cons, ih, List.filter_cons]
    cases x.getD i false with
    | true =>
      rw [if_pos rfl, List.length_cons]
      show (1 : Int) + _ = _
      omega
    | false =>
      rw [if_neg Bool.false_ne_true]
      show (0 : Int) + _ = _
      omega
/-- the terms told, a way's numbers -/
def worthT (ts : List Term) (x : List Bool) : Int := ((ts.filter fun t => holds x t.sort).map fun t => t.w).sum
theorem worth_eq (x : List Bool) : ∀ (ts : List Term) (a : Int), (ts.map fun t => if holds x t.sort then t.w else 0).foldl (· + ·) a = a + worthT ts x
  | [], a => (Int.add_zero a).symm
  | t :: ts, a => by
    rw [List.map_cons, List.foldl_cons, worth_eq x ts]
    unfold worthT
    rw [List.filter_cons]
    cases holds x t.sort with
    | true =>
      rw [if_pos rfl, if_pos rfl, List.map_cons, List.sum_cons]
      omega
    | false =>
      rw [if_neg Bool.false_ne_true, if_neg Bool.false_ne_true]
      omega
theorem worthT_eq (d : Desk) (x : List Bool) : worthT d.terms x = Sr58.worth d x := by
  unfold Sr58.worth
  rw [worth_eq, Int.zero_add]
/-! ### all ways -/
theorem flat_congr {α β : Type} {f g : α → List β} : ∀ {l : List α}, (∀ x ∈ l, f x = g x) → l.flatMap f = l.flatMap g
  | [], _ => rfl
  | x :: l, h => by
    rw [List.flatMap_cons, List.flatMap_cons, h x (List.mem_cons_self ..), flat_congr fun y hy => h y (List.mem_cons_of_mem _ hy)]
def ext1 (w : List Bool) : Option Bool → List (List Bool)
  | none => [w ++ [false], w ++ [true]]
  | some v => [w ++ [v]]
def ext (W : List (List Bool)) (l : Option Bool) : List (List Bool) := W.flatMap fun w => ext1 w l
theorem ext_all : ∀ (ls : List (Option Bool)) (W : List (List Bool)), ls.foldl ext W = W.flatMap fun w => (waysFrom ls).map fun r => w ++ r
  | [], W => by
    show W = W.flatMap fun w => [w ++ []]
    induction W with
    | nil => rfl
    | cons w W ih =>
      rw [List.flatMap_cons, ← ih, List.append_nil]
      rfl
  | none :: ls, W => by
    rw [List.foldl_cons, ext_all ls]
    unfold ext
    rw [List.flatMap_assoc]
    refine flat_congr fun w _ => ?_
    show (waysFrom ls).map (fun r => w ++ [false] ++ r) ++ ((waysFrom ls).map (fun r => w ++ [true] ++ r) ++ []) = ((waysFrom ls).map (fun r => false :: r) ++ (waysFrom ls).map fun r => true :: r).map fun r => w ++ r
    rw [List.append_nil, List.map_append, List.map_map, List.map_map]
    congr 1
    · refine List.map_congr_left fun r _ => ?_
      show w ++ [false] ++ r = w ++ (false :: r)
      rw [List.append_assoc]
      rfl
    · refine List.map_congr_left fun r _ => ?_
      show w ++ [true] ++ r = w ++ (true :: r)
      rw [List.append_assoc]
      rfl
  | some v :: ls, W => by
    rw [List.foldl_cons, ext_all ls]
    unfold ext
    rw [List.flatMap_assoc]
    refine flat_congr fun w _ => ?_
    show (waysFrom ls).map (fun r => w ++ [v] ++ r) ++ [] = ((waysFrom ls).map fun r => v :: r).map fun r => w ++ r
    rw [List.append_nil, List.map_map]
    refine List.map_congr_left fun r _ => ?_
    show w ++ [v] ++ r = w ++ (v :: r)
    rw [List.append_assoc]
    rfl
theorem ext_ways (d : Desk) : d.laid.foldl ext [[]] = ways d := by
  rw [ext_all]
  show (waysFrom d.laid).map (fun r => [] ++ r) ++ [] = waysFrom d.laid
  rw [List.append_nil]
  conv => rhs; rw [← List.map_id (waysFrom d.laid)]
  exact List.map_congr_left fun r _ => rfl
theorem ext_len (W : List (List Bool)) (l : Option Bool) : (ext W l).length ≤ 2 * W.length := by
  unfold ext
  induction W with
  | nil => exact Nat.le_refl _
  | cons w W ih =>
    rw [List.flatMap_cons, List.length_append, List.length_cons]
    have : (ext1 w l).length ≤ 2 := by
      cases l with
      | none => exact Nat.le_refl 2
      | some v => exact Nat.le_succ 1
    omega
theorem ext_len_all : ∀ (ls : List (Option Bool)) (W : List (List Bool)), (ls.foldl ext W).length ≤ 2 ^ ls.length * W.length
  | [], W => by
    show W.length ≤ 1 * W.length
    omega
  | l :: ls, W => by
    rw [List.foldl_cons, List.length_cons, Nat.pow_succ, Nat.mul_assoc]
    exact Nat.le_trans (ext_len_all ls (ext W l)) (Nat.mul_le_mul_left _ (ext_len W l))
theorem ext_mem_len {n : Nat} {W : List (List Bool)} {l : Option Bool} (h : ∀ w ∈ W, w.length = n) : ∀ w ∈ ext W l, w.length = n + 1 := by
  intro w hw
  unfold ext at hw
  obtain ⟨u, hu, hw⟩ := List.mem_flatMap.mp hw
  have := h u hu
  cases l with
  | none =>
    rcases List.mem_cons.mp hw with e | e
    · rw [e, List.length_append, this]
      rfl
    · rw [List.mem_singleton.mp e, List.length_append, this]
      rfl
  | some v =>
    rw [List.mem_singleton.mp hw, List.length_append, this]
    rfl
theorem ways_ne : ∀ (ls : List (Option Bool)), 0 < (waysFrom ls).length
  | [] => Nat.one_pos
  | some v :: ls => by
    have := ways_ne ls
    show 0 < ((waysFrom ls).map _).length
    rw [List.length_map]
    exact this
  | none :: ls => by
    have := ways_ne ls
    show 0 < (((waysFrom ls).map _) ++ _).length
    rw [List.length_append, List.length_map]
    omega
/-! ### the first of the best -/
/-- c p q: q is better than p. From b on, the first of those that none is better than -/
theorem best_first {α : Type} (g : α → Int) (c : Int → Int → Bool) (ct : ∀ p q r, c p q = true → c q r = true → c p r = true) (cn : ∀ p q r, c p q = false → c q r = false → c p r = false) (ca : ∀ p q, c p q = true → c q p = false) :
    ∀ (l : List α) (x : α), ∃ j : Nat, ∃ y, (x :: l)[j]? = some y ∧ l.foldl (fun b y => if c b.1 (g y) = true then (g y, y) else b) (g x, x) = (g y, y) ∧ (∀ z ∈ x :: l, c (g y) (g z) = false) ∧ ∀ (i : Nat) z, i < j → (x :: l)[i]? = some z → c (g z) (g y) = true
  | [], x => ⟨0, x, rfl, rfl, fun z hz => by
      rw [List.mem_singleton.mp hz]
      cases e : c (g x) (g x) with
      | false => rfl
      | true =>
        rw [ca _ _ e] at e
        exact e.symm, fun i z hi => by omega⟩
  | u :: l, x => by
    have irr : ∀ p, c p p = false := fun p => by
      cases e : c p p with
      | false => rfl
      | true =>
        rw [ca _ _ e] at e
        exact e.symm
    rw [List.foldl_cons]
    by_cases e : c (g x) (g u) = true
    · rw [if_pos e]
      obtain ⟨j, y, h1, h2, h3, h4⟩ := best_first g c ct cn ca l u
      have xy : c (g x) (g y) = true := by
        cases q : c (g x) (g y) with
        | true => rfl
        | false =>
          have a := h3 u (List.mem_cons_self ..)
          have := cn _ _ _ q a
          rw [e] at this
          cases this
      refine ⟨j + 1, y, h1, h2, fun z hz => ?_, fun i z hi hz => ?_⟩
      · rcases List.mem_cons.mp hz with q | q
        · rw [q]
          exact ca _ _ xy
        · exact h3 z q
      · cases i with
        | zero =>
          have : x = z := Option.some.inj hz
          rw [← this]
          exact xy
        | succ i => exact h4 i z (by omega) hz
    · rw [if_neg e]
      have e' : c (g x) (g u) = false := by
        cases q : c (g x) (g u) with
        | false => rfl
        | true => exact absurd q e
      obtain ⟨j, y, h1, h2, h3, h4⟩ := best_first g c ct cn ca l x
      cases j with
      | zero =>
        have xy : x = y := Option.some.inj h1
        subst xy
        refine ⟨0, x, rfl, h2, fun z hz => ?_, fun i z hi => by omega⟩
        rcases List.mem_cons.mp hz with q | q
        · rw [q]
          exact irr _
        · rcases List.mem_cons.mp q with q | q
          · rw [q]
            exact e'
          · exact h3 z (List.mem_cons_of_mem _ q)
      | succ j =>
        have xy : c (g x) (g y) = true := h4 0 x (by omega) rfl
        refine ⟨j + 2, y, h1, h2, fun z hz => ?_, fun i z hi hz => ?_⟩
        · rcases List.mem_cons.mp hz with q | q
          · rw [q]
            exact ca _ _ xy
          · rcases List.mem_cons.mp q with q | q
            · rw [q]
              exact cn _ _ _ (ca _ _ xy) e'
            · exact h3 z (List.mem_cons_of_mem _ q)
        · cases i with
          | zero =>
            have : x = z := Option.some.inj hz
            rw [← this]
            exact xy
          | succ i =>
            cases i with
            | zero =>
              have : u = z := Option.some.inj hz
              rw [← this]
              cases q : c (g u) (g y) with
              | true => rfl
              | false =>
                have := cn _ _ _ e' q
                rw [xy] at this
                cases this
            | succ i => exact h4 (i + 1) z (by omega) hz
def isBetter (much : Bool) (p q : Int) : Bool := if much then decide (p < q) else decide (q < p)
theorem better_t (m : Bool) : ∀ p q r, isBetter m p q = true → isBetter m q r = true → isBetter m p r = true := by
  intro p q r h1 h2
  cases m
  · have a : q < p := of_decide_eq_true h1
    have b : r < q := of_decide_eq_true h2
    exact decide_eq_true (by omega : r < p)
  · have a : p < q := of_decide_eq_true h1
    have b : q < r := of_decide_eq_true h2
    exact decide_eq_true (by omega : p < r)
theorem better_n (m : Bool) : ∀ p q r, isBetter m p q = false → isBetter m q r = false → isBetter m p r = false := by
  intro p q r h1 h2
  cases m
  · have a : ¬ q < p := of_decide_eq_false h1
    have b : ¬ r < q := of_decide_eq_false h2
    exact decide_eq_false (by omega : ¬ r < p)
  · have a : ¬ p < q := of_decide_eq_false h1
    have b : ¬ q < r := of_decide_eq_false h2
    exact decide_eq_false (by omega : ¬ p < r)
theorem better_a (m : Bool) : ∀ p q, isBetter m p q = true → isBetter m q p = false := by
  intro p q h1
  cases m
  · have a : q < p := of_decide_eq_true h1
    exact decide_eq_false (by omega : ¬ p < q)
  · have a : p < q := of_decide_eq_true h1
    exact decide_eq_false (by omega : ¬ q < p)
/-- best, told by the place of the first best way -/
theorem best_at (d : Desk) : ∃ (j : Nat) (y : List Bool), (ways d)[j]? = some y ∧ Sr58.best d = (Sr58.worth d y, y) ∧ (∀ z ∈ ways d, isBetter d.much (Sr58.worth d y) (Sr58.worth d z) = false) ∧ ∀ (i : Nat) z, i < j → (ways d)[i]? = some z → Sr58.worth d z ≠ Sr58.worth d y := by
  have ne := ways_ne d.laid
  cases c : ways d with
  | nil =>
    have : ways d = waysFrom d.laid := rfl
    rw [← this, c] at ne
    exact absurd ne (Nat.lt_irrefl 0)
  | cons x l =>
    obtain ⟨j, y, h1, h2, h3, h4⟩ := best_first (Sr58.worth d) (isBetter d.much) (better_t _) (better_n _) (better_a _) l x
    refine ⟨j, y, h1, ?_, h3, fun i z hi hz q => ?_⟩
    · unfold Sr58.best
      rw [c]
      exact h2
    · have := h4 i z hi hz
      rw [q] at this
      unfold isBetter at this
      cases e : d.much <;> (rw [e] at this; simp at this)
/-! ### fractions told -/
theorem tell_frac (n : Int) {d : Nat} (h : 0 < d) : tell (frac n d) = ⟨0, [n / ((Nat.gcd n.natAbs d : Nat) : Int), (d : Int) / ((Nat.gcd n.natAbs d : Nat) : Int)]⟩ := by
  rw [frac_pos n h]
  unfold tell
  rw [Int.natCast_ediv]
theorem lower_le : ∀ {cs : List P2}, (∀ c ∈ cs, good c) → lower cs ≤ 10 ^ cs.length
  | [], _ => Nat.le_refl 1
  | c :: cs, h => by
    have h1 := (h c (List.mem_cons_self ..)).2.2
    have h2 := lower_le fun q hq => h q (List.mem_cons_of_mem _ hq)
    show c.2.toNat * lower cs ≤ 10 ^ (cs.length + 1)
    rw [Nat.pow_succ, Nat.mul_comm (10 ^ cs.length)]
    exact Nat.mul_le_mul (by omega) h2
theorem lower_small {cs : List P2} (h : ∀ c ∈ cs, good c) (hl : cs.length ≤ 10) : lower cs ≤ 10000000000 :=
  Nat.le_trans (lower_le h) (Nat.le_trans (Nat.pow_le_pow_right (by decide) hl) (by decide))
/-- the product coin by coin -/
theorem lower_take {cs : List P2} {i : Nat} {c : P2} (h : cs[i]? = some c) : lower (cs.take (i + 1)) = lower (cs.take i) * c.2.toNat := by
  have key : ∀ (a b : List P2), lower (a ++ b) = lower a * lower b := by
    intro a b
    induction a with
    | nil =>
      show lower b = 1 * lower b
      rw [Nat.one_mul]
    | cons x a ih =>
      show x.2.toNat * lower (a ++ b) = x.2.toNat * lower a * lower b
      rw [ih, Nat.mul_assoc]
  rw [List.take_add_one, h]
  show lower (cs.take i ++ [c]) = _
  rw [key]
  show _ * (c.2.toNat * 1) = _
  rw [Nat.mul_one]
/-! ### laid, counted -/
theorem count_none (d : Desk) : (laidTold d).count (-1) = (d.laid.filter fun x => x.isNone).length := by
  rw [laidTold_eq]
  induction d.laid with
  | nil => rfl
  | cons x l ih =>
    rw [List.map_cons, List.count_cons, ih, List.filter_cons]
    cases x with
    | none => rfl
    | some b => cases b <;> rfl
theorem count_some (d : Desk) : d.laid.length - (d.laid.filter fun x => x.isNone).length = (d.laid.filter fun x => x.isSome).length := by
  induction d.laid with
  | nil => rfl
  | cons x l ih =>
    have h1 := List.length_filter_le (fun x : Option Bool => x.isNone) l
    rw [List.filter_cons, List.filter_cons]
    cases x with
    | none =>
      show (l.length + 1) - ((l.filter fun x => x.isNone).length + 1) = _
      rw [Nat.add_sub_add_right]
      exact ih
    | some b =>
      show (l.length + 1) - (l.filter fun x => x.isNone).length = (l.filter fun x => x.isSome).length + 1
      omega
theorem full_iff (d : Desk) : full d = false ↔ (-1 : Int) ∈ laidTold d := by
  rw [laidTold_eq, ← Bool.not_eq_true]
  unfold full
  rw [List.all_eq_true, List.mem_map]
  constructor
  · intro h
    refine Classical.byContradiction fun q => h fun x hx => ?_
    cases x with
    | some b => rfl
    | none => exact absurd ⟨none, hx, rfl⟩ q
  · rintro ⟨x, hx, e⟩ h
    have := h x hx
    cases x with
    | none => cases this
    | some b => cases b <;> (revert e; decide)
theorem lies_told {d : Desk} (h : full d = true) : laidTold d = bits (lies d) := by
  unfold full at h
  rw [List.all_eq_true] at h
  rw [laidTold_eq]
  unfold bits lies
  rw [List.map_map]
  refine List.map_congr_left fun x hx => ?_
  have := h x hx
  cases x with
  | none => cases this
  | some b => rfl
/-! ### gcd -/
theorem gcd_turn (a b : Nat) (h : b ≠ 0) : Nat.gcd b (a % b) = Nat.gcd a b := by
  rw [Nat.gcd_comm b, ← Nat.gcd_rec, Nat.gcd_comm]
end Bs
end
section
set_option maxRecDepth 100000
set_option maxHeartbeats 4000000
set_option linter.unusedVariables false
namespace Gn
open PySem PySem.Spec PyProof.Rows L2 Evl
/-- a relation to a value that stands when the heap grows, and when a list is written anew -/
structure Stable (R : Hp → V → Prop) : Prop where
  ex : ∀ Ha Hb v, Ex Ha Hb → R Ha v → R Hb v
  upd : ∀ Ha v D acc acc', R Ha v → Ha D = some (.lst acc) → R (upd Ha D (.lst acc')) v
theorem Stable.eq (z : V) : Stable (fun _ v => v = z) := ⟨fun _ _ _ _ h => h, fun _ _ _ _ _ h _ => h⟩
theorem Stable.tup {K : PySem.W.Frag} (xs : List V) : Stable (fun H v => ∃ t, v = .ref t ∧ SqT K H t xs) := by
  refine ⟨fun Ha Hb v e ⟨t, h1, h2⟩ => ⟨t, h1, ex_t e h2⟩, fun Ha v D acc acc' ⟨t, h1, h2⟩ hD => ⟨t, h1, ?_⟩⟩
  rcases h2 with (h | ⟨o, h⟩) | h
  · have ne : t ≠ D := fun q => by
      rw [q, hD] at h
      cases h
    exact .inl (.inl (by rw [upd_ne ne]; exact h))
  · have ne : t ≠ D := fun q => by
      rw [q, hD] at h
      cases h
    exact .inl (.inr ⟨o, by rw [upd_ne ne]; exact h⟩)
  · exact .inr h
/-- evaluates to some value so related -/
def EvR (te : TE) (σ : L2.St) (H : Hp) (R : Hp → V → Prop) : Prop := ∀ H1, Ex H H1 → ∀ Q : VK, (∀ v H2, Ex H1 H2 → R H2 v → Q v H2) → te σ H1 Q
def EvLR (te : TE) (σ : L2.St) (H : Hp) (n : Nat) (R : Nat → Hp → V → Prop) : Prop := ∀ H1, Ex H H1 → ∀ Q : VK, (∀ p ys H2, H1 p = none → Ex H1 H2 → H2 p = some (.lst ys) → ys.length = n → (∀ i y, ys[i]? = some y → R i H2 y) → Q (.ref p) H2) → te σ H1 Q
theorem er_ev {te : TE} {σ : L2.St} {H : Hp} {v : V} (h : Ev te σ H v) : EvR te σ H (fun _ y => y = v) := fun H1 e Q q => h H1 e Q fun H2 e2 => q v H2 e2 rfl
theorem er_tup {K : PySem.W.Frag} {te : TE} {σ : L2.St} {H : Hp} {xs : List V} (h : EvU te σ H xs) : EvR te σ H (fun H' y => ∃ t, y = .ref t ∧ SqT K H' t xs) := fun H1 e Q q => h H1 e Q fun p H2 _ e2 hp => q _ H2 e2 ⟨p, rfl, st_of hp⟩
section
variable {J : It} {n : Nat} {G : Hp → Prop} {Y : Nat → Hp → V → Hp → Prop} {K : PySem.W.Frag}
theorem lc_rel (w : Walk J n G Y) {g : TG} {te : TE} {vs : List Nat} {σ : L2.St} {H1 : Hp} {D : Addr} {Qd : Hp → Prop} {R : Nat → Hp → V → Prop} (hR : ∀ i, Stable (R i)) (hn : n ≤ 40000) (hD : H1 D = none) (hG : ∀ H', Ex H1 H' → G H')
    (hs : ∀ i x Ha Hb (Qn : VK), i < n → Ex H1 Ha → Y i Ha x Hb → (∀ y Hc, Ex Ha Hc → R i Hc y → Qn y Hc) → g x (wipe σ vs) Hb fun σ2 H2 => wipe σ2 vs = wipe σ vs ∧ te σ2 H2 Qn)
    (hd : ∀ H' ys, Ex H1 H' → H' D = some (.lst ys) → ys.length = n → (∀ i y, ys[i]? = some y → R i H' y) → Qd H') :
    ∃ W : Nat → Nat → Hp → Prop, (∃ m, W 0 m (upd H1 D (.lst []))) ∧ ∀ i m H, W i m H →
      (J.stop i H ∧ Qd H) ∨ (J.go i H ∧ ∃ Nx : Hp → Prop, (∀ H', Nx H' → ∃ m', m' < m ∧ W (i + 1) m' H') ∧ ∀ x H', J.yld i H x H' → g x (wipe σ vs) H' fun σ2 H2 => wipe σ2 vs = wipe σ vs ∧ tYes σ2 H2 fun b H3 =>
        if b = true then te σ2 H3 fun y H4 => ∃ acc, H4 D = some (.lst acc) ∧ acc.length < sizeLine ∧ Nx (upd H4 D (.lst (acc ++ [y]))) else Nx H3) := by
  refine lc_it w (fun i H' => Ex H1 H' ∧ ∃ ys, H' D = some (.lst ys) ∧ ys.length = i ∧ ∀ j y, ys[j]? = some y → R j H' y) ⟨Ex.new hD, [], upd_same, rfl, fun j y q => by simp at q⟩ (fun i H' _ p => hG H' p.1) (fun i x Ha Hb hi p y => ?_) (fun H' p => ?_)
  · obtain ⟨e1, ys, h1, hl, hr⟩ := p
    refine hs i x Ha Hb (fun y H4 => ∃ acc, H4 D = some (.lst acc) ∧ acc.length < sizeLine ∧ (Ex H1 (upd H4 D (.lst (acc ++ [y]))) ∧ ∃ ys, (upd H4 D (.lst (acc ++ [y]))) D = some (.lst ys) ∧ ys.length = i + 1 ∧ ∀ j z, ys[j]? = some z → R j (upd H4 D (.lst (acc ++ [y]))) z)) hi e1 y ?_
    intro z Hc ec hz
    refine ⟨ys, ec D _ h1, sz_lt (by omega), Ex.mut (e1.trans ec) hD, ys ++ [z], upd_same, by rw [List.length_append, hl]; rfl, fun j u hu => ?_⟩
    rw [List.getElem?_append] at hu
    by_cases hj : j < ys.length
    · rw [if_pos hj] at hu
      exact (hR j).upd Hc u D ys _ ((hR j).ex Ha Hc u ec (hr j u hu)) (ec D _ h1)
    · rw [if_neg hj] at hu
      have hj2 : j - ys.length = 0 := by
        have := (List.getElem?_eq_some_iff.mp hu).1
        simp at this
        exact this
      rw [hj2] at hu
      have e : z = u := Option.some.inj hu
      have ej : j = i := by omega
      rw [← e, ej]
      exact (hR i).upd Hc z D ys _ hz (ec D _ h1)
  · obtain ⟨e1, ys, h1, hl, hr⟩ := p
    exact hd H' ys e1 h1 hl hr
variable {σ : L2.St} {H : Hp} {te : TE} {vs : List Nat} {R : Nat → Hp → V → Prop}
theorem lcZ {ta : TA} {a b : Addr} {xs ys : List V} {j1 j2 : Nat} (ha : EvA ta σ H [.ref a, .ref b]) (hx : SqL K H a xs) (hy : SqL K H b ys) (hl : ys.length = xs.length) (hn : xs.length ≤ 40000)
    (hw : ∀ x y, wipe (((wipe σ vs).set j1 (some x)).set j2 (some y)) vs = wipe σ vs) (hR : ∀ i, Stable (R i))
    (he : ∀ i x y H1, Ex H H1 → xs[i]? = some x → ys[i]? = some y → EvR te (((wipe σ vs).set j1 (some x)).set j2 (some y)) H1 (R i)) :
    EvLR (tLc (iZip K ta) (gTup K 2 (gCons (gName j1) (gCons (gName j2) gNil))) tYes te vs) σ H xs.length R := fun H0 e Q q => ha H0 e _ fun H1 e1 => ⟨a, b, xs, ys, rfl, ex_l (e.trans e1) hx, ex_l (e.trans e1) hy, fun D hD => by
  refine lc_rel (walk_zip (xs := xs) (ys := ys) (n := xs.length) (by omega)) hR hn hD (fun H' e2 => ⟨ex_l ((e.trans e1).trans e2) hx, ex_l ((e.trans e1).trans e2) hy⟩) (fun i x Ha Hb Qn hi e2 y k => ?_) (fun H' zs e2 h1 h2 h3 => q D zs H' (fresh_back e1 hD) (e1.trans e2) h1 h2 h3)
  obtain ⟨T, u, v, rfl, hT, rfl, hu, hv⟩ := y
  refine ⟨T, [u, v], rfl, st_of upd_same, rfl, u, [v], rfl, v, [], rfl, rfl, hw u v, ?_⟩
  exact he i u v _ (((e.trans e1).trans e2).trans (Ex.new hT)) hu hv _ (Ex.refl _) Qn fun y Hc ec r => k y Hc ((Ex.new hT).trans ec) r⟩
theorem lcL {tl : TE} {a : Addr} {xs : List V} {j : Nat} (ha : Ev tl σ H (.ref a)) (hx : SqL K H a xs) (hn : xs.length ≤ 40000)
    (hw : ∀ x, wipe ((wipe σ vs).set j (some x)) vs = wipe σ vs) (hR : ∀ i, Stable (R i))
    (he : ∀ i x H1, Ex H H1 → xs[i]? = some x → EvR te ((wipe σ vs).set j (some x)) H1 (R i)) :
    EvLR (tLc (iList K tl) (gName j) tYes te vs) σ H xs.length R := fun H0 e Q q => ha H0 e _ fun H1 e1 => ⟨a, rfl, ⟨xs, ex_l (e.trans e1) hx⟩, fun D hD => by
  refine lc_rel (walk_list (xs := xs)) hR hn hD (fun H' e2 => ex_l ((e.trans e1).trans e2) hx) (fun i x Ha Hb Qn hi e2 y k => ?_) (fun H' zs e2 h1 h2 h3 => q D zs H' (fresh_back e1 hD) (e1.trans e2) h1 h2 h3)
  obtain ⟨rfl, hu⟩ := y
  exact ⟨hw x, he i x _ ((e.trans e1).trans e2) hu _ (Ex.refl _) Qn fun y Hc ec r => k y Hc ec r⟩⟩
theorem lcNL {tl : TE} {xs : List V} {j : Nat} (ha : EvL tl σ H xs) (hn : xs.length ≤ 40000)
    (hw : ∀ x, wipe ((wipe σ vs).set j (some x)) vs = wipe σ vs) (hR : ∀ i, Stable (R i))
    (he : ∀ i x H1, Ex H H1 → xs[i]? = some x → EvR te ((wipe σ vs).set j (some x)) H1 (R i)) :
    EvLR (tLc (iList K tl) (gName j) tYes te vs) σ H xs.length R := fun H0 e Q q => ha H0 e _ fun a H1 a0 e1 hx => ⟨a, rfl, ⟨xs, sq_of hx⟩, fun D hD => by
  refine lc_rel (walk_list (xs := xs)) hR hn hD (fun H' e2 => sq_of (e2 a _ hx)) (fun i x Ha Hb Qn hi e2 y k => ?_) (fun H' zs e2 h1 h2 h3 => q D zs H' (fresh_back e1 hD) (e1.trans e2) h1 h2 h3)
  obtain ⟨rfl, hu⟩ := y
  exact ⟨hw x, he i x _ ((e.trans e1).trans e2) hu _ (Ex.refl _) Qn fun y Hc ec r => k y Hc ec r⟩⟩
theorem lcR1 {ta : TA} {j : Nat} {m : Int} (h : EvA ta σ H [.int m]) (hm : 0 ≤ m ∧ m ≤ 40000)
    (hw : ∀ x, wipe ((wipe σ vs).set j (some x)) vs = wipe σ vs) (hR : ∀ i, Stable (R i))
    (he : ∀ (i : Nat) H1, Ex H H1 → (i : Int) < m → EvR te ((wipe σ vs).set j (some (.int (i : Int)))) H1 (R i)) :
    EvLR (tLc (iRng1 ta) (gName j) tYes te vs) σ H m.toNat R := fun H0 e Q q => h H0 e _ fun H1 e1 => ⟨m, rfl, by omega, by omega, fun D hD => by
  refine lc_rel (walk_range (lo := 0) (n := m.toNat)) hR (by omega) hD (fun H' e2 => trivial) (fun i x Ha Hb Qn hi e2 y k => ?_) (fun H' zs e2 h1 h2 h3 => q D zs H' (fresh_back e1 hD) (e1.trans e2) h1 h2 h3)
  obtain ⟨rfl, rfl⟩ := y
  have e0 : (0 : Int) + (i : Int) = (i : Int) := Int.zero_add _
  show wipe ((wipe σ vs).set j (some (.int ((0 : Int) + (i : Int))))) vs = wipe σ vs ∧ te ((wipe σ vs).set j (some (.int ((0 : Int) + (i : Int))))) Hb Qn
  rw [e0]
  exact ⟨hw _, he i _ ((e.trans e1).trans e2) (by omega) _ (Ex.refl _) Qn fun y Hc ec r => k y Hc ec r⟩⟩
theorem lcR2 {ta : TA} {j : Nat} {lo m : Int} (h : EvA ta σ H [.int lo, .int m]) (hm : 0 ≤ lo ∧ lo ≤ 40000 ∧ -40000 ≤ m ∧ m ≤ 40000)
    (hw : ∀ x, wipe ((wipe σ vs).set j (some x)) vs = wipe σ vs) (hR : ∀ i, Stable (R i))
    (he : ∀ (i : Nat) H1, Ex H H1 → lo + (i : Int) < m → EvR te ((wipe σ vs).set j (some (.int (lo + (i : Int))))) H1 (R i)) :
    EvLR (tLc (iRng2 ta) (gName j) tYes te vs) σ H (m - lo).toNat R := fun H0 e Q q => h H0 e _ fun H1 e1 => ⟨lo, m, rfl, ⟨by omega, by omega, by omega, by omega⟩, fun D hD => by
  refine lc_rel (walk_range (lo := lo) (n := (m - lo).toNat)) hR (by omega) hD (fun H' e2 => trivial) (fun i x Ha Hb Qn hi e2 y k => ?_) (fun H' zs e2 h1 h2 h3 => q D zs H' (fresh_back e1 hD) (e1.trans e2) h1 h2 h3)
  obtain ⟨rfl, rfl⟩ := y
  exact ⟨hw _, he i _ ((e.trans e1).trans e2) (by omega) _ (Ex.refl _) Qn fun y Hc ec r => k y Hc ec r⟩⟩
/-- all items known: a new list -/
theorem el_of {n : Nat} {xs : List V} (hl : xs.length = n) (h : EvLR te σ H n (fun i _ y => xs[i]? = some y)) : EvL te σ H xs := fun H1 e Q q => h H1 e Q fun p ys H2 hp e2 h2 l2 r2 => by
  have : ys = xs := by
    refine List.ext_getElem (by omega) fun i h1 h3 => ?_
    have : xs[i]? = some ys[i] := r2 i ys[i] (List.getElem?_eq_getElem h1)
    rw [List.getElem?_eq_getElem h3] at this
    exact (Option.some.inj this).symm
  subst this
  exact q p H2 hp e2 h2
theorem stable_get (xs : List V) : ∀ i : Nat, Stable (fun (_ : Hp) y => xs[i]? = some y) := fun i => ⟨fun _ _ _ _ h => h, fun _ _ _ _ _ h _ => h⟩
/-- for i, x in enumerate(xs) -/
theorem s_forE {ta : TA} {a : Addr} {xs : List V} {j1 j2 : Nat} {tu : TS} {D : Ends} (h : EvA ta σ H [.ref a]) (hx : SqL K H a xs) (Pv : Nat → L2.St → Hp → Prop) (h0 : ∀ H1, Ex H H1 → Pv 0 σ H1) (hl : ∀ i σ' H', i ≤ xs.length → Pv i σ' H' → SqL K H' a xs)
    (hs : ∀ (i : Nat) x σ' H' H1, xs[i]? = some x → Pv i σ' H' → Ex H' H1 → tu { D with nx := Pv (i + 1), ct := Pv (i + 1), bk := D.nx } ((σ'.set j1 (some (.int (i : Int)))).set j2 (some x)) H1) (hd : ∀ σ' H', Pv xs.length σ' H' → D.nx σ' H') :
    tFor (iEnum K ta) (gTup K 2 (gCons (gName j1) (gCons (gName j2) gNil))) tu D σ H := h H (Ex.refl H) _ fun H1 e => ⟨a, xs, rfl, ex_l e hx, by
  refine for_it (walk_enum (xs := xs)) Pv (h0 H1 e) hl (fun i x σ' Ha Hb hi p y => ?_) hd
  obtain ⟨T, u, v, rfl, hT, rfl, hu, hv⟩ := y
  have hu' : u = .int (i : Int) := (Option.some.inj hu).symm
  subst hu'
  exact ⟨T, [_, v], rfl, st_of upd_same, rfl, _, [v], rfl, v, [], rfl, rfl, hs i v σ' Ha _ hv p (Ex.new hT)⟩⟩
theorem q_forE {ta : TA} {a : Addr} {xs : List V} {j1 j2 : Nat} {tu tz : TS} {D : Ends} (h : EvA ta σ H [.ref a]) (hx : SqL K H a xs) (Pv : Nat → L2.St → Hp → Prop) (h0 : ∀ H1, Ex H H1 → Pv 0 σ H1) (hl : ∀ i σ' H', i ≤ xs.length → Pv i σ' H' → SqL K H' a xs)
    (hs : ∀ (i : Nat) x σ' H' H1, xs[i]? = some x → Pv i σ' H' → Ex H' H1 → tu { D with nx := Pv (i + 1), ct := Pv (i + 1), bk := tz D } ((σ'.set j1 (some (.int (i : Int)))).set j2 (some x)) H1) (hd : ∀ σ' H', Pv xs.length σ' H' → tz D σ' H') :
    tSeq (tFor (iEnum K ta) (gTup K 2 (gCons (gName j1) (gCons (gName j2) gNil))) tu) tz D σ H := s_forE (D := { D with nx := tz D }) h hx Pv h0 hl hs hd
theorem ev_sum {ta : TE} {p : Addr} {ns : List Int} (ha : Ev ta σ H (.ref p)) (h : SqL K H p (ns.map V.int)) : Ev (tCB (rSum K) (tCons ta tNil)) σ H (.int ns.sum) := fun H1 e Q q =>
  ha H1 e _ fun H2 e2 => ⟨p, ns, rfl, ex_l (e.trans e2) h, q H2 e2⟩
theorem ev_sumN {ta : TE} {ns : List Int} (ha : EvL ta σ H (ns.map V.int)) : Ev (tCB (rSum K) (tCons ta tNil)) σ H (.int ns.sum) := fun H1 e Q q =>
  ha H1 e _ fun p H2 _ e2 h2 => ⟨p, ns, rfl, sq_of h2, q H2 e2⟩
theorem ev_allN {ta : TE} {bs : List Bool} (ha : EvL ta σ H (bs.map V.bl)) : Ev (tCB (rAll K) (tCons ta tNil)) σ H (.bl (bs.all id)) := fun H1 e Q q =>
  ha H1 e _ fun p H2 _ e2 h2 => ⟨p, bs, rfl, sq_of h2, q H2 e2⟩
theorem ev_max {ta : TE} {p : Addr} {ns : List Int} {m : Int} (ha : Ev ta σ H (.ref p)) (h : SqL K H p (ns.map V.int)) (hn : 0 < ns.length) (hm : ∀ n, n ∈ ns → (∀ y, y ∈ ns → y ≤ n) → n = m) : Ev (tCB (rMax K) (tCons ta tNil)) σ H (.int m) := fun H1 e Q q =>
  ha H1 e _ fun H2 e2 => ⟨p, ns, rfl, ex_l (e.trans e2) h, hn, fun n h1 h2 => by
    rw [hm n h1 h2]
    exact q H2 e2⟩
theorem ev_min {ta : TE} {p : Addr} {ns : List Int} {m : Int} (ha : Ev ta σ H (.ref p)) (h : SqL K H p (ns.map V.int)) (hn : 0 < ns.length) (hm : ∀ n, n ∈ ns → (∀ y, y ∈ ns → n ≤ y) → n = m) : Ev (tCB (rMin K) (tCons ta tNil)) σ H (.int m) := fun H1 e Q q =>
  ha H1 e _ fun H2 e2 => ⟨p, ns, rfl, ex_l (e.trans e2) h, hn, fun n h1 h2 => by
    rw [hm n h1 h2]
    exact q H2 e2⟩
theorem ev_chain {r r' : R2} {ta tb tc : TE} {x y u : V} {b c : Bool} (ha : Ev ta σ H x) (hb : Ev tb σ H y) (hc : Ev tc σ H u) (h1 : RV r x y H (.bl b)) (h2 : RV r' y u H (.bl c)) : Ev (tChain r r' ta tb tc) σ H (.bl (b && c)) := fun H1 e Q q =>
  ha H1 e _ fun H2 e2 => hb H2 (e.trans e2) _ fun H3 e3 => h1 H3 ((e.trans e2).trans e3) _ fun H4 e4 => ⟨b, rfl, by
    cases b with
    | true => exact iteT (hc H4 (((e.trans e2).trans e3).trans e4) _ fun H5 e5 => h2 H5 ((((e.trans e2).trans e3).trans e4).trans e5) Q fun H6 e6 => q H6 ((((e2.trans e3).trans e4).trans e5).trans e6))
    | false => exact iteF (q H4 ((e2.trans e3).trans e4))⟩
/-- a new list, and one that stands behind it -/
theorem el_catR {ta tb : TE} {xs ys : List V} {q : Addr} (ha : EvL ta σ H xs) (hb : Ev tb σ H (.ref q)) (hq : H q = some (.lst ys)) (hl : xs.length + ys.length ≤ 100000) : EvL (tOp rCat ta tb) σ H (xs ++ ys) := fun H1 e Q k =>
  ha H1 e _ fun p H2 p0 e2 hp => hb H2 (e.trans e2) _ fun H3 e3 => ⟨p, q, xs, ys, rfl, rfl, e3 p _ hp, e3 _ _ (e2 _ _ (e _ _ hq)), sz_of hl, fun r hr => k r _ (fresh_back (e2.trans e3) hr) ((e2.trans e3).trans (Ex.new hr)) upd_same⟩
/-- two new lists, one behind the other -/
theorem el_cat {ta tb : TE} {xs ys : List V} (ha : EvL ta σ H xs) (hb : EvL tb σ H ys) (hl : xs.length + ys.length ≤ 100000) : EvL (tOp rCat ta tb) σ H (xs ++ ys) := fun H1 e Q k =>
  ha H1 e _ fun p H2 p0 e2 hp => hb H2 (e.trans e2) _ fun q H3 q0 e3 hq => ⟨p, q, xs, ys, rfl, rfl, e3 p _ hp, hq, sz_of hl, fun r hr => k r _ (fresh_back (e2.trans e3) hr) ((e2.trans e3).trans (Ex.new hr)) upd_same⟩
end
end Gn
end
section
set_option maxRecDepth 100000
set_option maxHeartbeats 4000000
set_option linter.unusedVariables false
namespace Co
open PySem PySem.Spec PyProof.Rows L2 Evl Gn
def top (i : Nat) : Stmt := PySem.Challenge.pw_laidcoins_s01_answers.main.body.getD i (.Pass ⟨0, 0, 0, 0⟩)
abbrev cls : Stmt := top 47
def GI (mg : Str → Option Value) (x : Str) (i : Int) : Prop := ∃ t, mg x = some (.int i t)
theorem pe_gi {X : Cx} {x : Str} {pos : Pos} {i : Int} (hg : Gl X x) (h : GI X.mg x i) (hd : (x == ("__debug__" : Str)) = false := by decide) : PE X (.Name x pos) (tC (.int i)) := by
  obtain ⟨t, e⟩ := h
  exact pe_glob (v := .int i) hg e ⟨_, rfl⟩ hd
def iv (ns : List Int) : List V := ns.map V.int
theorem iv_get {ns : List Int} {i : Nat} {x : V} (h : (iv ns)[i]? = some x) : ∃ z, ns[i]? = some z ∧ x = .int z := by
  unfold iv at h
  rw [List.getElem?_map] at h
  cases e : ns[i]? with
  | none =>
    rw [e] at h
    cases h
  | some z =>
    rw [e] at h
    exact ⟨z, rfl, (Option.some.inj h).symm⟩
theorem iv_len (ns : List Int) : (iv ns).length = ns.length := List.length_map _
/-- the names of Python's own that the program uses -/
structure Bl (mg : Str → Option Value) : Prop where
  len : mg "len" = none
  range : mg "range" = none
  enum : mg "enumerate" = none
  zip : mg "zip" = none
  sum : mg "sum" = none
  list : mg "list" = none
  all : mg "all" = none
  abs : mg "abs" = none
  max : mg "max" = none
  min : mg "min" = none
abbrev rLt : R2 := rI0 fun i j => .bl (decide (i < j))
abbrev rLe : R2 := rI0 fun i j => .bl (decide (i ≤ j))
abbrev rGe : R2 := rI0 fun i j => .bl (decide (j ≤ i))
abbrev rSu : R2 := rI0 fun i j => .int (i - j)
section
variable {P : Program} {w : World} {K : PySem.W.Frag} {mg : Str → Option Value} {base : Heap} {f : Addr} {fd : FuncData}
/-! ### is_weight -/
abbrev sIsWeight : Stmt := top 34
theorem scIsWeight : FnScope ["w"] ["w"] (defScope sIsWeight) := ⟨rfl, rfl, rfl, by decide +kernel, rfl, by decide +kernel, by decide +kernel⟩
def isWeight (w : Int) : Bool := decide (-100 ≤ w) && decide (w ≤ 100)
def spIsWeight : Sp := fun vs H Q _ => ∃ w : Int, vs = [.int w] ∧ ∀ H', Ex H H' → Q (.bl (isWeight w)) H'
theorem ok_isWeight (F : Fun K "is_weight" "is_weight" sIsWeight f fd) (g : GI mg "MOST_WEIGHT" 100) : FnOk P w K mg base CX0 1 f fd ["w"] spIsWeight := by
  refine F.ok scIsWeight (fun vs H Q E h => ?_) (fun cdv A outer s H vs Q E hr h => ?_)
  · obtain ⟨w, rfl, _⟩ := h
    rfl
  · obtain ⟨w, rfl, k⟩ := h
    refine ⟨_, pss_one (ps_ret (pe_chain op_le op_le (pe_un un_neg (pe_gi rfl g)) (pv 0) (pe_gi rfl g))), ?_⟩
    refine ⟨100, rfl, _, rfl, _, _, rfl, rfl, _, rfl, ?_⟩
    refine ite2 (fun h => ?_) (fun h => ?_)
    · refine ⟨_, _, rfl, rfl, ?_⟩
      have e : isWeight w = decide (w ≤ 100) := by
        unfold isWeight
        rw [h, Bool.true_and]
      have q := k H (Ex.refl H)
      rw [e] at q
      exact q
    · have e : isWeight w = false := by
        unfold isWeight
        rw [Bool.not_eq_true] at h
        rw [h, Bool.false_and]
      have q := k H (Ex.refl H)
      rw [e] at q
      exact q
/-! ### within -/
abbrev sWithin : Stmt := top 35
abbrev nWithin : List Str := ["row", "end", "number"]
theorem scWithin : FnScope nWithin ["row", "end"] (defScope sWithin) := ⟨rfl, rfl, rfl, by decide +kernel, rfl, by decide +kernel, by decide +kernel⟩
def within (ns : List Int) (e : Int) : Bool := ns.all fun x => decide (0 ≤ x) && decide (x < e)
def spWithin (K : PySem.W.Frag) : Sp := fun vs H Q _ => ∃ (a : Addr) (ns : List Int) (e : Int), vs = [.ref a, .int e] ∧ SqL K H a (iv ns) ∧ ns.length ≤ 5000 ∧ ∀ H', Ex H H' → Q (.bl (within ns e)) H'
theorem ok_within (F : Fun K "within" "within" sWithin f fd) (B : Bl mg) : FnOk P w K mg base CX0 1 f fd ["row", "end"] (spWithin K) := by
  refine F.ok scWithin (fun vs H Q E h => ?_) (fun cdv A outer s H vs Q E hr h => ?_)
  · obtain ⟨a, ns, e, rfl, _⟩ := h
    rfl
  · obtain ⟨a, ns, e, rfl, hS, hl, k⟩ := h
    refine ⟨_, pss_one (ps_ret (pe_callB (cr_all rfl) (by rfl) B.all (by decide +kernel) (pa_cons (pe_lc (own := [("number", 2)]) (g := gName 2) (tt := tYes) (te := tChain rLe rLt (tC (.int 0)) (tVar 2) (tVar 1)) rfl scWithin.nd (pi_list (pv 0)) (blkOk_by (own := [("number", 2)]) (N := nWithin) (sc := defScope sWithin) (by decide +kernel))
      (fun _ _ _ _ _ => pg_name (i := 2) scWithin.nd rfl (Or.inl rfl)) (fun _ _ _ _ _ => pts_nil) (fun _ _ _ _ _ => pe_chain op_le op_lt pe_int (pv 2) (pv 1))) pa_nil))), ?_⟩
    have L := iv_len ns
    refine s_ret (ev_allN (K := K) (bs := ns.map fun x => decide (0 ≤ x) && decide (x < e)) (el_of (n := (iv ns).length) (by rw [List.length_map, List.length_map, L]) (lcL (K := K) (ev_var rfl) hS (by omega) (fun _ => rfl) (stable_get _) (fun i x H1 e1 hx => ?_)))) fun H2 e2 => ?_
    · obtain ⟨z, hz, rfl⟩ := iv_get hx
      intro H2 e2 Q q
      refine (ev_chain ev_c (ev_var rfl) (ev_var rfl) rv_I0 rv_I0) H2 e2 Q fun H3 e3 => q _ H3 e3 ?_
      rw [List.getElem?_map, List.getElem?_map, hz]
      rfl
    · have q := k H2 e2
      have : within ns e = (ns.map fun x => decide (0 ≤ x) && decide (x < e)).all id := by
        rw [List.all_map]
        rfl
      rw [this] at q
      exact q
end
end Co
end
section
set_option maxRecDepth 100000
set_option maxHeartbeats 4000000
set_option linter.unusedVariables false
namespace Co
open PySem PySem.Spec PyProof.Rows L2 Evl Gn Mn Dk
theorem inV_iv (z : Int) : ∀ (ns : List Int), inV (.int z) (iv ns) = decide (z ∈ ns)
  | [] => by simp [inV, iv]
  | n :: ns => by
    have ih := inV_iv z ns
    show (eqV (.int n) (.int z) || inV (.int z) (iv ns)) = _
    rw [ih]
    show ((n == z) || decide (z ∈ ns)) = _
    by_cases e : n = z
    · subst e
      simp
    · have e' : ¬ z = n := fun q => e q.symm
      simp [e, e', List.mem_cons]
theorem iv_flat (ns : List Int) : (iv ns).all flatV = true := by
  unfold iv
  rw [List.all_map, List.all_eq_true]
  intro x _
  rfl
def pr2 (p : P2) : List V := [.int p.1, .int p.2]
def PairV (K : PySem.W.Frag) (p : P2) : Hp → V → Prop := fun H v => ∃ t, v = .ref t ∧ SqT K H t (pr2 p)
def PairsV (K : PySem.W.Frag) (H : Hp) (rs : List V) (ps : List P2) : Prop := rs.length = ps.length ∧ ∀ (i : Nat) r, rs[i]? = some r → ∃ p, ps[i]? = some p ∧ PairV K p H r
def PairsAt (K : PySem.W.Frag) (H : Hp) (a : Addr) (ps : List P2) : Prop := ∃ rs, SqL K H a rs ∧ PairsV K H rs ps
theorem PairV.ex {K : PySem.W.Frag} {p : P2} {H H' : Hp} {v : V} (e : Ex H H') (h : PairV K p H v) : PairV K p H' v := by
  obtain ⟨t, h1, h2⟩ := h
  exact ⟨t, h1, ex_t e h2⟩
theorem PairsV.ex {K : PySem.W.Frag} {H H' : Hp} {rs : List V} {ps : List P2} (e : Ex H H') (h : PairsV K H rs ps) : PairsV K H' rs ps :=
  ⟨h.1, fun i r hr => by
    obtain ⟨p, h1, h2⟩ := h.2 i r hr
    exact ⟨p, h1, h2.ex e⟩⟩
theorem PairsAt.ex {K : PySem.W.Frag} {H H' : Hp} {a : Addr} {ps : List P2} (e : Ex H H') (h : PairsAt K H a ps) : PairsAt K H' a ps := by
  obtain ⟨rs, h1, h2⟩ := h
  exact ⟨rs, ex_l e h1, h2.ex e⟩
def small (p : P2) : Prop := (0 ≤ p.1 ∧ p.1 ≤ 10) ∧ (0 ≤ p.2 ∧ p.2 ≤ 10)
def TermV (K : PySem.W.Frag) (t : T3) : Hp → V → Prop := fun H v => ∃ a q, v = .ref a ∧ SqT K H a [.int t.1, .int t.2.1, .ref q] ∧ SqL K H q (iv t.2.2)
def TermsV (K : PySem.W.Frag) (H : Hp) (rs : List V) (ts : List T3) : Prop := rs.length = ts.length ∧ ∀ (i : Nat) r, rs[i]? = some r → ∃ t, ts[i]? = some t ∧ TermV K t H r
theorem TermV.ex {K : PySem.W.Frag} {t : T3} {H H' : Hp} {v : V} (e : Ex H H') (h : TermV K t H v) : TermV K t H' v := by
  obtain ⟨a, q, h1, h2, h3⟩ := h
  exact ⟨a, q, h1, ex_t e h2, ex_l e h3⟩
theorem TermsV.ex {K : PySem.W.Frag} {H H' : Hp} {rs : List V} {ts : List T3} (e : Ex H H') (h : TermsV K H rs ts) : TermsV K H' rs ts :=
  ⟨h.1, fun i r hr => by
    obtain ⟨p, h1, h2⟩ := h.2 i r hr
    exact ⟨p, h1, h2.ex e⟩⟩
theorem ev_mul {σ : L2.St} {H : Hp} {ta tb : TE} {i j : Int} (ha : Ev ta σ H (.int i)) (hb : Ev tb σ H (.int j)) (h : (-(2 ^ 64) < i ∧ i < 2 ^ 64) ∨ (-(2 ^ 64) < j ∧ j < 2 ^ 64)) :
    Ev (tOp (rI (fun i j => (-(2 ^ 64) < i ∧ i < 2 ^ 64) ∨ (-(2 ^ 64) < j ∧ j < 2 ^ 64)) fun i j => .int (i * j)) ta tb) σ H (.int (i * j)) := ev_op ha hb (rv_I h)
theorem take_one {α : Type} {l : List α} {i : Nat} {z : α} (h : l[i]? = some z) : l.take (i + 1) = l.take i ++ [z] := by
  rw [List.take_add_one, h]
  rfl
theorem drop_one {α : Type} {l : List α} {i : Nat} {z : α} (h : l[i]? = some z) : l.drop i = z :: l.drop (i + 1) := by
  obtain ⟨h1, h2⟩ := List.getElem?_eq_some_iff.mp h
  rw [List.drop_eq_getElem_cons h1, h2]
section
variable {P : Program} {w : World} {K : PySem.W.Frag} {mg : Str → Option Value} {base : Heap} {f : Addr} {fd : FuncData}
/-! ### is_rising -/
abbrev sRising : Stmt := top 36
theorem scRising : FnScope ["row", "k"] ["row"] (defScope sRising) := ⟨rfl, rfl, rfl, by decide +kernel, rfl, by decide +kernel, by decide +kernel⟩
def spRising (K : PySem.W.Frag) : Sp := fun vs H Q _ => ∃ (a : Addr) (ns : List Int), vs = [.ref a] ∧ SqL K H a (iv ns) ∧ ns.length ≤ 5000 ∧ RetV (.bl (Sr58.rising ns)) H Q
theorem rising_iff : ∀ (ns : List Int), Sr58.rising ns = true ↔ ∀ (i : Nat) (x y : Int), ns[i]? = some x → ns[i + 1]? = some y → x < y
  | [] => by simp [Sr58.rising]
  | [a] => by simp [Sr58.rising]
  | a :: b :: l => by
    have ih := rising_iff (b :: l)
    unfold Sr58.rising
    rw [Bool.and_eq_true, decide_eq_true_iff, ih]
    constructor
    · rintro ⟨h1, h2⟩ i x y hx hy
      cases i with
      | zero =>
        have e1 : a = x := Option.some.inj hx
        have e2 : b = y := Option.some.inj hy
        omega
      | succ i => exact h2 i x y hx hy
    · intro h
      exact ⟨h 0 a b rfl rfl, fun i x y hx hy => h (i + 1) x y hx hy⟩
def riseAt (ns : List Int) (i : Nat) : Bool := decide (ns.getD i 0 < ns.getD (i + 1) 0)
theorem getD_of {ns : List Int} {i : Nat} {x : Int} (h : ns[i]? = some x) : ns.getD i 0 = x := by
  rw [List.getD_eq_getElem?_getD, h]
  rfl
theorem rising_all (ns : List Int) : ((List.range (ns.length - 1)).map (riseAt ns)).all id = Sr58.rising ns := by
  rw [Bool.eq_iff_iff, rising_iff, List.all_map, List.all_eq_true]
  constructor
  · intro h i x y hx hy
    have hi := (List.getElem?_eq_some_iff.mp hy).1
    have : riseAt ns i = true := h i (List.mem_range.mpr (by omega))
    unfold riseAt at this
    rw [getD_of hx, getD_of hy] at this
    exact of_decide_eq_true this
  · intro h i hi
    have hi := List.mem_range.mp hi
    show riseAt ns i = true
    have h0 : ns[i]? = some (ns[i]'(by omega)) := List.getElem?_eq_getElem (by omega)
    have h1 : ns[i + 1]? = some (ns[i + 1]'(by omega)) := List.getElem?_eq_getElem (by omega)
    unfold riseAt
    rw [getD_of h0, getD_of h1]
    exact decide_eq_true (h i _ _ h0 h1)
theorem ok_rising (F : Fun K "is_rising" "is_rising" sRising f fd) (B : Bl mg) : FnOk P w K mg base CX0 1 f fd ["row"] (spRising K) := by
  refine F.ok scRising (fun vs H Q E h => ?_) (fun cdv A outer s H vs Q E hr h => ?_)
  · obtain ⟨a, ns, rfl, _⟩ := h
    rfl
  · obtain ⟨a, ns, rfl, hS, hl, k⟩ := h
    refine ⟨_, pss_one (ps_ret (pe_callB (cr_all rfl) (by rfl) B.all (by decide +kernel) (pa_cons (pe_lc (own := [("k", 1)]) (g := gName 1) (tt := tYes) (te := tOp rLt (tOp (rIxL K) (tVar 0) (tOp rSu (tVar 1) (tC (.int 1)))) (tOp (rIxL K) (tVar 0) (tVar 1))) rfl scRising.nd (pi_range2 (by rfl) B.range (pa_cons pe_int (pa_cons (pe_callB call_len_seq (by rfl) B.len PySem.boot_len (pa_cons (pv 0) pa_nil)) pa_nil)))
      (blkOk_by (own := [("k", 1)]) (N := ["row", "k"]) (sc := defScope sRising) (by decide +kernel)) (fun _ _ _ _ _ => pg_name (i := 1) scRising.nd rfl (Or.inl rfl)) (fun _ _ _ _ _ => pts_nil) (fun _ _ _ _ _ => pe_cmpR op_lt (pe_ix ix_list (pv 0) (pe_op op_sub (pv 1) pe_int) (fun _ _ => rfl)) (pe_ix ix_list (pv 0) (pv 1) (fun _ _ => rfl)) (nomark _))) pa_nil))), ?_⟩
    have L := iv_len ns
    refine s_ret (ev_allN (K := K) (bs := (List.range (ns.length - 1)).map (riseAt ns)) (el_of (n := (((iv ns).length : Int) - 1).toNat) (by rw [List.length_map, List.length_map, List.length_range]; omega) (lcR2 (lo := 1) (m := ((iv ns).length : Int)) (ea_cons ev_c (ea_cons (ev_len (K := K) (ev_var rfl) hS) ea_nil)) ⟨by decide, by decide, by omega, by omega⟩ (fun _ => rfl) (stable_get _) (fun i H1 e1 hi => ?_)))) fun H2 e2 => ?_
    · have g1 : ns[i + 1]? = some (ns[i + 1]'(by omega)) := List.getElem?_eq_getElem (by omega)
      have g0 : ns[i]? = some (ns[i]'(by omega)) := List.getElem?_eq_getElem (by omega)
      have q1 : atI (iv ns) (1 + (i : Int)) = some (.int (ns[i + 1]'(by omega))) := at_of (j := i + 1) (by omega) (by unfold iv; rw [List.getElem?_map, g1]; rfl)
      have q0 : atI (iv ns) (1 + (i : Int) - 1) = some (.int (ns[i]'(by omega))) := at_of (j := i) (by omega) (by unfold iv; rw [List.getElem?_map, g0]; rfl)
      intro H2 e2 Q q
      refine (ev_op (ev_op (ev_var rfl) (ev_op (ev_var rfl) ev_c rv_I0) (rv_ixL (K := K) (ex_l e1 hS) q0)) (ev_op (ev_var rfl) (ev_var rfl) (rv_ixL (K := K) (ex_l e1 hS) q1)) rv_I0) H2 e2 Q fun H3 e3 => q _ H3 e3 ?_
      rw [List.getElem?_map, List.getElem?_map, List.getElem?_range (by omega)]
      show some (V.bl (riseAt ns i)) = _
      unfold riseAt
      rw [getD_of g0, getD_of g1]
    · have q := k.go e2
      rw [← rising_all] at q
      exact q
/-! ### coin_parts -/
abbrev sCoinParts : Stmt := top 37
theorem scCoinParts : FnScope ["chance", "lies", "a", "b"] ["chance", "lies"] (defScope sCoinParts) := ⟨rfl, rfl, rfl, by decide +kernel, rfl, by decide +kernel, by decide +kernel⟩
def spCoinParts (K : PySem.W.Frag) : Sp := fun vs H Q _ => ∃ (v : V) (c : P2) (l : Int), vs = [v, .int l] ∧ PairV K c H v ∧ ∀ p H2, H p = none → Ex H H2 → H2 p = some (.tup (pr2 (coinParts c l))) → Q (.ref p) H2
theorem ok_coinParts (F : Fun K "coin_parts" "coin_parts" sCoinParts f fd) : FnOk P w K mg base CX0 1 f fd ["chance", "lies"] (spCoinParts K) := by
  refine F.ok scCoinParts (fun vs H Q E h => ?_) (fun cdv A outer s H vs Q E hr h => ?_)
  · obtain ⟨v, c, l, rfl, _⟩ := h
    rfl
  · obtain ⟨v, c, l, rfl, ⟨t, rfl, hT⟩, k⟩ := h
    refine ⟨_, pss_cons (ps_set (i := 2) scCoinParts.nd rfl (Or.inl rfl) (pe_ix ix_tup (pv 0) pe_int (fun _ _ => rfl)))
      (pss_cons (ps_set (i := 3) scCoinParts.nd rfl (Or.inl rfl) (pe_ix ix_tup (pv 0) pe_int (fun _ _ => rfl)))
      (pss_cons (ps_if (pt_cmpR op_eq (pv 1) pe_int (nomark _)) (pss_one (ps_ret (pe_tup (pa_cons (pv 3) (pa_cons pe_int pa_nil))))) pss_nil)
      (pss_cons (ps_if (pt_cmpR op_eq (pv 1) pe_int (nomark _)) (pss_one (ps_ret (pe_tup (pa_cons pe_int (pa_cons (pv 3) pa_nil))))) pss_nil)
      (pss_one (ps_ret (pe_tup (pa_cons (pe_op op_sub (pv 3) (pv 2)) (pa_cons (pv 2) pa_nil)))))))), ?_⟩
    refine q_asg (ev_op (ev_var rfl) ev_c (rv_ixT (K := K) hT (at_of (j := 0) rfl rfl))) fun H1 e1 => ?_
    refine q_asg (ev_op (ev_var rfl) ev_c (rv_ixT (K := K) (ex_t e1 hT) (at_of (j := 1) rfl rfl))) fun H2 e2 => ?_
    refine q_when (et_test (ev_op (ev_var rfl) ev_c (rv_eq rfl))) (fun hb H3 e3 => ?_) (fun hb H3 e3 => ?_)
    · have : l = 0 := by
        have := of_decide_eq_true hb
        injection this
      refine s_retU (eu_tup (ea_cons (ev_var rfl) (ea_cons ev_c ea_nil)) (by show 2 ≤ 100000; decide)) fun p H4 hp e4 h4 => ?_
      refine k p H4 (fresh_back ((e1.trans e2).trans e3) hp) (((e1.trans e2).trans e3).trans e4) ?_
      rw [h4]
      unfold coinParts
      rw [if_pos this]
      rfl
    · have n0 : ¬ l = 0 := by
        have := of_decide_eq_false hb
        intro q
        exact this (by rw [q])
      refine q_when (et_test (ev_op (ev_var rfl) ev_c (rv_eq rfl))) (fun hb H3' e3' => ?_) (fun hb H3' e3' => ?_)
      · have n1 : l = 1 := by
          have := of_decide_eq_true hb
          injection this
        refine s_retU (eu_tup (ea_cons ev_c (ea_cons (ev_var rfl) ea_nil)) (by show 2 ≤ 100000; decide)) fun p H4 hp e4 h4 => ?_
        refine k p H4 (fresh_back (((e1.trans e2).trans e3).trans e3') hp) ((((e1.trans e2).trans e3).trans e3').trans e4) ?_
        rw [h4]
        unfold coinParts
        rw [if_neg n0, if_pos n1]
        rfl
      · have n1 : ¬ l = 1 := by
          have := of_decide_eq_false hb
          intro q
          exact this (by rw [q])
        refine s_retU (eu_tup (ea_cons (ev_op (ev_var rfl) (ev_var rfl) rv_I0) (ea_cons (ev_var rfl) ea_nil)) (by show 2 ≤ 100000; decide)) fun p H4 hp e4 h4 => ?_
        refine k p H4 (fresh_back (((e1.trans e2).trans e3).trans e3') hp) ((((e1.trans e2).trans e3).trans e3').trans e4) ?_
        rw [h4]
        unfold coinParts
        rw [if_neg n0, if_neg n1]
        rfl
end
end Co
end
section
set_option maxRecDepth 100000
set_option maxHeartbeats 4000000
set_option linter.unusedVariables false
namespace Co
open PySem PySem.Spec PyProof.Rows L2 Evl Gn Mn Dk
section
variable {P : Program} {w : World} {K : PySem.W.Frag} {mg : Str → Option Value} {base : Heap} {f : Addr} {fd : FuncData}
/-! ### parts_as_told -/
abbrev sAsTold : Stmt := top 38
theorem scAsTold : FnScope ["parts", "row", "found", "i", "part", "fitting"] ["parts", "row"] (defScope sAsTold) := ⟨rfl, rfl, rfl, by decide +kernel, rfl, by decide +kernel, by decide +kernel⟩
def spAsTold (K : PySem.W.Frag) : Sp := fun vs H Q _ => ∃ (a b : Addr) (ps : List P2) (row : List Int), vs = [.ref a, .ref b] ∧ PairsAt K H a ps ∧ (∀ p ∈ ps, small p) ∧ SqL K H b (iv row) ∧ RetV (.int (allParts 0 ps row)) H Q
theorem pair_at0 (p : P2) : atI (pr2 p) 0 = some (.int p.1) := at_of (j := 0) rfl rfl
theorem pair_at1 (p : P2) : atI (pr2 p) 1 = some (.int p.2) := at_of (j := 1) rfl rfl
theorem ok_asTold (F : Fun K "parts_as_told" "parts_as_told" sAsTold f fd) (B : Bl mg) : FnOk P w K mg base CX0 1 f fd ["parts", "row"] (spAsTold K) := by
  refine F.ok scAsTold (fun vs H Q E h => ?_) (fun cdv A outer s H vs Q E hr h => ?_)
  · obtain ⟨a, b, ps, row, rfl, _⟩ := h
    rfl
  · obtain ⟨a, b, ps, row, rfl, ⟨rs, hA, hP⟩, hsm, hB, k⟩ := h
    refine ⟨_, pss_cons (ps_set (i := 2) scAsTold.nd rfl (Or.inl rfl) pe_int)
      (pss_cons (ps_for PassesOwn.never rfl (pi_enum (by rfl) B.enum (pa_cons (pv 0) pa_nil)) (pg_tup rfl (pgs_cons (pg_name (i := 3) scAsTold.nd rfl (Or.inl rfl)) (pgs_cons (pg_name (i := 4) scAsTold.nd rfl (Or.inl rfl)) pgs_nil)))
        (pss_cons (ps_set (i := 5) scAsTold.nd rfl (Or.inl rfl) pe_int)
        (pss_cons (ps_if (pt_cmpR op_notIn_seq (pe_op op_add (pe_op op_mul pe_int (pv 3)) pe_int) (pv 1) (by rfl)) (pss_one (ps_set (i := 5) scAsTold.nd rfl (Or.inl rfl) (pe_op op_add (pv 5) (pe_ix ix_tup (pv 4) pe_int (fun _ _ => rfl))))) pss_nil)
        (pss_cons (ps_if (pt_cmpR op_notIn_seq (pe_op op_mul pe_int (pv 3)) (pv 1) (by rfl)) (pss_one (ps_set (i := 5) scAsTold.nd rfl (Or.inl rfl) (pe_op op_add (pv 5) (pe_ix ix_tup (pv 4) pe_int (fun _ _ => rfl))))) pss_nil)
        (pss_one (ps_set (i := 2) scAsTold.nd rfl (Or.inl rfl) (pe_op op_mul (pv 2) (pv 5))))))))
      (pss_one (ps_ret (pv 2)))), ?_⟩
    refine q_asg ev_c fun H0 e0 => ?_
    refine q_forE (K := K) (xs := rs) (ea_cons (ev_var rfl) ea_nil) (ex_l e0 hA) (fun i σ H' => ∃ (z : Int) (u v x : Option V), σ = [some (.ref a), some (.ref b), some (.int z), u, v, x] ∧ Ex H H' ∧ z * allParts i (ps.drop i) row = allParts 0 ps row)
      (fun H1 e1 => ⟨1, none, none, none, rfl, e0.trans e1, Int.one_mul _⟩) (fun i σ H' _ ⟨_, _, _, _, _, e1, _⟩ => ex_l e1 hA) ?_ ?_
    · rintro i x σ H' H1 hi ⟨z, u, v, y, rfl, e1, hz⟩ e2
      obtain ⟨p, hp, t, rfl, hT⟩ := hP.2 i x hi
      have E1 := e1.trans e2
      have sm := hsm p (List.mem_of_getElem? hp)
      rw [drop_one hp] at hz
      have hz : z * (fit i p row * allParts (i + 1) (ps.drop (i + 1)) row) = allParts 0 ps row := hz
      refine q_asg ev_c fun H2 e3 => ?_
      have E2 := E1.trans e3
      refine q_ifAsg (v := .int (if 2 * (i : Int) + 1 ∈ row then 0 else p.1)) (et_test (ev_op (ev_op (ev_op ev_c (ev_var rfl) (rv_I (Or.inl ⟨by decide, by decide⟩))) ev_c rv_I0) (ev_var rfl) (rv_niL (K := K) (ex_l E2 hB) rfl (iv_flat row)))) (fun hb => ?_) (fun hb => ?_) fun H3 e4 => ?_
      · rw [inV_iv, Bool.not_eq_true', decide_eq_false_iff_not] at hb
        rw [if_neg hb]
        refine ev_is (ev_op (ev_var rfl) (ev_op (ev_var rfl) ev_c (rv_ixT (K := K) (ex_t E2 hT) (pair_at0 p))) rv_I0) ?_
        show V.int (0 + p.1) = V.int p.1
        rw [Int.zero_add]
      · rw [inV_iv, Bool.not_eq_false', decide_eq_true_iff] at hb
        rw [if_pos hb]
        rfl
      have E3 := E2.trans e4
      refine q_ifAsg (v := .int (fit i p row)) (et_test (ev_op (ev_op ev_c (ev_var rfl) (rv_I (Or.inl ⟨by decide, by decide⟩))) (ev_var rfl) (rv_niL (K := K) (ex_l E3 hB) rfl (iv_flat row)))) (fun hb => ?_) (fun hb => ?_) fun H4 e5 => ?_
      · rw [inV_iv, Bool.not_eq_true', decide_eq_false_iff_not] at hb
        refine ev_is (ev_op (ev_var rfl) (ev_op (ev_var rfl) ev_c (rv_ixT (K := K) (ex_t E3 hT) (pair_at1 p))) rv_I0) ?_
        unfold fit
        rw [if_neg hb]
      · rw [inV_iv, Bool.not_eq_false', decide_eq_true_iff] at hb
        unfold fit
        rw [if_pos hb, Int.add_zero]
        rfl
      have E4 := E3.trans e5
      have fb : -(2 ^ 64) < fit i p row ∧ fit i p row < 2 ^ 64 := by
        obtain ⟨⟨a1, a2⟩, a3, a4⟩ := sm
        unfold fit
        split <;> split <;> omega
      refine s_asg (ev_op (ev_var rfl) (ev_var rfl) (rv_I (Or.inr fb))) fun H5 e6 => ?_
      refine ⟨z * fit i p row, _, _, _, rfl, E4.trans e6, ?_⟩
      rw [← hz, Int.mul_assoc]
    · rintro σ H' ⟨z, u, v, y, rfl, e1, hz⟩
      rw [hP.1, List.drop_length] at hz
      have : z = allParts 0 ps row := by
        rw [← hz]
        exact (Int.mul_one z).symm
      refine s_ret (ev_var rfl) fun H2 e3 => ?_
      have q := k.go (e1.trans e3)
      rw [← this] at q
      exact q
/-! ### with_coin -/
abbrev sWithCoin : Stmt := top 39
abbrev nWithCoin : List Str := ["counts", "part", "as_zero", "as_one", "count", "low", "high"]
theorem scWithCoin : FnScope nWithCoin ["counts", "part"] (defScope sWithCoin) := ⟨rfl, rfl, rfl, by decide +kernel, rfl, by decide +kernel, by decide +kernel⟩
def spWithCoin (K : PySem.W.Frag) : Sp := fun vs H Q _ => ∃ (a : Addr) (v : V) (c : List Int) (p : P2), vs = [.ref a, v] ∧ SqL K H a (iv c) ∧ c.length ≤ 1000 ∧ PairV K p H v ∧ small p ∧ RetL (iv (conv p c)) H Q
theorem iv_getI {ns : List Int} {i : Nat} {z : Int} (h : ns[i]? = some z) : (iv ns)[i]? = some (.int z) := by
  unfold iv
  rw [List.getElem?_map, h]
  rfl
theorem iv_scale_get {c : List Int} {i : Nat} {z m : Int} (h : c[i]? = some z) : (iv (c.map fun x => x * m))[i]? = some (.int (z * m)) := iv_getI (by rw [List.getElem?_map, h]; rfl)
theorem small_b {x : Int} (h : 0 ≤ x ∧ x ≤ 10) : -(2 ^ 64) < x ∧ x < 2 ^ 64 := by omega
theorem ok_withCoin (F : Fun K "with_coin" "with_coin" sWithCoin f fd) (B : Bl mg) : FnOk P w K mg base CX0 1 f fd ["counts", "part"] (spWithCoin K) := by
  refine F.ok scWithCoin (fun vs H Q E h => ?_) (fun cdv A outer s H vs Q E hr h => ?_)
  · obtain ⟨a, v, c, p, rfl, _⟩ := h
    rfl
  · obtain ⟨a, v, c, p, rfl, hA, hl, ⟨t, rfl, hT⟩, sm, k⟩ := h
    refine ⟨_, pss_cons (ps_set (i := 2) scWithCoin.nd rfl (Or.inl rfl) (pe_op op_cat
        (pe_lc (own := [("count", 4)]) (g := gName 4) (tt := tYes) (te := tOp (rI (fun i j => (-(2 ^ 64) < i ∧ i < 2 ^ 64) ∨ (-(2 ^ 64) < j ∧ j < 2 ^ 64)) fun i j => .int (i * j)) (tVar 4) (tOp (rIxT K) (tVar 1) (tC (.int 0)))) rfl scWithCoin.nd (pi_list (pv 0)) (blkOk_by (own := [("count", 4)]) (N := nWithCoin) (sc := defScope sWithCoin) (by decide +kernel)) (fun _ _ _ _ _ => pg_name (i := 4) scWithCoin.nd rfl (Or.inl rfl)) (fun _ _ _ _ _ => pts_nil) (fun _ _ _ _ _ => pe_op op_mul (pv 4) (pe_ix ix_tup (pv 1) pe_int (fun _ _ => rfl))))
        (pe_lst (pa_cons pe_int pa_nil))))
      (pss_cons (ps_set (i := 3) scWithCoin.nd rfl (Or.inl rfl) (pe_op op_cat (pe_lst (pa_cons pe_int pa_nil))
        (pe_lc (own := [("count", 4)]) (g := gName 4) (tt := tYes) (te := tOp (rI (fun i j => (-(2 ^ 64) < i ∧ i < 2 ^ 64) ∨ (-(2 ^ 64) < j ∧ j < 2 ^ 64)) fun i j => .int (i * j)) (tVar 4) (tOp (rIxT K) (tVar 1) (tC (.int 1)))) rfl scWithCoin.nd (pi_list (pv 0)) (blkOk_by (own := [("count", 4)]) (N := nWithCoin) (sc := defScope sWithCoin) (by decide +kernel)) (fun _ _ _ _ _ => pg_name (i := 4) scWithCoin.nd rfl (Or.inl rfl)) (fun _ _ _ _ _ => pts_nil) (fun _ _ _ _ _ => pe_op op_mul (pv 4) (pe_ix ix_tup (pv 1) pe_int (fun _ _ => rfl))))))
      (pss_one (ps_ret (pe_lc (own := [("low", 5), ("high", 6)]) (g := gTup K 2 (gCons (gName 5) (gCons (gName 6) gNil))) (tt := tYes) (te := tOp (rI0 fun i j => .int (i + j)) (tVar 5) (tVar 6)) rfl scWithCoin.nd (pi_zip (by rfl) B.zip (pa_cons (pv 2) (pa_cons (pv 3) pa_nil))) (blkOk_by (own := [("low", 5), ("high", 6)]) (N := nWithCoin) (sc := defScope sWithCoin) (by decide +kernel))
        (fun _ _ _ _ _ => pg_tup rfl (pgs_cons (pg_name (i := 5) scWithCoin.nd rfl (Or.inl rfl)) (pgs_cons (pg_name (i := 6) scWithCoin.nd rfl (Or.inl rfl)) pgs_nil))) (fun _ _ _ _ _ => pts_nil) (fun _ _ _ _ _ => pe_op op_add (pv 5) (pv 6)))))), ?_⟩
    have L := iv_len c
    have lz : EvL _ _ H (iv (c.map fun x => x * p.1)) := el_of (n := (iv c).length) (by rw [iv_len, iv_len, List.length_map]) (lcL (K := K) (te := tOp (rI (fun i j => (-(2 ^ 64) < i ∧ i < 2 ^ 64) ∨ (-(2 ^ 64) < j ∧ j < 2 ^ 64)) fun i j => .int (i * j)) (tVar 4) (tOp (rIxT K) (tVar 1) (tC (.int 0)))) (vs := [4]) (j := 4) (tl := tVar 0) (σ := start nWithCoin [.ref a, .ref t]) (ev_var rfl) hA (by omega) (fun _ => rfl) (stable_get _) (fun i x H1 e1 hx => by
      obtain ⟨z, hz, rfl⟩ := iv_get hx
      intro H2 e2 Q q
      exact (ev_op (ev_var rfl) (ev_op (ev_var rfl) ev_c (rv_ixT (K := K) (ex_t e1 hT) (pair_at0 p))) (rv_I (Or.inr (small_b sm.1)))) H2 e2 Q fun H3 e3 => q _ H3 e3 (iv_scale_get hz)))
    refine q_asgL (el_cat lz (el_lst (ea_cons ev_c ea_nil) (by show 1 ≤ 100000; decide)) (by rw [iv_len, List.length_map]; show c.length + 1 ≤ 100000; omega)) fun p2 H1 hp2 e1 h2 => ?_
    have lo : EvL _ _ H1 (iv (c.map fun x => x * p.2)) := el_of (n := (iv c).length) (by rw [iv_len, iv_len, List.length_map]) (lcL (K := K) (te := tOp (rI (fun i j => (-(2 ^ 64) < i ∧ i < 2 ^ 64) ∨ (-(2 ^ 64) < j ∧ j < 2 ^ 64)) fun i j => .int (i * j)) (tVar 4) (tOp (rIxT K) (tVar 1) (tC (.int 1)))) (vs := [4]) (j := 4) (tl := tVar 0) (σ := (start nWithCoin [.ref a, .ref t]).set 2 (some (.ref p2))) (ev_var rfl) (ex_l e1 hA) (by omega) (fun _ => rfl) (stable_get _) (fun i x H1 e2 hx => by
      obtain ⟨z, hz, rfl⟩ := iv_get hx
      intro H2 e3 Q q
      exact (ev_op (ev_var rfl) (ev_op (ev_var rfl) ev_c (rv_ixT (K := K) (ex_t (e1.trans e2) hT) (pair_at1 p))) (rv_I (Or.inr (small_b sm.2)))) H2 e3 Q fun H3 e4 => q _ H3 e4 (iv_scale_get hz)))
    refine q_asgL (el_cat (el_lst (ea_cons ev_c ea_nil) (by show 1 ≤ 100000; decide)) lo (by rw [iv_len, List.length_map]; show 1 + c.length ≤ 100000; omega)) fun p3 H2 hp3 e2 h3 => ?_
    have hz : SqL K H2 p2 (iv (c.map (fun x => x * p.1) ++ [0])) := by
      have : iv (c.map (fun x => x * p.1) ++ [0]) = iv (c.map fun x => x * p.1) ++ [V.int 0] := List.map_append
      rw [this]
      exact sq_of (e2 p2 _ h2)
    have ho : SqL K H2 p3 (iv (0 :: c.map fun x => x * p.2)) := sq_of h3
    refine s_retL (xs := iv (conv p c)) (el_of (n := (iv (c.map (fun x => x * p.1) ++ [0])).length) (by rw [iv_len, iv_len, conv_len]; simp) (lcZ (K := K) (ea_cons (ev_var rfl) (ea_cons (ev_var rfl) ea_nil)) hz ho (by rw [iv_len, iv_len]; simp) (by rw [iv_len]; simp; omega) (fun _ _ => rfl) (stable_get _) (fun i x y H1 e3 hx hy => ?_))) fun p4 H3 hp4 e3 h4 => ?_
    · obtain ⟨z, hz, rfl⟩ := iv_get hx
      obtain ⟨z', hz', rfl⟩ := iv_get hy
      intro H2' e4 Q q
      refine (ev_op (ev_var rfl) (ev_var rfl) rv_I0) H2' e4 Q fun H3 e5 => q _ H3 e5 (iv_getI ?_)
      unfold conv
      rw [List.getElem?_zipWith, hz, hz']
    · exact k.go (e1.trans e2) hp4 e3 h4
end
end Co
end
section
set_option maxRecDepth 100000
set_option maxHeartbeats 4000000
set_option linter.unusedVariables false
namespace Co
open PySem PySem.Spec PyProof.Rows L2 Evl Gn Mn Dk
abbrev rMu : R2 := rI CMul fun i j => .int (i * j)
abbrev rAd : R2 := rI0 fun i j => .int (i + j)
theorem foldl_sum : ∀ (l : List Int) (a : Int), l.foldl (· + ·) a = a + l.sum
  | [], a => (Int.add_zero a).symm
  | x :: l, a => by
    rw [List.foldl_cons, foldl_sum l, List.sum_cons]
    omega
theorem foldl_sum0 (l : List Int) : l.foldl (· + ·) 0 = l.sum := by
  rw [foldl_sum, Int.zero_add]
theorem cut_from (ns : List Int) (t : Nat) : cutV (iv ns) (some (t : Int)) none = iv (ns.drop t) := by
  unfold cutV
  rw [HT.sIx_nat, HT.sIx_none, iv_len]
  unfold iv
  rw [← List.map_drop, ← List.map_take]
  congr 1
  rw [List.take_of_length_le (by rw [List.length_drop]; omega)]
  by_cases h : t ≤ ns.length
  · rw [Nat.min_eq_left h]
  · rw [Nat.min_eq_right (by omega), List.drop_length, List.drop_of_length_le (by omega)]
section
variable {P : Program} {w : World} {K : PySem.W.Frag} {mg : Str → Option Value} {base : Heap} {f : Addr} {fd : FuncData}
/-! ### parts_many -/
abbrev sMany : Stmt := top 40
abbrev nMany : List Str := ["parts", "t", "row", "counts", "i", "part", "count"]
theorem scMany : FnScope nMany ["parts", "t", "row"] (defScope sMany) := ⟨rfl, rfl, rfl, by decide +kernel, rfl, by decide +kernel, by decide +kernel⟩
def spMany (K : PySem.W.Frag) : Sp := fun vs H Q _ => ∃ (a b : Addr) (ps : List P2) (t : Nat) (row : List Int), vs = [.ref a, .int (t : Int), .ref b] ∧ PairsAt K H a ps ∧ (∀ p ∈ ps, small p) ∧ ps.length ≤ 100 ∧ SqL K H b (iv row) ∧ RetV (.int (manyParts ps t row)) H Q
/-- what a call of with_coin gives -/
theorem sp_withCoin {H : Hp} {a : Addr} {v : V} {c : List Int} {p : P2} (hA : SqL K H a (iv c)) (hl : c.length ≤ 1000) (hp : PairV K p H v) (sm : small p) : SpL (spWithCoin K) [.ref a, v] H (iv (conv p c)) := fun H1 e Q q E =>
  ⟨a, v, c, p, rfl, ex_l e hA, hl, hp.ex e, sm, fun p' H2 hp' e2 h2 => q p' H2 hp' e2 h2⟩
theorem ok_many {fW : Addr} {fdW : FuncData} (F : Fun K "parts_many" "parts_many" sMany f fd) (B : Bl mg) (GW : FnOk P w K mg base CX0 1 fW fdW ["counts", "part"] (spWithCoin K)) (bW : Binds K fdW ["counts", "part"] []) (kW : PySem.W.keepIn K (.ref fW) = true) (mW : mg "with_coin" = some (.ref fW)) :
    FnOk P w K mg base CX0 2 f fd ["parts", "t", "row"] (spMany K) := by
  refine F.ok scMany (fun vs H Q E h => ?_) (fun cdv A outer s H vs Q E hr h => ?_)
  · obtain ⟨a, b, ps, t, row, rfl, _⟩ := h
    rfl
  · obtain ⟨a, b, ps, t, row, rfl, ⟨rs, hA, hP⟩, hsm, hl, hB, k⟩ := h
    refine ⟨_, pss_cons (ps_set (i := 3) scMany.nd rfl (Or.inl rfl) (pe_lst (pa_cons pe_int pa_nil)))
      (pss_cons (ps_for PassesOwn.never rfl (pi_enum (by rfl) B.enum (pa_cons (pv 0) pa_nil)) (pg_tup rfl (pgs_cons (pg_name (i := 4) scMany.nd rfl (Or.inl rfl)) (pgs_cons (pg_name (i := 5) scMany.nd rfl (Or.inr rfl)) pgs_nil)))
        (pss_one (ps_if (pt_cmpR op_in_seq (pv 4) (pv 2) (by rfl))
          (pss_one (ps_set (i := 3) scMany.nd rfl (Or.inl rfl) (pe_call GW hr rfl mW kW bW .nil pass0 (pa_cons (pv 3) (pa_cons (pv 5) pa_nil)))))
          (pss_one (ps_setLc (i := 3) (own := [("count", 6)]) (g := gName 6) (tt := tYes) (te := tOp rMu (tVar 6) (tOp rAd (tOp (rIxT K) (tVar 5) (tC (.int 0))) (tOp (rIxT K) (tVar 5) (tC (.int 1))))) rfl scMany.nd rfl rfl (sw_true rfl rfl rfl (by decide +kernel)) (pi_list (pv 3)) (blkOk_by (own := [("count", 6)]) (N := nMany) (sc := defScope sMany) (by decide +kernel)) (fun _ _ _ _ _ => pg_name (i := 6) scMany.nd rfl (Or.inl rfl)) (fun _ _ _ _ _ => pts_nil)
            (fun _ _ _ _ _ => pe_op op_mul (pv 6) (pe_op op_add (pe_ix ix_tup (pv 5) pe_int (fun _ _ => rfl)) (pe_ix ix_tup (pv 5) pe_int (fun _ _ => rfl)))))))))
      (pss_one (ps_ret (pe_callB (cr_sum rfl) (by rfl) B.sum (by decide +kernel) (pa_cons (pe_slice sl_list (pv 3) (po_some (pv 1)) po_none) pa_nil))))), ?_⟩
    refine q_asgL (el_lst (ea_cons ev_c ea_nil) (by show 1 ≤ 100000; decide)) fun p0 H0 hp0 e0 h0 => ?_
    refine q_forE (K := K) (xs := rs) (ea_cons (ev_var rfl) ea_nil) (ex_l e0 hA) (fun i σ H' => ∃ (q : Addr) (c : List Int) (u v : Option V), σ = [some (.ref a), some (.int (t : Int)), some (.ref b), some (.ref q), u, v, none] ∧ Ex H H' ∧ H' q = some (.lst (iv c)) ∧ c.length ≤ i + 1 ∧ countsFrom i (ps.drop i) row c = countsFrom 0 ps row [1])
      (fun H1 e1 => ⟨p0, [1], none, none, rfl, e0.trans e1, e1 p0 _ h0, Nat.le_refl _, rfl⟩) (fun i σ H' _ ⟨_, _, _, _, _, e1, _⟩ => ex_l e1 hA) ?_ ?_
    · rintro i x σ H' H1 hi ⟨q, c, u, v, rfl, e1, hq, hc, hz⟩ e2
      obtain ⟨p, hp, t', rfl, hT⟩ := hP.2 i x hi
      have E1 := e1.trans e2
      have hiN := (List.getElem?_eq_some_iff.mp hp).1
      have sm := hsm p (List.mem_of_getElem? hp)
      rw [drop_one hp] at hz
      have hz : countsFrom (i + 1) (ps.drop (i + 1)) row (if (i : Int) ∈ row then conv p c else scale (p.1 + p.2) c) = countsFrom 0 ps row [1] := hz
      refine s_if (et_test (ev_op (ev_var rfl) (ev_var rfl) (rv_isL (K := K) (ex_l E1 hB) rfl (iv_flat row)))) (fun hb H2 e3 => ?_) (fun hb H2 e3 => ?_)
      · rw [inV_iv, decide_eq_true_iff] at hb
        rw [if_pos hb] at hz
        refine s_asgL (el_call (ea_cons (ev_var rfl) (ea_cons (ev_var rfl) ea_nil)) (sp_withCoin (p := p) (c := c) (sq_of (e3 q _ (e2 q _ hq))) (by omega) ⟨t', rfl, ex_t (E1.trans e3) hT⟩ sm)) fun p' H3 hp' e4 h3 => ?_
        exact ⟨p', conv p c, _, _, rfl, (E1.trans e3).trans e4, h3, by rw [conv_len]; omega, hz⟩
      · rw [inV_iv, decide_eq_false_iff_not] at hb
        rw [if_neg hb] at hz
        refine s_asgL (xs := iv (scale (p.1 + p.2) c)) (el_of (n := (iv c).length) (by rw [iv_len, iv_len, scale_len]) (lcL (K := K) (ev_var rfl) (sq_of (e3 q _ (e2 q _ hq))) (by rw [iv_len]; omega) (fun _ => rfl) (stable_get _) (fun j x H3 e4 hx => ?_))) fun p' H3 hp' e4 h3 => ?_
        · obtain ⟨z, hz, rfl⟩ := iv_get hx
          intro H4 e5 Q q
          refine (ev_op (ev_var rfl) (ev_op (ev_op (ev_var rfl) ev_c (rv_ixT (K := K) (ex_t ((E1.trans e3).trans e4) hT) (pair_at0 p))) (ev_op (ev_var rfl) ev_c (rv_ixT (K := K) (ex_t ((E1.trans e3).trans e4) hT) (pair_at1 p))) rv_I0) (rv_I (Or.inr ?_))) H4 e5 Q fun H3 e4 => q _ H3 e4 (iv_scale_get hz)
          obtain ⟨⟨a1, a2⟩, a3, a4⟩ := sm
          omega
        · exact ⟨p', scale (p.1 + p.2) c, _, _, rfl, (E1.trans e3).trans e4, h3, by rw [scale_len]; omega, hz⟩
    · rintro σ H' ⟨q, c, u, v, rfl, e1, hq, hc, hz⟩
      rw [hP.1, List.drop_length] at hz
      have hz : c = countsFrom 0 ps row [1] := hz
      have cu := el_sl (K := K) (te := tVar 3) (σ := [some (.ref a), some (.int (t : Int)), some (.ref b), some (.ref q), u, v, none]) (H := H') (ev_var rfl) (eo_some (te := tVar 1) (ev_var rfl)) eo_none (sq_of hq)
      rw [cut_from] at cu
      refine s_ret (ev_sumN (K := K) cu) fun H2 e3 => ?_
      have q := k.go (e1.trans e3)
      unfold manyParts at q
      rw [foldl_sum0, ← hz] at q
      exact q
/-! ### term_parts -/
abbrev sTermParts : Stmt := top 41
theorem scTermParts : FnScope ["parts", "term"] ["parts", "term"] (defScope sTermParts) := ⟨rfl, rfl, rfl, by decide +kernel, rfl, by decide +kernel, by decide +kernel⟩
def tOk (t : T3) : Prop := -1 ≤ t.2.1 ∧ (-100 ≤ t.1 ∧ t.1 ≤ 100)
def spTermParts (K : PySem.W.Frag) : Sp := fun vs H Q _ => ∃ (a : Addr) (v : V) (ps : List P2) (t : T3), vs = [.ref a, v] ∧ PairsAt K H a ps ∧ (∀ p ∈ ps, small p) ∧ ps.length ≤ 100 ∧ TermV K t H v ∧ tOk t ∧ RetV (.int (termParts ps t)) H Q
theorem sp_asTold {H : Hp} {a b : Addr} {ps : List P2} {row : List Int} (hA : PairsAt K H a ps) (hs : ∀ p ∈ ps, small p) (hB : SqL K H b (iv row)) : SpV (spAsTold K) [.ref a, .ref b] H (.int (allParts 0 ps row)) := fun H1 e Q q E =>
  ⟨a, b, ps, row, rfl, hA.ex e, hs, ex_l e hB, fun H2 e2 => q H2 e2⟩
theorem sp_many {H : Hp} {a b : Addr} {ps : List P2} {t : Nat} {row : List Int} (hA : PairsAt K H a ps) (hs : ∀ p ∈ ps, small p) (hl : ps.length ≤ 100) (hB : SqL K H b (iv row)) : SpV (spMany K) [.ref a, .int (t : Int), .ref b] H (.int (manyParts ps t row)) := fun H1 e Q q E =>
  ⟨a, b, ps, t, row, rfl, hA.ex e, hs, hl, ex_l e hB, fun H2 e2 => q H2 e2⟩
theorem ok_termParts {fA fM : Addr} {fdA fdM : FuncData} (F : Fun K "term_parts" "term_parts" sTermParts f fd) (g : GI mg "AS_TOLD" (-1))
    (GA : FnOk P w K mg base CX0 1 fA fdA ["parts", "row"] (spAsTold K)) (bA : Binds K fdA ["parts", "row"] []) (kA : PySem.W.keepIn K (.ref fA) = true) (mA : mg "parts_as_told" = some (.ref fA))
    (GM : FnOk P w K mg base CX0 2 fM fdM ["parts", "t", "row"] (spMany K)) (bM : Binds K fdM ["parts", "t", "row"] []) (kM : PySem.W.keepIn K (.ref fM) = true) (mM : mg "parts_many" = some (.ref fM)) :
    FnOk P w K mg base CX0 3 f fd ["parts", "term"] (spTermParts K) := by
  refine F.ok scTermParts (fun vs H Q E h => ?_) (fun cdv A outer s H vs Q E hr h => ?_)
  · obtain ⟨a, v, ps, t, rfl, _⟩ := h
    rfl
  · obtain ⟨a, v, ps, t, rfl, hA, hsm, hl, ⟨ta, q, rfl, hT, hR⟩, hok, k⟩ := h
    have hr1 : Room 1 _ := hr.mono (by decide)
    refine ⟨_, pss_cons (ps_if (pt_cmpR op_eq (pe_ix ix_tup (pv 1) pe_int (fun _ _ => rfl)) (pe_gi rfl g) (nomark _)) (pss_one (ps_ret (pe_call GA hr1 rfl mA kA bA .nil pass0 (pa_cons (pv 0) (pa_cons (pe_ix ix_tup (pv 1) pe_int (fun _ _ => rfl)) pa_nil))))) pss_nil)
      (pss_one (ps_ret (pe_call GM hr rfl mM kM bM .nil pass0 (pa_cons (pv 0) (pa_cons (pe_ix ix_tup (pv 1) pe_int (fun _ _ => rfl)) (pa_cons (pe_ix ix_tup (pv 1) pe_int (fun _ _ => rfl)) pa_nil)))))), ?_⟩
    refine q_when (et_test (ev_op (ev_op (ev_var rfl) ev_c (rv_ixT (K := K) hT (at_of (j := 1) rfl rfl))) ev_c (rv_eq rfl))) (fun hb H1 e1 => ?_) (fun hb H1 e1 => ?_)
    · have h1 : t.2.1 = -1 := by
        have := of_decide_eq_true hb
        injection this
      refine s_ret (ev_call (ea_cons (ev_var rfl) (ea_cons (ev_op (ev_var rfl) ev_c (rv_ixT (K := K) (ex_t e1 hT) (at_of (j := 2) rfl rfl))) ea_nil)) (sp_asTold (hA.ex e1) hsm (ex_l e1 hR))) fun H2 e2 => ?_
      have q := k.go (e1.trans e2)
      unfold termParts at q
      rw [if_pos h1] at q
      exact q
    · have h1 : ¬ t.2.1 = -1 := by
        have := of_decide_eq_false hb
        intro q
        exact this (by rw [q])
      have ht : t.2.1 = (t.2.1.toNat : Int) := by
        have := hok.1
        omega
      refine s_ret (ev_call (vs := [.ref a, .int (t.2.1.toNat : Int), .ref q]) (ea_cons (ev_var rfl) (ea_cons (ev_is (ev_op (ev_var rfl) ev_c (rv_ixT (K := K) (ex_t e1 hT) (at_of (j := 1) rfl rfl))) (congrArg V.int ht)) (ea_cons (ev_op (ev_var rfl) ev_c (rv_ixT (K := K) (ex_t e1 hT) (at_of (j := 2) rfl rfl))) ea_nil))) (sp_many (hA.ex e1) hsm hl (ex_l e1 hR))) fun H2 e2 => ?_
      have q := k.go (e1.trans e2)
      unfold termParts at q
      rw [if_neg h1] at q
      exact q
end
end Co
end
section
set_option maxRecDepth 100000
set_option maxHeartbeats 4000000
set_option linter.unusedVariables false
namespace Co
open PySem PySem.Spec PyProof.Rows L2 Evl Gn Mn Dk
theorem q_asgR {te : TE} {σ : L2.St} {H : Hp} {n i : Nat} {R : Nat → Hp → V → Prop} {D : Ends} {tz : TS} (h : EvLR te σ H n R) (k : ∀ p ys H1, H p = none → Ex H H1 → H1 p = some (.lst ys) → ys.length = n → (∀ i y, ys[i]? = some y → R i H1 y) → tz D (σ.set i (some (.ref p))) H1) : tSeq (tAsg te (gName i)) tz D σ H :=
  h H (Ex.refl H) _ fun p ys H1 hp e h1 hl hr => k p ys H1 hp e h1 hl hr
section
variable {P : Program} {w : World} {K : PySem.W.Frag} {mg : Str → Option Value} {base : Heap} {f : Addr} {fd : FuncData}
/-! ### mean_upper -/
abbrev sMeanUpper : Stmt := top 42
abbrev nMeanUpper : List Str := ["chances", "laid", "terms", "parts", "chance", "lies", "term"]
theorem scMeanUpper : FnScope nMeanUpper ["chances", "laid", "terms"] (defScope sMeanUpper) := ⟨rfl, rfl, rfl, by decide +kernel, rfl, by decide +kernel, by decide +kernel⟩
def TermsAt (K : PySem.W.Frag) (H : Hp) (a : Addr) (ts : List T3) : Prop := ∃ rs, SqL K H a rs ∧ TermsV K H rs ts
theorem TermsAt.ex {H H' : Hp} {a : Addr} {ts : List T3} (e : Ex H H') (h : TermsAt K H a ts) : TermsAt K H' a ts := by
  obtain ⟨rs, h1, h2⟩ := h
  exact ⟨rs, ex_l e h1, h2.ex e⟩
def spMeanUpper (K : PySem.W.Frag) : Sp := fun vs H Q _ => ∃ (a b c : Addr) (cs : List P2) (ls : List Int) (ts : List T3), vs = [.ref a, .ref b, .ref c] ∧ PairsAt K H a cs ∧ (∀ p ∈ cs, good p) ∧ cs.length ≤ 100 ∧ SqL K H b (iv ls) ∧ ls.length = cs.length ∧
  TermsAt K H c ts ∧ (∀ t ∈ ts, tOk t) ∧ ts.length ≤ 100 ∧ RetV (.int (upper (partsOf cs ls) ts)) H Q
theorem small_parts {cs : List P2} {ls : List Int} (hg : ∀ p ∈ cs, good p) : ∀ p ∈ partsOf cs ls, small p := by
  intro p hp
  obtain ⟨i, hi⟩ := List.getElem?_of_mem hp
  unfold partsOf at hi
  rw [List.getElem?_zipWith] at hi
  cases e1 : cs[i]? with
  | none =>
    rw [e1] at hi
    cases hi
  | some c =>
    cases e2 : ls[i]? with
    | none =>
      rw [e1, e2] at hi
      cases hi
    | some l =>
      rw [e1, e2] at hi
      have e : coinParts c l = p := Option.some.inj hi
      have g := hg c (List.mem_of_getElem? e1)
      have a1 := coinParts_nonneg g l
      have a2 := coinParts_sum c l
      have a3 := g.2.2.2
      rw [e] at a1 a2
      exact ⟨⟨a1.1, by omega⟩, a1.2, by omega⟩
theorem sp_termParts {H : Hp} {a : Addr} {v : V} {ps : List P2} {t : T3} (hA : PairsAt K H a ps) (hs : ∀ p ∈ ps, small p) (hl : ps.length ≤ 100) (hB : TermV K t H v) (ho : tOk t) : SpV (spTermParts K) [.ref a, v] H (.int (termParts ps t)) := fun H1 e Q q E =>
  ⟨a, v, ps, t, rfl, hA.ex e, hs, hl, hB.ex e, ho, fun H2 e2 => q H2 e2⟩
theorem ok_meanUpper {fC fT : Addr} {fdC fdT : FuncData} (F : Fun K "mean_upper" "mean_upper" sMeanUpper f fd) (B : Bl mg)
    (GC : FnOk P w K mg base CX0 1 fC fdC ["chance", "lies"] (spCoinParts K)) (bC : Binds K fdC ["chance", "lies"] []) (kC : PySem.W.keepIn K (.ref fC) = true) (mC : mg "coin_parts" = some (.ref fC))
    (GT : FnOk P w K mg base CX0 3 fT fdT ["parts", "term"] (spTermParts K)) (bT : Binds K fdT ["parts", "term"] []) (kT : PySem.W.keepIn K (.ref fT) = true) (mT : mg "term_parts" = some (.ref fT)) :
    FnOk P w K mg base CX0 4 f fd ["chances", "laid", "terms"] (spMeanUpper K) := by
  refine F.ok scMeanUpper (fun vs H Q E h => ?_) (fun cdv A outer s H vs Q E hr h => ?_)
  · obtain ⟨a, b, c, cs, ls, ts, rfl, _⟩ := h
    rfl
  · obtain ⟨a, b, c, cs, ls, ts, rfl, ⟨rs, hA, hP⟩, hg, hl, hB, hbl, ⟨us, hC, hT⟩, hok, htl, k⟩ := h
    have hr1 : Room 1 _ := hr.mono (by decide)
    refine ⟨_, pss_cons (ps_set (i := 3) scMeanUpper.nd rfl (Or.inr rfl) (pe_lc (own := [("chance", 4), ("lies", 5)]) (g := gTup K 2 (gCons (gName 4) (gCons (gName 5) gNil))) (tt := tYes) (te := tCall (spCoinParts K) [] E0 (tCons (tVar 4) (tCons (tVar 5) tNil))) rfl scMeanUpper.nd (pi_zip (by rfl) B.zip (pa_cons (pv 0) (pa_cons (pv 1) pa_nil))) (blkOk_by (own := [("chance", 4), ("lies", 5)]) (N := nMeanUpper) (sc := defScope sMeanUpper) (by decide +kernel))
        (fun _ _ _ _ _ => pg_tup rfl (pgs_cons (pg_name (i := 4) scMeanUpper.nd rfl (Or.inl rfl)) (pgs_cons (pg_name (i := 5) scMeanUpper.nd rfl (Or.inl rfl)) pgs_nil))) (fun _ _ _ _ _ => pts_nil) (fun _ _ _ _ _ => pe_call GC hr1 rfl mC kC bC .nil pass0 (pa_cons (pv 4) (pa_cons (pv 5) pa_nil)))))
      (pss_one (ps_ret (pe_callB (cr_sum rfl) (by rfl) B.sum (by decide +kernel) (pa_cons (pe_lc (own := [("term", 6)]) (g := gName 6) (tt := tYes) (te := tOp rMu (tOp (rIxT K) (tVar 6) (tC (.int 0))) (tCall (spTermParts K) [] E0 (tCons (tVar 3) (tCons (tVar 6) tNil)))) rfl scMeanUpper.nd (pi_list (pv 2)) (blkOk_by (own := [("term", 6)]) (N := nMeanUpper) (sc := defScope sMeanUpper) (by decide +kernel)) (fun _ _ _ _ _ => pg_name (i := 6) scMeanUpper.nd rfl (Or.inl rfl)) (fun _ _ _ _ _ => pts_nil)
        (fun _ _ _ _ _ => pe_op op_mul (pe_ix ix_tup (pv 6) pe_int (fun _ _ => rfl)) (pe_call GT hr rfl mT kT bT .nil pass0 (pa_cons (pv 3) (pa_cons (pv 6) pa_nil))))) pa_nil)))), ?_⟩
    refine q_asgR (R := fun i H y => PairV K ((partsOf cs ls).getD i (0, 0)) H y) (lcZ (K := K) (ea_cons (ev_var rfl) (ea_cons (ev_var rfl) ea_nil)) hA hB (by rw [iv_len, hP.1, hbl]) (by rw [hP.1]; omega) (fun _ _ => rfl) (fun i => Stable.tup _) (fun i x y H1 e1 hx hy => ?_)) fun p ys H1 hp e1 h1 hly hR => ?_
    · obtain ⟨c, hc, hPv⟩ := hP.2 i x hx
      obtain ⟨l, hl', rfl⟩ := iv_get hy
      have e : (partsOf cs ls).getD i (0, 0) = coinParts c l := by
        unfold partsOf
        rw [List.getD_eq_getElem?_getD, List.getElem?_zipWith, hc, hl']
        rfl
      intro H2 e2 Q q
      refine (ea_cons (ev_var rfl) (ea_cons (ev_var rfl) ea_nil)) H2 (Ex.refl H2) _ fun H3 e3 => ?_
      refine ⟨x, c, l, rfl, hPv.ex ((e1.trans e2).trans e3), fun p' H4 hp' e4 h4 => q _ H4 (e3.trans e4) ?_⟩
      show PairV K ((partsOf cs ls).getD i (0, 0)) H4 (.ref p')
      rw [e]
      exact ⟨p', rfl, st_of h4⟩
    · have pl : (partsOf cs ls).length = cs.length := by
        unfold partsOf
        rw [List.length_zipWith, hbl, Nat.min_self]
      have PA : PairsAt K H1 p (partsOf cs ls) := ⟨ys, sq_of h1, by rw [hly, hP.1, pl], fun i r hr => ⟨_, getD_some (by have := (List.getElem?_eq_some_iff.mp hr).1; have := hP.1; omega), hR i r hr⟩⟩
      have e : upper (partsOf cs ls) ts = (ts.map fun t => t.1 * termParts (partsOf cs ls) t).sum := by
        unfold upper
        exact foldl_sum0 _
      refine s_ret (ev_sumN (K := K) (ns := ts.map fun t => t.1 * termParts (partsOf cs ls) t) (el_of (n := us.length) (by rw [List.length_map, List.length_map, hT.1]) (lcL (K := K) (ev_var rfl) (ex_l e1 hC) (by rw [hT.1]; omega) (fun _ => rfl) (stable_get _) (fun i x H2 e2 hx => ?_)))) fun H2 e2 => ?_
      · obtain ⟨t, ht, hTv⟩ := hT.2 i x hx
        have ok := hok t (List.mem_of_getElem? ht)
        obtain ⟨ta, q', rfl, hTa, hTq⟩ := id (hTv.ex (e1.trans e2))
        intro H3 e3 Q q
        refine (ev_op (ev_op (ev_var rfl) ev_c (rv_ixT (K := K) hTa (at_of (j := 0) rfl rfl))) (ev_call (ea_cons (ev_var rfl) (ea_cons (ev_var rfl) ea_nil)) (sp_termParts (PA.ex e2) (small_parts hg) (by omega) ⟨ta, q', rfl, hTa, hTq⟩ ok)) (rv_I (Or.inl ?_))) H3 e3 Q fun H4 e4 => q _ H4 e4 ?_
        · have := ok.2
          omega
        · rw [List.getElem?_map, List.getElem?_map, ht]
          rfl
      · have q := k.go (e1.trans e2)
        rw [e] at q
        exact q
end
end Co
end
section
set_option maxRecDepth 100000
set_option maxHeartbeats 4000000
set_option linter.unusedVariables false
namespace Co
open PySem PySem.Spec PyProof.Rows L2 Evl Gn Mn Dk Bs
abbrev rMd : R2 := rI (fun _ j => 0 < j) fun i j => .int (i % j)
abbrev rDv : R2 := rI CDiv fun i j => .int (i / j)
theorem eqI_ne {x y : Int} (h : (!decide (V.int x = V.int y)) = true) : x ≠ y := by
  rw [Bool.not_eq_true', decide_eq_false_iff_not] at h
  exact fun q => h (by rw [q])
theorem eqI_eq {x y : Int} (h : (!decide (V.int x = V.int y)) = false) : x = y := by
  rw [Bool.not_eq_false', decide_eq_true_iff] at h
  injection h
theorem decV {x y : Int} : decide (V.int x = V.int y) = decide (x = y) := by
  refine decide_eq_decide.mpr ⟨fun h => ?_, fun h => by rw [h]⟩
  injection h
section
variable {P : Program} {w : World} {K : PySem.W.Frag} {mg : Str → Option Value} {base : Heap} {f : Addr} {fd : FuncData}
/-! ### greatest_common -/
abbrev sGcd : Stmt := top 43
theorem scGcd : FnScope ["a", "b", "high", "low", "rest"] ["a", "b"] (defScope sGcd) := ⟨rfl, rfl, rfl, by decide +kernel, rfl, by decide +kernel, by decide +kernel⟩
def spGcd : Sp := fun vs H Q _ => ∃ (x y : Nat), vs = [.int (x : Int), .int (y : Int)] ∧ RetV (.int ((Nat.gcd x y : Nat) : Int)) H Q
theorem sp_gcd {H : Hp} {x y : Nat} : SpV spGcd [.int (x : Int), .int (y : Int)] H (.int ((Nat.gcd x y : Nat) : Int)) := fun H1 e Q q E => ⟨x, y, rfl, fun H2 e2 => q H2 e2⟩
theorem ok_gcd (F : Fun K "greatest_common" "greatest_common" sGcd f fd) : FnOk P w K mg base CX0 1 f fd ["a", "b"] spGcd := by
  refine F.ok scGcd (fun vs H Q E h => ?_) (fun cdv A outer s H vs Q E hr h => ?_)
  · obtain ⟨x, y, rfl, _⟩ := h
    rfl
  · obtain ⟨x, y, rfl, k⟩ := h
    refine ⟨_, pss_cons (ps_set (i := 2) scGcd.nd rfl (Or.inl rfl) (pv 0))
      (pss_cons (ps_set (i := 3) scGcd.nd rfl (Or.inl rfl) (pv 1))
      (pss_cons (ps_while PassesOwn.never (pt_cmpR op_ne (pv 3) pe_int (nomark _))
        (pss_cons (ps_set (i := 4) scGcd.nd rfl (Or.inl rfl) (pe_op op_mod (pv 2) (pv 3)))
        (pss_cons (ps_set (i := 2) scGcd.nd rfl (Or.inl rfl) (pv 3))
        (pss_one (ps_set (i := 3) scGcd.nd rfl (Or.inl rfl) (pv 4))))))
      (pss_one (ps_ret (pv 2))))), ?_⟩
    refine q_asg (ev_var rfl) fun H1 e1 => ?_
    refine q_asg (ev_var rfl) fun H2 e2 => ?_
    refine q_while (fun m σ H' => ∃ (hi lo : Nat) (u : Option V), σ = [some (.int (x : Int)), some (.int (y : Int)), some (.int (hi : Int)), some (.int (lo : Int)), u] ∧ m = lo ∧ Ex H H' ∧ Nat.gcd hi lo = Nat.gcd x y)
      y ⟨x, y, none, rfl, rfl, e1.trans e2, rfl⟩ ?_
    rintro lw σ H3 ⟨hi, lo, u, rfl, rfl, e3, hg⟩
    refine ⟨_, et_test (ev_op (ev_var rfl) ev_c (rv_ne rfl)), fun hb H4 e4 => ?_, fun hb H4 e4 => ?_⟩
    · have h0 := eqI_ne hb
      refine ⟨fun σ2 H2 => ∃ m', m' < lw ∧ ∃ (hi lo : Nat) (u : Option V), σ2 = [some (.int (x : Int)), some (.int (y : Int)), some (.int (hi : Int)), some (.int (lo : Int)), u] ∧ m' = lo ∧ Ex H H2 ∧ Nat.gcd hi lo = Nat.gcd x y, fun σ2 H2 h => h, ?_⟩
      refine q_asg (v := .int ((hi % lw : Nat) : Int)) (ev_is (ev_op (ev_var rfl) (ev_var rfl) (rv_I (by omega))) (by rw [Int.natCast_emod])) fun H5 e5 => ?_
      refine q_asg (ev_var rfl) fun H6 e6 => ?_
      refine s_asg (ev_var rfl) fun H7 e7 => ?_
      refine ⟨hi % lw, Nat.mod_lt _ (by omega), lw, hi % lw, _, rfl, rfl, (((e3.trans e4).trans e5).trans e6).trans e7, ?_⟩
      rw [← hg]
      exact gcd_turn hi lw (by omega)
    · have h0 : lw = 0 := by
        have := eqI_eq hb
        omega
      subst h0
      rw [Nat.gcd_zero_right] at hg
      refine s_ret (ev_var rfl) fun H5 e5 => ?_
      have q := k.go ((e3.trans e4).trans e5)
      rw [← hg] at q
      exact q
/-! ### is_so -/
abbrev sIsSo : Stmt := top 44
abbrev nIsSo : List Str := ["term", "way", "told", "i"]
theorem scIsSo : FnScope nIsSo ["term", "way"] (defScope sIsSo) := ⟨rfl, rfl, rfl, by decide +kernel, rfl, by decide +kernel, by decide +kernel⟩
def spIsSo (K : PySem.W.Frag) : Sp := fun vs H Q _ => ∃ (v : V) (b : Addr) (t : Sr58.Term) (x : List Bool), vs = [v, .ref b] ∧ TermV K (enc t) H v ∧ SqL K H b (iv (bits x)) ∧ termGood x.length t ∧ RetV (.bl (Sr58.holds x t.sort)) H Q
theorem sp_isSo {H : Hp} {v : V} {b : Addr} {t : Sr58.Term} {x : List Bool} (hT : TermV K (enc t) H v) (hB : SqL K H b (iv (bits x))) (hg : termGood x.length t) : SpV (spIsSo K) [v, .ref b] H (.bl (Sr58.holds x t.sort)) := fun H1 e Q q E =>
  ⟨v, b, t, x, rfl, hT.ex e, ex_l e hB, hg, fun H2 e2 => q H2 e2⟩
theorem up_get {l : List Nat} {i : Nat} {z : Int} (h : (up l)[i]? = some z) : ∃ n : Nat, l[i]? = some n ∧ z = (n : Int) := by
  unfold up at h
  rw [List.getElem?_map] at h
  cases e : l[i]? with
  | none =>
    rw [e] at h
    cases h
  | some n =>
    rw [e] at h
    exact ⟨n, rfl, (Option.some.inj h).symm⟩
theorem up_len (l : List Nat) : (up l).length = l.length := List.length_map _
theorem ok_isSo (F : Fun K "is_so" "is_so" sIsSo f fd) (B : Bl mg) (g : GI mg "AS_TOLD" (-1)) : FnOk P w K mg base CX0 1 f fd ["term", "way"] (spIsSo K) := by
  refine F.ok scIsSo (fun vs H Q E h => ?_) (fun cdv A outer s H vs Q E hr h => ?_)
  · obtain ⟨v, b, t, x, rfl, _⟩ := h
    rfl
  · obtain ⟨v, b, t, x, rfl, ⟨ta, q, rfl, hT, hR⟩, hB, hg, k⟩ := h
    refine ⟨_, pss_cons (ps_if (pt_cmpR op_eq (pe_ix ix_tup (pv 0) pe_int (fun _ _ => rfl)) (pe_gi rfl g) (nomark _))
        (pss_one (ps_ret (pe_callB (cr_all rfl) (by rfl) B.all (by decide +kernel) (pa_cons (pe_lc (own := [("told", 2)]) (g := gName 2) (tt := tYes) (te := tOp rEq (tOp (rIxL K) (tVar 1) (tOp rDv (tVar 2) (tC (.int 2)))) (tOp rMd (tVar 2) (tC (.int 2)))) rfl scIsSo.nd (pi_list (pe_ix ix_tup (pv 0) pe_int (fun _ _ => rfl)))
          (blkOk_by (own := [("told", 2)]) (N := nIsSo) (sc := defScope sIsSo) (by decide +kernel)) (fun _ _ _ _ _ => pg_name (i := 2) scIsSo.nd rfl (Or.inl rfl)) (fun _ _ _ _ _ => pts_nil) (fun _ _ _ _ _ => pe_cmpR op_eq (pe_ix ix_list (pv 1) (pe_op op_fdiv (pv 2) pe_int) (fun _ _ => rfl)) (pe_op op_mod (pv 2) pe_int) (nomark _))) pa_nil)))) pss_nil)
      (pss_one (ps_ret (pe_cmpR op_ge (pe_callB (cr_sum rfl) (by rfl) B.sum (by decide +kernel) (pa_cons (pe_lc (own := [("i", 3)]) (g := gName 3) (tt := tYes) (te := tOp (rIxL K) (tVar 1) (tVar 3)) rfl scIsSo.nd (pi_list (pe_ix ix_tup (pv 0) pe_int (fun _ _ => rfl)))
          (blkOk_by (own := [("i", 3)]) (N := nIsSo) (sc := defScope sIsSo) (by decide +kernel)) (fun _ _ _ _ _ => pg_name (i := 3) scIsSo.nd rfl (Or.inl rfl)) (fun _ _ _ _ _ => pts_nil) (fun _ _ _ _ _ => pe_ix ix_list (pv 1) (pv 3) (fun _ _ => rfl))) pa_nil)) (pe_ix ix_tup (pv 0) pe_int (fun _ _ => rfl)) (nomark _)))), ?_⟩
    obtain ⟨wt, kd⟩ := t
    cases kd with
    | all l =>
      have hl : (∀ y ∈ l, y / 2 < x.length) ∧ l.length ≤ 20 := hg.2
      refine q_when (et_test (ev_op (ev_op (ev_var rfl) ev_c (rv_ixT (K := K) hT (at_of (j := 1) rfl rfl))) ev_c (rv_eq rfl))) (fun hb H1 e1 => ?_) (fun hb H1 e1 => ?_)
      · have hR1 : SqL K H1 q (iv (up l)) := ex_l e1 hR
        refine s_ret (ev_allN (K := K) (bs := l.map (Sr58.lit x)) (el_of (n := (iv (up l)).length) (by rw [List.length_map, List.length_map, iv_len, up_len]) (lcL (K := K) (ev_op (ev_var rfl) ev_c (rv_ixT (K := K) (ex_t e1 hT) (at_of (j := 2) rfl rfl))) hR1 (by rw [iv_len, up_len]; omega) (fun _ => rfl) (stable_get _) (fun i y H2 e2 hy => ?_)))) fun H2 e2 => ?_
        · obtain ⟨z, hz, rfl⟩ := iv_get hy
          obtain ⟨n, hn, rfl⟩ := up_get hz
          have hn2 := hl.1 n (List.mem_of_getElem? hn)
          have hat : atI (iv (bits x)) ((n : Int) / 2) = some (.int (Sr58.bit (x.getD (n / 2) false))) := at_of (j := n / 2) (by omega) (iv_getI (bits_get hn2))
          intro H3 e3 Q q
          refine (ev_op (ev_op (ev_var rfl) (ev_op (ev_var rfl) ev_c (rv_I ⟨by decide, by decide⟩)) (rv_ixL (K := K) (ex_l (e1.trans e2) hB) hat)) (ev_op (ev_var rfl) ev_c (rv_I (by decide))) (rv_eq rfl)) H3 e3 Q fun H4 e4 => q _ H4 e4 ?_
          rw [List.getElem?_map, List.getElem?_map, hn]
          show some (V.bl (Sr58.lit x n)) = some (V.bl (decide (V.int (Sr58.bit (x.getD (n / 2) false)) = V.int ((n : Int) % 2))))
          rw [decV, ← lit_iff]
          have : ((n % 2 : Nat) : Int) = (n : Int) % 2 := by omega
          rw [this]
        · have q := k.go (e1.trans e2)
          have : Sr58.holds x (.all l) = (l.map (Sr58.lit x)).all id := by
            rw [List.all_map]
            rfl
          rw [this] at q
          exact q
      · have := of_decide_eq_false hb
        exact absurd rfl this
    | many t s =>
      have hl : ((∀ y ∈ s, y < x.length) ∧ Rising s) ∧ s.length ≤ 70 ∧ t ≤ 20 := hg.2
      refine q_when (et_test (ev_op (ev_op (ev_var rfl) ev_c (rv_ixT (K := K) hT (at_of (j := 1) rfl rfl))) ev_c (rv_eq rfl))) (fun hb H1 e1 => ?_) (fun hb H1 e1 => ?_)
      · have := of_decide_eq_true hb
        injection this with e
        have e : (t : Int) = -1 := e
        omega
      · have hR1 : SqL K H1 q (iv (up s)) := ex_l e1 hR
        refine s_ret (ev_op (ev_sumN (K := K) (ns := s.map fun i => Sr58.bit (x.getD i false)) (el_of (n := (iv (up s)).length) (by rw [List.length_map, List.length_map, iv_len, up_len]) (lcL (K := K) (ev_op (ev_var rfl) ev_c (rv_ixT (K := K) (ex_t e1 hT) (at_of (j := 2) rfl rfl))) hR1 (by rw [iv_len, up_len]; omega) (fun _ => rfl) (stable_get _) (fun i y H2 e2 hy => ?_)))) (ev_op (ev_var rfl) ev_c (rv_ixT (K := K) (ex_t e1 hT) (at_of (j := 1) rfl rfl))) rv_I0) fun H2 e2 => ?_
        · obtain ⟨z, hz, rfl⟩ := iv_get hy
          obtain ⟨n, hn, rfl⟩ := up_get hz
          have hn2 := hl.1.1 n (List.mem_of_getElem? hn)
          have hat : atI (iv (bits x)) (n : Int) = some (.int (Sr58.bit (x.getD n false))) := at_of rfl (iv_getI (bits_get hn2))
          intro H3 e3 Q q
          refine (ev_op (ev_var rfl) (ev_var rfl) (rv_ixL (K := K) (ex_l (e1.trans e2) hB) hat)) H3 e3 Q fun H4 e4 => q _ H4 e4 ?_
          rw [List.getElem?_map, List.getElem?_map, hn]
          rfl
        · have q := k.go (e1.trans e2)
          have : Sr58.holds x (.many t s) = decide ((t : Int) ≤ (s.map fun i => Sr58.bit (x.getD i false)).sum) := by
            rw [ones_sum]
            show decide (t ≤ Sr58.ones x s) = _
            exact decide_eq_decide.mpr (by omega)
          rw [this] at q
          exact q
end
end Co
end
section
set_option maxRecDepth 100000
set_option maxHeartbeats 4000000
set_option linter.unusedVariables false
namespace Co
open PySem PySem.Spec PyProof.Rows L2 Evl Gn Mn Dk Bs
section
variable {σ : L2.St} {H : Hp} {t : TT} {tu tz : TS} {D : Ends} {ta tb te : TE}
theorem q_yes (h : EvT t σ H true) (k : ∀ H1, Ex H H1 → tu { D with nx := tz D } σ H1) : tSeq (tIfS t tu tNext) tz D σ H := q_when h (fun _ => k) (fun q => nomatch q)
theorem q_no (h : EvT t σ H false) (k : ∀ H1, Ex H H1 → tz D σ H1) : tSeq (tIfS t tu tNext) tz D σ H := q_when h (fun q => nomatch q) (fun _ => k)
theorem s_yes (h : EvT t σ H true) (k : ∀ H1, Ex H H1 → tu D σ H1) : tIfS t tu tNext D σ H := s_when h (fun _ => k) (fun q => nomatch q)
theorem s_no (h : EvT t σ H false) (k : ∀ H1, Ex H H1 → D.nx σ H1) : tIfS t tu tNext D σ H := s_when h (fun q => nomatch q) (fun _ => k)
theorem et_neI {x y : Int} {b : Bool} (ha : Ev ta σ H (.int x)) (hb : Ev tb σ H (.int y)) (e : (!decide (x = y)) = b) : EvT (tTest (tOp rNe ta tb)) σ H b :=
  et_is (et_test (ev_op ha hb (rv_ne rfl))) (by rw [decV]; exact e)
theorem et_eqI {x y : Int} {b : Bool} (ha : Ev ta σ H (.int x)) (hb : Ev tb σ H (.int y)) (e : decide (x = y) = b) : EvT (tTest (tOp rEq ta tb)) σ H b :=
  et_is (et_test (ev_op ha hb (rv_eq rfl))) (by rw [decV]; exact e)
/-- a list that stands, and a new one behind it -/
theorem el_catL {xs ys : List V} {q : Addr} (ha : Ev ta σ H (.ref q)) (hq : H q = some (.lst xs)) (hb : EvL tb σ H ys) (hl : xs.length + ys.length ≤ 100000) : EvL (tOp rCat ta tb) σ H (xs ++ ys) := fun H1 e Q k =>
  ha H1 e _ fun H2 e2 => hb H2 (e.trans e2) _ fun p H3 p0 e3 hp => ⟨q, p, xs, ys, rfl, rfl, e3 _ _ (e2 _ _ (e _ _ hq)), hp, sz_of hl, fun r hr => k r _ (fresh_back (e2.trans e3) hr) ((e2.trans e3).trans (Ex.new hr)) upd_same⟩
end
theorem given_take {α : Type} (l : List α) (z : α) (p : α → Bool) (g : α → V) : ∀ n, n ≤ l.length → given n (fun i => p (l.getD i z)) (fun i => g (l.getD i z)) = ((l.take n).filter p).map g
  | 0, _ => by simp [given]
  | n + 1, h => by
    have ih := given_take l z p g n (by omega)
    have e : l[n]? = some (l.getD n z) := by
      rw [List.getD_eq_getElem?_getD, List.getElem?_eq_getElem (by omega : n < l.length)]
      rfl
    rw [take_one e, List.filter_append, List.map_append]
    cases q : p (l.getD n z) with
    | true =>
      rw [given_yes (f := fun i => p (l.getD i z)) q, ih, List.filter_cons, if_pos q]
      rfl
    | false =>
      rw [given_no (f := fun i => p (l.getD i z)) q, ih, List.filter_cons, if_neg (by rw [q]; decide)]
      show _ = _ ++ []
      rw [List.append_nil]
section
variable {P : Program} {w : World} {K : PySem.W.Frag} {mg : Str → Option Value} {base : Heap} {f : Addr} {fd : FuncData}
/-! ### comes_to -/
abbrev sComes : Stmt := top 45
abbrev nComes : List Str := ["terms", "way", "term"]
theorem scComes : FnScope nComes ["terms", "way"] (defScope sComes) := ⟨rfl, rfl, rfl, by decide +kernel, rfl, by decide +kernel, by decide +kernel⟩
def spComes (K : PySem.W.Frag) : Sp := fun vs H Q _ => ∃ (a b : Addr) (ts : List Sr58.Term) (x : List Bool), vs = [.ref a, .ref b] ∧ TermsAt K H a (ts.map enc) ∧ ts.length ≤ 100 ∧ SqL K H b (iv (bits x)) ∧ (∀ t ∈ ts, termGood x.length t) ∧ RetV (.int (worthT ts x)) H Q
theorem sp_comes {H : Hp} {a b : Addr} {ts : List Sr58.Term} {x : List Bool} (hA : TermsAt K H a (ts.map enc)) (hl : ts.length ≤ 100) (hB : SqL K H b (iv (bits x))) (hg : ∀ t ∈ ts, termGood x.length t) : SpV (spComes K) [.ref a, .ref b] H (.int (worthT ts x)) := fun H1 e Q q E =>
  ⟨a, b, ts, x, rfl, hA.ex e, hl, ex_l e hB, hg, fun H2 e2 => q H2 e2⟩
theorem enc_w (t : Sr58.Term) : (enc t).1 = t.w := by
  obtain ⟨w, k⟩ := t
  cases k <;> rfl
theorem ok_comes {fS : Addr} {fdS : FuncData} (F : Fun K "comes_to" "comes_to" sComes f fd) (B : Bl mg)
    (GS : FnOk P w K mg base CX0 1 fS fdS ["term", "way"] (spIsSo K)) (bS : Binds K fdS ["term", "way"] []) (kS : PySem.W.keepIn K (.ref fS) = true) (mS : mg "is_so" = some (.ref fS)) : FnOk P w K mg base CX0 2 f fd ["terms", "way"] (spComes K) := by
  refine F.ok scComes (fun vs H Q E h => ?_) (fun cdv A outer s H vs Q E hr h => ?_)
  · obtain ⟨a, b, ts, x, rfl, _⟩ := h
    rfl
  · obtain ⟨a, b, ts, x, rfl, ⟨us, hA, hT⟩, hl, hB, hg, k⟩ := h
    refine ⟨_, pss_one (ps_ret (pe_callB (cr_sum rfl) (by rfl) B.sum (by decide +kernel) (pa_cons (pe_lc (own := [("term", 2)]) (g := gName 2) (tt := tB (tCall (spIsSo K) [] E0 (tCons (tVar 2) (tCons (tVar 1) tNil)))) (te := tOp (rIxT K) (tVar 2) (tC (.int 0))) rfl scComes.nd (pi_list (pv 0))
      (blkOk_by (own := [("term", 2)]) (N := nComes) (sc := defScope sComes) (by decide +kernel)) (fun _ _ _ _ _ => pg_name (i := 2) scComes.nd rfl (Or.inl rfl)) (fun _ _ _ _ _ => pts_one (pt_val (pe_call GS hr rfl mS kS bS .nil pass0 (pa_cons (pv 2) (pa_cons (pv 1) pa_nil))))) (fun _ _ _ _ _ => pe_ix ix_tup (pv 2) pe_int (fun _ _ => rfl))) pa_nil))), ?_⟩
    have hl2 : us.length = ts.length := by rw [hT.1, List.length_map]
    have at_t : ∀ (i : Nat) r, us[i]? = some r → TermV K (enc (ts.getD i ⟨0, .all []⟩)) H r ∧ ts.getD i ⟨0, .all []⟩ ∈ ts := fun i r hr => by
      obtain ⟨t, h1, h2⟩ := hT.2 i r hr
      rw [List.getElem?_map] at h1
      cases e : ts[i]? with
      | none =>
        rw [e] at h1
        cases h1
      | some u =>
        rw [e] at h1
        have h1 : enc u = t := Option.some.inj h1
        have eu : ts.getD i ⟨0, .all []⟩ = u := by
          rw [List.getD_eq_getElem?_getD, e]
          rfl
        rw [eu, h1]
        exact ⟨h2, List.mem_of_getElem? e⟩
    have key := el_lcL (K := K) (tl := tVar 0) (te := tOp (rIxT K) (tVar 2) (tC (.int 0))) (t := tB (tCall (spIsSo K) [] E0 (tCons (tVar 2) (tCons (tVar 1) tNil)))) (j := 2) (vs := [2]) (σ := start nComes [.ref a, .ref b]) (H := H) (fun i => Sr58.holds x (ts.getD i ⟨0, .all []⟩).sort) (fun i => V.int (ts.getD i ⟨0, .all []⟩).w) (ev_var rfl) hA (by omega) (fun _ => rfl)
      (fun i y H1 e1 hy => et_B (ev_call (ea_cons (ev_var rfl) (ea_cons (ev_var rfl) ea_nil)) (sp_isSo ((at_t i y hy).1.ex e1) (ex_l e1 hB) (hg _ (at_t i y hy).2))))
      (fun i y H1 e1 hy _ => by
        obtain ⟨ta, q', rfl, hTa, hTq⟩ := id ((at_t i y hy).1.ex e1)
        refine ev_is (ev_op (ev_var rfl) ev_c (rv_ixT (K := K) hTa (at_of (j := 0) rfl rfl))) ?_
        rw [enc_w])
    rw [given_take ts ⟨0, .all []⟩ (fun t => Sr58.holds x t.sort) (fun t => V.int t.w) us.length (by omega), hl2, List.take_length] at key
    have e3 : (ts.filter fun t => Sr58.holds x t.sort).map (fun t => V.int t.w) = ((ts.filter fun t => Sr58.holds x t.sort).map fun t => t.w).map V.int := by
      rw [List.map_map]
      rfl
    rw [e3] at key
    exact s_ret (ev_sumN (K := K) key) fun H2 e2 => k.go e2
/-! ### all_ways -/
abbrev sWays : Stmt := top 46
abbrev nWays : List Str := ["laid", "ways", "lies", "longer", "way"]
theorem scWays : FnScope nWays ["laid"] (defScope sWays) := ⟨rfl, rfl, rfl, by decide +kernel, rfl, by decide +kernel, by decide +kernel⟩
def WaysV (H : Hp) (rs : List V) (W : List (List Bool)) : Prop := rs.length = W.length ∧ ∀ (i : Nat) r, rs[i]? = some r → ∃ w p, W[i]? = some w ∧ r = .ref p ∧ H p = some (.lst (iv (bits w)))
/-- the same, none of them the list at D -/
def WaysX (H : Hp) (D : Addr) (rs : List V) (W : List (List Bool)) : Prop := rs.length = W.length ∧ ∀ (i : Nat) r, rs[i]? = some r → ∃ w p, W[i]? = some w ∧ r = .ref p ∧ p ≠ D ∧ H p = some (.lst (iv (bits w)))
theorem WaysV.ex {H H' : Hp} {rs : List V} {W : List (List Bool)} (h : WaysV H rs W) (e : Ex H H') : WaysV H' rs W := ⟨h.1, fun i r hr => by
  obtain ⟨w, p, h1, h2, h3⟩ := h.2 i r hr
  exact ⟨w, p, h1, h2, e _ _ h3⟩⟩
theorem WaysX.ex {H H' : Hp} {D : Addr} {rs : List V} {W : List (List Bool)} (h : WaysX H D rs W) (e : Ex H H') : WaysX H' D rs W := ⟨h.1, fun i r hr => by
  obtain ⟨w, p, h1, h2, h3, h4⟩ := h.2 i r hr
  exact ⟨w, p, h1, h2, h3, e _ _ h4⟩⟩
theorem WaysX.v {H : Hp} {D : Addr} {rs : List V} {W : List (List Bool)} (h : WaysX H D rs W) : WaysV H rs W := ⟨h.1, fun i r hr => by
  obtain ⟨w, p, h1, h2, h3, h4⟩ := h.2 i r hr
  exact ⟨w, p, h1, h2, h4⟩⟩
/-- one way more -/
theorem WaysX.add {H H2 : Hp} {D p : Addr} {rs : List V} {W : List (List Bool)} {w : List Bool} {o : HO} (h : WaysX H D rs W) (hD : H D = some o) (hp : H p = none) (e : Ex H H2) (h2 : H2 p = some (.lst (iv (bits w)))) (o' : HO) : WaysX (upd H2 D o') D (rs ++ [.ref p]) (W ++ [w]) := by
  have pD : p ≠ D := fun q => by
    rw [q, hD] at hp
    cases hp
  refine ⟨by rw [List.length_append, List.length_append, h.1]; rfl, fun i r hr => ?_⟩
  rw [List.getElem?_append] at hr
  by_cases hi : i < rs.length
  · rw [if_pos hi] at hr
    obtain ⟨w', p', h3, h4, h5, h6⟩ := h.2 i r hr
    exact ⟨w', p', by rw [List.getElem?_append, if_pos (by rw [← h.1]; exact hi)]; exact h3, h4, h5, by rw [upd_ne h5]; exact e _ _ h6⟩
  · rw [if_neg hi] at hr
    have h0 : i - rs.length = 0 := by
      have := (List.getElem?_eq_some_iff.mp hr).1
      simp at this
      exact this
    rw [h0] at hr
    have er : V.ref p = r := Option.some.inj hr
    refine ⟨w, p, ?_, er.symm, pD, by rw [upd_ne pD]; exact h2⟩
    rw [List.getElem?_append, if_neg (by rw [← h.1]; exact hi), ← h.1, h0]
    rfl
theorem bits_add (w : List Bool) (b : Bool) : iv (bits w) ++ [V.int (Sr58.bit b)] = iv (bits (w ++ [b])) := by
  unfold iv bits
  rw [List.map_append, List.map_append]
  rfl
def spWays (K : PySem.W.Frag) : Sp := fun vs H Q _ => ∃ (a : Addr) (ls : List (Option Bool)), vs = [.ref a] ∧ SqL K H a (iv (ls.map lt1)) ∧ ls.length ≤ 10 ∧ ∀ p rs H2, H p = none → Ex H H2 → H2 p = some (.lst rs) → WaysV H2 rs (ls.foldl ext [[]]) → Q (.ref p) H2
theorem ext_take {W : List (List Bool)} {i : Nat} {w : List Bool} (h : W[i]? = some w) (l : Option Bool) : ext (W.take (i + 1)) l = ext (W.take i) l ++ ext1 w l := by
  unfold ext
  rw [take_one h, List.flatMap_append]
  show _ ++ (ext1 w l ++ []) = _
  rw [List.append_nil]
theorem ways_small (ls : List (Option Bool)) (h : ls.length ≤ 10) : (ls.foldl ext [[]]).length ≤ 1024 := by
  have := ext_len_all ls [[]]
  have h2 : 2 ^ ls.length ≤ 2 ^ 10 := Nat.pow_le_pow_right (by decide) h
  have h3 : ([[]] : List (List Bool)).length = 1 := rfl
  rw [h3, Nat.mul_one] at this
  exact Nat.le_trans this h2
theorem ways_wlen : ∀ (ls : List (Option Bool)) (n : Nat) (W : List (List Bool)), (∀ w ∈ W, w.length = n) → ∀ w ∈ ls.foldl ext W, w.length = n + ls.length
  | [], n, W, h, w, hw => h w hw
  | l :: ls, n, W, h, w, hw => by
    have := ways_wlen ls (n + 1) (ext W l) (ext_mem_len h) w hw
    rw [this, List.length_cons]
    omega
theorem ok_ways (F : Fun K "all_ways" "all_ways" sWays f fd) : FnOk P w K mg base CX0 1 f fd ["laid"] (spWays K) := by
  refine F.ok scWays (fun vs H Q E h => ?_) (fun cdv A outer s H vs Q E hr h => ?_)
  · obtain ⟨a, ls, rfl, _⟩ := h
    rfl
  · obtain ⟨a, ls, rfl, hS, hl, k⟩ := h
    refine ⟨_, pss_cons (ps_set (i := 1) scWays.nd rfl (Or.inl rfl) (pe_lst (pa_cons (pe_lst pa_nil) pa_nil)))
      (pss_cons (ps_for PassesOwn.never rfl (pi_list (pv 0)) (pg_name (i := 2) scWays.nd rfl (Or.inl rfl))
        (pss_cons (ps_set (i := 3) scWays.nd rfl (Or.inl rfl) (pe_lst pa_nil))
        (pss_cons (ps_for PassesOwn.never rfl (pi_list (pv 1)) (pg_name (i := 4) scWays.nd rfl (Or.inl rfl))
          (pss_cons (ps_if (pt_cmpR op_ne (pv 2) pe_int (nomark _)) (pss_one (ps_expr (pe_bm PySem.F.plainAttrs_list PySem.F.slot_list_append PySem.F.type_list_append mt_append (pv 3) (pa_cons (pe_op op_cat (pv 4) (pe_lst (pa_cons pe_int pa_nil))) pa_nil)))) pss_nil)
          (pss_one (ps_if (pt_cmpR op_ne (pv 2) pe_int (nomark _)) (pss_one (ps_expr (pe_bm PySem.F.plainAttrs_list PySem.F.slot_list_append PySem.F.type_list_append mt_append (pv 3) (pa_cons (pe_op op_cat (pv 4) (pe_lst (pa_cons pe_int pa_nil))) pa_nil)))) pss_nil))))
        (pss_one (ps_set (i := 1) scWays.nd rfl (Or.inl rfl) (pv 3))))))
      (pss_one (ps_ret (pv 1)))), ?_⟩
    refine ⟨Nat.zero_le _, fun p0 hp0 => ⟨(by show 1 ≤ sizeLine; decide), fun p1 hp1 => ?_⟩⟩
    have h01 : p0 ≠ p1 := fun q => by
      rw [← q, upd_same] at hp1
      cases hp1
    have E0 : Ex H (upd (upd H p0 (.lst [])) p1 (.lst [.ref p0])) := (Ex.new hp0).trans (Ex.new hp1)
    refine q_forLn (K := K) (xs := iv (ls.map lt1)) (ev_var rfl) (ex_l E0 hS) (fun i σ H' => ∃ (q : Addr) (rs : List V) (u2 u3 u4 : Option V), σ = [some (.ref a), some (.ref q), u2, u3, u4] ∧ Ex H H' ∧ H q = none ∧ H' q = some (.lst rs) ∧ WaysV H' rs ((ls.take i).foldl ext [[]]))
      (fun H1 e1 => ⟨p1, [.ref p0], none, none, none, rfl, E0.trans e1, fresh_back (Ex.new hp0) hp1, e1 _ _ upd_same, rfl, fun i r hr => ?_⟩) (fun i σ H' _ ⟨_, _, _, _, _, _, e1, _⟩ => ex_l e1 hS) ?_ ?_
    · have hi : i = 0 := by
        have := (List.getElem?_eq_some_iff.mp hr).1
        simp at this
        exact this
      subst hi
      exact ⟨[], p0, rfl, (Option.some.inj hr).symm, e1 _ _ (by rw [upd_ne h01]; exact upd_same)⟩
    · rintro i x σ H1 hi ⟨q, rs, u2, u3, u4, rfl, e1, hq, h1, hW⟩
      obtain ⟨z, hz, rfl⟩ := iv_get hi
      rw [List.getElem?_map] at hz
      cases el : ls[i]? with
      | none =>
        rw [el] at hz
        cases hz
      | some l =>
        rw [el] at hz
        have ez : lt1 l = z := Option.some.inj hz
        subst ez
        have hil := (List.getElem?_eq_some_iff.mp el).1
        have hsm := ways_small (ls.take i) (by rw [List.length_take]; omega)
        have hwl := ways_wlen (ls.take i) 0 [[]] (fun w hw => by rw [List.mem_singleton.mp hw]; rfl)
        have efold : (ls.take (i + 1)).foldl ext [[]] = ext ((ls.take i).foldl ext [[]]) l := by
          rw [take_one el, List.foldl_append]
          rfl
        rw [efold]
        generalize (ls.take i).foldl ext [[]] = W at *
        refine q_asgL (el_lst ea_nil (Nat.zero_le _)) fun p3 H2 hp3 e2 h2 => ?_
        refine q_forLn (K := K) (xs := rs) (ev_var rfl) (sq_of (e2 _ _ h1)) (fun j σ H' => ∃ (acc : List V) (u : Option V), σ = [some (.ref a), some (.ref q), some (.int (lt1 l)), some (.ref p3), u] ∧ Ex H1 H' ∧ H' p3 = some (.lst acc) ∧ WaysX H' p3 acc (ext (W.take j) l))
          (fun H3 e3 => ⟨[], u4, rfl, e2.trans e3, e3 _ _ h2, rfl, fun i r hr => by simp at hr⟩) (fun j σ H' _ ⟨_, _, _, e3, _⟩ => sq_of (e3 _ _ h1)) ?_ ?_
        · rintro j y σ H3 hj ⟨acc, u, rfl, e3, h3, hX⟩
          obtain ⟨wy, py, hwy, rfl, hpy⟩ := (hW.ex e3).2 j y hj
          have hjW := (List.getElem?_eq_some_iff.mp hwy).1
          have aL : acc.length ≤ 2048 := by
            rw [hX.1]
            refine Nat.le_trans (ext_len _ _) ?_
            rw [List.length_take]
            omega
          have wL : wy.length ≤ 10 := by
            have := hwl wy (List.mem_of_getElem? hwy)
            rw [List.length_take] at this
            omega
          rw [ext_take hwy]
          have wb : ∀ b : Bool, (iv (bits wy)).length + ([V.int (Sr58.bit b)] : List V).length ≤ 100000 := fun b => by
            rw [iv_len, bits_len]
            show wy.length + 1 ≤ _
            omega
          cases l with
          | none =>
            refine q_yes (et_neI (ev_var rfl) ev_c (by decide)) fun H4 e4 => ?_
            refine s_appL (K := K) (e4 _ _ h3) (ev_var rfl) (el_catL (ev_var rfl) (e4 _ _ hpy) (el_lst (ea_cons (x := V.int (Sr58.bit false)) ev_c ea_nil) (by show 1 ≤ 100000; decide)) (wb false)) (by omega) fun p5 H5 hp5 e5 h5 => ?_
            rw [bits_add] at h5
            have X5 := (hX.ex e4).add (e4 _ _ h3) hp5 e5 h5 (.lst (acc ++ [.ref p5]))
            have py3 : py ≠ p3 := fun q => by
              have a1 := hpy
              rw [q, h3] at a1
              have := (hW.ex (Ex.refl H1)).2 j _ hj
              obtain ⟨w', p', _, e', h'⟩ := this
              cases e'
              rw [q, hp3] at h'
              cases h'
            have E5 : Ex H1 (upd H5 p3 (.lst (acc ++ [.ref p5]))) := Ex.mut ((e3.trans e4).trans e5) hp3
            refine s_yes (et_neI (ev_var rfl) ev_c (by decide)) fun H6 e6 => ?_
            refine s_appL (K := K) (e6 _ _ upd_same) (ev_var rfl) (el_catL (ev_var rfl) (e6 _ _ (by rw [upd_ne py3]; exact e5 _ _ (e4 _ _ hpy))) (el_lst (ea_cons (x := V.int (Sr58.bit true)) ev_c ea_nil) (by show 1 ≤ 100000; decide)) (wb true)) (by rw [List.length_append]; show acc.length + 1 < _; omega) fun p7 H7 hp7 e7 h7 => ?_
            rw [bits_add] at h7
            have X7 := (X5.ex e6).add (e6 _ _ upd_same) hp7 e7 h7 (.lst (acc ++ [.ref p5] ++ [.ref p7]))
            refine ⟨_, _, rfl, Ex.mut ((E5.trans e6).trans e7) hp3, upd_same, ?_⟩
            rw [List.append_assoc (ext (W.take j) none)] at X7
            exact X7
          | some v =>
            cases v with
            | false =>
              refine q_yes (et_neI (ev_var rfl) ev_c (by decide)) fun H4 e4 => ?_
              refine s_appL (K := K) (e4 _ _ h3) (ev_var rfl) (el_catL (ev_var rfl) (e4 _ _ hpy) (el_lst (ea_cons (x := V.int (Sr58.bit false)) ev_c ea_nil) (by show 1 ≤ 100000; decide)) (wb false)) (by omega) fun p5 H5 hp5 e5 h5 => ?_
              rw [bits_add] at h5
              have X5 := (hX.ex e4).add (e4 _ _ h3) hp5 e5 h5 (.lst (acc ++ [.ref p5]))
              have E5 : Ex H1 (upd H5 p3 (.lst (acc ++ [.ref p5]))) := Ex.mut ((e3.trans e4).trans e5) hp3
              refine s_no (et_neI (ev_var rfl) ev_c (by decide)) fun H6 e6 => ?_
              exact ⟨_, _, rfl, E5.trans e6, e6 _ _ upd_same, X5.ex e6⟩
            | true =>
              refine q_no (et_neI (ev_var rfl) ev_c (by decide)) fun H4 e4 => ?_
              refine s_yes (et_neI (ev_var rfl) ev_c (by decide)) fun H6 e6 => ?_
              refine s_appL (K := K) (e6 _ _ (e4 _ _ h3)) (ev_var rfl) (el_catL (ev_var rfl) (e6 _ _ (e4 _ _ hpy)) (el_lst (ea_cons (x := V.int (Sr58.bit true)) ev_c ea_nil) (by show 1 ≤ 100000; decide)) (wb true)) (by omega) fun p5 H5 hp5 e5 h5 => ?_
              rw [bits_add] at h5
              have X5 := ((hX.ex e4).ex e6).add (e6 _ _ (e4 _ _ h3)) hp5 e5 h5 (.lst (acc ++ [.ref p5]))
              exact ⟨_, _, rfl, Ex.mut (((e3.trans e4).trans e6).trans e5) hp3, upd_same, X5⟩
        · rintro σ H3 ⟨acc, u, rfl, e3, h3, hX⟩
          rw [hW.1, List.take_length] at hX
          refine s_asg (ev_var rfl) fun H4 e4 => ?_
          exact ⟨p3, acc, _, _, _, rfl, (e1.trans e3).trans e4, fresh_back e1 hp3, e4 _ _ h3, hX.v.ex e4⟩
    · rintro σ H1 ⟨q, rs, u2, u3, u4, rfl, e1, hq, h1, hW⟩
      rw [iv_len, List.length_map, List.take_length] at hW
      exact s_ret (ev_var rfl) fun H2 e2 => k q rs H2 hq (e1.trans e2) (e2 _ _ h1) (hW.ex e2)
end
end Co
end
section
set_option maxRecDepth 100000
set_option maxHeartbeats 4000000
set_option linter.unusedVariables false
namespace Co
open PySem PySem.Spec PyProof.Rows L2 Evl Gn Mn Dk
/-! ### how the object lies in the heap -/
structure M where
  cs : List P2
  ls : List Int
  ts : List T3
  mu : Int
theorem lk_here {k : Str} {v : V} {r : List (Str × V)} : List.lookup k ((k, v) :: r) = some v := by
  have e : (k == k) = true := beq_self_eq_true k
  simp only [List.lookup, e]
theorem lk_past {k g : Str} {v : V} {r : List (Str × V)} (h : (k == g) = false) : List.lookup k ((g, v) :: r) = List.lookup k r := by
  simp only [List.lookup, h]
theorem put_here {f : Str} {v x : V} {r : List (Str × V)} : putF f v ((f, x) :: r) = (f, v) :: r := if_pos rfl
theorem put_past {f g : Str} {v x : V} {r : List (Str × V)} (h : ¬ g = f) : putF f v ((g, x) :: r) = (g, x) :: putF f v r := if_neg h
def fl (lc ll lt : Addr) (mu : Int) : List (Str × V) := [("chances", .ref lc), ("laid", .ref ll), ("terms", .ref lt), ("much", .int mu)]
section
variable {lc ll lt p : Addr} {mu z : Int}
theorem fl_chances : (fl lc ll lt mu).lookup ("chances" : Str) = some (.ref lc) := lk_here
theorem fl_laid : (fl lc ll lt mu).lookup ("laid" : Str) = some (.ref ll) := (lk_past (by decide +kernel)).trans lk_here
theorem fl_terms : (fl lc ll lt mu).lookup ("terms" : Str) = some (.ref lt) := (lk_past (by decide +kernel)).trans ((lk_past (by decide +kernel)).trans lk_here)
theorem fl_much : (fl lc ll lt mu).lookup ("much" : Str) = some (.int mu) := (lk_past (by decide +kernel)).trans ((lk_past (by decide +kernel)).trans ((lk_past (by decide +kernel)).trans lk_here))
theorem fl_no {m : Str} (h : ((m == ("chances" : Str)) || (m == ("laid" : Str)) || (m == ("terms" : Str)) || (m == ("much" : Str))) = false) : (fl lc ll lt mu).lookup m = none := by
  simp only [Bool.or_eq_false_iff] at h
  exact (lk_past h.1.1.1).trans ((lk_past h.1.1.2).trans ((lk_past h.1.2).trans ((lk_past h.2).trans rfl)))
theorem put_chances : putF "chances" (.ref p) (fl lc ll lt mu) = fl p ll lt mu := put_here
theorem put_laid : putF "laid" (.ref p) (fl lc ll lt mu) = fl lc p lt mu := (put_past (by decide +kernel)).trans (congrArg _ put_here)
theorem put_terms : putF "terms" (.ref p) (fl lc ll lt mu) = fl lc ll p mu := (put_past (by decide +kernel)).trans (congrArg _ ((put_past (by decide +kernel)).trans (congrArg _ put_here)))
theorem put_much : putF "much" (.int z) (fl lc ll lt mu) = fl lc ll lt z := (put_past (by decide +kernel)).trans (congrArg _ ((put_past (by decide +kernel)).trans (congrArg _ ((put_past (by decide +kernel)).trans (congrArg _ put_here)))))
theorem put_new : putF "much" (.int z) (putF "terms" (.ref lt) (putF "laid" (.ref ll) (putF "chances" (.ref lc) []))) = fl lc ll lt z := by
  have e1 : putF "laid" (V.ref ll) (putF "chances" (V.ref lc) []) = [(("chances" : Str), V.ref lc), ("laid", V.ref ll)] := (put_past (by decide +kernel)).trans rfl
  have e2 : putF "terms" (V.ref lt) [(("chances" : Str), V.ref lc), ("laid", V.ref ll)] = [(("chances" : Str), V.ref lc), ("laid", V.ref ll), ("terms", V.ref lt)] := (put_past (by decide +kernel)).trans (congrArg _ ((put_past (by decide +kernel)).trans rfl))
  rw [e1, e2]
  exact (put_past (by decide +kernel)).trans (congrArg _ ((put_past (by decide +kernel)).trans (congrArg _ ((put_past (by decide +kernel)).trans rfl))))
end
def TermG (K : PySem.W.Frag) (G : Hp) (t : T3) : Hp → V → Prop := fun H v => ∃ a q, v = .ref a ∧ SqT K H a [.int t.1, .int t.2.1, .ref q] ∧ G q = some (.lst (iv t.2.2))
def TermsG (K : PySem.W.Frag) (G H : Hp) (rs : List V) (ts : List T3) : Prop := rs.length = ts.length ∧ ∀ (i : Nat) r, rs[i]? = some r → ∃ t, ts[i]? = some t ∧ TermG K G t H r
/-- a thing that a tuple's place tells, when a list is written anew -/
theorem sqT_upd {K : PySem.W.Frag} {H : Hp} {t D : Addr} {xs : List V} {o : HO} (h : SqT K H t xs) (hD : ∃ u, H D = some u ∧ (∀ ys, u ≠ .tup ys) ∧ (∀ ob ys, u ≠ .frz ob (.tup ys))) : SqT K (upd H D o) t xs := by
  obtain ⟨u, hu, n1, n2⟩ := hD
  rcases h with (h | ⟨ob, h⟩) | h
  · have ne : t ≠ D := fun q => by
      rw [q, hu] at h
      exact n1 _ (Option.some.inj h)
    exact .inl (.inl (by rw [upd_ne ne]; exact h))
  · have ne : t ≠ D := fun q => by
      rw [q, hu] at h
      exact n2 _ _ (Option.some.inj h)
    exact .inl (.inr ⟨ob, by rw [upd_ne ne]; exact h⟩)
  · exact .inr h
def notTup (H : Hp) (D : Addr) : Prop := ∃ u, H D = some u ∧ (∀ ys, u ≠ .tup ys) ∧ (∀ ob ys, u ≠ .frz ob (.tup ys))
theorem notTup_lst {H : Hp} {D : Addr} {xs : List V} (h : H D = some (.lst xs)) : notTup H D := ⟨_, h, (fun ys q => by cases q), (fun ob ys q => by cases q)⟩
theorem notTup_ins {H : Hp} {D C dx : Addr} {fs : List (Str × V)} (h : H D = some (.ins C dx fs)) : notTup H D := ⟨_, h, (fun ys q => by cases q), (fun ob ys q => by cases q)⟩
theorem PairsV.upd {K : PySem.W.Frag} {H : Hp} {D : Addr} {o : HO} {rs : List V} {ps : List P2} (h : PairsV K H rs ps) (hD : notTup H D) : PairsV K (upd H D o) rs ps :=
  ⟨h.1, fun i r hr => by
    obtain ⟨p, h1, t, h2, h3⟩ := h.2 i r hr
    exact ⟨p, h1, t, h2, sqT_upd h3 hD⟩⟩
theorem TermsG.upd {K : PySem.W.Frag} {G H : Hp} {D : Addr} {o : HO} {rs : List V} {ps : List T3} (h : TermsG K G H rs ps) (hD : notTup H D) : TermsG K G (upd H D o) rs ps :=
  ⟨h.1, fun i r hr => by
    obtain ⟨p, h1, t, q, h2, h3, h4⟩ := h.2 i r hr
    exact ⟨p, h1, t, q, h2, sqT_upd h3 hD, h4⟩⟩
theorem TermsG.ex {K : PySem.W.Frag} {G H H' : Hp} {rs : List V} {ps : List T3} (e : Ex H H') (h : TermsG K G H rs ps) : TermsG K G H' rs ps :=
  ⟨h.1, fun i r hr => by
    obtain ⟨p, h1, t, q, h2, h3, h4⟩ := h.2 i r hr
    exact ⟨p, h1, t, q, h2, ex_t e h3, h4⟩⟩
theorem TermsG.exG {K : PySem.W.Frag} {G G' H : Hp} {rs : List V} {ps : List T3} (e : Ex G G') (h : TermsG K G H rs ps) : TermsG K G' H rs ps :=
  ⟨h.1, fun i r hr => by
    obtain ⟨p, h1, t, q, h2, h3, h4⟩ := h.2 i r hr
    exact ⟨p, h1, t, q, h2, h3, e _ _ h4⟩⟩
theorem TermsG.terms {K : PySem.W.Frag} {G H : Hp} {rs : List V} {ps : List T3} (e : Ex G H) (h : TermsG K G H rs ps) : TermsV K H rs ps :=
  ⟨h.1, fun i r hr => by
    obtain ⟨p, h1, t, q, h2, h3, h4⟩ := h.2 i r hr
    exact ⟨p, h1, t, q, h2, h3, sq_of (e _ _ h4)⟩⟩
/-- G: what is read alone (the rows); F: what is not the object's; H: the heap -/
structure At0 (K : PySem.W.Frag) (C : Addr) (G F H : Hp) (a dx lc ll lt : Addr) (rs us : List V) (m : M) : Prop where
  gf : Ex G F
  fh : Ex F H
  fa : F a = none
  fc : F lc = none
  fl : F ll = none
  ft : F lt = none
  ncl : lc ≠ ll
  nct : lc ≠ lt
  nlt : ll ≠ lt
  ha : H a = some (.ins C dx (Co.fl lc ll lt m.mu))
  hc : H lc = some (.lst rs)
  pc : PairsV K H rs m.cs
  hl : H ll = some (.lst (iv m.ls))
  ht : H lt = some (.lst us)
  pt : TermsG K G H us m.ts
def MAt (K : PySem.W.Frag) (C : Addr) (G F H : Hp) (a : Addr) (m : M) : Prop := ∃ dx lc ll lt rs us, At0 K C G F H a dx lc ll lt rs us m
section
variable {K : PySem.W.Frag} {C : Addr} {G F H H' : Hp} {a dx lc ll lt p : Addr} {rs us : List V} {m : M}
theorem At0.gh (A : At0 K C G F H a dx lc ll lt rs us m) : Ex G H := A.gf.trans A.fh
theorem At0.ex (A : At0 K C G F H a dx lc ll lt rs us m) (e : Ex H H') : At0 K C G F H' a dx lc ll lt rs us m :=
  ⟨A.gf, A.fh.trans e, A.fa, A.fc, A.fl, A.ft, A.ncl, A.nct, A.nlt, e _ _ A.ha, e _ _ A.hc, A.pc.ex e, e _ _ A.hl, e _ _ A.ht, A.pt.ex e⟩
theorem At0.na {o : List V} (A : At0 K C G F H a dx lc ll lt rs us m) (h : H p = some (.lst o)) : a ≠ p := fun q => by
  have := A.ha
  rw [q, h] at this
  cases this
/-- the laid coins' list written anew in its place -/
theorem At0.setL (A : At0 K C G F H a dx lc ll lt rs us m) (ls : List Int) : At0 K C G F (upd H ll (.lst (iv ls))) a dx lc ll lt rs us { m with ls := ls } :=
  ⟨A.gf, Ex.mut A.fh A.fl, A.fa, A.fc, A.fl, A.ft, A.ncl, A.nct, A.nlt, by rw [upd_ne (A.na A.hl)]; exact A.ha, by rw [upd_ne A.ncl]; exact A.hc, A.pc.upd (notTup_lst A.hl), upd_same, by rw [upd_ne A.nlt.symm]; exact A.ht, A.pt.upd (notTup_lst A.hl)⟩
theorem At0.setC (A : At0 K C G F H a dx lc ll lt rs us m) {rs' : List V} {cs : List P2} (h : PairsV K H rs' cs) : At0 K C G F (upd H lc (.lst rs')) a dx lc ll lt rs' us { m with cs := cs } :=
  ⟨A.gf, Ex.mut A.fh A.fc, A.fa, A.fc, A.fl, A.ft, A.ncl, A.nct, A.nlt, by rw [upd_ne (A.na A.hc)]; exact A.ha, upd_same, h.upd (notTup_lst A.hc), by rw [upd_ne A.ncl.symm]; exact A.hl, by rw [upd_ne A.nct.symm]; exact A.ht, A.pt.upd (notTup_lst A.hc)⟩
theorem At0.setT (A : At0 K C G F H a dx lc ll lt rs us m) {us' : List V} {ts : List T3} (h : TermsG K G H us' ts) : At0 K C G F (upd H lt (.lst us')) a dx lc ll lt rs us' { m with ts := ts } :=
  ⟨A.gf, Ex.mut A.fh A.ft, A.fa, A.fc, A.fl, A.ft, A.ncl, A.nct, A.nlt, by rw [upd_ne (A.na A.ht)]; exact A.ha, by rw [upd_ne A.nct]; exact A.hc, A.pc.upd (notTup_lst A.ht), by rw [upd_ne A.nlt]; exact A.hl, upd_same, h.upd (notTup_lst A.ht)⟩
/-- a new list for a value of the object -/
theorem At0.putL (A : At0 K C G F H a dx lc ll lt rs us m) {ls : List Int} (hp : H p = some (.lst (iv ls))) (fp : F p = none) (n1 : lc ≠ p) (n2 : p ≠ lt) : At0 K C G F (upd H a (.ins C dx (putF "laid" (.ref p) (Co.fl lc ll lt m.mu)))) a dx lc p lt rs us { m with ls := ls } :=
  ⟨A.gf, Ex.mut A.fh A.fa, A.fa, A.fc, fp, A.ft, n1, A.nct, n2, by rw [put_laid]; exact upd_same, by rw [upd_ne (A.na A.hc).symm]; exact A.hc, A.pc.upd (notTup_ins A.ha), by rw [upd_ne (A.na hp).symm]; exact hp, by rw [upd_ne (A.na A.ht).symm]; exact A.ht, A.pt.upd (notTup_ins A.ha)⟩
theorem At0.putC (A : At0 K C G F H a dx lc ll lt rs us m) {cs : List P2} {rs' : List V} (hp : H p = some (.lst rs')) (hP : PairsV K H rs' cs) (fp : F p = none) (n1 : p ≠ ll) (n2 : p ≠ lt) : At0 K C G F (upd H a (.ins C dx (putF "chances" (.ref p) (Co.fl lc ll lt m.mu)))) a dx p ll lt rs' us { m with cs := cs } :=
  ⟨A.gf, Ex.mut A.fh A.fa, A.fa, fp, A.fl, A.ft, n1, n2, A.nlt, by rw [put_chances]; exact upd_same, by rw [upd_ne (A.na hp).symm]; exact hp, hP.upd (notTup_ins A.ha), by rw [upd_ne (A.na A.hl).symm]; exact A.hl, by rw [upd_ne (A.na A.ht).symm]; exact A.ht, A.pt.upd (notTup_ins A.ha)⟩
theorem At0.putT (A : At0 K C G F H a dx lc ll lt rs us m) {ts : List T3} {us' : List V} (hp : H p = some (.lst us')) (hT : TermsG K G H us' ts) (fp : F p = none) (n1 : lc ≠ p) (n2 : ll ≠ p) : At0 K C G F (upd H a (.ins C dx (putF "terms" (.ref p) (Co.fl lc ll lt m.mu)))) a dx lc ll p rs us' { m with ts := ts } :=
  ⟨A.gf, Ex.mut A.fh A.fa, A.fa, A.fc, A.fl, fp, A.ncl, n1, n2, by rw [put_terms]; exact upd_same, by rw [upd_ne (A.na A.hc).symm]; exact A.hc, A.pc.upd (notTup_ins A.ha), by rw [upd_ne (A.na A.hl).symm]; exact A.hl, by rw [upd_ne (A.na hp).symm]; exact hp, hT.upd (notTup_ins A.ha)⟩
theorem At0.putM (A : At0 K C G F H a dx lc ll lt rs us m) (z : Int) : At0 K C G F (upd H a (.ins C dx (putF "much" (.int z) (Co.fl lc ll lt m.mu)))) a dx lc ll lt rs us { m with mu := z } :=
  ⟨A.gf, Ex.mut A.fh A.fa, A.fa, A.fc, A.fl, A.ft, A.ncl, A.nct, A.nlt, by rw [put_much]; exact upd_same, by rw [upd_ne (A.na A.hc).symm]; exact A.hc, A.pc.upd (notTup_ins A.ha), by rw [upd_ne (A.na A.hl).symm]; exact A.hl, by rw [upd_ne (A.na A.ht).symm]; exact A.ht, A.pt.upd (notTup_ins A.ha)⟩
end
/-! ### the specification's state -/
def MRel (m : M) (st : Sr58.State) : Prop := match st with
  | none => m = ⟨[], [], [], 0⟩
  | some d => Rel m.cs d ∧ m.ls = Sr58.laidTold d ∧ m.ts = d.terms.map enc ∧ m.mu = Sr58.bit d.much
def At (K : PySem.W.Frag) (C : Addr) (G F H : Hp) (a : Addr) (st : Sr58.State) : Prop := ∃ m, MRel m st ∧ MAt K C G F H a m
theorem MAt.ex {K : PySem.W.Frag} {C : Addr} {G F H H' : Hp} {a : Addr} {m : M} (A : MAt K C G F H a m) (e : Ex H H') : MAt K C G F H' a m := by
  obtain ⟨dx, lc, ll, lt, rs, us, A⟩ := A
  exact ⟨dx, lc, ll, lt, rs, us, A.ex e⟩
theorem At.ex {K : PySem.W.Frag} {C : Addr} {G F H H' : Hp} {a : Addr} {st : Sr58.State} (A : At K C G F H a st) (e : Ex H H') : At K C G F H' a st := by
  obtain ⟨m, h, A⟩ := A
  exact ⟨m, h, A.ex e⟩
/-! ### fields and methods -/
section
variable {K : PySem.W.Frag} {σ : L2.St} {H : Hp} {ta te : TE} {a C dx : Addr} {fs : List (Str × V)} {x v z : V} {D : Ends} {tz : TS}
theorem ev_fld {f : Str} (h : Ev ta σ H (.ref a)) (ha : H a = some (.ins C dx fs)) (c : Cls K C) (n : NoAttr K C f) (l : fs.lookup f = some v) : Ev (tFld K ta f) σ H v := fun H1 e Q q =>
  h H1 e _ fun H2 e2 => ⟨a, C, dx, fs, v, rfl, e2 _ _ (e _ _ ha), c, n, l, q H2 e2⟩
theorem ev_meth {m : Str} {sp : Sp} {dvs vs : List V} {E : XK} {t : TA} (h : Ev ta σ H (.ref a)) (ha : H a = some (.ins C dx fs)) (hn : fs.lookup m = none) (ht : EvA t σ H vs) (hs : SpV sp (.ref a :: (vs ++ dvs)) H z) : Ev (tMeth C m sp dvs E ta t) σ H z := fun H1 e Q q =>
  h H1 e _ fun H2 e2 => ⟨a, dx, fs, rfl, e2 _ _ (e _ _ ha), hn, ht H2 (e.trans e2) _ fun H3 e3 => hs H3 ((e.trans e2).trans e3) Q (fun H4 e4 => q H4 ((e2.trans e3).trans e4)) E⟩
theorem q_fld {f : Str} (h : Ev te σ H v) (ho : Ev ta σ H (.ref a)) (ha : H a = some (.ins C dx fs)) (c : Cls K C) (n : NoAttr K C f) (l : fs.length < 1000) (k : ∀ H1, Ex H H1 → tz D σ (upd H1 a (.ins C dx (putF f v fs)))) : tSeq (sFld K ta te f) tz D σ H :=
  h H (Ex.refl H) _ fun H1 e1 => ho H1 e1 _ fun H2 e2 => ⟨a, C, dx, fs, rfl, e2 _ _ (e1 _ _ ha), c, n, l, k H2 (e1.trans e2)⟩
theorem s_fld {f : Str} (h : Ev te σ H v) (ho : Ev ta σ H (.ref a)) (ha : H a = some (.ins C dx fs)) (c : Cls K C) (n : NoAttr K C f) (l : fs.length < 1000) (k : ∀ H1, Ex H H1 → D.nx σ (upd H1 a (.ins C dx (putF f v fs)))) : sFld K ta te f D σ H :=
  h H (Ex.refl H) _ fun H1 e1 => ho H1 e1 _ fun H2 e2 => ⟨a, C, dx, fs, rfl, e2 _ _ (e1 _ _ ha), c, n, l, k H2 (e1.trans e2)⟩
theorem q_fldL {f : Str} {xs : List V} (h : EvL te σ H xs) (ho : Ev ta σ H (.ref a)) (ha : H a = some (.ins C dx fs)) (c : Cls K C) (n : NoAttr K C f) (l : fs.length < 1000) (k : ∀ p H1, H p = none → Ex H H1 → H1 p = some (.lst xs) → tz D σ (upd H1 a (.ins C dx (putF f (.ref p) fs)))) : tSeq (sFld K ta te f) tz D σ H :=
  h H (Ex.refl H) _ fun p H1 hp e1 h1 => ho H1 e1 _ fun H2 e2 => ⟨a, C, dx, fs, rfl, e2 _ _ (e1 _ _ ha), c, n, l, k p H2 hp (e1.trans e2) (e2 _ _ h1)⟩
theorem q_fldR {f : Str} {n : Nat} {R : Nat → Hp → V → Prop} (hR : ∀ i Ha Hb v, Ex Ha Hb → R i Ha v → R i Hb v) (h : EvLR te σ H n R) (ho : Ev ta σ H (.ref a)) (ha : H a = some (.ins C dx fs)) (c : Cls K C) (nA : NoAttr K C f) (l : fs.length < 1000)
    (k : ∀ p ys H1, H p = none → Ex H H1 → H1 p = some (.lst ys) → ys.length = n → (∀ i y, ys[i]? = some y → R i H1 y) → tz D σ (upd H1 a (.ins C dx (putF f (.ref p) fs)))) : tSeq (sFld K ta te f) tz D σ H :=
  h H (Ex.refl H) _ fun p ys H1 hp e1 h1 hl hr => ho H1 e1 _ fun H2 e2 => ⟨a, C, dx, fs, rfl, e2 _ _ (e1 _ _ ha), c, nA, l, k p ys H2 hp (e1.trans e2) (e2 _ _ h1) hl fun i y hy => hR i _ _ y e2 (hr i y hy)⟩
end
/-- what the top has written of the class -/
structure Txt (K : PySem.W.Frag) (mg : Str → Option Value) (C : Addr) : Prop where
  cl : Cls K C
  nC : NoAttr K C "chances"
  nL : NoAttr K C "laid"
  nT : NoAttr K C "terms"
  nM : NoAttr K C "much"
  gC : mg "Coins" = some (.ref C)
end Co
end
section
set_option maxRecDepth 100000
set_option maxHeartbeats 4000000
set_option linter.unusedVariables false
namespace Co
open PySem PySem.Spec PyProof.Rows L2 Evl Gn Mn Dk
theorem fl_len {lc ll lt : Addr} {mu : Int} : (fl lc ll lt mu).length < 1000 := by
  show 4 < 1000
  decide
def nxt (d : Sr58.Desk) (c : Sr58.Call) : Sr58.Desk := (Sr58.doing d c).1.getD d
section
variable {P : Program} {w : World} {K : PySem.W.Frag} {mg : Str → Option Value} {base : Heap} {f C : Addr} {fd : FuncData}
/-! ### __init__ -/
abbrev sInit : Stmt := inClass cls 0
theorem scInit : FnScope ["self"] ["self"] (defScope sInit) := ⟨rfl, rfl, rfl, by decide +kernel, rfl, by decide +kernel, by decide +kernel⟩
def spInit (K : PySem.W.Frag) (C : Addr) : Sp := fun vs H Q _ => ∃ (G F : Hp) (p dx : Addr), vs = [.ref p] ∧ Ex G F ∧ Ex F H ∧ F p = none ∧ H p = some (.ins C dx []) ∧ ∀ H', At K C G F H' p none → Q .non H'
theorem ok_init (F : Fun K "__init__" "Coins.__init__" sInit f fd) (T : Txt K mg C) : FnOk P w K mg base CX0 1 f fd ["self"] (spInit K C) := by
  refine F.ok scInit (fun vs H Q E h => ?_) (fun cdv A outer s H vs Q E hr h => ?_)
  · obtain ⟨G, F, p, dx, rfl, _⟩ := h
    rfl
  · obtain ⟨G, F, p, dx, rfl, gf, fh, fp, hp, k⟩ := h
    refine ⟨_, pss_cons (ps_fld (pv 0) (pe_lst pa_nil) rfl) (pss_cons (ps_fld (pv 0) (pe_lst pa_nil) rfl) (pss_cons (ps_fld (pv 0) (pe_lst pa_nil) rfl) (pss_one (ps_fld (pv 0) pe_int rfl)))), ?_⟩
    refine q_fldL (el_lst ea_nil (Nat.zero_le _)) (ev_var rfl) hp T.cl T.nC (by show 0 < 1000; decide) fun lc H1 hc e1 h1 => ?_
    have npc : p ≠ lc := ne_of_none hp hc
    refine q_fldL (el_lst ea_nil (Nat.zero_le _)) (ev_var rfl) upd_same T.cl T.nL (by show 1 < 1000; decide) fun ll H2 hl e2 h2 => ?_
    have npl : p ≠ ll := fun q => by
      rw [← q, upd_same] at hl
      cases hl
    have hl' : H1 ll = none := by
      rw [upd_ne npl.symm] at hl
      exact hl
    have ncl : lc ≠ ll := ne_of_none h1 hl'
    have c2 : H2 lc = some (.lst []) := e2 _ _ (by rw [upd_ne npc.symm]; exact h1)
    have f2 : Ex F H2 := (Ex.mut (fh.trans e1) fp).trans e2
    refine q_fldL (el_lst ea_nil (Nat.zero_le _)) (ev_var rfl) upd_same T.cl T.nT (by show 2 < 1000; decide) fun lt H3 ht e3 h3 => ?_
    have npt : p ≠ lt := fun q => by
      rw [← q, upd_same] at ht
      cases ht
    have ht' : H2 lt = none := by
      rw [upd_ne npt.symm] at ht
      exact ht
    have nct : lc ≠ lt := ne_of_none c2 ht'
    have nlt : ll ≠ lt := ne_of_none h2 ht'
    have c3 : H3 lc = some (.lst []) := e3 _ _ (by rw [upd_ne npc.symm]; exact c2)
    have l3 : H3 ll = some (.lst []) := e3 _ _ (by rw [upd_ne npl.symm]; exact h2)
    have f3 : Ex F H3 := (Ex.mut f2 fp).trans e3
    refine s_fld ev_c (ev_var rfl) upd_same T.cl T.nM (by show 3 < 1000; decide) fun H4 e4 => ?_
    refine k _ ⟨⟨[], [], [], 0⟩, rfl, dx, lc, ll, lt, [], [], gf, Ex.mut ((Ex.mut f3 fp).trans e4) fp, fp, fresh_back fh hc, fresh_back (fh.trans e1) hl', fresh_back f2 ht', ncl, nct, nlt, ?_, ?_, ⟨rfl, fun i r q => by simp at q⟩, ?_, ?_, ⟨rfl, fun i r q => by simp at q⟩⟩
    · rw [upd_same, put_new]
    · rw [upd_ne npc.symm]
      exact e4 _ _ (by rw [upd_ne npc.symm]; exact c3)
    · rw [upd_ne npl.symm]
      exact e4 _ _ (by rw [upd_ne npl.symm]; exact l3)
    · rw [upd_ne npt.symm]
      exact e4 _ _ (by rw [upd_ne npt.symm]; exact h3)
/-! ### is_begun -/
abbrev sBegun : Stmt := inClass cls 1
theorem scBegun : FnScope ["self"] ["self"] (defScope sBegun) := ⟨rfl, rfl, rfl, by decide +kernel, rfl, by decide +kernel, by decide +kernel⟩
def spBegun (K : PySem.W.Frag) (C : Addr) : Sp := fun vs H Q _ => ∃ (G F : Hp) (a : Addr) (st : Sr58.State), vs = [.ref a] ∧ At K C G F H a st ∧ RetV (.bl st.isSome) H Q
theorem MRel.len {m : M} {d : Sr58.Desk} (R : MRel m (some d)) : m.ls.length = m.cs.length := by
  obtain ⟨R, h, _⟩ := R
  rw [h, laidTold_eq, List.length_map, R.len]
theorem ok_begun (F : Fun K "is_begun" "Coins.is_begun" sBegun f fd) (T : Txt K mg C) (B : Bl mg) : FnOk P w K mg base CX0 1 f fd ["self"] (spBegun K C) := by
  refine F.ok scBegun (fun vs H Q E h => ?_) (fun cdv A outer s H vs Q E hr h => ?_)
  · obtain ⟨G, F, a, st, rfl, _⟩ := h
    rfl
  · obtain ⟨G, F, a, st, rfl, ⟨m, R, dx, lc, ll, lt, rs, us, A⟩, k⟩ := h
    refine ⟨_, pss_one (ps_ret (pe_cmpR op_gt (pe_callB call_len_seq (by rfl) B.len PySem.boot_len (pa_cons (pe_fld (pv 0) rfl) pa_nil)) pe_int (nomark _))), ?_⟩
    refine s_ret (ev_op (ev_len (K := K) (ev_fld (ev_var rfl) A.ha T.cl T.nL fl_laid) (sq_of A.hl)) ev_c rv_I0) fun H1 e1 => ?_
    have q := k.go e1
    have : st.isSome = decide ((0 : Int) < ((iv m.ls).length : Int)) := by
      rw [iv_len]
      cases st with
      | none =>
        have : m = ⟨[], [], [], 0⟩ := R
        rw [this]
        rfl
      | some d =>
        have h1 := R.len
        have h2 := R.1.n1
        symm
        exact decide_eq_true (by omega)
    rw [this] at q
    exact q
/-! ### has_coin -/
abbrev sHas : Stmt := inClass cls 2
theorem scHas : FnScope ["self", "i"] ["self", "i"] (defScope sHas) := ⟨rfl, rfl, rfl, by decide +kernel, rfl, by decide +kernel, by decide +kernel⟩
def spHas (K : PySem.W.Frag) (C : Addr) : Sp := fun vs H Q _ => ∃ (G F : Hp) (a : Addr) (d : Sr58.Desk) (i : Int), vs = [.ref a, .int i] ∧ At K C G F H a (some d) ∧ RetV (.bl (Sr58.isCoin d i)) H Q
theorem sp_has {G F H : Hp} {a : Addr} {d : Sr58.Desk} {i : Int} (A : At K C G F H a (some d)) : SpV (spHas K C) [.ref a, .int i] H (.bl (Sr58.isCoin d i)) := fun H1 e Q q E => ⟨G, F, a, d, i, rfl, A.ex e, fun H2 e2 => q H2 e2⟩
theorem ok_has (F : Fun K "has_coin" "Coins.has_coin" sHas f fd) (T : Txt K mg C) (B : Bl mg) : FnOk P w K mg base CX0 1 f fd ["self", "i"] (spHas K C) := by
  refine F.ok scHas (fun vs H Q E h => ?_) (fun cdv A outer s H vs Q E hr h => ?_)
  · obtain ⟨G, F, a, d, i, rfl, _⟩ := h
    rfl
  · obtain ⟨G, F, a, d, i, rfl, ⟨m, R, dx, lc, ll, lt, rs, us, A⟩, k⟩ := h
    refine ⟨_, pss_one (ps_ret (pe_chain op_le op_lt pe_int (pv 1) (pe_callB call_len_seq (by rfl) B.len PySem.boot_len (pa_cons (pe_fld (pv 0) rfl) pa_nil)))), ?_⟩
    refine s_ret (ev_chain ev_c (ev_var rfl) (ev_len (K := K) (ev_fld (ev_var rfl) A.ha T.cl T.nL fl_laid) (sq_of A.hl)) rv_I0 rv_I0) fun H1 e1 => ?_
    have q := k.go e1
    unfold Sr58.isCoin at q
    rw [R.1.coins, ← R.len, ← iv_len] at q
    exact q
/-! ### has_term -/
abbrev sHasT : Stmt := inClass cls 3
theorem scHasT : FnScope ["self", "j"] ["self", "j"] (defScope sHasT) := ⟨rfl, rfl, rfl, by decide +kernel, rfl, by decide +kernel, by decide +kernel⟩
def isTerm (d : Sr58.Desk) (j : Int) : Bool := decide (0 ≤ j) && decide (j < (d.terms.length : Int))
def spHasT (K : PySem.W.Frag) (C : Addr) : Sp := fun vs H Q _ => ∃ (G F : Hp) (a : Addr) (d : Sr58.Desk) (i : Int), vs = [.ref a, .int i] ∧ At K C G F H a (some d) ∧ RetV (.bl (isTerm d i)) H Q
theorem sp_hasT {G F H : Hp} {a : Addr} {d : Sr58.Desk} {i : Int} (A : At K C G F H a (some d)) : SpV (spHasT K C) [.ref a, .int i] H (.bl (isTerm d i)) := fun H1 e Q q E => ⟨G, F, a, d, i, rfl, A.ex e, fun H2 e2 => q H2 e2⟩
theorem ok_hasT (F : Fun K "has_term" "Coins.has_term" sHasT f fd) (T : Txt K mg C) (B : Bl mg) : FnOk P w K mg base CX0 1 f fd ["self", "j"] (spHasT K C) := by
  refine F.ok scHasT (fun vs H Q E h => ?_) (fun cdv A outer s H vs Q E hr h => ?_)
  · obtain ⟨G, F, a, d, i, rfl, _⟩ := h
    rfl
  · obtain ⟨G, F, a, d, i, rfl, ⟨m, R, dx, lc, ll, lt, rs, us, A⟩, k⟩ := h
    refine ⟨_, pss_one (ps_ret (pe_chain op_le op_lt pe_int (pv 1) (pe_callB call_len_seq (by rfl) B.len PySem.boot_len (pa_cons (pe_fld (pv 0) rfl) pa_nil)))), ?_⟩
    refine s_ret (ev_chain ev_c (ev_var rfl) (ev_len (K := K) (ev_fld (ev_var rfl) A.ha T.cl T.nT fl_terms) (sq_of A.ht)) rv_I0 rv_I0) fun H1 e1 => ?_
    have q := k.go e1
    have : isTerm d i = (decide (0 ≤ i) && decide (i < (us.length : Int))) := by
      unfold isTerm
      rw [A.pt.1, R.2.2.1, List.length_map]
    rw [this] at q
    exact q
/-! ### begin -/
abbrev sBegin : Stmt := inClass cls 4
abbrev nBegin : List Str := ["self", "n", "i"]
theorem scBegin : FnScope nBegin ["self", "n"] (defScope sBegin) := ⟨rfl, rfl, rfl, by decide +kernel, rfl, by decide +kernel, by decide +kernel⟩
def spBegin (K : PySem.W.Frag) (C : Addr) : Sp := fun vs H Q _ => ∃ (G F : Hp) (a : Addr) (st : Sr58.State) (n : Int), vs = [.ref a, .int n] ∧ At K C G F H a st ∧ ∀ H', At K C G F H' a (Sr58.step st (.begin_ n)).1 → Q (.int (Sr58.step st (.begin_ n)).2.num) H'
theorem ok_begin (F : Fun K "begin" "Coins.begin" sBegin f fd) (T : Txt K mg C) (B : Bl mg) (g1 : GI mg "MOST_COINS" 10) (g2 : GI mg "WRONG" (-22)) (g3 : GI mg "THROWN" (-1)) : FnOk P w K mg base CX0 1 f fd ["self", "n"] (spBegin K C) := by
  refine F.ok scBegin (fun vs H Q E h => ?_) (fun cdv A outer s H vs Q E hr h => ?_)
  · obtain ⟨G, F, a, st, n, rfl, _⟩ := h
    rfl
  · obtain ⟨G, F, a, st, n, rfl, hAt, k⟩ := h
    obtain ⟨m, R, dx, lc, ll, lt, rs, us, A⟩ := id hAt
    refine ⟨_, pss_cons (ps_if (PW.pt (pw_or (pt_cmpR op_lt (pv 1) pe_int (nomark _)) (pw_or1 (pt_cmpR op_gt (pv 1) (pe_gi rfl g1) (nomark _))))) (pss_one (ps_ret (pe_gi rfl g2))) pss_nil)
      (pss_cons (ps_fld (pv 0) (pe_lc (own := [("i", 2)]) (g := gName 2) (tt := tYes) (te := tTup (tCons (tC (.int 1)) (tCons (tC (.int 2)) tNil))) rfl scBegin.nd (pi_range1 (by rfl) B.range (pa_cons (pv 1) pa_nil)) (blkOk_by (own := [("i", 2)]) (N := nBegin) (sc := defScope sBegin) (by decide +kernel)) (fun _ _ _ _ _ => pg_name (i := 2) scBegin.nd rfl (Or.inl rfl)) (fun _ _ _ _ _ => pts_nil) (fun _ _ _ _ _ => pe_tup (pa_cons pe_int (pa_cons pe_int pa_nil)))) rfl)
      (pss_cons (ps_fld (pv 0) (pe_lc (own := [("i", 2)]) (g := gName 2) (tt := tYes) (te := tC (.int (-1))) rfl scBegin.nd (pi_range1 (by rfl) B.range (pa_cons (pv 1) pa_nil)) (blkOk_by (own := [("i", 2)]) (N := nBegin) (sc := defScope sBegin) (by decide +kernel)) (fun _ _ _ _ _ => pg_name (i := 2) scBegin.nd rfl (Or.inl rfl)) (fun _ _ _ _ _ => pts_nil) (fun _ _ _ _ _ => pe_gi rfl g3)) rfl)
      (pss_cons (ps_fld (pv 0) (pe_lst pa_nil) rfl)
      (pss_cons (ps_fld (pv 0) pe_int rfl)
      (pss_one (ps_ret pe_int)))))), ?_⟩
    refine q_when (et_or (et_test (ev_op (ev_var rfl) ev_c rv_I0)) fun _ => et_test (ev_op (ev_var rfl) ev_c rv_I0)) (fun hb H1 e1 => ?_) (fun hb H1 e1 => ?_)
    · rw [Bool.or_eq_true, decide_eq_true_iff, decide_eq_true_iff] at hb
      refine s_ret ev_c fun H2 e2 => ?_
      have q := k H2
      have c : n < 1 ∨ (Sr58.COINS : Int) < n := hb
      have e : Sr58.step st (.begin_ n) = (st, Sr58.say (-22)) := by
        show (if n < 1 ∨ (Sr58.COINS : Int) < n then _ else _) = _
        rw [if_pos c]
      rw [e] at q
      exact q (hAt.ex (e1.trans e2))
    · rw [Bool.or_eq_false_iff, decide_eq_false_iff_not, decide_eq_false_iff_not] at hb
      have A1 := A.ex e1
      have nn : (n.toNat : Int) = n := by omega
      refine q_fldR (R := fun i H y => PairV K (1, 2) H y) (fun i Ha Hb v e h => h.ex e) (lcR1 (ea_cons (ev_var rfl) ea_nil) ⟨by omega, by omega⟩ (fun _ => rfl) (fun i => Stable.tup _) (fun i H2 e2 hi => er_tup (eu_tup (ea_cons ev_c (ea_cons ev_c ea_nil)) (by show 2 ≤ 100000; decide)))) (ev_var rfl) A1.ha T.cl T.nC fl_len fun p1 ys H2 hp1 e2 h2 hl2 hr2 => ?_
      have PV : PairsV K H2 ys (List.replicate n.toNat (1, 2)) := ⟨by rw [hl2, List.length_replicate], fun i r hr => ⟨(1, 2), by
        have := (List.getElem?_eq_some_iff.mp hr).1
        rw [List.getElem?_replicate, if_pos (by omega)], hr2 i r hr⟩⟩
      have A2 := (A1.ex e2).putC h2 PV (fresh_back A1.fh hp1) (ne_of_none A1.hl hp1).symm (ne_of_none A1.ht hp1).symm
      refine q_fldL (xs := iv (List.replicate n.toNat (-1))) (el_of (n := n.toNat) (by rw [iv_len, List.length_replicate]) (lcR1 (ea_cons (ev_var rfl) ea_nil) ⟨by omega, by omega⟩ (fun _ => rfl) (stable_get _) (fun i H3 e3 hi => fun H4 e4 Q q => q _ H4 (Ex.refl H4) (iv_getI (by rw [List.getElem?_replicate, if_pos (by omega)]))))) (ev_var rfl) A2.ha T.cl T.nL fl_len fun p2 H3 hp2 e3 h3 => ?_
      have A3 := (A2.ex e3).putL h3 (fresh_back A2.fh hp2) (ne_of_none A2.hc hp2) (ne_of_none A2.ht hp2).symm
      refine q_fldL (xs := []) (el_lst ea_nil (Nat.zero_le _)) (ev_var rfl) A3.ha T.cl T.nT fl_len fun p3 H4 hp3 e4 h4 => ?_
      have A4 := (A3.ex e4).putT (ts := []) h4 ⟨rfl, fun i r q => by simp at q⟩ (fresh_back A3.fh hp3) (ne_of_none A3.hc hp3) (ne_of_none A3.hl hp3)
      refine q_fld ev_c (ev_var rfl) A4.ha T.cl T.nM fl_len fun H5 e5 => ?_
      have A5 := (A4.ex e5).putM 0
      refine s_ret ev_c fun H6 e6 => ?_
      have q := k H6
      have c : ¬ (n < 1 ∨ (Sr58.COINS : Int) < n) := by
        show ¬ (n < 1 ∨ (10 : Int) < n)
        omega
      have e : Sr58.step st (.begin_ n) = (some ⟨List.replicate n.toNat Sr58.half, [], false, List.replicate n.toNat none⟩, Sr58.say 0) := by
        show (if n < 1 ∨ (Sr58.COINS : Int) < n then _ else _) = _
        rw [if_neg c]
      rw [e] at q
      refine q ⟨_, ⟨Rel.begin_ (n := n.toNat) (by omega) (by omega), ?_, rfl, rfl⟩, _, _, _, _, _, _, A5.ex e6⟩
      show List.replicate n.toNat (-1) = (List.replicate n.toNat none).map lt1
      rw [List.map_replicate]
      rfl
end
end Co
end
section
set_option maxRecDepth 100000
set_option maxHeartbeats 4000000
set_option linter.unusedVariables false
namespace Co
open PySem PySem.Spec PyProof.Rows L2 Evl Gn Mn Dk
theorem q_setU {K : PySem.W.Frag} {σ : L2.St} {H : Hp} {ta tb te : TE} {D : Ends} {tz : TS} {l : Addr} {xs ys : List V} {j : Nat} (hl : H l = some (.lst xs)) (h : EvU te σ H ys) (ho : Ev ta σ H (.ref l)) (hi : Ev tb σ H (.int (j : Int))) (hj : j < xs.length)
    (k : ∀ p H1, H p = none → Ex H H1 → H1 p = some (.tup ys) → tz D σ (upd H1 l (.lst (xs.set j (.ref p))))) : tSeq (tAsg te (gSub ta tb rSetL)) tz D σ H := h H (Ex.refl H) _ fun p H1 hp e1 h1 => ho H1 e1 _ fun H2 e2 => hi H2 (e1.trans e2) _ fun H3 e3 =>
  ⟨l, xs, (j : Int), j, rfl, rfl, ((e1.trans e2).trans e3) l _ hl, ixN_nat hj, k p H3 hp ((e1.trans e2).trans e3) (e3 _ _ (e2 _ _ h1))⟩
section
variable {P : Program} {w : World} {K : PySem.W.Frag} {mg : Str → Option Value} {base : Heap} {f C : Addr} {fd : FuncData} {G F H' : Hp} {a : Addr} {d d' : Sr58.Desk} {c : Sr58.Call} {z : Int} {Q : VK}
theorem same_ans (k : ∀ H', At K C G F H' a (some (nxt d c)) → Q (.int (Sr58.doing d c).2.num) H') (e : Sr58.doing d c = (none, Sr58.say z)) (A : At K C G F H' a (some d)) : Q (.int z) H' := by
  have q := k H'
  unfold nxt at q
  rw [e] at q
  exact q A
theorem new_ans (k : ∀ H', At K C G F H' a (some (nxt d c)) → Q (.int (Sr58.doing d c).2.num) H') (e : Sr58.doing d c = (some d', Sr58.say z)) (A : At K C G F H' a (some d')) : Q (.int z) H' := by
  have q := k H'
  unfold nxt at q
  rw [e] at q
  exact q A
theorem isCoin_nat {i : Int} (h : Sr58.isCoin d i = true) : ∃ j : Nat, i = (j : Int) ∧ j < Sr58.coins d := by
  unfold Sr58.isCoin at h
  rw [Bool.and_eq_true, decide_eq_true_iff, decide_eq_true_iff] at h
  exact ⟨i.toNat, by omega, by omega⟩
/-! ### coin -/
abbrev sCoin : Stmt := inClass cls 5
theorem scCoin : FnScope ["self", "i", "a", "b"] ["self", "i", "a", "b"] (defScope sCoin) := ⟨rfl, rfl, rfl, by decide +kernel, rfl, by decide +kernel, by decide +kernel⟩
def spCoin (K : PySem.W.Frag) (C : Addr) : Sp := fun vs H Q _ => ∃ (G F : Hp) (a : Addr) (d : Sr58.Desk) (i x y : Int), vs = [.ref a, .int i, .int x, .int y] ∧ At K C G F H a (some d) ∧ ∀ H', At K C G F H' a (some (nxt d (.coin i x y))) → Q (.int (Sr58.doing d (.coin i x y)).2.num) H'
theorem ok_coin {fH : Addr} {fdH : FuncData} (F : Fun K "coin" "Coins.coin" sCoin f fd) (T : Txt K mg C) (g1 : GI mg "NO_SUCH" (-2)) (g2 : GI mg "WRONG" (-22)) (g3 : GI mg "MOST_PARTS" 10)
    (GH : FnOk P w K mg base CX0 1 fH fdH ["self", "i"] (spHas K C)) (bH : Binds K fdH ["self", "i"] []) (mH : Meth K C "has_coin" fH) : FnOk P w K mg base CX0 2 f fd ["self", "i", "a", "b"] (spCoin K C) := by
  refine F.ok scCoin (fun vs H Q E h => ?_) (fun cdv A outer s H vs Q E hr h => ?_)
  · obtain ⟨G, F, a, d, i, x, y, rfl, _⟩ := h
    rfl
  · obtain ⟨G, F, a, d, i, x, y, rfl, hAt, k⟩ := h
    obtain ⟨m, R, dx, lc, ll, lt, rs, us, A⟩ := id hAt
    refine ⟨_, pss_cons (ps_if (pt_not (pt_val (pe_meth (pv 0) T.cl mH GH hr bH .nil pass0 (pa_cons (pv 1) pa_nil)))) (pss_one (ps_ret (pe_gi rfl g1))) pss_nil)
      (pss_cons (ps_if (PW.pt (pw_or (pt_cmpR op_lt (pv 3) pe_int (nomark _)) (pw_or (pt_cmpR op_gt (pv 3) (pe_gi rfl g3) (nomark _)) (pw_or (pt_cmpR op_lt (pv 2) pe_int (nomark _)) (pw_or1 (pt_cmpR op_gt (pv 2) (pv 3) (nomark _))))))) (pss_one (ps_ret (pe_gi rfl g2))) pss_nil)
      (pss_cons (ps_asg (pe_tup (pa_cons (pv 2) (pa_cons (pv 3) pa_nil))) (pg_sub (pe_fld (pv 0) rfl) (pv 1) set_list))
      (pss_one (ps_ret pe_int)))), ?_⟩
    refine q_when (et_not (et_B (ev_meth (ev_var rfl) A.ha (fl_no (by decide +kernel)) (ea_cons (ev_var rfl) ea_nil) (sp_has hAt)))) (fun hb H1 e1 => ?_) (fun hb H1 e1 => ?_)
    · rw [Bool.not_eq_true'] at hb
      exact s_ret ev_c fun H2 e2 => same_ans k (by show (if Sr58.isCoin d i = false then _ else _) = _; rw [if_pos hb]) (hAt.ex (e1.trans e2))
    · rw [Bool.not_eq_false'] at hb
      have nb : ¬ Sr58.isCoin d i = false := by rw [hb]; decide
      refine q_when (et_or (et_test (ev_op (ev_var rfl) ev_c rv_I0)) fun _ => et_or (et_test (ev_op (ev_var rfl) ev_c rv_I0)) fun _ => et_or (et_test (ev_op (ev_var rfl) ev_c rv_I0)) fun _ => et_test (ev_op (ev_var rfl) (ev_var rfl) rv_I0)) (fun hc H2 e2 => ?_) (fun hc H2 e2 => ?_)
      · simp only [Bool.or_eq_true, decide_eq_true_iff] at hc
        exact s_ret ev_c fun H3 e3 => same_ans k (by show (if Sr58.isCoin d i = false then _ else if y < 1 ∨ 10 < y ∨ x < 0 ∨ y < x then _ else _) = _; rw [if_neg nb, if_pos hc]) (hAt.ex ((e1.trans e2).trans e3))
      · simp only [Bool.or_eq_false_iff, decide_eq_false_iff_not] at hc
        obtain ⟨j, rfl, hj⟩ := isCoin_nat hb
        rw [R.1.coins] at hj
        have A2 := A.ex (e1.trans e2)
        refine q_setU (K := K) A2.hc (eu_tup (ea_cons (ev_var rfl) (ea_cons (ev_var rfl) ea_nil)) (by show 2 ≤ 100000; decide)) (ev_fld (ev_var rfl) A2.ha T.cl T.nC fl_chances) (ev_var rfl) (by rw [A.pc.1]; exact hj) fun p H3 hp e3 h3 => ?_
        have A3 := A2.ex e3
        have PV : PairsV K H3 (rs.set j (.ref p)) (m.cs.set j (x, y)) := by
          refine ⟨by rw [List.length_set, List.length_set]; exact A3.pc.1, fun i r hr => ?_⟩
          rw [List.getElem?_set] at hr
          by_cases e : j = i
          · subst e
            rw [if_pos rfl, if_pos (by rw [A.pc.1]; exact hj)] at hr
            have er : V.ref p = r := Option.some.inj hr
            exact ⟨(x, y), by rw [List.getElem?_set, if_pos rfl, if_pos hj], p, er.symm, st_of h3⟩
          · rw [if_neg e] at hr
            obtain ⟨q, h1, h2⟩ := A3.pc.2 i r hr
            exact ⟨q, by rw [List.getElem?_set, if_neg e]; exact h1, h2⟩
        have A4 := A3.setC PV
        refine s_ret ev_c fun H4 e4 => new_ans k (d' := { d with p := d.p.set j (Sr58.frac x y.toNat) }) (by
          show (if Sr58.isCoin d (j : Int) = false then _ else if y < 1 ∨ 10 < y ∨ x < 0 ∨ y < x then _ else _) = _
          rw [if_neg nb, if_neg (by omega)]
          rfl) ⟨{ m with cs := m.cs.set j (x, y) }, ⟨R.1.coin j (c := (x, y)) ⟨by omega, by omega, by omega, by omega⟩, R.2.1, R.2.2.1, R.2.2.2⟩, _, _, _, _, _, _, A4.ex e4⟩
/-! ### want -/
abbrev sWant : Stmt := inClass cls 10
theorem scWant : FnScope ["self", "s", "before"] ["self", "s"] (defScope sWant) := ⟨rfl, rfl, rfl, by decide +kernel, rfl, by decide +kernel, by decide +kernel⟩
def spWant (K : PySem.W.Frag) (C : Addr) : Sp := fun vs H Q _ => ∃ (G F : Hp) (a : Addr) (d : Sr58.Desk) (i : Int), vs = [.ref a, .int i] ∧ At K C G F H a (some d) ∧ ∀ H', At K C G F H' a (some (nxt d (.want i))) → Q (.int (Sr58.doing d (.want i)).2.num) H'
theorem int_ne {x y : Int} (h : (!decide (V.int x = V.int y)) = true) : x ≠ y := by
  rw [Bool.not_eq_true', decide_eq_false_iff_not] at h
  exact fun q => h (by rw [q])
theorem int_eq {x y : Int} (h : (!decide (V.int x = V.int y)) = false) : x = y := by
  rw [Bool.not_eq_false', decide_eq_true_iff] at h
  injection h
theorem int_eqT {x y : Int} (h : decide (V.int x = V.int y) = true) : x = y := by
  have := of_decide_eq_true h
  injection this
theorem int_neF {x y : Int} (h : decide (V.int x = V.int y) = false) : x ≠ y := by
  have := of_decide_eq_false h
  exact fun q => this (by rw [q])
theorem ok_want (F : Fun K "want" "Coins.want" sWant f fd) (T : Txt K mg C) (g2 : GI mg "WRONG" (-22)) : FnOk P w K mg base CX0 1 f fd ["self", "s"] (spWant K C) := by
  refine F.ok scWant (fun vs H Q E h => ?_) (fun cdv A outer s H vs Q E hr h => ?_)
  · obtain ⟨G, F, a, d, i, rfl, _⟩ := h
    rfl
  · obtain ⟨G, F, a, d, i, rfl, hAt, k⟩ := h
    obtain ⟨m, R, dx, lc, ll, lt, rs, us, A⟩ := id hAt
    refine ⟨_, pss_cons (ps_if (PW.pt (pw_and (pt_cmpR op_ne (pv 1) pe_int (nomark _)) (pw_and1 (pt_cmpR op_ne (pv 1) pe_int (nomark _))))) (pss_one (ps_ret (pe_gi rfl g2))) pss_nil)
      (pss_cons (ps_set (i := 2) scWant.nd rfl (Or.inl rfl) (pe_fld (pv 0) rfl))
      (pss_cons (ps_fld (pv 0) (pv 1) rfl)
      (pss_one (ps_ret (pv 2))))), ?_⟩
    refine q_when (et_and (et_test (ev_op (ev_var rfl) ev_c (rv_ne rfl))) fun _ => et_test (ev_op (ev_var rfl) ev_c (rv_ne rfl))) (fun hb H1 e1 => ?_) (fun hb H1 e1 => ?_)
    · rw [Bool.and_eq_true] at hb
      have n0 := int_ne hb.1
      have n1 := int_ne hb.2
      exact s_ret ev_c fun H2 e2 => same_ans k (by show (if i < 0 ∨ 1 < i then _ else _) = _; rw [if_pos (by omega)]) (hAt.ex (e1.trans e2))
    · rw [Bool.and_eq_false_iff] at hb
      have i01 : i = 0 ∨ i = 1 := hb.imp int_eq int_eq
      refine q_asg (ev_fld (ev_var rfl) (A.ex e1).ha T.cl T.nM fl_much) fun H2 e2 => ?_
      have A2 := (A.ex e1).ex e2
      refine q_fld (ev_var rfl) (ev_var rfl) A2.ha T.cl T.nM fl_len fun H3 e3 => ?_
      have A3 := (A2.ex e3).putM i
      refine s_ret (v := .int (Sr58.bit d.much)) (ev_is (ev_var rfl) (congrArg V.int R.2.2.2)) fun H4 e4 => new_ans k (d' := { d with much := i == 1 }) (by
        show (if i < 0 ∨ 1 < i then _ else _) = _
        rw [if_neg (by omega)]) ⟨{ m with mu := i }, ⟨R.1.want _, R.2.1, R.2.2.1, ?_⟩, _, _, _, _, _, _, A3.ex e4⟩
      show i = Sr58.bit (i == 1)
      rcases i01 with e | e
      · rw [e]
        rfl
      · rw [e]
        rfl
/-! ### lay, lift -/
abbrev sLay : Stmt := inClass cls 12
theorem scLay : FnScope ["self", "i", "v", "refusal"] ["self", "i", "v"] (defScope sLay) := ⟨rfl, rfl, rfl, by decide +kernel, rfl, by decide +kernel, by decide +kernel⟩
def spLay (K : PySem.W.Frag) (C : Addr) : Sp := fun vs H Q _ => ∃ (G F : Hp) (a : Addr) (d : Sr58.Desk) (i v : Int), vs = [.ref a, .int i, .int v] ∧ At K C G F H a (some d) ∧ ∀ H', At K C G F H' a (some (nxt d (.lay i v))) → Q (.int (Sr58.doing d (.lay i v)).2.num) H'
theorem laid_get {m : M} (R : MRel m (some d)) {j : Nat} (hj : j < Sr58.coins d) : m.ls[j]? = some (lt1 (Sr58.laidAt d j)) := by
  have hl : j < d.laid.length := by
    rw [R.1.len, ← R.1.coins]
    exact hj
  rw [R.2.1, laidTold_eq, List.getElem?_map, List.getElem?_eq_getElem hl]
  unfold Sr58.laidAt
  rw [List.getD_eq_getElem?_getD, List.getElem?_eq_getElem hl]
  rfl
theorem lt1_none {x : Option Bool} : lt1 x = -1 ↔ x = none := by
  cases x with
  | none => simp [lt1]
  | some b => cases b <;> simp [lt1, Sr58.bit]
theorem MRel.lay {m : M} (R : MRel m (some d)) (j : Nat) (v : Option Bool) : MRel { m with ls := m.ls.set j (lt1 v) } (some (Sr58.lay d j v)) :=
  ⟨R.1.lay j v, by
    show m.ls.set j (lt1 v) = _
    rw [laidTold_lay, R.2.1], R.2.2.1, R.2.2.2⟩
theorem iv_set (l : List Int) (j : Nat) (z : Int) : (iv l).set j (.int z) = iv (l.set j z) := by
  unfold iv
  rw [List.map_set]
/-! ### refusal_to_lay -/
abbrev sRef : Stmt := inClass cls 11
theorem scRef : FnScope ["self", "i", "v"] ["self", "i", "v"] (defScope sRef) := ⟨rfl, rfl, rfl, by decide +kernel, rfl, by decide +kernel, by decide +kernel⟩
def refusal (d : Sr58.Desk) (i v : Int) : Int := if Sr58.isCoin d i = false then -2 else if v < 0 ∨ 1 < v then -22 else if (Sr58.laidAt d i.toNat).isSome = true then -17 else 0
def spRef (K : PySem.W.Frag) (C : Addr) : Sp := fun vs H Q _ => ∃ (G F : Hp) (a : Addr) (d : Sr58.Desk) (i v : Int), vs = [.ref a, .int i, .int v] ∧ At K C G F H a (some d) ∧ RetV (.int (refusal d i v)) H Q
theorem sp_ref {G F H : Hp} {a : Addr} {d : Sr58.Desk} {i v : Int} (A : At K C G F H a (some d)) : SpV (spRef K C) [.ref a, .int i, .int v] H (.int (refusal d i v)) := fun H1 e Q q E => ⟨G, F, a, d, i, v, rfl, A.ex e, fun H2 e2 => q H2 e2⟩
theorem ok_ref {fH : Addr} {fdH : FuncData} (F : FunD K "refusal_to_lay" "Coins.refusal_to_lay" (defArgs sRef) (defBody sRef) (defScope sRef) [.int 0] [] f fd) (T : Txt K mg C) (g1 : GI mg "NO_SUCH" (-2)) (g2 : GI mg "WRONG" (-22)) (g3 : GI mg "IS_LAID" (-17)) (g4 : GI mg "THROWN" (-1))
    (GH : FnOk P w K mg base CX0 1 fH fdH ["self", "i"] (spHas K C)) (bH : Binds K fdH ["self", "i"] []) (mH : Meth K C "has_coin" fH) : FnOk P w K mg base CX0 2 f fd ["self", "i", "v"] (spRef K C) := by
  refine F.ok scRef (fun vs H Q E h => ?_) (fun cdv A outer s H vs Q E hr h => ?_)
  · obtain ⟨G, F, a, d, i, v, rfl, _⟩ := h
    rfl
  · obtain ⟨G, F, a, d, i, v, rfl, hAt, k⟩ := h
    obtain ⟨m, R, dx, lc, ll, lt, rs, us, A⟩ := id hAt
    refine ⟨_, pss_cons (ps_if (pt_not (pt_val (pe_meth (pv 0) T.cl mH GH hr bH .nil pass0 (pa_cons (pv 1) pa_nil)))) (pss_one (ps_ret (pe_gi rfl g1))) pss_nil)
      (pss_cons (ps_if (PW.pt (pw_and (pt_cmpR op_ne (pv 2) pe_int (nomark _)) (pw_and1 (pt_cmpR op_ne (pv 2) pe_int (nomark _))))) (pss_one (ps_ret (pe_gi rfl g2))) pss_nil)
      (pss_cons (ps_if (pt_cmpR op_ne (pe_ix ix_list (pe_fld (pv 0) rfl) (pv 1) (fun _ _ => rfl)) (pe_gi rfl g4) (nomark _)) (pss_one (ps_ret (pe_gi rfl g3))) pss_nil)
      (pss_one (ps_ret pe_int)))), ?_⟩
    have hk : ∀ (z : Int) (H' : Hp), refusal d i v = z → Ex H H' → Q (.int z) H' := fun z H' e x => by
      have q := k.go x
      rw [e] at q
      exact q
    refine q_when (et_not (et_B (ev_meth (ev_var rfl) A.ha (fl_no (by decide +kernel)) (ea_cons (ev_var rfl) ea_nil) (sp_has hAt)))) (fun hb H1 e1 => ?_) (fun hb H1 e1 => ?_)
    · rw [Bool.not_eq_true'] at hb
      exact s_ret ev_c fun H2 e2 => hk _ _ (by unfold refusal; rw [if_pos hb]) (e1.trans e2)
    · rw [Bool.not_eq_false'] at hb
      have nb : ¬ Sr58.isCoin d i = false := by rw [hb]; decide
      refine q_when (et_and (et_test (ev_op (ev_var rfl) ev_c (rv_ne rfl))) fun _ => et_test (ev_op (ev_var rfl) ev_c (rv_ne rfl))) (fun hc H2 e2 => ?_) (fun hc H2 e2 => ?_)
      · rw [Bool.and_eq_true] at hc
        have n0 := int_ne hc.1
        have n1 := int_ne hc.2
        exact s_ret ev_c fun H3 e3 => hk _ _ (by unfold refusal; rw [if_neg nb, if_pos (by omega)]) ((e1.trans e2).trans e3)
      · rw [Bool.and_eq_false_iff] at hc
        have v01 : v = 0 ∨ v = 1 := hc.imp int_eq int_eq
        obtain ⟨j, rfl, hj⟩ := isCoin_nat hb
        have hg := laid_get R hj
        have A2 := A.ex (e1.trans e2)
        have hat : atI (iv m.ls) (j : Int) = some (.int (lt1 (Sr58.laidAt d j))) := at_of rfl (iv_getI hg)
        refine q_when (et_test (ev_op (ev_op (ev_fld (ev_var rfl) A2.ha T.cl T.nL fl_laid) (ev_var rfl) (rv_ixL (K := K) (sq_of A2.hl) hat)) ev_c (rv_ne rfl))) (fun hq H3 e3 => ?_) (fun hq H3 e3 => ?_)
        · have n1 := int_ne hq
          have is : (Sr58.laidAt d ((j : Int).toNat)).isSome = true := by
            rw [Int.toNat_natCast]
            cases e : Sr58.laidAt d j with
            | none =>
              rw [e] at n1
              exact absurd rfl n1
            | some b => rfl
          exact s_ret ev_c fun H4 e4 => hk _ _ (by unfold refusal; rw [if_neg nb, if_neg (by omega), if_pos is]) (((e1.trans e2).trans e3).trans e4)
        · have e1' := lt1_none.mp (int_eq hq)
          exact s_ret ev_c fun H4 e4 => hk _ _ (by unfold refusal; rw [if_neg nb, if_neg (by omega), Int.toNat_natCast, e1']; rfl) (((e1.trans e2).trans e3).trans e4)
/-- no refusal: there is such a coin, it isn't laid -/
theorem ref_zero {i v : Int} (h : refusal d i v = 0) : ∃ j : Nat, i = (j : Int) ∧ j < Sr58.coins d ∧ (v = 0 ∨ v = 1) ∧ Sr58.laidAt d j = none ∧ Sr58.isCoin d i = true := by
  unfold refusal at h
  by_cases c1 : Sr58.isCoin d i = false
  · rw [if_pos c1] at h
    omega
  · rw [if_neg c1] at h
    rw [Bool.not_eq_false] at c1
    by_cases c2 : v < 0 ∨ 1 < v
    · rw [if_pos c2] at h
      omega
    · rw [if_neg c2] at h
      obtain ⟨j, rfl, hj⟩ := isCoin_nat c1
      by_cases c3 : (Sr58.laidAt d ((j : Int).toNat)).isSome = true
      · rw [if_pos c3] at h
        omega
      · rw [Int.toNat_natCast] at c3
        refine ⟨j, rfl, hj, by omega, ?_, c1⟩
        cases e : Sr58.laidAt d j with
        | none => rfl
        | some b =>
          rw [e] at c3
          exact absurd rfl c3
theorem lay_zero {j : Nat} {v : Int} (h : refusal d (j : Int) v = 0) : Sr58.doing d (.lay (j : Int) v) = (some (Sr58.lay d j (some (v == 1))), Sr58.say 0) := by
  obtain ⟨j', e, hj, hv, hl, hc⟩ := ref_zero h
  have : j' = j := by omega
  subst this
  show (if Sr58.isCoin d (j' : Int) = false then _ else if v < 0 ∨ 1 < v then _ else if (Sr58.laidAt d j').isSome = true then _ else _) = _
  rw [if_neg (by rw [hc]; decide), if_neg (by omega), if_neg (by rw [hl]; decide)]
  rfl
theorem lay_some {i v : Int} (h : ¬ refusal d i v = 0) : Sr58.doing d (.lay i v) = (none, Sr58.say (refusal d i v)) := by
  show (if Sr58.isCoin d i = false then _ else if v < 0 ∨ 1 < v then _ else if (Sr58.laidAt d i.toNat).isSome = true then _ else _) = _
  unfold refusal at h ⊢
  by_cases c1 : Sr58.isCoin d i = false
  · rw [if_pos c1, if_pos c1]
  · rw [if_neg c1] at h ⊢
    rw [if_neg c1]
    by_cases c2 : v < 0 ∨ 1 < v
    · rw [if_pos c2, if_pos c2]
    · rw [if_neg c2] at h ⊢
      rw [if_neg c2]
      by_cases c3 : (Sr58.laidAt d i.toNat).isSome = true
      · rw [if_pos c3, if_pos c3]
      · rw [if_neg c3] at h
        exact absurd rfl h
theorem ok_lay {fR : Addr} {fdR : FuncData} (F : Fun K "lay" "Coins.lay" sLay f fd) (T : Txt K mg C)
    (GR : FnOk P w K mg base CX0 2 fR fdR ["self", "i", "v"] (spRef K C)) (bR : Binds K fdR ["self", "i", "v"] []) (mR : Meth K C "refusal_to_lay" fR) : FnOk P w K mg base CX0 3 f fd ["self", "i", "v"] (spLay K C) := by
  refine F.ok scLay (fun vs H Q E h => ?_) (fun cdv A outer s H vs Q E hr h => ?_)
  · obtain ⟨G, F, a, d, i, v, rfl, _⟩ := h
    rfl
  · obtain ⟨G, F, a, d, i, v, rfl, hAt, k⟩ := h
    obtain ⟨m, R, dx, lc, ll, lt, rs, us, A⟩ := id hAt
    refine ⟨_, pss_cons (ps_set (i := 3) scLay.nd rfl (Or.inl rfl) (pe_meth (pv 0) T.cl mR GR hr bR .nil pass0 (pa_cons (pv 1) (pa_cons (pv 2) pa_nil))))
      (pss_cons (ps_if (pt_cmpR op_eq (pv 3) pe_int (nomark _)) (pss_one (ps_asg (pv 2) (pg_sub (pe_fld (pv 0) rfl) (pv 1) set_list))) pss_nil)
      (pss_one (ps_ret (pv 3)))), ?_⟩
    refine q_asg (ev_meth (ev_var rfl) A.ha (fl_no (by decide +kernel)) (ea_cons (ev_var rfl) (ea_cons (ev_var rfl) ea_nil)) (sp_ref hAt)) fun H1 e1 => ?_
    refine q_when (et_test (ev_op (ev_var rfl) ev_c (rv_eq rfl))) (fun hb H2 e2 => ?_) (fun hb H2 e2 => ?_)
    · have h0 := int_eqT hb
      obtain ⟨j, rfl, hj, v01, hl, _⟩ := ref_zero h0
      have hg := laid_get R hj
      have A2 := A.ex (e1.trans e2)
      refine s_setL A2.hl (ev_var rfl) (ev_fld (ev_var rfl) A2.ha T.cl T.nL fl_laid) (ev_var rfl) (by rw [iv_len]; exact (List.getElem?_eq_some_iff.mp hg).1) fun H3 e3 => ?_
      rw [iv_set]
      have A3 := (A2.ex e3).setL (m.ls.set j v)
      have ev : v = lt1 (some (v == 1)) := by
        rcases v01 with e | e
        · rw [e]
          rfl
        · rw [e]
          rfl
      have R4 := R.lay j (some (v == 1))
      rw [← ev] at R4
      exact s_ret (v := .int 0) (ev_is (ev_var rfl) (congrArg V.int h0)) fun H5 e5 => new_ans k (lay_zero h0) ⟨_, R4, _, _, _, _, _, _, A3.ex e5⟩
    · have h0 := int_neF hb
      exact s_ret (ev_var rfl) fun H5 e5 => same_ans k (lay_some h0) (hAt.ex ((e1.trans e2).trans e5))
abbrev sLift : Stmt := inClass cls 13
theorem scLift : FnScope ["self", "i"] ["self", "i"] (defScope sLift) := ⟨rfl, rfl, rfl, by decide +kernel, rfl, by decide +kernel, by decide +kernel⟩
def spLift (K : PySem.W.Frag) (C : Addr) : Sp := fun vs H Q _ => ∃ (G F : Hp) (a : Addr) (d : Sr58.Desk) (i : Int), vs = [.ref a, .int i] ∧ At K C G F H a (some d) ∧ ∀ H', At K C G F H' a (some (nxt d (.lift i))) → Q (.int (Sr58.doing d (.lift i)).2.num) H'
theorem ok_lift {fH : Addr} {fdH : FuncData} (F : Fun K "lift" "Coins.lift" sLift f fd) (T : Txt K mg C) (g1 : GI mg "NO_SUCH" (-2)) (g3 : GI mg "NOT_LAID" (-33)) (g4 : GI mg "THROWN" (-1))
    (GH : FnOk P w K mg base CX0 1 fH fdH ["self", "i"] (spHas K C)) (bH : Binds K fdH ["self", "i"] []) (mH : Meth K C "has_coin" fH) : FnOk P w K mg base CX0 2 f fd ["self", "i"] (spLift K C) := by
  refine F.ok scLift (fun vs H Q E h => ?_) (fun cdv A outer s H vs Q E hr h => ?_)
  · obtain ⟨G, F, a, d, i, rfl, _⟩ := h
    rfl
  · obtain ⟨G, F, a, d, i, rfl, hAt, k⟩ := h
    obtain ⟨m, R, dx, lc, ll, lt, rs, us, A⟩ := id hAt
    refine ⟨_, pss_cons (ps_if (pt_not (pt_val (pe_meth (pv 0) T.cl mH GH hr bH .nil pass0 (pa_cons (pv 1) pa_nil)))) (pss_one (ps_ret (pe_gi rfl g1))) pss_nil)
      (pss_cons (ps_if (pt_cmpR op_eq (pe_ix ix_list (pe_fld (pv 0) rfl) (pv 1) (fun _ _ => rfl)) (pe_gi rfl g4) (nomark _)) (pss_one (ps_ret (pe_gi rfl g3))) pss_nil)
      (pss_cons (ps_asg (pe_gi rfl g4) (pg_sub (pe_fld (pv 0) rfl) (pv 1) set_list))
      (pss_one (ps_ret pe_int)))), ?_⟩
    refine q_when (et_not (et_B (ev_meth (ev_var rfl) A.ha (fl_no (by decide +kernel)) (ea_cons (ev_var rfl) ea_nil) (sp_has hAt)))) (fun hb H1 e1 => ?_) (fun hb H1 e1 => ?_)
    · rw [Bool.not_eq_true'] at hb
      exact s_ret ev_c fun H2 e2 => same_ans k (by show (if Sr58.isCoin d i = false then _ else _) = _; rw [if_pos hb]) (hAt.ex (e1.trans e2))
    · rw [Bool.not_eq_false'] at hb
      have nb : ¬ Sr58.isCoin d i = false := by rw [hb]; decide
      obtain ⟨j, rfl, hj⟩ := isCoin_nat hb
      have hg := laid_get R hj
      have A2 := A.ex e1
      have hat : atI (iv m.ls) (j : Int) = some (.int (lt1 (Sr58.laidAt d j))) := at_of rfl (iv_getI hg)
      refine q_when (et_test (ev_op (ev_op (ev_fld (ev_var rfl) A2.ha T.cl T.nL fl_laid) (ev_var rfl) (rv_ixL (K := K) (sq_of A2.hl) hat)) ev_c (rv_eq rfl))) (fun hq H3 e3 => ?_) (fun hq H3 e3 => ?_)
      · have e1' := lt1_none.mp (int_eqT hq)
        exact s_ret ev_c fun H4 e4 => same_ans k (by show (if Sr58.isCoin d (j : Int) = false then _ else if (Sr58.laidAt d j).isNone = true then _ else _) = _; rw [if_neg nb, if_pos (by rw [e1']; rfl)]) (hAt.ex ((e1.trans e3).trans e4))
      · have n1 := int_neF hq
        have is : ¬ (Sr58.laidAt d j).isNone = true := by
          cases e : Sr58.laidAt d j with
          | none =>
            rw [e] at n1
            exact absurd rfl n1
          | some b => exact Bool.false_ne_true
        have A3 := A2.ex e3
        refine q_setL A3.hl ev_c (ev_fld (ev_var rfl) A3.ha T.cl T.nL fl_laid) (ev_var rfl) (by rw [iv_len]; exact (List.getElem?_eq_some_iff.mp hg).1) fun H4 e4 => ?_
        rw [iv_set]
        have A4 := (A3.ex e4).setL (m.ls.set j (-1))
        exact s_ret ev_c fun H5 e5 => new_ans k (by show (if Sr58.isCoin d (j : Int) = false then _ else if (Sr58.laidAt d j).isNone = true then _ else _) = _; rw [if_neg nb, if_neg is]; rfl) ⟨_, R.lay j none, _, _, _, _, _, _, A4.ex e5⟩
end
end Co
end
section
set_option maxRecDepth 100000
set_option maxHeartbeats 4000000
set_option linter.unusedVariables false
namespace Co
open PySem PySem.Spec PyProof.Rows L2 Evl Gn Mn Dk
section
variable {P : Program} {w : World} {K : PySem.W.Frag} {mg : Str → Option Value} {base : Heap} {f C : Addr} {fd : FuncData} {G F H' : Hp} {a : Addr} {d d' : Sr58.Desk} {c : Sr58.Call} {z : Int} {Q : VK}
/-! ### add_term -/
abbrev sAddTerm : Stmt := inClass cls 6
theorem scAddTerm : FnScope ["self", "w", "t", "row"] ["self", "w", "t", "row"] (defScope sAddTerm) := ⟨rfl, rfl, rfl, by decide +kernel, rfl, by decide +kernel, by decide +kernel⟩
def addT (d : Sr58.Desk) (tm : Sr58.Term) : Sr58.Desk := if 12 ≤ d.terms.length then d else { d with terms := d.terms ++ [tm] }
def addA (d : Sr58.Desk) : Int := if 12 ≤ d.terms.length then -28 else (d.terms.length : Int)
def spAddTerm (K : PySem.W.Frag) (C : Addr) : Sp := fun vs H Q _ => ∃ (G F : Hp) (a : Addr) (d : Sr58.Desk) (q : Addr) (tm : Sr58.Term), vs = [.ref a, .int (enc tm).1, .int (enc tm).2.1, .ref q] ∧ At K C G F H a (some d) ∧ G q = some (.lst (iv (enc tm).2.2)) ∧ termGood (Sr58.coins d) tm ∧
  ∀ H', At K C G F H' a (some (addT d tm)) → Q (.int (addA d)) H'
theorem terms_len {m : M} (R : MRel m (some d)) : m.ts.length = d.terms.length := by
  rw [R.2.2.1, List.length_map]
theorem ok_addTerm (F : Fun K "add_term" "Coins.add_term" sAddTerm f fd) (T : Txt K mg C) (B : Bl mg) (g1 : GI mg "MOST_TERMS" 12) (g2 : GI mg "FULL" (-28)) : FnOk P w K mg base CX0 1 f fd ["self", "w", "t", "row"] (spAddTerm K C) := by
  refine F.ok scAddTerm (fun vs H Q E h => ?_) (fun cdv A outer s H vs Q E hr h => ?_)
  · obtain ⟨G, F, a, d, q, tm, rfl, _⟩ := h
    rfl
  · obtain ⟨G, F, a, d, q, tm, rfl, hAt, hq, hgd, k⟩ := h
    obtain ⟨m, R, dx, lc, ll, lt, rs, us, A⟩ := id hAt
    refine ⟨_, pss_cons (ps_if (pt_cmpR op_ge (pe_callB call_len_seq (by rfl) B.len PySem.boot_len (pa_cons (pe_fld (pv 0) rfl) pa_nil)) (pe_gi rfl g1) (nomark _)) (pss_one (ps_ret (pe_gi rfl g2))) pss_nil)
      (pss_cons (ps_expr (pe_bm PySem.F.plainAttrs_list PySem.F.slot_list_append PySem.F.type_list_append mt_append (pe_fld (pv 0) rfl) (pa_cons (pe_tup (pa_cons (pv 1) (pa_cons (pv 2) (pa_cons (pv 3) pa_nil)))) pa_nil)))
      (pss_one (ps_ret (pe_op op_sub (pe_callB call_len_seq (by rfl) B.len PySem.boot_len (pa_cons (pe_fld (pv 0) rfl) pa_nil)) pe_int)))), ?_⟩
    have L1 := A.pt.1
    have L2 := terms_len R
    refine q_when (et_test (ev_op (ev_len (K := K) (ev_fld (ev_var rfl) A.ha T.cl T.nT fl_terms) (sq_of A.ht)) ev_c rv_I0)) (fun hb H1 e1 => ?_) (fun hb H1 e1 => ?_)
    · have hb := of_decide_eq_true hb
      refine s_ret ev_c fun H2 e2 => ?_
      have kq := k H2
      unfold addT addA at kq
      rw [if_pos (by omega), if_pos (by omega)] at kq
      exact kq (hAt.ex (e1.trans e2))
    · have hb := of_decide_eq_false hb
      have A1 := A.ex e1
      refine q_appU (K := K) A1.ht (ev_fld (ev_var rfl) A1.ha T.cl T.nT fl_terms) (eu_tup (ea_cons (ev_var rfl) (ea_cons (ev_var rfl) (ea_cons (ev_var rfl) ea_nil))) (by show 3 ≤ 100000; decide)) (by omega) fun p H2 hp e2 h2 => ?_
      have A2 := A1.ex e2
      have TG : TermsG K G H2 (us ++ [.ref p]) (m.ts ++ [enc tm]) := by
        refine ⟨by rw [List.length_append, List.length_append, L1]; rfl, fun i r hr => ?_⟩
        rw [List.getElem?_append] at hr
        by_cases hi : i < us.length
        · rw [if_pos hi] at hr
          obtain ⟨t, h3, h4⟩ := A2.pt.2 i r hr
          exact ⟨t, by rw [List.getElem?_append, if_pos (by omega)]; exact h3, h4⟩
        · rw [if_neg hi] at hr
          have h0 : i - us.length = 0 := by
            have := (List.getElem?_eq_some_iff.mp hr).1
            simp at this
            exact this
          rw [h0] at hr
          have er : V.ref p = r := Option.some.inj hr
          refine ⟨enc tm, ?_, p, q, er.symm, st_of h2, hq⟩
          rw [List.getElem?_append, if_neg (by omega), ← L1, h0]
          rfl
      have A3 := A2.setT TG
      refine s_ret (ev_op (ev_len (K := K) (ev_fld (ev_var rfl) A3.ha T.cl T.nT fl_terms) (sq_of A3.ht)) ev_c rv_I0) fun H3 e3 => ?_
      have kq := k H3
      unfold addT addA at kq
      rw [if_neg (by omega), if_neg (by omega)] at kq
      have ez : ((us ++ [V.ref p]).length : Int) - 1 = (d.terms.length : Int) := by
        rw [List.length_append]
        simp
        omega
      rw [← ez] at kq
      rw [R.1.coins] at hgd
      refine kq ⟨{ m with ts := m.ts ++ [enc tm] }, ⟨R.1.add hgd (by omega), R.2.1, ?_, R.2.2.2⟩, _, _, _, _, _, _, A3.ex e3⟩
      show m.ts ++ [enc tm] = (d.terms ++ [tm]).map enc
      rw [List.map_append, R.2.2.1]
      rfl
/-! ### add_all -/
abbrev sAddAll : Stmt := inClass cls 7
theorem scAddAll : FnScope ["self", "w", "row"] ["self", "w", "row"] (defScope sAddAll) := ⟨rfl, rfl, rfl, by decide +kernel, rfl, by decide +kernel, by decide +kernel⟩
def spAddAll (K : PySem.W.Frag) (C : Addr) : Sp := fun vs H Q _ => ∃ (G F : Hp) (a : Addr) (d : Sr58.Desk) (q : Addr) (x : Int) (ns : List Int), vs = [.ref a, .int x, .ref q] ∧ At K C G F H a (some d) ∧ G q = some (.lst (iv ns)) ∧ ns.length ≤ 70 ∧
  ∀ H', At K C G F H' a (some (nxt d (.all x ns))) → Q (.int (Sr58.doing d (.all x ns)).2.num) H'
theorem sp_isWeight {H : Hp} {x : Int} : SpV spIsWeight [.int x] H (.bl (isWeight x)) := fun H1 e Q q E => ⟨x, rfl, fun H2 e2 => q H2 e2⟩
theorem sp_within {H : Hp} {q : Addr} {ns : List Int} {x : Int} (h : SqL K H q (iv ns)) (hl : ns.length ≤ 70) : SpV (spWithin K) [.ref q, .int x] H (.bl (within ns x)) := fun H1 e Q k E => ⟨q, ns, x, rfl, ex_l e h, by omega, fun H2 e2 => k H2 e2⟩
theorem sp_rising {H : Hp} {q : Addr} {ns : List Int} (h : SqL K H q (iv ns)) (hl : ns.length ≤ 70) : SpV (spRising K) [.ref q] H (.bl (Sr58.rising ns)) := fun H1 e Q k E => ⟨q, ns, rfl, ex_l e h, by omega, fun H2 e2 => k H2 e2⟩
theorem within_iff {ns : List Int} {x : Int} : within ns x = true ↔ ∀ n ∈ ns, 0 ≤ n ∧ n < x := by
  unfold within
  rw [List.all_eq_true]
  constructor
  · intro h n hn
    have := h n hn
    rw [Bool.and_eq_true, decide_eq_true_iff, decide_eq_true_iff] at this
    exact this
  · intro h n hn
    rw [Bool.and_eq_true, decide_eq_true_iff, decide_eq_true_iff]
    exact h n hn
theorem up_nat {ns : List Int} (h : ∀ n ∈ ns, 0 ≤ n) : up (ns.map fun x => x.toNat) = ns := by
  unfold up
  rw [List.map_map]
  conv => rhs; rw [← List.map_id ns]
  refine List.map_congr_left fun n hn => ?_
  have := h n hn
  show ((n.toNat : Nat) : Int) = n
  omega
theorem ok_addAll {fW fI fA : Addr} {fdW fdI fdA : FuncData} (F : Fun K "add_all" "Coins.add_all" sAddAll f fd) (T : Txt K mg C) (B : Bl mg) (g1 : GI mg "WRONG" (-22)) (g2 : GI mg "MOST_TOLD" 20) (g3 : GI mg "AS_TOLD" (-1))
    (GW : FnOk P w K mg base CX0 1 fW fdW ["w"] spIsWeight) (bW : Binds K fdW ["w"] []) (kW : PySem.W.keepIn K (.ref fW) = true) (mW : mg "is_weight" = some (.ref fW))
    (GI' : FnOk P w K mg base CX0 1 fI fdI ["row", "end"] (spWithin K)) (bI : Binds K fdI ["row", "end"] []) (kI : PySem.W.keepIn K (.ref fI) = true) (mI : mg "within" = some (.ref fI))
    (GA : FnOk P w K mg base CX0 1 fA fdA ["self", "w", "t", "row"] (spAddTerm K C)) (bA : Binds K fdA ["self", "w", "t", "row"] []) (mA : Meth K C "add_term" fA) : FnOk P w K mg base CX0 2 f fd ["self", "w", "row"] (spAddAll K C) := by
  refine F.ok scAddAll (fun vs H Q E h => ?_) (fun cdv A outer s H vs Q E hr h => ?_)
  · obtain ⟨G, F, a, d, q, x, ns, rfl, _⟩ := h
    rfl
  · obtain ⟨G, F, a, d, q, x, ns, rfl, hAt, hq, hlen, k⟩ := h
    obtain ⟨m, R, dx, lc, ll, lt, rs, us, A⟩ := id hAt
    refine ⟨_, pss_cons (ps_if (PW.pt (pw_or (pt_not (pt_val (pe_call GW hr rfl mW kW bW .nil pass0 (pa_cons (pv 1) pa_nil)))) (pw_or (pt_cmpR op_lt (pe_callB call_len_seq (by rfl) B.len PySem.boot_len (pa_cons (pv 2) pa_nil)) pe_int (nomark _)) (pw_or1 (pt_cmpR op_gt (pe_callB call_len_seq (by rfl) B.len PySem.boot_len (pa_cons (pv 2) pa_nil)) (pe_gi rfl g2) (nomark _)))))) (pss_one (ps_ret (pe_gi rfl g1))) pss_nil)
      (pss_cons (ps_if (pt_not (pt_val (pe_call GI' hr rfl mI kI bI .nil pass0 (pa_cons (pv 2) (pa_cons (pe_op op_mul pe_int (pe_callB call_len_seq (by rfl) B.len PySem.boot_len (pa_cons (pe_fld (pv 0) rfl) pa_nil))) pa_nil))))) (pss_one (ps_ret (pe_gi rfl g1))) pss_nil)
      (pss_one (ps_ret (pe_meth (pv 0) T.cl mA GA hr bA .nil pass0 (pa_cons (pv 1) (pa_cons (pe_gi rfl g3) (pa_cons (pv 2) pa_nil))))))), ?_⟩
    have qH : SqL K H q (iv ns) := sq_of (A.gh _ _ hq)
    have NL := iv_len ns
    have LL : ((iv m.ls).length : Int) = (Sr58.coins d : Int) := by
      rw [iv_len, R.len, R.1.coins]
    refine q_when (et_or (et_not (et_B (ev_call (ea_cons (ev_var rfl) ea_nil) sp_isWeight))) fun _ => et_or (et_test (ev_op (ev_len (K := K) (ev_var rfl) qH) ev_c rv_I0)) fun _ => et_test (ev_op (ev_len (K := K) (ev_var rfl) qH) ev_c rv_I0)) (fun hb H1 e1 => ?_) (fun hb H1 e1 => ?_)
    · have hb' : x < -100 ∨ 100 < x ∨ ns = [] ∨ 20 < ns.length ∨ (ns.any (fun x => decide (x < 0) || decide (2 * (Sr58.coins d : Int) ≤ x))) = true := by
        rw [Bool.or_eq_true, Bool.or_eq_true, Bool.not_eq_true', decide_eq_true_iff, decide_eq_true_iff] at hb
        rcases hb with h | h | h
        · unfold isWeight at h
          rw [Bool.and_eq_false_iff, decide_eq_false_iff_not, decide_eq_false_iff_not] at h
          omega
        · exact .inr (.inr (.inl (List.length_eq_zero_iff.mp (by omega))))
        · exact .inr (.inr (.inr (.inl (by omega))))
      exact s_ret ev_c fun H2 e2 => same_ans k (by show (if _ then _ else _) = _; rw [if_pos hb']) (hAt.ex (e1.trans e2))
    · rw [Bool.or_eq_false_iff, Bool.or_eq_false_iff, Bool.not_eq_false', decide_eq_false_iff_not, decide_eq_false_iff_not] at hb
      obtain ⟨hb1, hb2, hb3⟩ := hb
      unfold isWeight at hb1
      rw [Bool.and_eq_true, decide_eq_true_iff, decide_eq_true_iff] at hb1
      have A1 := A.ex e1
      refine q_when (et_not (et_B (ev_call (ea_cons (ev_var rfl) (ea_cons (ev_op ev_c (ev_len (K := K) (ev_fld (ev_var rfl) A1.ha T.cl T.nL fl_laid) (sq_of A1.hl)) (rv_I (Or.inl ⟨by decide, by decide⟩))) ea_nil)) (sp_within (ex_l e1 qH) hlen)))) (fun hc H2 e2 => ?_) (fun hc H2 e2 => ?_)
      · rw [Bool.not_eq_true'] at hc
        have hb' : x < -100 ∨ 100 < x ∨ ns = [] ∨ 20 < ns.length ∨ (ns.any (fun x => decide (x < 0) || decide (2 * (Sr58.coins d : Int) ≤ x))) = true := by
          refine .inr (.inr (.inr (.inr ?_)))
          rw [LL] at hc
          rw [← Bool.not_eq_false]
          intro hn
          rw [← Bool.not_eq_true] at hc
          apply hc
          rw [within_iff]
          intro n hn'
          rw [List.any_eq_false] at hn
          have := hn n hn'
          simp only [Bool.or_eq_true, decide_eq_true_iff] at this
          omega
        exact s_ret ev_c fun H3 e3 => same_ans k (by show (if _ then _ else _) = _; rw [if_pos hb']) (hAt.ex ((e1.trans e2).trans e3))
      · rw [Bool.not_eq_false', within_iff, LL] at hc
        have nb' : ¬ (x < -100 ∨ 100 < x ∨ ns = [] ∨ 20 < ns.length ∨ (ns.any (fun x => decide (x < 0) || decide (2 * (Sr58.coins d : Int) ≤ x))) = true) := by
          rintro (h | h | h | h | h)
          · omega
          · omega
          · rw [h] at NL hb2
            exact hb2 (by decide)
          · omega
          · rw [List.any_eq_true] at h
            obtain ⟨n, hn, h⟩ := h
            have := hc n hn
            simp only [Bool.or_eq_true, decide_eq_true_iff] at h
            omega
        have ut := up_nat (ns := ns) fun n hn => (hc n hn).1
        have A2 := A1.ex e2
        refine ⟨_, rfl, a, dx, _, rfl, A2.ha, fl_no (by decide +kernel), _, rfl, _, rfl, G, F, a, d, q, ⟨x, .all (ns.map fun x => x.toNat)⟩, rfl, hAt.ex (e1.trans e2), ?_, ⟨⟨by show -100 ≤ x; omega, by show x ≤ 100; omega⟩, ?_, ?_⟩, fun H3 A3 => ?_⟩
        · show G q = some (.lst (iv (up (ns.map fun x => x.toNat))))
          rw [ut]
          exact hq
        · intro y hy
          obtain ⟨n, hn, rfl⟩ := List.mem_map.mp hy
          have := hc n hn
          omega
        · rw [List.length_map]
          omega
        · have kq := k H3
          unfold nxt at kq
          have e : Sr58.doing d (.all x ns) = if Sr58.TERMS ≤ d.terms.length then (none, Sr58.say (-28)) else (some { d with terms := d.terms ++ [⟨x, .all (ns.map fun x => x.toNat)⟩] }, Sr58.say (d.terms.length : Nat)) := by
            show (if _ then _ else _) = _
            rw [if_neg nb']
          rw [e] at kq
          unfold addT at A3
          unfold addA
          by_cases ht : 12 ≤ d.terms.length
          · rw [if_pos ht] at A3 ⊢
            rw [if_pos (show Sr58.TERMS ≤ d.terms.length from ht)] at kq
            exact kq A3
          · rw [if_neg ht] at A3 ⊢
            rw [if_neg (show ¬ Sr58.TERMS ≤ d.terms.length from ht)] at kq
            exact kq A3
end
end Co
end
section
set_option maxRecDepth 100000
set_option maxHeartbeats 4000000
set_option linter.unusedVariables false
namespace Co
open PySem PySem.Spec PyProof.Rows L2 Evl Gn Mn Dk
theorem rising_nat : ∀ {ns : List Int}, (∀ n ∈ ns, 0 ≤ n) → Sr58.rising ns = true → Rising (ns.map fun x => x.toNat)
  | [], _, _ => trivial
  | [a], _, _ => trivial
  | a :: b :: l, h, hr => by
    unfold Sr58.rising at hr
    rw [Bool.and_eq_true, decide_eq_true_iff] at hr
    have h1 := h a (List.mem_cons_self ..)
    have h2 := h b (List.mem_cons_of_mem _ (List.mem_cons_self ..))
    exact ⟨by show a.toNat < b.toNat; omega, rising_nat (ns := b :: l) (fun n hn => h n (List.mem_cons_of_mem _ hn)) hr.2⟩
theorem map_erase {α β : Type} (g : α → β) (l : List α) (j : Nat) : (l.eraseIdx j).map g = (l.map g).eraseIdx j := by
  rw [List.eraseIdx_eq_take_drop_succ, List.eraseIdx_eq_take_drop_succ, List.map_append, List.map_take, List.map_drop]
section
variable {P : Program} {w : World} {K : PySem.W.Frag} {mg : Str → Option Value} {base : Heap} {f C : Addr} {fd : FuncData} {G F H' : Hp} {a : Addr} {d d' : Sr58.Desk} {c : Sr58.Call} {z : Int} {Q : VK}
/-! ### add_many -/
abbrev sAddMany : Stmt := inClass cls 8
theorem scAddMany : FnScope ["self", "w", "t", "row"] ["self", "w", "t", "row"] (defScope sAddMany) := ⟨rfl, rfl, rfl, by decide +kernel, rfl, by decide +kernel, by decide +kernel⟩
def spAddMany (K : PySem.W.Frag) (C : Addr) : Sp := fun vs H Q _ => ∃ (G F : Hp) (a : Addr) (d : Sr58.Desk) (q : Addr) (x t : Int) (ns : List Int), vs = [.ref a, .int x, .int t, .ref q] ∧ At K C G F H a (some d) ∧ G q = some (.lst (iv ns)) ∧ ns.length ≤ 70 ∧
  ∀ H', At K C G F H' a (some (nxt d (.many x t ns))) → Q (.int (Sr58.doing d (.many x t ns)).2.num) H'
theorem isCoin_iff {n : Int} : Sr58.isCoin d n = true ↔ 0 ≤ n ∧ n < (Sr58.coins d : Int) := by
  unfold Sr58.isCoin
  rw [Bool.and_eq_true, decide_eq_true_iff, decide_eq_true_iff]
theorem ok_addMany {fW fI fR fA : Addr} {fdW fdI fdR fdA : FuncData} (F : Fun K "add_many" "Coins.add_many" sAddMany f fd) (T : Txt K mg C) (B : Bl mg) (g1 : GI mg "WRONG" (-22)) (g2 : GI mg "MOST_TOLD" 20)
    (GW : FnOk P w K mg base CX0 1 fW fdW ["w"] spIsWeight) (bW : Binds K fdW ["w"] []) (kW : PySem.W.keepIn K (.ref fW) = true) (mW : mg "is_weight" = some (.ref fW))
    (GI' : FnOk P w K mg base CX0 1 fI fdI ["row", "end"] (spWithin K)) (bI : Binds K fdI ["row", "end"] []) (kI : PySem.W.keepIn K (.ref fI) = true) (mI : mg "within" = some (.ref fI))
    (GR : FnOk P w K mg base CX0 1 fR fdR ["row"] (spRising K)) (bR : Binds K fdR ["row"] []) (kR : PySem.W.keepIn K (.ref fR) = true) (mR : mg "is_rising" = some (.ref fR))
    (GA : FnOk P w K mg base CX0 1 fA fdA ["self", "w", "t", "row"] (spAddTerm K C)) (bA : Binds K fdA ["self", "w", "t", "row"] []) (mA : Meth K C "add_term" fA) : FnOk P w K mg base CX0 2 f fd ["self", "w", "t", "row"] (spAddMany K C) := by
  refine F.ok scAddMany (fun vs H Q E h => ?_) (fun cdv A outer s H vs Q E hr h => ?_)
  · obtain ⟨G, F, a, d, q, x, t, ns, rfl, _⟩ := h
    rfl
  · obtain ⟨G, F, a, d, q, x, t, ns, rfl, hAt, hq, hlen, k⟩ := h
    obtain ⟨m, R, dx, lc, ll, lt, rs, us, A⟩ := id hAt
    refine ⟨_, pss_cons (ps_if (PW.pt (pw_or (pt_not (pt_val (pe_call GW hr rfl mW kW bW .nil pass0 (pa_cons (pv 1) pa_nil)))) (pw_or (pt_cmpR op_lt (pe_callB call_len_seq (by rfl) B.len PySem.boot_len (pa_cons (pv 3) pa_nil)) pe_int (nomark _)) (pw_or (pt_cmpR op_lt (pv 2) pe_int (nomark _)) (pw_or1 (pt_cmpR op_gt (pv 2) (pe_gi rfl g2) (nomark _))))))) (pss_one (ps_ret (pe_gi rfl g1))) pss_nil)
      (pss_cons (ps_if (PW.pt (pw_or (pt_not (pt_val (pe_call GI' hr rfl mI kI bI .nil pass0 (pa_cons (pv 3) (pa_cons (pe_callB call_len_seq (by rfl) B.len PySem.boot_len (pa_cons (pe_fld (pv 0) rfl) pa_nil)) pa_nil))))) (pw_or1 (pt_not (pt_val (pe_call GR hr rfl mR kR bR .nil pass0 (pa_cons (pv 3) pa_nil))))))) (pss_one (ps_ret (pe_gi rfl g1))) pss_nil)
      (pss_one (ps_ret (pe_meth (pv 0) T.cl mA GA hr bA .nil pass0 (pa_cons (pv 1) (pa_cons (pv 2) (pa_cons (pv 3) pa_nil))))))), ?_⟩
    have qH : SqL K H q (iv ns) := sq_of (A.gh _ _ hq)
    have NL := iv_len ns
    have LL : ((iv m.ls).length : Int) = (Sr58.coins d : Int) := by
      rw [iv_len, R.len, R.1.coins]
    refine q_when (et_or (et_not (et_B (ev_call (ea_cons (ev_var rfl) ea_nil) sp_isWeight))) fun _ => et_or (et_test (ev_op (ev_len (K := K) (ev_var rfl) qH) ev_c rv_I0)) fun _ => et_or (et_test (ev_op (ev_var rfl) ev_c rv_I0)) fun _ => et_test (ev_op (ev_var rfl) ev_c rv_I0)) (fun hb H1 e1 => ?_) (fun hb H1 e1 => ?_)
    · have hb' : x < -100 ∨ 100 < x ∨ ns = [] ∨ (ns.any (fun x => Sr58.isCoin d x = false)) = true ∨ Sr58.rising ns = false ∨ t < 0 ∨ 20 < t := by
        rw [Bool.or_eq_true, Bool.or_eq_true, Bool.or_eq_true, Bool.not_eq_true', decide_eq_true_iff, decide_eq_true_iff, decide_eq_true_iff] at hb
        rcases hb with h | h | h | h
        · unfold isWeight at h
          rw [Bool.and_eq_false_iff, decide_eq_false_iff_not, decide_eq_false_iff_not] at h
          omega
        · exact .inr (.inr (.inl (List.length_eq_zero_iff.mp (by omega))))
        · omega
        · omega
      exact s_ret ev_c fun H2 e2 => same_ans k (by show (if _ then _ else _) = _; rw [if_pos hb']) (hAt.ex (e1.trans e2))
    · rw [Bool.or_eq_false_iff, Bool.or_eq_false_iff, Bool.or_eq_false_iff, Bool.not_eq_false', decide_eq_false_iff_not, decide_eq_false_iff_not, decide_eq_false_iff_not] at hb
      obtain ⟨hb1, hb2, hb3, hb4⟩ := hb
      unfold isWeight at hb1
      rw [Bool.and_eq_true, decide_eq_true_iff, decide_eq_true_iff] at hb1
      have A1 := A.ex e1
      refine q_when (et_or (et_not (et_B (ev_call (ea_cons (ev_var rfl) (ea_cons (ev_len (K := K) (ev_fld (ev_var rfl) A1.ha T.cl T.nL fl_laid) (sq_of A1.hl)) ea_nil)) (sp_within (ex_l e1 qH) hlen)))) fun _ => et_not (et_B (ev_call (ea_cons (ev_var rfl) ea_nil) (sp_rising (ex_l e1 qH) hlen)))) (fun hc H2 e2 => ?_) (fun hc H2 e2 => ?_)
      · rw [Bool.or_eq_true, Bool.not_eq_true', Bool.not_eq_true'] at hc
        have hb' : x < -100 ∨ 100 < x ∨ ns = [] ∨ (ns.any (fun x => Sr58.isCoin d x = false)) = true ∨ Sr58.rising ns = false ∨ t < 0 ∨ 20 < t := by
          rcases hc with hc | hc
          · refine .inr (.inr (.inr (.inl ?_)))
            rw [LL] at hc
            rw [← Bool.not_eq_false]
            intro hn
            rw [← Bool.not_eq_true] at hc
            apply hc
            rw [within_iff]
            intro n hn'
            rw [List.any_eq_false] at hn
            have := hn n hn'
            rw [decide_eq_true_iff, Bool.not_eq_false, isCoin_iff] at this
            exact this
          · exact .inr (.inr (.inr (.inr (.inl hc))))
        exact s_ret ev_c fun H3 e3 => same_ans k (by show (if _ then _ else _) = _; rw [if_pos hb']) (hAt.ex ((e1.trans e2).trans e3))
      · rw [Bool.or_eq_false_iff, Bool.not_eq_false', Bool.not_eq_false', within_iff, LL] at hc
        obtain ⟨hc, hri⟩ := hc
        have nb' : ¬ (x < -100 ∨ 100 < x ∨ ns = [] ∨ (ns.any (fun x => Sr58.isCoin d x = false)) = true ∨ Sr58.rising ns = false ∨ t < 0 ∨ 20 < t) := by
          rintro (h | h | h | h | h | h | h)
          · omega
          · omega
          · rw [h] at NL hb2
            exact hb2 (by decide)
          · rw [List.any_eq_true] at h
            obtain ⟨n, hn, h⟩ := h
            have := hc n hn
            rw [decide_eq_true_iff] at h
            have h2 := isCoin_iff.mpr this
            rw [h] at h2
            cases h2
          · rw [hri] at h
            cases h
          · omega
          · omega
        have ut := up_nat (ns := ns) fun n hn => (hc n hn).1
        have A2 := A1.ex e2
        have et : ((t.toNat : Nat) : Int) = t := by omega
        refine ⟨_, rfl, a, dx, _, rfl, A2.ha, fl_no (by decide +kernel), _, rfl, _, rfl, _, rfl, G, F, a, d, q, ⟨x, .many t.toNat (ns.map fun x => x.toNat)⟩, ?_, hAt.ex (e1.trans e2), ?_, ⟨⟨by show -100 ≤ x; omega, by show x ≤ 100; omega⟩, ⟨?_, ?_⟩, ?_, ?_⟩, fun H3 A3 => ?_⟩
        · show [V.ref a, V.int x, V.int t, V.ref q] = [V.ref a, V.int x, V.int ((t.toNat : Nat) : Int), V.ref q]
          rw [et]
        · show G q = some (.lst (iv (up (ns.map fun x => x.toNat))))
          rw [ut]
          exact hq
        · intro y hy
          obtain ⟨n, hn, rfl⟩ := List.mem_map.mp hy
          have := hc n hn
          omega
        · exact rising_nat (fun n hn => (hc n hn).1) hri
        · rw [List.length_map]
          exact hlen
        · omega
        · have kq := k H3
          unfold nxt at kq
          have e : Sr58.doing d (.many x t ns) = if Sr58.TERMS ≤ d.terms.length then (none, Sr58.say (-28)) else (some { d with terms := d.terms ++ [⟨x, .many t.toNat (ns.map fun x => x.toNat)⟩] }, Sr58.say (d.terms.length : Nat)) := by
            show (if _ then _ else _) = _
            rw [if_neg nb']
          rw [e] at kq
          unfold addT at A3
          unfold addA
          by_cases ht : 12 ≤ d.terms.length
          · rw [if_pos ht] at A3 ⊢
            rw [if_pos (show Sr58.TERMS ≤ d.terms.length from ht)] at kq
            exact kq A3
          · rw [if_neg ht] at A3 ⊢
            rw [if_neg (show ¬ Sr58.TERMS ≤ d.terms.length from ht)] at kq
            exact kq A3
/-! ### drop -/
abbrev sDrop : Stmt := inClass cls 9
theorem scDrop : FnScope ["self", "j"] ["self", "j"] (defScope sDrop) := ⟨rfl, rfl, rfl, by decide +kernel, rfl, by decide +kernel, by decide +kernel⟩
def spDrop (K : PySem.W.Frag) (C : Addr) : Sp := fun vs H Q _ => ∃ (G F : Hp) (a : Addr) (d : Sr58.Desk) (i : Int), vs = [.ref a, .int i] ∧ At K C G F H a (some d) ∧ ∀ H', At K C G F H' a (some (nxt d (.drop i))) → Q (.int (Sr58.doing d (.drop i)).2.num) H'
theorem cutV_take (xs : List V) {j : Nat} (h : j ≤ xs.length) : cutV xs none (some (j : Int)) = xs.take j := by
  unfold cutV
  rw [HT.sIx_nat, HT.sIx_none, Nat.min_eq_left h]
  rfl
theorem cutV_drop (xs : List V) {j : Nat} (h : j ≤ xs.length) : cutV xs (some (j : Int)) none = xs.drop j := by
  unfold cutV
  rw [HT.sIx_nat, HT.sIx_none, Nat.min_eq_left h]
  exact List.take_of_length_le (by rw [List.length_drop]; omega)
theorem getElem?_erase {α β : Type} {us : List α} {ts : List β} (h : us.length = ts.length) (Rl : α → β → Prop) (hr : ∀ (i : Nat) r, us[i]? = some r → ∃ t, ts[i]? = some t ∧ Rl r t) (j : Nat) : ∀ (i : Nat) r, (us.eraseIdx j)[i]? = some r → ∃ t, (ts.eraseIdx j)[i]? = some t ∧ Rl r t := by
  intro i r hi
  rw [List.getElem?_eraseIdx] at hi ⊢
  by_cases c : i < j
  · rw [if_pos c] at hi ⊢
    exact hr i r hi
  · rw [if_neg c] at hi ⊢
    exact hr (i + 1) r hi
theorem ok_drop {fH : Addr} {fdH : FuncData} (F : Fun K "drop" "Coins.drop" sDrop f fd) (T : Txt K mg C) (B : Bl mg) (g1 : GI mg "NO_SUCH" (-2))
    (GH : FnOk P w K mg base CX0 1 fH fdH ["self", "j"] (spHasT K C)) (bH : Binds K fdH ["self", "j"] []) (mH : Meth K C "has_term" fH) : FnOk P w K mg base CX0 2 f fd ["self", "j"] (spDrop K C) := by
  refine F.ok scDrop (fun vs H Q E h => ?_) (fun cdv A outer s H vs Q E hr h => ?_)
  · obtain ⟨G, F, a, d, i, rfl, _⟩ := h
    rfl
  · obtain ⟨G, F, a, d, i, rfl, hAt, k⟩ := h
    obtain ⟨m, R, dx, lc, ll, lt, rs, us, A⟩ := id hAt
    refine ⟨_, pss_cons (ps_if (pt_not (pt_val (pe_meth (pv 0) T.cl mH GH hr bH .nil pass0 (pa_cons (pv 1) pa_nil)))) (pss_one (ps_ret (pe_gi rfl g1))) pss_nil)
      (pss_cons (ps_fld (pv 0) (pe_op op_cat (pe_slice sl_list (pe_fld (pv 0) rfl) po_none (po_some (pv 1))) (pe_slice sl_list (pe_fld (pv 0) rfl) (po_some (pe_op op_add (pv 1) pe_int)) po_none)) rfl)
      (pss_one (ps_ret (pe_callB call_len_seq (by rfl) B.len PySem.boot_len (pa_cons (pe_fld (pv 0) rfl) pa_nil))))), ?_⟩
    have L1 := A.pt.1
    have L2 := terms_len R
    refine q_when (et_not (et_B (ev_meth (ev_var rfl) A.ha (fl_no (by decide +kernel)) (ea_cons (ev_var rfl) ea_nil) (sp_hasT hAt)))) (fun hb H1 e1 => ?_) (fun hb H1 e1 => ?_)
    · rw [Bool.not_eq_true'] at hb
      unfold isTerm at hb
      rw [Bool.and_eq_false_iff, decide_eq_false_iff_not, decide_eq_false_iff_not] at hb
      exact s_ret ev_c fun H2 e2 => same_ans k (by show (if i < 0 ∨ (d.terms.length : Int) ≤ i then _ else _) = _; rw [if_pos (by omega)]) (hAt.ex (e1.trans e2))
    · rw [Bool.not_eq_false'] at hb
      unfold isTerm at hb
      rw [Bool.and_eq_true, decide_eq_true_iff, decide_eq_true_iff] at hb
      obtain ⟨j, rfl⟩ : ∃ j : Nat, i = (j : Int) := ⟨i.toNat, by omega⟩
      have hj : j < us.length := by omega
      have A1 := A.ex e1
      have s1 := el_sl (K := K) (te := tFld K (tVar 0) "terms") (σ := [some (.ref a), some (.int (j : Int))]) (H := H1) (ev_fld (ev_var rfl) A1.ha T.cl T.nT fl_terms) eo_none (eo_some (te := tVar 1) (ev_var rfl)) (sq_of A1.ht)
      have s2 := el_sl (K := K) (te := tFld K (tVar 0) "terms") (σ := [some (.ref a), some (.int (j : Int))]) (H := H1) (ev_fld (ev_var rfl) A1.ha T.cl T.nT fl_terms) (eo_some (i := ((j + 1 : Nat) : Int)) (te := tOp rAd (tVar 1) (tC (.int 1))) (ev_op (ev_var rfl) ev_c rv_I0)) eo_none (sq_of A1.ht)
      rw [cutV_take us (by omega)] at s1
      rw [cutV_drop us (by omega)] at s2
      refine q_fldL (el_cat s1 s2 (by rw [List.length_take, List.length_drop]; have := R.1.nt; omega)) (ev_var rfl) A1.ha T.cl T.nT fl_len fun p H2 hp e2 h2 => ?_
      rw [← List.eraseIdx_eq_take_drop_succ] at h2
      have A2 := A1.ex e2
      have TG : TermsG K G H2 (us.eraseIdx j) (m.ts.eraseIdx j) := ⟨by rw [List.length_eraseIdx, List.length_eraseIdx, L1], getElem?_erase L1 (fun r t => TermG K G t H2 r) A2.pt.2 j⟩
      have A3 := A2.putT h2 TG (fresh_back A1.fh hp) (ne_of_none A1.hc hp) (ne_of_none A1.hl hp)
      refine s_ret (v := .int ((d.terms.length - 1 : Nat) : Int)) (ev_is (ev_len (K := K) (ev_fld (ev_var rfl) A3.ha T.cl T.nT fl_terms) (sq_of A3.ht)) ?_) fun H3 e3 => new_ans k (d' := { d with terms := d.terms.eraseIdx j }) (by
        show (if (j : Int) < 0 ∨ (d.terms.length : Int) ≤ (j : Int) then _ else _) = _
        rw [if_neg (by omega)]
        rfl) ⟨{ m with ts := m.ts.eraseIdx j }, ⟨R.1.drop j, R.2.1, ?_, R.2.2.2⟩, _, _, _, _, _, _, A3.ex e3⟩
      · rw [List.length_eraseIdx, if_pos hj, L1, L2]
      · show m.ts.eraseIdx j = (d.terms.eraseIdx j).map enc
        rw [R.2.2.1, map_erase]
end
end Co
end
section
set_option maxRecDepth 100000
set_option maxHeartbeats 4000000
set_option linter.unusedVariables false
namespace Co
open PySem PySem.Spec PyProof.Rows L2 Evl Gn Mn Dk
section
variable {P : Program} {w : World} {K : PySem.W.Frag} {mg : Str → Option Value} {base : Heap} {f C : Addr} {fd : FuncData} {G F H H' : Hp} {a : Addr} {d d' : Sr58.Desk} {c : Sr58.Call} {z : Int} {Q : VK}
/-! ### mean_upper_if -/
abbrev sMeanIf : Stmt := inClass cls 14
theorem scMeanIf : FnScope ["self", "i", "v", "laid"] ["self", "i", "v"] (defScope sMeanIf) := ⟨rfl, rfl, rfl, by decide +kernel, rfl, by decide +kernel, by decide +kernel⟩
def spMeanIf (K : PySem.W.Frag) (C : Addr) : Sp := fun vs H Q _ => ∃ (G F : Hp) (a : Addr) (m : M) (d : Sr58.Desk) (j : Nat) (b : Bool), vs = [.ref a, .int (j : Int), .int (Sr58.bit b)] ∧ MRel m (some d) ∧ MAt K C G F H a m ∧ j < Sr58.coins d ∧ RetV (.int (meanUp m.cs (Sr58.lay d j (some b)))) H Q
theorem sp_meanIf {m : M} {j : Nat} {b : Bool} (R : MRel m (some d)) (A : MAt K C G F H a m) (hj : j < Sr58.coins d) : SpV (spMeanIf K C) [.ref a, .int (j : Int), .int (Sr58.bit b)] H (.int (meanUp m.cs (Sr58.lay d j (some b)))) := fun H1 e Q q E =>
  ⟨G, F, a, m, d, j, b, rfl, R, A.ex e, hj, fun H2 e2 => q H2 e2⟩
theorem enc_ok {n : Nat} {t : Sr58.Term} (h : termGood n t) : tOk (enc t) := by
  obtain ⟨x, k⟩ := t
  cases k with
  | all l => exact ⟨Int.le_refl _, h.1⟩
  | many k s => exact ⟨by show (-1 : Int) ≤ (k : Int); omega, h.1⟩
theorem MRel.tOk {m : M} (R : MRel m (some d)) : ∀ t ∈ m.ts, Co.tOk t := by
  intro t ht
  rw [R.2.2.1] at ht
  obtain ⟨u, hu, rfl⟩ := List.mem_map.mp ht
  exact enc_ok (R.1.terms u hu)
theorem sp_meanUpper {aC aL aT : Addr} {m : M} {ls : List Int} (hC : PairsAt K H aC m.cs) (hL : SqL K H aL (iv ls)) (hT : TermsAt K H aT m.ts) (R : MRel m (some d)) (hl : ls.length = m.cs.length) : SpV (spMeanUpper K) [.ref aC, .ref aL, .ref aT] H (.int (upper (partsOf m.cs ls) m.ts)) := fun H1 e Q q E =>
  ⟨aC, aL, aT, m.cs, ls, m.ts, rfl, hC.ex e, R.1.good, by have := R.1.n10; omega, ex_l e hL, hl, hT.ex e, R.tOk, by have := terms_len R; have := R.1.nt; omega, fun H2 e2 => q H2 e2⟩
theorem ok_meanIf {fU : Addr} {fdU : FuncData} (F : Fun K "mean_upper_if" "Coins.mean_upper_if" sMeanIf f fd) (T : Txt K mg C) (B : Bl mg)
    (GU : FnOk P w K mg base CX0 4 fU fdU ["chances", "laid", "terms"] (spMeanUpper K)) (bU : Binds K fdU ["chances", "laid", "terms"] []) (kU : PySem.W.keepIn K (.ref fU) = true) (mU : mg "mean_upper" = some (.ref fU)) :
    FnOk P w K mg base CX0 5 f fd ["self", "i", "v"] (spMeanIf K C) := by
  refine F.ok scMeanIf (fun vs H Q E h => ?_) (fun cdv A outer s H vs Q E hr h => ?_)
  · obtain ⟨G, F, a, m, d, j, b, rfl, _⟩ := h
    rfl
  · obtain ⟨G, F, a, m, d, j, b, rfl, R, ⟨dx, lc, ll, lt, rs, us, A⟩, hj, k⟩ := h
    refine ⟨_, pss_cons (ps_set (i := 3) scMeanIf.nd rfl (Or.inl rfl) (pe_callTy call_list_of (by rfl) B.list (by decide +kernel) (pa_cons (pe_fld (pv 0) rfl) pa_nil)))
      (pss_cons (ps_asg (pv 2) (pg_sub (pv 3) (pv 1) set_list))
      (pss_one (ps_ret (pe_call GU hr rfl mU kU bU .nil pass0 (pa_cons (pe_fld (pv 0) rfl) (pa_cons (pv 3) (pa_cons (pe_fld (pv 0) rfl) pa_nil))))))), ?_⟩
    have hg := laid_get R hj
    refine q_asgL (el_list (K := K) (ev_fld (ev_var rfl) A.ha T.cl T.nL fl_laid) (sq_of A.hl)) fun p H1 hp e1 h1 => ?_
    refine q_setL h1 (ev_var rfl) (ev_var rfl) (ev_var rfl) (by rw [iv_len]; exact (List.getElem?_eq_some_iff.mp hg).1) fun H2 e2 => ?_
    rw [iv_set]
    have e3 : Ex H (upd H2 p (.lst (iv (m.ls.set j (Sr58.bit b))))) := Ex.mut (e1.trans e2) hp
    have A3 := A.ex e3
    refine s_ret (ev_call (ea_cons (ev_fld (ev_var rfl) A3.ha T.cl T.nC fl_chances) (ea_cons (ev_var rfl) (ea_cons (ev_fld (ev_var rfl) A3.ha T.cl T.nT fl_terms) ea_nil))) (sp_meanUpper (m := m) (ls := m.ls.set j (Sr58.bit b)) ⟨rs, sq_of A3.hc, A3.pc⟩ (sq_of upd_same) ⟨us, sq_of A3.ht, A3.pt.terms A3.gh⟩ R (by rw [List.length_set]; exact R.len))) fun H4 e4 => ?_
    have q := k.go (e3.trans e4)
    have e : meanUp m.cs (Sr58.lay d j (some b)) = upper (partsOf m.cs (m.ls.set j (Sr58.bit b))) m.ts := by
      unfold meanUp
      rw [laidTold_lay, R.2.1, R.2.2.1]
      rfl
    rw [e] at q
    exact q
/-! ### is_better -/
abbrev sBetter : Stmt := inClass cls 15
theorem scBetter : FnScope ["self", "one", "other"] ["self", "one", "other"] (defScope sBetter) := ⟨rfl, rfl, rfl, by decide +kernel, rfl, by decide +kernel, by decide +kernel⟩
def betterI (mu x y : Int) : Bool := if mu = 1 then decide (y < x) else decide (x < y)
def spBetter (K : PySem.W.Frag) (C : Addr) : Sp := fun vs H Q _ => ∃ (G F : Hp) (a : Addr) (m : M) (x y : Int), vs = [.ref a, .int x, .int y] ∧ MAt K C G F H a m ∧ RetV (.bl (betterI m.mu x y)) H Q
theorem sp_better {m : M} {x y : Int} (A : MAt K C G F H a m) : SpV (spBetter K C) [.ref a, .int x, .int y] H (.bl (betterI m.mu x y)) := fun H1 e Q q E => ⟨G, F, a, m, x, y, rfl, A.ex e, fun H2 e2 => q H2 e2⟩
theorem ok_better (F : Fun K "is_better" "Coins.is_better" sBetter f fd) (T : Txt K mg C) : FnOk P w K mg base CX0 1 f fd ["self", "one", "other"] (spBetter K C) := by
  refine F.ok scBetter (fun vs H Q E h => ?_) (fun cdv A outer s H vs Q E hr h => ?_)
  · obtain ⟨G, F, a, m, x, y, rfl, _⟩ := h
    rfl
  · obtain ⟨G, F, a, m, x, y, rfl, ⟨dx, lc, ll, lt, rs, us, A⟩, k⟩ := h
    refine ⟨_, pss_one (ps_ret (pe_ifExp (pt_cmpR op_eq (pe_fld (pv 0) rfl) pe_int (nomark _)) (pe_cmpR op_gt (pv 1) (pv 2) (nomark _)) (pe_cmpR op_lt (pv 1) (pv 2) (nomark _)))), ?_⟩
    refine s_ret (ev_if (v := .bl (betterI m.mu x y)) (et_test (ev_op (ev_fld (ev_var rfl) A.ha T.cl T.nM fl_much) ev_c (rv_eq rfl))) (fun hq => ?_) (fun hq => ?_)) fun H1 e1 => k.go e1
    · refine ev_is (ev_op (ev_var rfl) (ev_var rfl) rv_I0) ?_
      unfold betterI
      rw [if_pos (int_eqT hq)]
    · refine ev_is (ev_op (ev_var rfl) (ev_var rfl) rv_I0) ?_
      unfold betterI
      rw [if_neg (int_neF hq)]
/-! ### lay_well -/
abbrev sWell : Stmt := inClass cls 16
theorem scWell : FnScope ["self", "i", "as_zero", "as_one"] ["self", "i"] (defScope sWell) := ⟨rfl, rfl, rfl, by decide +kernel, rfl, by decide +kernel, by decide +kernel⟩
def spWell (K : PySem.W.Frag) (C : Addr) : Sp := fun vs H Q _ => ∃ (G F : Hp) (a : Addr) (d : Sr58.Desk) (j : Nat), vs = [.ref a, .int (j : Int)] ∧ At K C G F H a (some d) ∧ j < Sr58.coins d ∧ ∀ H', At K C G F H' a (some (Sr58.lay d j (some (Sr58.better d j)))) → Q .non H'
theorem better_is {m : M} (R : MRel m (some d)) (j : Nat) : betterI m.mu (meanUp m.cs (Sr58.lay d j (some true))) (meanUp m.cs (Sr58.lay d j (some false))) = Sr58.better d j := by
  rw [R.1.better j, R.2.2.2]
  unfold betterI
  cases d.much with
  | true => rfl
  | false => rfl
theorem ok_well {fM fB : Addr} {fdM fdB : FuncData} (F : Fun K "lay_well" "Coins.lay_well" sWell f fd) (T : Txt K mg C)
    (GM : FnOk P w K mg base CX0 5 fM fdM ["self", "i", "v"] (spMeanIf K C)) (bM : Binds K fdM ["self", "i", "v"] []) (mM : Meth K C "mean_upper_if" fM)
    (GB : FnOk P w K mg base CX0 1 fB fdB ["self", "one", "other"] (spBetter K C)) (bB : Binds K fdB ["self", "one", "other"] []) (mB : Meth K C "is_better" fB) :
    FnOk P w K mg base CX0 6 f fd ["self", "i"] (spWell K C) := by
  refine F.ok scWell (fun vs H Q E h => ?_) (fun cdv A outer s H vs Q E hr h => ?_)
  · obtain ⟨G, F, a, d, j, rfl, _⟩ := h
    rfl
  · obtain ⟨G, F, a, d, j, rfl, ⟨m, R, hM⟩, hj, k⟩ := h
    obtain ⟨dx, lc, ll, lt, rs, us, A⟩ := id hM
    have hr1 : Room 1 _ := hr.mono (by decide)
    refine ⟨_, pss_cons (ps_set (i := 2) scWell.nd rfl (Or.inl rfl) (pe_meth (pv 0) T.cl mM GM hr bM .nil pass0 (pa_cons (pv 1) (pa_cons pe_int pa_nil))))
      (pss_cons (ps_set (i := 3) scWell.nd rfl (Or.inl rfl) (pe_meth (pv 0) T.cl mM GM hr bM .nil pass0 (pa_cons (pv 1) (pa_cons pe_int pa_nil))))
      (pss_one (ps_asg (pe_ifExp (pt_val (pe_meth (pv 0) T.cl mB GB hr1 bB .nil pass0 (pa_cons (pv 3) (pa_cons (pv 2) pa_nil)))) pe_int pe_int) (pg_sub (pe_fld (pv 0) rfl) (pv 1) set_list)))), ?_⟩
    refine q_asg (ev_meth (ev_var rfl) A.ha (fl_no (by decide +kernel)) (ea_cons (ev_var rfl) (ea_cons ev_c ea_nil)) (sp_meanIf (b := false) R hM hj)) fun H1 e1 => ?_
    have A1 := A.ex e1
    refine q_asg (ev_meth (ev_var rfl) A1.ha (fl_no (by decide +kernel)) (ea_cons (ev_var rfl) (ea_cons ev_c ea_nil)) (sp_meanIf (b := true) R (hM.ex e1) hj)) fun H2 e2 => ?_
    have A2 := A1.ex e2
    have hg := laid_get R hj
    refine s_setL (v := .int (Sr58.bit (Sr58.better d j))) A2.hl (ev_if (et_B (ev_meth (ev_var rfl) A2.ha (fl_no (by decide +kernel)) (ea_cons (ev_var rfl) (ea_cons (ev_var rfl) ea_nil)) (sp_better (hM.ex (e1.trans e2))))) (fun hz => ?_) (fun hz => ?_)) (ev_fld (ev_var rfl) A2.ha T.cl T.nL fl_laid) (ev_var rfl) (by rw [iv_len]; exact (List.getElem?_eq_some_iff.mp hg).1) fun H3 e3 => ?_
    · rw [better_is R] at hz
      rw [hz]
      exact ev_c
    · rw [better_is R] at hz
      rw [hz]
      exact ev_c
    · rw [iv_set]
      have A3 := (A2.ex e3).setL (m.ls.set j (Sr58.bit (Sr58.better d j)))
      exact k _ ⟨_, R.lay j (some (Sr58.better d j)), _, _, _, _, _, _, A3⟩
/-! ### choose -/
abbrev sChoose : Stmt := inClass cls 17
theorem scChoose : FnScope ["self", "i", "refusal"] ["self", "i"] (defScope sChoose) := ⟨rfl, rfl, rfl, by decide +kernel, rfl, by decide +kernel, by decide +kernel⟩
def spChoose (K : PySem.W.Frag) (C : Addr) : Sp := fun vs H Q _ => ∃ (G F : Hp) (a : Addr) (d : Sr58.Desk) (i : Int), vs = [.ref a, .int i] ∧ At K C G F H a (some d) ∧ ∀ H', At K C G F H' a (some (nxt d (.choose i))) → Q (.int (Sr58.doing d (.choose i)).2.num) H'
theorem choose_none {j : Nat} (h : Sr58.laidAt d j = none) : Sr58.choose d j = Sr58.lay d j (some (Sr58.better d j)) := by
  unfold Sr58.choose
  rw [h]
theorem choose_zero {j : Nat} (h : refusal d (j : Int) 0 = 0) : Sr58.doing d (.choose (j : Int)) = (some (Sr58.lay d j (some (Sr58.better d j))), Sr58.say (Sr58.bit (Sr58.better d j))) := by
  obtain ⟨j', e, hj, hv, hl, hc⟩ := ref_zero h
  have : j' = j := by omega
  subst this
  show (if Sr58.isCoin d (j' : Int) = false then _ else if (Sr58.laidAt d j').isSome = true then _ else (some (Sr58.choose d j'), _)) = _
  rw [if_neg (by rw [hc]; decide), if_neg (by rw [hl]; decide), choose_none hl]
  rfl
/-- what is refused without a v -/
theorem ref_cases {i : Int} (h : ¬ refusal d i 0 = 0) : (Sr58.isCoin d i = false ∧ refusal d i 0 = -2) ∨ (¬ Sr58.isCoin d i = false ∧ (Sr58.laidAt d i.toNat).isSome = true ∧ refusal d i 0 = -17) := by
  unfold refusal at h ⊢
  by_cases c1 : Sr58.isCoin d i = false
  · rw [if_pos c1]
    exact .inl ⟨c1, rfl⟩
  · rw [if_neg c1] at h ⊢
    rw [if_neg (by omega)] at h ⊢
    by_cases c3 : (Sr58.laidAt d i.toNat).isSome = true
    · rw [if_pos c3]
      exact .inr ⟨c1, c3, rfl⟩
    · rw [if_neg c3] at h
      exact absurd rfl h
theorem choose_some {i : Int} (h : ¬ refusal d i 0 = 0) : Sr58.doing d (.choose i) = (none, Sr58.say (refusal d i 0)) := by
  show (if Sr58.isCoin d i = false then _ else if (Sr58.laidAt d i.toNat).isSome = true then _ else _) = _
  rcases ref_cases h with ⟨c1, e⟩ | ⟨c1, c3, e⟩
  · rw [if_pos c1, e]
  · rw [if_neg c1, if_pos c3, e]
theorem ok_choose {fR fW : Addr} {fdR fdW : FuncData} {dz : List Value} (F : Fun K "choose" "Coins.choose" sChoose f fd) (T : Txt K mg C)
    (GR : FnOk P w K mg base CX0 2 fR fdR ["self", "i", "v"] (spRef K C)) (bR : Binds K fdR ["self", "i", "v"] dz) (vR : Vals [.int 0] dz) (mR : Meth K C "refusal_to_lay" fR)
    (GW : FnOk P w K mg base CX0 6 fW fdW ["self", "i"] (spWell K C)) (bW : Binds K fdW ["self", "i"] []) (mW : Meth K C "lay_well" fW) : FnOk P w K mg base CX0 7 f fd ["self", "i"] (spChoose K C) := by
  refine F.ok scChoose (fun vs H Q E h => ?_) (fun cdv A outer s H vs Q E hr h => ?_)
  · obtain ⟨G, F, a, d, i, rfl, _⟩ := h
    rfl
  · obtain ⟨G, F, a, d, i, rfl, hAt, k⟩ := h
    obtain ⟨m, R, dx, lc, ll, lt, rs, us, A⟩ := id hAt
    have hr2 : Room 2 _ := hr.mono (by decide)
    refine ⟨_, pss_cons (ps_set (i := 2) scChoose.nd rfl (Or.inl rfl) (pe_meth (pv 0) T.cl mR GR hr2 bR vR pass0 (pa_cons (pv 1) pa_nil)))
      (pss_cons (ps_if (pt_cmpR op_ne (pv 2) pe_int (nomark _)) (pss_one (ps_ret (pv 2))) pss_nil)
      (pss_cons (ps_expr (pe_meth (pv 0) T.cl mW GW hr bW .nil pass0 (pa_cons (pv 1) pa_nil)))
      (pss_one (ps_ret (pe_ix ix_list (pe_fld (pv 0) rfl) (pv 1) (fun _ _ => rfl)))))), ?_⟩
    refine q_asg (ev_meth (ev_var rfl) A.ha (fl_no (by decide +kernel)) (ea_cons (ev_var rfl) ea_nil) (sp_ref (v := 0) hAt)) fun H1 e1 => ?_
    refine q_when (et_test (ev_op (ev_var rfl) ev_c (rv_ne rfl))) (fun hb H2 e2 => ?_) (fun hb H2 e2 => ?_)
    · have h0 := int_ne hb
      exact s_ret (ev_var rfl) fun H3 e3 => same_ans k (choose_some h0) (hAt.ex ((e1.trans e2).trans e3))
    · have h0 := int_eq hb
      obtain ⟨j, rfl, hj, v01, hl, _⟩ := ref_zero h0
      have A2 := A.ex (e1.trans e2)
      refine ⟨_, rfl, a, dx, _, rfl, A2.ha, fl_no (by decide +kernel), _, rfl, G, F, a, d, j, rfl, hAt.ex (e1.trans e2), hj, fun H3 A3 => ?_⟩
      obtain ⟨m3, R3, dx3, lc3, ll3, lt3, rs3, us3, B⟩ := id A3
      have hg := laid_get R3 (j := j) hj
      have el : Sr58.laidAt (Sr58.lay d j (some (Sr58.better d j))) j = some (Sr58.better d j) := by
        have hl : j < d.laid.length := by
          rw [R.1.len, ← R.1.coins]
          exact hj
        unfold Sr58.laidAt Sr58.lay
        rw [List.getD_eq_getElem?_getD]
        show (d.laid.set j _)[j]?.getD none = _
        rw [List.getElem?_set, if_pos rfl, if_pos hl]
        rfl
      rw [el] at hg
      have hat : atI (iv m3.ls) (j : Int) = some (.int (Sr58.bit (Sr58.better d j))) := at_of rfl (iv_getI hg)
      exact s_ret (ev_op (ev_fld (ev_var rfl) B.ha T.cl T.nL fl_laid) (ev_var rfl) (rv_ixL (K := K) (sq_of B.hl) hat)) fun H4 e4 => new_ans k (choose_zero h0) (A3.ex e4)
end
end Co
end
section
set_option maxRecDepth 100000
set_option maxHeartbeats 4000000
set_option linter.unusedVariables false
namespace Co
open PySem PySem.Spec PyProof.Rows L2 Evl Gn Mn Dk
/-! ### the frame grows; what is the caller's own is stored -/
section
variable {K : PySem.W.Frag} {C : Addr} {G F H H1 : Hp} {a p : Addr} {st : Sr58.State} {o o' : HO}
theorem ex_upd_fresh {A B : Hp} (e : Ex A B) (h : B p = none) (o : HO) : Ex A (upd B p o) := fun b u hb => by
  have ne : b ≠ p := fun q => by
    have := e b u hb
    rw [q, h] at this
    cases this
  rw [upd_ne ne]
  exact e b u hb
theorem ex_upd_both {A B : Hp} (e : Ex A B) (o : HO) : Ex (upd A p o) (upd B p o) := fun b u hb => by
  by_cases q : b = p
  · subst q
    rw [upd_same] at hb ⊢
    exact hb
  · rw [upd_ne q] at hb ⊢
    exact e b u hb
/-- a new thing, the caller's own to change -/
theorem At.growF (A : At K C G F H a st) (e : Ex H H1) (hp : H p = none) (h1 : H1 p = some o) : At K C G (upd F p o) H1 a st := by
  obtain ⟨m, R, dx, lc, ll, lt, rs, us, A⟩ := A
  have A1 := A.ex e
  have fp : F p = none := fresh_back A.fh hp
  have ne : ∀ {q u}, H q = some u → q ≠ p := fun h q => by
    rw [q, hp] at h
    cases h
  refine ⟨m, R, dx, lc, ll, lt, rs, us, ex_upd_fresh A.gf fp o, fun b u hb => ?_, by rw [upd_ne (ne A.ha)]; exact A.fa, by rw [upd_ne (ne A.hc)]; exact A.fc, by rw [upd_ne (ne A.hl)]; exact A.fl, by rw [upd_ne (ne A.ht)]; exact A.ft, A.ncl, A.nct, A.nlt, A1.ha, A1.hc, A1.pc, A1.hl, A1.ht, A1.pt⟩
  by_cases q : b = p
  · subst q
    rw [upd_same] at hb
    rw [h1]
    exact hb
  · rw [upd_ne q] at hb
    exact A1.fh b u hb
/-- a new thing that is read alone from now on -/
theorem At.growG (A : At K C G F H a st) (e : Ex H H1) (hp : H p = none) (h1 : H1 p = some o) : At K C (upd G p o) (upd F p o) H1 a st := by
  obtain ⟨m, R, dx, lc, ll, lt, rs, us, B⟩ := A.growF e hp h1
  obtain ⟨_, _, _, _, _, _, _, _, A0⟩ := A
  have gp : G p = none := fresh_back A0.gh hp
  exact ⟨m, R, dx, lc, ll, lt, rs, us, ex_upd_both A0.gf o, B.fh, B.fa, B.fc, B.fl, B.ft, B.ncl, B.nct, B.nlt, B.ha, B.hc, B.pc, B.hl, B.ht, B.pt.exG (ex_upd_fresh (Ex.refl G) gp o)⟩
/-- the caller's own list is stored -/
theorem At.store {xs ys : List V} (A : At K C G F H a st) (hF : F p = some (.lst xs)) (hG : G p = none) : At K C G (upd F p (.lst ys)) (upd H p (.lst ys)) a st := by
  obtain ⟨m, R, dx, lc, ll, lt, rs, us, A⟩ := A
  have ne : ∀ {q}, F q = none → q ≠ p := fun h q => by
    rw [q, hF] at h
    cases h
  have hH := A.fh _ _ hF
  exact ⟨m, R, dx, lc, ll, lt, rs, us, fun b u hb => by
      have nb : b ≠ p := fun q => by
        rw [q, hG] at hb
        cases hb
      rw [upd_ne nb]
      exact A.gf b u hb, ex_upd_both A.fh _, by rw [upd_ne (ne A.fa)]; exact A.fa, by rw [upd_ne (ne A.fc)]; exact A.fc, by rw [upd_ne (ne A.fl)]; exact A.fl, by rw [upd_ne (ne A.ft)]; exact A.ft, A.ncl, A.nct, A.nlt, by rw [upd_ne (ne A.fa)]; exact A.ha, by rw [upd_ne (ne A.fc)]; exact A.hc, A.pc.upd (notTup_lst hH), by rw [upd_ne (ne A.fl)]; exact A.hl, by rw [upd_ne (ne A.ft)]; exact A.ht, A.pt.upd (notTup_lst hH)⟩
theorem At.fh (A : At K C G F H a st) : Ex F H := by
  obtain ⟨m, R, dx, lc, ll, lt, rs, us, A⟩ := A
  exact A.fh
theorem At.gh (A : At K C G F H a st) : Ex G H := by
  obtain ⟨m, R, dx, lc, ll, lt, rs, us, A⟩ := A
  exact A.gh
theorem At.rel (A : At K C G F H a st) : ∀ d, st = some d → ∃ cs, Rel cs d := by
  obtain ⟨m, R, _⟩ := A
  rintro d rfl
  exact ⟨m.cs, R.1⟩
end
theorem cut_mid (ns : List Int) {i j : Nat} (h1 : i ≤ j) (h2 : j ≤ ns.length) : cutV (iv ns) (some (i : Int)) (some (j : Int)) = iv ((ns.drop i).take (j - i)) := by
  unfold cutV
  rw [HT.sIx_nat, HT.sIx_nat, iv_len, Nat.min_eq_left h2, Nat.min_eq_left (Nat.le_trans h1 h2)]
  unfold iv
  rw [← List.map_drop, ← List.map_take]
/-! ### answers -/
def spAnswer (K : PySem.W.Frag) (C : Addr) : Sp := fun vs H Q _ => ∃ (G F : Hp) (a : Addr) (st : Sr58.State) (j : Nat) (xs row : List Int) (pn pr : Addr) (x : Sr58.Call), vs = [.ref a, .int (j : Int), .ref pn, .ref pr] ∧ At K C G F H a st ∧ SqL K G pn (iv xs) ∧ G pr = some (.lst (iv row)) ∧ row.length ≤ 70 ∧ Pz.callOf j xs row = some x ∧
  ∀ H' p, At K C G F H' a (Sr58.step st x).1 → F p = none → H' p = some (.lst (iv (Pz.ans st x))) → Q (.ref p) H'
def spAnswers (K : PySem.W.Frag) : Sp := fun vs H Q _ => ∃ (a : Addr) (ns : List Int), vs = [.ref a] ∧ SqL K H a (iv ns) ∧ PySr58.answers_asked ns = true ∧ ns.length ≤ 4500 ∧ ∀ H' p, H' p = some (.lst (iv (PySr58.answers ns))) → Q (.ref p) H'
/-- what is left of the calls: they are told from here on, no row is longer than 70 -/
structure Rest (ns : List Int) (at_ : Nat) (st : Sr58.State) (out : List Int) (rest : List (List (List Int))) : Prop where
  le : at_ ≤ ns.length
  cs : ∃ f, PyFlat.calls PySr58.shape f (ns.drop at_) = some rest
  eq : PySr58.answers ns = out ++ PyFlat.told (PyFlat.played Sr58Neutral.step st (rest.map PySr58.whole))
  inn : PyInside.calls PySr58.bound rest = true
  few : rest.length ≤ 60
  short : out.length + rest.length * 1001 ≤ 60 * 1001
theorem rest_start {ns : List Int} (h : PySr58.answers_asked ns = true) : ∃ rest, Rest ns 0 Sr58Neutral.start [] rest := by
  unfold PySr58.answers_asked at h
  cases e : PyFlat.calls PySr58.shape ns.length ns with
  | none =>
    rw [e] at h
    cases h
  | some raw =>
    rw [e] at h
    simp only [Bool.and_eq_true] at h
    obtain ⟨⟨⟨⟨h1, h2⟩, h3⟩, h4⟩, h5⟩ := h
    have h2 : raw.length ≤ 60 := of_decide_eq_true h2
    refine ⟨raw, Nat.zero_le _, ⟨ns.length, e⟩, ?_, h3, h2, ?_⟩
    · unfold PySr58.answers PySr58.calls
      rw [e]
      rfl
    · show 0 + raw.length * 1001 ≤ 60 * 1001
      omega
theorem bound_row {j : Nat} {xs row : List Int} (hj : j < 18) (hr : Pz.ROW.getD j 0 = 1) (h : PyInside.call PySr58.bound (((j : Int) :: xs) :: [row]) = true) : row.length ≤ 70 := by
  have key : ∀ b, PySr58.bound (j : Int) = (b, [(-2147483648, 2147483647, 0, 70)]) → row.length ≤ 70 := by
    intro b e
    unfold PyInside.call at h
    simp only [e, Bool.and_eq_true] at h
    have h2 := h.2
    unfold PyInside.lists at h2
    simp only [Bool.and_eq_true, decide_eq_true_iff] at h2
    exact h2.1.1.2
  match j with
  | 0 => cases hr
  | 1 => cases hr
  | 2 => exact key _ rfl
  | 3 => exact key _ rfl
  | 4 => cases hr
  | 5 => cases hr
  | 6 => cases hr
  | 7 => cases hr
  | 8 => cases hr
  | 9 => exact key _ rfl
  | 10 => cases hr
  | 11 => cases hr
  | 12 => cases hr
  | 13 => cases hr
  | 14 => cases hr
  | 15 => cases hr
  | 16 => cases hr
  | 17 => cases hr
  | j + 18 => omega
/-- one call taken -/
theorem rest_step {ns : List Int} {at_ : Nat} {st : Sr58.State} {out : List Int} {rest : List (List (List Int))} (R : Rest ns at_ st out rest) (hlt : at_ < ns.length) (hst : ∀ d, st = some d → ∃ cs, Rel cs d) :
    ∃ (j : Nat) (x : Sr58.Call) (row : List Int) (nx : Nat) (rest' : List (List (List Int))), j < 18 ∧ ns[at_]? = some (j : Int) ∧ at_ + 1 + Pz.NUM.getD j 0 ≤ ns.length ∧ row.length ≤ 70 ∧ Pz.callOf j ((ns.drop (at_ + 1)).take (Pz.NUM.getD j 0)) row = some x ∧
      ((Pz.ROW.getD j 0 = 0 ∧ row = [] ∧ nx = at_ + 1 + Pz.NUM.getD j 0) ∨ (Pz.ROW.getD j 0 = 1 ∧ ∃ k : Nat, ns[at_ + 1 + Pz.NUM.getD j 0]? = some (k : Int) ∧ nx = at_ + 1 + Pz.NUM.getD j 0 + 1 + k ∧ nx ≤ ns.length ∧ row = (ns.drop (at_ + 1 + Pz.NUM.getD j 0 + 1)).take k)) ∧
      Rest ns nx (Sr58.step st x).1 (out ++ (((Pz.ans st x).length : Int) :: Pz.ans st x)) rest' := by
  obtain ⟨f, hf⟩ := R.cs
  have hd : ns.drop at_ = ns[at_] :: ns.drop (at_ + 1) := List.drop_eq_getElem_cons hlt
  rw [hd] at hf
  cases f with
  | zero =>
    unfold PyFlat.calls at hf
    cases hf
  | succ f =>
    obtain ⟨n, k, cs', hs, hn, xs, t, hrows, rfl, hcs⟩ := Pz.calls_step hf
    obtain ⟨j, hj, ep, en, ek⟩ := Pz.shape_some hs
    have g0 : ns[at_]? = some (j : Int) := by
      rw [List.getElem?_eq_getElem hlt, ep]
    rw [List.length_drop] at hn
    have dd : (ns.drop (at_ + 1)).drop n = ns.drop (at_ + 1 + n) := by rw [List.drop_drop]
    rw [dd] at hrows
    have hx : ((ns.drop (at_ + 1)).take n).length = Pz.NUM.getD j 0 := by
      rw [List.length_take, List.length_drop, ← en]
      omega
    have inn := R.inn
    unfold PyInside.calls at inn
    rw [List.all_cons, Bool.and_eq_true] at inn
    have few : cs'.length + 1 ≤ 60 := R.few
    have short : out.length + (cs'.length + 1) * 1001 ≤ 60 * 1001 := R.short
    have fin : ∀ (x : Sr58.Call) (nx : Nat), nx ≤ ns.length → ns.drop nx = t → Sr58Neutral.callOf (PySr58.whole ((ns[at_] :: (ns.drop (at_ + 1)).take n) :: xs)) = some x → Rest ns nx (Sr58.step st x).1 (out ++ (((Pz.ans st x).length : Int) :: Pz.ans st x)) cs' := by
      intro x nx h1 h2 h3
      refine ⟨h1, ⟨f, by rw [h2]; exact hcs⟩, ?_, inn.2, by omega, ?_⟩
      · have e := R.eq
        rw [List.map_cons] at e
        have e2 : PyFlat.told (PyFlat.played Sr58Neutral.step st (PySr58.whole ((ns[at_] :: (ns.drop (at_ + 1)).take n) :: xs) :: cs'.map PySr58.whole)) = (((Pz.ans st x).length : Int) :: Pz.ans st x) ++ PyFlat.told (PyFlat.played Sr58Neutral.step (Sr58.step st x).1 (cs'.map PySr58.whole)) := by
          have pe : ∀ c r, PyFlat.played Sr58Neutral.step st (c :: r) = (Sr58Neutral.step st c).2 :: PyFlat.played Sr58Neutral.step (Sr58Neutral.step st c).1 r := fun _ _ => rfl
          rw [pe, Pz.step_eq h3]
          unfold PyFlat.told
          rw [List.flatMap_cons]
        rw [e, e2, List.append_assoc]
      · have := Pz.ans_len hst x
        rw [List.length_append, List.length_cons]
        omega
    by_cases kz : k = 0
    · subst kz
      obtain ⟨rfl, ht⟩ := Pz.rows0 hrows
      obtain ⟨x, c1, c2⟩ := Pz.piece_call (j := j) (xs := (ns.drop (at_ + 1)).take n) (row := []) (rows := []) hj hx (.inl ⟨ek.symm, rfl⟩)
      rw [← ep] at c2
      refine ⟨j, x, [], at_ + 1 + n, cs', hj, g0, by omega, Nat.zero_le _, by rw [← en]; exact c1, .inl ⟨ek.symm, rfl, by rw [← en]⟩, fin x _ (by omega) ht.symm c2⟩
    · have k1 : k = 1 := by
        have : ∀ i : Nat, i < 18 → Pz.ROW.getD i 0 = 0 ∨ Pz.ROW.getD i 0 = 1 := by decide
        have := this j hj
        omega
      subst k1
      obtain ⟨mm, r2, hr2, hm, rfl, ht⟩ := Pz.rows1 hrows
      have hl2 : at_ + 1 + n < ns.length := by
        have := congrArg List.length hr2
        rw [List.length_drop, List.length_cons] at this
        omega
      have g1 : ns[at_ + 1 + n]? = some (mm : Int) := by
        have : (ns.drop (at_ + 1 + n))[0]? = some (mm : Int) := by rw [hr2]; rfl
        rw [List.getElem?_drop, Nat.add_zero] at this
        exact this
      have er2 : r2 = ns.drop (at_ + 1 + n + 1) := by
        rw [← List.drop_drop, hr2]
        rfl
      have hm' : mm ≤ ns.length - (at_ + 1 + n + 1) := by
        rw [er2, List.length_drop] at hm
        exact hm
      obtain ⟨x, c1, c2⟩ := Pz.piece_call (j := j) (xs := (ns.drop (at_ + 1)).take n) (row := r2.take mm) (rows := [r2.take mm]) hj hx (.inr ⟨ek.symm, rfl⟩)
      rw [← ep] at c2
      have inn1 := inn.1
      rw [ep] at inn1
      refine ⟨j, x, r2.take mm, at_ + 1 + n + 1 + mm, cs', hj, g0, by omega, bound_row hj ek.symm inn1, by rw [← en]; exact c1, .inr ⟨ek.symm, mm, by rw [← en]; exact g1, by rw [← en], by omega, by rw [← en, ← er2]⟩, fin x _ (by omega) (by rw [ht, er2, List.drop_drop]) c2⟩
end Co
end
section
set_option maxRecDepth 100000
set_option maxHeartbeats 4000000
set_option linter.unusedVariables false
namespace Co
open PySem PySem.Spec PyProof.Rows L2 Evl Gn Mn Dk Bs
def ansD (d : Sr58.Desk) (c : Sr58.Call) : List Int := (Sr58.doing d c).2.num :: (Sr58.doing d c).2.nums
section
variable {K : PySem.W.Frag} {σ : L2.St} {H : Hp} {ta te : TE}
theorem el_meth {a C dx : Addr} {fs : List (Str × V)} {m : Str} {sp : Sp} {dvs vs xs : List V} {E : XK} {t : TA} (h : Ev ta σ H (.ref a)) (ha : H a = some (.ins C dx fs)) (hn : fs.lookup m = none) (ht : EvA t σ H vs) (hs : SpL sp (.ref a :: (vs ++ dvs)) H xs) : EvL (tMeth C m sp dvs E ta t) σ H xs := fun H1 e Q q =>
  h H1 e _ fun H2 e2 => ⟨a, dx, fs, rfl, e2 _ _ (e _ _ ha), hn, ht H2 (e.trans e2) _ fun H3 e3 => hs H3 ((e.trans e2).trans e3) Q (fun p H4 hp e4 h4 => q p H4 (fresh_back (e2.trans e3) hp) ((e2.trans e3).trans e4) h4) E⟩
theorem ev_cnt {p : Addr} {ns : List Int} {k : Int} (ha : Ev ta σ H (.ref p)) (hp : SqL K H p (iv ns)) (hk : Ev te σ H (.int k)) : Ev (tBM K "list" (rCntI K) ta (tCons te tNil)) σ H (.int ((ns.count k : Nat) : Int)) := fun H1 e Q q =>
  ha H1 e _ fun H2 e2 => ⟨Or.inl ⟨rfl, _, ex_l (e.trans e2) hp⟩, hk H2 (e.trans e2) _ fun H3 e3 => ⟨p, ns, k, rfl, rfl, ex_l ((e.trans e2).trans e3) hp, q H3 (e2.trans e3)⟩⟩
def rAbs : List V → Hp → VK → Prop := fun xs H Q => ∃ i, xs = [.int i] ∧ Q (.int (if i < 0 then -i else i)) H
theorem ev_abs {i : Int} (ha : Ev ta σ H (.int i)) : Ev (tCB rAbs (tCons ta tNil)) σ H (.int ((i.natAbs : Nat) : Int)) := fun H1 e Q q =>
  ha H1 e _ fun H2 e2 => ⟨i, rfl, by
    have : (if i < 0 then -i else i) = ((i.natAbs : Nat) : Int) := by
      split <;> omega
    rw [this]
    exact q H2 e2⟩
end
section
variable {P : Program} {w : World} {K : PySem.W.Frag} {mg : Str → Option Value} {base : Heap} {f C : Addr} {fd : FuncData} {G F H H' : Hp} {a : Addr} {d d' : Sr58.Desk} {c : Sr58.Call} {z : Int} {Q : VK}
/-! ### run -/
def Done (K : PySem.W.Frag) (C : Addr) (G F : Hp) (a : Addr) (d : Sr58.Desk) (c : Sr58.Call) (Q : VK) : Prop := ∀ H' p, At K C G F H' a (some (nxt d c)) → F p = none → H' p = some (.lst (iv (ansD d c))) → Q (.ref p) H'
abbrev sRun : Stmt := inClass cls 18
theorem scRun : FnScope ["self", "row", "i"] ["self", "row"] (defScope sRun) := ⟨rfl, rfl, rfl, by decide +kernel, rfl, by decide +kernel, by decide +kernel⟩
def spRun (K : PySem.W.Frag) (C : Addr) : Sp := fun vs H Q _ => ∃ (G F : Hp) (a : Addr) (d : Sr58.Desk) (q : Addr) (ns : List Int), vs = [.ref a, .ref q] ∧ At K C G F H a (some d) ∧ G q = some (.lst (iv ns)) ∧ ns.length ≤ 70 ∧ Done K C G F a d (.run ns) Q
theorem choose_coins (d : Sr58.Desk) (j : Nat) : Sr58.coins (Sr58.choose d j) = Sr58.coins d := by
  unfold Sr58.choose
  split <;> rfl
theorem run_coins : ∀ (o : List Nat) (d : Sr58.Desk), Sr58.coins (Sr58.run d o) = Sr58.coins d
  | [], _ => rfl
  | j :: o, d => by
    show Sr58.coins (Sr58.run (Sr58.choose d j) o) = _
    rw [run_coins o, choose_coins]
theorem run_more (d : Sr58.Desk) (o : List Nat) (j : Nat) : Sr58.run d (o ++ [j]) = Sr58.choose (Sr58.run d o) j := by
  unfold Sr58.run
  rw [List.foldl_append]
  rfl
theorem ok_run {fI fW : Addr} {fdI fdW : FuncData} (F : Fun K "run" "Coins.run" sRun f fd) (T : Txt K mg C) (B : Bl mg) (g1 : GI mg "WRONG" (-22)) (g2 : GI mg "MOST_TOLD" 20) (g4 : GI mg "THROWN" (-1))
    (GI' : FnOk P w K mg base CX0 1 fI fdI ["row", "end"] (spWithin K)) (bI : Binds K fdI ["row", "end"] []) (kI : PySem.W.keepIn K (.ref fI) = true) (mI : mg "within" = some (.ref fI))
    (GW : FnOk P w K mg base CX0 6 fW fdW ["self", "i"] (spWell K C)) (bW : Binds K fdW ["self", "i"] []) (mW : Meth K C "lay_well" fW) : FnOk P w K mg base CX0 7 f fd ["self", "row"] (spRun K C) := by
  refine F.ok scRun (fun vs H Q E h => ?_) (fun cdv A outer s H vs Q E hr h => ?_)
  · obtain ⟨G, F, a, d, q, ns, rfl, _⟩ := h
    rfl
  · obtain ⟨G, F, a, d, q, ns, rfl, hAt, hq, hlen, k⟩ := h
    obtain ⟨m, R, dx, lc, ll, lt, rs, us, A⟩ := id hAt
    have hr1 : Room 1 _ := hr.mono (by decide)
    refine ⟨_, pss_cons (ps_if (PW.pt (pw_or (pt_cmpR op_gt (pe_callB call_len_seq (by rfl) B.len PySem.boot_len (pa_cons (pv 1) pa_nil)) (pe_gi rfl g2) (nomark _)) (pw_or1 (pt_not (pt_val (pe_call GI' hr1 rfl mI kI bI .nil pass0 (pa_cons (pv 1) (pa_cons (pe_callB call_len_seq (by rfl) B.len PySem.boot_len (pa_cons (pe_fld (pv 0) rfl) pa_nil)) pa_nil)))))))) (pss_one (ps_ret (pe_lst (pa_cons (pe_gi rfl g1) pa_nil)))) pss_nil)
      (pss_cons (ps_for PassesOwn.never rfl (pi_list (pv 1)) (pg_name (i := 2) scRun.nd rfl (Or.inl rfl))
        (pss_one (ps_if (pt_cmpR op_eq (pe_ix ix_list (pe_fld (pv 0) rfl) (pv 2) (fun _ _ => rfl)) (pe_gi rfl g4) (nomark _)) (pss_one (ps_expr (pe_meth (pv 0) T.cl mW GW hr bW .nil pass0 (pa_cons (pv 2) pa_nil)))) pss_nil)))
      (pss_one (ps_ret (pe_op op_cat (pe_lst (pa_cons (pe_bm PySem.F.plainAttrs_list PySem.F.slot_list_count PySem.F.type_list_count mt_lcount (pe_fld (pv 0) rfl) (pa_cons (pe_gi rfl g4) pa_nil)) pa_nil)) (pe_fld (pv 0) rfl))))), ?_⟩
    have qH : SqL K H q (iv ns) := sq_of (A.gh _ _ hq)
    have NL := iv_len ns
    have LL : ((iv m.ls).length : Int) = (Sr58.coins d : Int) := by
      rw [iv_len, R.len, R.1.coins]
    refine q_when (et_or (et_test (ev_op (ev_len (K := K) (ev_var rfl) qH) ev_c rv_I0)) fun _ => et_not (et_B (ev_call (ea_cons (ev_var rfl) (ea_cons (ev_len (K := K) (ev_fld (ev_var rfl) A.ha T.cl T.nL fl_laid) (sq_of A.hl)) ea_nil)) (sp_within qH hlen)))) (fun hb H1 e1 => ?_) (fun hb H1 e1 => ?_)
    · have hb' : 20 < ns.length ∨ (ns.any (fun x => Sr58.isCoin d x = false)) = true := by
        rw [Bool.or_eq_true, decide_eq_true_iff, Bool.not_eq_true'] at hb
        rcases hb with h | hc
        · exact .inl (by omega)
        · right
          rw [LL] at hc
          rw [← Bool.not_eq_false]
          intro hn
          rw [← Bool.not_eq_true] at hc
          apply hc
          rw [within_iff]
          intro n hn'
          rw [List.any_eq_false] at hn
          have := hn n hn'
          rw [decide_eq_true_iff, Bool.not_eq_false, isCoin_iff] at this
          exact this
      have e : Sr58.doing d (.run ns) = (none, Sr58.say (-22)) := by
        show (if _ then _ else _) = _
        rw [if_pos hb']
      refine s_retL (el_lst (ea_cons ev_c ea_nil) (by show 1 ≤ 100000; decide)) fun p H2 hp e2 h2 => ?_
      have kq := k H2 p
      unfold nxt ansD at kq
      rw [e] at kq
      exact kq (hAt.ex (e1.trans e2)) (fresh_back (A.ex e1).fh hp) h2
    · rw [Bool.or_eq_false_iff, decide_eq_false_iff_not, Bool.not_eq_false', within_iff, LL] at hb
      obtain ⟨hb1, hb2⟩ := hb
      have nb' : ¬ (20 < ns.length ∨ (ns.any (fun x => Sr58.isCoin d x = false)) = true) := by
        rintro (h | h)
        · omega
        · rw [List.any_eq_true] at h
          obtain ⟨n, hn, h⟩ := h
          have := hb2 n hn
          rw [decide_eq_true_iff] at h
          have h2 := isCoin_iff.mpr this
          rw [h] at h2
          cases h2
      have e : Sr58.doing d (.run ns) = (some (Sr58.run d (ns.map fun x => x.toNat)), ⟨(((Sr58.run d (ns.map fun x => x.toNat)).laid.filter fun x => x.isNone).length : Nat), Sr58.laidTold (Sr58.run d (ns.map fun x => x.toNat))⟩) := by
        show (if _ then _ else _) = _
        rw [if_neg nb']
      refine q_forLn (K := K) (xs := iv ns) (ev_var rfl) (ex_l e1 qH) (fun i σ H' => ∃ u, σ = [some (.ref a), some (.ref q), u] ∧ At K C G F H' a (some (Sr58.run d ((ns.take i).map fun x => x.toNat)))) (fun H2 e2 => ⟨none, rfl, hAt.ex (e1.trans e2)⟩) (fun i σ H' _ ⟨_, _, A'⟩ => sq_of (A'.gh _ _ hq)) ?_ ?_
      · rintro i x σ H2 hi ⟨u, rfl, A2⟩
        obtain ⟨z, hz, rfl⟩ := iv_get hi
        have hzc := hb2 z (List.mem_of_getElem? hz)
        obtain ⟨j, rfl⟩ : ∃ j : Nat, z = (j : Int) := ⟨z.toNat, by omega⟩
        rw [take_one hz, List.map_append]
        show tIfS _ _ _ { nx := fun σ H' => ∃ u, σ = [some (.ref a), some (.ref q), u] ∧ At K C G F H' a (some (Sr58.run d ((ns.take i).map (fun x => x.toNat) ++ [j]))), rt := _, bk := _, ct := fun σ H' => ∃ u, σ = [some (.ref a), some (.ref q), u] ∧ At K C G F H' a (some (Sr58.run d ((ns.take i).map (fun x => x.toNat) ++ [j]))) } _ _
        rw [run_more]
        have hjc : j < Sr58.coins (Sr58.run d ((ns.take i).map fun x => x.toNat)) := by
          rw [run_coins]
          omega
        generalize Sr58.run d ((ns.take i).map fun x => x.toNat) = d2 at *
        obtain ⟨m2, R2, dx2, lc2, ll2, lt2, rs2, us2, B2⟩ := id A2
        have hg := laid_get R2 hjc
        have hat : atI (iv m2.ls) (j : Int) = some (.int (lt1 (Sr58.laidAt d2 j))) := at_of rfl (iv_getI hg)
        refine s_when (et_test (ev_op (ev_op (ev_fld (ev_var rfl) B2.ha T.cl T.nL fl_laid) (ev_var rfl) (rv_ixL (K := K) (sq_of B2.hl) hat)) ev_c (rv_eq rfl))) (fun hq3 H3 e3 => ?_) (fun hq3 H3 e3 => ?_)
        · have en := lt1_none.mp (int_eqT hq3)
          refine ⟨_, rfl, a, dx2, _, rfl, (B2.ex e3).ha, fl_no (by decide +kernel), _, rfl, G, F, a, d2, j, rfl, A2.ex e3, hjc, fun H4 A4 => ?_⟩
          rw [← choose_none en] at A4
          exact ⟨_, rfl, A4⟩
        · have nn := int_neF hq3
          have ec : Sr58.choose d2 j = d2 := by
            unfold Sr58.choose
            cases q : Sr58.laidAt d2 j with
            | none =>
              rw [q] at nn
              exact absurd rfl nn
            | some b => rfl
          rw [ec]
          exact ⟨_, rfl, A2.ex e3⟩
      · rintro σ H2 ⟨u, rfl, A2⟩
        rw [iv_len, List.take_length] at A2
        unfold Done nxt ansD at k
        rw [e] at k
        generalize Sr58.run d (ns.map fun x => x.toNat) = d2 at *
        obtain ⟨m2, R2, dx2, lc2, ll2, lt2, rs2, us2, B2⟩ := id A2
        have n10 := R2.1.n10
        have l2 := R2.len
        refine s_retL (el_catR (el_lst (ea_cons (ev_cnt (K := K) (ev_fld (ev_var rfl) B2.ha T.cl T.nL fl_laid) (sq_of B2.hl) ev_c) ea_nil) (by show 1 ≤ 100000; decide)) (ev_fld (ev_var rfl) B2.ha T.cl T.nL fl_laid) B2.hl (by rw [iv_len]; show 1 + _ ≤ _; omega)) fun p H3 hp e3 h3 => ?_
        refine k H3 p (A2.ex e3) (fresh_back B2.fh hp) ?_
        rw [h3, R2.2.1, count_none]
        rfl
/-! ### lift_all -/
abbrev sClear : Stmt := inClass cls 19
abbrev nClear : List Str := ["self", "were_laid", "i"]
theorem scClear : FnScope nClear ["self"] (defScope sClear) := ⟨rfl, rfl, rfl, by decide +kernel, rfl, by decide +kernel, by decide +kernel⟩
def spClear (K : PySem.W.Frag) (C : Addr) : Sp := fun vs H Q _ => ∃ (G F : Hp) (a : Addr) (d : Sr58.Desk), vs = [.ref a] ∧ At K C G F H a (some d) ∧ ∀ H', At K C G F H' a (some (nxt d .clear)) → Q (.int (Sr58.doing d .clear).2.num) H'
theorem ok_clear (F : Fun K "lift_all" "Coins.lift_all" sClear f fd) (T : Txt K mg C) (B : Bl mg) (g4 : GI mg "THROWN" (-1)) : FnOk P w K mg base CX0 1 f fd ["self"] (spClear K C) := by
  refine F.ok scClear (fun vs H Q E h => ?_) (fun cdv A outer s H vs Q E hr h => ?_)
  · obtain ⟨G, F, a, d, rfl, _⟩ := h
    rfl
  · obtain ⟨G, F, a, d, rfl, hAt, k⟩ := h
    obtain ⟨m, R, dx, lc, ll, lt, rs, us, A⟩ := id hAt
    refine ⟨_, pss_cons (ps_set (i := 1) scClear.nd rfl (Or.inl rfl) (pe_op op_sub (pe_callB call_len_seq (by rfl) B.len PySem.boot_len (pa_cons (pe_fld (pv 0) rfl) pa_nil)) (pe_bm PySem.F.plainAttrs_list PySem.F.slot_list_count PySem.F.type_list_count mt_lcount (pe_fld (pv 0) rfl) (pa_cons (pe_gi rfl g4) pa_nil))))
      (pss_cons (ps_fld (pv 0) (pe_lc (own := [("i", 2)]) (g := gName 2) (tt := tYes) (te := tC (.int (-1))) rfl scClear.nd (pi_range1 (by rfl) B.range (pa_cons (pe_callB call_len_seq (by rfl) B.len PySem.boot_len (pa_cons (pe_fld (pv 0) rfl) pa_nil)) pa_nil)) (blkOk_by (own := [("i", 2)]) (N := nClear) (sc := defScope sClear) (by decide +kernel)) (fun _ _ _ _ _ => pg_name (i := 2) scClear.nd rfl (Or.inl rfl)) (fun _ _ _ _ _ => pts_nil) (fun _ _ _ _ _ => pe_gi rfl g4)) rfl)
      (pss_one (ps_ret (pv 1)))), ?_⟩
    have n10 := R.1.n10
    have LL : (iv m.ls).length = Sr58.coins d := by
      rw [iv_len, R.len, R.1.coins]
    have CC := R.1.coins
    refine q_asg (v := .int ((d.laid.filter fun x => x.isSome).length : Nat)) (ev_is (ev_op (ev_len (K := K) (ev_fld (ev_var rfl) A.ha T.cl T.nL fl_laid) (sq_of A.hl)) (ev_cnt (K := K) (ev_fld (ev_var rfl) A.ha T.cl T.nL fl_laid) (sq_of A.hl) ev_c) rv_I0) ?_) fun H1 e1 => ?_
    · show V.int _ = V.int _
      rw [LL, R.2.1, count_none, ← count_some, R.1.coins, ← R.1.len]
      have := List.length_filter_le (fun x : Option Bool => x.isNone) d.laid
      congr 1
      omega
    · have A1 := A.ex e1
      refine q_fldL (xs := iv (List.replicate (Sr58.coins d) (-1))) (el_of (n := ((Sr58.coins d : Int)).toNat) (by rw [iv_len, List.length_replicate]; omega) (lcR1 (ea_cons (ev_is (ev_len (K := K) (ev_fld (ev_var rfl) A1.ha T.cl T.nL fl_laid) (sq_of A1.hl)) (by rw [LL])) ea_nil) ⟨by omega, by omega⟩ (fun _ => rfl) (stable_get _) (fun i H3 e3 hi => fun H4 e4 Q q => q _ H4 (Ex.refl H4) (iv_getI (by rw [List.getElem?_replicate, if_pos (by omega)]))))) (ev_var rfl) A1.ha T.cl T.nL fl_len fun p2 H3 hp2 e3 h3 => ?_
      have A3 := (A1.ex e3).putL h3 (fresh_back A1.fh hp2) (ne_of_none A1.hc hp2) (ne_of_none A1.ht hp2).symm
      refine s_ret (ev_var rfl) fun H4 e4 => new_ans k (d' := { d with laid := List.replicate (Sr58.coins d) none }) rfl ⟨{ m with ls := List.replicate (Sr58.coins d) (-1) }, ⟨R.1.clear, ?_, R.2.2.1, R.2.2.2⟩, _, _, _, _, _, _, A3.ex e4⟩
      show List.replicate (Sr58.coins d) (-1) = (List.replicate (Sr58.coins d) none).map lt1
      rw [List.map_replicate]
      rfl
/-! ### fraction -/
abbrev sFrac : Stmt := inClass cls 20
theorem scFrac : FnScope ["self", "upper", "lower", "chance", "common"] ["self", "upper"] (defScope sFrac) := ⟨rfl, rfl, rfl, by decide +kernel, rfl, by decide +kernel, by decide +kernel⟩
def fracL (f : Sr58.Frac) : List Int := [0, f.n, (f.d : Int)]
def spFrac (K : PySem.W.Frag) (C : Addr) : Sp := fun vs H Q _ => ∃ (G F : Hp) (a : Addr) (m : M) (d : Sr58.Desk) (u : Int), vs = [.ref a, .int u] ∧ MRel m (some d) ∧ MAt K C G F H a m ∧ RetL (iv (fracL (Sr58.frac u (lower m.cs)))) H Q
theorem sp_frac {m : M} {u : Int} (R : MRel m (some d)) (A : MAt K C G F H a m) : SpL (spFrac K C) [.ref a, .int u] H (iv (fracL (Sr58.frac u (lower m.cs)))) := fun H1 e Q q E =>
  ⟨G, F, a, m, d, u, rfl, R, A.ex e, fun p H2 hp e2 h2 => q p H2 hp e2 h2⟩
theorem ok_frac {fG : Addr} {fdG : FuncData} (F : Fun K "fraction" "Coins.fraction" sFrac f fd) (T : Txt K mg C) (B : Bl mg)
    (GG : FnOk P w K mg base CX0 1 fG fdG ["a", "b"] spGcd) (bG : Binds K fdG ["a", "b"] []) (kG : PySem.W.keepIn K (.ref fG) = true) (mG : mg "greatest_common" = some (.ref fG)) : FnOk P w K mg base CX0 2 f fd ["self", "upper"] (spFrac K C) := by
  refine F.ok scFrac (fun vs H Q E h => ?_) (fun cdv A outer s H vs Q E hr h => ?_)
  · obtain ⟨G, F, a, m, d, u, rfl, _⟩ := h
    rfl
  · obtain ⟨G, F, a, m, d, u, rfl, R, ⟨dx, lc, ll, lt, rs, us, A⟩, k⟩ := h
    refine ⟨_, pss_cons (ps_set (i := 2) scFrac.nd rfl (Or.inl rfl) pe_int)
      (pss_cons (ps_for PassesOwn.never rfl (pi_list (pe_fld (pv 0) rfl)) (pg_name (i := 3) scFrac.nd rfl (Or.inl rfl)) (pss_one (ps_set (i := 2) scFrac.nd rfl (Or.inl rfl) (pe_op op_mul (pv 2) (pe_ix ix_tup (pv 3) pe_int (fun _ _ => rfl))))))
      (pss_cons (ps_set (i := 4) scFrac.nd rfl (Or.inl rfl) (pe_call GG hr rfl mG kG bG .nil pass0 (pa_cons (pe_callB call_abs (by rfl) B.abs (by decide +kernel) (pa_cons (pv 1) pa_nil)) (pa_cons (pv 2) pa_nil))))
      (pss_one (ps_ret (pe_lst (pa_cons pe_int (pa_cons (pe_op op_fdivW (pv 1) (pv 4)) (pa_cons (pe_op op_fdivW (pv 2) (pv 4)) pa_nil)))))))), ?_⟩
    refine q_asg ev_c fun H1 e1 => ?_
    have A1 := A.ex e1
    refine q_forLn (K := K) (xs := rs) (ev_fld (ev_var rfl) A1.ha T.cl T.nC fl_chances) (sq_of A1.hc) (fun i σ H' => ∃ v, σ = [some (.ref a), some (.int u), some (.int ((lower (m.cs.take i) : Nat) : Int)), v, none] ∧ Ex H H') (fun H2 e2 => ⟨none, rfl, e1.trans e2⟩) (fun i σ H' _ ⟨_, _, e2⟩ => sq_of (A.ex e2).hc) ?_ ?_
    · rintro i x σ H2 hi ⟨v, rfl, e2⟩
      obtain ⟨p, hp, t, rfl, hT⟩ := (A.ex e2).pc.2 i x hi
      have gp := R.1.good p (List.mem_of_getElem? hp)
      have g3 := gp.2.2
      refine s_asg (v := .int ((lower (m.cs.take (i + 1)) : Nat) : Int)) (ev_is (ev_op (ev_var rfl) (ev_op (ev_var rfl) ev_c (rv_ixT (K := K) hT (pair_at1 p))) (rv_I (Or.inr (by omega)))) ?_) fun H3 e3 => ⟨_, rfl, e2.trans e3⟩
      show V.int _ = V.int _
      rw [lower_take hp, Int.natCast_mul]
      congr 2
      omega
    · rintro σ H2 ⟨v, rfl, e2⟩
      have lp := lower_pos R.1.good
      have ls := lower_small R.1.good R.1.n10
      have ht : m.cs.take rs.length = m.cs := by
        rw [A.pc.1, List.take_length]
      rw [ht]
      generalize hL : lower m.cs = L at *
      have g0 : 0 < Nat.gcd u.natAbs L := Nat.gcd_pos_of_pos_right _ lp
      have g1 : Nat.gcd u.natAbs L ≤ L := Nat.le_of_dvd lp (Nat.gcd_dvd_right _ _)
      have hd : ∀ x : Int, CDivW x ((Nat.gcd u.natAbs L : Nat) : Int) := fun x => wide_div (b := 40) (by omega) (by rw [Int.natAbs_natCast]; exact Nat.lt_of_le_of_lt (Nat.le_trans g1 ls) (by decide)) (by decide) (by decide)
      refine q_asg (ev_call (ea_cons (ev_abs (ev_var rfl)) (ea_cons (ev_var rfl) ea_nil)) (sp_gcd (x := u.natAbs) (y := L))) fun H3 e3 => ?_
      refine s_retL (el_lst (ea_cons ev_c (ea_cons (ev_op (ev_var rfl) (ev_var rfl) (rv_I (hd _))) (ea_cons (ev_op (ev_var rfl) (ev_var rfl) (rv_I (hd _))) ea_nil))) (by show 3 ≤ 100000; decide)) fun p H4 hp e4 h4 => ?_
      refine k.go (e2.trans e3) hp e4 ?_
      rw [h4, Fr.frac_pos u lp]
      show some (HO.lst [V.int 0, V.int (u / _), V.int ((L : Int) / _)]) = some (HO.lst [V.int 0, V.int (u / _), V.int ((L / Nat.gcd u.natAbs L : Nat) : Int)])
      rw [Int.natCast_ediv]
end
end Co
end
section
set_option maxRecDepth 100000
set_option maxHeartbeats 4000000
set_option linter.unusedVariables false
namespace Co
open PySem PySem.Spec PyProof.Rows L2 Evl Gn Mn Dk Bs
section
variable {σ : L2.St} {H : Hp} {ta tb tc : TE}
/-- [(..)]: a new list of one new tuple -/
def Ev1 (te : TE) (σ : L2.St) (H : Hp) (vs : List V) : Prop := ∀ H1, Ex H H1 → ∀ Q : VK, (∀ p t H2, Ex H1 H2 → H2 p = some (.lst [.ref t]) → H2 t = some (.tup vs) → Q (.ref p) H2) → te σ H1 Q
theorem e1_lst {targs : TA} {vs : List V} (h : EvA targs σ H vs) (hl : vs.length ≤ 100000) : Ev1 (tLst (tCons (tTup targs) tNil)) σ H vs := fun H1 e Q q =>
  h H1 e _ fun H2 e2 => ⟨sz_of hl, fun pt hpt => ⟨(by show 1 ≤ sizeLine; decide), fun pl hpl => q pl pt _ ((e2.trans (Ex.new hpt)).trans (Ex.new hpl)) upd_same (by
    have npl : pt ≠ pl := fun z => by
      rw [← z, upd_same] at hpl
      cases hpl
    rw [upd_ne npl]
    exact upd_same)⟩⟩
theorem ev_call3 {sp : Sp} {x y z : V} {vs : List V} {E : XK} (hA : Ev ta σ H x) (hB : Ev tb σ H y) (hC : Ev1 tc σ H vs) (hs : ∀ p t H1, Ex H H1 → H1 p = some (.lst [.ref t]) → H1 t = some (.tup vs) → SpV sp [x, y, .ref p] H1 z) : Ev (tCall sp [] E (tCons ta (tCons tb (tCons tc tNil)))) σ H z := fun H1 e Q q =>
  hA H1 e _ fun H2 e2 => hB H2 (e.trans e2) _ fun H3 e3 => hC H3 ((e.trans e2).trans e3) _ fun p t H4 e4 h1 h2 => hs p t H4 (((e.trans e2).trans e3).trans e4) h1 h2 H4 (Ex.refl H4) Q (fun H5 e5 => q H5 (((e2.trans e3).trans e4).trans e5)) E
end
section
variable {P : Program} {w : World} {K : PySem.W.Frag} {mg : Str → Option Value} {base : Heap} {f C : Addr} {fd : FuncData} {G F H H' : Hp} {a : Addr} {d d' : Sr58.Desk} {c : Sr58.Call} {z : Int} {Q : VK}
theorem ans_tell {f : Sr58.Frac} (e : Sr58.doing d c = (none, Sr58.tell f)) : ansD d c = fracL f := by
  unfold ansD
  rw [e]
  rfl
theorem ans_say (e : Sr58.doing d c = (none, Sr58.say z)) : ansD d c = [z] := by
  unfold ansD
  rw [e]
  rfl
theorem meanUp_is {m : M} (R : MRel m (some d)) : meanUp m.cs d = upper (partsOf m.cs m.ls) m.ts := by
  unfold meanUp
  rw [R.2.1, R.2.2.1]
/-! ### mean -/
abbrev sMean : Stmt := inClass cls 21
theorem scMean : FnScope ["self"] ["self"] (defScope sMean) := ⟨rfl, rfl, rfl, by decide +kernel, rfl, by decide +kernel, by decide +kernel⟩
def spMean (K : PySem.W.Frag) (C : Addr) : Sp := fun vs H Q _ => ∃ (G F : Hp) (a : Addr) (d : Sr58.Desk), vs = [.ref a] ∧ At K C G F H a (some d) ∧ RetL (iv (ansD d .mean)) H Q
theorem ok_mean {fU fF : Addr} {fdU fdF : FuncData} (F : Fun K "mean" "Coins.mean" sMean f fd) (T : Txt K mg C)
    (GU : FnOk P w K mg base CX0 4 fU fdU ["chances", "laid", "terms"] (spMeanUpper K)) (bU : Binds K fdU ["chances", "laid", "terms"] []) (kU : PySem.W.keepIn K (.ref fU) = true) (mU : mg "mean_upper" = some (.ref fU))
    (GF : FnOk P w K mg base CX0 2 fF fdF ["self", "upper"] (spFrac K C)) (bF : Binds K fdF ["self", "upper"] []) (mF : Meth K C "fraction" fF) : FnOk P w K mg base CX0 5 f fd ["self"] (spMean K C) := by
  refine F.ok scMean (fun vs H Q E h => ?_) (fun cdv A outer s H vs Q E hr h => ?_)
  · obtain ⟨G, F, a, d, rfl, _⟩ := h
    rfl
  · obtain ⟨G, F, a, d, rfl, ⟨m, R, hM⟩, k⟩ := h
    obtain ⟨dx, lc, ll, lt, rs, us, A⟩ := id hM
    have hr2 : Room 2 _ := hr.mono (by decide)
    refine ⟨_, pss_one (ps_ret (pe_meth (pv 0) T.cl mF GF hr2 bF .nil pass0 (pa_cons (pe_call GU hr rfl mU kU bU .nil pass0 (pa_cons (pe_fld (pv 0) rfl) (pa_cons (pe_fld (pv 0) rfl) (pa_cons (pe_fld (pv 0) rfl) pa_nil)))) pa_nil))), ?_⟩
    refine s_retL (el_meth (ev_var rfl) A.ha (fl_no (by decide +kernel)) (ea_cons (ev_call (ea_cons (ev_fld (ev_var rfl) A.ha T.cl T.nC fl_chances) (ea_cons (ev_fld (ev_var rfl) A.ha T.cl T.nL fl_laid) (ea_cons (ev_fld (ev_var rfl) A.ha T.cl T.nT fl_terms) ea_nil))) (sp_meanUpper (m := m) (ls := m.ls) ⟨rs, sq_of A.hc, A.pc⟩ (sq_of A.hl) ⟨us, sq_of A.ht, A.pt.terms A.gh⟩ R R.len)) ea_nil) (sp_frac R hM)) fun p H1 hp e1 h1 => ?_
    refine k p H1 hp e1 ?_
    rw [h1, ans_tell (f := Sr58.mean d) rfl, R.1.mean, meanUp_is R]
/-! ### mean_if -/
abbrev sMeanF : Stmt := inClass cls 22
theorem scMeanF : FnScope ["self", "i", "v", "refusal"] ["self", "i", "v"] (defScope sMeanF) := ⟨rfl, rfl, rfl, by decide +kernel, rfl, by decide +kernel, by decide +kernel⟩
def spMeanF (K : PySem.W.Frag) (C : Addr) : Sp := fun vs H Q _ => ∃ (G F : Hp) (a : Addr) (d : Sr58.Desk) (i v : Int), vs = [.ref a, .int i, .int v] ∧ At K C G F H a (some d) ∧ RetL (iv (ansD d (.meanif i v))) H Q
theorem meanif_zero {j : Nat} {v : Int} (h : refusal d (j : Int) v = 0) : Sr58.doing d (.meanif (j : Int) v) = (none, Sr58.tell (Sr58.mean (Sr58.lay d j (some (v == 1))))) := by
  obtain ⟨j', e, hj, hv, hl, hc⟩ := ref_zero h
  have : j' = j := by omega
  subst this
  show (none, (if Sr58.isCoin d (j' : Int) = false then _ else if v < 0 ∨ 1 < v then _ else if (Sr58.laidAt d j').isSome = true then _ else _)) = _
  rw [if_neg (by rw [hc]; decide), if_neg (by omega), if_neg (by rw [hl]; decide)]
  rfl
theorem meanif_some {i v : Int} (h : ¬ refusal d i v = 0) : Sr58.doing d (.meanif i v) = (none, Sr58.say (refusal d i v)) := by
  show (none, (if Sr58.isCoin d i = false then _ else if v < 0 ∨ 1 < v then _ else if (Sr58.laidAt d i.toNat).isSome = true then _ else _)) = _
  unfold refusal at h ⊢
  by_cases c1 : Sr58.isCoin d i = false
  · rw [if_pos c1, if_pos c1]
  · rw [if_neg c1] at h ⊢
    rw [if_neg c1]
    by_cases c2 : v < 0 ∨ 1 < v
    · rw [if_pos c2, if_pos c2]
    · rw [if_neg c2] at h ⊢
      rw [if_neg c2]
      by_cases c3 : (Sr58.laidAt d i.toNat).isSome = true
      · rw [if_pos c3, if_pos c3]
      · rw [if_neg c3] at h
        exact absurd rfl h
theorem ok_meanF {fR fU fF : Addr} {fdR fdU fdF : FuncData} (F : Fun K "mean_if" "Coins.mean_if" sMeanF f fd) (T : Txt K mg C)
    (GR : FnOk P w K mg base CX0 2 fR fdR ["self", "i", "v"] (spRef K C)) (bR : Binds K fdR ["self", "i", "v"] []) (mR : Meth K C "refusal_to_lay" fR)
    (GU : FnOk P w K mg base CX0 5 fU fdU ["self", "i", "v"] (spMeanIf K C)) (bU : Binds K fdU ["self", "i", "v"] []) (mU : Meth K C "mean_upper_if" fU)
    (GF : FnOk P w K mg base CX0 2 fF fdF ["self", "upper"] (spFrac K C)) (bF : Binds K fdF ["self", "upper"] []) (mF : Meth K C "fraction" fF) : FnOk P w K mg base CX0 6 f fd ["self", "i", "v"] (spMeanF K C) := by
  refine F.ok scMeanF (fun vs H Q E h => ?_) (fun cdv A outer s H vs Q E hr h => ?_)
  · obtain ⟨G, F, a, d, i, v, rfl, _⟩ := h
    rfl
  · obtain ⟨G, F, a, d, i, v, rfl, hAt, k⟩ := h
    obtain ⟨m, R, hM⟩ := id hAt
    obtain ⟨dx, lc, ll, lt, rs, us, A⟩ := id hM
    have hr2 : Room 2 _ := hr.mono (by decide)
    refine ⟨_, pss_cons (ps_set (i := 3) scMeanF.nd rfl (Or.inl rfl) (pe_meth (pv 0) T.cl mR GR hr2 bR .nil pass0 (pa_cons (pv 1) (pa_cons (pv 2) pa_nil))))
      (pss_cons (ps_if (pt_cmpR op_ne (pv 3) pe_int (nomark _)) (pss_one (ps_ret (pe_lst (pa_cons (pv 3) pa_nil)))) pss_nil)
      (pss_one (ps_ret (pe_meth (pv 0) T.cl mF GF hr2 bF .nil pass0 (pa_cons (pe_meth (pv 0) T.cl mU GU hr bU .nil pass0 (pa_cons (pv 1) (pa_cons (pv 2) pa_nil))) pa_nil))))), ?_⟩
    refine q_asg (ev_meth (ev_var rfl) A.ha (fl_no (by decide +kernel)) (ea_cons (ev_var rfl) (ea_cons (ev_var rfl) ea_nil)) (sp_ref hAt)) fun H1 e1 => ?_
    refine q_when (et_test (ev_op (ev_var rfl) ev_c (rv_ne rfl))) (fun hb H2 e2 => ?_) (fun hb H2 e2 => ?_)
    · have h0 := int_ne hb
      refine s_retL (el_lst (ea_cons (ev_var rfl) ea_nil) (by show 1 ≤ 100000; decide)) fun p H3 hp e3 h3 => ?_
      refine k.go (e1.trans e2) hp e3 ?_
      rw [h3, ans_say (meanif_some h0)]
      rfl
    · have h0 := int_eq hb
      obtain ⟨j, rfl, hj, v01, hl, _⟩ := ref_zero h0
      have e12 := e1.trans e2
      have A2 := A.ex e12
      have ev : v = Sr58.bit (v == 1) := by
        rcases v01 with e | e
        · rw [e]
          rfl
        · rw [e]
          rfl
      refine s_retL (el_meth (ev_var rfl) A2.ha (fl_no (by decide +kernel)) (ea_cons (ev_meth (vs := [.int (j : Int), .int (Sr58.bit (v == 1))]) (ev_var rfl) A2.ha (fl_no (by decide +kernel)) (ea_cons (ev_var rfl) (ea_cons (ev_is (ev_var rfl) (congrArg V.int ev)) ea_nil)) (sp_meanIf R (hM.ex e12) hj)) ea_nil) (sp_frac R (hM.ex e12))) fun p H3 hp e3 h3 => ?_
      refine k.go e12 hp e3 ?_
      rw [h3, ans_tell (meanif_zero h0), (R.1.lay j (some (v == 1))).mean]
/-! ### swing -/
abbrev sSwing : Stmt := inClass cls 23
theorem scSwing : FnScope ["self", "i", "refusal"] ["self", "i"] (defScope sSwing) := ⟨rfl, rfl, rfl, by decide +kernel, rfl, by decide +kernel, by decide +kernel⟩
def spSwing (K : PySem.W.Frag) (C : Addr) : Sp := fun vs H Q _ => ∃ (G F : Hp) (a : Addr) (d : Sr58.Desk) (i : Int), vs = [.ref a, .int i] ∧ At K C G F H a (some d) ∧ RetL (iv (ansD d (.swing i))) H Q
theorem swing_zero {j : Nat} (h : refusal d (j : Int) 0 = 0) : Sr58.doing d (.swing (j : Int)) = (none, Sr58.tell (Sr58.swing d j)) := by
  obtain ⟨j', e, hj, hv, hl, hc⟩ := ref_zero h
  have : j' = j := by omega
  subst this
  show (none, (if Sr58.isCoin d (j' : Int) = false then _ else if (Sr58.laidAt d j').isSome = true then _ else _)) = _
  rw [if_neg (by rw [hc]; decide), if_neg (by rw [hl]; decide)]
  rfl
theorem swing_some {i : Int} (h : ¬ refusal d i 0 = 0) : Sr58.doing d (.swing i) = (none, Sr58.say (refusal d i 0)) := by
  show (none, (if Sr58.isCoin d i = false then _ else if (Sr58.laidAt d i.toNat).isSome = true then _ else _)) = _
  rcases ref_cases h with ⟨c1, e⟩ | ⟨c1, c3, e⟩
  · rw [if_pos c1, e]
  · rw [if_neg c1, if_pos c3, e]
theorem ok_swing {fR fU fF : Addr} {fdR fdU fdF : FuncData} {dz : List Value} (F : Fun K "swing" "Coins.swing" sSwing f fd) (T : Txt K mg C)
    (GR : FnOk P w K mg base CX0 2 fR fdR ["self", "i", "v"] (spRef K C)) (bR : Binds K fdR ["self", "i", "v"] dz) (vR : Vals [.int 0] dz) (mR : Meth K C "refusal_to_lay" fR)
    (GU : FnOk P w K mg base CX0 5 fU fdU ["self", "i", "v"] (spMeanIf K C)) (bU : Binds K fdU ["self", "i", "v"] []) (mU : Meth K C "mean_upper_if" fU)
    (GF : FnOk P w K mg base CX0 2 fF fdF ["self", "upper"] (spFrac K C)) (bF : Binds K fdF ["self", "upper"] []) (mF : Meth K C "fraction" fF) : FnOk P w K mg base CX0 6 f fd ["self", "i"] (spSwing K C) := by
  refine F.ok scSwing (fun vs H Q E h => ?_) (fun cdv A outer s H vs Q E hr h => ?_)
  · obtain ⟨G, F, a, d, i, rfl, _⟩ := h
    rfl
  · obtain ⟨G, F, a, d, i, rfl, hAt, k⟩ := h
    obtain ⟨m, R, hM⟩ := id hAt
    obtain ⟨dx, lc, ll, lt, rs, us, A⟩ := id hM
    have hr2 : Room 2 _ := hr.mono (by decide)
    refine ⟨_, pss_cons (ps_set (i := 2) scSwing.nd rfl (Or.inl rfl) (pe_meth (pv 0) T.cl mR GR hr2 bR vR pass0 (pa_cons (pv 1) pa_nil)))
      (pss_cons (ps_if (pt_cmpR op_ne (pv 2) pe_int (nomark _)) (pss_one (ps_ret (pe_lst (pa_cons (pv 2) pa_nil)))) pss_nil)
      (pss_one (ps_ret (pe_meth (pv 0) T.cl mF GF hr2 bF .nil pass0 (pa_cons (pe_op op_sub (pe_meth (pv 0) T.cl mU GU hr bU .nil pass0 (pa_cons (pv 1) (pa_cons pe_int pa_nil))) (pe_meth (pv 0) T.cl mU GU hr bU .nil pass0 (pa_cons (pv 1) (pa_cons pe_int pa_nil)))) pa_nil))))), ?_⟩
    refine q_asg (ev_meth (ev_var rfl) A.ha (fl_no (by decide +kernel)) (ea_cons (ev_var rfl) ea_nil) (sp_ref (v := 0) hAt)) fun H1 e1 => ?_
    refine q_when (et_test (ev_op (ev_var rfl) ev_c (rv_ne rfl))) (fun hb H2 e2 => ?_) (fun hb H2 e2 => ?_)
    · have h0 := int_ne hb
      refine s_retL (el_lst (ea_cons (ev_var rfl) ea_nil) (by show 1 ≤ 100000; decide)) fun p H3 hp e3 h3 => ?_
      refine k.go (e1.trans e2) hp e3 ?_
      rw [h3, ans_say (swing_some h0)]
      rfl
    · have h0 := int_eq hb
      obtain ⟨j, rfl, hj, v01, hl, _⟩ := ref_zero h0
      have e12 := e1.trans e2
      have A2 := A.ex e12
      refine s_retL (el_meth (ev_var rfl) A2.ha (fl_no (by decide +kernel)) (ea_cons (ev_op (ev_meth (ev_var rfl) A2.ha (fl_no (by decide +kernel)) (ea_cons (ev_var rfl) (ea_cons ev_c ea_nil)) (sp_meanIf (b := true) R (hM.ex e12) hj)) (ev_meth (ev_var rfl) A2.ha (fl_no (by decide +kernel)) (ea_cons (ev_var rfl) (ea_cons ev_c ea_nil)) (sp_meanIf (b := false) R (hM.ex e12) hj)) rv_I0) ea_nil) (sp_frac R (hM.ex e12))) fun p H3 hp e3 h3 => ?_
      refine k.go e12 hp e3 ?_
      rw [h3, ans_tell (swing_zero h0), R.1.swing j]
/-! ### chance -/
abbrev sChance : Stmt := inClass cls 24
theorem scChance : FnScope ["self", "j", "term"] ["self", "j"] (defScope sChance) := ⟨rfl, rfl, rfl, by decide +kernel, rfl, by decide +kernel, by decide +kernel⟩
def spChance (K : PySem.W.Frag) (C : Addr) : Sp := fun vs H Q _ => ∃ (G F : Hp) (a : Addr) (d : Sr58.Desk) (i : Int), vs = [.ref a, .int i] ∧ At K C G F H a (some d) ∧ RetL (iv (ansD d (.chance i))) H Q
theorem upper_one (ps : List P2) (t : T3) : upper ps [(1, t.2.1, t.2.2)] = termParts ps t := by
  show 0 + 1 * termParts ps (1, t.2.1, t.2.2) = _
  rw [Int.zero_add, Int.one_mul]
  rfl
theorem ok_chance {fH fU fF : Addr} {fdH fdU fdF : FuncData} (F : Fun K "chance" "Coins.chance" sChance f fd) (T : Txt K mg C) (g1 : GI mg "NO_SUCH" (-2))
    (GH : FnOk P w K mg base CX0 1 fH fdH ["self", "j"] (spHasT K C)) (bH : Binds K fdH ["self", "j"] []) (mH : Meth K C "has_term" fH)
    (GU : FnOk P w K mg base CX0 4 fU fdU ["chances", "laid", "terms"] (spMeanUpper K)) (bU : Binds K fdU ["chances", "laid", "terms"] []) (kU : PySem.W.keepIn K (.ref fU) = true) (mU : mg "mean_upper" = some (.ref fU))
    (GF : FnOk P w K mg base CX0 2 fF fdF ["self", "upper"] (spFrac K C)) (bF : Binds K fdF ["self", "upper"] []) (mF : Meth K C "fraction" fF) : FnOk P w K mg base CX0 5 f fd ["self", "j"] (spChance K C) := by
  refine F.ok scChance (fun vs H Q E h => ?_) (fun cdv A outer s H vs Q E hr h => ?_)
  · obtain ⟨G, F, a, d, i, rfl, _⟩ := h
    rfl
  · obtain ⟨G, F, a, d, i, rfl, hAt, k⟩ := h
    obtain ⟨m, R, hM⟩ := id hAt
    obtain ⟨dx, lc, ll, lt, rs, us, A⟩ := id hM
    have hr1 : Room 1 _ := hr.mono (by decide)
    have hr2 : Room 2 _ := hr.mono (by decide)
    refine ⟨_, pss_cons (ps_if (pt_not (pt_val (pe_meth (pv 0) T.cl mH GH hr1 bH .nil pass0 (pa_cons (pv 1) pa_nil)))) (pss_one (ps_ret (pe_lst (pa_cons (pe_gi rfl g1) pa_nil)))) pss_nil)
      (pss_cons (ps_set (i := 2) scChance.nd rfl (Or.inl rfl) (pe_ix ix_list (pe_fld (pv 0) rfl) (pv 1) (fun _ _ => rfl)))
      (pss_one (ps_ret (pe_meth (pv 0) T.cl mF GF hr2 bF .nil pass0 (pa_cons (pe_call GU hr rfl mU kU bU .nil pass0 (pa_cons (pe_fld (pv 0) rfl) (pa_cons (pe_fld (pv 0) rfl) (pa_cons (pe_lst (pa_cons (pe_tup (pa_cons pe_int (pa_cons (pe_ix ix_tup (pv 2) pe_int (fun _ _ => rfl)) (pa_cons (pe_ix ix_tup (pv 2) pe_int (fun _ _ => rfl)) pa_nil)))) pa_nil)) pa_nil)))) pa_nil))))), ?_⟩
    have L1 := A.pt.1
    have L2 := terms_len R
    refine q_when (et_not (et_B (ev_meth (ev_var rfl) A.ha (fl_no (by decide +kernel)) (ea_cons (ev_var rfl) ea_nil) (sp_hasT hAt)))) (fun hb H1 e1 => ?_) (fun hb H1 e1 => ?_)
    · rw [Bool.not_eq_true'] at hb
      unfold isTerm at hb
      rw [Bool.and_eq_false_iff, decide_eq_false_iff_not, decide_eq_false_iff_not] at hb
      refine s_retL (el_lst (ea_cons ev_c ea_nil) (by show 1 ≤ 100000; decide)) fun p H3 hp e3 h3 => ?_
      refine k.go e1 hp e3 ?_
      rw [h3, ans_say (z := -2) (by show (none, (if i < 0 ∨ (d.terms.length : Int) ≤ i then _ else _)) = _; rw [if_pos (by omega)])]
      rfl
    · rw [Bool.not_eq_false'] at hb
      unfold isTerm at hb
      rw [Bool.and_eq_true, decide_eq_true_iff, decide_eq_true_iff] at hb
      obtain ⟨j, rfl⟩ : ∃ j : Nat, i = (j : Int) := ⟨i.toNat, by omega⟩
      have hj : j < us.length := by omega
      have hjt : j < d.terms.length := by omega
      have A1 := A.ex e1
      have gu : us[j]? = some us[j] := List.getElem?_eq_getElem hj
      obtain ⟨t3, ht3, ta, q', eta, hta, hq⟩ := A1.pt.2 j _ gu
      have gt : d.terms[j]? = some d.terms[j] := List.getElem?_eq_getElem hjt
      have et3 : t3 = enc d.terms[j] := by
        rw [R.2.2.1, List.getElem?_map, gt] at ht3
        exact (Option.some.inj ht3).symm
      have hat : atI us (j : Int) = some us[j] := at_of rfl gu
      refine q_asg (v := .ref ta) (ev_is (ev_op (ev_fld (ev_var rfl) A1.ha T.cl T.nT fl_terms) (ev_var rfl) (rv_ixL (K := K) (sq_of A1.ht) hat)) eta) fun H2 e2 => ?_
      have e12 := e1.trans e2
      have A2 := A.ex e12
      have hta2 := ex_t e2 hta
      have tok : Co.tOk t3 := R.tOk t3 (List.mem_of_getElem? ht3)
      have evC : Ev (tFld K (tVar 0) "chances") [some (.ref a), some (.int (j : Int)), some (.ref ta)] H2 (.ref lc) := ev_fld (ev_var rfl) A2.ha T.cl T.nC fl_chances
      have evL : Ev (tFld K (tVar 0) "laid") [some (.ref a), some (.int (j : Int)), some (.ref ta)] H2 (.ref ll) := ev_fld (ev_var rfl) A2.ha T.cl T.nL fl_laid
      have evT : EvA (tCons (tC (.int 1)) (tCons (tOp (rIxT K) (tVar 2) (tC (.int 1))) (tCons (tOp (rIxT K) (tVar 2) (tC (.int 2))) tNil))) [some (.ref a), some (.int (j : Int)), some (.ref ta)] H2 [.int 1, .int t3.2.1, .ref q'] := ea_cons ev_c (ea_cons (ev_op (ev_var rfl) ev_c (rv_ixT (K := K) hta2 (at_of (j := 1) rfl rfl))) (ea_cons (ev_op (ev_var rfl) ev_c (rv_ixT (K := K) hta2 (at_of (j := 2) rfl rfl))) ea_nil))
      have ev : Ev (tCall (spMeanUpper K) [] E0 (tCons (tFld K (tVar 0) "chances") (tCons (tFld K (tVar 0) "laid") (tCons (tLst (tCons (tTup (tCons (tC (.int 1)) (tCons (tOp (rIxT K) (tVar 2) (tC (.int 1))) (tCons (tOp (rIxT K) (tVar 2) (tC (.int 2))) tNil)))) tNil)) tNil)))) [some (.ref a), some (.int (j : Int)), some (.ref ta)] H2 (.int (termParts (partsOf m.cs m.ls) t3)) := by
        refine ev_call3 evC evL (e1_lst evT (by show 3 ≤ 100000; decide)) fun pl pt H8 E8 hpl hpt H9 e9 Q q E => ?_
        have A8 := A2.ex (E8.trans e9)
        refine ⟨lc, ll, pl, m.cs, m.ls, [(1, t3.2.1, t3.2.2)], rfl, ⟨rs, sq_of A8.hc, A8.pc⟩, R.1.good, by have := R.1.n10; omega, sq_of A8.hl, R.len, ⟨[.ref pt], sq_of (e9 _ _ hpl), rfl, fun i r hr => ?_⟩, fun t ht => ?_, by show 1 ≤ 100; decide, fun H10 e10 => ?_⟩
        · have hi : i = 0 := by
            have := (List.getElem?_eq_some_iff.mp hr).1
            simp at this
            exact this
          subst hi
          exact ⟨(1, t3.2.1, t3.2.2), rfl, pt, q', (Option.some.inj hr).symm, st_of (e9 _ _ hpt), sq_of (A8.gh _ _ hq)⟩
        · rw [List.mem_singleton.mp ht]
          exact ⟨tok.1, by show (-100 : Int) ≤ 1 ∧ (1 : Int) ≤ 100; decide⟩
        · rw [upper_one]
          exact q H10 e10
      refine s_retL (el_meth (ev_var rfl) A2.ha (fl_no (by decide +kernel)) (ea_cons ev ea_nil) (sp_frac R (hM.ex e12))) fun p H3 hp e3 h3 => ?_
      refine k.go e12 hp e3 ?_
      have ed : Sr58.doing d (.chance (j : Int)) = (none, Sr58.tell (Sr58.likelyTerm d d.terms[j].sort)) := by
        show (none, (if (j : Int) < 0 ∨ (d.terms.length : Int) ≤ (j : Int) then _ else Sr58.tell (Sr58.likelyTerm d (d.terms.getD ((j : Int).toNat) ⟨0, .all []⟩).sort))) = _
        rw [if_neg (by omega), Int.toNat_natCast, List.getD_eq_getElem?_getD, gt]
        rfl
      rw [h3, ans_tell ed, R.1.term (List.getElem_mem hjt), et3, R.2.1]
end
end Co
end
section
set_option maxRecDepth 100000
set_option maxHeartbeats 4000000
set_option linter.unusedVariables false
namespace Co
open PySem PySem.Spec PyProof.Rows L2 Evl Gn Mn Dk Bs
section
variable {K : PySem.W.Frag} {σ : L2.St} {H : Hp} {ta te : TE} {D : Ends} {tz : TS}
theorem q_call1 {i : Nat} {sp : Sp} {x : V} {E : XK} (hA : Ev ta σ H x) (hs : ∀ H1, Ex H H1 → sp [x] H1 (fun v H2 => tz D (σ.set i (some v)) H2) E) : tSeq (tAsg (tCall sp [] E (tCons ta tNil)) (gName i)) tz D σ H :=
  hA H (Ex.refl H) _ fun H1 e1 => hs H1 e1
theorem ev_idx {p : Addr} {ns : List Int} {k : Int} {j : Nat} (ha : Ev ta σ H (.ref p)) (hp : SqL K H p (iv ns)) (hk : Ev te σ H (.int k)) (hj : ns[j]? = some k) (hf : ∀ (m : Nat) z, m < j → ns[m]? = some z → z ≠ k) : Ev (tBM K "list" (rIndex K) ta (tCons te tNil)) σ H (.int (j : Int)) := fun H1 e Q q =>
  ha H1 e _ fun H2 e2 => ⟨Or.inl ⟨rfl, _, ex_l (e.trans e2) hp⟩, hk H2 (e.trans e2) _ fun H3 e3 => ⟨p, iv ns, .int k, j, .int k, rfl, rfl, ex_l ((e.trans e2).trans e3) hp, rfl, iv_flat ns, iv_getI hj, (by show (k == k) = true; exact beq_self_eq_true k), fun m z hm hz => by
    obtain ⟨n, hn, rfl⟩ := iv_get hz
    have := hf m n hm hn
    show (n == k) = false
    exact beq_eq_false_iff_ne.mpr this, q H3 (e2.trans e3)⟩⟩
theorem q_ext {l : Addr} {xs ys : List V} (hl : H l = some (.lst xs)) (ha : Ev ta σ H (.ref l)) (h : EvL te σ H ys) (hz : xs.length + ys.length ≤ 100000) (k : ∀ H1, Ex H H1 → tz D σ (upd H1 l (.lst (xs ++ ys)))) : tSeq (tDrop (tBM K "list" rExtend ta (tCons te tNil))) tz D σ H :=
  ha H (Ex.refl H) _ fun H1 e1 => ⟨Or.inl ⟨rfl, xs, sq_of (e1 l _ hl)⟩, h H1 e1 _ fun p H2 hp e2 h2 => ⟨l, p, xs, ys, rfl, rfl, e2 l _ (e1 l _ hl), h2, sz_of hz, k H2 (e1.trans e2)⟩⟩
theorem s_ext {l q : Addr} {xs ys : List V} (hl : H l = some (.lst xs)) (ha : Ev ta σ H (.ref l)) (hq : H q = some (.lst ys)) (h : Ev te σ H (.ref q)) (hz : xs.length + ys.length ≤ 100000) (k : ∀ H1, Ex H H1 → D.nx σ (upd H1 l (.lst (xs ++ ys)))) : tDrop (tBM K "list" rExtend ta (tCons te tNil)) D σ H :=
  ha H (Ex.refl H) _ fun H1 e1 => ⟨Or.inl ⟨rfl, xs, sq_of (e1 l _ hl)⟩, h H1 e1 _ fun H2 e2 => ⟨l, q, xs, ys, rfl, rfl, e2 l _ (e1 l _ hl), e2 _ _ (e1 _ _ hq), sz_of hz, k H2 (e1.trans e2)⟩⟩
end
section
variable {P : Program} {w : World} {K : PySem.W.Frag} {mg : Str → Option Value} {base : Heap} {f C : Addr} {fd : FuncData} {G F H H' : Hp} {a : Addr} {d d' : Sr58.Desk} {c : Sr58.Call} {z : Int} {Q : VK}
theorem ans_is {x : Sr58.Ans} (e : Sr58.doing d c = (none, x)) : ansD d c = x.num :: x.nums := by
  unfold ansD
  rw [e]
/-! ### worth -/
abbrev sWorth : Stmt := inClass cls 25
theorem scWorth : FnScope ["self"] ["self"] (defScope sWorth) := ⟨rfl, rfl, rfl, by decide +kernel, rfl, by decide +kernel, by decide +kernel⟩
def spWorth (K : PySem.W.Frag) (C : Addr) : Sp := fun vs H Q _ => ∃ (G F : Hp) (a : Addr) (d : Sr58.Desk), vs = [.ref a] ∧ At K C G F H a (some d) ∧ RetL (iv (ansD d .worth)) H Q
theorem ok_worth {fS : Addr} {fdS : FuncData} (F : Fun K "worth" "Coins.worth" sWorth f fd) (T : Txt K mg C) (g1 : GI mg "STILL_THROWN" (-6)) (g4 : GI mg "THROWN" (-1))
    (GS : FnOk P w K mg base CX0 2 fS fdS ["terms", "way"] (spComes K)) (bS : Binds K fdS ["terms", "way"] []) (kS : PySem.W.keepIn K (.ref fS) = true) (mS : mg "comes_to" = some (.ref fS)) : FnOk P w K mg base CX0 3 f fd ["self"] (spWorth K C) := by
  refine F.ok scWorth (fun vs H Q E h => ?_) (fun cdv A outer s H vs Q E hr h => ?_)
  · obtain ⟨G, F, a, d, rfl, _⟩ := h
    rfl
  · obtain ⟨G, F, a, d, rfl, ⟨m, R, hM⟩, k⟩ := h
    obtain ⟨dx, lc, ll, lt, rs, us, A⟩ := id hM
    refine ⟨_, pss_cons (ps_if (pt_cmpR op_in_seq (pe_gi rfl g4) (pe_fld (pv 0) rfl) (by rfl)) (pss_one (ps_ret (pe_lst (pa_cons (pe_gi rfl g1) pa_nil)))) pss_nil)
      (pss_one (ps_ret (pe_lst (pa_cons pe_int (pa_cons (pe_call GS hr rfl mS kS bS .nil pass0 (pa_cons (pe_fld (pv 0) rfl) (pa_cons (pe_fld (pv 0) rfl) pa_nil))) pa_nil))))), ?_⟩
    refine q_when (et_test (ev_op ev_c (ev_fld (ev_var rfl) A.ha T.cl T.nL fl_laid) (rv_isL (K := K) (sq_of A.hl) rfl (iv_flat _)))) (fun hb H1 e1 => ?_) (fun hb H1 e1 => ?_)
    · rw [inV_iv, decide_eq_true_iff, R.2.1, ← full_iff] at hb
      refine s_retL (el_lst (ea_cons ev_c ea_nil) (by show 1 ≤ 100000; decide)) fun p H3 hp e3 h3 => ?_
      refine k.go e1 hp e3 ?_
      rw [h3, ans_say (z := -6) (by show (none, (if Sr58.full d = false then _ else _)) = _; rw [if_pos hb])]
      rfl
    · rw [inV_iv, decide_eq_false_iff_not, R.2.1, ← full_iff] at hb
      have hf : Sr58.full d = true := by
        rw [Bool.not_eq_false] at hb
        exact hb
      have A1 := A.ex e1
      have hB : SqL K H1 ll (iv (bits (Sr58.lies d))) := by
        rw [← lies_told hf, ← R.2.1]
        exact sq_of A1.hl
      have hT : TermsAt K H1 lt (d.terms.map enc) := by
        rw [← R.2.2.1]
        exact ⟨us, sq_of A1.ht, A1.pt.terms A1.gh⟩
      have hlen : (Sr58.lies d).length = m.cs.length := by
        unfold Sr58.lies
        rw [List.length_map, R.1.len]
      refine s_retL (el_lst (ea_cons ev_c (ea_cons (ev_call (ea_cons (ev_fld (ev_var rfl) A1.ha T.cl T.nT fl_terms) (ea_cons (ev_fld (ev_var rfl) A1.ha T.cl T.nL fl_laid) ea_nil)) (sp_comes hT (by have := R.1.nt; omega) hB (by rw [hlen]; exact R.1.terms))) ea_nil)) (by show 2 ≤ 100000; decide)) fun p H3 hp e3 h3 => ?_
      refine k.go e1 hp e3 ?_
      rw [h3, ans_is (x := ⟨0, [Sr58.worth d (Sr58.lies d)]⟩) (by show (none, (if Sr58.full d = false then _ else _)) = _; rw [if_neg hb]), worthT_eq]
      rfl
/-! ### best -/
abbrev sBest : Stmt := inClass cls 26
abbrev nBest : List Str := ["self", "ways", "numbers", "number", "way"]
theorem scBest : FnScope nBest ["self"] (defScope sBest) := ⟨rfl, rfl, rfl, by decide +kernel, rfl, by decide +kernel, by decide +kernel⟩
def spBest (K : PySem.W.Frag) (C : Addr) : Sp := fun vs H Q _ => ∃ (G F : Hp) (a : Addr) (d : Sr58.Desk), vs = [.ref a] ∧ At K C G F H a (some d) ∧ RetL (iv (ansD d .best)) H Q
theorem ok_best {fW fS : Addr} {fdW fdS : FuncData} (F : Fun K "best" "Coins.best" sBest f fd) (T : Txt K mg C) (B : Bl mg)
    (GW : FnOk P w K mg base CX0 1 fW fdW ["laid"] (spWays K)) (bW : Binds K fdW ["laid"] []) (kW : PySem.W.keepIn K (.ref fW) = true) (mW : mg "all_ways" = some (.ref fW))
    (GS : FnOk P w K mg base CX0 2 fS fdS ["terms", "way"] (spComes K)) (bS : Binds K fdS ["terms", "way"] []) (kS : PySem.W.keepIn K (.ref fS) = true) (mS : mg "comes_to" = some (.ref fS)) : FnOk P w K mg base CX0 3 f fd ["self"] (spBest K C) := by
  refine F.ok scBest (fun vs H Q E h => ?_) (fun cdv A outer s H vs Q E hr h => ?_)
  · obtain ⟨G, F, a, d, rfl, _⟩ := h
    rfl
  · obtain ⟨G, F, a, d, rfl, ⟨m, R, hM⟩, k⟩ := h
    obtain ⟨dx, lc, ll, lt, rs, us, A⟩ := id hM
    have hr1 : Room 1 _ := hr.mono (by decide)
    refine ⟨_, pss_cons (ps_set (i := 1) scBest.nd rfl (Or.inl rfl) (pe_call GW hr1 rfl mW kW bW .nil pass0 (pa_cons (pe_fld (pv 0) rfl) pa_nil)))
      (pss_cons (ps_setLc (i := 2) (own := [("way", 4)]) (g := gName 4) (tt := tYes) (te := tCall (spComes K) [] E0 (tCons (tFld K (tVar 0) "terms") (tCons (tVar 4) tNil))) rfl scBest.nd rfl rfl (sw_true rfl rfl rfl (by decide +kernel)) (pi_list (pv 1)) (blkOk_by (own := [("way", 4)]) (N := nBest) (sc := defScope sBest) (by decide +kernel)) (fun _ _ _ _ _ => pg_name (i := 4) scBest.nd rfl (Or.inl rfl)) (fun _ _ _ _ _ => pts_nil)
        (fun _ _ _ _ _ => pe_call GS hr rfl mS kS bS .nil pass0 (pa_cons (pe_fld (pv 0) rfl) (pa_cons (pv 4) pa_nil))))
      (pss_cons (ps_set (i := 3) scBest.nd rfl (Or.inl rfl) (pe_ifExp (pt_cmpR op_eq (pe_fld (pv 0) rfl) pe_int (nomark _)) (pe_callB (cr_max rfl) (by rfl) B.max (by decide +kernel) (pa_cons (pv 2) pa_nil)) (pe_callB (cr_min rfl) (by rfl) B.min (by decide +kernel) (pa_cons (pv 2) pa_nil))))
      (pss_one (ps_ret (pe_op op_cat (pe_lst (pa_cons pe_int (pa_cons (pv 3) pa_nil))) (pe_ix ix_list (pv 1) (pe_bm PySem.F.plainAttrs_list PySem.F.slot_list_index PySem.F.type_list_index mt_index (pv 2) (pa_cons (pv 3) pa_nil)) (fun _ _ => rfl))))))), ?_⟩
    have n10 := R.1.n10
    have dl := R.1.len
    refine q_call1 (ev_fld (ev_var rfl) A.ha T.cl T.nL fl_laid) fun H1 e1 => ⟨ll, d.laid, rfl, ?_, by omega, fun pw ws H2 hpw e2 h2 hW => ?_⟩
    · have hl : SqL K H ll (iv m.ls) := sq_of A.hl
      rw [R.2.1, laidTold_eq] at hl
      exact ex_l e1 hl
    · have wl := ways_small d.laid (by omega)
      have wln := ways_wlen d.laid 0 [[]] (fun w hw => by rw [List.mem_singleton.mp hw]; rfl)
      rw [ext_ways] at hW wl wln
      have e12 := e1.trans e2
      have A2 := A.ex e12
      have hwL : ws.length = (Sr58.ways d).length := hW.1
      refine q_asgL (xs := iv ((Sr58.ways d).map (Sr58.worth d))) (el_of (n := ws.length) (by rw [iv_len, List.length_map, hwL]) (lcL (K := K) (ev_var rfl) (sq_of h2) (by omega) (fun _ => rfl) (stable_get _) (fun i x H3 e3 hx => ?_))) fun pn H3 hpn e3 h3 => ?_
      · obtain ⟨y, py, hy, rfl, hpy⟩ := hW.2 i x hx
        have A3 := A2.ex e3
        have hT : TermsAt K H3 lt (d.terms.map enc) := by
          rw [← R.2.2.1]
          exact ⟨us, sq_of A3.ht, A3.pt.terms A3.gh⟩
        have hlen : y.length = m.cs.length := by
          have := wln y (List.mem_of_getElem? hy)
          omega
        intro H4 e4 Q q
        refine (ev_call (ea_cons (ev_fld (ev_var rfl) A3.ha T.cl T.nT fl_terms) (ea_cons (ev_var rfl) ea_nil)) (sp_comes hT (by have := R.1.nt; omega) (sq_of (e3 _ _ hpy)) (by rw [hlen]; exact R.1.terms))) H4 e4 Q fun H5 e5 => q _ H5 e5 ?_
        rw [worthT_eq]
        refine iv_getI ?_
        rw [List.getElem?_map, hy]
        rfl
      · obtain ⟨j, y, hj, hbest, hno, hfirst⟩ := best_at d
        have A3 := A2.ex e3
        have hnj : ((Sr58.ways d).map (Sr58.worth d))[j]? = some (Sr58.worth d y) := by
          rw [List.getElem?_map, hj]
          rfl
        have hmem : Sr58.worth d y ∈ (Sr58.ways d).map (Sr58.worth d) := List.mem_of_getElem? hnj
        have hpos : 0 < ((Sr58.ways d).map (Sr58.worth d)).length := by
          have := (List.getElem?_eq_some_iff.mp hnj).1
          omega
        refine q_asg (v := .int (Sr58.worth d y)) (ev_if (et_test (ev_op (ev_fld (ev_var rfl) A3.ha T.cl T.nM fl_much) ev_c (rv_eq rfl))) (fun hq => ?_) (fun hq => ?_)) fun H4 e4 => ?_
        · have hm := int_eqT hq
          have mu : d.much = true := by
            rw [R.2.2.2] at hm
            cases e : d.much with
            | true => rfl
            | false =>
              rw [e] at hm
              cases hm
          refine ev_max (K := K) (ev_var rfl) (sq_of h3) hpos fun n hn hmax => ?_
          obtain ⟨x, hx, rfl⟩ := List.mem_map.mp hn
          have h1 := hno x hx
          rw [mu] at h1
          have h1 : ¬ Sr58.worth d y < Sr58.worth d x := of_decide_eq_false h1
          have h2 := hmax _ hmem
          omega
        · have hm := int_neF hq
          have mu : d.much = false := by
            rw [R.2.2.2] at hm
            cases e : d.much with
            | false => rfl
            | true =>
              rw [e] at hm
              exact absurd rfl hm
          refine ev_min (K := K) (ev_var rfl) (sq_of h3) hpos fun n hn hmax => ?_
          obtain ⟨x, hx, rfl⟩ := List.mem_map.mp hn
          have h1 := hno x hx
          rw [mu] at h1
          have h1 : ¬ Sr58.worth d x < Sr58.worth d y := of_decide_eq_false h1
          have h2 := hmax _ hmem
          omega
        · have hjl : j < ws.length := by
            have := (List.getElem?_eq_some_iff.mp hj).1
            omega
          obtain ⟨y', py, hy', epy, hpy⟩ := hW.2 j ws[j] (List.getElem?_eq_getElem hjl)
          have ey : y' = y := Option.some.inj (hy'.symm.trans hj)
          subst ey
          have hat : atI ws (j : Int) = some (.ref py) := at_of rfl (by rw [List.getElem?_eq_getElem hjl, epy])
          have yl : y'.length ≤ 10 := by
            have := wln y' (List.mem_of_getElem? hj)
            omega
          have e34 := e3.trans e4
          refine s_retL (el_catR (el_lst (ea_cons ev_c (ea_cons (ev_var rfl) ea_nil)) (by show 2 ≤ 100000; decide)) (ev_op (ev_var rfl) (ev_idx (K := K) (ev_var rfl) (sq_of (e4 _ _ h3)) (ev_var rfl) hnj (fun i z hi hz => ?_)) (rv_ixL (K := K) (sq_of (e34 _ _ h2)) hat)) (e34 _ _ hpy) (by rw [iv_len, bits_len]; show 2 + _ ≤ _; omega)) fun p H5 hp e5 h5 => ?_
          · rw [List.getElem?_map] at hz
            cases e : (Sr58.ways d)[i]? with
            | none =>
              rw [e] at hz
              cases hz
            | some x =>
              rw [e] at hz
              have : Sr58.worth d x = z := Option.some.inj hz
              rw [← this]
              exact hfirst i x hi e
          · refine k.go (e12.trans e34) hp e5 ?_
            rw [h5, ans_is (x := ⟨0, (Sr58.best d).1 :: (Sr58.best d).2.map Sr58.bit⟩) rfl, hbest]
            rfl
/-! ### table -/
abbrev sTable : Stmt := inClass cls 27
theorem scTable : FnScope ["self", "found", "term"] ["self"] (defScope sTable) := ⟨rfl, rfl, rfl, by decide +kernel, rfl, by decide +kernel, by decide +kernel⟩
def spTable (K : PySem.W.Frag) (C : Addr) : Sp := fun vs H Q _ => ∃ (G F : Hp) (a : Addr) (d : Sr58.Desk), vs = [.ref a] ∧ At K C G F H a (some d) ∧ RetL (iv (ansD d .table)) H Q
theorem tell_enc (t : Sr58.Term) : Sr58.tellTerm t = [(enc t).1, (enc t).2.1, ((enc t).2.2.length : Int)] ++ (enc t).2.2 := by
  obtain ⟨w, k⟩ := t
  cases k with
  | all l =>
    show _ = [w, -1, ((up l).length : Int)] ++ up l
    rw [up_len]
    rfl
  | many k s =>
    show _ = [w, (k : Int), ((up s).length : Int)] ++ up s
    rw [up_len]
    rfl
theorem iv_app (x y : List Int) : iv (x ++ y) = iv x ++ iv y := List.map_append
theorem ok_table (F : Fun K "table" "Coins.table" sTable f fd) (T : Txt K mg C) (B : Bl mg) : FnOk P w K mg base CX0 1 f fd ["self"] (spTable K C) := by
  refine F.ok scTable (fun vs H Q E h => ?_) (fun cdv A outer s H vs Q E hr h => ?_)
  · obtain ⟨G, F, a, d, rfl, _⟩ := h
    rfl
  · obtain ⟨G, F, a, d, rfl, ⟨m, R, hM⟩, k⟩ := h
    obtain ⟨dx, lc, ll, lt, rs, us, A⟩ := id hM
    refine ⟨_, pss_cons (ps_set (i := 1) scTable.nd rfl (Or.inl rfl) (pe_op op_cat (pe_op op_cat (pe_lst (pa_cons (pe_callB call_len_seq (by rfl) B.len PySem.boot_len (pa_cons (pe_fld (pv 0) rfl) pa_nil)) pa_nil)) (pe_fld (pv 0) rfl)) (pe_lst (pa_cons (pe_callB call_len_seq (by rfl) B.len PySem.boot_len (pa_cons (pe_fld (pv 0) rfl) pa_nil)) pa_nil))))
      (pss_cons (ps_for PassesOwn.never rfl (pi_list (pe_fld (pv 0) rfl)) (pg_name (i := 2) scTable.nd rfl (Or.inl rfl))
        (pss_cons (ps_expr (pe_bm PySem.F.plainAttrs_list PySem.F.slot_list_extend PySem.F.type_list_extend mt_extend (pv 1) (pa_cons (pe_lst (pa_cons (pe_ix ix_tup (pv 2) pe_int (fun _ _ => rfl)) (pa_cons (pe_ix ix_tup (pv 2) pe_int (fun _ _ => rfl)) (pa_cons (pe_callB call_len_seq (by rfl) B.len PySem.boot_len (pa_cons (pe_ix ix_tup (pv 2) pe_int (fun _ _ => rfl)) pa_nil)) pa_nil)))) pa_nil)))
        (pss_one (ps_expr (pe_bm PySem.F.plainAttrs_list PySem.F.slot_list_extend PySem.F.type_list_extend mt_extend (pv 1) (pa_cons (pe_ix ix_tup (pv 2) pe_int (fun _ _ => rfl)) pa_nil))))))
      (pss_one (ps_ret (pv 1)))), ?_⟩
    have n10 := R.1.n10
    have l2 := R.len
    have L1 := A.pt.1
    have L2 := terms_len R
    have NT := R.1.nt
    have eL := iv_len m.ls
    refine q_asgL (el_cat (el_catR (el_lst (ea_cons (ev_len (K := K) (ev_fld (ev_var rfl) A.ha T.cl T.nL fl_laid) (sq_of A.hl)) ea_nil) (by show 1 ≤ 100000; decide)) (ev_fld (ev_var rfl) A.ha T.cl T.nL fl_laid) A.hl (by show 1 + _ ≤ _; omega)) (el_lst (ea_cons (ev_len (K := K) (ev_fld (ev_var rfl) A.ha T.cl T.nT fl_terms) (sq_of A.ht)) ea_nil) (by show 1 ≤ 100000; decide)) (by rw [List.length_append]; show 1 + _ + 1 ≤ _; omega)) fun p H1 hp e1 h1 => ?_
    have A1 := A.ex e1
    have hb : ∀ i, ((Sr58.coins d : Int) :: (Sr58.laidTold d ++ (d.terms.length : Int) :: (d.terms.take i).flatMap Sr58.tellTerm)).length ≤ 900 := fun i => by
      have h1 := Pz.flat_len Sr58.tellTerm 73 (d.terms.take i) fun t ht => Pz.tellTerm_len (R.1.terms t (List.mem_of_mem_take ht))
      have h3 : (d.terms.take i).length * 73 ≤ 12 * 73 := Nat.mul_le_mul_right _ (by rw [List.length_take]; omega)
      rw [List.length_cons, List.length_append, List.length_cons, ← R.2.1]
      omega
    refine q_forLn (K := K) (xs := us) (ev_fld (ev_var rfl) A1.ha T.cl T.nT fl_terms) (sq_of A1.ht) (fun i σ H' => ∃ u, σ = [some (.ref a), some (.ref p), u] ∧ Ex H H' ∧ H' p = some (.lst (iv ((Sr58.coins d : Int) :: (Sr58.laidTold d ++ (d.terms.length : Int) :: (d.terms.take i).flatMap Sr58.tellTerm)))))
      (fun H2 e2 => ⟨none, rfl, e1.trans e2, ?_⟩) (fun i σ H' _ ⟨_, _, e2, _⟩ => sq_of (A.ex e2).ht) ?_ ?_
    · rw [e2 _ _ h1]
      show some (HO.lst ([V.int ((iv m.ls).length : Int)] ++ iv m.ls ++ [V.int (us.length : Int)])) = _
      rw [eL, l2, ← R.1.coins, L1, L2, R.2.1]
      show some (HO.lst (V.int _ :: iv (Sr58.laidTold d) ++ [V.int _])) = some (HO.lst (iv (_ :: (Sr58.laidTold d ++ [(d.terms.length : Int)]))))
      show some (HO.lst (V.int _ :: (iv (Sr58.laidTold d) ++ [V.int _]))) = some (HO.lst (V.int _ :: iv (Sr58.laidTold d ++ [(d.terms.length : Int)])))
      rw [iv_app]
      rfl
    · rintro i x σ H2 hi ⟨u, rfl, e2, h2⟩
      have A2 := A.ex e2
      obtain ⟨t3, ht3, ta, q, rfl, hta, hq⟩ := A2.pt.2 i x hi
      have gt : ∃ t, d.terms[i]? = some t ∧ t3 = enc t := by
        rw [R.2.2.1, List.getElem?_map] at ht3
        cases e : d.terms[i]? with
        | none =>
          rw [e] at ht3
          cases ht3
        | some t =>
          rw [e] at ht3
          exact ⟨t, rfl, (Option.some.inj ht3).symm⟩
      obtain ⟨t, ht, rfl⟩ := gt
      have hb1 := hb (i + 1)
      have eo : ((Sr58.coins d : Int) :: (Sr58.laidTold d ++ (d.terms.length : Int) :: (d.terms.take (i + 1)).flatMap Sr58.tellTerm)) = ((Sr58.coins d : Int) :: (Sr58.laidTold d ++ (d.terms.length : Int) :: (d.terms.take i).flatMap Sr58.tellTerm)) ++ [(enc t).1, (enc t).2.1, ((enc t).2.2.length : Int)] ++ (enc t).2.2 := by
        rw [take_one ht, List.flatMap_append, List.append_assoc, ← tell_enc]
        show _ :: (Sr58.laidTold d ++ _ :: (_ ++ (Sr58.tellTerm t ++ []))) = _ :: (Sr58.laidTold d ++ _ :: _ ++ Sr58.tellTerm t)
        rw [List.append_nil, List.append_assoc]
        rfl
      rw [eo] at hb1 ⊢
      generalize ((Sr58.coins d : Int) :: (Sr58.laidTold d ++ (d.terms.length : Int) :: (d.terms.take i).flatMap Sr58.tellTerm)) = out at *
      have qp : q ≠ p := fun z => by
        have := A.gh _ _ hq
        rw [z, hp] at this
        cases this
      have hq2 : H2 q = some (.lst (iv (enc t).2.2)) := A2.gh _ _ hq
      rw [List.length_append, List.length_append] at hb1
      refine q_ext (K := K) h2 (ev_var rfl) (el_lst (ea_cons (ev_op (ev_var rfl) ev_c (rv_ixT (K := K) hta (at_of (j := 0) rfl rfl))) (ea_cons (ev_op (ev_var rfl) ev_c (rv_ixT (K := K) hta (at_of (j := 1) rfl rfl))) (ea_cons (ev_len (K := K) (ev_op (ev_var rfl) ev_c (rv_ixT (K := K) hta (at_of (j := 2) rfl rfl))) (sq_of hq2)) ea_nil))) (by show 3 ≤ 100000; decide)) (by rw [iv_len]; show _ + 3 ≤ _; omega) fun H3 e3 => ?_
      have tp : SqT K (upd H3 p (.lst (iv out ++ [V.int (enc t).1, V.int (enc t).2.1, V.int ((iv (enc t).2.2).length : Int)]))) ta [.int (enc t).1, .int (enc t).2.1, .ref q] := sqT_upd (ex_t e3 hta) (notTup_lst (e3 _ _ h2))
      refine s_ext (K := K) upd_same (ev_var rfl) (by rw [upd_ne qp]; exact e3 _ _ hq2) (ev_op (ev_var rfl) ev_c (rv_ixT (K := K) tp (at_of (j := 2) rfl rfl))) (by rw [List.length_append, iv_len, iv_len]; show _ + 3 + _ ≤ _; omega) fun H4 e4 => ?_
      refine ⟨_, rfl, Ex.mut ((Ex.mut (e2.trans e3) hp).trans e4) hp, ?_⟩
      rw [upd_same, iv_app, iv_app]
      show some (HO.lst (iv out ++ [V.int (enc t).1, V.int (enc t).2.1, V.int ((iv (enc t).2.2).length : Int)] ++ iv (enc t).2.2)) = some (HO.lst (iv out ++ [V.int (enc t).1, V.int (enc t).2.1, V.int ((enc t).2.2.length : Int)] ++ iv (enc t).2.2))
      rw [iv_len]
    · rintro σ H2 ⟨u, rfl, e2, h2⟩
      rw [L1, L2, List.take_length] at h2
      exact s_ret (ev_var rfl) fun H3 e3 => k p H3 hp (e2.trans e3) (e3 _ _ h2)
end
end Co
end
section
set_option maxRecDepth 100000
set_option maxHeartbeats 4000000
set_option linter.unusedVariables false
namespace Co
open PySem PySem.Spec PyProof.Rows L2 Evl Gn Mn Dk Bs
section
variable {σ : L2.St} {H : Hp} {ta : TE} {D : Ends} {a C dx : Addr} {fs : List (Str × V)} {m : Str} {sp : Sp} {dvs vs : List V} {E : XK} {t : TA}
theorem s_retM (ho : Ev ta σ H (.ref a)) (ha : H a = some (.ins C dx fs)) (hn : fs.lookup m = none) (ht : EvA t σ H vs) (hs : ∀ H1, Ex H H1 → sp (.ref a :: (vs ++ dvs)) H1 D.rt E) : tRet (tMeth C m sp dvs E ta t) D σ H :=
  ho H (Ex.refl H) _ fun H1 e1 => ⟨a, dx, fs, rfl, e1 _ _ ha, hn, ht H1 e1 _ fun H2 e2 => hs H2 (e1.trans e2)⟩
/-- [o.m(..)] -/
theorem s_retLM (ho : Ev ta σ H (.ref a)) (ha : H a = some (.ins C dx fs)) (hn : fs.lookup m = none) (ht : EvA t σ H vs) (hs : ∀ H1, Ex H H1 → sp (.ref a :: (vs ++ dvs)) H1 (fun v H2 => ([v] : List V).length ≤ sizeLine ∧ ∀ p, H2 p = none → D.rt (.ref p) (upd H2 p (.lst [v]))) E) : tRet (tLst (tCons (tMeth C m sp dvs E ta t) tNil)) D σ H :=
  ho H (Ex.refl H) _ fun H1 e1 => ⟨a, dx, fs, rfl, e1 _ _ ha, hn, ht H1 e1 _ fun H2 e2 => hs H2 (e1.trans e2)⟩
/-- f(..), [f(..)] -/
theorem s_retC (ht : EvA t σ H vs) (hs : ∀ H1, Ex H H1 → sp (vs ++ dvs) H1 D.rt E) : tRet (tCall sp dvs E t) D σ H := ht H (Ex.refl H) _ fun H1 e1 => hs H1 e1
theorem s_retLC (ht : EvA t σ H vs) (hs : ∀ H1, Ex H H1 → sp (vs ++ dvs) H1 (fun v H2 => ([v] : List V).length ≤ sizeLine ∧ ∀ p, H2 p = none → D.rt (.ref p) (upd H2 p (.lst [v]))) E) : tRet (tLst (tCons (tCall sp dvs E t) tNil)) D σ H := ht H (Ex.refl H) _ fun H1 e1 => hs H1 e1
end
/-- a method that keeps a promise -/
def MOk (P : Program) (w : World) (K : PySem.W.Frag) (mg : Str → Option Value) (base : Heap) (C : Addr) (m : Str) (k : Nat) (ps : List Str) (sp : Sp) : Prop := ∃ (f : Addr) (fd : FuncData), FnOk P w K mg base CX0 k f fd ps sp ∧ Binds K fd ps [] ∧ Meth K C m f
/-- a def that keeps a promise -/
def FOk (P : Program) (w : World) (K : PySem.W.Frag) (mg : Str → Option Value) (base : Heap) (x : Str) (k : Nat) (ps : List Str) (sp : Sp) : Prop := ∃ (f : Addr) (fd : FuncData), FnOk P w K mg base CX0 k f fd ps sp ∧ Binds K fd ps [] ∧ PySem.W.keepIn K (.ref f) = true ∧ mg x = some (.ref f)
/-! ### which call it is -/
section
variable {xs row : List Int} {x : Sr58.Call}

theorem c0 (h : Pz.callOf 0 xs row = some x) : ∃ u1, xs = [u1] ∧ x = .begin_ u1 := by
  match xs, h with
  | [], h => simp [Pz.callOf] at h
  | [u1], h => exact ⟨u1, rfl, (Option.some.inj h).symm⟩
  | [_, _], h => simp [Pz.callOf] at h
  | [_, _, _], h => simp [Pz.callOf] at h
  | _ :: _ :: _ :: _ :: _, h => simp [Pz.callOf] at h
theorem c1 (h : Pz.callOf 1 xs row = some x) : ∃ u1 u2 u3, xs = [u1, u2, u3] ∧ x = .coin u1 u2 u3 := by
  match xs, h with
  | [], h => simp [Pz.callOf] at h
  | [_], h => simp [Pz.callOf] at h
  | [_, _], h => simp [Pz.callOf] at h
  | [u1, u2, u3], h => exact ⟨u1, u2, u3, rfl, (Option.some.inj h).symm⟩
  | _ :: _ :: _ :: _ :: _, h => simp [Pz.callOf] at h
theorem c2 (h : Pz.callOf 2 xs row = some x) : ∃ u1, xs = [u1] ∧ x = .all u1 row := by
  match xs, h with
  | [], h => simp [Pz.callOf] at h
  | [u1], h => exact ⟨u1, rfl, (Option.some.inj h).symm⟩
  | [_, _], h => simp [Pz.callOf] at h
  | [_, _, _], h => simp [Pz.callOf] at h
  | _ :: _ :: _ :: _ :: _, h => simp [Pz.callOf] at h
theorem c3 (h : Pz.callOf 3 xs row = some x) : ∃ u1 u2, xs = [u1, u2] ∧ x = .many u1 u2 row := by
  match xs, h with
  | [], h => simp [Pz.callOf] at h
  | [_], h => simp [Pz.callOf] at h
  | [u1, u2], h => exact ⟨u1, u2, rfl, (Option.some.inj h).symm⟩
  | [_, _, _], h => simp [Pz.callOf] at h
  | _ :: _ :: _ :: _ :: _, h => simp [Pz.callOf] at h
theorem c4 (h : Pz.callOf 4 xs row = some x) : ∃ u1, xs = [u1] ∧ x = .drop u1 := by
  match xs, h with
  | [], h => simp [Pz.callOf] at h
  | [u1], h => exact ⟨u1, rfl, (Option.some.inj h).symm⟩
  | [_, _], h => simp [Pz.callOf] at h
  | [_, _, _], h => simp [Pz.callOf] at h
  | _ :: _ :: _ :: _ :: _, h => simp [Pz.callOf] at h
theorem c5 (h : Pz.callOf 5 xs row = some x) : ∃ u1, xs = [u1] ∧ x = .want u1 := by
  match xs, h with
  | [], h => simp [Pz.callOf] at h
  | [u1], h => exact ⟨u1, rfl, (Option.some.inj h).symm⟩
  | [_, _], h => simp [Pz.callOf] at h
  | [_, _, _], h => simp [Pz.callOf] at h
  | _ :: _ :: _ :: _ :: _, h => simp [Pz.callOf] at h
theorem c6 (h : Pz.callOf 6 xs row = some x) : ∃ u1 u2, xs = [u1, u2] ∧ x = .lay u1 u2 := by
  match xs, h with
  | [], h => simp [Pz.callOf] at h
  | [_], h => simp [Pz.callOf] at h
  | [u1, u2], h => exact ⟨u1, u2, rfl, (Option.some.inj h).symm⟩
  | [_, _, _], h => simp [Pz.callOf] at h
  | _ :: _ :: _ :: _ :: _, h => simp [Pz.callOf] at h
theorem c7 (h : Pz.callOf 7 xs row = some x) : ∃ u1, xs = [u1] ∧ x = .lift u1 := by
  match xs, h with
  | [], h => simp [Pz.callOf] at h
  | [u1], h => exact ⟨u1, rfl, (Option.some.inj h).symm⟩
  | [_, _], h => simp [Pz.callOf] at h
  | [_, _, _], h => simp [Pz.callOf] at h
  | _ :: _ :: _ :: _ :: _, h => simp [Pz.callOf] at h
theorem c8 (h : Pz.callOf 8 xs row = some x) : ∃ u1, xs = [u1] ∧ x = .choose u1 := by
  match xs, h with
  | [], h => simp [Pz.callOf] at h
  | [u1], h => exact ⟨u1, rfl, (Option.some.inj h).symm⟩
  | [_, _], h => simp [Pz.callOf] at h
  | [_, _, _], h => simp [Pz.callOf] at h
  | _ :: _ :: _ :: _ :: _, h => simp [Pz.callOf] at h
theorem c9 (h : Pz.callOf 9 xs row = some x) : xs = [] ∧ x = .run row := by
  match xs, h with
  | [], h => exact ⟨rfl, (Option.some.inj h).symm⟩
  | [_], h => simp [Pz.callOf] at h
  | [_, _], h => simp [Pz.callOf] at h
  | [_, _, _], h => simp [Pz.callOf] at h
  | _ :: _ :: _ :: _ :: _, h => simp [Pz.callOf] at h
theorem c10 (h : Pz.callOf 10 xs row = some x) : xs = [] ∧ x = .mean := by
  match xs, h with
  | [], h => exact ⟨rfl, (Option.some.inj h).symm⟩
  | [_], h => simp [Pz.callOf] at h
  | [_, _], h => simp [Pz.callOf] at h
  | [_, _, _], h => simp [Pz.callOf] at h
  | _ :: _ :: _ :: _ :: _, h => simp [Pz.callOf] at h
theorem c11 (h : Pz.callOf 11 xs row = some x) : ∃ u1 u2, xs = [u1, u2] ∧ x = .meanif u1 u2 := by
  match xs, h with
  | [], h => simp [Pz.callOf] at h
  | [_], h => simp [Pz.callOf] at h
  | [u1, u2], h => exact ⟨u1, u2, rfl, (Option.some.inj h).symm⟩
  | [_, _, _], h => simp [Pz.callOf] at h
  | _ :: _ :: _ :: _ :: _, h => simp [Pz.callOf] at h
theorem c12 (h : Pz.callOf 12 xs row = some x) : ∃ u1, xs = [u1] ∧ x = .chance u1 := by
  match xs, h with
  | [], h => simp [Pz.callOf] at h
  | [u1], h => exact ⟨u1, rfl, (Option.some.inj h).symm⟩
  | [_, _], h => simp [Pz.callOf] at h
  | [_, _, _], h => simp [Pz.callOf] at h
  | _ :: _ :: _ :: _ :: _, h => simp [Pz.callOf] at h
theorem c13 (h : Pz.callOf 13 xs row = some x) : xs = [] ∧ x = .worth := by
  match xs, h with
  | [], h => exact ⟨rfl, (Option.some.inj h).symm⟩
  | [_], h => simp [Pz.callOf] at h
  | [_, _], h => simp [Pz.callOf] at h
  | [_, _, _], h => simp [Pz.callOf] at h
  | _ :: _ :: _ :: _ :: _, h => simp [Pz.callOf] at h
theorem c14 (h : Pz.callOf 14 xs row = some x) : xs = [] ∧ x = .best := by
  match xs, h with
  | [], h => exact ⟨rfl, (Option.some.inj h).symm⟩
  | [_], h => simp [Pz.callOf] at h
  | [_, _], h => simp [Pz.callOf] at h
  | [_, _, _], h => simp [Pz.callOf] at h
  | _ :: _ :: _ :: _ :: _, h => simp [Pz.callOf] at h
theorem c15 (h : Pz.callOf 15 xs row = some x) : ∃ u1, xs = [u1] ∧ x = .swing u1 := by
  match xs, h with
  | [], h => simp [Pz.callOf] at h
  | [u1], h => exact ⟨u1, rfl, (Option.some.inj h).symm⟩
  | [_, _], h => simp [Pz.callOf] at h
  | [_, _, _], h => simp [Pz.callOf] at h
  | _ :: _ :: _ :: _ :: _, h => simp [Pz.callOf] at h
theorem c16 (h : Pz.callOf 16 xs row = some x) : xs = [] ∧ x = .table := by
  match xs, h with
  | [], h => exact ⟨rfl, (Option.some.inj h).symm⟩
  | [_], h => simp [Pz.callOf] at h
  | [_, _], h => simp [Pz.callOf] at h
  | [_, _, _], h => simp [Pz.callOf] at h
  | _ :: _ :: _ :: _ :: _, h => simp [Pz.callOf] at h
theorem c17 (h : Pz.callOf 17 xs row = some x) : xs = [] ∧ x = .clear := by
  match xs, h with
  | [], h => exact ⟨rfl, (Option.some.inj h).symm⟩
  | [_], h => simp [Pz.callOf] at h
  | [_, _], h => simp [Pz.callOf] at h
  | [_, _, _], h => simp [Pz.callOf] at h
  | _ :: _ :: _ :: _ :: _, h => simp [Pz.callOf] at h
theorem c_lt {j : Nat} (h : Pz.callOf j xs row = some x) : j < 18 := by
  refine Classical.byContradiction fun q => ?_
  obtain ⟨k, rfl⟩ : ∃ k, j = k + 18 := ⟨j - 18, by omega⟩
  match xs, h with
  | [], h => simp [Pz.callOf] at h
  | [_], h => simp [Pz.callOf] at h
  | [_, _], h => simp [Pz.callOf] at h
  | [_, _, _], h => simp [Pz.callOf] at h
  | _ :: _ :: _ :: _ :: _, h => simp [Pz.callOf] at h
end
section
variable {P : Program} {w : World} {K : PySem.W.Frag} {mg : Str → Option Value} {base : Heap} {f C : Addr} {fd : FuncData} {G F H H' : Hp} {a : Addr} {d d' : Sr58.Desk} {c : Sr58.Call} {z : Int} {Q : VK}

/-! ### one_number -/
abbrev sOne : Stmt := top 48
abbrev nOne : List Str := ["coins", "call", "numbers", "row"]
theorem scOne : FnScope nOne nOne (defScope sOne) := ⟨rfl, rfl, rfl, by decide +kernel, rfl, by decide +kernel, by decide +kernel⟩
def spOne (K : PySem.W.Frag) (C : Addr) : Sp := fun vs H Q _ => ∃ (G F : Hp) (a : Addr) (d : Sr58.Desk) (j : Nat) (xs row : List Int) (pn pr : Addr) (x : Sr58.Call), vs = [.ref a, .int (j : Int), .ref pn, .ref pr] ∧ At K C G F H a (some d) ∧ SqL K G pn (iv xs) ∧ G pr = some (.lst (iv row)) ∧ row.length ≤ 70 ∧ Pz.callOf j xs row = some x ∧ (1 ≤ j ∧ j ≤ 8) ∧ ∀ H', At K C G F H' a (some (nxt d x)) → Q (.int (Sr58.doing d x).2.num) H'
theorem ok_one_number (F : Fun K "one_number" "one_number" sOne f fd) (T : Txt K mg C) (g1 : GI mg "COIN" 1) (g2 : GI mg "ALL" 2) (g3 : GI mg "MANY" 3) (g4 : GI mg "DROP" 4) (g5 : GI mg "WANT" 5) (g6 : GI mg "LAY" 6) (g7 : GI mg "LIFT" 7)
    (h1 : MOk P w K mg base C "coin" 2 ["self", "i", "a", "b"] (spCoin K C)) (h2 : MOk P w K mg base C "add_all" 2 ["self", "w", "row"] (spAddAll K C)) (h3 : MOk P w K mg base C "add_many" 2 ["self", "w", "t", "row"] (spAddMany K C)) (h4 : MOk P w K mg base C "drop" 2 ["self", "j"] (spDrop K C)) (h5 : MOk P w K mg base C "want" 1 ["self", "s"] (spWant K C)) (h6 : MOk P w K mg base C "lay" 3 ["self", "i", "v"] (spLay K C)) (h7 : MOk P w K mg base C "lift" 2 ["self", "i"] (spLift K C)) (h8 : MOk P w K mg base C "choose" 7 ["self", "i"] (spChoose K C)) : FnOk P w K mg base CX0 8 f fd nOne (spOne K C) := by
  obtain ⟨f1, fd1, G1, b1, m1⟩ := h1
  obtain ⟨f2, fd2, G2, b2, m2⟩ := h2
  obtain ⟨f3, fd3, G3, b3, m3⟩ := h3
  obtain ⟨f4, fd4, G4, b4, m4⟩ := h4
  obtain ⟨f5, fd5, G5, b5, m5⟩ := h5
  obtain ⟨f6, fd6, G6, b6, m6⟩ := h6
  obtain ⟨f7, fd7, G7, b7, m7⟩ := h7
  obtain ⟨f8, fd8, G8, b8, m8⟩ := h8
  refine F.ok scOne (fun vs H Q E h => ?_) (fun cdv A outer s H vs Q E hr h => ?_)
  · obtain ⟨G, F, a, d, j, xs, row, pn, pr, x, rfl, _⟩ := h
    rfl
  · obtain ⟨G, F, a, d, j, xs, row, pn, pr, x, rfl, hAt, hpn, hpr, hrow, hcall, hj, k⟩ := h
    obtain ⟨mm, R, dx, lc, ll, lt, rs, us, A⟩ := id hAt
    have hr1 : Room 1 _ := hr.mono (by decide)
    have hr2 : Room 2 _ := hr.mono (by decide)
    have hr3 : Room 3 _ := hr.mono (by decide)
    have hr7 : Room 7 _ := hr.mono (by decide)
    refine ⟨_, (pss_cons (ps_if (pt_cmpR op_eq (pv 1) (pe_gi rfl g1) (nomark _)) (pss_one (ps_ret (pe_meth (pv 0) T.cl m1 G1 hr2 b1 .nil pass0 (pa_cons (pe_ix ix_list (pv 2) pe_int (fun _ _ => rfl)) (pa_cons (pe_ix ix_list (pv 2) pe_int (fun _ _ => rfl)) (pa_cons (pe_ix ix_list (pv 2) pe_int (fun _ _ => rfl)) pa_nil)))))) pss_nil)
      (pss_cons (ps_if (pt_cmpR op_eq (pv 1) (pe_gi rfl g2) (nomark _)) (pss_one (ps_ret (pe_meth (pv 0) T.cl m2 G2 hr2 b2 .nil pass0 (pa_cons (pe_ix ix_list (pv 2) pe_int (fun _ _ => rfl)) (pa_cons (pv 3) pa_nil))))) pss_nil)
      (pss_cons (ps_if (pt_cmpR op_eq (pv 1) (pe_gi rfl g3) (nomark _)) (pss_one (ps_ret (pe_meth (pv 0) T.cl m3 G3 hr2 b3 .nil pass0 (pa_cons (pe_ix ix_list (pv 2) pe_int (fun _ _ => rfl)) (pa_cons (pe_ix ix_list (pv 2) pe_int (fun _ _ => rfl)) (pa_cons (pv 3) pa_nil)))))) pss_nil)
      (pss_cons (ps_if (pt_cmpR op_eq (pv 1) (pe_gi rfl g4) (nomark _)) (pss_one (ps_ret (pe_meth (pv 0) T.cl m4 G4 hr2 b4 .nil pass0 (pa_cons (pe_ix ix_list (pv 2) pe_int (fun _ _ => rfl)) pa_nil)))) pss_nil)
      (pss_cons (ps_if (pt_cmpR op_eq (pv 1) (pe_gi rfl g5) (nomark _)) (pss_one (ps_ret (pe_meth (pv 0) T.cl m5 G5 hr1 b5 .nil pass0 (pa_cons (pe_ix ix_list (pv 2) pe_int (fun _ _ => rfl)) pa_nil)))) pss_nil)
      (pss_cons (ps_if (pt_cmpR op_eq (pv 1) (pe_gi rfl g6) (nomark _)) (pss_one (ps_ret (pe_meth (pv 0) T.cl m6 G6 hr3 b6 .nil pass0 (pa_cons (pe_ix ix_list (pv 2) pe_int (fun _ _ => rfl)) (pa_cons (pe_ix ix_list (pv 2) pe_int (fun _ _ => rfl)) pa_nil))))) pss_nil)
      (pss_cons (ps_if (pt_cmpR op_eq (pv 1) (pe_gi rfl g7) (nomark _)) (pss_one (ps_ret (pe_meth (pv 0) T.cl m7 G7 hr2 b7 .nil pass0 (pa_cons (pe_ix ix_list (pv 2) pe_int (fun _ _ => rfl)) pa_nil)))) pss_nil)
      (pss_one (ps_ret (pe_meth (pv 0) T.cl m8 G8 hr7 b8 .nil pass0 (pa_cons (pe_ix ix_list (pv 2) pe_int (fun _ _ => rfl)) pa_nil))))))))))), ?_⟩
    have hn : SqL K H pn (iv xs) := ex_l A.gh hpn
    have hcs : j = 1 ∨ j = 2 ∨ j = 3 ∨ j = 4 ∨ j = 5 ∨ j = 6 ∨ j = 7 ∨ j = 8 := by omega
    rcases hcs with rfl | rfl | rfl | rfl | rfl | rfl | rfl | rfl
    · obtain ⟨u1, u2, u3, rfl, rfl⟩ := c1 hcall
      refine q_yes (et_eqI (ev_var rfl) ev_c (by decide)) fun H1 e1 => ?_
      have e0 := ((Ex.refl H).trans e1)
      exact s_retM (ev_var rfl) (A.ex e0).ha (fl_no (by decide +kernel)) (ea_cons (ev_op (ev_var rfl) ev_c (rv_ixL (K := K) (ex_l e0 hn) (at_of (j := 0) rfl rfl))) (ea_cons (ev_op (ev_var rfl) ev_c (rv_ixL (K := K) (ex_l e0 hn) (at_of (j := 1) rfl rfl))) (ea_cons (ev_op (ev_var rfl) ev_c (rv_ixL (K := K) (ex_l e0 hn) (at_of (j := 2) rfl rfl))) ea_nil))) fun H9 e9 => ⟨G, F, a, d, u1, u2, u3, rfl, hAt.ex (e0.trans e9), k⟩
    · obtain ⟨u1, rfl, rfl⟩ := c2 hcall
      refine q_no (et_eqI (ev_var rfl) ev_c (by decide)) fun H1 e1 => ?_
      refine q_yes (et_eqI (ev_var rfl) ev_c (by decide)) fun H2 e2 => ?_
      have e0 := (((Ex.refl H).trans e1).trans e2)
      exact s_retM (ev_var rfl) (A.ex e0).ha (fl_no (by decide +kernel)) (ea_cons (ev_op (ev_var rfl) ev_c (rv_ixL (K := K) (ex_l e0 hn) (at_of (j := 0) rfl rfl))) (ea_cons (ev_var rfl) ea_nil)) fun H9 e9 => ⟨G, F, a, d, _, u1, _, rfl, hAt.ex (e0.trans e9), hpr, hrow, k⟩
    · obtain ⟨u1, u2, rfl, rfl⟩ := c3 hcall
      refine q_no (et_eqI (ev_var rfl) ev_c (by decide)) fun H1 e1 => ?_
      refine q_no (et_eqI (ev_var rfl) ev_c (by decide)) fun H2 e2 => ?_
      refine q_yes (et_eqI (ev_var rfl) ev_c (by decide)) fun H3 e3 => ?_
      have e0 := ((((Ex.refl H).trans e1).trans e2).trans e3)
      exact s_retM (ev_var rfl) (A.ex e0).ha (fl_no (by decide +kernel)) (ea_cons (ev_op (ev_var rfl) ev_c (rv_ixL (K := K) (ex_l e0 hn) (at_of (j := 0) rfl rfl))) (ea_cons (ev_op (ev_var rfl) ev_c (rv_ixL (K := K) (ex_l e0 hn) (at_of (j := 1) rfl rfl))) (ea_cons (ev_var rfl) ea_nil))) fun H9 e9 => ⟨G, F, a, d, _, u1, u2, _, rfl, hAt.ex (e0.trans e9), hpr, hrow, k⟩
    · obtain ⟨u1, rfl, rfl⟩ := c4 hcall
      refine q_no (et_eqI (ev_var rfl) ev_c (by decide)) fun H1 e1 => ?_
      refine q_no (et_eqI (ev_var rfl) ev_c (by decide)) fun H2 e2 => ?_
      refine q_no (et_eqI (ev_var rfl) ev_c (by decide)) fun H3 e3 => ?_
      refine q_yes (et_eqI (ev_var rfl) ev_c (by decide)) fun H4 e4 => ?_
      have e0 := (((((Ex.refl H).trans e1).trans e2).trans e3).trans e4)
      exact s_retM (ev_var rfl) (A.ex e0).ha (fl_no (by decide +kernel)) (ea_cons (ev_op (ev_var rfl) ev_c (rv_ixL (K := K) (ex_l e0 hn) (at_of (j := 0) rfl rfl))) ea_nil) fun H9 e9 => ⟨G, F, a, d, u1, rfl, hAt.ex (e0.trans e9), k⟩
    · obtain ⟨u1, rfl, rfl⟩ := c5 hcall
      refine q_no (et_eqI (ev_var rfl) ev_c (by decide)) fun H1 e1 => ?_
      refine q_no (et_eqI (ev_var rfl) ev_c (by decide)) fun H2 e2 => ?_
      refine q_no (et_eqI (ev_var rfl) ev_c (by decide)) fun H3 e3 => ?_
      refine q_no (et_eqI (ev_var rfl) ev_c (by decide)) fun H4 e4 => ?_
      refine q_yes (et_eqI (ev_var rfl) ev_c (by decide)) fun H5 e5 => ?_
      have e0 := ((((((Ex.refl H).trans e1).trans e2).trans e3).trans e4).trans e5)
      exact s_retM (ev_var rfl) (A.ex e0).ha (fl_no (by decide +kernel)) (ea_cons (ev_op (ev_var rfl) ev_c (rv_ixL (K := K) (ex_l e0 hn) (at_of (j := 0) rfl rfl))) ea_nil) fun H9 e9 => ⟨G, F, a, d, u1, rfl, hAt.ex (e0.trans e9), k⟩
    · obtain ⟨u1, u2, rfl, rfl⟩ := c6 hcall
      refine q_no (et_eqI (ev_var rfl) ev_c (by decide)) fun H1 e1 => ?_
      refine q_no (et_eqI (ev_var rfl) ev_c (by decide)) fun H2 e2 => ?_
      refine q_no (et_eqI (ev_var rfl) ev_c (by decide)) fun H3 e3 => ?_
      refine q_no (et_eqI (ev_var rfl) ev_c (by decide)) fun H4 e4 => ?_
      refine q_no (et_eqI (ev_var rfl) ev_c (by decide)) fun H5 e5 => ?_
      refine q_yes (et_eqI (ev_var rfl) ev_c (by decide)) fun H6 e6 => ?_
      have e0 := (((((((Ex.refl H).trans e1).trans e2).trans e3).trans e4).trans e5).trans e6)
      exact s_retM (ev_var rfl) (A.ex e0).ha (fl_no (by decide +kernel)) (ea_cons (ev_op (ev_var rfl) ev_c (rv_ixL (K := K) (ex_l e0 hn) (at_of (j := 0) rfl rfl))) (ea_cons (ev_op (ev_var rfl) ev_c (rv_ixL (K := K) (ex_l e0 hn) (at_of (j := 1) rfl rfl))) ea_nil)) fun H9 e9 => ⟨G, F, a, d, u1, u2, rfl, hAt.ex (e0.trans e9), k⟩
    · obtain ⟨u1, rfl, rfl⟩ := c7 hcall
      refine q_no (et_eqI (ev_var rfl) ev_c (by decide)) fun H1 e1 => ?_
      refine q_no (et_eqI (ev_var rfl) ev_c (by decide)) fun H2 e2 => ?_
      refine q_no (et_eqI (ev_var rfl) ev_c (by decide)) fun H3 e3 => ?_
      refine q_no (et_eqI (ev_var rfl) ev_c (by decide)) fun H4 e4 => ?_
      refine q_no (et_eqI (ev_var rfl) ev_c (by decide)) fun H5 e5 => ?_
      refine q_no (et_eqI (ev_var rfl) ev_c (by decide)) fun H6 e6 => ?_
      refine q_yes (et_eqI (ev_var rfl) ev_c (by decide)) fun H7 e7 => ?_
      have e0 := ((((((((Ex.refl H).trans e1).trans e2).trans e3).trans e4).trans e5).trans e6).trans e7)
      exact s_retM (ev_var rfl) (A.ex e0).ha (fl_no (by decide +kernel)) (ea_cons (ev_op (ev_var rfl) ev_c (rv_ixL (K := K) (ex_l e0 hn) (at_of (j := 0) rfl rfl))) ea_nil) fun H9 e9 => ⟨G, F, a, d, u1, rfl, hAt.ex (e0.trans e9), k⟩
    · obtain ⟨u1, rfl, rfl⟩ := c8 hcall
      refine q_no (et_eqI (ev_var rfl) ev_c (by decide)) fun H1 e1 => ?_
      refine q_no (et_eqI (ev_var rfl) ev_c (by decide)) fun H2 e2 => ?_
      refine q_no (et_eqI (ev_var rfl) ev_c (by decide)) fun H3 e3 => ?_
      refine q_no (et_eqI (ev_var rfl) ev_c (by decide)) fun H4 e4 => ?_
      refine q_no (et_eqI (ev_var rfl) ev_c (by decide)) fun H5 e5 => ?_
      refine q_no (et_eqI (ev_var rfl) ev_c (by decide)) fun H6 e6 => ?_
      refine q_no (et_eqI (ev_var rfl) ev_c (by decide)) fun H7 e7 => ?_
      have e0 := ((((((((Ex.refl H).trans e1).trans e2).trans e3).trans e4).trans e5).trans e6).trans e7)
      exact s_retM (ev_var rfl) (A.ex e0).ha (fl_no (by decide +kernel)) (ea_cons (ev_op (ev_var rfl) ev_c (rv_ixL (K := K) (ex_l e0 hn) (at_of (j := 0) rfl rfl))) ea_nil) fun H9 e9 => ⟨G, F, a, d, u1, rfl, hAt.ex (e0.trans e9), k⟩
/-! ### some_numbers -/
abbrev sSome : Stmt := top 49
abbrev nSome : List Str := ["coins", "call", "numbers", "row"]
theorem scSome : FnScope nSome nSome (defScope sSome) := ⟨rfl, rfl, rfl, by decide +kernel, rfl, by decide +kernel, by decide +kernel⟩
def spSome (K : PySem.W.Frag) (C : Addr) : Sp := fun vs H Q _ => ∃ (G F : Hp) (a : Addr) (d : Sr58.Desk) (j : Nat) (xs row : List Int) (pn pr : Addr) (x : Sr58.Call), vs = [.ref a, .int (j : Int), .ref pn, .ref pr] ∧ At K C G F H a (some d) ∧ SqL K G pn (iv xs) ∧ G pr = some (.lst (iv row)) ∧ row.length ≤ 70 ∧ Pz.callOf j xs row = some x ∧ (9 ≤ j ∧ j ≤ 16) ∧ Done K C G F a d x Q
theorem ok_some_numbers (F : Fun K "some_numbers" "some_numbers" sSome f fd) (T : Txt K mg C) (g9 : GI mg "RUN" 9) (g10 : GI mg "MEAN" 10) (g11 : GI mg "MEANIF" 11) (g12 : GI mg "CHANCE" 12) (g13 : GI mg "WORTH" 13) (g14 : GI mg "BEST" 14) (g15 : GI mg "SWING" 15)
    (h9 : MOk P w K mg base C "run" 7 ["self", "row"] (spRun K C)) (h10 : MOk P w K mg base C "mean" 5 ["self"] (spMean K C)) (h11 : MOk P w K mg base C "mean_if" 6 ["self", "i", "v"] (spMeanF K C)) (h12 : MOk P w K mg base C "chance" 5 ["self", "j"] (spChance K C)) (h13 : MOk P w K mg base C "worth" 3 ["self"] (spWorth K C)) (h14 : MOk P w K mg base C "best" 3 ["self"] (spBest K C)) (h15 : MOk P w K mg base C "swing" 6 ["self", "i"] (spSwing K C)) (h16 : MOk P w K mg base C "table" 1 ["self"] (spTable K C)) : FnOk P w K mg base CX0 8 f fd nSome (spSome K C) := by
  obtain ⟨f9, fd9, G9, b9, m9⟩ := h9
  obtain ⟨f10, fd10, G10, b10, m10⟩ := h10
  obtain ⟨f11, fd11, G11, b11, m11⟩ := h11
  obtain ⟨f12, fd12, G12, b12, m12⟩ := h12
  obtain ⟨f13, fd13, G13, b13, m13⟩ := h13
  obtain ⟨f14, fd14, G14, b14, m14⟩ := h14
  obtain ⟨f15, fd15, G15, b15, m15⟩ := h15
  obtain ⟨f16, fd16, G16, b16, m16⟩ := h16
  refine F.ok scSome (fun vs H Q E h => ?_) (fun cdv A outer s H vs Q E hr h => ?_)
  · obtain ⟨G, F, a, d, j, xs, row, pn, pr, x, rfl, _⟩ := h
    rfl
  · obtain ⟨G, F, a, d, j, xs, row, pn, pr, x, rfl, hAt, hpn, hpr, hrow, hcall, hj, k⟩ := h
    obtain ⟨mm, R, dx, lc, ll, lt, rs, us, A⟩ := id hAt
    have hr1 : Room 1 _ := hr.mono (by decide)
    have hr3 : Room 3 _ := hr.mono (by decide)
    have hr5 : Room 5 _ := hr.mono (by decide)
    have hr6 : Room 6 _ := hr.mono (by decide)
    have hr7 : Room 7 _ := hr.mono (by decide)
    refine ⟨_, (pss_cons (ps_if (pt_cmpR op_eq (pv 1) (pe_gi rfl g9) (nomark _)) (pss_one (ps_ret (pe_meth (pv 0) T.cl m9 G9 hr7 b9 .nil pass0 (pa_cons (pv 3) pa_nil)))) pss_nil)
      (pss_cons (ps_if (pt_cmpR op_eq (pv 1) (pe_gi rfl g10) (nomark _)) (pss_one (ps_ret (pe_meth0 (pv 0) T.cl m10 G10 hr5 b10 .nil pass0))) pss_nil)
      (pss_cons (ps_if (pt_cmpR op_eq (pv 1) (pe_gi rfl g11) (nomark _)) (pss_one (ps_ret (pe_meth (pv 0) T.cl m11 G11 hr6 b11 .nil pass0 (pa_cons (pe_ix ix_list (pv 2) pe_int (fun _ _ => rfl)) (pa_cons (pe_ix ix_list (pv 2) pe_int (fun _ _ => rfl)) pa_nil))))) pss_nil)
      (pss_cons (ps_if (pt_cmpR op_eq (pv 1) (pe_gi rfl g12) (nomark _)) (pss_one (ps_ret (pe_meth (pv 0) T.cl m12 G12 hr5 b12 .nil pass0 (pa_cons (pe_ix ix_list (pv 2) pe_int (fun _ _ => rfl)) pa_nil)))) pss_nil)
      (pss_cons (ps_if (pt_cmpR op_eq (pv 1) (pe_gi rfl g13) (nomark _)) (pss_one (ps_ret (pe_meth0 (pv 0) T.cl m13 G13 hr3 b13 .nil pass0))) pss_nil)
      (pss_cons (ps_if (pt_cmpR op_eq (pv 1) (pe_gi rfl g14) (nomark _)) (pss_one (ps_ret (pe_meth0 (pv 0) T.cl m14 G14 hr3 b14 .nil pass0))) pss_nil)
      (pss_cons (ps_if (pt_cmpR op_eq (pv 1) (pe_gi rfl g15) (nomark _)) (pss_one (ps_ret (pe_meth (pv 0) T.cl m15 G15 hr6 b15 .nil pass0 (pa_cons (pe_ix ix_list (pv 2) pe_int (fun _ _ => rfl)) pa_nil)))) pss_nil)
      (pss_one (ps_ret (pe_meth0 (pv 0) T.cl m16 G16 hr1 b16 .nil pass0)))))))))), ?_⟩
    have hn : SqL K H pn (iv xs) := ex_l A.gh hpn
    have hcs : j = 9 ∨ j = 10 ∨ j = 11 ∨ j = 12 ∨ j = 13 ∨ j = 14 ∨ j = 15 ∨ j = 16 := by omega
    rcases hcs with rfl | rfl | rfl | rfl | rfl | rfl | rfl | rfl
    · obtain ⟨rfl, rfl⟩ := c9 hcall
      refine q_yes (et_eqI (ev_var rfl) ev_c (by decide)) fun H1 e1 => ?_
      have e0 := ((Ex.refl H).trans e1)
      exact s_retM (ev_var rfl) (A.ex e0).ha (fl_no (by decide +kernel)) (ea_cons (ev_var rfl) ea_nil) fun H9 e9 => ⟨G, F, a, d, _, _, rfl, hAt.ex (e0.trans e9), hpr, hrow, k⟩
    · obtain ⟨rfl, rfl⟩ := c10 hcall
      refine q_no (et_eqI (ev_var rfl) ev_c (by decide)) fun H1 e1 => ?_
      refine q_yes (et_eqI (ev_var rfl) ev_c (by decide)) fun H2 e2 => ?_
      have e0 := (((Ex.refl H).trans e1).trans e2)
      exact s_retM (ev_var rfl) (A.ex e0).ha (fl_no (by decide +kernel)) ea_nil fun H9 e9 => ⟨G, F, a, d, rfl, hAt.ex (e0.trans e9), fun p H8 hp e8 h8 => k H8 p (hAt.ex ((e0.trans e9).trans e8)) (fresh_back (hAt.ex (e0.trans e9)).fh hp) h8⟩
    · obtain ⟨u1, u2, rfl, rfl⟩ := c11 hcall
      refine q_no (et_eqI (ev_var rfl) ev_c (by decide)) fun H1 e1 => ?_
      refine q_no (et_eqI (ev_var rfl) ev_c (by decide)) fun H2 e2 => ?_
      refine q_yes (et_eqI (ev_var rfl) ev_c (by decide)) fun H3 e3 => ?_
      have e0 := ((((Ex.refl H).trans e1).trans e2).trans e3)
      exact s_retM (ev_var rfl) (A.ex e0).ha (fl_no (by decide +kernel)) (ea_cons (ev_op (ev_var rfl) ev_c (rv_ixL (K := K) (ex_l e0 hn) (at_of (j := 0) rfl rfl))) (ea_cons (ev_op (ev_var rfl) ev_c (rv_ixL (K := K) (ex_l e0 hn) (at_of (j := 1) rfl rfl))) ea_nil)) fun H9 e9 => ⟨G, F, a, d, u1, u2, rfl, hAt.ex (e0.trans e9), fun p H8 hp e8 h8 => k H8 p (hAt.ex ((e0.trans e9).trans e8)) (fresh_back (hAt.ex (e0.trans e9)).fh hp) h8⟩
    · obtain ⟨u1, rfl, rfl⟩ := c12 hcall
      refine q_no (et_eqI (ev_var rfl) ev_c (by decide)) fun H1 e1 => ?_
      refine q_no (et_eqI (ev_var rfl) ev_c (by decide)) fun H2 e2 => ?_
      refine q_no (et_eqI (ev_var rfl) ev_c (by decide)) fun H3 e3 => ?_
      refine q_yes (et_eqI (ev_var rfl) ev_c (by decide)) fun H4 e4 => ?_
      have e0 := (((((Ex.refl H).trans e1).trans e2).trans e3).trans e4)
      exact s_retM (ev_var rfl) (A.ex e0).ha (fl_no (by decide +kernel)) (ea_cons (ev_op (ev_var rfl) ev_c (rv_ixL (K := K) (ex_l e0 hn) (at_of (j := 0) rfl rfl))) ea_nil) fun H9 e9 => ⟨G, F, a, d, u1, rfl, hAt.ex (e0.trans e9), fun p H8 hp e8 h8 => k H8 p (hAt.ex ((e0.trans e9).trans e8)) (fresh_back (hAt.ex (e0.trans e9)).fh hp) h8⟩
    · obtain ⟨rfl, rfl⟩ := c13 hcall
      refine q_no (et_eqI (ev_var rfl) ev_c (by decide)) fun H1 e1 => ?_
      refine q_no (et_eqI (ev_var rfl) ev_c (by decide)) fun H2 e2 => ?_
      refine q_no (et_eqI (ev_var rfl) ev_c (by decide)) fun H3 e3 => ?_
      refine q_no (et_eqI (ev_var rfl) ev_c (by decide)) fun H4 e4 => ?_
      refine q_yes (et_eqI (ev_var rfl) ev_c (by decide)) fun H5 e5 => ?_
      have e0 := ((((((Ex.refl H).trans e1).trans e2).trans e3).trans e4).trans e5)
      exact s_retM (ev_var rfl) (A.ex e0).ha (fl_no (by decide +kernel)) ea_nil fun H9 e9 => ⟨G, F, a, d, rfl, hAt.ex (e0.trans e9), fun p H8 hp e8 h8 => k H8 p (hAt.ex ((e0.trans e9).trans e8)) (fresh_back (hAt.ex (e0.trans e9)).fh hp) h8⟩
    · obtain ⟨rfl, rfl⟩ := c14 hcall
      refine q_no (et_eqI (ev_var rfl) ev_c (by decide)) fun H1 e1 => ?_
      refine q_no (et_eqI (ev_var rfl) ev_c (by decide)) fun H2 e2 => ?_
      refine q_no (et_eqI (ev_var rfl) ev_c (by decide)) fun H3 e3 => ?_
      refine q_no (et_eqI (ev_var rfl) ev_c (by decide)) fun H4 e4 => ?_
      refine q_no (et_eqI (ev_var rfl) ev_c (by decide)) fun H5 e5 => ?_
      refine q_yes (et_eqI (ev_var rfl) ev_c (by decide)) fun H6 e6 => ?_
      have e0 := (((((((Ex.refl H).trans e1).trans e2).trans e3).trans e4).trans e5).trans e6)
      exact s_retM (ev_var rfl) (A.ex e0).ha (fl_no (by decide +kernel)) ea_nil fun H9 e9 => ⟨G, F, a, d, rfl, hAt.ex (e0.trans e9), fun p H8 hp e8 h8 => k H8 p (hAt.ex ((e0.trans e9).trans e8)) (fresh_back (hAt.ex (e0.trans e9)).fh hp) h8⟩
    · obtain ⟨u1, rfl, rfl⟩ := c15 hcall
      refine q_no (et_eqI (ev_var rfl) ev_c (by decide)) fun H1 e1 => ?_
      refine q_no (et_eqI (ev_var rfl) ev_c (by decide)) fun H2 e2 => ?_
      refine q_no (et_eqI (ev_var rfl) ev_c (by decide)) fun H3 e3 => ?_
      refine q_no (et_eqI (ev_var rfl) ev_c (by decide)) fun H4 e4 => ?_
      refine q_no (et_eqI (ev_var rfl) ev_c (by decide)) fun H5 e5 => ?_
      refine q_no (et_eqI (ev_var rfl) ev_c (by decide)) fun H6 e6 => ?_
      refine q_yes (et_eqI (ev_var rfl) ev_c (by decide)) fun H7 e7 => ?_
      have e0 := ((((((((Ex.refl H).trans e1).trans e2).trans e3).trans e4).trans e5).trans e6).trans e7)
      exact s_retM (ev_var rfl) (A.ex e0).ha (fl_no (by decide +kernel)) (ea_cons (ev_op (ev_var rfl) ev_c (rv_ixL (K := K) (ex_l e0 hn) (at_of (j := 0) rfl rfl))) ea_nil) fun H9 e9 => ⟨G, F, a, d, u1, rfl, hAt.ex (e0.trans e9), fun p H8 hp e8 h8 => k H8 p (hAt.ex ((e0.trans e9).trans e8)) (fresh_back (hAt.ex (e0.trans e9)).fh hp) h8⟩
    · obtain ⟨rfl, rfl⟩ := c16 hcall
      refine q_no (et_eqI (ev_var rfl) ev_c (by decide)) fun H1 e1 => ?_
      refine q_no (et_eqI (ev_var rfl) ev_c (by decide)) fun H2 e2 => ?_
      refine q_no (et_eqI (ev_var rfl) ev_c (by decide)) fun H3 e3 => ?_
      refine q_no (et_eqI (ev_var rfl) ev_c (by decide)) fun H4 e4 => ?_
      refine q_no (et_eqI (ev_var rfl) ev_c (by decide)) fun H5 e5 => ?_
      refine q_no (et_eqI (ev_var rfl) ev_c (by decide)) fun H6 e6 => ?_
      refine q_no (et_eqI (ev_var rfl) ev_c (by decide)) fun H7 e7 => ?_
      have e0 := ((((((((Ex.refl H).trans e1).trans e2).trans e3).trans e4).trans e5).trans e6).trans e7)
      exact s_retM (ev_var rfl) (A.ex e0).ha (fl_no (by decide +kernel)) ea_nil fun H9 e9 => ⟨G, F, a, d, rfl, hAt.ex (e0.trans e9), fun p H8 hp e8 h8 => k H8 p (hAt.ex ((e0.trans e9).trans e8)) (fresh_back (hAt.ex (e0.trans e9)).fh hp) h8⟩
/-! ### answer -/
theorem step_some {d : Sr58.Desk} {x : Sr58.Call} (h : ∀ n, x ≠ .begin_ n) : Sr58.step (some d) x = (some (nxt d x), (Sr58.doing d x).2) := by
  have key : (match Sr58.doing d x with
      | (some r, a) => ((some r : Sr58.State), a)
      | (none, a) => ((some d : Sr58.State), a)) = (some (nxt d x), (Sr58.doing d x).2) := by
    unfold nxt
    rcases e : Sr58.doing d x with ⟨o, a⟩
    cases o <;> rfl
  cases x
  case begin_ n => exact absurd rfl (h n)
  all_goals exact key
theorem step_none {x : Sr58.Call} (h : ∀ n, x ≠ .begin_ n) : Sr58.step none x = (none, Sr58.say (-11)) := by
  cases x
  case begin_ n => exact absurd rfl (h n)
  all_goals rfl
theorem not_begin {j : Nat} {xs row : List Int} {x : Sr58.Call} (h : Pz.callOf j xs row = some x) (hj : j ≠ 0) : ∀ n, x ≠ .begin_ n := by
  rintro n rfl
  unfold Pz.callOf at h
  split at h <;> first | exact absurd rfl hj | (simp at h)
theorem one_nums {j : Nat} {xs row : List Int} {x : Sr58.Call} (d : Sr58.Desk) (h : Pz.callOf j xs row = some x) (hj : 1 ≤ j ∧ j ≤ 8) : (Sr58.doing d x).2.nums = [] := by
  have hcs : j = 1 ∨ j = 2 ∨ j = 3 ∨ j = 4 ∨ j = 5 ∨ j = 6 ∨ j = 7 ∨ j = 8 := by omega
  rcases hcs with rfl | rfl | rfl | rfl | rfl | rfl | rfl | rfl
  · obtain ⟨a, b, c, rfl, rfl⟩ := c1 h
    simp only [Sr58.doing]
    split <;> (try rfl)
    split <;> rfl
  · obtain ⟨a, rfl, rfl⟩ := c2 h
    simp only [Sr58.doing]
    split <;> (try rfl)
    split <;> rfl
  · obtain ⟨a, b, rfl, rfl⟩ := c3 h
    simp only [Sr58.doing]
    split <;> (try rfl)
    split <;> rfl
  · obtain ⟨a, rfl, rfl⟩ := c4 h
    simp only [Sr58.doing]
    split <;> rfl
  · obtain ⟨a, rfl, rfl⟩ := c5 h
    simp only [Sr58.doing]
    split <;> rfl
  · obtain ⟨a, b, rfl, rfl⟩ := c6 h
    simp only [Sr58.doing]
    split <;> (try rfl)
    split <;> (try rfl)
    split <;> rfl
  · obtain ⟨a, rfl, rfl⟩ := c7 h
    simp only [Sr58.doing]
    split <;> (try rfl)
    split <;> rfl
  · obtain ⟨a, rfl, rfl⟩ := c8 h
    simp only [Sr58.doing]
    split <;> (try rfl)
    split <;> rfl
abbrev sAns : Stmt := top 50
abbrev nAns : List Str := ["coins", "call", "numbers", "row"]
theorem scAns : FnScope nAns nAns (defScope sAns) := ⟨rfl, rfl, rfl, by decide +kernel, rfl, by decide +kernel, by decide +kernel⟩
theorem sp_begun {st : Sr58.State} (A : At K C G F H a st) : SpV (spBegun K C) [.ref a] H (.bl st.isSome) := fun H1 e Q q E => ⟨G, F, a, st, rfl, A.ex e, fun H2 e2 => q H2 e2⟩
theorem begin_nums {st : Sr58.State} {n : Int} : (Sr58.step st (.begin_ n)).2.nums = [] := by
  simp only [Sr58.step]
  split <;> rfl
theorem At.ins {st : Sr58.State} (A : At K C G F H a st) : ∃ dx fs, H a = some (.ins C dx fs) ∧ ∀ m : Str, ((m == ("chances" : Str)) || (m == ("laid" : Str)) || (m == ("terms" : Str)) || (m == ("much" : Str))) = false → fs.lookup m = none := by
  obtain ⟨m, R, dx, lc, ll, lt, rs, us, A⟩ := A
  exact ⟨dx, _, A.ha, fun m h => fl_no h⟩
theorem ok_answer (F : Fun K "answer" "answer" sAns f fd) (T : Txt K mg C) (g0 : GI mg "BEGIN" 0) (g8 : GI mg "CHOOSE" 8) (g17 : GI mg "CLEAR" 17) (gN : GI mg "NOT_BEGUN" (-11))
    (h0 : MOk P w K mg base C "begin" 1 ["self", "n"] (spBegin K C)) (hB : MOk P w K mg base C "is_begun" 1 ["self"] (spBegun K C)) (hL : MOk P w K mg base C "lift_all" 1 ["self"] (spClear K C))
    (hO : FOk P w K mg base "one_number" 8 nOne (spOne K C)) (hS : FOk P w K mg base "some_numbers" 8 nSome (spSome K C)) : FnOk P w K mg base CX0 9 f fd nAns (spAnswer K C) := by
  obtain ⟨f0, fd0, G0, b0, m0⟩ := h0
  obtain ⟨fB, fdB, GB, bB, mB⟩ := hB
  obtain ⟨fL, fdL, GL, bL, mL⟩ := hL
  obtain ⟨fO, fdO, GO, bO, kO, mO⟩ := hO
  obtain ⟨fS, fdS, GS, bS, kS, mS⟩ := hS
  refine F.ok scAns (fun vs H Q E h => ?_) (fun cdv A outer s H vs Q E hr h => ?_)
  · obtain ⟨G, F, a, st, j, xs, row, pn, pr, x, rfl, _⟩ := h
    rfl
  · obtain ⟨G, F, a, st, j, xs, row, pn, pr, x, rfl, hAt, hpn, hpr, hrow, hcall, k⟩ := h
    obtain ⟨dx, fs, ha, hno⟩ := hAt.ins
    have hr1 : Room 1 _ := hr.mono (by decide)
    refine ⟨_, pss_cons (ps_if (pt_cmpR op_eq (pv 1) (pe_gi rfl g0) (nomark _)) (pss_one (ps_ret (pe_lst (pa_cons (pe_meth (pv 0) T.cl m0 G0 hr1 b0 .nil pass0 (pa_cons (pe_ix ix_list (pv 2) pe_int (fun _ _ => rfl)) pa_nil)) pa_nil)))) pss_nil)
      (pss_cons (ps_if (pt_not (pt_val (pe_meth0 (pv 0) T.cl mB GB hr1 bB .nil pass0))) (pss_one (ps_ret (pe_lst (pa_cons (pe_gi rfl gN) pa_nil)))) pss_nil)
      (pss_cons (ps_if (pt_cmpR op_eq (pv 1) (pe_gi rfl g17) (nomark _)) (pss_one (ps_ret (pe_lst (pa_cons (pe_meth0 (pv 0) T.cl mL GL hr1 bL .nil pass0) pa_nil)))) pss_nil)
      (pss_cons (ps_if (pt_cmpR op_le (pv 1) (pe_gi rfl g8) (nomark _)) (pss_one (ps_ret (pe_lst (pa_cons (pe_call GO hr rfl mO kO bO .nil pass0 (pa_cons (pv 0) (pa_cons (pv 1) (pa_cons (pv 2) (pa_cons (pv 3) pa_nil))))) pa_nil)))) pss_nil)
      (pss_one (ps_ret (pe_call GS hr rfl mS kS bS .nil pass0 (pa_cons (pv 0) (pa_cons (pv 1) (pa_cons (pv 2) (pa_cons (pv 3) pa_nil)))))))))), ?_⟩
    have hn : SqL K H pn (iv xs) := ex_l hAt.gh hpn
    have new1 : ∀ (z : Int) (st' : Sr58.State) (H' : Hp) (p : Addr), Sr58.step st x = (st', Sr58.say z) → At K C G F H' a st' → H' p = none → Q (.ref p) (upd H' p (.lst [.int z])) := fun z st' H' p e A' hp => by
      have kq := k (upd H' p (.lst [.int z])) p
      unfold Pz.ans at kq
      rw [e] at kq
      exact kq (A'.ex (Ex.new hp)) (fresh_back A'.fh hp) upd_same
    have hj := c_lt hcall
    by_cases j0 : j = 0
    · subst j0
      obtain ⟨n, rfl, rfl⟩ := c0 hcall
      refine q_yes (et_eqI (ev_var rfl) ev_c (by decide)) fun H1 e1 => ?_
      refine s_retLM (ev_var rfl) (e1 _ _ ha) (hno _ (by decide +kernel)) (ea_cons (ev_op (ev_var rfl) ev_c (rv_ixL (K := K) (ex_l e1 hn) (at_of (j := 0) rfl rfl))) ea_nil) fun H2 e2 => ⟨G, F, a, st, n, rfl, hAt.ex (e1.trans e2), fun H3 A3 => ⟨by show 1 ≤ sizeLine; decide, fun p hp => ?_⟩⟩
      refine new1 _ _ H3 p ?_ A3 hp
      have := begin_nums (st := st) (n := n)
      rcases e : Sr58.step st (.begin_ n) with ⟨s', nu, ns⟩
      rw [e] at this
      have : ns = [] := this
      subst this
      rfl
    · have nb := not_begin hcall j0
      refine q_no (et_eqI (ev_var rfl) ev_c (decide_eq_false (by omega))) fun H1 e1 => ?_
      have A1 := hAt.ex e1
      cases st with
      | none =>
        refine q_yes (et_not (et_B (ev_meth (ev_var rfl) (e1 _ _ ha) (hno _ (by decide +kernel)) ea_nil (sp_begun A1)))) fun H2 e2 => ?_
        refine s_retL (el_lst (ea_cons ev_c ea_nil) (by show 1 ≤ 100000; decide)) fun p H3 hp e3 h3 => ?_
        have kq := k H3 p
        unfold Pz.ans at kq
        rw [step_none nb] at kq
        exact kq (A1.ex (e2.trans e3)) (fresh_back (A1.ex e2).fh hp) h3
      | some d =>
        have ss := step_some (d := d) nb
        refine q_no (et_not (et_B (ev_meth (ev_var rfl) (e1 _ _ ha) (hno _ (by decide +kernel)) ea_nil (sp_begun A1)))) fun H2 e2 => ?_
        have A2 := A1.ex e2
        have e12 := e1.trans e2
        by_cases j17 : j = 17
        · subst j17
          obtain ⟨rfl, rfl⟩ := c17 hcall
          refine q_yes (et_eqI (ev_var rfl) ev_c (by decide)) fun H3 e3 => ?_
          refine s_retLM (ev_var rfl) (e3 _ _ (e12 _ _ ha)) (hno _ (by decide +kernel)) ea_nil fun H4 e4 => ⟨G, F, a, d, rfl, A2.ex (e3.trans e4), fun H5 A5 => ⟨by show 1 ≤ sizeLine; decide, fun p hp => ?_⟩⟩
          exact new1 _ _ H5 p ss A5 hp
        · refine q_no (et_eqI (ev_var rfl) ev_c (decide_eq_false (by omega))) fun H3 e3 => ?_
          have A3 := A2.ex e3
          by_cases j8 : j ≤ 8
          · refine q_yes (et_is (et_test (ev_op (ev_var rfl) ev_c rv_I0)) (decide_eq_true (by omega))) fun H4 e4 => ?_
            refine s_retLC (ea_cons (ev_var rfl) (ea_cons (ev_var rfl) (ea_cons (ev_var rfl) (ea_cons (ev_var rfl) ea_nil)))) fun H5 e5 => ⟨G, F, a, d, j, xs, row, pn, pr, x, rfl, A3.ex (e4.trans e5), hpn, hpr, hrow, hcall, by omega, fun H6 A6 => ⟨by show 1 ≤ sizeLine; decide, fun p hp => ?_⟩⟩
            refine new1 _ _ H6 p ?_ A6 hp
            rw [ss]
            have := one_nums d hcall (by omega)
            rcases e : Sr58.doing d x with ⟨o, nu, ns⟩
            rw [e] at this
            have : ns = [] := this
            subst this
            rfl
          · refine q_no (et_is (et_test (ev_op (ev_var rfl) ev_c rv_I0)) (decide_eq_false (by omega))) fun H4 e4 => ?_
            refine s_retC (ea_cons (ev_var rfl) (ea_cons (ev_var rfl) (ea_cons (ev_var rfl) (ea_cons (ev_var rfl) ea_nil)))) fun H5 e5 => ⟨G, F, a, d, j, xs, row, pn, pr, x, rfl, A3.ex (e4.trans e5), hpn, hpr, hrow, hcall, by omega, fun H6 p A6 fp hp => ?_⟩
            have kq := k H6 p
            unfold Pz.ans at kq
            rw [ss] at kq
            exact kq A6 fp hp
end
end Co
end
section
set_option maxRecDepth 100000
set_option maxHeartbeats 4000000
set_option linter.unusedVariables false
namespace Co
open PySem PySem.Spec PyProof.Rows L2 Evl Gn Mn Dk
theorem ROW_in {j : Nat} (hj : j < 18) : (Pz.ROW.getD j 0 = 1 ↔ (j : Int) ∈ ([2, 3, 9] : List Int)) := by
  have h : ∀ i : Nat, i < 18 → (Pz.ROW.getD i 0 = 1 ↔ (i : Int) ∈ ([2, 3, 9] : List Int)) := by decide
  exact h j hj
theorem NUM_get {j : Nat} (hj : j < 18) : (up Pz.NUM)[j]? = some ((Pz.NUM.getD j 0 : Nat) : Int) := by
  have h : ∀ i : Nat, i < 18 → (up Pz.NUM)[i]? = some ((Pz.NUM.getD i 0 : Nat) : Int) := by decide
  exact h j hj
section
variable {P : Program} {w : World} {K : PySem.W.Frag} {mg : Str → Option Value} {base : Heap} {f C : Addr} {fd : FuncData}
abbrev sAnswers : Stmt := top 51
abbrev nAnswers : List Str := ["calls", "coins", "given", "at", "call", "end", "numbers", "row", "start", "answered"]
theorem scAnswers : FnScope nAnswers ["calls"] (defScope sAnswers) := ⟨rfl, rfl, rfl, by decide +kernel, rfl, by decide +kernel, by decide +kernel⟩
theorem ok_answers {fI fA tN tW : Addr} {fdI fdA : FuncData} (F : Fun K "answers" "answers" sAnswers f fd) (T : Txt K mg C) (B : Bl mg) (gN : mg "NUMBERS" = some (.ref tN)) (hN : ∀ H, SqT K H tN (iv (up Pz.NUM))) (gW : mg "WITH_ROW" = some (.ref tW)) (hW : ∀ H, SqT K H tW (iv [2, 3, 9]))
    (MI : Mk K C fI) (GI' : FnOk P w K mg base CX0 1 fI fdI ["self"] (spInit K C)) (bI : Binds K fdI ["self"] [])
    (GA : FnOk P w K mg base CX0 9 fA fdA ["coins", "call", "numbers", "row"] (spAnswer K C)) (bA : Binds K fdA ["coins", "call", "numbers", "row"] []) (kA : PySem.W.keepIn K (.ref fA) = true) (mA : mg "answer" = some (.ref fA)) : FnOk P w K mg base CX0 10 f fd ["calls"] (spAnswers K) := by
  refine F.ok scAnswers (fun vs H Q E h => ?_) (fun cdv A outer s H vs Q E hr h => ?_)
  · obtain ⟨a, ns, rfl, _⟩ := h
    rfl
  · obtain ⟨c0, ns, rfl, hS, hask, hlen, k⟩ := h
    have hr2 : Room 2 _ := hr.mono (by decide)
    refine ⟨_, pss_cons (ps_set (i := 1) scAnswers.nd rfl (Or.inl rfl) (pe_make0 MI GI' hr2 rfl T.gC bI .nil pass0))
      (pss_cons (ps_set (i := 2) scAnswers.nd rfl (Or.inl rfl) (pe_lst pa_nil))
      (pss_cons (ps_set (i := 3) scAnswers.nd rfl (Or.inl rfl) pe_int)
      (pss_cons (ps_while PassesOwn.never (pt_cmpR op_lt (pv 3) (pe_callB call_len_seq (by rfl) B.len PySem.boot_len (pa_cons (pv 0) pa_nil)) (nomark _))
        (pss_cons (ps_set (i := 4) scAnswers.nd rfl (Or.inl rfl) (pe_ix ix_list (pv 0) (pv 3) (fun _ _ => rfl)))
        (pss_cons (ps_set (i := 5) scAnswers.nd rfl (Or.inl rfl) (pe_op op_add (pe_op op_add (pv 3) pe_int) (pe_ix ix_tup (pe_glob (v := .ref tN) rfl gN rfl) (pv 4) (fun _ _ => rfl))))
        (pss_cons (ps_set (i := 6) scAnswers.nd rfl (Or.inl rfl) (pe_slice sl_list (pv 0) (po_some (pe_op op_add (pv 3) pe_int)) (po_some (pv 5))))
        (pss_cons (ps_set (i := 7) scAnswers.nd rfl (Or.inl rfl) (pe_lst pa_nil))
        (pss_cut (ps_if (pt_cmpR op_in_seq (pv 4) (pe_glob (v := .ref tW) rfl gW rfl) (by rfl))
          (pss_cons (ps_set (i := 8) scAnswers.nd rfl (Or.inl rfl) (pe_op op_add (pv 5) pe_int))
          (pss_cons (ps_set (i := 5) scAnswers.nd rfl (Or.inl rfl) (pe_op op_add (pv 8) (pe_ix ix_list (pv 0) (pv 5) (fun _ _ => rfl))))
          (pss_one (ps_set (i := 7) scAnswers.nd rfl (Or.inl rfl) (pe_slice sl_list (pv 0) (po_some (pv 8)) (po_some (pv 5)))))))
          pss_nil)
        (pss_cons (ps_set (i := 9) scAnswers.nd rfl (Or.inl rfl) (pe_call GA hr rfl mA kA bA .nil pass0 (pa_cons (pv 1) (pa_cons (pv 4) (pa_cons (pv 6) (pa_cons (pv 7) pa_nil))))))
        (pss_cons (ps_expr (pe_bm PySem.F.plainAttrs_list PySem.F.slot_list_append PySem.F.type_list_append mt_append (pv 2) (pa_cons (pe_callB call_len_seq (by rfl) B.len PySem.boot_len (pa_cons (pv 9) pa_nil)) pa_nil)))
        (pss_cons (ps_expr (pe_bm PySem.F.plainAttrs_list PySem.F.slot_list_extend PySem.F.type_list_extend mt_extend (pv 2) (pa_cons (pv 9) pa_nil)))
        (pss_one (ps_set (i := 3) scAnswers.nd rfl (Or.inl rfl) (pv 5))))))))))))
      (pss_one (ps_ret (pv 2)))))), ?_⟩
    intro x dx nx ndx nex
    have s0 : Ex H (upd (upd H dx (.own x)) x (.ins C dx [])) := fun b o e => by
      rw [upd_ne (ne_of_none e nx), upd_ne (ne_of_none e ndx)]
      exact e
    refine ⟨H, H, x, dx, rfl, Ex.refl H, s0, nx, upd_same, fun H1 A1 => ⟨rfl, ?_⟩⟩
    refine q_asgL (el_lst ea_nil (Nat.zero_le _)) fun g H2 hg e2 h2 => ?_
    have gG : H g = none := fresh_back A1.gh hg
    have A2 := A1.growF e2 hg h2
    refine q_asg ev_c fun H3 e3 => ?_
    have A3 := A2.ex e3
    obtain ⟨rest0, R0⟩ := rest_start hask
    refine q_while (fun m σ H' => ∃ (at_ : Nat) (st : Sr58.State) (out : List Int) (rest : List (List (List Int))) (G F : Hp) (u4 u5 u6 u7 u8 u9 : Option V), σ = [some (.ref c0), some (.ref x), some (.ref g), some (.int (at_ : Int)), u4, u5, u6, u7, u8, u9] ∧ m = ns.length - at_ ∧ At K C G F H' x st ∧ Ex H G ∧ G g = none ∧ F g = some (.lst (iv out)) ∧ Rest ns at_ st out rest)
      (ns.length - 0) ⟨0, none, [], rest0, H, _, none, none, none, none, none, none, rfl, rfl, A3, Ex.refl H, gG, upd_same, R0⟩ ?_
    rintro m σ H4 ⟨at_, st, out, rest, G, F, u4, u5, u6, u7, u8, u9, rfl, rfl, A4, hHG, hGg, hFg, R⟩
    have cG : SqL K G c0 (iv ns) := ex_l hHG hS
    have c4 := ex_l A4.gh cG
    refine ⟨_, et_test (ev_op (ev_var rfl) (ev_len (K := K) (ev_var rfl) c4) rv_I0), fun hb H5 e5 => ?_, fun hb H5 e5 => ?_⟩
    · have hb := of_decide_eq_true hb
      rw [iv_len] at hb
      have hlt : at_ < ns.length := by omega
      obtain ⟨j, xc, row, nx', rest', hj, hget, hle, hrow, hcall, hcase, R'⟩ := rest_step R hlt A4.rel
      have A5 := A4.ex e5
      refine ⟨fun σ2 H2 => ∃ m', m' < ns.length - at_ ∧ ∃ (at_ : Nat) (st : Sr58.State) (out : List Int) (rest : List (List (List Int))) (G F : Hp) (u4 u5 u6 u7 u8 u9 : Option V), σ2 = [some (.ref c0), some (.ref x), some (.ref g), some (.int (at_ : Int)), u4, u5, u6, u7, u8, u9] ∧ m' = ns.length - at_ ∧ At K C G F H2 x st ∧ Ex H G ∧ G g = none ∧ F g = some (.lst (iv out)) ∧ Rest ns at_ st out rest, fun σ2 H2 h => h, ?_⟩
      have i4 : atI (iv ns) (at_ : Int) = some (.int (j : Int)) := at_of rfl (iv_getI hget)
      refine q_asg (ev_op (ev_var rfl) (ev_var rfl) (rv_ixL (K := K) (ex_l e5 c4) i4)) fun H6 e6 => ?_
      have e56 := e5.trans e6
      have iN : atI (iv (up Pz.NUM)) (j : Int) = some (.int ((Pz.NUM.getD j 0 : Nat) : Int)) := at_of rfl (iv_getI (NUM_get hj))
      refine q_asg (v := .int ((at_ + 1 + Pz.NUM.getD j 0 : Nat) : Int)) (ev_is (ev_op (ev_op (ev_var rfl) ev_c rv_I0) (ev_op ev_c (ev_var rfl) (rv_ixT (K := K) (hN _) iN)) rv_I0) (by show V.int _ = V.int _; congr 1)) fun H7 e7 => ?_
      have e57 := e56.trans e7
      have s1 := el_sl (K := K) (te := tVar 0) (σ := [some (.ref c0), some (.ref x), some (.ref g), some (.int (at_ : Int)), some (.int (j : Int)), some (.int ((at_ + 1 + Pz.NUM.getD j 0 : Nat) : Int)), u6, u7, u8, u9]) (H := H7) (ev_var rfl) (eo_some (i := ((at_ + 1 : Nat) : Int)) (te := tOp rAd (tVar 3) (tC (.int 1))) (ev_op (ev_var rfl) ev_c rv_I0)) (eo_some (te := tVar 5) (ev_var rfl)) (ex_l e57 c4)
      rw [cut_mid ns (by omega) hle, show at_ + 1 + Pz.NUM.getD j 0 - (at_ + 1) = Pz.NUM.getD j 0 by omega] at s1
      refine q_asgL s1 fun pn H8 hpn e8 h8 => ?_
      have A8 := (A4.ex e57).growG e8 hpn h8
      have gpn : g ≠ pn := fun q => by
        have := A4.fh _ _ hFg
        rw [q] at this
        have := e57 _ _ this
        rw [hpn] at this
        cases this
      refine q_asgL (el_lst ea_nil (Nat.zero_le _)) fun pr H9 hpr e9 h9 => ?_
      have gpr : g ≠ pr := fun q => by
        have := A4.fh _ _ hFg
        rw [q] at this
        have := e8 _ _ (e57 _ _ this)
        rw [hpr] at this
        cases this
      refine q_cut (M := fun σ' H' => ∃ (pr : Addr) (v : Option V), σ' = [some (.ref c0), some (.ref x), some (.ref g), some (.int (at_ : Int)), some (.int (j : Int)), some (.int (nx' : Int)), some (.ref pn), some (.ref pr), v, u9] ∧ ∃ G' F', At K C G' F' H' x st ∧ Ex H G' ∧ G' g = none ∧ F' g = some (.lst (iv out)) ∧ SqL K G' pn (iv ((ns.drop (at_ + 1)).take (Pz.NUM.getD j 0))) ∧ G' pr = some (.lst (iv row))) ?_ ?_
      · refine s_when (et_test (ev_op (ev_var rfl) ev_c (rv_isT (K := K) (hW _) rfl (iv_flat _)))) (fun hi H10 e10 => ?_) (fun hi H10 e10 => ?_)
        · rw [inV_iv, decide_eq_true_iff, ← ROW_in hj] at hi
          rcases hcase with ⟨h0, _⟩ | ⟨_, kk, hk, enx, hnx, erow⟩
          · rw [h0] at hi
            cases hi
          · have e8A := (e8.trans e9).trans e10
            have c10 : SqL K H10 c0 (iv ns) := ex_l (e57.trans e8A) c4
            refine q_asg (v := .int ((at_ + 1 + Pz.NUM.getD j 0 + 1 : Nat) : Int)) (ev_is (ev_op (ev_var rfl) ev_c rv_I0) rfl) fun H11 e11 => ?_
            have ik : atI (iv ns) ((at_ + 1 + Pz.NUM.getD j 0 : Nat) : Int) = some (.int (kk : Int)) := at_of rfl (iv_getI hk)
            refine q_asg (v := .int (nx' : Int)) (ev_is (ev_op (ev_var rfl) (ev_op (ev_var rfl) (ev_var rfl) (rv_ixL (K := K) (ex_l e11 c10) ik)) rv_I0) (by rw [enx]; rfl)) fun H12 e12 => ?_
            have s2 := el_sl (K := K) (te := tVar 0) (σ := [some (.ref c0), some (.ref x), some (.ref g), some (.int (at_ : Int)), some (.int (j : Int)), some (.int (nx' : Int)), some (.ref pn), some (.ref pr), some (.int ((at_ + 1 + Pz.NUM.getD j 0 + 1 : Nat) : Int)), u9]) (H := H12) (ev_var rfl) (eo_some (te := tVar 8) (ev_var rfl)) (eo_some (te := tVar 5) (ev_var rfl)) (ex_l (e11.trans e12) c10)
            rw [cut_mid ns (by omega) hnx, show nx' - (at_ + 1 + Pz.NUM.getD j 0 + 1) = kk by omega, ← erow] at s2
            refine s_asgL s2 fun pr2 H13 hpr2 e13 h13 => ?_
            have A12 := A8.ex (((e9.trans e10).trans e11).trans e12)
            have gpr2 : g ≠ pr2 := fun q => by
              have := A12.fh g (.lst (iv out)) (by rw [upd_ne gpn]; exact hFg)
              rw [q, hpr2] at this
              cases this
            have A13 := A12.growG e13 hpr2 h13
            have fresh : (upd G pn (.lst (iv ((ns.drop (at_ + 1)).take (Pz.NUM.getD j 0))))) pr2 = none := fresh_back A12.gh hpr2
            have gpn' : G pn = none := fresh_back (A4.ex e57).gh hpn
            exact ⟨pr2, _, rfl, _, _, A13, ex_upd_fresh (ex_upd_fresh hHG gpn' _) fresh _, by rw [upd_ne gpr2, upd_ne gpn]; exact hGg, by rw [upd_ne gpr2, upd_ne gpn]; exact hFg, ex_l (ex_upd_fresh (Ex.refl _) fresh _) (sq_of upd_same), upd_same⟩
        · rw [inV_iv, decide_eq_false_iff_not, ← ROW_in hj] at hi
          rcases hcase with ⟨h0, erow, enx⟩ | ⟨h1, _⟩
          · have A9 := A8.growG e9 hpr h9
            have fresh : (upd G pn (.lst (iv ((ns.drop (at_ + 1)).take (Pz.NUM.getD j 0))))) pr = none := fresh_back A8.gh hpr
            have gpn' : G pn = none := fresh_back (A4.ex e57).gh hpn
            refine ⟨pr, _, by rw [enx]; rfl, _, _, A9.ex e10, ex_upd_fresh (ex_upd_fresh hHG gpn' _) fresh _, by rw [upd_ne gpr, upd_ne gpn]; exact hGg, by rw [upd_ne gpr, upd_ne gpn]; exact hFg, ex_l (ex_upd_fresh (Ex.refl _) fresh _) (sq_of upd_same), ?_⟩
            rw [erow]
            exact upd_same
          · exact absurd h1 hi
      · rintro σ' H10 ⟨pr', v, rfl, G', F', A10, hHG', hGg', hFg', hpn', hpr'⟩
        refine ⟨_, rfl, _, rfl, _, rfl, _, rfl, G', F', x, st, j, _, row, pn, pr', xc, rfl, A10, hpn', hpr', hrow, hcall, fun H11 pa A11 fpa hpa => ?_⟩
        have gpa : pa ≠ g := fun q => by
          rw [q, hFg'] at fpa
          cases fpa
        have hg11 : H11 g = some (.lst (iv out)) := A11.fh _ _ hFg'
        have ol : out.length ≤ 60060 := by
          have := R.short
          omega
        have al := Pz.ans_len A4.rel xc
        refine q_app (K := K) hg11 (ev_var rfl) (ev_len (K := K) (ev_var rfl) (sq_of hpa)) (by rw [iv_len]; omega) fun H12 e12 => ?_
        have A12 := (A11.ex e12).store (ys := iv out ++ [V.int ((iv (Pz.ans st xc)).length : Int)]) hFg' hGg'
        have hpa12 : (upd H12 g (.lst (iv out ++ [V.int ((iv (Pz.ans st xc)).length : Int)]))) pa = some (.lst (iv (Pz.ans st xc))) := by
          rw [upd_ne gpa]
          exact e12 _ _ hpa
        refine ⟨_, rfl, .inl ⟨rfl, _, SqL.of upd_same⟩, _, rfl, g, pa, _, _, rfl, rfl, upd_same, hpa12, sz_of ?_, ?_⟩
        · rw [List.length_append, iv_len, iv_len]
          show out.length + 1 + _ ≤ _
          omega
        · have A13 := A12.store (ys := iv out ++ [V.int ((iv (Pz.ans st xc)).length : Int)] ++ iv (Pz.ans st xc)) upd_same hGg'
          refine s_asg (ev_var rfl) fun H14 e14 => ?_
          have lt : at_ < nx' := by
            rcases hcase with ⟨_, _, h⟩ | ⟨_, kk, _, h, _⟩ <;> omega
          refine ⟨ns.length - nx', by omega, nx', _, out ++ (((Pz.ans st xc).length : Int) :: Pz.ans st xc), rest', G', _, _, _, _, _, _, _, rfl, rfl, A13.ex e14, hHG', hGg', ?_, R'⟩
          rw [upd_same]
          have : iv (out ++ (((Pz.ans st xc).length : Int) :: Pz.ans st xc)) = iv out ++ [V.int ((iv (Pz.ans st xc)).length : Int)] ++ iv (Pz.ans st xc) := by
            rw [iv_len]
            unfold iv
            rw [List.map_append, List.map_cons, List.append_assoc]
            rfl
          rw [this]
    · have hb := of_decide_eq_false hb
      rw [iv_len] at hb
      have ha : at_ = ns.length := by
        have := R.le
        omega
      have er : PySr58.answers ns = out := by
        obtain ⟨f, hf⟩ := R.cs
        rw [ha, List.drop_length] at hf
        have : rest = [] := by
          cases f <;> (unfold PyFlat.calls at hf; exact (Option.some.inj hf).symm)
        have e := R.eq
        rw [this] at e
        rw [e]
        exact List.append_nil _
      refine s_ret (ev_var rfl) fun H6 e6 => k H6 g ?_
      rw [er]
      exact e6 _ _ (e5 _ _ (A4.fh _ _ hFg))
end
end Co
end
section
set_option maxRecDepth 100000
set_option maxHeartbeats 4000000
set_option linter.unusedVariables false
namespace Co
open PySem PySem.Spec PyProof.Rows L2 Evl Gn Mn Dk Bs
theorem gi_of {K : PySem.W.Frag} {h : Heap} {mg : Str → Option Value} {n : Str} {i : Int} {t : Tok} (X : K.In h) (G : h.Ns mainGlobals mg) (e : PySem.W.nsIn K mainGlobals n = some (some (.int i t))) : GI mg n i := ⟨t, PySem.W.mg_of X G e⟩
theorem all_mk {P : Program} {w : World} {K : PySem.W.Frag} {h : Heap} {mg : Str → Option Value} {fa C fF0 fF1 fF2 fF3 fF4 fF5 fF6 fF7 fF8 fF9 fF10 fF11 fF12 fF13 fF14 fF15 fF16 fM0 fM1 fM2 fM3 fM4 fM5 fM6 fM7 fM8 fM9 fM10 fM11 fM12 fM13 fM14 fM15 fM16 fM17 fM18 fM19 fM20 fM21 fM22 fM23 fM24 fM25 fM26 fM27 tD tN tW : Addr} (X : K.In h) (G : h.Ns mainGlobals mg) (hfa : mg "answers" = some (.ref fa))
    {odF0 anF0 odF1 anF1 odF2 anF2 odF3 anF3 odF4 anF4 odF5 anF5 odF6 anF6 odF7 anF7 odF8 anF8 odF9 anF9 odF10 anF10 odF11 anF11 odF12 anF12 odF13 anF13 odF14 anF14 odF15 anF15 odF16 anF16 odM0 anM0 odM1 anM1 odM2 anM2 odM3 anM3 odM4 anM4 odM5 anM5 odM6 anM6 odM7 anM7 odM8 anM8 odM9 anM9 odM10 anM10 odM11 anM11 odM12 anM12 odM13 anM13 odM14 anM14 odM15 anM15 odM16 anM16 odM17 anM17 odM18 anM18 odM19 anM19 odM20 anM20 odM21 anM21 odM22 anM22 odM23 anM23 odM24 anM24 odM25 anM25 odM26 anM26 odM27 anM27 odD odN odW : Option Addr} {slF0 slF1 slF2 slF3 slF4 slF5 slF6 slF7 slF8 slF9 slF10 slF11 slF12 slF13 slF14 slF15 slF16 slM0 slM1 slM2 slM3 slM4 slM5 slM6 slM7 slM8 slM9 slM10 slM11 slM12 slM13 slM14 slM15 slM16 slM17 slM18 slM19 slM20 slM21 slM22 slM23 slM24 slM25 slM26 slM27 slD slN slW : Array (Option Value)} {ocF0 kVF0 dcF0 pmF0 cdF0 ctF0 ocF1 kVF1 dcF1 pmF1 cdF1 ctF1 ocF2 kVF2 dcF2 pmF2 cdF2 ctF2 ocF3 kVF3 dcF3 pmF3 cdF3 ctF3 ocF4 kVF4 dcF4 pmF4 cdF4 ctF4 ocF5 kVF5 dcF5 pmF5 cdF5 ctF5 ocF6 kVF6 dcF6 pmF6 cdF6 ctF6 ocF7 kVF7 dcF7 pmF7 cdF7 ctF7 ocF8 kVF8 dcF8 pmF8 cdF8 ctF8 ocF9 kVF9 dcF9 pmF9 cdF9 ctF9 ocF10 kVF10 dcF10 pmF10 cdF10 ctF10 ocF11 kVF11 dcF11 pmF11 cdF11 ctF11 ocF12 kVF12 dcF12 pmF12 cdF12 ctF12 ocF13 kVF13 dcF13 pmF13 cdF13 ctF13 ocF14 kVF14 dcF14 pmF14 cdF14 ctF14 ocF15 kVF15 dcF15 pmF15 cdF15 ctF15 ocF16 kVF16 dcF16 pmF16 cdF16 ctF16 ocM0 kVM0 dcM0 pmM0 cdM0 ctM0 ocM1 kVM1 dcM1 pmM1 cdM1 ctM1 ocM2 kVM2 dcM2 pmM2 cdM2 ctM2 ocM3 kVM3 dcM3 pmM3 cdM3 ctM3 ocM4 kVM4 dcM4 pmM4 cdM4 ctM4 ocM5 kVM5 dcM5 pmM5 cdM5 ctM5 ocM6 kVM6 dcM6 pmM6 cdM6 ctM6 ocM7 kVM7 dcM7 pmM7 cdM7 ctM7 ocM8 kVM8 dcM8 pmM8 cdM8 ctM8 ocM9 kVM9 dcM9 pmM9 cdM9 ctM9 ocM10 kVM10 dcM10 pmM10 cdM10 ctM10 ocM11 kVM11 dcM11 pmM11 cdM11 ctM11 ocM12 kVM12 dcM12 pmM12 cdM12 ctM12 ocM13 kVM13 dcM13 pmM13 cdM13 ctM13 ocM14 kVM14 dcM14 pmM14 cdM14 ctM14 ocM15 kVM15 dcM15 pmM15 cdM15 ctM15 ocM16 kVM16 dcM16 pmM16 cdM16 ctM16 ocM17 kVM17 dcM17 pmM17 cdM17 ctM17 ocM18 kVM18 dcM18 pmM18 cdM18 ctM18 ocM19 kVM19 dcM19 pmM19 cdM19 ctM19 ocM20 kVM20 dcM20 pmM20 cdM20 ctM20 ocM21 kVM21 dcM21 pmM21 cdM21 ctM21 ocM22 kVM22 dcM22 pmM22 cdM22 ctM22 ocM23 kVM23 dcM23 pmM23 cdM23 ctM23 ocM24 kVM24 dcM24 pmM24 cdM24 ctM24 ocM25 kVM25 dcM25 pmM25 cdM25 ctM25 ocM26 kVM26 dcM26 pmM26 cdM26 ctM26 ocM27 kVM27 dcM27 pmM27 cdM27 ctM27 ocD : Value} {nD nN nW : Nat}
    {tkD tn0 tn1 tn2 tn3 tn4 tn5 tn6 tn7 tn8 tn9 tn10 tn11 tn12 tn13 tn14 tn15 tn16 tn17 tw0 tw1 tw2 tBEGIN tCOIN tALL tMANY tDROP tWANT tLAY tLIFT tCHOOSE tRUN tMEAN tMEANIF tCHANCE tWORTH tBEST tSWING tCLEAR tNO_SUCH tSTILL_THROWN tNOT_BEGUN tIS_LAID tWRONG tFULL tNOT_LAID tMOST_COINS tMOST_PARTS tMOST_TERMS tMOST_WEIGHT tMOST_TOLD tTHROWN tAS_TOLD : Tok}
    (aC : PySem.W.nsIn K mainGlobals "Coins" = some (some (.ref C)))
    (aF0 : PySem.W.nsIn K mainGlobals "is_weight" = some (some (.ref fF0)))
    (lF0 : K.lookup fF0 = some ⟨ocF0, odF0, .func (PySem.W.fnOf "is_weight" "is_weight" (defArgs sIsWeight) (defBody sIsWeight) (defScope sIsWeight) .none kVF0 dcF0 pmF0 anF0 cdF0 ctF0), slF0⟩)
    (cF0_ : PySem.W.codeIn K cdF0 "is_weight" = true)
    (kF0 : PySem.W.keepIn K (.ref fF0) = true)
    (aF1 : PySem.W.nsIn K mainGlobals "within" = some (some (.ref fF1)))
    (lF1 : K.lookup fF1 = some ⟨ocF1, odF1, .func (PySem.W.fnOf "within" "within" (defArgs sWithin) (defBody sWithin) (defScope sWithin) .none kVF1 dcF1 pmF1 anF1 cdF1 ctF1), slF1⟩)
    (cF1_ : PySem.W.codeIn K cdF1 "within" = true)
    (kF1 : PySem.W.keepIn K (.ref fF1) = true)
    (aF2 : PySem.W.nsIn K mainGlobals "is_rising" = some (some (.ref fF2)))
    (lF2 : K.lookup fF2 = some ⟨ocF2, odF2, .func (PySem.W.fnOf "is_rising" "is_rising" (defArgs sRising) (defBody sRising) (defScope sRising) .none kVF2 dcF2 pmF2 anF2 cdF2 ctF2), slF2⟩)
    (cF2_ : PySem.W.codeIn K cdF2 "is_rising" = true)
    (kF2 : PySem.W.keepIn K (.ref fF2) = true)
    (aF3 : PySem.W.nsIn K mainGlobals "coin_parts" = some (some (.ref fF3)))
    (lF3 : K.lookup fF3 = some ⟨ocF3, odF3, .func (PySem.W.fnOf "coin_parts" "coin_parts" (defArgs sCoinParts) (defBody sCoinParts) (defScope sCoinParts) .none kVF3 dcF3 pmF3 anF3 cdF3 ctF3), slF3⟩)
    (cF3_ : PySem.W.codeIn K cdF3 "coin_parts" = true)
    (kF3 : PySem.W.keepIn K (.ref fF3) = true)
    (aF4 : PySem.W.nsIn K mainGlobals "parts_as_told" = some (some (.ref fF4)))
    (lF4 : K.lookup fF4 = some ⟨ocF4, odF4, .func (PySem.W.fnOf "parts_as_told" "parts_as_told" (defArgs sAsTold) (defBody sAsTold) (defScope sAsTold) .none kVF4 dcF4 pmF4 anF4 cdF4 ctF4), slF4⟩)
    (cF4_ : PySem.W.codeIn K cdF4 "parts_as_told" = true)
    (kF4 : PySem.W.keepIn K (.ref fF4) = true)
    (aF5 : PySem.W.nsIn K mainGlobals "with_coin" = some (some (.ref fF5)))
    (lF5 : K.lookup fF5 = some ⟨ocF5, odF5, .func (PySem.W.fnOf "with_coin" "with_coin" (defArgs sWithCoin) (defBody sWithCoin) (defScope sWithCoin) .none kVF5 dcF5 pmF5 anF5 cdF5 ctF5), slF5⟩)
    (cF5_ : PySem.W.codeIn K cdF5 "with_coin" = true)
    (kF5 : PySem.W.keepIn K (.ref fF5) = true)
    (aF6 : PySem.W.nsIn K mainGlobals "parts_many" = some (some (.ref fF6)))
    (lF6 : K.lookup fF6 = some ⟨ocF6, odF6, .func (PySem.W.fnOf "parts_many" "parts_many" (defArgs sMany) (defBody sMany) (defScope sMany) .none kVF6 dcF6 pmF6 anF6 cdF6 ctF6), slF6⟩)
    (cF6_ : PySem.W.codeIn K cdF6 "parts_many" = true)
    (kF6 : PySem.W.keepIn K (.ref fF6) = true)
    (aF7 : PySem.W.nsIn K mainGlobals "term_parts" = some (some (.ref fF7)))
    (lF7 : K.lookup fF7 = some ⟨ocF7, odF7, .func (PySem.W.fnOf "term_parts" "term_parts" (defArgs sTermParts) (defBody sTermParts) (defScope sTermParts) .none kVF7 dcF7 pmF7 anF7 cdF7 ctF7), slF7⟩)
    (cF7_ : PySem.W.codeIn K cdF7 "term_parts" = true)
    (kF7 : PySem.W.keepIn K (.ref fF7) = true)
    (aF8 : PySem.W.nsIn K mainGlobals "mean_upper" = some (some (.ref fF8)))
    (lF8 : K.lookup fF8 = some ⟨ocF8, odF8, .func (PySem.W.fnOf "mean_upper" "mean_upper" (defArgs sMeanUpper) (defBody sMeanUpper) (defScope sMeanUpper) .none kVF8 dcF8 pmF8 anF8 cdF8 ctF8), slF8⟩)
    (cF8_ : PySem.W.codeIn K cdF8 "mean_upper" = true)
    (kF8 : PySem.W.keepIn K (.ref fF8) = true)
    (aF9 : PySem.W.nsIn K mainGlobals "greatest_common" = some (some (.ref fF9)))
    (lF9 : K.lookup fF9 = some ⟨ocF9, odF9, .func (PySem.W.fnOf "greatest_common" "greatest_common" (defArgs sGcd) (defBody sGcd) (defScope sGcd) .none kVF9 dcF9 pmF9 anF9 cdF9 ctF9), slF9⟩)
    (cF9_ : PySem.W.codeIn K cdF9 "greatest_common" = true)
    (kF9 : PySem.W.keepIn K (.ref fF9) = true)
    (aF10 : PySem.W.nsIn K mainGlobals "is_so" = some (some (.ref fF10)))
    (lF10 : K.lookup fF10 = some ⟨ocF10, odF10, .func (PySem.W.fnOf "is_so" "is_so" (defArgs sIsSo) (defBody sIsSo) (defScope sIsSo) .none kVF10 dcF10 pmF10 anF10 cdF10 ctF10), slF10⟩)
    (cF10_ : PySem.W.codeIn K cdF10 "is_so" = true)
    (kF10 : PySem.W.keepIn K (.ref fF10) = true)
    (aF11 : PySem.W.nsIn K mainGlobals "comes_to" = some (some (.ref fF11)))
    (lF11 : K.lookup fF11 = some ⟨ocF11, odF11, .func (PySem.W.fnOf "comes_to" "comes_to" (defArgs sComes) (defBody sComes) (defScope sComes) .none kVF11 dcF11 pmF11 anF11 cdF11 ctF11), slF11⟩)
    (cF11_ : PySem.W.codeIn K cdF11 "comes_to" = true)
    (kF11 : PySem.W.keepIn K (.ref fF11) = true)
    (aF12 : PySem.W.nsIn K mainGlobals "all_ways" = some (some (.ref fF12)))
    (lF12 : K.lookup fF12 = some ⟨ocF12, odF12, .func (PySem.W.fnOf "all_ways" "all_ways" (defArgs sWays) (defBody sWays) (defScope sWays) .none kVF12 dcF12 pmF12 anF12 cdF12 ctF12), slF12⟩)
    (cF12_ : PySem.W.codeIn K cdF12 "all_ways" = true)
    (kF12 : PySem.W.keepIn K (.ref fF12) = true)
    (aF13 : PySem.W.nsIn K mainGlobals "one_number" = some (some (.ref fF13)))
    (lF13 : K.lookup fF13 = some ⟨ocF13, odF13, .func (PySem.W.fnOf "one_number" "one_number" (defArgs sOne) (defBody sOne) (defScope sOne) .none kVF13 dcF13 pmF13 anF13 cdF13 ctF13), slF13⟩)
    (cF13_ : PySem.W.codeIn K cdF13 "one_number" = true)
    (kF13 : PySem.W.keepIn K (.ref fF13) = true)
    (aF14 : PySem.W.nsIn K mainGlobals "some_numbers" = some (some (.ref fF14)))
    (lF14 : K.lookup fF14 = some ⟨ocF14, odF14, .func (PySem.W.fnOf "some_numbers" "some_numbers" (defArgs sSome) (defBody sSome) (defScope sSome) .none kVF14 dcF14 pmF14 anF14 cdF14 ctF14), slF14⟩)
    (cF14_ : PySem.W.codeIn K cdF14 "some_numbers" = true)
    (kF14 : PySem.W.keepIn K (.ref fF14) = true)
    (aF15 : PySem.W.nsIn K mainGlobals "answer" = some (some (.ref fF15)))
    (lF15 : K.lookup fF15 = some ⟨ocF15, odF15, .func (PySem.W.fnOf "answer" "answer" (defArgs sAns) (defBody sAns) (defScope sAns) .none kVF15 dcF15 pmF15 anF15 cdF15 ctF15), slF15⟩)
    (cF15_ : PySem.W.codeIn K cdF15 "answer" = true)
    (kF15 : PySem.W.keepIn K (.ref fF15) = true)
    (aF16 : PySem.W.nsIn K mainGlobals "answers" = some (some (.ref fF16)))
    (lF16 : K.lookup fF16 = some ⟨ocF16, odF16, .func (PySem.W.fnOf "answers" "answers" (defArgs sAnswers) (defBody sAnswers) (defScope sAnswers) .none kVF16 dcF16 pmF16 anF16 cdF16 ctF16), slF16⟩)
    (cF16_ : PySem.W.codeIn K cdF16 "answers" = true)
    (kF16 : PySem.W.keepIn K (.ref fF16) = true)
    (aM0 : PySem.W.findIn K (.ref C) "__init__" = some (some (.ref fM0)))
    (iM0 : PySem.W.isFn K (.ref fM0) = true)
    (lM0 : K.lookup fM0 = some ⟨ocM0, odM0, .func (PySem.W.fnOf "__init__" "Coins.__init__" (defArgs sInit) (defBody sInit) (defScope sInit) .none kVM0 dcM0 pmM0 anM0 cdM0 ctM0), slM0⟩)
    (cM0_ : PySem.W.codeIn K cdM0 "Coins.__init__" = true)
    (kM0 : PySem.W.keepIn K (.ref fM0) = true)
    (aM1 : PySem.W.findIn K (.ref C) "is_begun" = some (some (.ref fM1)))
    (iM1 : PySem.W.isFn K (.ref fM1) = true)
    (lM1 : K.lookup fM1 = some ⟨ocM1, odM1, .func (PySem.W.fnOf "is_begun" "Coins.is_begun" (defArgs sBegun) (defBody sBegun) (defScope sBegun) .none kVM1 dcM1 pmM1 anM1 cdM1 ctM1), slM1⟩)
    (cM1_ : PySem.W.codeIn K cdM1 "Coins.is_begun" = true)
    (kM1 : PySem.W.keepIn K (.ref fM1) = true)
    (aM2 : PySem.W.findIn K (.ref C) "has_coin" = some (some (.ref fM2)))
    (iM2 : PySem.W.isFn K (.ref fM2) = true)
    (lM2 : K.lookup fM2 = some ⟨ocM2, odM2, .func (PySem.W.fnOf "has_coin" "Coins.has_coin" (defArgs sHas) (defBody sHas) (defScope sHas) .none kVM2 dcM2 pmM2 anM2 cdM2 ctM2), slM2⟩)
    (cM2_ : PySem.W.codeIn K cdM2 "Coins.has_coin" = true)
    (kM2 : PySem.W.keepIn K (.ref fM2) = true)
    (aM3 : PySem.W.findIn K (.ref C) "has_term" = some (some (.ref fM3)))
    (iM3 : PySem.W.isFn K (.ref fM3) = true)
    (lM3 : K.lookup fM3 = some ⟨ocM3, odM3, .func (PySem.W.fnOf "has_term" "Coins.has_term" (defArgs sHasT) (defBody sHasT) (defScope sHasT) .none kVM3 dcM3 pmM3 anM3 cdM3 ctM3), slM3⟩)
    (cM3_ : PySem.W.codeIn K cdM3 "Coins.has_term" = true)
    (kM3 : PySem.W.keepIn K (.ref fM3) = true)
    (aM4 : PySem.W.findIn K (.ref C) "begin" = some (some (.ref fM4)))
    (iM4 : PySem.W.isFn K (.ref fM4) = true)
    (lM4 : K.lookup fM4 = some ⟨ocM4, odM4, .func (PySem.W.fnOf "begin" "Coins.begin" (defArgs sBegin) (defBody sBegin) (defScope sBegin) .none kVM4 dcM4 pmM4 anM4 cdM4 ctM4), slM4⟩)
    (cM4_ : PySem.W.codeIn K cdM4 "Coins.begin" = true)
    (kM4 : PySem.W.keepIn K (.ref fM4) = true)
    (aM5 : PySem.W.findIn K (.ref C) "coin" = some (some (.ref fM5)))
    (iM5 : PySem.W.isFn K (.ref fM5) = true)
    (lM5 : K.lookup fM5 = some ⟨ocM5, odM5, .func (PySem.W.fnOf "coin" "Coins.coin" (defArgs sCoin) (defBody sCoin) (defScope sCoin) .none kVM5 dcM5 pmM5 anM5 cdM5 ctM5), slM5⟩)
    (cM5_ : PySem.W.codeIn K cdM5 "Coins.coin" = true)
    (kM5 : PySem.W.keepIn K (.ref fM5) = true)
    (aM6 : PySem.W.findIn K (.ref C) "add_term" = some (some (.ref fM6)))
    (iM6 : PySem.W.isFn K (.ref fM6) = true)
    (lM6 : K.lookup fM6 = some ⟨ocM6, odM6, .func (PySem.W.fnOf "add_term" "Coins.add_term" (defArgs sAddTerm) (defBody sAddTerm) (defScope sAddTerm) .none kVM6 dcM6 pmM6 anM6 cdM6 ctM6), slM6⟩)
    (cM6_ : PySem.W.codeIn K cdM6 "Coins.add_term" = true)
    (kM6 : PySem.W.keepIn K (.ref fM6) = true)
    (aM7 : PySem.W.findIn K (.ref C) "add_all" = some (some (.ref fM7)))
    (iM7 : PySem.W.isFn K (.ref fM7) = true)
    (lM7 : K.lookup fM7 = some ⟨ocM7, odM7, .func (PySem.W.fnOf "add_all" "Coins.add_all" (defArgs sAddAll) (defBody sAddAll) (defScope sAddAll) .none kVM7 dcM7 pmM7 anM7 cdM7 ctM7), slM7⟩)
    (cM7_ : PySem.W.codeIn K cdM7 "Coins.add_all" = true)
    (kM7 : PySem.W.keepIn K (.ref fM7) = true)
    (aM8 : PySem.W.findIn K (.ref C) "add_many" = some (some (.ref fM8)))
    (iM8 : PySem.W.isFn K (.ref fM8) = true)
    (lM8 : K.lookup fM8 = some ⟨ocM8, odM8, .func (PySem.W.fnOf "add_many" "Coins.add_many" (defArgs sAddMany) (defBody sAddMany) (defScope sAddMany) .none kVM8 dcM8 pmM8 anM8 cdM8 ctM8), slM8⟩)
    (cM8_ : PySem.W.codeIn K cdM8 "Coins.add_many" = true)
    (kM8 : PySem.W.keepIn K (.ref fM8) = true)
    (aM9 : PySem.W.findIn K (.ref C) "drop" = some (some (.ref fM9)))
    (iM9 : PySem.W.isFn K (.ref fM9) = true)
    (lM9 : K.lookup fM9 = some ⟨ocM9, odM9, .func (PySem.W.fnOf "drop" "Coins.drop" (defArgs sDrop) (defBody sDrop) (defScope sDrop) .none kVM9 dcM9 pmM9 anM9 cdM9 ctM9), slM9⟩)
    (cM9_ : PySem.W.codeIn K cdM9 "Coins.drop" = true)
    (kM9 : PySem.W.keepIn K (.ref fM9) = true)
    (aM10 : PySem.W.findIn K (.ref C) "want" = some (some (.ref fM10)))
    (iM10 : PySem.W.isFn K (.ref fM10) = true)
    (lM10 : K.lookup fM10 = some ⟨ocM10, odM10, .func (PySem.W.fnOf "want" "Coins.want" (defArgs sWant) (defBody sWant) (defScope sWant) .none kVM10 dcM10 pmM10 anM10 cdM10 ctM10), slM10⟩)
    (cM10_ : PySem.W.codeIn K cdM10 "Coins.want" = true)
    (kM10 : PySem.W.keepIn K (.ref fM10) = true)
    (aM11 : PySem.W.findIn K (.ref C) "refusal_to_lay" = some (some (.ref fM11)))
    (iM11 : PySem.W.isFn K (.ref fM11) = true)
    (lM11 : K.lookup fM11 = some ⟨ocM11, odM11, .func (PySem.W.fnOf "refusal_to_lay" "Coins.refusal_to_lay" (defArgs sRef) (defBody sRef) (defScope sRef) (.ref tD) kVM11 dcM11 pmM11 anM11 cdM11 ctM11), slM11⟩)
    (cM11_ : PySem.W.codeIn K cdM11 "Coins.refusal_to_lay" = true)
    (kM11 : PySem.W.keepIn K (.ref fM11) = true)
    (aM12 : PySem.W.findIn K (.ref C) "lay" = some (some (.ref fM12)))
    (iM12 : PySem.W.isFn K (.ref fM12) = true)
    (lM12 : K.lookup fM12 = some ⟨ocM12, odM12, .func (PySem.W.fnOf "lay" "Coins.lay" (defArgs sLay) (defBody sLay) (defScope sLay) .none kVM12 dcM12 pmM12 anM12 cdM12 ctM12), slM12⟩)
    (cM12_ : PySem.W.codeIn K cdM12 "Coins.lay" = true)
    (kM12 : PySem.W.keepIn K (.ref fM12) = true)
    (aM13 : PySem.W.findIn K (.ref C) "lift" = some (some (.ref fM13)))
    (iM13 : PySem.W.isFn K (.ref fM13) = true)
    (lM13 : K.lookup fM13 = some ⟨ocM13, odM13, .func (PySem.W.fnOf "lift" "Coins.lift" (defArgs sLift) (defBody sLift) (defScope sLift) .none kVM13 dcM13 pmM13 anM13 cdM13 ctM13), slM13⟩)
    (cM13_ : PySem.W.codeIn K cdM13 "Coins.lift" = true)
    (kM13 : PySem.W.keepIn K (.ref fM13) = true)
    (aM14 : PySem.W.findIn K (.ref C) "mean_upper_if" = some (some (.ref fM14)))
    (iM14 : PySem.W.isFn K (.ref fM14) = true)
    (lM14 : K.lookup fM14 = some ⟨ocM14, odM14, .func (PySem.W.fnOf "mean_upper_if" "Coins.mean_upper_if" (defArgs sMeanIf) (defBody sMeanIf) (defScope sMeanIf) .none kVM14 dcM14 pmM14 anM14 cdM14 ctM14), slM14⟩)
    (cM14_ : PySem.W.codeIn K cdM14 "Coins.mean_upper_if" = true)
    (kM14 : PySem.W.keepIn K (.ref fM14) = true)
    (aM15 : PySem.W.findIn K (.ref C) "is_better" = some (some (.ref fM15)))
    (iM15 : PySem.W.isFn K (.ref fM15) = true)
    (lM15 : K.lookup fM15 = some ⟨ocM15, odM15, .func (PySem.W.fnOf "is_better" "Coins.is_better" (defArgs sBetter) (defBody sBetter) (defScope sBetter) .none kVM15 dcM15 pmM15 anM15 cdM15 ctM15), slM15⟩)
    (cM15_ : PySem.W.codeIn K cdM15 "Coins.is_better" = true)
    (kM15 : PySem.W.keepIn K (.ref fM15) = true)
    (aM16 : PySem.W.findIn K (.ref C) "lay_well" = some (some (.ref fM16)))
    (iM16 : PySem.W.isFn K (.ref fM16) = true)
    (lM16 : K.lookup fM16 = some ⟨ocM16, odM16, .func (PySem.W.fnOf "lay_well" "Coins.lay_well" (defArgs sWell) (defBody sWell) (defScope sWell) .none kVM16 dcM16 pmM16 anM16 cdM16 ctM16), slM16⟩)
    (cM16_ : PySem.W.codeIn K cdM16 "Coins.lay_well" = true)
    (kM16 : PySem.W.keepIn K (.ref fM16) = true)
    (aM17 : PySem.W.findIn K (.ref C) "choose" = some (some (.ref fM17)))
    (iM17 : PySem.W.isFn K (.ref fM17) = true)
    (lM17 : K.lookup fM17 = some ⟨ocM17, odM17, .func (PySem.W.fnOf "choose" "Coins.choose" (defArgs sChoose) (defBody sChoose) (defScope sChoose) .none kVM17 dcM17 pmM17 anM17 cdM17 ctM17), slM17⟩)
    (cM17_ : PySem.W.codeIn K cdM17 "Coins.choose" = true)
    (kM17 : PySem.W.keepIn K (.ref fM17) = true)
    (aM18 : PySem.W.findIn K (.ref C) "run" = some (some (.ref fM18)))
    (iM18 : PySem.W.isFn K (.ref fM18) = true)
    (lM18 : K.lookup fM18 = some ⟨ocM18, odM18, .func (PySem.W.fnOf "run" "Coins.run" (defArgs sRun) (defBody sRun) (defScope sRun) .none kVM18 dcM18 pmM18 anM18 cdM18 ctM18), slM18⟩)
    (cM18_ : PySem.W.codeIn K cdM18 "Coins.run" = true)
    (kM18 : PySem.W.keepIn K (.ref fM18) = true)
    (aM19 : PySem.W.findIn K (.ref C) "lift_all" = some (some (.ref fM19)))
    (iM19 : PySem.W.isFn K (.ref fM19) = true)
    (lM19 : K.lookup fM19 = some ⟨ocM19, odM19, .func (PySem.W.fnOf "lift_all" "Coins.lift_all" (defArgs sClear) (defBody sClear) (defScope sClear) .none kVM19 dcM19 pmM19 anM19 cdM19 ctM19), slM19⟩)
    (cM19_ : PySem.W.codeIn K cdM19 "Coins.lift_all" = true)
    (kM19 : PySem.W.keepIn K (.ref fM19) = true)
    (aM20 : PySem.W.findIn K (.ref C) "fraction" = some (some (.ref fM20)))
    (iM20 : PySem.W.isFn K (.ref fM20) = true)
    (lM20 : K.lookup fM20 = some ⟨ocM20, odM20, .func (PySem.W.fnOf "fraction" "Coins.fraction" (defArgs sFrac) (defBody sFrac) (defScope sFrac) .none kVM20 dcM20 pmM20 anM20 cdM20 ctM20), slM20⟩)
    (cM20_ : PySem.W.codeIn K cdM20 "Coins.fraction" = true)
    (kM20 : PySem.W.keepIn K (.ref fM20) = true)
    (aM21 : PySem.W.findIn K (.ref C) "mean" = some (some (.ref fM21)))
    (iM21 : PySem.W.isFn K (.ref fM21) = true)
    (lM21 : K.lookup fM21 = some ⟨ocM21, odM21, .func (PySem.W.fnOf "mean" "Coins.mean" (defArgs sMean) (defBody sMean) (defScope sMean) .none kVM21 dcM21 pmM21 anM21 cdM21 ctM21), slM21⟩)
    (cM21_ : PySem.W.codeIn K cdM21 "Coins.mean" = true)
    (kM21 : PySem.W.keepIn K (.ref fM21) = true)
    (aM22 : PySem.W.findIn K (.ref C) "mean_if" = some (some (.ref fM22)))
    (iM22 : PySem.W.isFn K (.ref fM22) = true)
    (lM22 : K.lookup fM22 = some ⟨ocM22, odM22, .func (PySem.W.fnOf "mean_if" "Coins.mean_if" (defArgs sMeanF) (defBody sMeanF) (defScope sMeanF) .none kVM22 dcM22 pmM22 anM22 cdM22 ctM22), slM22⟩)
    (cM22_ : PySem.W.codeIn K cdM22 "Coins.mean_if" = true)
    (kM22 : PySem.W.keepIn K (.ref fM22) = true)
    (aM23 : PySem.W.findIn K (.ref C) "swing" = some (some (.ref fM23)))
    (iM23 : PySem.W.isFn K (.ref fM23) = true)
    (lM23 : K.lookup fM23 = some ⟨ocM23, odM23, .func (PySem.W.fnOf "swing" "Coins.swing" (defArgs sSwing) (defBody sSwing) (defScope sSwing) .none kVM23 dcM23 pmM23 anM23 cdM23 ctM23), slM23⟩)
    (cM23_ : PySem.W.codeIn K cdM23 "Coins.swing" = true)
    (kM23 : PySem.W.keepIn K (.ref fM23) = true)
    (aM24 : PySem.W.findIn K (.ref C) "chance" = some (some (.ref fM24)))
    (iM24 : PySem.W.isFn K (.ref fM24) = true)
    (lM24 : K.lookup fM24 = some ⟨ocM24, odM24, .func (PySem.W.fnOf "chance" "Coins.chance" (defArgs sChance) (defBody sChance) (defScope sChance) .none kVM24 dcM24 pmM24 anM24 cdM24 ctM24), slM24⟩)
    (cM24_ : PySem.W.codeIn K cdM24 "Coins.chance" = true)
    (kM24 : PySem.W.keepIn K (.ref fM24) = true)
    (aM25 : PySem.W.findIn K (.ref C) "worth" = some (some (.ref fM25)))
    (iM25 : PySem.W.isFn K (.ref fM25) = true)
    (lM25 : K.lookup fM25 = some ⟨ocM25, odM25, .func (PySem.W.fnOf "worth" "Coins.worth" (defArgs sWorth) (defBody sWorth) (defScope sWorth) .none kVM25 dcM25 pmM25 anM25 cdM25 ctM25), slM25⟩)
    (cM25_ : PySem.W.codeIn K cdM25 "Coins.worth" = true)
    (kM25 : PySem.W.keepIn K (.ref fM25) = true)
    (aM26 : PySem.W.findIn K (.ref C) "best" = some (some (.ref fM26)))
    (iM26 : PySem.W.isFn K (.ref fM26) = true)
    (lM26 : K.lookup fM26 = some ⟨ocM26, odM26, .func (PySem.W.fnOf "best" "Coins.best" (defArgs sBest) (defBody sBest) (defScope sBest) .none kVM26 dcM26 pmM26 anM26 cdM26 ctM26), slM26⟩)
    (cM26_ : PySem.W.codeIn K cdM26 "Coins.best" = true)
    (kM26 : PySem.W.keepIn K (.ref fM26) = true)
    (aM27 : PySem.W.findIn K (.ref C) "table" = some (some (.ref fM27)))
    (iM27 : PySem.W.isFn K (.ref fM27) = true)
    (lM27 : K.lookup fM27 = some ⟨ocM27, odM27, .func (PySem.W.fnOf "table" "Coins.table" (defArgs sTable) (defBody sTable) (defScope sTable) .none kVM27 dcM27 pmM27 anM27 cdM27 ctM27), slM27⟩)
    (cM27_ : PySem.W.codeIn K cdM27 "Coins.table" = true)
    (kM27 : PySem.W.keepIn K (.ref fM27) = true)
    (lD : K.lookup tD = some ⟨ocD, odD, .seq [.int 0 tkD].toArray nD, slD⟩)
    (aN : PySem.W.nsIn K mainGlobals "NUMBERS" = some (some (.ref tN)))
    (lN : K.lookup tN = some ⟨.type "tuple", odN, .seq [.int 1 tn0, .int 3 tn1, .int 1 tn2, .int 2 tn3, .int 1 tn4, .int 1 tn5, .int 2 tn6, .int 1 tn7, .int 1 tn8, .int 0 tn9, .int 0 tn10, .int 2 tn11, .int 1 tn12, .int 0 tn13, .int 0 tn14, .int 1 tn15, .int 0 tn16, .int 0 tn17].toArray nN, slN⟩)
    (aW : PySem.W.nsIn K mainGlobals "WITH_ROW" = some (some (.ref tW)))
    (lW : K.lookup tW = some ⟨.type "tuple", odW, .seq [.int 2 tw0, .int 3 tw1, .int 9 tw2].toArray nW, slW⟩)
    (gBEGIN : PySem.W.nsIn K mainGlobals "BEGIN" = some (some (.int 0 tBEGIN)))
    (gCOIN : PySem.W.nsIn K mainGlobals "COIN" = some (some (.int 1 tCOIN)))
    (gALL : PySem.W.nsIn K mainGlobals "ALL" = some (some (.int 2 tALL)))
    (gMANY : PySem.W.nsIn K mainGlobals "MANY" = some (some (.int 3 tMANY)))
    (gDROP : PySem.W.nsIn K mainGlobals "DROP" = some (some (.int 4 tDROP)))
    (gWANT : PySem.W.nsIn K mainGlobals "WANT" = some (some (.int 5 tWANT)))
    (gLAY : PySem.W.nsIn K mainGlobals "LAY" = some (some (.int 6 tLAY)))
    (gLIFT : PySem.W.nsIn K mainGlobals "LIFT" = some (some (.int 7 tLIFT)))
    (gCHOOSE : PySem.W.nsIn K mainGlobals "CHOOSE" = some (some (.int 8 tCHOOSE)))
    (gRUN : PySem.W.nsIn K mainGlobals "RUN" = some (some (.int 9 tRUN)))
    (gMEAN : PySem.W.nsIn K mainGlobals "MEAN" = some (some (.int 10 tMEAN)))
    (gMEANIF : PySem.W.nsIn K mainGlobals "MEANIF" = some (some (.int 11 tMEANIF)))
    (gCHANCE : PySem.W.nsIn K mainGlobals "CHANCE" = some (some (.int 12 tCHANCE)))
    (gWORTH : PySem.W.nsIn K mainGlobals "WORTH" = some (some (.int 13 tWORTH)))
    (gBEST : PySem.W.nsIn K mainGlobals "BEST" = some (some (.int 14 tBEST)))
    (gSWING : PySem.W.nsIn K mainGlobals "SWING" = some (some (.int 15 tSWING)))
    (gCLEAR : PySem.W.nsIn K mainGlobals "CLEAR" = some (some (.int 17 tCLEAR)))
    (gNO_SUCH : PySem.W.nsIn K mainGlobals "NO_SUCH" = some (some (.int (-2) tNO_SUCH)))
    (gSTILL_THROWN : PySem.W.nsIn K mainGlobals "STILL_THROWN" = some (some (.int (-6) tSTILL_THROWN)))
    (gNOT_BEGUN : PySem.W.nsIn K mainGlobals "NOT_BEGUN" = some (some (.int (-11) tNOT_BEGUN)))
    (gIS_LAID : PySem.W.nsIn K mainGlobals "IS_LAID" = some (some (.int (-17) tIS_LAID)))
    (gWRONG : PySem.W.nsIn K mainGlobals "WRONG" = some (some (.int (-22) tWRONG)))
    (gFULL : PySem.W.nsIn K mainGlobals "FULL" = some (some (.int (-28) tFULL)))
    (gNOT_LAID : PySem.W.nsIn K mainGlobals "NOT_LAID" = some (some (.int (-33) tNOT_LAID)))
    (gMOST_COINS : PySem.W.nsIn K mainGlobals "MOST_COINS" = some (some (.int 10 tMOST_COINS)))
    (gMOST_PARTS : PySem.W.nsIn K mainGlobals "MOST_PARTS" = some (some (.int 10 tMOST_PARTS)))
    (gMOST_TERMS : PySem.W.nsIn K mainGlobals "MOST_TERMS" = some (some (.int 12 tMOST_TERMS)))
    (gMOST_WEIGHT : PySem.W.nsIn K mainGlobals "MOST_WEIGHT" = some (some (.int 100 tMOST_WEIGHT)))
    (gMOST_TOLD : PySem.W.nsIn K mainGlobals "MOST_TOLD" = some (some (.int 20 tMOST_TOLD)))
    (gTHROWN : PySem.W.nsIn K mainGlobals "THROWN" = some (some (.int (-1) tTHROWN)))
    (gAS_TOLD : PySem.W.nsIn K mainGlobals "AS_TOLD" = some (some (.int (-1) tAS_TOLD)))
    (b_len : PySem.W.nsIn K mainGlobals "len" = some none)
    (b_range : PySem.W.nsIn K mainGlobals "range" = some none)
    (b_enumerate : PySem.W.nsIn K mainGlobals "enumerate" = some none)
    (b_zip : PySem.W.nsIn K mainGlobals "zip" = some none)
    (b_sum : PySem.W.nsIn K mainGlobals "sum" = some none)
    (b_list : PySem.W.nsIn K mainGlobals "list" = some none)
    (b_all : PySem.W.nsIn K mainGlobals "all" = some none)
    (b_abs : PySem.W.nsIn K mainGlobals "abs" = some none)
    (b_max : PySem.W.nsIn K mainGlobals "max" = some none)
    (b_min : PySem.W.nsIn K mainGlobals "min" = some none)
    (pg : PySem.W.plainGet K C Str.empty = true)
    (hd : PySem.W.hasDictIn K C = true)
    (po : PySem.W.plainOver K C = true)
    (sa : PySem.W.findIn K (.ref C) "__setattr__" = some (some (.builtin "object.__setattr__")))
    (mk : PySem.W.makesIn K C = true)
    (kc : PySem.W.keepIn K (.ref C) = true)
    (nC : PySem.W.findIn K (.ref C) "chances" = some none)
    (nL : PySem.W.findIn K (.ref C) "laid" = some none)
    (nT : PySem.W.findIn K (.ref C) "terms" = some none)
    (nM : PySem.W.findIn K (.ref C) "much" = some none)
    : ∃ fd : FuncData, (∀ (s : Shared) (us : List Value), us.length = (["calls"] : List Str).length → BindsTo s fd ⟨us, []⟩ ((["calls"] : List Str).zip us)) ∧ ∀ base : Heap, K.In base → base.Ns mainGlobals mg → FnOk P w K mg base CX0 10 fa fd ["calls"] (spAnswers K) := by
  have e := hfa.symm.trans (PySem.W.mg_of X G aF16)
  cases e
  have T : Txt K mg C := ⟨⟨pg, hd, po, sa⟩, nC, nL, nT, nM, PySem.W.mg_of X G aC⟩
  have B : Bl mg := ⟨PySem.W.mg_none_of X G b_len, PySem.W.mg_none_of X G b_range, PySem.W.mg_none_of X G b_enumerate, PySem.W.mg_none_of X G b_zip, PySem.W.mg_none_of X G b_sum, PySem.W.mg_none_of X G b_list, PySem.W.mg_none_of X G b_all, PySem.W.mg_none_of X G b_abs, PySem.W.mg_none_of X G b_max, PySem.W.mg_none_of X G b_min⟩
  have RF0 := fun_mk (st := sIsWeight) lF0 cF0_ kF0
  have bF0 := RF0.binds (ps := ["w"]) fun _ _ _ _ _ _ us hl => match us, hl with | [_], _ => rfl
  have RF1 := fun_mk (st := sWithin) lF1 cF1_ kF1
  have bF1 := RF1.binds (ps := ["row", "end"]) fun _ _ _ _ _ _ us hl => match us, hl with | [_, _], _ => rfl
  have RF2 := fun_mk (st := sRising) lF2 cF2_ kF2
  have bF2 := RF2.binds (ps := ["row"]) fun _ _ _ _ _ _ us hl => match us, hl with | [_], _ => rfl
  have RF3 := fun_mk (st := sCoinParts) lF3 cF3_ kF3
  have bF3 := RF3.binds (ps := ["chance", "lies"]) fun _ _ _ _ _ _ us hl => match us, hl with | [_, _], _ => rfl
  have RF4 := fun_mk (st := sAsTold) lF4 cF4_ kF4
  have bF4 := RF4.binds (ps := ["parts", "row"]) fun _ _ _ _ _ _ us hl => match us, hl with | [_, _], _ => rfl
  have RF5 := fun_mk (st := sWithCoin) lF5 cF5_ kF5
  have bF5 := RF5.binds (ps := ["counts", "part"]) fun _ _ _ _ _ _ us hl => match us, hl with | [_, _], _ => rfl
  have RF6 := fun_mk (st := sMany) lF6 cF6_ kF6
  have bF6 := RF6.binds (ps := ["parts", "t", "row"]) fun _ _ _ _ _ _ us hl => match us, hl with | [_, _, _], _ => rfl
  have RF7 := fun_mk (st := sTermParts) lF7 cF7_ kF7
  have bF7 := RF7.binds (ps := ["parts", "term"]) fun _ _ _ _ _ _ us hl => match us, hl with | [_, _], _ => rfl
  have RF8 := fun_mk (st := sMeanUpper) lF8 cF8_ kF8
  have bF8 := RF8.binds (ps := ["chances", "laid", "terms"]) fun _ _ _ _ _ _ us hl => match us, hl with | [_, _, _], _ => rfl
  have RF9 := fun_mk (st := sGcd) lF9 cF9_ kF9
  have bF9 := RF9.binds (ps := ["a", "b"]) fun _ _ _ _ _ _ us hl => match us, hl with | [_, _], _ => rfl
  have RF10 := fun_mk (st := sIsSo) lF10 cF10_ kF10
  have bF10 := RF10.binds (ps := ["term", "way"]) fun _ _ _ _ _ _ us hl => match us, hl with | [_, _], _ => rfl
  have RF11 := fun_mk (st := sComes) lF11 cF11_ kF11
  have bF11 := RF11.binds (ps := ["terms", "way"]) fun _ _ _ _ _ _ us hl => match us, hl with | [_, _], _ => rfl
  have RF12 := fun_mk (st := sWays) lF12 cF12_ kF12
  have bF12 := RF12.binds (ps := ["laid"]) fun _ _ _ _ _ _ us hl => match us, hl with | [_], _ => rfl
  have RF13 := fun_mk (st := sOne) lF13 cF13_ kF13
  have bF13 := RF13.binds (ps := ["coins", "call", "numbers", "row"]) fun _ _ _ _ _ _ us hl => match us, hl with | [_, _, _, _], _ => rfl
  have RF14 := fun_mk (st := sSome) lF14 cF14_ kF14
  have bF14 := RF14.binds (ps := ["coins", "call", "numbers", "row"]) fun _ _ _ _ _ _ us hl => match us, hl with | [_, _, _, _], _ => rfl
  have RF15 := fun_mk (st := sAns) lF15 cF15_ kF15
  have bF15 := RF15.binds (ps := ["coins", "call", "numbers", "row"]) fun _ _ _ _ _ _ us hl => match us, hl with | [_, _, _, _], _ => rfl
  have RF16 := fun_mk (st := sAnswers) lF16 cF16_ kF16
  have bF16 := RF16.binds (ps := ["calls"]) fun _ _ _ _ _ _ us hl => match us, hl with | [_], _ => rfl
  have RM0 := fun_mk (st := sInit) lM0 cM0_ kM0
  have bM0 := RM0.binds (ps := ["self"]) fun _ _ _ _ _ _ us hl => match us, hl with | [_], _ => rfl
  have RM1 := fun_mk (st := sBegun) lM1 cM1_ kM1
  have bM1 := RM1.binds (ps := ["self"]) fun _ _ _ _ _ _ us hl => match us, hl with | [_], _ => rfl
  have RM2 := fun_mk (st := sHas) lM2 cM2_ kM2
  have bM2 := RM2.binds (ps := ["self", "i"]) fun _ _ _ _ _ _ us hl => match us, hl with | [_, _], _ => rfl
  have RM3 := fun_mk (st := sHasT) lM3 cM3_ kM3
  have bM3 := RM3.binds (ps := ["self", "j"]) fun _ _ _ _ _ _ us hl => match us, hl with | [_, _], _ => rfl
  have RM4 := fun_mk (st := sBegin) lM4 cM4_ kM4
  have bM4 := RM4.binds (ps := ["self", "n"]) fun _ _ _ _ _ _ us hl => match us, hl with | [_, _], _ => rfl
  have RM5 := fun_mk (st := sCoin) lM5 cM5_ kM5
  have bM5 := RM5.binds (ps := ["self", "i", "a", "b"]) fun _ _ _ _ _ _ us hl => match us, hl with | [_, _, _, _], _ => rfl
  have RM6 := fun_mk (st := sAddTerm) lM6 cM6_ kM6
  have bM6 := RM6.binds (ps := ["self", "w", "t", "row"]) fun _ _ _ _ _ _ us hl => match us, hl with | [_, _, _, _], _ => rfl
  have RM7 := fun_mk (st := sAddAll) lM7 cM7_ kM7
  have bM7 := RM7.binds (ps := ["self", "w", "row"]) fun _ _ _ _ _ _ us hl => match us, hl with | [_, _, _], _ => rfl
  have RM8 := fun_mk (st := sAddMany) lM8 cM8_ kM8
  have bM8 := RM8.binds (ps := ["self", "w", "t", "row"]) fun _ _ _ _ _ _ us hl => match us, hl with | [_, _, _, _], _ => rfl
  have RM9 := fun_mk (st := sDrop) lM9 cM9_ kM9
  have bM9 := RM9.binds (ps := ["self", "j"]) fun _ _ _ _ _ _ us hl => match us, hl with | [_, _], _ => rfl
  have RM10 := fun_mk (st := sWant) lM10 cM10_ kM10
  have bM10 := RM10.binds (ps := ["self", "s"]) fun _ _ _ _ _ _ us hl => match us, hl with | [_, _], _ => rfl
  have RM11 : FunD K "refusal_to_lay" "Coins.refusal_to_lay" (defArgs sRef) (defBody sRef) (defScope sRef) [.int 0] [] fM11 (PySem.W.fnOf "refusal_to_lay" "Coins.refusal_to_lay" (defArgs sRef) (defBody sRef) (defScope sRef) (.ref tD) kVM11 dcM11 pmM11 anM11 cdM11 ctM11) := ⟨⟨ocM11, odM11, .ref tD, kVM11, dcM11, pmM11, anM11, cdM11, ctM11, slM11, rfl, lM11, cM11_, .inr ⟨List.cons_ne_nil _ _, tD, _, [.int 0 tkD], nD, rfl, lD, rfl, .cons ⟨_, rfl⟩ .nil⟩, .inl rfl⟩, kM11⟩
  obtain ⟨dz, vz, bz⟩ := RM11.binds1 (ps := ["self", "i", "v"]) 2 0 (List.cons_ne_nil _ _) rfl fun T kV doc pm an cdv ct us its hu hi => match us, hu, its, hi with | [_, _], _, [_], _ => ⟨_, rfl, rfl⟩
  have bM11 : Binds K (PySem.W.fnOf "refusal_to_lay" "Coins.refusal_to_lay" (defArgs sRef) (defBody sRef) (defScope sRef) (.ref tD) kVM11 dcM11 pmM11 anM11 cdM11 ctM11) ["self", "i", "v"] [] := by
    obtain ⟨ds, vs, bs⟩ := RM11.binds1 (ps := ["self", "i", "v"]) 3 1 (List.cons_ne_nil _ _) rfl fun T kV doc pm an cdv ct us its hu hi => match us, hu, its, hi with | [_, _, _], _, [_], _ => ⟨_, rfl, rfl⟩
    cases vs
    exact bs
  have RM12 := fun_mk (st := sLay) lM12 cM12_ kM12
  have bM12 := RM12.binds (ps := ["self", "i", "v"]) fun _ _ _ _ _ _ us hl => match us, hl with | [_, _, _], _ => rfl
  have RM13 := fun_mk (st := sLift) lM13 cM13_ kM13
  have bM13 := RM13.binds (ps := ["self", "i"]) fun _ _ _ _ _ _ us hl => match us, hl with | [_, _], _ => rfl
  have RM14 := fun_mk (st := sMeanIf) lM14 cM14_ kM14
  have bM14 := RM14.binds (ps := ["self", "i", "v"]) fun _ _ _ _ _ _ us hl => match us, hl with | [_, _, _], _ => rfl
  have RM15 := fun_mk (st := sBetter) lM15 cM15_ kM15
  have bM15 := RM15.binds (ps := ["self", "one", "other"]) fun _ _ _ _ _ _ us hl => match us, hl with | [_, _, _], _ => rfl
  have RM16 := fun_mk (st := sWell) lM16 cM16_ kM16
  have bM16 := RM16.binds (ps := ["self", "i"]) fun _ _ _ _ _ _ us hl => match us, hl with | [_, _], _ => rfl
  have RM17 := fun_mk (st := sChoose) lM17 cM17_ kM17
  have bM17 := RM17.binds (ps := ["self", "i"]) fun _ _ _ _ _ _ us hl => match us, hl with | [_, _], _ => rfl
  have RM18 := fun_mk (st := sRun) lM18 cM18_ kM18
  have bM18 := RM18.binds (ps := ["self", "row"]) fun _ _ _ _ _ _ us hl => match us, hl with | [_, _], _ => rfl
  have RM19 := fun_mk (st := sClear) lM19 cM19_ kM19
  have bM19 := RM19.binds (ps := ["self"]) fun _ _ _ _ _ _ us hl => match us, hl with | [_], _ => rfl
  have RM20 := fun_mk (st := sFrac) lM20 cM20_ kM20
  have bM20 := RM20.binds (ps := ["self", "upper"]) fun _ _ _ _ _ _ us hl => match us, hl with | [_, _], _ => rfl
  have RM21 := fun_mk (st := sMean) lM21 cM21_ kM21
  have bM21 := RM21.binds (ps := ["self"]) fun _ _ _ _ _ _ us hl => match us, hl with | [_], _ => rfl
  have RM22 := fun_mk (st := sMeanF) lM22 cM22_ kM22
  have bM22 := RM22.binds (ps := ["self", "i", "v"]) fun _ _ _ _ _ _ us hl => match us, hl with | [_, _, _], _ => rfl
  have RM23 := fun_mk (st := sSwing) lM23 cM23_ kM23
  have bM23 := RM23.binds (ps := ["self", "i"]) fun _ _ _ _ _ _ us hl => match us, hl with | [_, _], _ => rfl
  have RM24 := fun_mk (st := sChance) lM24 cM24_ kM24
  have bM24 := RM24.binds (ps := ["self", "j"]) fun _ _ _ _ _ _ us hl => match us, hl with | [_, _], _ => rfl
  have RM25 := fun_mk (st := sWorth) lM25 cM25_ kM25
  have bM25 := RM25.binds (ps := ["self"]) fun _ _ _ _ _ _ us hl => match us, hl with | [_], _ => rfl
  have RM26 := fun_mk (st := sBest) lM26 cM26_ kM26
  have bM26 := RM26.binds (ps := ["self"]) fun _ _ _ _ _ _ us hl => match us, hl with | [_], _ => rfl
  have RM27 := fun_mk (st := sTable) lM27 cM27_ kM27
  have bM27 := RM27.binds (ps := ["self"]) fun _ _ _ _ _ _ us hl => match us, hl with | [_], _ => rfl
  have qBEGIN : GI mg "BEGIN" 0 := gi_of X G gBEGIN
  have qCOIN : GI mg "COIN" 1 := gi_of X G gCOIN
  have qALL : GI mg "ALL" 2 := gi_of X G gALL
  have qMANY : GI mg "MANY" 3 := gi_of X G gMANY
  have qDROP : GI mg "DROP" 4 := gi_of X G gDROP
  have qWANT : GI mg "WANT" 5 := gi_of X G gWANT
  have qLAY : GI mg "LAY" 6 := gi_of X G gLAY
  have qLIFT : GI mg "LIFT" 7 := gi_of X G gLIFT
  have qCHOOSE : GI mg "CHOOSE" 8 := gi_of X G gCHOOSE
  have qRUN : GI mg "RUN" 9 := gi_of X G gRUN
  have qMEAN : GI mg "MEAN" 10 := gi_of X G gMEAN
  have qMEANIF : GI mg "MEANIF" 11 := gi_of X G gMEANIF
  have qCHANCE : GI mg "CHANCE" 12 := gi_of X G gCHANCE
  have qWORTH : GI mg "WORTH" 13 := gi_of X G gWORTH
  have qBEST : GI mg "BEST" 14 := gi_of X G gBEST
  have qSWING : GI mg "SWING" 15 := gi_of X G gSWING
  have qCLEAR : GI mg "CLEAR" 17 := gi_of X G gCLEAR
  have qNO_SUCH : GI mg "NO_SUCH" (-2) := gi_of X G gNO_SUCH
  have qSTILL_THROWN : GI mg "STILL_THROWN" (-6) := gi_of X G gSTILL_THROWN
  have qNOT_BEGUN : GI mg "NOT_BEGUN" (-11) := gi_of X G gNOT_BEGUN
  have qIS_LAID : GI mg "IS_LAID" (-17) := gi_of X G gIS_LAID
  have qWRONG : GI mg "WRONG" (-22) := gi_of X G gWRONG
  have qFULL : GI mg "FULL" (-28) := gi_of X G gFULL
  have qNOT_LAID : GI mg "NOT_LAID" (-33) := gi_of X G gNOT_LAID
  have qMOST_COINS : GI mg "MOST_COINS" 10 := gi_of X G gMOST_COINS
  have qMOST_PARTS : GI mg "MOST_PARTS" 10 := gi_of X G gMOST_PARTS
  have qMOST_TERMS : GI mg "MOST_TERMS" 12 := gi_of X G gMOST_TERMS
  have qMOST_WEIGHT : GI mg "MOST_WEIGHT" 100 := gi_of X G gMOST_WEIGHT
  have qMOST_TOLD : GI mg "MOST_TOLD" 20 := gi_of X G gMOST_TOLD
  have qTHROWN : GI mg "THROWN" (-1) := gi_of X G gTHROWN
  have qAS_TOLD : GI mg "AS_TOLD" (-1) := gi_of X G gAS_TOLD
  refine ⟨PySem.W.fnOf "answers" "answers" (defArgs sAnswers) (defBody sAnswers) (defScope sAnswers) .none kVF16 dcF16 pmF16 anF16 cdF16 ctF16, fun s us hu => match us, hu with | [_], _ => .of_eq rfl, fun base _ _ => ?_⟩
  have GF0 : FnOk P w K mg base CX0 1 fF0 _ ["w"] (spIsWeight) := ok_isWeight RF0 qMOST_WEIGHT
  have GF1 : FnOk P w K mg base CX0 1 fF1 _ ["row", "end"] (spWithin K) := ok_within RF1 B
  have GF2 : FnOk P w K mg base CX0 1 fF2 _ ["row"] (spRising K) := ok_rising RF2 B
  have GF3 : FnOk P w K mg base CX0 1 fF3 _ ["chance", "lies"] (spCoinParts K) := ok_coinParts RF3
  have GF4 : FnOk P w K mg base CX0 1 fF4 _ ["parts", "row"] (spAsTold K) := ok_asTold RF4 B
  have GF5 : FnOk P w K mg base CX0 1 fF5 _ ["counts", "part"] (spWithCoin K) := ok_withCoin RF5 B
  have GF6 : FnOk P w K mg base CX0 2 fF6 _ ["parts", "t", "row"] (spMany K) := ok_many RF6 B GF5 bF5 kF5 (PySem.W.mg_of X G aF5)
  have GF7 : FnOk P w K mg base CX0 3 fF7 _ ["parts", "term"] (spTermParts K) := ok_termParts RF7 qAS_TOLD GF4 bF4 kF4 (PySem.W.mg_of X G aF4) GF6 bF6 kF6 (PySem.W.mg_of X G aF6)
  have GF8 : FnOk P w K mg base CX0 4 fF8 _ ["chances", "laid", "terms"] (spMeanUpper K) := ok_meanUpper RF8 B GF3 bF3 kF3 (PySem.W.mg_of X G aF3) GF7 bF7 kF7 (PySem.W.mg_of X G aF7)
  have GF9 : FnOk P w K mg base CX0 1 fF9 _ ["a", "b"] (spGcd) := ok_gcd RF9
  have GF10 : FnOk P w K mg base CX0 1 fF10 _ ["term", "way"] (spIsSo K) := ok_isSo RF10 B qAS_TOLD
  have GF11 : FnOk P w K mg base CX0 2 fF11 _ ["terms", "way"] (spComes K) := ok_comes RF11 B GF10 bF10 kF10 (PySem.W.mg_of X G aF10)
  have GF12 : FnOk P w K mg base CX0 1 fF12 _ ["laid"] (spWays K) := ok_ways RF12
  have GM0 : FnOk P w K mg base CX0 1 fM0 _ ["self"] (spInit K C) := ok_init RM0 T
  have GM1 : FnOk P w K mg base CX0 1 fM1 _ ["self"] (spBegun K C) := ok_begun RM1 T B
  have GM2 : FnOk P w K mg base CX0 1 fM2 _ ["self", "i"] (spHas K C) := ok_has RM2 T B
  have GM3 : FnOk P w K mg base CX0 1 fM3 _ ["self", "j"] (spHasT K C) := ok_hasT RM3 T B
  have GM4 : FnOk P w K mg base CX0 1 fM4 _ ["self", "n"] (spBegin K C) := ok_begin RM4 T B qMOST_COINS qWRONG qTHROWN
  have GM5 : FnOk P w K mg base CX0 2 fM5 _ ["self", "i", "a", "b"] (spCoin K C) := ok_coin RM5 T qNO_SUCH qWRONG qMOST_PARTS GM2 bM2 ⟨aM2, iM2, kM2⟩
  have GM6 : FnOk P w K mg base CX0 1 fM6 _ ["self", "w", "t", "row"] (spAddTerm K C) := ok_addTerm RM6 T B qMOST_TERMS qFULL
  have GM7 : FnOk P w K mg base CX0 2 fM7 _ ["self", "w", "row"] (spAddAll K C) := ok_addAll RM7 T B qWRONG qMOST_TOLD qAS_TOLD GF0 bF0 kF0 (PySem.W.mg_of X G aF0) GF1 bF1 kF1 (PySem.W.mg_of X G aF1) GM6 bM6 ⟨aM6, iM6, kM6⟩
  have GM8 : FnOk P w K mg base CX0 2 fM8 _ ["self", "w", "t", "row"] (spAddMany K C) := ok_addMany RM8 T B qWRONG qMOST_TOLD GF0 bF0 kF0 (PySem.W.mg_of X G aF0) GF1 bF1 kF1 (PySem.W.mg_of X G aF1) GF2 bF2 kF2 (PySem.W.mg_of X G aF2) GM6 bM6 ⟨aM6, iM6, kM6⟩
  have GM9 : FnOk P w K mg base CX0 2 fM9 _ ["self", "j"] (spDrop K C) := ok_drop RM9 T B qNO_SUCH GM3 bM3 ⟨aM3, iM3, kM3⟩
  have GM10 : FnOk P w K mg base CX0 1 fM10 _ ["self", "s"] (spWant K C) := ok_want RM10 T qWRONG
  have GM11 : FnOk P w K mg base CX0 2 fM11 _ ["self", "i", "v"] (spRef K C) := ok_ref RM11 T qNO_SUCH qWRONG qIS_LAID qTHROWN GM2 bM2 ⟨aM2, iM2, kM2⟩
  have GM12 : FnOk P w K mg base CX0 3 fM12 _ ["self", "i", "v"] (spLay K C) := ok_lay RM12 T GM11 bM11 ⟨aM11, iM11, kM11⟩
  have GM13 : FnOk P w K mg base CX0 2 fM13 _ ["self", "i"] (spLift K C) := ok_lift RM13 T qNO_SUCH qNOT_LAID qTHROWN GM2 bM2 ⟨aM2, iM2, kM2⟩
  have GM14 : FnOk P w K mg base CX0 5 fM14 _ ["self", "i", "v"] (spMeanIf K C) := ok_meanIf RM14 T B GF8 bF8 kF8 (PySem.W.mg_of X G aF8)
  have GM15 : FnOk P w K mg base CX0 1 fM15 _ ["self", "one", "other"] (spBetter K C) := ok_better RM15 T
  have GM16 : FnOk P w K mg base CX0 6 fM16 _ ["self", "i"] (spWell K C) := ok_well RM16 T GM14 bM14 ⟨aM14, iM14, kM14⟩ GM15 bM15 ⟨aM15, iM15, kM15⟩
  have GM17 : FnOk P w K mg base CX0 7 fM17 _ ["self", "i"] (spChoose K C) := ok_choose RM17 T GM11 bz vz ⟨aM11, iM11, kM11⟩ GM16 bM16 ⟨aM16, iM16, kM16⟩
  have GM18 : FnOk P w K mg base CX0 7 fM18 _ ["self", "row"] (spRun K C) := ok_run RM18 T B qWRONG qMOST_TOLD qTHROWN GF1 bF1 kF1 (PySem.W.mg_of X G aF1) GM16 bM16 ⟨aM16, iM16, kM16⟩
  have GM19 : FnOk P w K mg base CX0 1 fM19 _ ["self"] (spClear K C) := ok_clear RM19 T B qTHROWN
  have GM20 : FnOk P w K mg base CX0 2 fM20 _ ["self", "upper"] (spFrac K C) := ok_frac RM20 T B GF9 bF9 kF9 (PySem.W.mg_of X G aF9)
  have GM21 : FnOk P w K mg base CX0 5 fM21 _ ["self"] (spMean K C) := ok_mean RM21 T GF8 bF8 kF8 (PySem.W.mg_of X G aF8) GM20 bM20 ⟨aM20, iM20, kM20⟩
  have GM22 : FnOk P w K mg base CX0 6 fM22 _ ["self", "i", "v"] (spMeanF K C) := ok_meanF RM22 T GM11 bM11 ⟨aM11, iM11, kM11⟩ GM14 bM14 ⟨aM14, iM14, kM14⟩ GM20 bM20 ⟨aM20, iM20, kM20⟩
  have GM23 : FnOk P w K mg base CX0 6 fM23 _ ["self", "i"] (spSwing K C) := ok_swing RM23 T GM11 bz vz ⟨aM11, iM11, kM11⟩ GM14 bM14 ⟨aM14, iM14, kM14⟩ GM20 bM20 ⟨aM20, iM20, kM20⟩
  have GM24 : FnOk P w K mg base CX0 5 fM24 _ ["self", "j"] (spChance K C) := ok_chance RM24 T qNO_SUCH GM3 bM3 ⟨aM3, iM3, kM3⟩ GF8 bF8 kF8 (PySem.W.mg_of X G aF8) GM20 bM20 ⟨aM20, iM20, kM20⟩
  have GM25 : FnOk P w K mg base CX0 3 fM25 _ ["self"] (spWorth K C) := ok_worth RM25 T qSTILL_THROWN qTHROWN GF11 bF11 kF11 (PySem.W.mg_of X G aF11)
  have GM26 : FnOk P w K mg base CX0 3 fM26 _ ["self"] (spBest K C) := ok_best RM26 T B GF12 bF12 kF12 (PySem.W.mg_of X G aF12) GF11 bF11 kF11 (PySem.W.mg_of X G aF11)
  have GM27 : FnOk P w K mg base CX0 1 fM27 _ ["self"] (spTable K C) := ok_table RM27 T B
  have GF13 : FnOk P w K mg base CX0 8 fF13 _ ["coins", "call", "numbers", "row"] (spOne K C) := ok_one_number RF13 T qCOIN qALL qMANY qDROP qWANT qLAY qLIFT ⟨fM5, _, GM5, bM5, aM5, iM5, kM5⟩ ⟨fM7, _, GM7, bM7, aM7, iM7, kM7⟩ ⟨fM8, _, GM8, bM8, aM8, iM8, kM8⟩ ⟨fM9, _, GM9, bM9, aM9, iM9, kM9⟩ ⟨fM10, _, GM10, bM10, aM10, iM10, kM10⟩ ⟨fM12, _, GM12, bM12, aM12, iM12, kM12⟩ ⟨fM13, _, GM13, bM13, aM13, iM13, kM13⟩ ⟨fM17, _, GM17, bM17, aM17, iM17, kM17⟩
  have GF14 : FnOk P w K mg base CX0 8 fF14 _ ["coins", "call", "numbers", "row"] (spSome K C) := ok_some_numbers RF14 T qRUN qMEAN qMEANIF qCHANCE qWORTH qBEST qSWING ⟨fM18, _, GM18, bM18, aM18, iM18, kM18⟩ ⟨fM21, _, GM21, bM21, aM21, iM21, kM21⟩ ⟨fM22, _, GM22, bM22, aM22, iM22, kM22⟩ ⟨fM24, _, GM24, bM24, aM24, iM24, kM24⟩ ⟨fM25, _, GM25, bM25, aM25, iM25, kM25⟩ ⟨fM26, _, GM26, bM26, aM26, iM26, kM26⟩ ⟨fM23, _, GM23, bM23, aM23, iM23, kM23⟩ ⟨fM27, _, GM27, bM27, aM27, iM27, kM27⟩
  have GF15 : FnOk P w K mg base CX0 9 fF15 _ ["coins", "call", "numbers", "row"] (spAnswer K C) := ok_answer RF15 T qBEGIN qCHOOSE qCLEAR qNOT_BEGUN ⟨fM4, _, GM4, bM4, aM4, iM4, kM4⟩ ⟨fM1, _, GM1, bM1, aM1, iM1, kM1⟩ ⟨fM19, _, GM19, bM19, aM19, iM19, kM19⟩ ⟨fF13, _, GF13, bF13, kF13, PySem.W.mg_of X G aF13⟩ ⟨fF14, _, GF14, bF14, kF14, PySem.W.mg_of X G aF14⟩
  have hN : ∀ H, SqT K H tN (iv (up Pz.NUM)) := fun H => .inr ⟨_, _, nN, lN, rfl, rfl, by show 18 ≤ sizeLine; decide, (.cons ⟨_, rfl⟩ (.cons ⟨_, rfl⟩ (.cons ⟨_, rfl⟩ (.cons ⟨_, rfl⟩ (.cons ⟨_, rfl⟩ (.cons ⟨_, rfl⟩ (.cons ⟨_, rfl⟩ (.cons ⟨_, rfl⟩ (.cons ⟨_, rfl⟩ (.cons ⟨_, rfl⟩ (.cons ⟨_, rfl⟩ (.cons ⟨_, rfl⟩ (.cons ⟨_, rfl⟩ (.cons ⟨_, rfl⟩ (.cons ⟨_, rfl⟩ (.cons ⟨_, rfl⟩ (.cons ⟨_, rfl⟩ (.cons ⟨_, rfl⟩ .nil))))))))))))))))))⟩
  have hW : ∀ H, SqT K H tW (iv [2, 3, 9]) := fun H => .inr ⟨_, _, nW, lW, rfl, rfl, by show 3 ≤ sizeLine; decide, (.cons ⟨_, rfl⟩ (.cons ⟨_, rfl⟩ (.cons ⟨_, rfl⟩ .nil)))⟩
  exact ok_answers RF16 T B (PySem.W.mg_of X G aN) hN (PySem.W.mg_of X G aW) hW ⟨mk, aM0, iM0, kc⟩ GM0 bM0 GF15 bF15 kF15 (PySem.W.mg_of X G aF15)
end Co
end
open PySem PySem.W PyProof.Rows
set_option maxRecDepth 100000 in
set_option maxHeartbeats 16000000 in
theorem PySem.Challenge.cw_laidcoins_s01_answers_holds : PySem.Challenge.rw_laidcoins_s01_answers.Holds := by
  w_on; k_headS; (case hw => exact ⟨[.list [.int 10]], by decide +kernel, by decide +kernel⟩)
  k_fillS
  refine L2.walk_specK (r := PySem.Challenge.rw_laidcoins_s01_answers) (k := 10) (CX := L2.CX0) (ps := ["calls"]) (sp := Co.spAnswers) (by decide +kernel) rfl rfl ⟨rfl, by decide, by decide⟩ (fun w h Y => PySem.W.kIn_of Y) ?F ?S (fun _ _ _ _ z => z)
  case F =>
    intro w mg fa h Y KX G hmg
    refine' Co.all_mk KX G hmg ?aC ?aF0 ?lF0 ?cF0_ ?kF0 ?aF1 ?lF1 ?cF1_ ?kF1 ?aF2 ?lF2 ?cF2_ ?kF2 ?aF3 ?lF3 ?cF3_ ?kF3 ?aF4 ?lF4 ?cF4_ ?kF4 ?aF5 ?lF5 ?cF5_ ?kF5 ?aF6 ?lF6 ?cF6_ ?kF6 ?aF7 ?lF7 ?cF7_ ?kF7 ?aF8 ?lF8 ?cF8_ ?kF8 ?aF9 ?lF9 ?cF9_ ?kF9 ?aF10 ?lF10 ?cF10_ ?kF10 ?aF11 ?lF11 ?cF11_ ?kF11 ?aF12 ?lF12 ?cF12_ ?kF12 ?aF13 ?lF13 ?cF13_ ?kF13 ?aF14 ?lF14 ?cF14_ ?kF14 ?aF15 ?lF15 ?cF15_ ?kF15 ?aF16 ?lF16 ?cF16_ ?kF16 ?aM0 ?iM0 ?lM0 ?cM0_ ?kM0 ?aM1 ?iM1 ?lM1 ?cM1_ ?kM1 ?aM2 ?iM2 ?lM2 ?cM2_ ?kM2 ?aM3 ?iM3 ?lM3 ?cM3_ ?kM3 ?aM4 ?iM4 ?lM4 ?cM4_ ?kM4 ?aM5 ?iM5 ?lM5 ?cM5_ ?kM5 ?aM6 ?iM6 ?lM6 ?cM6_ ?kM6 ?aM7 ?iM7 ?lM7 ?cM7_ ?kM7 ?aM8 ?iM8 ?lM8 ?cM8_ ?kM8 ?aM9 ?iM9 ?lM9 ?cM9_ ?kM9 ?aM10 ?iM10 ?lM10 ?cM10_ ?kM10 ?aM11 ?iM11 ?lM11 ?cM11_ ?kM11 ?aM12 ?iM12 ?lM12 ?cM12_ ?kM12 ?aM13 ?iM13 ?lM13 ?cM13_ ?kM13 ?aM14 ?iM14 ?lM14 ?cM14_ ?kM14 ?aM15 ?iM15 ?lM15 ?cM15_ ?kM15 ?aM16 ?iM16 ?lM16 ?cM16_ ?kM16 ?aM17 ?iM17 ?lM17 ?cM17_ ?kM17 ?aM18 ?iM18 ?lM18 ?cM18_ ?kM18 ?aM19 ?iM19 ?lM19 ?cM19_ ?kM19 ?aM20 ?iM20 ?lM20 ?cM20_ ?kM20 ?aM21 ?iM21 ?lM21 ?cM21_ ?kM21 ?aM22 ?iM22 ?lM22 ?cM22_ ?kM22 ?aM23 ?iM23 ?lM23 ?cM23_ ?kM23 ?aM24 ?iM24 ?lM24 ?cM24_ ?kM24 ?aM25 ?iM25 ?lM25 ?cM25_ ?kM25 ?aM26 ?iM26 ?lM26 ?cM26_ ?kM26 ?aM27 ?iM27 ?lM27 ?cM27_ ?kM27 ?lD ?aN ?lN ?aW ?lW ?gBEGIN ?gCOIN ?gALL ?gMANY ?gDROP ?gWANT ?gLAY ?gLIFT ?gCHOOSE ?gRUN ?gMEAN ?gMEANIF ?gCHANCE ?gWORTH ?gBEST ?gSWING ?gCLEAR ?gNO_SUCH ?gSTILL_THROWN ?gNOT_BEGUN ?gIS_LAID ?gWRONG ?gFULL ?gNOT_LAID ?gMOST_COINS ?gMOST_PARTS ?gMOST_TERMS ?gMOST_WEIGHT ?gMOST_TOLD ?gTHROWN ?gAS_TOLD ?b_len ?b_range ?b_enumerate ?b_zip ?b_sum ?b_list ?b_all ?b_abs ?b_max ?b_min ?pg ?hd ?po ?sa ?mk ?kc ?nC ?nL ?nT ?nM
    (case aC => k_is)
    (case aF0 => k_is)
    (case lF0 => k_is)
    (case cF0_ => k_is)
    (case kF0 => k_is)
    (case aF1 => k_is)
    (case lF1 => k_is)
    (case cF1_ => k_is)
    (case kF1 => k_is)
    (case aF2 => k_is)
    (case lF2 => k_is)
    (case cF2_ => k_is)
    (case kF2 => k_is)
    (case aF3 => k_is)
    (case lF3 => k_is)
    (case cF3_ => k_is)
    (case kF3 => k_is)
    (case aF4 => k_is)
    (case lF4 => k_is)
    (case cF4_ => k_is)
    (case kF4 => k_is)
    (case aF5 => k_is)
    (case lF5 => k_is)
    (case cF5_ => k_is)
    (case kF5 => k_is)
    (case aF6 => k_is)
    (case lF6 => k_is)
    (case cF6_ => k_is)
    (case kF6 => k_is)
    (case aF7 => k_is)
    (case lF7 => k_is)
    (case cF7_ => k_is)
    (case kF7 => k_is)
    (case aF8 => k_is)
    (case lF8 => k_is)
    (case cF8_ => k_is)
    (case kF8 => k_is)
    (case aF9 => k_is)
    (case lF9 => k_is)
    (case cF9_ => k_is)
    (case kF9 => k_is)
    (case aF10 => k_is)
    (case lF10 => k_is)
    (case cF10_ => k_is)
    (case kF10 => k_is)
    (case aF11 => k_is)
    (case lF11 => k_is)
    (case cF11_ => k_is)
    (case kF11 => k_is)
    (case aF12 => k_is)
    (case lF12 => k_is)
    (case cF12_ => k_is)
    (case kF12 => k_is)
    (case aF13 => k_is)
    (case lF13 => k_is)
    (case cF13_ => k_is)
    (case kF13 => k_is)
    (case aF14 => k_is)
    (case lF14 => k_is)
    (case cF14_ => k_is)
    (case kF14 => k_is)
    (case aF15 => k_is)
    (case lF15 => k_is)
    (case cF15_ => k_is)
    (case kF15 => k_is)
    (case aF16 => k_is)
    (case lF16 => k_is)
    (case cF16_ => k_is)
    (case kF16 => k_is)
    (case aM0 => k_is)
    (case iM0 => k_is)
    (case lM0 => k_is)
    (case cM0_ => k_is)
    (case kM0 => k_is)
    (case aM1 => k_is)
    (case iM1 => k_is)
    (case lM1 => k_is)
    (case cM1_ => k_is)
    (case kM1 => k_is)
    (case aM2 => k_is)
    (case iM2 => k_is)
    (case lM2 => k_is)
    (case cM2_ => k_is)
    (case kM2 => k_is)
    (case aM3 => k_is)
    (case iM3 => k_is)
    (case lM3 => k_is)
    (case cM3_ => k_is)
    (case kM3 => k_is)
    (case aM4 => k_is)
    (case iM4 => k_is)
    (case lM4 => k_is)
    (case cM4_ => k_is)
    (case kM4 => k_is)
    (case aM5 => k_is)
    (case iM5 => k_is)
    (case lM5 => k_is)
    (case cM5_ => k_is)
    (case kM5 => k_is)
    (case aM6 => k_is)
    (case iM6 => k_is)
    (case lM6 => k_is)
    (case cM6_ => k_is)
    (case kM6 => k_is)
    (case aM7 => k_is)
    (case iM7 => k_is)
    (case lM7 => k_is)
    (case cM7_ => k_is)
    (case kM7 => k_is)
    (case aM8 => k_is)
    (case iM8 => k_is)
    (case lM8 => k_is)
    (case cM8_ => k_is)
    (case kM8 => k_is)
    (case aM9 => k_is)
    (case iM9 => k_is)
    (case lM9 => k_is)
    (case cM9_ => k_is)
    (case kM9 => k_is)
    (case aM10 => k_is)
    (case iM10 => k_is)
    (case lM10 => k_is)
    (case cM10_ => k_is)
    (case kM10 => k_is)
    (case aM11 => k_is)
    (case iM11 => k_is)
    (case lM11 => k_is)
    (case cM11_ => k_is)
    (case kM11 => k_is)
    (case aM12 => k_is)
    (case iM12 => k_is)
    (case lM12 => k_is)
    (case cM12_ => k_is)
    (case kM12 => k_is)
    (case aM13 => k_is)
    (case iM13 => k_is)
    (case lM13 => k_is)
    (case cM13_ => k_is)
    (case kM13 => k_is)
    (case aM14 => k_is)
    (case iM14 => k_is)
    (case lM14 => k_is)
    (case cM14_ => k_is)
    (case kM14 => k_is)
    (case aM15 => k_is)
    (case iM15 => k_is)
    (case lM15 => k_is)
    (case cM15_ => k_is)
    (case kM15 => k_is)
    (case aM16 => k_is)
    (case iM16 => k_is)
    (case lM16 => k_is)
    (case cM16_ => k_is)
    (case kM16 => k_is)
    (case aM17 => k_is)
    (case iM17 => k_is)
    (case lM17 => k_is)
    (case cM17_ => k_is)
    (case kM17 => k_is)
    (case aM18 => k_is)
    (case iM18 => k_is)
    (case lM18 => k_is)
    (case cM18_ => k_is)
    (case kM18 => k_is)
    (case aM19 => k_is)
    (case iM19 => k_is)
    (case lM19 => k_is)
    (case cM19_ => k_is)
    (case kM19 => k_is)
    (case aM20 => k_is)
    (case iM20 => k_is)
    (case lM20 => k_is)
    (case cM20_ => k_is)
    (case kM20 => k_is)
    (case aM21 => k_is)
    (case iM21 => k_is)
    (case lM21 => k_is)
    (case cM21_ => k_is)
    (case kM21 => k_is)
    (case aM22 => k_is)
    (case iM22 => k_is)
    (case lM22 => k_is)
    (case cM22_ => k_is)
    (case kM22 => k_is)
    (case aM23 => k_is)
    (case iM23 => k_is)
    (case lM23 => k_is)
    (case cM23_ => k_is)
    (case kM23 => k_is)
    (case aM24 => k_is)
    (case iM24 => k_is)
    (case lM24 => k_is)
    (case cM24_ => k_is)
    (case kM24 => k_is)
    (case aM25 => k_is)
    (case iM25 => k_is)
    (case lM25 => k_is)
    (case cM25_ => k_is)
    (case kM25 => k_is)
    (case aM26 => k_is)
    (case iM26 => k_is)
    (case lM26 => k_is)
    (case cM26_ => k_is)
    (case kM26 => k_is)
    (case aM27 => k_is)
    (case iM27 => k_is)
    (case lM27 => k_is)
    (case cM27_ => k_is)
    (case kM27 => k_is)
    (case lD => k_is)
    (case aN => k_is)
    (case lN => k_is)
    (case aW => k_is)
    (case lW => k_is)
    (case gBEGIN => k_is)
    (case gCOIN => k_is)
    (case gALL => k_is)
    (case gMANY => k_is)
    (case gDROP => k_is)
    (case gWANT => k_is)
    (case gLAY => k_is)
    (case gLIFT => k_is)
    (case gCHOOSE => k_is)
    (case gRUN => k_is)
    (case gMEAN => k_is)
    (case gMEANIF => k_is)
    (case gCHANCE => k_is)
    (case gWORTH => k_is)
    (case gBEST => k_is)
    (case gSWING => k_is)
    (case gCLEAR => k_is)
    (case gNO_SUCH => k_is)
    (case gSTILL_THROWN => k_is)
    (case gNOT_BEGUN => k_is)
    (case gIS_LAID => k_is)
    (case gWRONG => k_is)
    (case gFULL => k_is)
    (case gNOT_LAID => k_is)
    (case gMOST_COINS => k_is)
    (case gMOST_PARTS => k_is)
    (case gMOST_TERMS => k_is)
    (case gMOST_WEIGHT => k_is)
    (case gMOST_TOLD => k_is)
    (case gTHROWN => k_is)
    (case gAS_TOLD => k_is)
    (case b_len => k_is)
    (case b_range => k_is)
    (case b_enumerate => k_is)
    (case b_zip => k_is)
    (case b_sum => k_is)
    (case b_list => k_is)
    (case b_all => k_is)
    (case b_abs => k_is)
    (case b_max => k_is)
    (case b_min => k_is)
    (case pg => k_is)
    (case hd => k_is)
    (case po => k_is)
    (case sa => k_is)
    (case mk => k_is)
    (case kc => k_is)
    (case nC => k_is)
    (case nL => k_is)
    (case nT => k_is)
    (case nM => k_is)
  case S =>
    intro K H xs a hO hwi hask hx
    cases hx with
    | cons h1 h2 =>
      cases h2
      cases h1 with
      | lst hs ha =>
        have e := L2.ints_dw a.1 _ ha
        subst e
        have q : ((Codec.inLen 0 4500 a.1 && a.1.all (Codec.inInt (-2147483648) 2147483647)) && true) = true := hwi
        rw [Bool.and_eq_true, Bool.and_eq_true] at q
        exact ⟨_, a.1, rfl, hs, hask, (Codec.inNat_iff.mp q.1.1).2, fun H' p hp => .lst (L2.SqL.of hp) (L2.dw_ints _)⟩
