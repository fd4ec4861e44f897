import PyProof.Rows.All
import Wide.All
import OpenK.AllK
import Wide.FinOn
import Open.SpecLaws
import KE.OsHead
import KE.OsGo
import HandS.ForSpec
import HandS.IsInst
import HandS.Codes
import HandS.ClsMeth
import HandS.Iter
import HandS.Comp
import HandS.Walk
import HandS.Wide
import PySem.Challenge.RW_layersover_s01_answers
set_option linter.unusedVariables false
namespace LFrac
open Sq49
/-- in lowest terms -/
structure Low (f : Frac) : Prop where
  d0 : f.d ≠ 0
  g1 : Nat.gcd f.n f.d = 1
/-- its worth -/
def Q (f : Frac) : Rat := mkRat (f.n : Int) f.d
theorem frac_low {n d : Nat} (h : d ≠ 0) : Low (frac n d) := by
  unfold frac
  split
  · exact ⟨by decide, by decide⟩
  · rename_i hn
    have g0 : 0 < Nat.gcd n d := Nat.gcd_pos_of_pos_left _ (Nat.pos_of_ne_zero hn)
    refine ⟨?_, ?_⟩
    · show d / Nat.gcd n d ≠ 0
      have := Nat.div_pos (Nat.le_of_dvd (Nat.pos_of_ne_zero h) (Nat.gcd_dvd_right n d)) g0
      omega
    · exact Nat.gcd_div_gcd_div_gcd_of_pos_left (Nat.pos_of_ne_zero hn)
theorem Q_frac {n d : Nat} (h : d ≠ 0) : Q (frac n d) = mkRat (n : Int) d := by
  unfold frac Q
  split
  · rename_i hn
    subst hn
    simp
  · rename_i hn
    have g0 : 0 < Nat.gcd n d := Nat.gcd_pos_of_pos_left _ (Nat.pos_of_ne_zero hn)
    obtain ⟨a, ha⟩ := Nat.gcd_dvd_left n d
    obtain ⟨b, hb⟩ := Nat.gcd_dvd_right n d
    have e1 : n / Nat.gcd n d = a := by
      conv => lhs; lhs; rw [ha]
      exact Nat.mul_div_cancel_left _ g0
    have e2 : d / Nat.gcd n d = b := by
      conv => lhs; lhs; rw [hb]
      exact Nat.mul_div_cancel_left _ g0
    show mkRat ((n / Nat.gcd n d : Nat) : Int) (d / Nat.gcd n d) = _
    rw [e1, e2]
    have z : mkRat (((Nat.gcd n d * a : Nat)) : Int) (Nat.gcd n d * b) = mkRat (a : Int) b := by
      rw [Int.natCast_mul, Rat.mkRat_mul_left (by omega)]
    rw [← ha, ← hb] at z
    exact z.symm
theorem Low.num {f : Frac} (h : Low f) : (Q f).num = (f.n : Int) := by
  unfold Q
  rw [Rat.num_mkRat, if_neg h.d0]
  rw [Int.natAbs_natCast, Nat.gcd_comm, h.g1]
  simp
theorem Low.den {f : Frac} (h : Low f) : (Q f).den = f.d := by
  unfold Q
  rw [Rat.den_mkRat, if_neg h.d0]
  rw [Int.natAbs_natCast, Nat.gcd_comm, h.g1]
  simp
theorem Low.n_eq {f : Frac} (h : Low f) : f.n = (Q f).num.toNat := by rw [h.num]; rfl
theorem Low.ext {f g : Frac} (hf : Low f) (hg : Low g) (e : Q f = Q g) : f = g := by
  cases f with | mk a b => cases g with | mk c d =>
  have e1 : a = c := by
    have := hf.num; have h2 := hg.num
    rw [e, h2] at this
    exact (Int.ofNat.inj this).symm
  have e2 : b = d := by
    have := hf.den; have h2 := hg.den
    rw [e, h2] at this
    exact this.symm
  rw [e1, e2]
theorem Q_div {f : Frac} : Q f = (f.n : Rat) / (f.d : Rat) := by
  unfold Q
  rw [Rat.mkRat_eq_div]
  rfl
theorem mk_div (n d : Nat) : mkRat (n : Int) d = (n : Rat) / (d : Rat) := by
  rw [Rat.mkRat_eq_div]; rfl
theorem cast_ne {d : Nat} (h : d ≠ 0) : (d : Rat) ≠ 0 := by
  intro e
  exact h (Rat.natCast_inj.mp (by rw [e]; rfl))
theorem Q_nonneg (f : Frac) : 0 ≤ Q f := by
  unfold Q
  rw [← Rat.divInt_ofNat]
  exact Rat.divInt_nonneg (Int.natCast_nonneg _) (Int.natCast_nonneg _)
theorem Low.zero_iff {f : Frac} (h : Low f) : f.n = 0 ↔ Q f = 0 := by
  unfold Q
  rw [Rat.mkRat_eq_zero h.d0]
  omega
theorem low_zero : Low zero := ⟨by decide, by decide⟩
theorem low_one : Low one := ⟨by decide, by decide⟩
theorem Q_zero : Q zero = 0 := by unfold Q zero; simp
theorem Q_one : Q one = 1 := by unfold Q one; rfl
variable {a b : Frac}
theorem add_low (ha : Low a) (hb : Low b) : Low (a.add b) := frac_low (Nat.mul_ne_zero ha.d0 hb.d0)
theorem less_low (ha : Low a) (hb : Low b) : Low (a.less b) := frac_low (Nat.mul_ne_zero ha.d0 hb.d0)
theorem mul_low (ha : Low a) (hb : Low b) : Low (a.mul b) := frac_low (Nat.mul_ne_zero ha.d0 hb.d0)
theorem by_low (ha : Low a) (hb : b.n ≠ 0) : Low (a.by_ b) := frac_low (Nat.mul_ne_zero ha.d0 hb)
theorem Q_add (ha : Low a) (hb : Low b) : Q (a.add b) = Q a + Q b := by
  have h1 := cast_ne ha.d0
  have h2 := cast_ne hb.d0
  unfold Frac.add
  rw [Q_frac (Nat.mul_ne_zero ha.d0 hb.d0), mk_div, Q_div, Q_div]
  rw [Rat.natCast_add, Rat.natCast_mul, Rat.natCast_mul, Rat.natCast_mul]
  grind
theorem Q_mul (ha : Low a) (hb : Low b) : Q (a.mul b) = Q a * Q b := by
  have h1 := cast_ne ha.d0
  have h2 := cast_ne hb.d0
  unfold Frac.mul
  rw [Q_frac (Nat.mul_ne_zero ha.d0 hb.d0), mk_div, Q_div, Q_div]
  rw [Rat.natCast_mul, Rat.natCast_mul]
  grind
theorem Q_by (ha : Low a) (hb : Low b) (hn : b.n ≠ 0) : Q (a.by_ b) = Q a / Q b := by
  have h1 := cast_ne ha.d0
  have h2 := cast_ne hb.d0
  have h3 := cast_ne hn
  unfold Frac.by_
  rw [Q_frac (Nat.mul_ne_zero ha.d0 hn), mk_div, Q_div, Q_div]
  rw [Rat.natCast_mul, Rat.natCast_mul]
  grind
theorem le_iff (ha : Low a) (hb : Low b) : a.n * b.d ≤ b.n * a.d ↔ Q a ≤ Q b := by
  rw [Rat.le_iff, ha.num, hb.num, ha.den, hb.den]
  constructor
  · intro h; exact_mod_cast h
  · intro h; exact_mod_cast h
theorem Q_less (ha : Low a) (hb : Low b) (h : Q b ≤ Q a) : Q (a.less b) = Q a - Q b := by
  have h1 := cast_ne ha.d0
  have h2 := cast_ne hb.d0
  have h' := (le_iff hb ha).mpr h
  unfold Frac.less
  rw [Q_frac (Nat.mul_ne_zero ha.d0 hb.d0), mk_div, Q_div, Q_div]
  have e : ((a.n * b.d - b.n * a.d : Nat) : Rat) = (a.n : Rat) * b.d - b.n * a.d := by
    have : (a.n * b.d - b.n * a.d) + b.n * a.d = a.n * b.d := by omega
    have z := congrArg (fun k : Nat => (k : Rat)) this
    simp only [Rat.natCast_add, Rat.natCast_mul] at z
    grind
  rw [e, Rat.natCast_mul]
  grind
theorem Q_less0 (ha : Low a) (hb : Low b) (h : Q a ≤ Q b) : Q (a.less b) = 0 := by
  have h' := (le_iff ha hb).mpr h
  unfold Frac.less
  rw [Q_frac (Nat.mul_ne_zero ha.d0 hb.d0)]
  have e : a.n * b.d - b.n * a.d = 0 := by omega
  rw [e]
  simp
theorem le_true (ha : Low a) (hb : Low b) : a.le b = true ↔ Q a ≤ Q b := by
  unfold Frac.le
  rw [decide_eq_true_iff]
  exact le_iff ha hb
theorem Q_least (ha : Low a) (hb : Low b) : Q (least a b) = if Q a ≤ Q b then Q a else Q b := by
  unfold least
  by_cases h : Q a ≤ Q b
  · rw [if_pos ((le_true ha hb).mpr h), if_pos h]
  · rw [if_neg (fun q => h ((le_true ha hb).mp q)), if_neg h]
theorem Q_most (ha : Low a) (hb : Low b) : Q (most a b) = if Q a ≤ Q b then Q b else Q a := by
  unfold most
  by_cases h : Q a ≤ Q b
  · rw [if_pos ((le_true ha hb).mpr h), if_pos h]
  · rw [if_neg (fun q => h ((le_true ha hb).mp q)), if_neg h]
theorem least_low (ha : Low a) (hb : Low b) : Low (least a b) := by unfold least; split <;> assumption
theorem most_low (ha : Low a) (hb : Low b) : Low (most a b) := by unfold most; split <;> assumption
end LFrac
set_option linter.unusedVariables false
namespace LFrac
open Sq49
/-- a dot's worth: what is covered; the colour times that -/
structure RD where
  c : Rat
  l : Rat
def rmix (way : Nat) (B S : Rat) : Rat := match way with
  | 0 => S
  | 1 => B * S
  | 2 => B + S - B * S
  | 3 => if B ≤ S then B else S
  | 4 => if B ≤ S then S else B
  | 5 => if B ≤ S then S - B else B - S
  | _ => if 1 ≤ B + S then 1 else B + S
def RD.col (d : RD) : Rat := d.l / d.c
def rover (way : Nat) (s b : RD) : RD :=
  ⟨s.c + b.c - s.c * b.c, s.l * (1 - b.c) + b.l * (1 - s.c) + s.c * b.c * rmix way b.col s.col⟩
def RD.part (f : Rat) (d : RD) : RD := ⟨f * d.c, f * d.l⟩
def rclear : RD := ⟨0, 0⟩
structure ROk (d : RD) : Prop where
  l0 : 0 ≤ d.l
  lc : d.l ≤ d.c
  c1 : d.c ≤ 1
theorem ROk.c0 {d : RD} (h : ROk d) : 0 ≤ d.c := Rat.le_trans h.l0 h.lc
theorem ROk.l_zero {d : RD} (h : ROk d) (e : d.c = 0) : d.l = 0 := Rat.le_antisymm (by rw [← e]; exact h.lc) h.l0
theorem div_bounds {l c : Rat} (h0 : 0 ≤ l) (h : l ≤ c) : 0 ≤ l / c ∧ l / c ≤ 1 := by
  by_cases e : c = 0
  · subst e
    rw [Rat.div_def, Rat.inv_zero, Rat.mul_zero]
    exact ⟨by decide, by decide⟩
  · have cp : 0 < c := Rat.lt_of_le_of_ne (Rat.le_trans h0 h) (Ne.symm e)
    have ip : 0 < c⁻¹ := Rat.inv_pos.mpr cp
    have e1 : c * c⁻¹ = 1 := Rat.mul_inv_cancel c e
    have k := Rat.mul_le_mul_of_nonneg_right h (Rat.le_of_lt ip)
    refine ⟨Rat.mul_nonneg h0 (Rat.le_of_lt ip), ?_⟩
    rw [Rat.div_def]
    rw [e1] at k
    exact k
theorem ROk.col_bounds {d : RD} (h : ROk d) : 0 ≤ d.col ∧ d.col ≤ 1 := div_bounds h.l0 h.lc
theorem ROk.col_mul {d : RD} (h : ROk d) : d.col * d.c = d.l := by
  unfold RD.col
  by_cases e : d.c = 0
  · rw [h.l_zero e, e, Rat.mul_zero]
  · exact Rat.div_mul_cancel e
theorem rmix_bounds (way : Nat) {B S : Rat} (hB : 0 ≤ B ∧ B ≤ 1) (hS : 0 ≤ S ∧ S ≤ 1) : 0 ≤ rmix way B S ∧ rmix way B S ≤ 1 := by
  obtain ⟨b0, b1⟩ := hB
  obtain ⟨s0, s1⟩ := hS
  have p1 := Rat.mul_nonneg b0 s0
  have p2 := Rat.mul_nonneg (a := 1 - B) (b := 1 - S) (by grind) (by grind)
  have p3 := Rat.mul_nonneg (a := 1 - B) (b := S) (by grind) s0
  have p4 := Rat.mul_nonneg (a := B) (b := 1 - S) b0 (by grind)
  unfold rmix
  split
  · exact ⟨s0, s1⟩
  · constructor <;> grind
  · constructor <;> grind
  · split <;> constructor <;> grind
  · split <;> constructor <;> grind
  · split <;> constructor <;> grind
  · split <;> constructor <;> grind
theorem rover_ok (way : Nat) {s b : RD} (hs : ROk s) (hb : ROk b) : ROk (rover way s b) := by
  have m := rmix_bounds way hb.col_bounds hs.col_bounds
  obtain ⟨sl0, slc, sc1⟩ := hs
  obtain ⟨bl0, blc, bc1⟩ := hb
  have sc0 : 0 ≤ s.c := Rat.le_trans sl0 slc
  have bc0 : 0 ≤ b.c := Rat.le_trans bl0 blc
  generalize hM : rmix way b.col s.col = M at m
  have e : rover way s b = ⟨s.c + b.c - s.c * b.c, s.l * (1 - b.c) + b.l * (1 - s.c) + s.c * b.c * M⟩ := by
    unfold rover; rw [hM]
  rw [e]
  have q1 : 0 ≤ 1 - b.c := by grind
  have q2 : 0 ≤ 1 - s.c := by grind
  have p1 := Rat.mul_nonneg sl0 q1
  have p2 := Rat.mul_nonneg bl0 q2
  have p3 := Rat.mul_nonneg sc0 bc0
  have p4 := Rat.mul_nonneg p3 m.1
  have p5 := Rat.mul_nonneg (a := s.c - s.l) (b := 1 - b.c) (by grind) q1
  have p6 := Rat.mul_nonneg (a := b.c - b.l) (b := 1 - s.c) (by grind) q2
  have p7 := Rat.mul_nonneg (a := s.c * b.c) (b := 1 - M) p3 (by grind)
  have p8 := Rat.mul_nonneg q1 q2
  refine ⟨?_, ?_, ?_⟩
  · show 0 ≤ s.l * (1 - b.c) + b.l * (1 - s.c) + s.c * b.c * M
    grind
  · show s.l * (1 - b.c) + b.l * (1 - s.c) + s.c * b.c * M ≤ s.c + b.c - s.c * b.c
    grind
  · show s.c + b.c - s.c * b.c ≤ 1
    grind
theorem rpart_ok {f : Rat} {d : RD} (f0 : 0 ≤ f) (f1 : f ≤ 1) (h : ROk d) : ROk (d.part f) := by
  obtain ⟨l0, lc, c1⟩ := h
  have c0 : 0 ≤ d.c := Rat.le_trans l0 lc
  have p1 := Rat.mul_nonneg f0 l0
  have p2 := Rat.mul_nonneg (a := f) (b := d.c - d.l) f0 (by grind)
  have p3 := Rat.mul_nonneg (a := 1 - f) (b := d.c) (by grind) c0
  refine ⟨p1, ?_, ?_⟩
  · show f * d.l ≤ f * d.c
    grind
  · show f * d.c ≤ 1
    grind
theorem rclear_ok : ROk rclear := ⟨by decide, by decide, by decide⟩
/-- a dot of the specification, its worth -/
def QD (d : Dot) : RD := ⟨Q d.cover, Q d.light⟩
structure DOk (d : Dot) : Prop where
  lc : Low d.cover
  ll : Low d.light
  ok : ROk (QD d)
theorem DOk.col_low {d : Dot} (h : DOk d) : Low d.colour := by
  unfold Dot.colour
  split
  · exact low_zero
  · rename_i e; exact by_low h.ll e
theorem DOk.Q_col {d : Dot} (h : DOk d) : Q d.colour = (QD d).col := by
  unfold Dot.colour RD.col QD
  split
  · rename_i e
    have : Q d.cover = 0 := h.lc.zero_iff.mp e
    show Q zero = Q d.light / Q d.cover
    rw [this, Q_zero, Rat.div_def, Rat.inv_zero, Rat.mul_zero]
  · rename_i e
    exact Q_by h.ll h.lc e
theorem clear_ok : DOk clear := by
  refine ⟨low_zero, low_zero, ?_⟩
  have : QD clear = rclear := by unfold QD clear rclear; simp [Q_zero]
  rw [this]; exact rclear_ok
theorem QD_clear : QD clear = rclear := by unfold QD clear rclear; simp [Q_zero]
theorem mix_low (way : Nat) {b s : Frac} (hb : Low b) (hs : Low s) : Low (mix way b s) := by
  unfold mix
  split
  · exact hs
  · exact mul_low hb hs
  · exact less_low (add_low hb hs) (mul_low hb hs)
  · exact least_low hb hs
  · exact most_low hb hs
  · exact add_low (less_low hb hs) (less_low hs hb)
  · exact least_low low_one (add_low hb hs)
theorem Q_mix (way : Nat) {b s : Frac} (hb : Low b) (hs : Low s) (b1 : Q b ≤ 1) (s1 : Q s ≤ 1) : Q (mix way b s) = rmix way (Q b) (Q s) := by
  have b0 := Q_nonneg b
  have s0 := Q_nonneg s
  match way with
  | 0 => rfl
  | 1 => exact Q_mul hb hs
  | 2 =>
    have p := Rat.mul_nonneg (a := 1 - Q b) (b := Q s) (by grind) s0
    show Q ((b.add s).less (b.mul s)) = Q b + Q s - Q b * Q s
    rw [Q_less (add_low hb hs) (mul_low hb hs) (by rw [Q_mul hb hs, Q_add hb hs]; grind), Q_add hb hs, Q_mul hb hs]
  | 3 => exact Q_least hb hs
  | 4 => exact Q_most hb hs
  | 5 =>
    show Q ((b.less s).add (s.less b)) = if Q b ≤ Q s then Q s - Q b else Q b - Q s
    rw [Q_add (less_low hb hs) (less_low hs hb)]
    split
    · rename_i h
      rw [Q_less0 hb hs h, Q_less hs hb h]; grind
    · rename_i h
      have h' : Q s ≤ Q b := by grind
      rw [Q_less0 hs hb h', Q_less hb hs h']; grind
  | n + 6 =>
    show Q (least one (b.add s)) = if 1 ≤ Q b + Q s then 1 else Q b + Q s
    rw [Q_least low_one (add_low hb hs), Q_add hb hs, Q_one]
theorem QD_over (way : Nat) {s b : Dot} (hs : DOk s) (hb : DOk b) : QD (over way s b) = rover way (QD s) (QD b) := by
  have es := hs.Q_col
  have eb := hb.Q_col
  have ls := hs.col_low
  have lb := hb.col_low
  have bs := hs.ok.col_bounds
  have bb := hb.ok.col_bounds
  have m : Q (mix way b.colour s.colour) = rmix way (QD b).col (QD s).col := by
    rw [Q_mix way lb ls (by rw [eb]; exact bb.2) (by rw [es]; exact bs.2), es, eb]
  have ml := mix_low way lb ls
  have sb := mul_low hs.lc hb.lc
  have l1 := less_low low_one hb.lc
  have l2 := less_low low_one hs.lc
  have hs1 : Q s.cover ≤ 1 := hs.ok.c1
  have hb1 : Q b.cover ≤ 1 := hb.ok.c1
  have hs0 := Q_nonneg s.cover
  have hb0 := Q_nonneg b.cover
  have p := Rat.mul_nonneg (a := 1 - Q s.cover) (b := Q b.cover) (by grind) hb0
  have e1 : Q ((s.cover.add b.cover).less (s.cover.mul b.cover)) = Q s.cover + Q b.cover - Q s.cover * Q b.cover := by
    rw [Q_less (add_low hs.lc hb.lc) sb (by rw [Q_mul hs.lc hb.lc, Q_add hs.lc hb.lc]; grind), Q_add hs.lc hb.lc, Q_mul hs.lc hb.lc]
  have e2 : Q (((s.light.mul (one.less b.cover)).add (b.light.mul (one.less s.cover))).add ((s.cover.mul b.cover).mul (mix way b.colour s.colour)))
      = Q s.light * (1 - Q b.cover) + Q b.light * (1 - Q s.cover) + Q s.cover * Q b.cover * rmix way (QD b).col (QD s).col := by
    rw [Q_add (add_low (mul_low hs.ll l1) (mul_low hb.ll l2)) (mul_low sb ml), Q_add (mul_low hs.ll l1) (mul_low hb.ll l2), Q_mul hs.ll l1, Q_mul hb.ll l2, Q_mul sb ml, Q_mul hs.lc hb.lc,
      Q_less low_one hb.lc (by rw [Q_one]; exact hb1), Q_less low_one hs.lc (by rw [Q_one]; exact hs1), Q_one, m]
  have z : ∀ {a b c d : Rat}, a = c → b = d → (⟨a, b⟩ : RD) = ⟨c, d⟩ := fun h k => by rw [h, k]
  exact z e1 e2
theorem over_ok (way : Nat) {s b : Dot} (hs : DOk s) (hb : DOk b) : DOk (over way s b) := by
  have sb := mul_low hs.lc hb.lc
  refine ⟨less_low (add_low hs.lc hb.lc) sb, add_low (add_low (mul_low hs.ll (less_low low_one hb.lc)) (mul_low hb.ll (less_low low_one hs.lc))) (mul_low sb (mix_low way hb.col_low hs.col_low)), ?_⟩
  rw [QD_over way hs hb]
  exact rover_ok way hs.ok hb.ok
theorem QD_part {f : Frac} {d : Dot} (hf : Low f) (h : DOk d) : QD (Dot.part f d) = RD.part (Q f) (QD d) := by
  unfold Dot.part QD RD.part
  simp only
  rw [Q_mul hf h.lc, Q_mul hf h.ll]
theorem part_ok {f : Frac} {d : Dot} (hf : Low f) (f1 : Q f ≤ 1) (h : DOk d) : DOk (Dot.part f d) := by
  refine ⟨mul_low hf h.lc, mul_low hf h.ll, ?_⟩
  rw [QD_part hf h]
  exact rpart_ok (Q_nonneg f) f1 h.ok
theorem Q_255 {n : Nat} : Q (frac n 255) = (n : Rat) / 255 := by
  rw [Q_frac (by decide), mk_div]; rfl
theorem Q_255_le {n : Nat} (h : n ≤ 255) : Q (frac n 255) ≤ 1 := by
  have l := frac_low (n := n) (d := 255) (by decide)
  have := (le_iff l low_one)
  rw [Q_255]
  have h' : (n : Rat) ≤ 255 := by exact_mod_cast (Rat.natCast_le_natCast.mpr h)
  grind
end LFrac
set_option linter.unusedVariables false
namespace LFrac
open Sq49
structure HGood (a : How) : Prop where
  strong : a.strong ≤ 255
  way : a.way ≤ 6
mutual
def NGood : Node → Prop
  | .layer a x y w h l => HGood a ∧ 1 ≤ w ∧ w ≤ 8 ∧ 1 ≤ h ∧ h ≤ 8 ∧ l.length = w * h ∧ ∀ p ∈ l, p.1 ≤ 255 ∧ p.2 ≤ 255
  | .group a l => HGood a ∧ LGood l
def LGood : List Node → Prop
  | [] => True
  | x :: l => NGood x ∧ LGood l
end
theorem NGood.how : ∀ {n : Node}, NGood n → HGood n.how
  | .layer .., h => by unfold NGood at h; exact h.1
  | .group .., h => by unfold NGood at h; exact h.1
mutual
def rNode (px py : Int) : Node → RD
  | .layer a x y w h l => if a.seen = false then rclear else
    if px - x < 0 ∨ (w : Int) ≤ px - x ∨ py - y < 0 ∨ (h : Int) ≤ py - y then rclear else
    RD.part ((a.strong : Rat) / 255) ⟨(((l[(py - y).toNat * w + (px - x).toNat]?).getD (0, 0)).2 : Rat) / 255, (((l[(py - y).toNat * w + (px - x).toNat]?).getD (0, 0)).1 : Rat) / 255 * ((((l[(py - y).toNat * w + (px - x).toNat]?).getD (0, 0)).2 : Rat) / 255)⟩
  | .group a l => if a.seen = false then rclear else RD.part ((a.strong : Rat) / 255) (rPile px py rclear 0 l)
def rPile (px py : Int) (under : RD) (base : Rat) : List Node → RD
  | [] => under
  | x :: l => rPile px py (rover x.how.way (if x.how.clip = true then RD.part base (rNode px py x) else rNode px py x) under) (if x.how.clip = true then base else (rNode px py x).c) l
end
theorem pixel_ok {p : Nat × Nat} (h : p.1 ≤ 255 ∧ p.2 ≤ 255) : DOk ⟨frac p.2 255, (frac p.1 255).mul (frac p.2 255)⟩ ∧
    QD ⟨frac p.2 255, (frac p.1 255).mul (frac p.2 255)⟩ = ⟨(p.2 : Rat) / 255, (p.1 : Rat) / 255 * ((p.2 : Rat) / 255)⟩ := by
  have l1 := frac_low (n := p.1) (d := 255) (by decide)
  have l2 := frac_low (n := p.2) (d := 255) (by decide)
  have e : QD ⟨frac p.2 255, (frac p.1 255).mul (frac p.2 255)⟩ = ⟨(p.2 : Rat) / 255, (p.1 : Rat) / 255 * ((p.2 : Rat) / 255)⟩ := by
    show (⟨Q _, Q _⟩ : RD) = _
    rw [Q_mul l1 l2, Q_255, Q_255]
  refine ⟨⟨l2, mul_low l1 l2, ?_⟩, e⟩
  have a0 := Q_nonneg (frac p.1 255)
  have b0 := Q_nonneg (frac p.2 255)
  have a1 := Q_255_le h.1
  have b1 := Q_255_le h.2
  have z : QD ⟨frac p.2 255, (frac p.1 255).mul (frac p.2 255)⟩ = ⟨Q (frac p.2 255), Q (frac p.1 255) * Q (frac p.2 255)⟩ := by
    show (⟨Q _, Q _⟩ : RD) = _
    rw [Q_mul l1 l2]
  rw [z]
  have p2 := Rat.mul_nonneg (a := 1 - Q (frac p.1 255)) (b := Q (frac p.2 255)) (by grind) b0
  refine ⟨Rat.mul_nonneg a0 b0, ?_, b1⟩
  show Q (frac p.1 255) * Q (frac p.2 255) ≤ Q (frac p.2 255)
  grind
theorem getD_pix {l : List (Nat × Nat)} (h : ∀ p ∈ l, p.1 ≤ 255 ∧ p.2 ≤ 255) (i : Nat) : ((l[i]?).getD (0, 0)).1 ≤ 255 ∧ ((l[i]?).getD (0, 0)).2 ≤ 255 := by
  cases e : l[i]? with
  | none => exact ⟨Nat.zero_le _, Nat.zero_le _⟩
  | some p => exact h p (List.mem_of_getElem? e)
mutual
theorem node_ok (px py : Int) : ∀ (n : Node), NGood n → DOk (n.dot px py) ∧ QD (n.dot px py) = rNode px py n
  | .layer a x y w h l, g => by
    unfold NGood at g
    obtain ⟨ha, _, _, _, _, hl, hp⟩ := g
    unfold Node.dot rNode
    split
    · exact ⟨clear_ok, QD_clear⟩
    · simp only
      split
      · exact ⟨clear_ok, QD_clear⟩
      · have hq := getD_pix hp ((py - y).toNat * w + (px - x).toNat)
        generalize (l[(py - y).toNat * w + (px - x).toNat]?).getD (0, 0) = p at hq ⊢
        have q := pixel_ok hq
        have ls := frac_low (n := a.strong) (d := 255) (by decide)
        refine ⟨part_ok ls (Q_255_le ha.strong) q.1, ?_⟩
        rw [QD_part ls q.1, q.2, Q_255]
  | .group a l, g => by
    unfold NGood at g
    unfold Node.dot rNode
    split
    · exact ⟨clear_ok, QD_clear⟩
    · have q := pile_ok px py l g.2 clear clear clear_ok clear_ok
      have ls := frac_low (n := a.strong) (d := 255) (by decide)
      refine ⟨part_ok ls (Q_255_le g.1.strong) q.1, ?_⟩
      rw [QD_part ls q.1, q.2, Q_255, QD_clear]
      rfl
theorem pile_ok (px py : Int) : ∀ (l : List Node), LGood l → ∀ (under base : Dot), DOk under → DOk base →
    DOk (Node.pile px py under base l) ∧ QD (Node.pile px py under base l) = rPile px py (QD under) (QD base).c l
  | [], _, under, base, hu, hb => by
    unfold Node.pile rPile
    exact ⟨hu, rfl⟩
  | x :: l, g, under, base, hu, hb => by
    unfold LGood at g
    have q := node_ok px py x g.1
    have e1 : DOk (if x.how.clip = true then Dot.part base.cover (x.dot px py) else x.dot px py) ∧
        QD (if x.how.clip = true then Dot.part base.cover (x.dot px py) else x.dot px py) = (if x.how.clip = true then RD.part (QD base).c (rNode px py x) else rNode px py x) := by
      split
      · refine ⟨part_ok hb.lc hb.ok.c1 q.1, ?_⟩
        rw [QD_part hb.lc q.1, q.2]; rfl
      · exact q
    have o1 := over_ok x.how.way e1.1 hu
    have o2 := QD_over x.how.way e1.1 hu
    have b2 : DOk (if x.how.clip = true then base else x.dot px py) ∧ (QD (if x.how.clip = true then base else x.dot px py)).c = (if x.how.clip = true then (QD base).c else (rNode px py x).c) := by
      split
      · exact ⟨hb, rfl⟩
      · exact ⟨q.1, by rw [q.2]⟩
    have ih := pile_ok px py l g.2 _ _ o1 b2.1
    unfold Node.pile rPile
    refine ⟨ih.1, ?_⟩
    have e := ih.2
    rw [o2, e1.2, b2.2] at e
    exact e
end
theorem rNode_ok (px py : Int) {n : Node} (h : NGood n) : ROk (rNode px py n) := by
  have := node_ok px py n h
  rw [← this.2]; exact this.1.ok
/-- what is answered of a good dot -/
theorem dot_told {d : Dot} (h : DOk d) : (d.cover.n : Int) = (QD d).c.num ∧ d.cover.d = (QD d).c.den ∧ (d.colour.n : Int) = (QD d).col.num ∧ d.colour.d = (QD d).col.den := by
  refine ⟨h.lc.num.symm, h.lc.den.symm, ?_, ?_⟩
  · rw [← h.Q_col]; exact h.col_low.num.symm
  · rw [← h.Q_col]; exact h.col_low.den.symm
/-- rounding depends on the worth alone -/
theorem rounded_of {f : Frac} (h : Low f) {p q : Nat} (q0 : q ≠ 0) (e : Q f = (p : Rat) / (q : Rat)) : rounded f = (2 * 255 * p + q) / (2 * q) := by
  have h1 := cast_ne h.d0
  have h2 := cast_ne q0
  have e' : f.n * q = p * f.d := by
    rw [Q_div] at e
    have : (f.n : Rat) * q = p * f.d := by grind
    have t : ((f.n * q : Nat) : Rat) = ((p * f.d : Nat) : Rat) := by rw [Rat.natCast_mul, Rat.natCast_mul]; exact this
    exact Rat.natCast_inj.mp t
  unfold rounded
  have fd := Nat.pos_of_ne_zero h.d0
  have qp := Nat.pos_of_ne_zero q0
  have a1 : (2 * 255 * f.n + f.d) / (2 * f.d) = ((2 * 255 * f.n + f.d) * q) / ((2 * f.d) * q) := (Nat.mul_div_mul_right _ _ qp).symm
  have a2 : (2 * 255 * p + q) / (2 * q) = ((2 * 255 * p + q) * f.d) / ((2 * q) * f.d) := (Nat.mul_div_mul_right _ _ fd).symm
  rw [a1, a2]
  have c1 : (2 * 255 * f.n + f.d) * q = (2 * 255 * p + q) * f.d := by
    have := congrArg (fun z => 2 * 255 * z) e'
    grind
  have c2 : 2 * f.d * q = 2 * q * f.d := by grind
  rw [c1, c2]
end LFrac
set_option linter.unusedVariables false
namespace LFrac
open Sq49
/-! ### how great the numbers become: what is covered and the light are whole numbers of 255 ^ E -/
def B (E : Nat) : Rat := ((255 ^ E : Nat) : Rat)
theorem B_add (E F : Nat) : B (E + F) = B E * B F := by
  unfold B
  rw [Nat.pow_add, Rat.natCast_mul]
theorem B_ne (E : Nat) : B E ≠ 0 := cast_ne (Nat.pos_iff_ne_zero.mp (Nat.pow_pos (by decide)))
def P255 (E : Nat) (q : Rat) : Prop := ∃ k : Int, q * B E = k
theorem P255.add {E : Nat} {a b : Rat} (ha : P255 E a) (hb : P255 E b) : P255 E (a + b) := by
  obtain ⟨k, h⟩ := ha
  obtain ⟨m, h'⟩ := hb
  exact ⟨k + m, by rw [Rat.intCast_add]; grind⟩
theorem P255.sub {E : Nat} {a b : Rat} (ha : P255 E a) (hb : P255 E b) : P255 E (a - b) := by
  obtain ⟨k, h⟩ := ha
  obtain ⟨m, h'⟩ := hb
  exact ⟨k - m, by rw [Rat.intCast_sub]; grind⟩
theorem P255.mul {E F : Nat} {a b : Rat} (ha : P255 E a) (hb : P255 F b) : P255 (E + F) (a * b) := by
  obtain ⟨k, h⟩ := ha
  obtain ⟨m, h'⟩ := hb
  exact ⟨k * m, by rw [Rat.intCast_mul, B_add]; grind⟩
theorem P255.mono {E F : Nat} {a : Rat} (ha : P255 E a) (h : E ≤ F) : P255 F a := by
  obtain ⟨k, hk⟩ := ha
  refine ⟨k * ((255 ^ (F - E) : Nat) : Int), ?_⟩
  have e : F = E + (F - E) := by omega
  rw [e, B_add, Rat.intCast_mul, Rat.intCast_natCast]
  have : E + (F - E) - E = F - E := by omega
  rw [this]
  unfold B at *
  grind
theorem P255.zero (E : Nat) : P255 E 0 := ⟨0, by rw [Rat.zero_mul]; rfl⟩
theorem P255.one (E : Nat) : P255 E 1 := ⟨((255 ^ E : Nat) : Int), by rw [Rat.one_mul, Rat.intCast_natCast]; rfl⟩
theorem P255.frac (n : Nat) : P255 1 ((n : Rat) / 255) := by
  refine ⟨(n : Int), ?_⟩
  unfold B
  rw [Rat.intCast_natCast]
  have : ((255 ^ 1 : Nat) : Rat) = 255 := by rfl
  rw [this]
  grind
theorem P255.den {E : Nat} {q : Rat} (h : P255 E q) : q.den ∣ 255 ^ E := by
  obtain ⟨k, hk⟩ := h
  have e : q = mkRat k (255 ^ E) := by
    have b := B_ne E
    rw [Rat.mkRat_eq_div]
    have : ((255 ^ E : Nat) : Rat) = B E := rfl
    rw [this]
    grind
  rw [e, Rat.den_mkRat, if_neg (Nat.pos_iff_ne_zero.mp (Nat.pow_pos (by decide)))]
  exact Nat.div_dvd_of_dvd (Nat.gcd_dvd_left _ _)
theorem P255.den_le {E : Nat} {q : Rat} (h : P255 E q) : q.den ≤ 255 ^ E := Nat.le_of_dvd (Nat.pow_pos (by decide)) h.den
theorem num_le_den {q : Rat} (h1 : q ≤ 1) : q.num ≤ (q.den : Int) := by
  have := (Rat.le_iff q 1).mp h1
  simpa using this
structure D255 (E : Nat) (d : RD) : Prop where
  c : P255 E d.c
  l : P255 E d.l
theorem D255.mono {E F : Nat} {d : RD} (h : D255 E d) (hE : E ≤ F) : D255 F d := ⟨h.c.mono hE, h.l.mono hE⟩
theorem D255.clear (E : Nat) : D255 E rclear := ⟨P255.zero E, P255.zero E⟩
theorem mix255 (way : Nat) {E F : Nat} {s b : RD} (hs : ROk s) (hb : ROk b) (ds : D255 E s) (db : D255 F b) : P255 (E + F) (s.c * b.c * rmix way b.col s.col) := by
  have es := hs.col_mul
  have eb := hb.col_mul
  have swap : P255 (E + F) (s.l * b.c) := ds.l.mul db.c
  have swap2 : P255 (E + F) (s.c * b.l) := ds.c.mul db.l
  have both : P255 (E + F) (s.l * b.l) := ds.l.mul db.l
  have cc : P255 (E + F) (s.c * b.c) := ds.c.mul db.c
  have x1 : s.c * b.c * s.col = s.l * b.c := by grind
  have x2 : s.c * b.c * b.col = s.c * b.l := by grind
  have x3 : s.c * b.c * (b.col * s.col) = s.l * b.l := by grind
  match way with
  | 0 => show P255 (E + F) (s.c * b.c * s.col); rw [x1]; exact swap
  | 1 => show P255 (E + F) (s.c * b.c * (b.col * s.col)); rw [x3]; exact both
  | 2 =>
    show P255 (E + F) (s.c * b.c * (b.col + s.col - b.col * s.col))
    have : s.c * b.c * (b.col + s.col - b.col * s.col) = s.c * b.l + s.l * b.c - s.l * b.l := by grind
    rw [this]; exact (swap2.add swap).sub both
  | 3 =>
    show P255 (E + F) (s.c * b.c * (if b.col ≤ s.col then b.col else s.col))
    split
    · rw [x2]; exact swap2
    · rw [x1]; exact swap
  | 4 =>
    show P255 (E + F) (s.c * b.c * (if b.col ≤ s.col then s.col else b.col))
    split
    · rw [x1]; exact swap
    · rw [x2]; exact swap2
  | 5 =>
    show P255 (E + F) (s.c * b.c * (if b.col ≤ s.col then s.col - b.col else b.col - s.col))
    split
    · have : s.c * b.c * (s.col - b.col) = s.l * b.c - s.c * b.l := by grind
      rw [this]; exact swap.sub swap2
    · have : s.c * b.c * (b.col - s.col) = s.c * b.l - s.l * b.c := by grind
      rw [this]; exact swap2.sub swap
  | n + 6 =>
    show P255 (E + F) (s.c * b.c * (if 1 ≤ b.col + s.col then 1 else b.col + s.col))
    split
    · rw [Rat.mul_one]; exact cc
    · have : s.c * b.c * (b.col + s.col) = s.c * b.l + s.l * b.c := by grind
      rw [this]; exact swap2.add swap
theorem over255 (way : Nat) {E F : Nat} {s b : RD} (hs : ROk s) (hb : ROk b) (ds : D255 E s) (db : D255 F b) : D255 (E + F) (rover way s b) := by
  have m := mix255 way hs hb ds db
  have s1 := ds.c.mono (Nat.le_add_right E F)
  have b1 := db.c.mono (Nat.le_add_left F E)
  refine ⟨(s1.add b1).sub (ds.c.mul db.c), ?_⟩
  have a1 : P255 (E + F) (s.l * (1 - b.c)) := ds.l.mul ((P255.one F).sub db.c)
  have a2 : P255 (E + F) (b.l * (1 - s.c)) := by
    have := db.l.mul ((P255.one E).sub ds.c)
    rw [Nat.add_comm] at this
    exact this
  exact (a1.add a2).add m
theorem part255 {E F : Nat} {f : Rat} {d : RD} (hf : P255 E f) (h : D255 F d) : D255 (E + F) (d.part f) := ⟨hf.mul h.c, hf.mul h.l⟩
/-! ### the power of 255, by how many things there are -/
mutual
def nsize : Node → Nat
  | .layer .. => 1
  | .group _ l => lsize l + 1
def lsize : List Node → Nat
  | [] => 0
  | x :: l => nsize x + lsize l
end
mutual
theorem nsize_ids : ∀ n : Node, n.ids.length = nsize n
  | .layer .. => by unfold Node.ids nsize; rfl
  | .group a l => by unfold Node.ids nsize; rw [List.length_cons, lsize_ids l]
theorem lsize_ids : ∀ l : List Node, (Node.allIds l).length = lsize l
  | [] => by unfold Node.allIds lsize; rfl
  | x :: l => by unfold Node.allIds lsize; rw [List.length_append, nsize_ids x, lsize_ids l]
end
def tabA (n : Nat) : Nat := [0, 3, 4, 10, 19, 31, 46, 67, 103, 148, 211].getD n 0
def tabQ (n : Nat) : Nat := [0, 3, 9, 18, 30, 45, 66, 102, 147, 210, 318].getD n 0
theorem tab_step : ∀ m, m < 11 → ∀ s, s < 11 → 1 ≤ s → s ≤ m → tabA s * (1 + (m - s)) + tabQ (m - s) ≤ tabQ m := by decide
theorem tab_up : ∀ m, m < 10 → tabQ m + 1 ≤ tabA (m + 1) := by decide
theorem nsize_pos (n : Node) : 1 ≤ nsize n := by cases n <;> (unfold nsize; omega)
mutual
theorem node255 (px py : Int) : ∀ (n : Node), NGood n → nsize n ≤ 10 → D255 (tabA (nsize n)) (rNode px py n)
  | .layer a x y w h l, g, hs => by
    unfold rNode nsize
    split
    · exact D255.clear _
    · split
      · exact D255.clear _
      · generalize (l[(py - y).toNat * w + (px - x).toNat]?).getD (0, 0) = p
        have q : D255 2 ⟨(p.2 : Rat) / 255, (p.1 : Rat) / 255 * ((p.2 : Rat) / 255)⟩ := ⟨(P255.frac p.2).mono (by decide), (P255.frac p.1).mul (P255.frac p.2)⟩
        exact part255 (E := 1) (F := 2) (P255.frac a.strong) q
  | .group a l, g, hs => by
    unfold NGood at g
    unfold nsize at hs
    unfold rNode nsize
    split
    · exact D255.clear _
    · have q := pile255 px py l g.2 (by omega) rclear 0 0 0 rclear_ok (D255.clear 0) (P255.zero 0) (by decide) (by decide)
      have r := part255 (E := 1) (P255.frac a.strong) q
      refine r.mono ?_
      have := tab_up (lsize l) (by omega)
      omega
theorem pile255 (px py : Int) : ∀ (l : List Node), LGood l → lsize l ≤ 10 → ∀ (under : RD) (base : Rat) (E b : Nat), ROk under → D255 E under → P255 b base → 0 ≤ base → base ≤ 1 → D255 (E + (b * lsize l + tabQ (lsize l))) (rPile px py under base l)
  | [], g, hs, under, base, E, b, hu, du, pb, b0, b1 => by
    unfold rPile
    exact du.mono (by omega)
  | x :: l, g, hs, under, base, E, b, hu, du, pb, b0, b1 => by
    unfold LGood at g
    unfold lsize at hs ⊢
    have xs := nsize_pos x
    have dx := node255 px py x g.1 (by omega)
    have rx := rNode_ok px py g.1
    have st := tab_step (nsize x + lsize l) (by omega) (nsize x) (by omega) xs (by omega)
    have e1 : nsize x + lsize l - nsize x = lsize l := by omega
    rw [e1] at st
    unfold rPile
    by_cases c : x.how.clip = true
    · rw [if_pos c, if_pos c]
      have de := part255 pb dx
      have re := rpart_ok b0 b1 rx
      have o := over255 x.how.way re hu de du
      have ih := pile255 px py l g.2 (by omega) _ base _ b (rover_ok x.how.way re hu) o pb b0 b1
      refine ih.mono ?_
      have h2 : b * lsize l + b ≤ b * (nsize x + lsize l) := by
        have : b * (1 + lsize l) ≤ b * (nsize x + lsize l) := Nat.mul_le_mul_left b (by omega)
        rw [Nat.mul_add, Nat.mul_one] at this
        omega
      have h3 : tabA (nsize x) ≤ tabA (nsize x) * (1 + lsize l) := Nat.le_mul_of_pos_right _ (by omega)
      omega
    · rw [if_neg c, if_neg c]
      have o := over255 x.how.way rx hu dx du
      have ih := pile255 px py l g.2 (by omega) _ (rNode px py x).c _ (tabA (nsize x)) (rover_ok x.how.way rx hu) o dx.c rx.c0 rx.c1
      refine ih.mono ?_
      have h3 : tabA (nsize x) * (1 + lsize l) = tabA (nsize x) + tabA (nsize x) * lsize l := by rw [Nat.mul_add, Nat.mul_one]
      omega
end
/-- of a picture -/
theorem pic255 (px py : Int) {l : List Node} (g : LGood l) (h : lsize l ≤ 10) : D255 318 (rPile px py rclear 0 l) := by
  have q := pile255 px py l g h rclear 0 0 0 rclear_ok (D255.clear 0) (P255.zero 0) (by decide) (by decide)
  refine q.mono ?_
  have : ∀ m, m < 11 → tabQ m ≤ 318 := by decide
  have := this (lsize l) (by omega)
  omega
end LFrac
set_option linter.unusedVariables false
namespace LFrac
open Sq49
/-! ### the program's dots: whole numbers over one whole -/
structure MD where
  c : Int
  t : Int
  w : Int
def mNo : MD := ⟨0, 0, 1⟩
def mWeak (d : MD) (u l : Int) : MD := ⟨d.c * u, d.t * u, d.w * l⟩
def mMix (way : Int) (a b : MD) : Int :=
  if way = 0 then a.t * b.c else
  if way = 1 then a.t * b.t else
  if way = 2 then b.t * a.c + a.t * b.c - a.t * b.t else
  if way = 3 then (if a.t * b.c < b.t * a.c then a.t * b.c else b.t * a.c) else
  if way = 4 then (if a.t * b.c > b.t * a.c then a.t * b.c else b.t * a.c) else
  if way = 5 then (if b.t * a.c - a.t * b.c < 0 then -(b.t * a.c - a.t * b.c) else b.t * a.c - a.t * b.c) else
  (if a.c * b.c < b.t * a.c + a.t * b.c then a.c * b.c else b.t * a.c + a.t * b.c)
def mOver (way : Int) (a b : MD) : MD :=
  ⟨a.c * b.w + b.c * a.w - a.c * b.c, a.t * (b.w - b.c) + b.t * (a.w - a.c) + mMix way a b, a.w * b.w⟩
/-- a program's dot is worth d, over 255 ^ E -/
structure MOk (E : Nat) (m : MD) (d : RD) : Prop where
  w : m.w = ((255 ^ E : Nat) : Int)
  c : (m.c : Rat) = d.c * B E
  t : (m.t : Rat) = d.l * B E
  ok : ROk d
theorem B_pos (E : Nat) : 0 < B E := by
  unfold B
  exact_mod_cast (Nat.pow_pos (by decide) : 0 < 255 ^ E)
theorem MOk.wr {E : Nat} {m : MD} {d : RD} (h : MOk E m d) : (m.w : Rat) = B E := by rw [h.w, Rat.intCast_natCast]; rfl
theorem B_zero : B 0 = 1 := by unfold B; rfl
theorem mNo_ok : MOk 0 mNo rclear := ⟨rfl, by show (0 : Rat) = 0 * B 0; rw [Rat.zero_mul], by show (0 : Rat) = 0 * B 0; rw [Rat.zero_mul], rclear_ok⟩
theorem mWeak_ok {E F : Nat} {m : MD} {d : RD} {u l : Int} {f : Rat} (h : MOk E m d) (hl : l = ((255 ^ F : Nat) : Int)) (hu : (u : Rat) = f * B F) (f0 : 0 ≤ f) (f1 : f ≤ 1) : MOk (E + F) (mWeak m u l) (d.part f) := by
  refine ⟨?_, ?_, ?_, rpart_ok f0 f1 h.ok⟩
  · show m.w * l = _
    rw [h.w, hl, Nat.pow_add, Int.natCast_mul]
  · show ((m.c * u : Int) : Rat) = f * d.c * B (E + F)
    rw [Rat.intCast_mul, h.c, hu, B_add]; grind
  · show ((m.t * u : Int) : Rat) = f * d.l * B (E + F)
    rw [Rat.intCast_mul, h.t, hu, B_add]; grind
theorem mMix_ok (way : Nat) {E F : Nat} {a b : MD} {s d : RD} (ha : MOk E a s) (hb : MOk F b d) : ((mMix (way : Int) a b : Int) : Rat) = s.c * d.c * rmix way d.col s.col * B (E + F) := by
  have es := ha.ok.col_mul
  have eb := hb.ok.col_mul
  have p := Rat.mul_nonneg ha.ok.c0 hb.ok.c0
  have kp := B_pos (E + F)
  have x1 : s.c * d.c * s.col = s.l * d.c := by grind
  have x2 : s.c * d.c * d.col = s.c * d.l := by grind
  have x3 : s.c * d.c * (d.col * s.col) = s.l * d.l := by grind
  have ca : ((a.t * b.c : Int) : Rat) = s.l * d.c * B (E + F) := by rw [Rat.intCast_mul, ha.t, hb.c, B_add]; grind
  have cb : ((b.t * a.c : Int) : Rat) = s.c * d.l * B (E + F) := by rw [Rat.intCast_mul, hb.t, ha.c, B_add]; grind
  have pr : ((a.t * b.t : Int) : Rat) = s.l * d.l * B (E + F) := by rw [Rat.intCast_mul, ha.t, hb.t, B_add]; grind
  have bo : ((a.c * b.c : Int) : Rat) = s.c * d.c * B (E + F) := by rw [Rat.intCast_mul, ha.c, hb.c, B_add]; grind
  have lt_iff : ∀ {x y : Int} {p q : Rat}, (x : Rat) = p * B (E + F) → (y : Rat) = q * B (E + F) → (x < y ↔ p < q) := by
    intro x y p q hx hy
    have e : x < y ↔ (x : Rat) < (y : Rat) := by exact_mod_cast Iff.rfl
    rw [e, hx, hy]
    exact Rat.mul_lt_mul_right kp
  have sub0 : ∀ {x y : Int} {p q : Rat}, (x : Rat) = p * B (E + F) → (y : Rat) = q * B (E + F) → ((x - y : Int) : Rat) = (p - q) * B (E + F) := by
    intro x y p q hx hy; rw [Rat.intCast_sub, hx, hy]; grind
  have add0 : ∀ {x y : Int} {p q : Rat}, (x : Rat) = p * B (E + F) → (y : Rat) = q * B (E + F) → ((x + y : Int) : Rat) = (p + q) * B (E + F) := by
    intro x y p q hx hy; rw [Rat.intCast_add, hx, hy]; grind
  have le_of : d.col ≤ s.col → s.c * d.l ≤ s.l * d.c := fun h => by
    have := Rat.mul_le_mul_of_nonneg_left h p
    rw [x1, x2] at this; exact this
  have ge_of : s.col ≤ d.col → s.l * d.c ≤ s.c * d.l := fun h => by
    have := Rat.mul_le_mul_of_nonneg_left h p
    rw [x1, x2] at this; exact this
  match way with
  | 0 =>
    show ((a.t * b.c : Int) : Rat) = s.c * d.c * s.col * B (E + F)
    rw [ca, x1]
  | 1 =>
    show ((a.t * b.t : Int) : Rat) = s.c * d.c * (d.col * s.col) * B (E + F)
    rw [pr, x3]
  | 2 =>
    show ((b.t * a.c + a.t * b.c - a.t * b.t : Int) : Rat) = s.c * d.c * (d.col + s.col - d.col * s.col) * B (E + F)
    rw [sub0 (add0 cb ca) pr]; grind
  | 3 =>
    show (((if a.t * b.c < b.t * a.c then a.t * b.c else b.t * a.c : Int)) : Rat) = s.c * d.c * (if d.col ≤ s.col then d.col else s.col) * B (E + F)
    have i := lt_iff ca cb
    by_cases h : d.col ≤ s.col
    · have l := le_of h
      rw [if_pos h, if_neg (fun q => by have := i.mp q; grind), cb, x2]
    · have l := ge_of (by grind)
      rw [if_neg h, x1]
      by_cases q : a.t * b.c < b.t * a.c
      · rw [if_pos q, ca]
      · rw [if_neg q, cb]
        have : ¬ s.l * d.c < s.c * d.l := fun z => q (i.mpr z)
        have e : s.l * d.c = s.c * d.l := by grind
        rw [e]
  | 4 =>
    show (((if a.t * b.c > b.t * a.c then a.t * b.c else b.t * a.c : Int)) : Rat) = s.c * d.c * (if d.col ≤ s.col then s.col else d.col) * B (E + F)
    have i := lt_iff cb ca
    by_cases h : d.col ≤ s.col
    · have l := le_of h
      rw [if_pos h, x1]
      by_cases q : a.t * b.c > b.t * a.c
      · rw [if_pos q, ca]
      · rw [if_neg q, cb]
        have : ¬ s.c * d.l < s.l * d.c := fun z => q (i.mpr z)
        have e : s.l * d.c = s.c * d.l := by grind
        rw [e]
    · have l := ge_of (by grind)
      rw [if_neg h, x2, if_neg (fun q => by have := i.mp q; grind), cb]
  | 5 =>
    show (((if b.t * a.c - a.t * b.c < 0 then -(b.t * a.c - a.t * b.c) else b.t * a.c - a.t * b.c : Int)) : Rat) = s.c * d.c * (if d.col ≤ s.col then s.col - d.col else d.col - s.col) * B (E + F)
    have i := lt_iff cb ca
    have sb := sub0 cb ca
    have y1 : s.c * d.c * (s.col - d.col) = s.l * d.c - s.c * d.l := by grind
    have y2 : s.c * d.c * (d.col - s.col) = s.c * d.l - s.l * d.c := by grind
    by_cases h : d.col ≤ s.col
    · have l := le_of h
      rw [if_pos h, y1]
      by_cases q : b.t * a.c - a.t * b.c < 0
      · rw [if_pos q, Rat.intCast_neg, sb]; grind
      · rw [if_neg q, sb]
        have : ¬ s.c * d.l < s.l * d.c := fun z => by have := i.mpr z; omega
        have e : s.l * d.c = s.c * d.l := by grind
        rw [e]
    · have l := ge_of (by grind)
      rw [if_neg h, y2, if_neg (fun q => by have := i.mp (by omega); grind), sb]
  | n + 6 =>
    have e : mMix ((n + 6 : Nat) : Int) a b = (if a.c * b.c < b.t * a.c + a.t * b.c then a.c * b.c else b.t * a.c + a.t * b.c) := by
      unfold mMix
      rw [if_neg (by omega), if_neg (by omega), if_neg (by omega), if_neg (by omega), if_neg (by omega), if_neg (by omega)]
    rw [e]
    show (((if a.c * b.c < b.t * a.c + a.t * b.c then a.c * b.c else b.t * a.c + a.t * b.c : Int)) : Rat) = s.c * d.c * (if 1 ≤ d.col + s.col then 1 else d.col + s.col) * B (E + F)
    have sm := add0 cb ca
    have i := lt_iff bo sm
    have y1 : s.c * d.c * (d.col + s.col) = s.c * d.l + s.l * d.c := by grind
    by_cases h : 1 ≤ d.col + s.col
    · have l := Rat.mul_le_mul_of_nonneg_left h p
      rw [Rat.mul_one, y1] at l
      rw [if_pos h, Rat.mul_one]
      by_cases q : a.c * b.c < b.t * a.c + a.t * b.c
      · rw [if_pos q, bo]
      · rw [if_neg q, sm]
        have : ¬ s.c * d.c < s.c * d.l + s.l * d.c := fun z => q (i.mpr z)
        have e : s.c * d.c = s.c * d.l + s.l * d.c := by grind
        rw [e]
    · have l := Rat.mul_le_mul_of_nonneg_left (show d.col + s.col ≤ 1 by grind) p
      rw [Rat.mul_one, y1] at l
      rw [if_neg h, y1, if_neg (fun q => by have := i.mp q; grind), sm]
theorem mOver_ok (way : Nat) {E F : Nat} {a b : MD} {s d : RD} (ha : MOk E a s) (hb : MOk F b d) : MOk (E + F) (mOver (way : Int) a b) (rover way s d) := by
  have m := mMix_ok way ha hb
  have wa := ha.wr
  have wb := hb.wr
  refine ⟨?_, ?_, ?_, rover_ok way ha.ok hb.ok⟩
  · show a.w * b.w = _
    rw [ha.w, hb.w, Nat.pow_add, Int.natCast_mul]
  · show ((a.c * b.w + b.c * a.w - a.c * b.c : Int) : Rat) = (s.c + d.c - s.c * d.c) * B (E + F)
    rw [Rat.intCast_sub, Rat.intCast_add, Rat.intCast_mul, Rat.intCast_mul, Rat.intCast_mul, wa, wb, ha.c, hb.c, B_add]; grind
  · show ((a.t * (b.w - b.c) + b.t * (a.w - a.c) + mMix (way : Int) a b : Int) : Rat) = (s.l * (1 - d.c) + d.l * (1 - s.c) + s.c * d.c * rmix way d.col s.col) * B (E + F)
    rw [Rat.intCast_add, m, Rat.intCast_add, Rat.intCast_mul, Rat.intCast_mul, Rat.intCast_sub, Rat.intCast_sub, wa, wb, ha.c, hb.c, ha.t, hb.t, B_add]; grind
/-! ### bounds -/
theorem MOk.bounds {E : Nat} {m : MD} {d : RD} (h : MOk E m d) : 0 ≤ m.t ∧ m.t ≤ m.c ∧ m.c ≤ m.w ∧ 0 < m.w := by
  have kp := B_pos E
  have k0 : 0 ≤ B E := Rat.le_of_lt kp
  have le : ∀ {x y : Int}, (x : Rat) ≤ (y : Rat) → x ≤ y := fun h => by exact_mod_cast h
  refine ⟨?_, ?_, ?_, ?_⟩
  · refine le ?_
    rw [h.t]
    exact Rat.mul_nonneg h.ok.l0 k0
  · refine le ?_
    rw [h.t, h.c]
    exact Rat.mul_le_mul_of_nonneg_right h.ok.lc k0
  · refine le ?_
    rw [h.c, h.wr]
    have := Rat.mul_le_mul_of_nonneg_right h.ok.c1 k0
    rw [Rat.one_mul] at this
    exact this
  · rw [h.w]
    have : 0 < 255 ^ E := Nat.pow_pos (by decide)
    omega
/-- below 2 ^ 5000 -/
def Bg (i : Int) : Prop := i.natAbs < 2 ^ 5000
structure MBg (m : MD) : Prop where
  c : Bg m.c
  t : Bg m.t
  w : Bg m.w
theorem pow_small {E : Nat} (h : E ≤ 600) : 255 ^ E < 2 ^ 5000 := by
  have h1 : 255 ^ E ≤ 256 ^ E := Nat.pow_le_pow_left (by decide) E
  have h2 : (256 : Nat) ^ E = 2 ^ (8 * E) := by rw [Nat.pow_mul]
  have h3 : (2 : Nat) ^ (8 * E) < 2 ^ 5000 := Nat.pow_lt_pow_right (by decide) (by omega)
  omega
theorem MOk.bg {E : Nat} {m : MD} {d : RD} (h : MOk E m d) (hE : E ≤ 600) : MBg m := by
  have b := h.bounds
  have p := pow_small hE
  have w := h.w
  generalize 255 ^ E = n at p w
  unfold Bg at *
  refine ⟨?_, ?_, ?_⟩ <;> (unfold Bg; generalize 2 ^ 5000 = z at p ⊢; omega)
theorem bg_small {i : Int} (h : i.natAbs < 2 ^ 64) : Bg i := Nat.lt_of_lt_of_le h (Nat.pow_le_pow_right (by decide) (by decide))
/-! ### what is told of a dot -/
theorem mk_of {E : Nat} {m : MD} {d : RD} (h : MOk E m d) : d.c = (m.c.toNat : Rat) / (m.w.toNat : Rat) := by
  have b := h.bounds
  have kp := B_ne E
  have e1 : ((m.c.toNat : Nat) : Rat) = (m.c : Rat) := by rw [← Rat.intCast_natCast, Int.toNat_of_nonneg (by omega)]
  have e2 : ((m.w.toNat : Nat) : Rat) = (m.w : Rat) := by rw [← Rat.intCast_natCast, Int.toNat_of_nonneg (by omega)]
  rw [e1, e2, h.wr, h.c]
  grind
theorem col_of {E : Nat} {m : MD} {d : RD} (h : MOk E m d) : d.col = (m.t.toNat : Rat) / (m.c.toNat : Rat) := by
  have b := h.bounds
  have kp := B_ne E
  have e1 : ((m.c.toNat : Nat) : Rat) = (m.c : Rat) := by rw [← Rat.intCast_natCast, Int.toNat_of_nonneg (by omega)]
  have e2 : ((m.t.toNat : Nat) : Rat) = (m.t : Rat) := by rw [← Rat.intCast_natCast, Int.toNat_of_nonneg (by omega)]
  rw [e1, e2, h.t, h.c]
  unfold RD.col
  by_cases q : d.c = 0
  · rw [q, Rat.zero_mul, Rat.div_def, Rat.div_def, Rat.inv_zero, Rat.mul_zero, Rat.mul_zero]
  · grind
theorem c_zero {E : Nat} {m : MD} {d : RD} (h : MOk E m d) : m.c = 0 ↔ d.c = 0 := by
  have kp := B_ne E
  have e : m.c = 0 ↔ (m.c : Rat) = 0 := by exact_mod_cast Iff.rfl
  rw [e, h.c]
  constructor
  · intro q
    rcases Rat.mul_eq_zero.mp q with z | z
    · exact z
    · exact absurd z kp
  · intro q; rw [q, Rat.zero_mul]
/-- in lowest terms -/
theorem low_is {f : Frac} (h : Low f) {n d : Nat} (d0 : d ≠ 0) (e : Q f = (n : Rat) / (d : Rat)) : f.n = n / Nat.gcd n d ∧ f.d = d / Nat.gcd n d := by
  have e1 : f = frac n d := Low.ext h (frac_low d0) (by rw [e, Q_frac d0, mk_div])
  rw [e1]
  unfold frac
  by_cases z : n = 0
  · subst z
    rw [if_pos rfl, Nat.gcd_zero_left]
    exact ⟨(Nat.zero_div _).symm, (Nat.div_self (Nat.pos_of_ne_zero d0)).symm⟩
  · rw [if_neg z]; exact ⟨rfl, rfl⟩
theorem dot_same {a b : Dot} (ha : DOk a) (hb : DOk b) {E F : Nat} {m k : MD} (h1 : MOk E m (QD a)) (h2 : MOk F k (QD b)) : a = b ↔ m.c * k.w = k.c * m.w ∧ m.t * k.w = k.t * m.w := by
  have kE := B_ne E
  have kF := B_ne F
  have cast : ∀ {x y : Int}, x = y ↔ (x : Rat) = (y : Rat) := fun {x y} => by exact_mod_cast Iff.rfl
  rw [cast, cast, Rat.intCast_mul, Rat.intCast_mul, Rat.intCast_mul, Rat.intCast_mul, h1.c, h1.t, h1.wr, h2.c, h2.t, h2.wr]
  constructor
  · intro e; rw [e]; constructor <;> grind
  · intro ⟨e1, e2⟩
    have c1 : (QD a).c = (QD b).c := by grind
    have c2 : (QD a).l = (QD b).l := by grind
    have d1 : a.cover = b.cover := Low.ext ha.lc hb.lc c1
    have d2 : a.light = b.light := Low.ext ha.ll hb.ll c2
    cases a; cases b; simp only at d1 d2; rw [d1, d2]
/-- rounded to a level -/
def mNear (u l : Int) : Int := (2 * 255 * u + l) / (2 * l)
theorem near_nat {u l : Int} (hu : 0 ≤ u) (hl : 0 < l) : mNear u l = (((2 * 255 * u.toNat + l.toNat) / (2 * l.toNat) : Nat) : Int) := by
  unfold mNear
  have e1 : u = (u.toNat : Int) := (Int.toNat_of_nonneg hu).symm
  have e2 : l = (l.toNat : Int) := (Int.toNat_of_nonneg (by omega)).symm
  conv => lhs; rw [e1, e2]
  rw [Int.natCast_ediv]
  congr 1
theorem shown_cover {a : Dot} (ha : DOk a) {E : Nat} {m : MD} (h : MOk E m (QD a)) : mNear m.c m.w = (rounded a.cover : Int) := by
  have b := h.bounds
  rw [near_nat (by omega) (by omega), rounded_of ha.lc (p := m.c.toNat) (q := m.w.toNat) (by omega) (mk_of h)]
theorem shown_colour {a : Dot} (ha : DOk a) {E : Nat} {m : MD} (h : MOk E m (QD a)) (c : m.c ≠ 0) : mNear m.t m.c = (rounded a.colour : Int) := by
  have b := h.bounds
  rw [near_nat (by omega) (by omega), rounded_of ha.col_low (p := m.t.toNat) (q := m.c.toNat) (by omega) (by rw [ha.Q_col]; exact col_of h)]
theorem near_zero {m : MD} (h : 0 < m.w) (c : m.c = 0) : mNear m.c m.w = 0 := by
  unfold mNear
  rw [c]
  exact Int.ediv_eq_zero_of_lt (by omega) (by omega)
theorem rounded_le {f : Frac} (h : Low f) (h1 : Q f ≤ 1) : rounded f ≤ 255 := by
  have e : f.n ≤ f.d := by
    have := (le_iff h low_one).mpr (by rw [Q_one]; exact h1)
    show f.n ≤ f.d
    have z : f.n * 1 ≤ 1 * f.d := this
    omega
  unfold rounded
  have p := Nat.pos_of_ne_zero h.d0
  have : 2 * 255 * f.n + f.d < (255 + 1) * (2 * f.d) := by omega
  have := (Nat.div_lt_iff_lt_mul (by omega : 0 < 2 * f.d)).mpr this
  omega
theorem shown_le {a : Dot} (ha : DOk a) : (shown a).1 ≤ 255 ∧ (shown a).2 ≤ 255 := by
  unfold shown
  split
  · exact ⟨by decide, by decide⟩
  · exact ⟨rounded_le ha.col_low (by rw [ha.Q_col]; exact ha.ok.col_bounds.2), rounded_le ha.lc ha.ok.c1⟩
end LFrac
set_option linter.unusedVariables false
namespace LCalls
open Sq49 (Call House)
/-! ### the list of whole numbers as calls -/
def ofN (l : List Nat) : List Int := l.map fun (n : Nat) => (n : Int)
/-- a call as it stands in the list -/
def enc : Call → List Int
  | .begin_ w h => 1 :: ofN [w, h]
  | .layer x y w h l => 2 :: ofN [x, y, w, h, l.length] ++ ofN l
  | .group i n => 3 :: ofN [i, n]
  | .open_ i => 4 :: ofN [i]
  | .how i s a m c => 5 :: ofN [i, s, a, m, c]
  | .shift i x y => 6 :: ofN [i, x, y]
  | .paint i x y v c => 7 :: ofN [i, x, y, v, c]
  | .drop i => 8 :: ofN [i]
  | .lift i p => 9 :: ofN [i, p]
  | .dot x y => 10 :: ofN [x, y]
  | .row y => 11 :: ofN [y]
  | .matters x y => 12 :: ofN [x, y]
  | .flat => 13 :: ofN []
  | .list => 14 :: ofN []
/-- what is given back for some calls, from a picture on -/
def told : House → List Call → List Int
  | _, [] => []
  | g, c :: l => (((g.step c).2.out.length + 1 : Nat) : Int) :: (g.step c).2.value :: ((g.step c).2.out ++ told (g.step c).1 l)
/-- the numbers and rows of a call as the document lets them be -/
def rowOk : Call → Prop
  | .layer _ _ _ _ l => l.length ≤ 200
  | _ => True
theorem whole_id (c : List (List Int)) : PySq49.whole c = c := by
  unfold PySq49.whole
  split <;> rfl
theorem nat_of {z : Int} {lo hi : Int} (h : PyInside.within 0 hi z = true) : ∃ n : Nat, z = n := by
  unfold PyInside.within at h
  simp only [Bool.and_eq_true, decide_eq_true_eq] at h
  exact ⟨z.toNat, by omega⟩
theorem nats_of {hi : Int} : ∀ {r : List Int}, r.all (PyInside.within 0 hi) = true → ∃ l : List Nat, r = ofN l
  | [], _ => ⟨[], rfl⟩
  | x :: r, h => by
    rw [List.all_cons, Bool.and_eq_true] at h
    obtain ⟨n, e⟩ := nat_of (lo := 0) h.1
    obtain ⟨l, e2⟩ := nats_of h.2
    exact ⟨n :: l, by rw [e, e2]; rfl⟩
/-- a call without rows: its place and n numbers -/
theorem plain_call {p : Int} {n : Nat} {r : List Int} {c : List (List Int)} {t : List Int} (hs : PySq49.shape p = some (n, 0)) (h : PyFlat.call PySq49.shape (p :: r) = some (c, t)) : n ≤ r.length ∧ c = [p :: r.take n] ∧ t = r.drop n := by
  unfold PyFlat.call at h
  simp only [hs] at h
  by_cases q : r.length < n
  · rw [if_pos q] at h; cases h
  · rw [if_neg q] at h
    unfold PyFlat.rows at h
    simp only [Option.some.injEq, Prod.mk.injEq] at h
    exact ⟨by omega, h.1.symm, h.2.symm⟩
theorem row_call {p : Int} {n : Nat} {r : List Int} {c : List (List Int)} {t : List Int} (hs : PySq49.shape p = some (n, 1)) (h : PyFlat.call PySq49.shape (p :: r) = some (c, t)) : n ≤ r.length ∧ ∃ m q, r.drop n = m :: q ∧ 0 ≤ m ∧ m.toNat ≤ q.length ∧ c = [p :: r.take n, q.take m.toNat] ∧ t = q.drop m.toNat := by
  unfold PyFlat.call at h
  simp only [hs] at h
  by_cases q : r.length < n
  · rw [if_pos q] at h; cases h
  · rw [if_neg q] at h
    refine ⟨by omega, ?_⟩
    unfold PyFlat.rows at h
    cases e : r.drop n with
    | nil => rw [e] at h; unfold PyFlat.row at h; cases h
    | cons m z =>
      rw [e] at h
      unfold PyFlat.row at h
      by_cases k : 0 ≤ m ∧ m.toNat ≤ z.length
      · simp only [if_pos k] at h
        unfold PyFlat.rows at h
        simp only [Option.some.injEq, Prod.mk.injEq] at h
        exact ⟨m, z, rfl, k.1, k.2, h.1.symm, h.2.symm⟩
      · simp only [if_neg k] at h
        cases h
theorem call_1 {r : List Int} {c : List (List Int)} {t : List Int} (h : PyFlat.call PySq49.shape (1 :: r) = some (c, t)) (hb : PyInside.call PySq49.bound c = true) : ∃ k : Call, 1 :: r = enc k ++ t ∧ Sq49Neutral.callOf c = some k ∧ rowOk k := by
  obtain ⟨h1, h2, h3⟩ := plain_call (n := 2) rfl h
  match r, h1, h2, h3 with
  | a :: b :: r, h1, h2, h3 =>
    replace h2 : c = [[1, a, b]] := h2
    replace h3 : t = r := h3
    subst h2 h3
    have q : ((PyInside.within 0 18446744073709551615 a && (PyInside.within 0 18446744073709551615 b && true)) && true) = true := hb
    simp only [Bool.and_eq_true, and_true] at q
    obtain ⟨qa, qb⟩ := q
    obtain ⟨na, ea⟩ := nat_of (lo := 0) qa
    obtain ⟨nb, eb⟩ := nat_of (lo := 0) qb
    subst ea eb
    exact ⟨.begin_ na nb, rfl, rfl, trivial⟩
  | [], h1, _, _ => simp at h1
  | [_], h1, _, _ => simp at h1
theorem call_3 {r : List Int} {c : List (List Int)} {t : List Int} (h : PyFlat.call PySq49.shape (3 :: r) = some (c, t)) (hb : PyInside.call PySq49.bound c = true) : ∃ k : Call, 3 :: r = enc k ++ t ∧ Sq49Neutral.callOf c = some k ∧ rowOk k := by
  obtain ⟨h1, h2, h3⟩ := plain_call (n := 2) rfl h
  match r, h1, h2, h3 with
  | a :: b :: r, h1, h2, h3 =>
    replace h2 : c = [[3, a, b]] := h2
    replace h3 : t = r := h3
    subst h2 h3
    have q : ((PyInside.within 0 18446744073709551615 a && (PyInside.within 0 18446744073709551615 b && true)) && true) = true := hb
    simp only [Bool.and_eq_true, and_true] at q
    obtain ⟨qa, qb⟩ := q
    obtain ⟨na, ea⟩ := nat_of (lo := 0) qa
    obtain ⟨nb, eb⟩ := nat_of (lo := 0) qb
    subst ea eb
    exact ⟨.group na nb, rfl, rfl, trivial⟩
  | [], h1, _, _ => simp at h1
  | [_], h1, _, _ => simp at h1
theorem call_4 {r : List Int} {c : List (List Int)} {t : List Int} (h : PyFlat.call PySq49.shape (4 :: r) = some (c, t)) (hb : PyInside.call PySq49.bound c = true) : ∃ k : Call, 4 :: r = enc k ++ t ∧ Sq49Neutral.callOf c = some k ∧ rowOk k := by
  obtain ⟨h1, h2, h3⟩ := plain_call (n := 1) rfl h
  match r, h1, h2, h3 with
  | a :: r, h1, h2, h3 =>
    replace h2 : c = [[4, a]] := h2
    replace h3 : t = r := h3
    subst h2 h3
    have q : ((PyInside.within 0 18446744073709551615 a && true) && true) = true := hb
    simp only [Bool.and_eq_true, and_true] at q
    obtain ⟨na, ea⟩ := nat_of (lo := 0) q
    subst ea
    exact ⟨.open_ na, rfl, rfl, trivial⟩
  | [], h1, _, _ => simp at h1
theorem call_5 {r : List Int} {c : List (List Int)} {t : List Int} (h : PyFlat.call PySq49.shape (5 :: r) = some (c, t)) (hb : PyInside.call PySq49.bound c = true) : ∃ k : Call, 5 :: r = enc k ++ t ∧ Sq49Neutral.callOf c = some k ∧ rowOk k := by
  obtain ⟨h1, h2, h3⟩ := plain_call (n := 5) rfl h
  match r, h1, h2, h3 with
  | a :: b :: d :: e :: f :: r, h1, h2, h3 =>
    replace h2 : c = [[5, a, b, d, e, f]] := h2
    replace h3 : t = r := h3
    subst h2 h3
    have q : ((PyInside.within 0 18446744073709551615 a && (PyInside.within 0 18446744073709551615 b && (PyInside.within 0 18446744073709551615 d && (PyInside.within 0 18446744073709551615 e && (PyInside.within 0 18446744073709551615 f && true))))) && true) = true := hb
    simp only [Bool.and_eq_true, and_true] at q
    obtain ⟨qa, qb, qd, qe, qf⟩ := q
    obtain ⟨na, ea⟩ := nat_of (lo := 0) qa
    obtain ⟨nb, eb⟩ := nat_of (lo := 0) qb
    obtain ⟨nd, ed⟩ := nat_of (lo := 0) qd
    obtain ⟨ne, ee⟩ := nat_of (lo := 0) qe
    obtain ⟨nf, ef⟩ := nat_of (lo := 0) qf
    subst ea eb ed ee ef
    exact ⟨.how na nb nd ne nf, rfl, rfl, trivial⟩
  | [], h1, _, _ => simp at h1
  | [_], h1, _, _ => simp at h1
  | [_, _], h1, _, _ => simp at h1
  | [_, _, _], h1, _, _ => simp at h1
  | [_, _, _, _], h1, _, _ => simp at h1
theorem call_6 {r : List Int} {c : List (List Int)} {t : List Int} (h : PyFlat.call PySq49.shape (6 :: r) = some (c, t)) (hb : PyInside.call PySq49.bound c = true) : ∃ k : Call, 6 :: r = enc k ++ t ∧ Sq49Neutral.callOf c = some k ∧ rowOk k := by
  obtain ⟨h1, h2, h3⟩ := plain_call (n := 3) rfl h
  match r, h1, h2, h3 with
  | a :: b :: d :: r, h1, h2, h3 =>
    replace h2 : c = [[6, a, b, d]] := h2
    replace h3 : t = r := h3
    subst h2 h3
    have q : ((PyInside.within 0 18446744073709551615 a && (PyInside.within 0 18446744073709551615 b && (PyInside.within 0 18446744073709551615 d && true))) && true) = true := hb
    simp only [Bool.and_eq_true, and_true] at q
    obtain ⟨qa, qb, qd⟩ := q
    obtain ⟨na, ea⟩ := nat_of (lo := 0) qa
    obtain ⟨nb, eb⟩ := nat_of (lo := 0) qb
    obtain ⟨nd, ed⟩ := nat_of (lo := 0) qd
    subst ea eb ed
    exact ⟨.shift na nb nd, rfl, rfl, trivial⟩
  | [], h1, _, _ => simp at h1
  | [_], h1, _, _ => simp at h1
  | [_, _], h1, _, _ => simp at h1
theorem call_7 {r : List Int} {c : List (List Int)} {t : List Int} (h : PyFlat.call PySq49.shape (7 :: r) = some (c, t)) (hb : PyInside.call PySq49.bound c = true) : ∃ k : Call, 7 :: r = enc k ++ t ∧ Sq49Neutral.callOf c = some k ∧ rowOk k := by
  obtain ⟨h1, h2, h3⟩ := plain_call (n := 5) rfl h
  match r, h1, h2, h3 with
  | a :: b :: d :: e :: f :: r, h1, h2, h3 =>
    replace h2 : c = [[7, a, b, d, e, f]] := h2
    replace h3 : t = r := h3
    subst h2 h3
    have q : ((PyInside.within 0 18446744073709551615 a && (PyInside.within 0 18446744073709551615 b && (PyInside.within 0 18446744073709551615 d && (PyInside.within 0 18446744073709551615 e && (PyInside.within 0 18446744073709551615 f && true))))) && true) = true := hb
    simp only [Bool.and_eq_true, and_true] at q
    obtain ⟨qa, qb, qd, qe, qf⟩ := q
    obtain ⟨na, ea⟩ := nat_of (lo := 0) qa
    obtain ⟨nb, eb⟩ := nat_of (lo := 0) qb
    obtain ⟨nd, ed⟩ := nat_of (lo := 0) qd
    obtain ⟨ne, ee⟩ := nat_of (lo := 0) qe
    obtain ⟨nf, ef⟩ := nat_of (lo := 0) qf
    subst ea eb ed ee ef
    exact ⟨.paint na nb nd ne nf, rfl, rfl, trivial⟩
  | [], h1, _, _ => simp at h1
  | [_], h1, _, _ => simp at h1
  | [_, _], h1, _, _ => simp at h1
  | [_, _, _], h1, _, _ => simp at h1
  | [_, _, _, _], h1, _, _ => simp at h1
theorem call_8 {r : List Int} {c : List (List Int)} {t : List Int} (h : PyFlat.call PySq49.shape (8 :: r) = some (c, t)) (hb : PyInside.call PySq49.bound c = true) : ∃ k : Call, 8 :: r = enc k ++ t ∧ Sq49Neutral.callOf c = some k ∧ rowOk k := by
  obtain ⟨h1, h2, h3⟩ := plain_call (n := 1) rfl h
  match r, h1, h2, h3 with
  | a :: r, h1, h2, h3 =>
    replace h2 : c = [[8, a]] := h2
    replace h3 : t = r := h3
    subst h2 h3
    have q : ((PyInside.within 0 18446744073709551615 a && true) && true) = true := hb
    simp only [Bool.and_eq_true, and_true] at q
    obtain ⟨na, ea⟩ := nat_of (lo := 0) q
    subst ea
    exact ⟨.drop na, rfl, rfl, trivial⟩
  | [], h1, _, _ => simp at h1
theorem call_9 {r : List Int} {c : List (List Int)} {t : List Int} (h : PyFlat.call PySq49.shape (9 :: r) = some (c, t)) (hb : PyInside.call PySq49.bound c = true) : ∃ k : Call, 9 :: r = enc k ++ t ∧ Sq49Neutral.callOf c = some k ∧ rowOk k := by
  obtain ⟨h1, h2, h3⟩ := plain_call (n := 2) rfl h
  match r, h1, h2, h3 with
  | a :: b :: r, h1, h2, h3 =>
    replace h2 : c = [[9, a, b]] := h2
    replace h3 : t = r := h3
    subst h2 h3
    have q : ((PyInside.within 0 18446744073709551615 a && (PyInside.within 0 18446744073709551615 b && true)) && true) = true := hb
    simp only [Bool.and_eq_true, and_true] at q
    obtain ⟨qa, qb⟩ := q
    obtain ⟨na, ea⟩ := nat_of (lo := 0) qa
    obtain ⟨nb, eb⟩ := nat_of (lo := 0) qb
    subst ea eb
    exact ⟨.lift na nb, rfl, rfl, trivial⟩
  | [], h1, _, _ => simp at h1
  | [_], h1, _, _ => simp at h1
theorem call_10 {r : List Int} {c : List (List Int)} {t : List Int} (h : PyFlat.call PySq49.shape (10 :: r) = some (c, t)) (hb : PyInside.call PySq49.bound c = true) : ∃ k : Call, 10 :: r = enc k ++ t ∧ Sq49Neutral.callOf c = some k ∧ rowOk k := by
  obtain ⟨h1, h2, h3⟩ := plain_call (n := 2) rfl h
  match r, h1, h2, h3 with
  | a :: b :: r, h1, h2, h3 =>
    replace h2 : c = [[10, a, b]] := h2
    replace h3 : t = r := h3
    subst h2 h3
    have q : ((PyInside.within 0 18446744073709551615 a && (PyInside.within 0 18446744073709551615 b && true)) && true) = true := hb
    simp only [Bool.and_eq_true, and_true] at q
    obtain ⟨qa, qb⟩ := q
    obtain ⟨na, ea⟩ := nat_of (lo := 0) qa
    obtain ⟨nb, eb⟩ := nat_of (lo := 0) qb
    subst ea eb
    exact ⟨.dot na nb, rfl, rfl, trivial⟩
  | [], h1, _, _ => simp at h1
  | [_], h1, _, _ => simp at h1
theorem call_11 {r : List Int} {c : List (List Int)} {t : List Int} (h : PyFlat.call PySq49.shape (11 :: r) = some (c, t)) (hb : PyInside.call PySq49.bound c = true) : ∃ k : Call, 11 :: r = enc k ++ t ∧ Sq49Neutral.callOf c = some k ∧ rowOk k := by
  obtain ⟨h1, h2, h3⟩ := plain_call (n := 1) rfl h
  match r, h1, h2, h3 with
  | a :: r, h1, h2, h3 =>
    replace h2 : c = [[11, a]] := h2
    replace h3 : t = r := h3
    subst h2 h3
    have q : ((PyInside.within 0 18446744073709551615 a && true) && true) = true := hb
    simp only [Bool.and_eq_true, and_true] at q
    obtain ⟨na, ea⟩ := nat_of (lo := 0) q
    subst ea
    exact ⟨.row na, rfl, rfl, trivial⟩
  | [], h1, _, _ => simp at h1
theorem call_12 {r : List Int} {c : List (List Int)} {t : List Int} (h : PyFlat.call PySq49.shape (12 :: r) = some (c, t)) (hb : PyInside.call PySq49.bound c = true) : ∃ k : Call, 12 :: r = enc k ++ t ∧ Sq49Neutral.callOf c = some k ∧ rowOk k := by
  obtain ⟨h1, h2, h3⟩ := plain_call (n := 2) rfl h
  match r, h1, h2, h3 with
  | a :: b :: r, h1, h2, h3 =>
    replace h2 : c = [[12, a, b]] := h2
    replace h3 : t = r := h3
    subst h2 h3
    have q : ((PyInside.within 0 18446744073709551615 a && (PyInside.within 0 18446744073709551615 b && true)) && true) = true := hb
    simp only [Bool.and_eq_true, and_true] at q
    obtain ⟨qa, qb⟩ := q
    obtain ⟨na, ea⟩ := nat_of (lo := 0) qa
    obtain ⟨nb, eb⟩ := nat_of (lo := 0) qb
    subst ea eb
    exact ⟨.matters na nb, rfl, rfl, trivial⟩
  | [], h1, _, _ => simp at h1
  | [_], h1, _, _ => simp at h1
theorem call_13 {r : List Int} {c : List (List Int)} {t : List Int} (h : PyFlat.call PySq49.shape (13 :: r) = some (c, t)) (hb : PyInside.call PySq49.bound c = true) : ∃ k : Call, 13 :: r = enc k ++ t ∧ Sq49Neutral.callOf c = some k ∧ rowOk k := by
  obtain ⟨h1, h2, h3⟩ := plain_call (n := 0) rfl h
  replace h2 : c = [[13]] := h2
  replace h3 : t = r := h3
  subst h2 h3
  exact ⟨.flat, rfl, rfl, trivial⟩
theorem call_14 {r : List Int} {c : List (List Int)} {t : List Int} (h : PyFlat.call PySq49.shape (14 :: r) = some (c, t)) (hb : PyInside.call PySq49.bound c = true) : ∃ k : Call, 14 :: r = enc k ++ t ∧ Sq49Neutral.callOf c = some k ∧ rowOk k := by
  obtain ⟨h1, h2, h3⟩ := plain_call (n := 0) rfl h
  replace h2 : c = [[14]] := h2
  replace h3 : t = r := h3
  subst h2 h3
  exact ⟨.list, rfl, rfl, trivial⟩
theorem call_2 {r : List Int} {c : List (List Int)} {t : List Int} (h : PyFlat.call PySq49.shape (2 :: r) = some (c, t)) (hb : PyInside.call PySq49.bound c = true) : ∃ k : Call, 2 :: r = enc k ++ t ∧ Sq49Neutral.callOf c = some k ∧ rowOk k := by
  obtain ⟨h1, m, z, h2, h3, h4, h5, h6⟩ := row_call (n := 4) rfl h
  match r, h1, h2, h5 with
  | a :: b :: d :: e :: r, h1, h2, h5 =>
    replace h2 : r = m :: z := h2
    replace h5 : c = [[2, a, b, d, e], z.take m.toNat] := h5
    subst h2 h5 h6
    have q : ((PyInside.within 0 18446744073709551615 a && (PyInside.within 0 18446744073709551615 b && (PyInside.within 0 18446744073709551615 d && (PyInside.within 0 18446744073709551615 e && true)))) && (decide (0 ≤ (z.take m.toNat).length) && decide ((z.take m.toNat).length ≤ 200) && (z.take m.toNat).all (PyInside.within 0 18446744073709551615) && true)) = true := hb
    simp only [Bool.and_eq_true, and_true, decide_eq_true_eq] at q
    obtain ⟨⟨qa, qb, qd, qe⟩, ⟨_, ql⟩, qr⟩ := q
    obtain ⟨na, ea⟩ := nat_of (lo := 0) qa
    obtain ⟨nb, eb⟩ := nat_of (lo := 0) qb
    obtain ⟨nd, ed⟩ := nat_of (lo := 0) qd
    obtain ⟨ne, ee⟩ := nat_of (lo := 0) qe
    obtain ⟨l, el⟩ := nats_of qr
    subst ea eb ed ee
    have ll : l.length = m.toNat := by
      have := congrArg List.length el
      rw [List.length_take, Nat.min_eq_left h4] at this
      rw [this]; unfold ofN; rw [List.length_map]
    refine ⟨.layer na nb nd ne l, ?_, ?_, ?_⟩
    · show (2 : Int) :: (na : Int) :: (nb : Int) :: (nd : Int) :: (ne : Int) :: m :: z = (2 : Int) :: (na : Int) :: (nb : Int) :: (nd : Int) :: (ne : Int) :: (l.length : Int) :: (ofN l ++ z.drop m.toNat)
      have em : m = (l.length : Int) := by omega
      rw [← el, List.take_append_drop, ← em]
    · rw [el]
      show some (Call.layer na nb nd ne ((ofN l).map fun z => z.toNat)) = _
      have : (ofN l).map (fun z => z.toNat) = l := by
        unfold ofN
        rw [List.map_map]
        conv => rhs; rw [← List.map_id l]
        apply List.map_congr_left
        intro x _
        rfl
      rw [this]
    · show l.length ≤ 200
      rw [el] at ql
      unfold ofN at ql
      rw [List.length_map] at ql
      exact ql
  | [], h1, _, _ => simp at h1
  | [_], h1, _, _ => simp at h1
  | [_, _], h1, _, _ => simp at h1
  | [_, _, _], h1, _, _ => simp at h1
/-- one call off the list's beginning, all its numbers in bounds -/
theorem one_call {l : List Int} {c : List (List Int)} {t : List Int} (h : PyFlat.call PySq49.shape l = some (c, t)) (hb : PyInside.call PySq49.bound c = true) :
    ∃ k : Call, l = enc k ++ t ∧ Sq49Neutral.callOf c = some k ∧ rowOk k := by
  cases l with
  | nil => unfold PyFlat.call at h; cases h
  | cons p r =>
    by_cases c1 : p = 1
    · subst c1; exact call_1 h hb
    by_cases c2 : p = 2
    · subst c2; exact call_2 h hb
    by_cases c3 : p = 3
    · subst c3; exact call_3 h hb
    by_cases c4 : p = 4
    · subst c4; exact call_4 h hb
    by_cases c5 : p = 5
    · subst c5; exact call_5 h hb
    by_cases c6 : p = 6
    · subst c6; exact call_6 h hb
    by_cases c7 : p = 7
    · subst c7; exact call_7 h hb
    by_cases c8 : p = 8
    · subst c8; exact call_8 h hb
    by_cases c9 : p = 9
    · subst c9; exact call_9 h hb
    by_cases c10 : p = 10
    · subst c10; exact call_10 h hb
    by_cases c11 : p = 11
    · subst c11; exact call_11 h hb
    by_cases c12 : p = 12
    · subst c12; exact call_12 h hb
    by_cases c13 : p = 13
    · subst c13; exact call_13 h hb
    by_cases c14 : p = 14
    · subst c14; exact call_14 h hb
    exfalso
    unfold PyFlat.call at h
    have : PySq49.shape p = none := by
      unfold PySq49.shape
      simp only [c1, c2, c3, c4, c5, c6, c7, c8, c9, c10, c11, c12, c13, c14, if_false]
    simp only [this] at h
    cases h
/-- all of them -/
theorem all_calls : ∀ (f : Nat) (l : List Int) (cs : List (List (List Int))), PyFlat.calls PySq49.shape f l = some cs → PyInside.calls PySq49.bound cs = true →
    ∃ ks : List Call, l = ks.flatMap enc ∧ ks.length = cs.length ∧ (∀ k ∈ ks, rowOk k) ∧ ∀ g, PyFlat.told (PyFlat.played Sq49Neutral.step g cs) = told g ks
  | f, [], cs, h, hb => by
    unfold PyFlat.calls at h
    cases h
    exact ⟨[], rfl, rfl, fun k h => (List.not_mem_nil h).elim, fun g => rfl⟩
  | 0, _ :: _, cs, h, hb => by
    unfold PyFlat.calls at h
    cases h
  | f + 1, p :: r, cs, h, hb => by
    unfold PyFlat.calls at h
    cases e : PyFlat.call PySq49.shape (p :: r) with
    | none => rw [e] at h; cases h
    | some ct =>
      obtain ⟨c, t⟩ := ct
      rw [e] at h
      simp only at h
      cases e2 : PyFlat.calls PySq49.shape f t with
      | none => rw [e2] at h; cases h
      | some cs' =>
        rw [e2] at h
        cases h
        unfold PyInside.calls at hb
        rw [List.all_cons, Bool.and_eq_true] at hb
        obtain ⟨k, k1, k2, k3⟩ := one_call e hb.1
        obtain ⟨ks, l1, l2, l3, l4⟩ := all_calls f t cs' e2 hb.2
        refine ⟨k :: ks, ?_, ?_, ?_, ?_⟩
        · rw [List.flatMap_cons, ← l1, ← k1]
        · rw [List.length_cons, List.length_cons, l2]
        · intro x hx
          rcases List.mem_cons.mp hx with z | z
          · rw [z]; exact k3
          · exact l3 x z
        · intro g
          have es : Sq49Neutral.step g c = ((House.step g k).1, (House.step g k).2.value :: (House.step g k).2.out) := by
            unfold Sq49Neutral.step
            rw [k2]
          have ih := l4 (House.step g k).1
          unfold PyFlat.played
          rw [es]
          unfold PyFlat.told at ih ⊢
          rw [List.flatMap_cons, ih]
          conv => rhs; unfold told
          rfl
/-- what is asked of the list, and what is due -/
theorem asked_calls {ns : List Int} (h : PySq49.answers_asked ns = true) : ∃ ks : List Call, ns = ks.flatMap enc ∧ ks.length ≤ 60 ∧ (∀ k ∈ ks, rowOk k) ∧ PySq49.answers ns = told Sq49.fresh ks ∧ (PySq49.answers ns).length ≤ 10000000 := by
  unfold PySq49.answers_asked at h
  cases e : PyFlat.calls PySq49.shape ns.length ns with
  | none => rw [e] at h; cases h
  | some cs =>
    rw [e] at h
    simp only [Bool.and_eq_true] at h
    obtain ⟨⟨⟨⟨_, h1⟩, h2⟩, _⟩, h5⟩ := h
    obtain ⟨ks, l1, l2, l3, l4⟩ := all_calls _ _ _ e h2
    refine ⟨ks, l1, ?_, l3, ?_, of_decide_eq_true h5⟩
    · unfold PyFlat.atMost at h1
      rw [l2]; exact of_decide_eq_true h1
    · unfold PySq49.answers PySq49.calls
      rw [e]
      simp only
      have : cs.map PySq49.whole = cs := by
        conv => rhs; rw [← List.map_id cs]
        apply List.map_congr_left
        intro x _
        exact whole_id x
      rw [this]
      exact l4 Sq49.fresh
end LCalls
set_option Elab.async false
set_option linter.all false
set_option maxRecDepth 100000
set_option maxHeartbeats 2000000
namespace Lay
open PySem PySem.Spec PyProof.Rows L2
open Sq49 (Node How House)
/-! ### things with their places -/
/-- a thing and where it lies: its object, its list -/
inductive AT where
  | layer (a pa : Addr) (h : How) (x y : Int) (w ht : Nat) (px : List (Nat × Nat))
  | group (a la : Addr) (h : How) (l : List AT)
def AT.addr : AT → Addr
  | .layer a .. => a
  | .group a .. => a
def AT.how : AT → How
  | .layer _ _ h .. => h
  | .group _ _ h _ => h
abbrev AT.id (t : AT) : Nat := t.how.id
def AT.cells : AT → List Addr
  | .layer a pa .. => [a, pa]
  | .group a la .. => [a, la]
def AT.kids : AT → List AT
  | .layer .. => []
  | .group _ _ _ l => l
def refs (ts : List AT) : List V := ts.map fun t => .ref t.addr
mutual
def AT.node : AT → Node
  | .layer _ _ h x y w ht px => .layer h x y w ht px
  | .group _ _ h l => .group h (nodes l)
def nodes : List AT → List Node
  | [] => []
  | t :: l => t.node :: nodes l
end
mutual
/-- a thing and all in it, a group ahead -/
def AT.flat1 : AT → List AT
  | .layer a pa h x y w ht px => [.layer a pa h x y w ht px]
  | .group a la h l => .group a la h l :: flat l
def flat : List AT → List AT
  | [] => []
  | t :: l => t.flat1 ++ flat l
end
mutual
def AT.depth : AT → Nat
  | .layer .. => 0
  | .group _ _ _ l => depths l + 1
def depths : List AT → Nat
  | [] => 0
  | t :: l => max t.depth (depths l)
end
theorem nodes_map : ∀ (l : List AT), nodes l = l.map AT.node
  | [] => by unfold nodes; rfl
  | t :: l => by unfold nodes; rw [nodes_map l]; rfl
theorem nodes_append (l m : List AT) : nodes (l ++ m) = nodes l ++ nodes m := by
  rw [nodes_map, nodes_map, nodes_map, List.map_append]
theorem flat_append : ∀ (l m : List AT), flat (l ++ m) = flat l ++ flat m
  | [], m => by unfold flat; rfl
  | t :: l, m => by
    show flat (t :: (l ++ m)) = _
    conv => lhs; unfold flat
    conv => rhs; unfold flat
    rw [flat_append l m, List.append_assoc]
    cases m <;> simp [flat]
theorem flat_eq : ∀ (l : List AT), flat l = l.flatMap AT.flat1
  | [] => by unfold flat; rfl
  | t :: l => by
    unfold flat
    rw [flat_eq l]
    rfl
theorem flat1_eq (t : AT) : t.flat1 = t :: flat t.kids := by
  cases t with
  | layer => unfold AT.flat1 AT.kids flat; rfl
  | group => unfold AT.flat1 AT.kids; rfl
theorem mem_flat_self {t : AT} {l : List AT} (h : t ∈ l) : t ∈ flat l := by
  rw [flat_eq, List.mem_flatMap]
  exact ⟨t, h, by rw [flat1_eq]; exact List.mem_cons_self⟩
theorem mem_flat_kids {t u : AT} {l : List AT} (h : t ∈ l) (hu : u ∈ flat t.kids) : u ∈ flat l := by
  rw [flat_eq, List.mem_flatMap]
  exact ⟨t, h, by rw [flat1_eq]; exact List.mem_cons_of_mem _ hu⟩
mutual
theorem flat1_trans : ∀ (s : AT) {t u : AT}, t ∈ s.flat1 → u ∈ flat t.kids → u ∈ s.flat1
  | .layer .., t, u, h, hu => by
    unfold AT.flat1 at h ⊢
    have e := List.mem_singleton.mp h
    subst e
    unfold AT.kids flat at hu
    cases hu
  | .group a la hh l, t, u, h, hu => by
    unfold AT.flat1 at h ⊢
    rcases List.mem_cons.mp h with e | e
    · subst e
      exact List.mem_cons_of_mem _ hu
    · exact List.mem_cons_of_mem _ (flat_trans l e hu)
theorem flat_trans : ∀ (l : List AT) {t u : AT}, t ∈ flat l → u ∈ flat t.kids → u ∈ flat l
  | [], t, u, h, hu => by unfold flat at h; cases h
  | s :: l, t, u, h, hu => by
    unfold flat at h ⊢
    rcases List.mem_append.mp h with e | e
    · exact List.mem_append_left _ (flat1_trans s e hu)
    · exact List.mem_append_right _ (flat_trans l e hu)
end
theorem kid_flat {l : List AT} {t u : AT} (h : t ∈ flat l) (hu : u ∈ t.kids) : u ∈ flat l := flat_trans l h (mem_flat_self hu)
mutual
theorem ids1 : ∀ (t : AT), t.node.ids = t.flat1.map AT.id
  | .layer .. => by unfold AT.node Node.ids AT.flat1; rfl
  | .group a la h l => by
    unfold AT.node Node.ids AT.flat1
    rw [ids_all l]
    rfl
theorem ids_all : ∀ (l : List AT), Node.allIds (nodes l) = (flat l).map AT.id
  | [] => by unfold nodes Node.allIds flat; rfl
  | t :: l => by
    unfold nodes Node.allIds flat
    rw [ids1 t, ids_all l, List.map_append]
end
theorem node_how (t : AT) : t.node.how = t.how := by cases t <;> (unfold AT.node; rfl)
/-! ### what an object has, in its order -/
/-- the classes' places -/
structure Cs where
  L : Addr
  G : Addr
  P : Addr
def b2n (b : Bool) : Int := if b = true then 1 else 0
def thF (h : How) : List (Str × V) := [("number", .int h.id), ("seen", .int (b2n h.seen)), ("strong", .int h.strong), ("way", .int h.way), ("clipped", .int (b2n h.clip))]
def layF (h : How) (x y : Int) (w ht : Nat) (pa : Addr) : List (Str × V) := thF h ++ ([("x", .int x), ("y", .int y), ("width", .int w), ("height", .int ht), ("pixels", .ref pa)] : List (Str × V))
def grpF (h : How) (la : Addr) : List (Str × V) := thF h ++ ([("things", .ref la)] : List (Str × V))
def picF (w h : Nat) (la : Addr) (next : Nat) : List (Str × V) := [("width", .int w), ("height", .int h), ("things", .ref la), ("next_number", .int next)]
def flatP (px : List (Nat × Nat)) : List V := px.flatMap fun p => [.int p.1, .int p.2]
/-- a thing's own cells are as the thing says -/
def Own (C : Cs) (H : Hp) : AT → Prop
  | .layer a pa h x y w ht px => (∃ dx, H a = some (.ins C.L dx (layF h x y w ht pa))) ∧ H pa = some (.lst (flatP px))
  | .group a la h l => (∃ dx, H a = some (.ins C.G dx (grpF h la))) ∧ H la = some (.lst (refs l))
def Held (C : Cs) (H : Hp) (ts : List AT) : Prop := ∀ t ∈ flat ts, Own C H t
def Sep (ts : List AT) : Prop := ∀ t ∈ flat ts, ∀ u ∈ flat ts, t.id ≠ u.id → ∀ c ∈ t.cells, c ∉ u.cells
theorem Own.same {C : Cs} {H H' : Hp} {t : AT} (s : Same H H') (h : Own C H t) : Own C H' t := by
  cases t with
  | layer => exact ⟨h.1.elim fun dx e => ⟨dx, s _ _ e⟩, s _ _ h.2⟩
  | group => exact ⟨h.1.elim fun dx e => ⟨dx, s _ _ e⟩, s _ _ h.2⟩
theorem Held.same {C : Cs} {H H' : Hp} {ts : List AT} (s : Same H H') (h : Held C H ts) : Held C H' ts := fun t ht => (h t ht).same s
/-- what is kept off the cells F -/
def Fr (F : List Addr) (H H' : Hp) : Prop := ∀ b o, H b = some o → b ∉ F → H' b = some o
theorem Own.fr {C : Cs} {H H' : Hp} {t : AT} {F : List Addr} (s : Fr F H H') (h : Own C H t) (d : ∀ c ∈ t.cells, c ∉ F) : Own C H' t := by
  cases t with
  | layer a pa =>
    exact ⟨h.1.elim fun dx e => ⟨dx, s _ _ e (d a (by unfold AT.cells; exact List.mem_cons_self))⟩, s _ _ h.2 (d pa (by unfold AT.cells; exact List.mem_cons_of_mem _ List.mem_cons_self))⟩
  | group a la =>
    exact ⟨h.1.elim fun dx e => ⟨dx, s _ _ e (d a (by unfold AT.cells; exact List.mem_cons_self))⟩, s _ _ h.2 (d la (by unfold AT.cells; exact List.mem_cons_of_mem _ List.mem_cons_self))⟩
theorem Own.some_of {C : Cs} {H : Hp} {t : AT} (h : Own C H t) : ∀ c ∈ t.cells, ∃ o, H c = some o := by
  intro c hc
  cases t with
  | layer a pa =>
    unfold AT.cells at hc
    rcases List.mem_cons.mp hc with e | e
    · subst e; exact h.1.elim fun dx e => ⟨_, e⟩
    · have := List.mem_singleton.mp e; subst this; exact ⟨_, h.2⟩
  | group a la =>
    unfold AT.cells at hc
    rcases List.mem_cons.mp hc with e | e
    · subst e; exact h.1.elim fun dx e => ⟨_, e⟩
    · have := List.mem_singleton.mp e; subst this; exact ⟨_, h.2⟩
theorem Same.fr {H H' : Hp} (s : Same H H') (F : List Addr) : Fr F H H' := fun b o e _ => s b o e
theorem Fr.trans {F : List Addr} {H H1 H2 : Hp} (a : Fr F H H1) (b : Fr F H1 H2) : Fr F H H2 := fun c o e n => b c o (a c o e n) n
theorem Fr.mono {F G : List Addr} {H H1 : Hp} (a : Fr F H H1) (h : ∀ c ∈ F, c ∈ G) : Fr G H H1 := fun c o e n => a c o e fun q => n (h c q)
theorem Fr.upd {F : List Addr} {H : Hp} {a : Addr} {o : HO} (h : a ∈ F) : Fr F H (upd H a o) := fun b u e n => by
  rw [upd_ne (fun q => n (by rw [q]; exact h))]; exact e
theorem same_new {H : Hp} {p : Addr} (h : H p = none) (o : HO) : Same H (upd H p o) := fun b u q => by rw [upd_ne (ne_of_none q h)]; exact q
/-! ### fields -/
theorem lk_here {k : Str} {v : V} {r : List (Str × V)} : List.lookup k ((k, v) :: r) = some v := by
  have e : (k == k) = true := beq_self_eq_true k
  simp only [List.lookup, e]
theorem lk_past {k g : Str} {v : V} {r : List (Str × V)} (h : (k == g) = false) : List.lookup k ((g, v) :: r) = List.lookup k r := by
  simp only [List.lookup, h]
theorem put_here {f : Str} {v x : V} {r : List (Str × V)} : putF f v ((f, x) :: r) = (f, v) :: r := if_pos rfl
theorem put_past {f g : Str} {v x : V} {r : List (Str × V)} (h : ¬ g = f) : putF f v ((g, x) :: r) = (g, x) :: putF f v r := if_neg h
section
variable (h : How) (x y : Int) (w ht : Nat) (pa la : Addr) (next : Nat)
theorem th_number (r : List (Str × V)) : (thF h ++ r).lookup ("number" : Str) = some (.int h.id) := lk_here
theorem th_way (r : List (Str × V)) : (thF h ++ r).lookup ("way" : Str) = some (.int h.way) := by
  unfold thF
  repeat (first | exact lk_here | refine (lk_past (by decide +kernel)).trans ?_)
theorem layF_x : (layF h x y w ht pa).lookup ("x" : Str) = some (.int x) := by
  unfold layF thF
  repeat (first | exact lk_here | refine (lk_past (by decide +kernel)).trans ?_)
end
end Lay
set_option Elab.async false
set_option linter.all false
set_option maxRecDepth 100000
set_option maxHeartbeats 2000000
namespace Lay
open PySem PySem.Spec PyProof.Rows L2
/-! ### the defs as they stand behind the top -/
/-- a def of the module -/
structure Raw (K : PySem.W.Frag) (mg : Str → Option Value) (x : Str) (st : Stmt) (ps : List Str) : Prop where
  ex : ∃ (f : Addr) (fd : FuncData), C8.Def K mg x st f fd ∧ Binds K fd ps []
/-- a method of the class at C -/
structure RawM (K : PySem.W.Frag) (C : Addr) (m qual : Str) (st : Stmt) (ps : List Str) : Prop where
  ex : ∃ (f : Addr) (fd : FuncData), Meth K C m f ∧ C8.Fun K m qual st f fd ∧ Binds K fd ps []
/-- a class that is made by its name -/
structure RawI (K : PySem.W.Frag) (mg : Str → Option Value) (x : Str) (C : Addr) (qual : Str) (st : Stmt) (ps : List Str) : Prop where
  ex : ∃ (f : Addr) (fd : FuncData), Mk K C f ∧ mg x = some (.ref C) ∧ C8.Fun K "__init__" qual st f fd ∧ Binds K fd ps []
section
variable {P : Program} {w : World} {K : PySem.W.Frag} {mg : Str → Option Value} {base : Heap} {x qual m : Str} {st : Stmt} {N ps : List Str} {k : Nat} {sp : Sp} {C : Addr}
theorem Raw.cal (R : Raw K mg x st ps) (S : FnScope N ps (C8.fnScope st)) (len : ∀ vs H Q E, sp vs H Q E → vs.length = ps.length)
    (hbody : ∀ (f : Addr) (cdv : Value) (A : Around) (outer : List Env) (s : Shared) (H : Hp) (vs : List V) (Q : VK) (E : XK), Room k (A.deeper (envOfC x (C8.fnScope st) s.heap.objs.size f cdv)) → sp vs H Q E →
      ∃ t, PSs (cxOf CX0 P w K mg base N x (C8.fnScope st) f cdv A outer s H E).nox (C8.fnBody st) t ∧ t { nx := fun _ H' => Q .non H', rt := Q } (start N vs) H) : C8.Cal P w K mg base (k + 1) x sp [] := by
  obtain ⟨f, fd, D, b⟩ := R.ex
  exact C8.cal0 D b .nil S len (hbody f)
theorem Raw.cal_none (R : Raw K mg x st ps) (no : ∀ vs H Q E, ¬ sp vs H Q E) : C8.Cal P w K mg base 0 x sp [] := by
  obtain ⟨f, fd, D, b⟩ := R.ex
  exact ⟨f, fd, ps, [], ⟨fun vs H Q E h => absurd h (no vs H Q E), fun A outer s H args us vs Q E _ _ _ _ h => absurd h (no vs H Q E)⟩, D.mgf, D.kp, b, .nil⟩
theorem RawM.met (R : RawM K C m qual st ps) (c : Cls K C) (S : FnScope N ps (C8.fnScope st)) (len : ∀ vs H Q E, sp vs H Q E → vs.length = ps.length)
    (hbody : ∀ (f : Addr) (cdv : Value) (A : Around) (outer : List Env) (s : Shared) (H : Hp) (vs : List V) (Q : VK) (E : XK), Room k (A.deeper (envOfC qual (C8.fnScope st) s.heap.objs.size f cdv)) → sp vs H Q E →
      ∃ t, PSs (cxOf CX0 P w K mg base N qual (C8.fnScope st) f cdv A outer s H E).nox (C8.fnBody st) t ∧ t { nx := fun _ H' => Q .non H', rt := Q } (start N vs) H) : C8.Met P w K mg base (k + 1) C m sp [] := by
  obtain ⟨f, fd, me, F, b⟩ := R.ex
  exact C8.met0 c me F b S len (hbody f)
theorem RawI.mak (R : RawI K mg x C qual st ps) (S : FnScope N ps (C8.fnScope st)) (len : ∀ vs H Q E, sp vs H Q E → vs.length = ps.length)
    (hbody : ∀ (f : Addr) (cdv : Value) (A : Around) (outer : List Env) (s : Shared) (H : Hp) (vs : List V) (Q : VK) (E : XK), Room k (A.deeper (envOfC qual (C8.fnScope st) s.heap.objs.size f cdv)) → sp vs H Q E →
      ∃ t, PSs (cxOf CX0 P w K mg base N qual (C8.fnScope st) f cdv A outer s H E).nox (C8.fnBody st) t ∧ t { nx := fun _ H' => Q .non H', rt := Q } (start N vs) H) : C8.Mak P w K mg base (k + 1) x C sp [] := by
  obtain ⟨f, fd, M, hm, F, b⟩ := R.ex
  exact C8.mak0 M hm F b .nil S len (hbody f)
end
/-- a module's name that holds a class, a def, a number -/
theorem pe_ref {X : Cx} {x : Str} {a : Addr} {pos : Pos} (hg : Gl X x) (h : X.mg x = some (.ref a)) (hd : (x == ("__debug__" : Str)) = false := by decide) : PE X (.Name x pos) (tC (.ref a)) := pe_glob (v := .ref a) hg h rfl hd
/-- the module's name x holds the number n -/
def NumG (mg : Str → Option Value) (x : Str) (n : Int) : Prop := ∃ t, mg x = some (.int n t)
theorem pe_num {X : Cx} {x : Str} {n : Int} {pos : Pos} (hg : Gl X x) (h : NumG X.mg x n) (hd : (x == ("__debug__" : Str)) = false := by decide) : PE X (.Name x pos) (tC (.int n)) := by
  obtain ⟨t, e⟩ := h
  exact pe_glob (v := .int n) hg e ⟨t, rfl⟩ hd
theorem boot_isi : bootBuiltins "isinstance" = some (.builtin "isinstance") := by decide +kernel
theorem iteB {b : Bool} {A B : Prop} (h1 : b = true → A) (h2 : b = false → B) : if b = true then A else B := by
  cases b with
  | true => exact iteT (h1 rfl)
  | false => exact iteF (h2 rfl)
/-! ### a class's def called through the class: C.m(self, ..) -/
/-- C.m is the def at g -/
structure CFn (K : PySem.W.Frag) (C : Addr) (m : Str) (g : Addr) : Prop where
  rd : ClX.CRead K C (.type "type")
  at_ : PySem.W.findCls K (.ref C) (.type "type") m = some (.val (.ref g))
structure ClsFn (P : Program) (w : World) (K : PySem.W.Frag) (mg : Str → Option Value) (base : Heap) (k : Nat) (x : Str) (m : Str) (sp : Sp) : Prop where
  ex : ∃ (C g : Addr) (fd : FuncData) (ps : List Str), mg x = some (.ref C) ∧ CFn K C m g ∧ FnOk P w K mg base CX0 k g fd ps sp ∧ PySem.W.keepIn K (.ref g) = true ∧ Binds K fd ps []
theorem pe_clsfn {X : Cx} {k j : Nat} {x m : Str} {sp : Sp} {p pos apos : Pos} {e : Expr} {es : List Expr} {t : TA} {pl : Sem Bool} (c : ClsFn X.prog X.w X.K X.mg X.base k x m sp) (hr : Room j X.A) (hk : k ≤ j) (hg : Gl X x) (ha : PA X (e :: es) t)
    (hdb : (x == ("__debug__" : Str)) = false := by decide)
    (hst : starEach (e :: es) X.env = (false, eval e X.env) :: starEach es X.env := by rfl) (hpl : (backTo pos (starEach es X.env)).any (·.1) = false := by rfl)
    (ht : eval (.Call (.Attribute (.Name x p) m apos) (e :: es) [] pos) X.env = (do
      let ov ← eval (.Name x p) X.env
      standAt apos.atName
      let (f, first) ← holding [ov] (getMethod ov m pl)
      callWith pos f first (backTo pos (starEach (e :: es) X.env)) (backToKw pos (keywordEach [] X.env))) := by rfl) :
    PE X (.Call (.Attribute (.Name x p) m apos) (e :: es) [] pos) (tCall sp [] E0 t) := by
  obtain ⟨C, g, fd, ps, hm, cf, F, kp, b⟩ := c.ex
  refine ⟨fun pins s σ H Q I h => ?_⟩
  refine PySem.W.methodCall_KW (pl := pl) (ld_glob I hg hm ?_ hdb) ht
  refine PySem.W.method_cls I.kIn cf.rd.ga (PySem.W.cls_value I.kIn cf.rd.rd cf.at_ rfl ?_)
  refine PySem.W.callWith_K (first := []) (h₀ := X.base) I.ok.mod.kin kp (thn (ha.run pos pins _ σ H _ (I.tok _) h) fun us s2 ⟨vs, H2, I2, r, q2⟩ => ⟨I2.kIn, ?_⟩) hst hpl
  exact run_fn (us := us) F (hr.mono hk) b .nil pass0 I2 r q2
end Lay
set_option Elab.async false
set_option linter.all false
set_option maxRecDepth 100000
set_option maxHeartbeats 2000000
namespace Lay
open PySem PySem.Spec PyProof.Rows L2
open Sq49 (Node How House)
def topS (i : Nat) : Stmt := PySem.Challenge.pw_layersover_s01_answers.main.body.getD i (.Pass ⟨0, 0, 0, 0⟩)
abbrev sAll : Stmt := topS 10
abbrev sFind : Stmt := topS 11
abbrev sPlace : Stmt := topS 12
def layNames : List Str := ["number", "seen", "strong", "way", "clipped", "x", "y", "width", "height", "pixels"]
def grpNames : List Str := ["number", "seen", "strong", "way", "clipped", "things"]
def picNames : List Str := ["width", "height", "things", "next_number"]
structure Tx (K : PySem.W.Frag) (mg : Str → Option Value) (C : Cs) : Prop where
  iL : C8.InsC K C.L
  iG : C8.InsC K C.G
  cP : Cls K C.P
  kLG : PySem.W.kitOne K (.ref C.L) (.ref C.G) = some false
  kGL : PySem.W.kitOne K (.ref C.G) (.ref C.L) = some false
  gL : mg "Layer" = some (.ref C.L)
  gG : mg "Group" = some (.ref C.G)
  nL : ∀ f ∈ layNames, NoAttr K C.L f
  nG : ∀ f ∈ grpNames, NoAttr K C.G f
  nP : ∀ f ∈ picNames, NoAttr K C.P f
  zlen : mg "len" = none
  zisi : mg "isinstance" = none
  zenum : mg "enumerate" = none
theorem Tx.nGt {K : PySem.W.Frag} {mg : Str → Option Value} {C : Cs} (T : Tx K mg C) : NoAttr K C.G "things" := T.nG _ (by decide +kernel)
theorem Tx.nPt {K : PySem.W.Frag} {mg : Str → Option Value} {C : Cs} (T : Tx K mg C) : NoAttr K C.P "things" := T.nP _ (by decide +kernel)
theorem Tx.nGn {K : PySem.W.Frag} {mg : Str → Option Value} {C : Cs} (T : Tx K mg C) : NoAttr K C.G "number" := T.nG _ (by decide +kernel)
theorem Tx.nLn {K : PySem.W.Frag} {mg : Str → Option Value} {C : Cs} (T : Tx K mg C) : NoAttr K C.L "number" := T.nL _ (by decide +kernel)
def AT.isG : AT → Bool
  | .layer .. => false
  | .group .. => true
/-- a list of things in a picture or a group -/
def HolderAt (K : PySem.W.Frag) (H : Hp) (a la : Addr) (ts : List AT) : Prop := ∃ D dx fs, H a = some (.ins D dx fs) ∧ Cls K D ∧ NoAttr K D "things" ∧ fs.lookup ("things" : Str) = some (.ref la) ∧ H la = some (.lst (refs ts))
theorem HolderAt.same {K : PySem.W.Frag} {H H' : Hp} {a la : Addr} {ts : List AT} (s : Same H H') (h : HolderAt K H a la ts) : HolderAt K H' a la ts := by
  obtain ⟨D, dx, fs, h1, h2, h3, h4, h5⟩ := h
  exact ⟨D, dx, fs, s _ _ h1, h2, h3, h4, s _ _ h5⟩
theorem grpF_things (h : How) (la : Addr) : (grpF h la).lookup ("things" : Str) = some (.ref la) := by
  unfold grpF thF
  repeat (first | exact lk_here | refine (lk_past (by decide +kernel)).trans ?_)
theorem take_snoc {α : Type} : ∀ {l : List α} {i : Nat} {x : α}, l[i]? = some x → l.take (i + 1) = l.take i ++ [x]
  | [], i, x, h => by simp at h
  | a :: l, 0, x, h => by
    have e : a = x := Option.some.inj h
    subst e
    rfl
  | a :: l, i + 1, x, h => by
    have ih := take_snoc (l := l) (i := i) (x := x) h
    show a :: l.take (i + 1) = a :: l.take i ++ [x]
    rw [ih]
    rfl
theorem refs_get {ts : List AT} {i : Nat} {y : V} (h : (refs ts)[i]? = some y) : ∃ t, ts[i]? = some t ∧ y = .ref t.addr := by
  unfold refs at h
  rw [List.getElem?_map] at h
  cases e : ts[i]? with
  | none => rw [e] at h; cases h
  | some t => rw [e] at h; exact ⟨t, rfl, (Option.some.inj h).symm⟩
theorem refs_append (a b : List AT) : refs (a ++ b) = refs a ++ refs b := List.map_append
theorem refs_length (a : List AT) : (refs a).length = a.length := List.length_map _
theorem flat_take_snoc {ts : List AT} {i : Nat} {t : AT} (h : ts[i]? = some t) : flat (ts.take (i + 1)) = flat (ts.take i) ++ (t :: flat t.kids) := by
  rw [take_snoc h, flat_append]
  congr 1
  rw [flat_eq]
  show t.flat1 ++ [] = _
  rw [List.append_nil, flat1_eq]
theorem flat_take_le {ts : List AT} (i : Nat) : (flat (ts.take i)).length ≤ (flat ts).length := by
  have e : ts = ts.take i ++ ts.drop i := (List.take_append_drop i ts).symm
  conv => rhs; rw [e, flat_append, List.length_append]
  omega
mutual
theorem depth_mem : ∀ {l : List AT} {t : AT}, t ∈ l → t.depth ≤ depths l
  | [], t, h => by cases h
  | s :: l, t, h => by
    unfold depths
    rcases List.mem_cons.mp h with e | e
    · subst e; omega
    · have := depth_mem e; omega
end
theorem kids_depth {t : AT} : depths t.kids ≤ t.depth := by
  cases t with
  | layer => unfold AT.kids depths; omega
  | group a la h l => show depths l ≤ AT.depth (.group a la h l); unfold AT.depth; omega
def spAll (K : PySem.W.Frag) (C : Cs) (n : Nat) : Sp := fun vs H Q _ => ∃ (a la : Addr) (ts : List AT), vs = [.ref a] ∧ HolderAt K H a la ts ∧ Held C H ts ∧ depths ts + 1 ≤ n ∧ (flat ts).length ≤ 100 ∧
  ∀ (H' : Hp) (r : Addr), Same H H' → H r = none → H' r = some (.lst (refs (flat ts))) → Q (.ref r) H'
section
variable {P : Program} {w : World} {K : PySem.W.Frag} {mg : Str → Option Value} {base : Heap} {C : Cs}
theorem own_isG {H : Hp} {u : AT} (T : Tx K mg C) (o : Own C H u) : ∃ t, TyX K H (.ref u.addr) t ∧ PySem.W.kitOne K t (.ref C.G) = some u.isG := by
  cases u with
  | layer => obtain ⟨⟨dx, e⟩, _⟩ := o; exact ⟨_, .base (.ins e T.iL.cl T.iL.ha T.iL.hn T.iL.htk T.iL.hm), T.kLG⟩
  | group => obtain ⟨⟨dx, e⟩, _⟩ := o; exact ⟨_, .base (.ins e T.iG.cl T.iG.ha T.iG.hn T.iG.htk T.iG.hm), T.iG.me⟩
theorem own_isL {H : Hp} {u : AT} (T : Tx K mg C) (o : Own C H u) : ∃ t, TyX K H (.ref u.addr) t ∧ PySem.W.kitOne K t (.ref C.L) = some (!u.isG) := by
  cases u with
  | layer => obtain ⟨⟨dx, e⟩, _⟩ := o; exact ⟨_, .base (.ins e T.iL.cl T.iL.ha T.iL.hn T.iL.htk T.iL.hm), T.iL.me⟩
  | group => obtain ⟨⟨dx, e⟩, _⟩ := o; exact ⟨_, .base (.ins e T.iG.cl T.iG.ha T.iG.hn T.iG.htk T.iG.hm), T.kGL⟩
theorem own_holder {H : Hp} {a la : Addr} {h : How} {l : List AT} (T : Tx K mg C) (o : Own C H (.group a la h l)) : HolderAt K H a la l := by
  obtain ⟨⟨dx, e⟩, el⟩ := o
  exact ⟨C.G, dx, _, e, T.iG.cl, T.nGt, grpF_things _ _, el⟩
theorem scAll : FnScope ["holder", "found", "thing"] ["holder"] (C8.fnScope sAll) := C8.fnScope_by (by decide +kernel)
theorem all_turn {n : Nat} (R : Raw K mg "all_things" sAll ["holder"]) (T : Tx K mg C) (ih : C8.Cal P w K mg base n "all_things" (spAll K C n) []) : C8.Cal P w K mg base (n + 1) "all_things" (spAll K C (n + 1)) [] := by
  refine R.cal scAll (fun vs H Q E h => ?_) (fun f cdv A outer s H vs Q E hr h => ?_)
  · obtain ⟨a, la, ts, rfl, _⟩ := h
    rfl
  · obtain ⟨a, la, ts, rfl, hH, hT, hd, hsz, k⟩ := h
    refine ⟨_, pss_cons (ps_set (i := 1) scAll.nd rfl (Or.inl rfl) (pe_lst pa_nil))
      (pss_cons (ps_for PassesOwn.never rfl (pi_list (pe_fld (pv 0) rfl)) (pg_name (i := 2) scAll.nd rfl (Or.inl rfl))
        (pss_cons (ps_expr (pe_bm PySem.F.plainAttrs_list PySem.F.slot_list_append PySem.F.type_list_append mt_append (pv 1) (pa_cons (pv 2) pa_nil)))
        (pss_one (ps_if (pt_val (pe_callB call_isi (by rfl) T.zisi (by decide +kernel) (pa_cons (pv 2) (pa_cons (pe_ref (by rfl) T.gG) pa_nil))))
          (pss_one (ps_expr (pe_bm PySem.F.plainAttrs_list PySem.F.slot_list_extend PySem.F.type_list_extend mt_extend (pv 1) (pa_cons (C8.pe_c ih hr (Nat.le_refl _) (by rfl) (pa_cons (pv 2) pa_nil)) pa_nil)))) pss_nil))))
      (pss_one (ps_ret (pv 1)))), ?_⟩
    refine ⟨Nat.zero_le _, fun q hq => ?_⟩
    have s1 : Same H (upd H q (.lst [])) := same_new hq _
    obtain ⟨D, dx, fs, e1, e2, e3, e4, e5⟩ := hH.same s1
    refine ⟨_, rfl, a, D, dx, fs, _, rfl, e1, e2, e3, e4, la, rfl, ⟨_, SqL.of e5⟩, for_list (K := K) (a := la) (xs := refs ts) (fun i σ H' => ∃ v : Option V, σ = [some (.ref a), some (.ref q), v] ∧ Same H H' ∧ H' q = some (.lst (refs (flat (ts.take i)))))
      ⟨none, rfl, s1, by rw [List.take_zero]; unfold flat; exact upd_same⟩ (fun i σ H' _ ⟨_, _, s5, _⟩ => SqL.of (hH.same s5).choose_spec.choose_spec.choose_spec.2.2.2.2) ?_ ?_⟩
    · rintro i y σ H' hi ⟨v, rfl, s5, hq'⟩
      obtain ⟨t, ht, rfl⟩ := refs_get hi
      have tm : t ∈ ts := List.mem_of_getElem? ht
      have hle := flat_take_le (ts := ts) i
      have hle2 := flat_take_le (ts := ts) (i + 1)
      have hsn := flat_take_snoc ht
      have hlen := congrArg List.length hsn
      rw [List.length_append, List.length_cons] at hlen
      refine ⟨_, rfl, .inl ⟨rfl, _, SqL.of hq'⟩, _, rfl, q, _, _, rfl, rfl, hq', (by rw [refs_length]; exact small1000 (by omega)), ?_⟩
      have s6 : Same H (upd H' q (.lst (refs (flat (ts.take i)) ++ [.ref t.addr]))) := fun b o e => by
        rw [upd_ne (ne_of_none e hq)]; exact s5 b o e
      have ot : Own C (upd H' q (.lst (refs (flat (ts.take i)) ++ [.ref t.addr]))) t := (hT t (mem_flat_self tm)).same s6
      obtain ⟨ty, h1, h2⟩ := own_isG T ot
      refine ⟨_, rfl, _, _, ty, _, _, rfl, .own C.G, h1, h2, _, rfl, ?_⟩
      cases t with
      | layer ta pa th x y w ht' px =>
        refine iteF ?_
        refine ⟨_, rfl, s6, ?_⟩
        rw [upd_same, hsn]
        rw [refs_append]
        rfl
      | group ta tla th tl =>
        refine iteT ?_
        refine ⟨_, rfl, .inl ⟨rfl, _, SqL.of upd_same⟩, _, rfl, ta, tla, tl, rfl, own_holder T ot, fun u hu => (hT u (mem_flat_kids tm hu)).same s6, ?_, ?_, fun H7 r s7 hr' er => ?_⟩
        · have := depth_mem tm
          unfold AT.depth at this
          omega
        · rw [show (AT.group ta tla th tl).kids = tl from rfl] at hlen; omega
        · rw [show (AT.group ta tla th tl).kids = tl from rfl] at hlen
          refine ⟨q, r, _, _, rfl, rfl, s7 _ _ upd_same, er, ?_, ?_⟩
          · rw [List.length_append, refs_length, refs_length]
            exact Nat.le_of_lt (small1000 (by show _ + 1 + _ ≤ 1000; omega))
          · refine ⟨_, rfl, fun b o e => ?_, ?_⟩
            · rw [upd_ne (ne_of_none e hq)]; exact s7 _ _ (s6 b o e)
            · rw [upd_same, hsn, refs_append]
              show some (HO.lst ((refs (flat (ts.take i)) ++ [V.ref ta]) ++ refs (flat tl))) = some (HO.lst (refs (flat (ts.take i)) ++ (V.ref ta :: refs (flat tl))))
              rw [List.append_assoc]
              rfl
    · rintro σ H' ⟨v, rfl, s5, hq'⟩
      rw [refs_length, List.take_length] at hq'
      exact ⟨_, rfl, k H' q s5 hq hq'⟩
end
end Lay
set_option Elab.async false
set_option linter.all false
set_option maxRecDepth 100000
set_option maxHeartbeats 2000000
namespace Lay
open PySem PySem.Spec PyProof.Rows L2
open Sq49 (Node How House)
/-! ### a search along a list -/
def foundV (o : Option AT) : V := match o with
  | none => .non
  | some t => .ref t.addr
def placeV (o : Option Nat) : V := match o with
  | none => .non
  | some n => .int n
theorem layF_number (h : How) (x y : Int) (w ht : Nat) (pa : Addr) : (layF h x y w ht pa).lookup ("number" : Str) = some (.int h.id) := by
  unfold layF; exact th_number h _
theorem grpF_number (h : How) (la : Addr) : (grpF h la).lookup ("number" : Str) = some (.int h.id) := by
  unfold grpF; exact th_number h _
section
variable {P : Program} {w : World} {K : PySem.W.Frag} {mg : Str → Option Value} {base : Heap} {C : Cs}
/-- what is asked to read a thing's number -/
theorem own_number {H : Hp} {u : AT} (T : Tx K mg C) (o : Own C H u) : ∃ D dx fs, H u.addr = some (.ins D dx fs) ∧ Cls K D ∧ NoAttr K D "number" ∧ fs.lookup ("number" : Str) = some (.int u.id) := by
  cases u with
  | layer => obtain ⟨⟨dx, e⟩, _⟩ := o; exact ⟨_, dx, _, e, T.iL.cl, T.nLn, layF_number ..⟩
  | group => obtain ⟨⟨dx, e⟩, _⟩ := o; exact ⟨_, dx, _, e, T.iG.cl, T.nGn, grpF_number ..⟩
theorem all_ok (R : Raw K mg "all_things" sAll ["holder"]) (T : Tx K mg C) : ∀ n, C8.Cal P w K mg base n "all_things" (spAll K C n) []
  | 0 => R.cal_none fun vs H Q E h => by obtain ⟨a, la, ts, _, _, _, hd, _⟩ := h; omega
  | n + 1 => all_turn R T (all_ok R T n)
/-- how deep things are, at most -/
abbrev DEEP : Nat := 12
theorem int_eq_nat (a b : Nat) : decide (V.int (a : Int) = V.int (b : Int)) = (a == b) := by
  by_cases e : a = b
  · subst e; simp
  · have : ¬ V.int (a : Int) = V.int (b : Int) := fun q => e (by injection q with q; exact Int.ofNat.inj q)
    rw [decide_eq_false this]
    exact (beq_eq_false_iff_ne.mpr e).symm
def spFind (K : PySem.W.Frag) (C : Cs) : Sp := fun vs H Q _ => ∃ (a la : Addr) (ts : List AT) (i : Nat), vs = [.ref a, .int i] ∧ HolderAt K H a la ts ∧ Held C H ts ∧ depths ts + 1 ≤ DEEP ∧ (flat ts).length ≤ 100 ∧
  ∀ (H' : Hp), Same H H' → Q (foundV ((flat ts).find? fun t => t.id == i)) H'
theorem scFind : FnScope ["picture", "number", "thing"] ["picture", "number"] (C8.fnScope sFind) := C8.fnScope_by (by decide +kernel)
theorem find_take {ts : List AT} {i : Nat} {n : Nat} {t : AT} (h : ts[n]? = some t) (hn : ∀ u ∈ ts.take n, (u.id == i) = false) (e : (t.id == i) = true) : ts.find? (fun t => t.id == i) = some t := by
  have e1 : ts = ts.take n ++ (t :: ts.drop (n + 1)) := by
    obtain ⟨hl, ht⟩ := List.getElem?_eq_some_iff.mp h
    rw [← ht, ← List.drop_eq_getElem_cons hl, List.take_append_drop]
  rw [e1, List.find?_append, List.find?_eq_none.mpr (fun u hu => by rw [hn u hu]; exact Bool.false_ne_true)]
  rw [Option.none_or, List.find?_cons_of_pos (by exact e)]
theorem find_ok (R : Raw K mg "find_thing" sFind ["picture", "number"]) (T : Tx K mg C) (cA : C8.Cal P w K mg base DEEP "all_things" (spAll K C DEEP) []) : C8.Cal P w K mg base (DEEP + 1) "find_thing" (spFind K C) [] := by
  refine R.cal scFind (fun vs H Q E h => ?_) (fun f cdv A outer s H vs Q E hr h => ?_)
  · obtain ⟨a, la, ts, i, rfl, _⟩ := h
    rfl
  · obtain ⟨a, la, ts, i, rfl, hH, hT, hd, hsz, k⟩ := h
    refine ⟨_, pss_cons (ps_for PassesOwn.never rfl (pi_list (C8.pe_c cA hr (Nat.le_refl _) (by rfl) (pa_cons (pv 0) pa_nil))) (pg_name (i := 2) scFind.nd rfl (Or.inl rfl))
        (pss_one (ps_if (pt_cmpR op_eq (pe_fld (pv 2) rfl) (pv 1) (nomark _)) (pss_one (ps_ret (pv 2))) pss_nil)))
      (pss_one (ps_ret pe_non)), ?_⟩
    refine ⟨_, rfl, a, la, ts, rfl, hH, hT, hd, hsz, fun H1 r s1 hr1 er => ?_⟩
    refine ⟨r, rfl, ⟨_, SqL.of er⟩, for_list (K := K) (a := r) (xs := refs (flat ts)) (fun n σ H' => ∃ v : Option V, σ = [some (.ref a), some (.int i), v] ∧ H' = H1 ∧ ∀ u ∈ (flat ts).take n, (u.id == i) = false)
      ⟨none, rfl, rfl, fun u hu => by rw [List.take_zero] at hu; cases hu⟩ (fun n σ H' _ ⟨_, _, e, _⟩ => by rw [e]; exact SqL.of er) ?_ ?_⟩
    · rintro n y σ H' hi ⟨v, rfl, rfl, hno⟩
      obtain ⟨t, ht, rfl⟩ := refs_get hi
      have tm : t ∈ flat ts := List.mem_of_getElem? ht
      obtain ⟨D, dx, fs, e1, e2, e3, e4⟩ := own_number T ((hT t tm).same s1)
      refine ⟨_, rfl, t.addr, D, dx, fs, _, rfl, e1, e2, e3, e4, _, rfl, rfl, _, rfl, ?_⟩
      rw [int_eq_nat]
      cases e : (t.id == i) with
      | true =>
        refine iteT ⟨_, rfl, ?_⟩
        have := k H' s1
        rw [find_take ht hno e] at this
        exact this
      | false =>
        refine iteF ⟨_, rfl, rfl, ?_⟩
        intro u hu
        rw [take_snoc ht] at hu
        rcases List.mem_append.mp hu with h1 | h1
        · exact hno u h1
        · rw [List.mem_singleton.mp h1]; exact e
    · rintro σ H' ⟨v, rfl, rfl, hno⟩
      rw [refs_length, List.take_length] at hno
      have := k H' s1
      rw [List.find?_eq_none.mpr (fun u hu => by rw [hno u hu]; exact Bool.false_ne_true)] at this
      exact this
def spPlace (K : PySem.W.Frag) (C : Cs) : Sp := fun vs H Q _ => ∃ (a la : Addr) (ts : List AT) (i : Nat), vs = [.ref a, .int i] ∧ HolderAt K H a la ts ∧ (∀ t ∈ ts, Own C H t) ∧
  ∀ (H' : Hp), Same H H' → Q (placeV (ts.findIdx? fun t => t.id == i)) H'
theorem scPlace : FnScope ["holder", "number", "place", "thing"] ["holder", "number"] (C8.fnScope sPlace) := C8.fnScope_by (by decide +kernel)
theorem idx_take {ts : List AT} {i : Nat} {n : Nat} {t : AT} (h : ts[n]? = some t) (hn : ∀ u ∈ ts.take n, (u.id == i) = false) (e : (t.id == i) = true) : ts.findIdx? (fun t => t.id == i) = some n := by
  obtain ⟨hl, ht⟩ := List.getElem?_eq_some_iff.mp h
  rw [List.findIdx?_eq_some_iff_getElem]
  refine ⟨hl, by rw [ht]; exact e, fun j hj => ?_⟩
  have : ts[j] ∈ ts.take n := by
    rw [List.mem_take_iff_getElem]
    exact ⟨j, by omega, rfl⟩
  rw [hn _ this]
  exact Bool.false_ne_true
theorem place_ok (R : Raw K mg "place_of" sPlace ["holder", "number"]) (T : Tx K mg C) : C8.Cal P w K mg base 1 "place_of" (spPlace K C) [] := by
  refine R.cal scPlace (fun vs H Q E h => ?_) (fun f cdv A outer s H vs Q E hr h => ?_)
  · obtain ⟨a, la, ts, i, rfl, _⟩ := h
    rfl
  · obtain ⟨a, la, ts, i, rfl, hH, hT, k⟩ := h
    refine ⟨_, pss_cons (ps_for PassesOwn.never rfl (pi_enum (by rfl) T.zenum (pa_cons (pe_fld (pv 0) rfl) pa_nil)) (pg_tup (by rfl) (pgs_cons (pg_name (i := 2) scPlace.nd rfl (Or.inl rfl)) (pgs_cons (pg_name (i := 3) scPlace.nd rfl (Or.inl rfl)) pgs_nil)))
        (pss_one (ps_if (pt_cmpR op_eq (pe_fld (pv 3) rfl) (pv 1) (nomark _)) (pss_one (ps_ret (pv 2))) pss_nil)))
      (pss_one (ps_ret pe_non)), ?_⟩
    obtain ⟨D, dx, fs, e1, e2, e3, e4, e5⟩ := hH
    refine ⟨_, rfl, a, D, dx, fs, _, rfl, e1, e2, e3, e4, la, _, rfl, SqL.of e5, for_it (walk_enum (K := K) (a := la) (xs := refs ts)) (fun n σ H' => ∃ v2 v3 : Option V, σ = [some (.ref a), some (.int i), v2, v3] ∧ Same H H' ∧ ∀ u ∈ ts.take n, (u.id == i) = false)
      ⟨none, none, rfl, Same.refl _, fun u hu => by rw [List.take_zero] at hu; cases hu⟩ (fun n σ H' _ ⟨_, _, _, s1, _⟩ => SqL.of (s1 _ _ e5)) ?_ ?_⟩
    · rintro n y σ H1 H' hn ⟨v2, v3, rfl, s1, hno⟩ ⟨Tp, x, z, rfl, hnew, rfl, hx, hz⟩
      cases hx
      obtain ⟨t, ht, rfl⟩ := refs_get hz
      have tm : t ∈ ts := List.mem_of_getElem? ht
      have s2 : Same H (upd H1 Tp (.tup [.int (n : Nat), .ref t.addr])) := s1.trans (same_new hnew _)
      obtain ⟨D', dx', fs', f1, f2, f3, f4⟩ := own_number T ((hT t tm).same s2)
      refine ⟨Tp, _, rfl, SqT.of upd_same, rfl, _, _, rfl, _, _, rfl, rfl, ?_⟩
      refine ⟨_, rfl, t.addr, D', dx', fs', _, rfl, f1, f2, f3, f4, _, rfl, rfl, _, rfl, ?_⟩
      rw [int_eq_nat]
      cases e : (t.id == i) with
      | true =>
        refine iteT ⟨_, rfl, ?_⟩
        have := k _ s2
        rw [idx_take ht hno e] at this
        exact this
      | false =>
        refine iteF ⟨_, _, rfl, s2, ?_⟩
        intro u hu
        rw [take_snoc ht] at hu
        rcases List.mem_append.mp hu with h1 | h1
        · exact hno u h1
        · rw [List.mem_singleton.mp h1]; exact e
    · rintro σ H' ⟨v2, v3, rfl, s1, hno⟩
      rw [refs_length, List.take_length] at hno
      have := k H' s1
      rw [List.findIdx?_eq_none_iff.mpr (fun u hu => hno u hu)] at this
      exact this
end
end Lay
set_option Elab.async false
set_option linter.all false
set_option maxRecDepth 100000
set_option maxHeartbeats 2000000
namespace Lay
open PySem PySem.Spec PyProof.Rows L2
open Sq49 (Node How House)
abbrev sHolder : Stmt := topS 13
/-- the lists of things, each with its owner -/
def holders (p : Addr) (ts : List AT) : List (Addr × List AT) := (p, ts) :: ((flat ts).filter AT.isG).map fun g => (g.addr, g.kids)
def hasId (i : Nat) (l : List AT) : Bool := l.any fun t => t.id == i
def holderV (o : Option (Addr × List AT)) : V := match o with
  | none => .non
  | some h => .ref h.1
theorem idx_any {i : Nat} {l : List AT} : (l.findIdx? (fun t => t.id == i)).isSome = hasId i l := by
  unfold hasId
  cases e : l.findIdx? (fun t => t.id == i) with
  | none =>
    have := List.findIdx?_eq_none_iff.mp e
    symm
    rw [Option.isSome_none, List.any_eq_false]
    intro t ht
    rw [this t ht]
    exact Bool.false_ne_true
  | some n =>
    obtain ⟨h1, h2, _⟩ := List.findIdx?_eq_some_iff_getElem.mp e
    symm
    rw [Option.isSome_some, List.any_eq_true]
    exact ⟨_, List.getElem_mem h1, h2⟩
theorem placeV_non (o : Option Nat) : decide (placeV o = V.non) = !o.isSome := by
  cases o with
  | none => rfl
  | some n => rfl
section
variable {P : Program} {w : World} {K : PySem.W.Frag} {mg : Str → Option Value} {base : Heap} {C : Cs}
def spHolder (K : PySem.W.Frag) (C : Cs) : Sp := fun vs H Q _ => ∃ (a la : Addr) (ts : List AT) (i : Nat), vs = [.ref a, .int i] ∧ HolderAt K H a la ts ∧ Held C H ts ∧ depths ts + 1 ≤ DEEP ∧ (flat ts).length ≤ 100 ∧
  ∀ (H' : Hp), Same H H' → Q (holderV ((holders a ts).find? fun h => hasId i h.2)) H'
theorem scHolder : FnScope ["picture", "number", "groups", "holder", "thing"] ["picture", "number"] (C8.fnScope sHolder) := C8.fnScope_by (by decide +kernel)
theorem holder_at {H : Hp} {a la : Addr} {ts : List AT} (T : Tx K mg C) (hH : HolderAt K H a la ts) (hT : Held C H ts) : ∀ h ∈ holders a ts, (∃ la', HolderAt K H h.1 la' h.2) ∧ ∀ t ∈ h.2, Own C H t := by
  intro h hh
  unfold holders at hh
  rcases List.mem_cons.mp hh with e | e
  · subst e
    exact ⟨⟨la, hH⟩, fun t ht => hT t (mem_flat_self ht)⟩
  · obtain ⟨g, hg, rfl⟩ := List.mem_map.mp e
    obtain ⟨hg1, hg2⟩ := List.mem_filter.mp hg
    cases g with
    | layer => cases hg2
    | group ga gla gh gl => exact ⟨⟨gla, own_holder T (hT _ hg1)⟩, fun t ht => hT t (kid_flat hg1 ht)⟩
theorem find_take' {α : Type} {l : List α} {p : α → Bool} {n : Nat} {t : α} (h : l[n]? = some t) (hn : ∀ u ∈ l.take n, p u = false) (e : p t = true) : l.find? p = some t := by
  have e1 : l = l.take n ++ (t :: l.drop (n + 1)) := by
    obtain ⟨hl, ht⟩ := List.getElem?_eq_some_iff.mp h
    rw [← ht, ← List.drop_eq_getElem_cons hl, List.take_append_drop]
  rw [e1, List.find?_append, List.find?_eq_none.mpr (fun u hu => by rw [hn u hu]; exact Bool.false_ne_true)]
  rw [Option.none_or, List.find?_cons_of_pos (by exact e)]
theorem holder_ok (R : Raw K mg "holder_of" sHolder ["picture", "number"]) (T : Tx K mg C) (cA : C8.Cal P w K mg base DEEP "all_things" (spAll K C DEEP) []) (cP : C8.Cal P w K mg base 1 "place_of" (spPlace K C) []) : C8.Cal P w K mg base (DEEP + 1) "holder_of" (spHolder K C) [] := by
  refine R.cal scHolder (fun vs H Q E h => ?_) (fun f cdv A outer s H vs Q E hr h => ?_)
  · obtain ⟨a, la, ts, i, rfl, _⟩ := h
    rfl
  · obtain ⟨a, la, ts, i, rfl, hH, hT, hd, hsz, k⟩ := h
    refine ⟨_, pss_cons (ps_setLc (i := 2) (own := [("thing", 4)]) (g := gName 4) (tt := tB (tCB (rIsi K) (tCons (tVar 4) (tCons (tC (.ref C.G)) tNil)))) (te := tVar 4) rfl scHolder.nd rfl rfl (sw_true rfl rfl rfl (by decide +kernel)) (pi_list (C8.pe_c cA hr (Nat.le_refl _) (by rfl) (pa_cons (pv 0) pa_nil)))
        (blkOk_by (own := [("thing", 4)]) (N := ["picture", "number", "groups", "holder", "thing"]) (sc := C8.fnScope sHolder) (by decide +kernel)) (fun _ _ _ _ _ => pg_name (i := 4) scHolder.nd rfl (Or.inl rfl))
        (fun _ _ _ _ _ => pts_one (pt_val (pe_callB call_isi (by rfl) T.zisi boot_isi (pa_cons (pv 4) (pa_cons (pe_ref (by rfl) T.gG) pa_nil))))) (fun _ _ _ _ _ => pv 4))
      (pss_cons (ps_for PassesOwn.never rfl (pi_list (pe_op op_cat (pe_lst (pa_cons (pv 0) pa_nil)) (pv 2))) (pg_name (i := 3) scHolder.nd rfl (Or.inl rfl))
        (pss_one (ps_if (pt_cmpR op_notN (C8.pe_c cP hr (by decide) (by rfl) (pa_cons (pv 3) (pa_cons (pv 1) pa_nil))) pe_non (nomark _)) (pss_one (ps_ret (pv 3))) pss_nil)))
      (pss_one (ps_ret pe_non))), ?_⟩
    refine ⟨_, rfl, a, la, ts, rfl, hH, hT, hd, hsz, fun H1 r s1 hr1 er => ?_⟩
    refine ⟨r, rfl, ⟨_, SqL.of er⟩, fun D hD => lc_list (K := K) (a := r) (xs := refs (flat ts)) (fun n H' => Same H1 H' ∧ H' D = some (.lst (refs (((flat ts).take n).filter AT.isG))))
      ⟨same_new hD _, by rw [List.take_zero]; exact upd_same⟩ (fun n H' _ h => SqL.of (h.1 _ _ er)) ?_ ?_⟩
    · rintro n y H' hi ⟨s2, hD'⟩
      obtain ⟨t, ht, rfl⟩ := refs_get hi
      have tm : t ∈ flat ts := List.mem_of_getElem? ht
      obtain ⟨ty, h1, h2⟩ := own_isG T (((hT t tm).same s1).same s2)
      refine ⟨rfl, _, rfl, _, _, ty, _, _, rfl, .own C.G, h1, h2, _, rfl, ?_⟩
      have hl : (((flat ts).take n).filter AT.isG).length ≤ 100 := by
        have a1 := List.length_filter_le AT.isG ((flat ts).take n)
        have a2 : ((flat ts).take n).length ≤ (flat ts).length := by rw [List.length_take]; omega
        omega
      have hs : ((flat ts).take (n + 1)).filter AT.isG = ((flat ts).take n).filter AT.isG ++ [t].filter AT.isG := by rw [take_snoc ht, List.filter_append]
      cases e : t.isG with
      | true =>
        refine iteT ⟨_, rfl, _, hD', (by rw [refs_length]; exact small1000 (by omega)), fun b o q => ?_, ?_⟩
        · rw [upd_ne (ne_of_none q hD)]; exact s2 b o q
        · rw [upd_same, hs, refs_append, List.filter_cons_of_pos (by rw [e])]
          rfl
      | false =>
        refine iteF ⟨s2, ?_⟩
        rw [hs, List.filter_cons_of_neg (by rw [e]; exact Bool.false_ne_true), List.filter_nil, List.append_nil]
        exact hD'
    · rintro H2 ⟨s2, hD2⟩
      rw [refs_length, List.take_length] at hD2
      have s12 : Same H H2 := s1.trans s2
      have hl : ((flat ts).filter AT.isG).length ≤ 100 := Nat.le_trans (List.length_filter_le _ _) hsz
      refine ⟨_, rfl, (by show 1 ≤ sizeLine; decide), fun q hq => ⟨_, rfl, q, D, _, _, rfl, rfl, upd_same, same_new hq _ _ _ hD2, ?_, fun z hz => ?_⟩⟩
      · rw [refs_length]; exact Nat.le_of_lt (small1000 (by show 1 + _ ≤ 1000; omega))
      · have s3 : Same H (upd (upd H2 q (.lst [.ref a])) z (.lst ([.ref a] ++ refs ((flat ts).filter AT.isG)))) := (s12.trans (same_new hq _)).trans (same_new hz _)
        generalize hH3 : upd (upd H2 q (.lst [.ref a])) z (.lst ([.ref a] ++ refs ((flat ts).filter AT.isG))) = H3 at s3
        have ez : H3 z = some (.lst ((holders a ts).map fun h => .ref h.1)) := by
          rw [← hH3, upd_same]
          unfold holders refs
          rw [List.map_cons, List.map_map]
          rfl
        have hh := holder_at T hH hT
        refine ⟨z, rfl, ⟨_, SqL.of ez⟩, for_list (K := K) (a := z) (xs := (holders a ts).map fun h => .ref h.1) (fun n σ H' => ∃ v3 : Option V, σ = [some (.ref a), some (.int i), some (.ref D), v3, none] ∧ Same H3 H' ∧ ∀ u ∈ (holders a ts).take n, hasId i u.2 = false)
          ⟨none, rfl, Same.refl _, fun u hu => by rw [List.take_zero] at hu; cases hu⟩ (fun n σ H' _ ⟨_, _, s4, _⟩ => SqL.of (s4 _ _ ez)) ?_ ?_⟩
        · rintro n y σ H' hi ⟨v3, rfl, s4, hno⟩
          rw [List.getElem?_map] at hi
          cases e : (holders a ts)[n]? with
          | none => rw [e] at hi; cases hi
          | some h =>
            rw [e] at hi
            cases hi
            obtain ⟨⟨la', x1⟩, x2⟩ := hh h (List.mem_of_getElem? e)
            have s5 : Same H H' := s3.trans s4
            refine ⟨_, rfl, _, rfl, h.1, la', h.2, i, rfl, x1.same s5, fun t ht => (x2 t ht).same s5, fun H6 s6 => ?_⟩
            refine ⟨rfl, _, rfl, ?_⟩
            rw [placeV_non, Bool.not_not, idx_any]
            cases e2 : hasId i h.2 with
            | true =>
              refine iteT ⟨_, rfl, ?_⟩
              have := k H6 (s5.trans s6)
              rw [find_take' e hno e2] at this
              exact this
            | false =>
              refine iteF ⟨_, rfl, s4.trans s6, fun u hu => ?_⟩
              rw [take_snoc e] at hu
              rcases List.mem_append.mp hu with h1 | h1
              · exact hno u h1
              · rw [List.mem_singleton.mp h1]; exact e2
        · rintro σ H' ⟨v3, rfl, s4, hno⟩
          rw [List.length_map, List.take_length] at hno
          have := k H' (s3.trans s4)
          rw [List.find?_eq_none.mpr (fun u hu => by rw [hno u hu]; exact Bool.false_ne_true)] at this
          exact this
end
end Lay
set_option Elab.async false
set_option linter.all false
set_option maxRecDepth 100000
set_option maxHeartbeats 2000000
namespace Lay
open PySem PySem.Spec PyProof.Rows L2
open Sq49 (Node How House)
abbrev sThingInit : Stmt := inClass (topS 6) 0
abbrev sLayerInit : Stmt := inClass (topS 7) 0
abbrev sGroupInit : Stmt := inClass (topS 8) 0
abbrev sPicInit : Stmt := inClass (topS 9) 0
abbrev sPicBegin : Stmt := inClass (topS 9) 1
abbrev sPicTake : Stmt := inClass (topS 9) 2
/-- how a thing is at first -/
def how0 (n : Nat) : How := ⟨n, true, 255, 0, false⟩
def thNames : List Str := ["number", "seen", "strong", "way", "clipped"]
theorem put_nil {f : Str} {v : V} : putF f v [] = [(f, v)] := rfl
theorem upd_eq {H : Hp} {a : Addr} {o u : HO} (e : o = u) : upd H a o = upd H a u := by rw [e]
theorem put_th (n : Nat) : putF "clipped" (.int 0) (putF "way" (.int 0) (putF "strong" (.int 255) (putF "seen" (.int 1) (putF "number" (.int n) [])))) = thF (how0 n) := by
  unfold thF how0
  rw [put_nil]
  repeat (first | rw [put_nil] | rw [put_past (by decide +kernel)])
  rfl
theorem put_lay (h : How) (x y : Int) (w ht : Nat) (pa : Addr) : putF "pixels" (.ref pa) (putF "height" (.int ht) (putF "width" (.int w) (putF "y" (.int y) (putF "x" (.int x) (thF h))))) = layF h x y w ht pa := by
  unfold thF layF thF
  repeat (first | rw [put_nil] | rw [put_past (by decide +kernel)])
  rfl
theorem put_grp (h : How) (la : Addr) : putF "things" (.ref la) (thF h) = grpF h la := by
  unfold thF grpF thF
  repeat (first | rw [put_nil] | rw [put_past (by decide +kernel)])
  rfl
section
variable {P : Program} {w : World} {K : PySem.W.Frag} {mg : Str → Option Value} {base : Heap} {C : Cs}
def spThing (K : PySem.W.Frag) : Sp := fun vs H Q _ => ∃ (a D dx : Addr) (n : Nat), vs = [.ref a, .int n] ∧ H a = some (.ins D dx []) ∧ Cls K D ∧ (∀ f ∈ thNames, NoAttr K D f) ∧ Q .non (upd H a (.ins D dx (thF (how0 n))))
theorem scThing : FnScope ["self", "number"] ["self", "number"] (C8.fnScope sThingInit) := C8.fnScope_by (by decide +kernel)
theorem thing_fn {f : Addr} {fd : FuncData} (lv : NumG mg "GREATEST_LEVEL" 255) (F : C8.Fun K "__init__" "Thing.__init__" sThingInit f fd) : FnOk P w K mg base CX0 1 f fd ["self", "number"] (spThing K) := by
  refine C8.fn0 F scThing (fun vs H Q E h => ?_) (fun cdv A outer s H vs Q E hr h => ?_)
  · obtain ⟨a, D, dx, n, rfl, _⟩ := h
    rfl
  · obtain ⟨a, D, dx, n, rfl, e, c, na, k⟩ := h
    refine ⟨_, pss_cons (ps_fld (pv 0) (pv 1) rfl) (pss_cons (ps_fld (pv 0) pe_int rfl) (pss_cons (ps_fld (pv 0) (pe_num (by rfl) lv) rfl) (pss_cons (ps_fld (pv 0) pe_int rfl) (pss_one (ps_fld (pv 0) pe_int rfl))))), ?_⟩
    refine ⟨_, rfl, _, rfl, a, D, dx, _, rfl, e, c, na _ (by decide +kernel), (by show 0 < 1000; decide), ?_⟩
    refine ⟨_, rfl, a, D, dx, _, rfl, upd_same, c, na _ (by decide +kernel), (by show 1 < 1000; decide), ?_⟩
    refine ⟨_, rfl, a, D, dx, _, rfl, upd_same, c, na _ (by decide +kernel), (by show 2 < 1000; decide), ?_⟩
    refine ⟨_, rfl, a, D, dx, _, rfl, upd_same, c, na _ (by decide +kernel), (by show 3 < 1000; decide), ?_⟩
    refine ⟨_, rfl, a, D, dx, _, rfl, upd_same, c, na _ (by decide +kernel), (by show 4 < 1000; decide), ?_⟩
    rw [upd_upd, upd_upd, upd_upd, upd_upd]
    rw [upd_eq (congrArg (fun q => HO.ins D dx q) (put_th n))]
    exact k
abbrev ThingFn (P : Program) (w : World) (K : PySem.W.Frag) (mg : Str → Option Value) (base : Heap) : Prop := ClsFn P w K mg base 1 "Thing" "__init__" (spThing K)
def spLayer (C : Cs) : Sp := fun vs H Q _ => ∃ (a dx pa : Addr) (n : Nat) (x y : Int) (wd ht : Nat), vs = [.ref a, .int n, .int x, .int y, .int wd, .int ht, .ref pa] ∧ H a = some (.ins C.L dx []) ∧ Q .non (upd H a (.ins C.L dx (layF (how0 n) x y wd ht pa)))
theorem scLayer : FnScope ["self", "number", "x", "y", "width", "height", "pixels"] ["self", "number", "x", "y", "width", "height", "pixels"] (C8.fnScope sLayerInit) := C8.fnScope_by (by decide +kernel)
theorem thL {f : Str} (h : f ∈ thNames) : f ∈ layNames := by
  unfold thNames at h
  unfold layNames
  simp only [List.mem_cons, List.not_mem_nil, or_false] at h ⊢
  rcases h with h | h | h | h | h <;> simp [h]
theorem thG {f : Str} (h : f ∈ thNames) : f ∈ grpNames := by
  unfold thNames at h
  unfold grpNames
  simp only [List.mem_cons, List.not_mem_nil, or_false] at h ⊢
  rcases h with h | h | h | h | h <;> simp [h]
theorem layer_mak (R : RawI K mg "Layer" C.L "Layer.__init__" sLayerInit ["self", "number", "x", "y", "width", "height", "pixels"]) (T : Tx K mg C) (cT : ThingFn P w K mg base) : C8.Mak P w K mg base 2 "Layer" C.L (spLayer C) [] := by
  refine R.mak scLayer (fun vs H Q E h => ?_) (fun f cdv A outer s H vs Q E hr h => ?_)
  · obtain ⟨a, dx, pa, n, x, y, wd, ht, rfl, _⟩ := h
    rfl
  · obtain ⟨a, dx, pa, n, x, y, wd, ht, rfl, e, k⟩ := h
    refine ⟨_, pss_cons (ps_expr (pe_clsfn cT hr (Nat.le_refl _) (by rfl) (pa_cons (pv 0) (pa_cons (pv 1) pa_nil)))) (pss_cons (ps_fld (pv 0) (pv 2) rfl) (pss_cons (ps_fld (pv 0) (pv 3) rfl) (pss_cons (ps_fld (pv 0) (pv 4) rfl) (pss_cons (ps_fld (pv 0) (pv 5) rfl) (pss_one (ps_fld (pv 0) (pv 6) rfl)))))), ?_⟩
    have c := T.iL.cl
    refine ⟨_, rfl, _, rfl, a, C.L, dx, n, rfl, e, c, fun f hf => T.nL f (thL hf), ?_⟩
    refine ⟨_, rfl, _, rfl, a, C.L, dx, _, rfl, upd_same, c, T.nL _ (by decide +kernel), (by show 5 < 1000; decide), ?_⟩
    refine ⟨_, rfl, _, rfl, a, C.L, dx, _, rfl, upd_same, c, T.nL _ (by decide +kernel), (by show 6 < 1000; decide), ?_⟩
    refine ⟨_, rfl, _, rfl, a, C.L, dx, _, rfl, upd_same, c, T.nL _ (by decide +kernel), (by show 7 < 1000; decide), ?_⟩
    refine ⟨_, rfl, _, rfl, a, C.L, dx, _, rfl, upd_same, c, T.nL _ (by decide +kernel), (by show 8 < 1000; decide), ?_⟩
    refine ⟨_, rfl, _, rfl, a, C.L, dx, _, rfl, upd_same, c, T.nL _ (by decide +kernel), (by show 9 < 1000; decide), ?_⟩
    rw [upd_upd, upd_upd, upd_upd, upd_upd, upd_upd]
    rw [upd_eq (congrArg (fun q => HO.ins C.L dx q) (put_lay (how0 n) x y wd ht pa))]
    exact k
def spGroup (C : Cs) : Sp := fun vs H Q _ => ∃ (a dx la : Addr) (n : Nat), vs = [.ref a, .int n, .ref la] ∧ H a = some (.ins C.G dx []) ∧ Q .non (upd H a (.ins C.G dx (grpF (how0 n) la)))
theorem scGroup : FnScope ["self", "number", "things"] ["self", "number", "things"] (C8.fnScope sGroupInit) := C8.fnScope_by (by decide +kernel)
theorem group_mak (R : RawI K mg "Group" C.G "Group.__init__" sGroupInit ["self", "number", "things"]) (T : Tx K mg C) (cT : ThingFn P w K mg base) : C8.Mak P w K mg base 2 "Group" C.G (spGroup C) [] := by
  refine R.mak scGroup (fun vs H Q E h => ?_) (fun f cdv A outer s H vs Q E hr h => ?_)
  · obtain ⟨a, dx, la, n, rfl, _⟩ := h
    rfl
  · obtain ⟨a, dx, la, n, rfl, e, k⟩ := h
    refine ⟨_, pss_cons (ps_expr (pe_clsfn cT hr (Nat.le_refl _) (by rfl) (pa_cons (pv 0) (pa_cons (pv 1) pa_nil)))) (pss_one (ps_fld (pv 0) (pv 2) rfl)), ?_⟩
    have c := T.iG.cl
    refine ⟨_, rfl, _, rfl, a, C.G, dx, n, rfl, e, c, fun f hf => T.nG f (thG hf), ?_⟩
    refine ⟨_, rfl, _, rfl, a, C.G, dx, _, rfl, upd_same, c, T.nG _ (by decide +kernel), (by show 5 < 1000; decide), ?_⟩
    rw [upd_upd]
    rw [upd_eq (congrArg (fun q => HO.ins C.G dx q) (put_grp (how0 n) la))]
    exact k
/-! ### the picture -/
theorem put_pic0 (wd ht : Nat) (la : Addr) : putF "next_number" (.int 0) (putF "things" (.ref la) (putF "height" (.int ht) (putF "width" (.int wd) []))) = picF wd ht la 0 := by
  unfold picF
  repeat (first | rw [put_nil] | rw [put_past (by decide +kernel)])
  rfl
theorem put_pic1 (wd ht : Nat) (la : Addr) (w0 h0 n0 : Nat) (l0 : Addr) : putF "next_number" (.int 0) (putF "things" (.ref la) (putF "height" (.int ht) (putF "width" (.int wd) (picF w0 h0 l0 n0)))) = picF wd ht la 0 := by
  unfold picF
  repeat (first | rw [put_here] | rw [put_past (by decide +kernel)])
  rfl
theorem put_picNext (wd ht : Nat) (la : Addr) (n m : Nat) : putF "next_number" (.int m) (picF wd ht la n) = picF wd ht la m := by
  unfold picF
  repeat (first | rw [put_here] | rw [put_past (by decide +kernel)])
theorem put_picThings (wd ht : Nat) (la lb : Addr) (n : Nat) : putF "things" (.ref lb) (picF wd ht la n) = picF wd ht lb n := by
  unfold picF
  repeat (first | rw [put_here] | rw [put_past (by decide +kernel)])
theorem picF_next (wd ht : Nat) (la : Addr) (n : Nat) : (picF wd ht la n).lookup ("next_number" : Str) = some (.int n) := by
  unfold picF
  repeat (first | exact lk_here | refine (lk_past (by decide +kernel)).trans ?_)
theorem picF_things (wd ht : Nat) (la : Addr) (n : Nat) : (picF wd ht la n).lookup ("things" : Str) = some (.ref la) := by
  unfold picF
  repeat (first | exact lk_here | refine (lk_past (by decide +kernel)).trans ?_)
theorem picF_begin (wd ht : Nat) (la : Addr) (n : Nat) : (picF wd ht la n).lookup ("begin" : Str) = none := by
  unfold picF
  repeat (first | rfl | refine (lk_past (by decide +kernel)).trans ?_)
theorem picF_take (wd ht : Nat) (la : Addr) (n : Nat) : (picF wd ht la n).lookup ("take_number" : Str) = none := by
  unfold picF
  repeat (first | rfl | refine (lk_past (by decide +kernel)).trans ?_)
def spBegin (C : Cs) : Sp := fun vs H Q _ => ∃ (p dx : Addr) (fs : List (Str × V)) (wd ht : Nat), vs = [.ref p, .int wd, .int ht] ∧ H p = some (.ins C.P dx fs) ∧ (fs = [] ∨ ∃ w0 h0 l0 n0, fs = picF w0 h0 l0 n0) ∧
  ∀ la, H la = none → Q .non (upd (upd H la (.lst [])) p (.ins C.P dx (picF wd ht la 0)))
theorem scBegin : FnScope ["self", "width", "height"] ["self", "width", "height"] (C8.fnScope sPicBegin) := C8.fnScope_by (by decide +kernel)
theorem upd_comm {H : Hp} {a b : Addr} {o u : HO} (h : a ≠ b) : upd (upd H a o) b u = upd (upd H b u) a o := by
  funext c
  unfold upd
  by_cases e1 : c = a
  · subst e1
    rw [if_neg h, if_pos rfl, if_pos rfl]
  · by_cases e2 : c = b
    · subst e2
      rw [if_pos rfl, if_neg e1, if_pos rfl]
    · rw [if_neg e2, if_neg e1, if_neg e1, if_neg e2]
theorem begin_met (R : RawM K C.P "begin" "Picture.begin" sPicBegin ["self", "width", "height"]) (T : Tx K mg C) : C8.Met P w K mg base 1 C.P "begin" (spBegin C) [] := by
  refine R.met T.cP scBegin (fun vs H Q E h => ?_) (fun f cdv A outer s H vs Q E hr h => ?_)
  · obtain ⟨p, dx, fs, wd, ht, rfl, _⟩ := h
    rfl
  · obtain ⟨p, dx, fs, wd, ht, rfl, e, hfs, k⟩ := h
    refine ⟨_, pss_cons (ps_fld (pv 0) (pv 1) rfl) (pss_cons (ps_fld (pv 0) (pv 2) rfl) (pss_cons (ps_fld (pv 0) (pe_lst pa_nil) rfl) (pss_one (ps_fld (pv 0) pe_int rfl)))), ?_⟩
    have c := T.cP
    have hl : fs.length ≤ 4 := by
      rcases hfs with h | ⟨_, _, _, _, h⟩
      · rw [h]; decide
      · rw [h]; show 4 ≤ 4; decide
    have hp : ∀ (g : Str) (v : V) (l : List (Str × V)), (putF g v l).length ≤ l.length + 1 := by
      intro g v l
      induction l with
      | nil => exact Nat.le_refl _
      | cons x r ih =>
        obtain ⟨a, b⟩ := x
        by_cases q : a = g
        · rw [q, put_here]; simp
        · rw [put_past q]; simp only [List.length_cons]; omega
    refine ⟨_, rfl, _, rfl, p, C.P, dx, _, rfl, e, c, T.nP _ (by decide +kernel), by omega, ?_⟩
    have l1 := hp "width" (.int wd) fs
    refine ⟨_, rfl, _, rfl, p, C.P, dx, _, rfl, upd_same, c, T.nP _ (by decide +kernel), by omega, ?_⟩
    have l2 := hp "height" (.int ht) (putF "width" (.int wd) fs)
    refine ⟨Nat.zero_le _, fun la hla => ?_⟩
    have npl : p ≠ la := ne_of_none upd_same hla
    have hla' : H la = none := by
      rw [upd_upd, upd_ne (Ne.symm npl)] at hla; exact hla
    refine ⟨_, rfl, p, C.P, dx, _, rfl, by rw [upd_ne npl]; exact upd_same, c, T.nP _ (by decide +kernel), by omega, ?_⟩
    have l3 := hp "things" (.ref la) (putF "height" (.int ht) (putF "width" (.int wd) fs))
    refine ⟨_, rfl, p, C.P, dx, _, rfl, upd_same, c, T.nP _ (by decide +kernel), by omega, ?_⟩
    have z := k la hla'
    rw [upd_upd, upd_upd, upd_comm npl, upd_upd]
    have ef : putF "next_number" (.int 0) (putF "things" (.ref la) (putF "height" (.int ht) (putF "width" (.int wd) fs))) = picF wd ht la 0 := by
      rcases hfs with h | ⟨_, _, _, _, h⟩
      · rw [h]; exact put_pic0 ..
      · rw [h]; exact put_pic1 ..
    rw [upd_eq (congrArg (fun q => HO.ins C.P dx q) ef)]
    exact z
def spTake (C : Cs) : Sp := fun vs H Q _ => ∃ (p dx la : Addr) (wd ht n : Nat), vs = [.ref p] ∧ H p = some (.ins C.P dx (picF wd ht la n)) ∧ Q (.int n) (upd H p (.ins C.P dx (picF wd ht la (n + 1))))
theorem scTake : FnScope ["self", "number"] ["self"] (C8.fnScope sPicTake) := C8.fnScope_by (by decide +kernel)
theorem take_met (R : RawM K C.P "take_number" "Picture.take_number" sPicTake ["self"]) (T : Tx K mg C) : C8.Met P w K mg base 1 C.P "take_number" (spTake C) [] := by
  refine R.met T.cP scTake (fun vs H Q E h => ?_) (fun f cdv A outer s H vs Q E hr h => ?_)
  · obtain ⟨p, dx, la, wd, ht, n, rfl, _⟩ := h
    rfl
  · obtain ⟨p, dx, la, wd, ht, n, rfl, e, k⟩ := h
    refine ⟨_, pss_cons (ps_set (i := 1) scTake.nd rfl (Or.inl rfl) (pe_fld (pv 0) rfl)) (pss_cons (ps_fld (pv 0) (pe_op op_add (pv 1) pe_int) rfl) (pss_one (ps_ret (pv 1)))), ?_⟩
    have c := T.cP
    refine ⟨_, rfl, p, C.P, dx, _, _, rfl, e, c, T.nP _ (by decide +kernel), picF_next .., ?_⟩
    refine ⟨_, rfl, _, _, rfl, rfl, _, rfl, p, C.P, dx, _, rfl, e, c, T.nP _ (by decide +kernel), (by show 4 < 1000; decide), ?_⟩
    refine ⟨_, rfl, ?_⟩
    show Q (V.int n) (upd H p (HO.ins C.P dx (putF "next_number" (.int ((n + 1 : Nat) : Int)) (picF wd ht la n))))
    rw [upd_eq (congrArg (fun q => HO.ins C.P dx q) (put_picNext wd ht la n (n + 1)))]
    exact k
def spPicInit (C : Cs) : Sp := fun vs H Q _ => ∃ (p dx : Addr), vs = [.ref p] ∧ H p = some (.ins C.P dx []) ∧ ∀ la, H la = none → Q .non (upd (upd H la (.lst [])) p (.ins C.P dx (picF 1 1 la 0)))
theorem scPicInit : FnScope ["self"] ["self"] (C8.fnScope sPicInit) := C8.fnScope_by (by decide +kernel)
theorem pic_mak (R : RawI K mg "Picture" C.P "Picture.__init__" sPicInit ["self"]) (T : Tx K mg C) (cB : C8.Met P w K mg base 1 C.P "begin" (spBegin C) []) : C8.Mak P w K mg base 2 "Picture" C.P (spPicInit C) [] := by
  refine R.mak scPicInit (fun vs H Q E h => ?_) (fun f cdv A outer s H vs Q E hr h => ?_)
  · obtain ⟨p, dx, rfl, _⟩ := h
    rfl
  · obtain ⟨p, dx, rfl, e, k⟩ := h
    refine ⟨_, pss_one (ps_expr (C8.pe_mt cB hr (Nat.le_refl _) (pv 0) (pa_cons pe_int (pa_cons pe_int pa_nil)))), ?_⟩
    exact ⟨_, rfl, p, dx, _, rfl, e, rfl, p, dx, [], 1, 1, rfl, e, .inl rfl, fun la hla => k la hla⟩
end
end Lay
set_option Elab.async false
set_option linter.all false
set_option maxRecDepth 100000
set_option maxHeartbeats 2000000
namespace Lay
open PySem PySem.Spec PyProof.Rows L2
open Sq49 (Node How House)
open LFrac (NGood LGood HGood)
/-! ### the picture as it lies -/
structure PicAt (C : Cs) (H : Hp) (p dx la : Addr) (ts : List AT) (ow : Addr → Nat) (g : House) : Prop where
  self : H p = some (.ins C.P dx (picF g.w g.h la g.next))
  lst : H la = some (.lst (refs ts))
  held : Held C H ts
  owp : ow p = 0
  owl : ow la = 0
  owt : ∀ t ∈ flat ts, ∀ c ∈ t.cells, ow c = t.id + 1
  ns : g.nodes = nodes ts
  ids : ((flat ts).map AT.id).Nodup
  lt : ∀ t ∈ flat ts, t.id < g.next
  cnt : (flat ts).length ≤ 10
  good : LGood (nodes ts)
  w1 : 1 ≤ g.w
  w8 : g.w ≤ 8
  h1 : 1 ≤ g.h
  h8 : g.h ≤ 8
def foot (p la : Addr) (ts : List AT) : List Addr := p :: la :: (flat ts).flatMap AT.cells
/-- the picture at p is the house g; its cells are among F -/
def State (C : Cs) (H : Hp) (p : Addr) (g : House) (F : Addr → Prop) : Prop := ∃ dx la ts ow, PicAt C H p dx la ts ow g ∧ ∀ b ∈ foot p la ts, F b
/-- what is not among F stands -/
def Kp (F : Addr → Prop) (H H' : Hp) : Prop := ∀ b o, H b = some o → ¬ F b → H' b = some o
/-- the cells that a call may come to have -/
def more (F : Addr → Prop) (H : Hp) : Addr → Prop := fun b => F b ∨ H b = none
theorem mem_foot_p {p la : Addr} {ts : List AT} : p ∈ foot p la ts := List.mem_cons_self
theorem mem_foot_la {p la : Addr} {ts : List AT} : la ∈ foot p la ts := List.mem_cons_of_mem _ List.mem_cons_self
theorem mem_foot_t {p la : Addr} {ts : List AT} {t : AT} {c : Addr} (h : t ∈ flat ts) (hc : c ∈ t.cells) : c ∈ foot p la ts := List.mem_cons_of_mem _ (List.mem_cons_of_mem _ (List.mem_flatMap.mpr ⟨t, h, hc⟩))
theorem foot_cases {p la : Addr} {ts : List AT} {b : Addr} (h : b ∈ foot p la ts) : b = p ∨ b = la ∨ ∃ t ∈ flat ts, b ∈ t.cells := by
  unfold foot at h
  rcases List.mem_cons.mp h with e | h
  · exact .inl e
  · rcases List.mem_cons.mp h with e | h
    · exact .inr (.inl e)
    · obtain ⟨t, h1, h2⟩ := List.mem_flatMap.mp h
      exact .inr (.inr ⟨t, h1, h2⟩)
theorem Kp.of_same {F : Addr → Prop} {H H' : Hp} (s : Same H H') : Kp F H H' := fun b o e _ => s b o e
theorem Kp.trans {F : Addr → Prop} {H H1 H2 : Hp} (a : Kp F H H1) (b : Kp F H1 H2) : Kp F H H2 := fun c o e n => b c o (a c o e n) n
/-- a state under more that is tracked -/
theorem PicAt.same {C : Cs} {H H' : Hp} {p dx la : Addr} {ts : List AT} {ow : Addr → Nat} {g : House} (s : Same H H') (A : PicAt C H p dx la ts ow g) : PicAt C H' p dx la ts ow g :=
  { A with self := s _ _ A.self, lst := s _ _ A.lst, held := A.held.same s }
theorem State.same {C : Cs} {H H' : Hp} {p : Addr} {g : House} {F : Addr → Prop} (s : Same H H') (A : State C H p g F) : State C H' p g F := by
  obtain ⟨dx, la, ts, ow, B, f⟩ := A
  exact ⟨dx, la, ts, ow, B.same s, f⟩
theorem State.mono {C : Cs} {H : Hp} {p : Addr} {g : House} {F G : Addr → Prop} (A : State C H p g F) (h : ∀ b, F b → G b) : State C H p g G := by
  obtain ⟨dx, la, ts, ow, B, f⟩ := A
  exact ⟨dx, la, ts, ow, B, fun b hb => h b (f b hb)⟩
mutual
theorem depth_le1 : ∀ t : AT, t.depth ≤ t.flat1.length
  | .layer .. => by unfold AT.depth; exact Nat.zero_le _
  | .group a la h l => by
    have := depth_le l
    unfold AT.depth AT.flat1
    rw [List.length_cons]
    omega
theorem depth_le : ∀ l : List AT, depths l ≤ (flat l).length
  | [] => by unfold depths; exact Nat.zero_le _
  | t :: l => by
    have a := depth_le1 t
    have b := depth_le l
    unfold depths flat
    rw [List.length_append]
    omega
end
theorem PicAt.deep {C : Cs} {H : Hp} {p dx la : Addr} {ts : List AT} {ow : Addr → Nat} {g : House} (A : PicAt C H p dx la ts ow g) : depths ts + 1 ≤ DEEP := by
  have a := depth_le ts
  have b := A.cnt
  show _ ≤ 12
  omega
theorem PicAt.few {C : Cs} {H : Hp} {p dx la : Addr} {ts : List AT} {ow : Addr → Nat} {g : House} (A : PicAt C H p dx la ts ow g) : (flat ts).length ≤ 100 := by
  have b := A.cnt
  omega
section
variable {K : PySem.W.Frag} {mg : Str → Option Value} {C : Cs} {H H' : Hp} {p dx la : Addr} {ts : List AT} {ow : Addr → Nat} {g : House}
theorem PicAt.holder (A : PicAt C H p dx la ts ow g) (T : Tx K mg C) : HolderAt K H p la ts := ⟨C.P, dx, _, A.self, T.cP, T.nPt, picF_things .., A.lst⟩
theorem PicAt.uniq (A : PicAt C H p dx la ts ow g) {t u : AT} (ht : t ∈ flat ts) (hu : u ∈ flat ts) (e : t.id = u.id) : t = u := by
  have nd := A.ids
  obtain ⟨i, hi, e1⟩ := List.getElem_of_mem ht
  obtain ⟨j, hj, e2⟩ := List.getElem_of_mem hu
  have a1 : ((flat ts).map AT.id)[i]? = some t.id := by rw [List.getElem?_map, List.getElem?_eq_getElem hi, e1]; rfl
  have a2 : ((flat ts).map AT.id)[j]? = some t.id := by rw [List.getElem?_map, List.getElem?_eq_getElem hj, e2, e]; rfl
  have := nd_ix nd a1 a2
  subst this
  rw [← e1, ← e2]
end
/-! ### numbers: what is found -/
mutual
theorem find1 (i : Nat) : ∀ t : AT, t.node.find i = (t.flat1.find? fun u => u.id == i).map AT.node
  | .layer a pa h x y w ht px => by
    unfold AT.node Node.find AT.flat1
    by_cases e : h.id = i
    · rw [if_pos e, List.find?_cons_of_pos (by exact beq_iff_eq.mpr e), Option.map_some]; unfold AT.node; rfl
    · rw [if_neg e, List.find?_cons_of_neg (by exact fun q => e (beq_iff_eq.mp q))]; rfl
  | .group a la h l => by
    unfold AT.node Node.find AT.flat1
    by_cases e : h.id = i
    · rw [if_pos e, List.find?_cons_of_pos (by exact beq_iff_eq.mpr e), Option.map_some]; unfold AT.node; rfl
    · rw [if_neg e, List.find?_cons_of_neg (by exact fun q => e (beq_iff_eq.mp q)), find_all i l]
theorem find_all (i : Nat) : ∀ l : List AT, Node.findAll i (nodes l) = ((flat l).find? fun u => u.id == i).map AT.node
  | [] => by unfold nodes Node.findAll flat; rfl
  | t :: l => by
    unfold nodes Node.findAll flat
    rw [find1 i t, find_all i l, List.find?_append]
    cases e : List.find? (fun u => u.id == i) t.flat1 with
    | none => rfl
    | some u => rfl
end
/-! ### something changed wherever it is -/
mutual
def AT.at_ (i : Nat) (f : AT → AT) : AT → AT
  | .layer a pa h x y w ht px => if h.id = i then f (.layer a pa h x y w ht px) else .layer a pa h x y w ht px
  | .group a la h l => if h.id = i then f (.group a la h l) else .group a la h (allAtA i f l)
def allAtA (i : Nat) (f : AT → AT) : List AT → List AT
  | [] => []
  | t :: l => t.at_ i f :: allAtA i f l
end
theorem allAtA_map (i : Nat) (f : AT → AT) : ∀ l, allAtA i f l = l.map (AT.at_ i f)
  | [] => by unfold allAtA; rfl
  | t :: l => by unfold allAtA; rw [allAtA_map i f l]; rfl
theorem at_of_id {i : Nat} {f : AT → AT} {t : AT} (h : t.id = i) : t.at_ i f = f t := by
  cases t with
  | layer => unfold AT.at_; exact if_pos h
  | group => unfold AT.at_; exact if_pos h
theorem at_not_addr {i : Nat} {f : AT → AT} {t : AT} (h : t.id ≠ i) : (t.at_ i f).addr = t.addr ∧ (t.at_ i f).how = t.how ∧ (t.at_ i f).cells = t.cells ∧ (t.at_ i f).kids = allAtA i f t.kids := by
  cases t with
  | layer a pa hh x y w ht px =>
    have e : AT.at_ i f (.layer a pa hh x y w ht px) = .layer a pa hh x y w ht px := by unfold AT.at_; exact if_neg h
    rw [e]
    refine ⟨rfl, rfl, rfl, ?_⟩
    show ([] : List AT) = allAtA i f []
    unfold allAtA; rfl
  | group a la hh l =>
    have e : AT.at_ i f (.group a la hh l) = .group a la hh (allAtA i f l) := by unfold AT.at_; exact if_neg h
    rw [e]
    exact ⟨rfl, rfl, rfl, rfl⟩
theorem at_addr {i : Nat} {f : AT → AT} {t : AT} (hf : t.id = i → (f t).addr = t.addr) : (t.at_ i f).addr = t.addr := by
  by_cases h : t.id = i
  · rw [at_of_id h]; exact hf h
  · exact (at_not_addr h).1
theorem refs_at {i : Nat} {f : AT → AT} {l : List AT} (hf : ∀ t ∈ l, t.id = i → (f t).addr = t.addr) : refs (allAtA i f l) = refs l := by
  rw [allAtA_map]
  unfold refs
  rw [List.map_map]
  apply List.map_congr_left
  intro t ht
  show V.ref (AT.at_ i f t).addr = V.ref t.addr
  rw [at_addr (hf t ht)]
mutual
theorem at_node {i : Nat} {f : AT → AT} {F : Node → Node} : ∀ (t : AT), (∀ u ∈ t.flat1, u.id = i → (f u).node = F u.node) → (t.at_ i f).node = t.node.at_ i F
  | .layer a pa h x y w ht px, hf => by
    by_cases e : h.id = i
    · rw [at_of_id (t := .layer a pa h x y w ht px) e, hf (.layer a pa h x y w ht px) (by unfold AT.flat1; exact List.mem_cons_self) e]
      conv => rhs; unfold AT.node Node.at_
      rw [if_pos e]
      unfold AT.node; rfl
    · have e' : AT.at_ i f (.layer a pa h x y w ht px) = .layer a pa h x y w ht px := by unfold AT.at_; exact if_neg e
      rw [e']
      conv => rhs; unfold AT.node Node.at_
      rw [if_neg e]
      unfold AT.node; rfl
  | .group a la h l, hf => by
    by_cases e : h.id = i
    · rw [at_of_id (t := .group a la h l) e, hf (.group a la h l) (by unfold AT.flat1; exact List.mem_cons_self) e]
      conv => rhs; unfold AT.node Node.at_
      rw [if_pos e]
      unfold AT.node; rfl
    · have e' : AT.at_ i f (.group a la h l) = .group a la h (allAtA i f l) := by unfold AT.at_; exact if_neg e
      rw [e']
      conv => rhs; unfold AT.node Node.at_
      rw [if_neg e]
      conv => lhs; unfold AT.node
      rw [at_nodes l (fun u hu => hf u (by unfold AT.flat1; exact List.mem_cons_of_mem _ hu))]
theorem at_nodes {i : Nat} {f : AT → AT} {F : Node → Node} : ∀ (l : List AT), (∀ u ∈ flat l, u.id = i → (f u).node = F u.node) → nodes (allAtA i f l) = Node.allAt i F (nodes l)
  | [], _ => by unfold allAtA nodes Node.allAt; rfl
  | t :: l, hf => by
    unfold allAtA nodes Node.allAt
    rw [at_node t (fun u hu => hf u (by unfold flat; exact List.mem_append_left _ hu)), at_nodes l (fun u hu => hf u (by unfold flat; exact List.mem_append_right _ hu))]
end
mutual
theorem mem_at1 {i : Nat} {f : AT → AT} : ∀ (t : AT) {u : AT}, u ∈ (t.at_ i f).flat1 → (∃ s ∈ t.flat1, s.id = i ∧ u ∈ (f s).flat1) ∨ ∃ s ∈ t.flat1, s.id ≠ i ∧ u = s.at_ i f
  | .layer a pa h x y w ht px, u, hu => by
    by_cases e : h.id = i
    · rw [at_of_id (t := .layer a pa h x y w ht px) e] at hu
      exact .inl ⟨(.layer a pa h x y w ht px), by unfold AT.flat1; exact List.mem_cons_self, e, hu⟩
    · have e' : AT.at_ i f (.layer a pa h x y w ht px) = .layer a pa h x y w ht px := by unfold AT.at_; exact if_neg e
      rw [e'] at hu
      unfold AT.flat1 at hu
      refine .inr ⟨.layer a pa h x y w ht px, by unfold AT.flat1; exact List.mem_cons_self, e, ?_⟩
      rw [e']
      exact List.mem_singleton.mp hu
  | .group a la h l, u, hu => by
    by_cases e : h.id = i
    · rw [at_of_id (t := .group a la h l) e] at hu
      exact .inl ⟨(.group a la h l), by unfold AT.flat1; exact List.mem_cons_self, e, hu⟩
    · have e' : AT.at_ i f (.group a la h l) = .group a la h (allAtA i f l) := by unfold AT.at_; exact if_neg e
      rw [e'] at hu
      unfold AT.flat1 at hu
      rcases List.mem_cons.mp hu with q | q
      · refine .inr ⟨.group a la h l, by unfold AT.flat1; exact List.mem_cons_self, e, ?_⟩
        rw [e']; exact q
      · rcases mem_at l q with ⟨s, h1, h2⟩ | ⟨s, h1, h2⟩
        · exact .inl ⟨s, by unfold AT.flat1; exact List.mem_cons_of_mem _ h1, h2⟩
        · exact .inr ⟨s, by unfold AT.flat1; exact List.mem_cons_of_mem _ h1, h2⟩
theorem mem_at {i : Nat} {f : AT → AT} : ∀ (l : List AT) {u : AT}, u ∈ flat (allAtA i f l) → (∃ s ∈ flat l, s.id = i ∧ u ∈ (f s).flat1) ∨ ∃ s ∈ flat l, s.id ≠ i ∧ u = s.at_ i f
  | [], u, hu => by unfold allAtA flat at hu; cases hu
  | t :: l, u, hu => by
    unfold allAtA flat at hu
    rcases List.mem_append.mp hu with q | q
    · rcases mem_at1 t q with ⟨s, h1, h2⟩ | ⟨s, h1, h2⟩
      · exact .inl ⟨s, by unfold flat; exact List.mem_append_left _ h1, h2⟩
      · exact .inr ⟨s, by unfold flat; exact List.mem_append_left _ h1, h2⟩
    · rcases mem_at l q with ⟨s, h1, h2⟩ | ⟨s, h1, h2⟩
      · exact .inl ⟨s, by unfold flat; exact List.mem_append_right _ h1, h2⟩
      · exact .inr ⟨s, by unfold flat; exact List.mem_append_right _ h1, h2⟩
end
/-- the thing itself alone is changed: all in it stays -/
theorem own_at {C : Cs} {H : Hp} {i : Nat} {f : AT → AT} {s : AT} (h : Own C H s) (hs : s.id ≠ i) (hf : ∀ t ∈ s.kids, t.id = i → (f t).addr = t.addr) : Own C H (s.at_ i f) := by
  cases s with
  | layer a pa hh x y w ht px =>
    have e : AT.at_ i f (.layer a pa hh x y w ht px) = .layer a pa hh x y w ht px := by unfold AT.at_; exact if_neg hs
    rw [e]; exact h
  | group a la hh l =>
    have e : AT.at_ i f (.group a la hh l) = .group a la hh (allAtA i f l) := by unfold AT.at_; exact if_neg hs
    rw [e]
    refine ⟨h.1, ?_⟩
    rw [refs_at (l := l) hf]
    exact h.2
end Lay
set_option Elab.async false
set_option linter.all false
set_option maxRecDepth 100000
set_option maxHeartbeats 2000000
namespace Lay
open PySem PySem.Spec PyProof.Rows L2
open Sq49 (Node How House)
open LFrac (NGood LGood HGood)
mutual
theorem sub1 : ∀ (s : AT) {t : AT}, t ∈ s.flat1 → List.Sublist (t :: flat t.kids) s.flat1
  | .layer a pa h x y w ht px, t, ht' => by
    unfold AT.flat1 at ht' ⊢
    have e := List.mem_singleton.mp ht'
    subst e
    unfold AT.kids flat
    exact List.Sublist.refl _
  | .group a la h l, t, ht' => by
    unfold AT.flat1 at ht' ⊢
    rcases List.mem_cons.mp ht' with e | e
    · subst e
      exact List.Sublist.refl _
    · exact List.Sublist.cons _ (subl l e)
theorem subl : ∀ (l : List AT) {t : AT}, t ∈ flat l → List.Sublist (t :: flat t.kids) (flat l)
  | [], t, h => by unfold flat at h; cases h
  | s :: l, t, h => by
    have ef : flat (s :: l) = s.flat1 ++ flat l := by
      conv => lhs; unfold flat
    rw [ef] at h ⊢
    rcases List.mem_append.mp h with e | e
    · exact (sub1 s e).trans (List.sublist_append_left _ _)
    · exact (subl l e).trans (List.sublist_append_right _ _)
end
mutual
theorem ids_at1 {i : Nat} {f : AT → AT} : ∀ (t : AT), (∀ s ∈ t.flat1, s.id = i → (f s).id = s.id ∧ (f s).kids = s.kids) → (t.at_ i f).flat1.map AT.id = t.flat1.map AT.id
  | .layer a pa h x y w ht px, hf => by
    by_cases e : h.id = i
    · have q := hf (.layer a pa h x y w ht px) (by unfold AT.flat1; exact List.mem_cons_self) e
      rw [at_of_id (t := .layer a pa h x y w ht px) e, flat1_eq, flat1_eq, List.map_cons, List.map_cons, q.1, q.2]
    · have e' : AT.at_ i f (.layer a pa h x y w ht px) = .layer a pa h x y w ht px := by unfold AT.at_; exact if_neg e
      rw [e']
  | .group a la h l, hf => by
    by_cases e : h.id = i
    · have q := hf (.group a la h l) (by unfold AT.flat1; exact List.mem_cons_self) e
      rw [at_of_id (t := .group a la h l) e, flat1_eq, flat1_eq, List.map_cons, List.map_cons, q.1, q.2]
    · have e' : AT.at_ i f (.group a la h l) = .group a la h (allAtA i f l) := by unfold AT.at_; exact if_neg e
      rw [e']
      unfold AT.flat1
      rw [List.map_cons, List.map_cons, ids_at l (fun s hs => hf s (by unfold AT.flat1; exact List.mem_cons_of_mem _ hs))]
      rfl
theorem ids_at {i : Nat} {f : AT → AT} : ∀ (l : List AT), (∀ s ∈ flat l, s.id = i → (f s).id = s.id ∧ (f s).kids = s.kids) → (flat (allAtA i f l)).map AT.id = (flat l).map AT.id
  | [], _ => by unfold allAtA flat; rfl
  | t :: l, hf => by
    unfold allAtA flat
    rw [List.map_append, List.map_append, ids_at1 t (fun s hs => hf s (by unfold flat; exact List.mem_append_left _ hs)), ids_at l (fun s hs => hf s (by unfold flat; exact List.mem_append_right _ hs))]
end
mutual
theorem good_at1 {i : Nat} {f : AT → AT} : ∀ (t : AT), NGood t.node → (∀ s ∈ t.flat1, s.id = i → NGood (f s).node) → NGood (t.at_ i f).node
  | .layer a pa h x y w ht px, g, hf => by
    by_cases e : h.id = i
    · rw [at_of_id (t := .layer a pa h x y w ht px) e]
      exact hf (.layer a pa h x y w ht px) (by unfold AT.flat1; exact List.mem_cons_self) e
    · have e' : AT.at_ i f (.layer a pa h x y w ht px) = .layer a pa h x y w ht px := by unfold AT.at_; exact if_neg e
      rw [e']; exact g
  | .group a la h l, g, hf => by
    by_cases e : h.id = i
    · rw [at_of_id (t := .group a la h l) e]
      exact hf (.group a la h l) (by unfold AT.flat1; exact List.mem_cons_self) e
    · have e' : AT.at_ i f (.group a la h l) = .group a la h (allAtA i f l) := by unfold AT.at_; exact if_neg e
      rw [e']
      unfold AT.node NGood at g ⊢
      exact ⟨g.1, good_at l g.2 (fun s hs => hf s (by unfold AT.flat1; exact List.mem_cons_of_mem _ hs))⟩
theorem good_at {i : Nat} {f : AT → AT} : ∀ (l : List AT), LGood (nodes l) → (∀ s ∈ flat l, s.id = i → NGood (f s).node) → LGood (nodes (allAtA i f l))
  | [], g, _ => by unfold allAtA; exact g
  | t :: l, g, hf => by
    unfold allAtA
    unfold nodes LGood at g ⊢
    exact ⟨good_at1 t g.1 (fun s hs => hf s (by unfold flat; exact List.mem_append_left _ hs)), good_at l g.2 (fun s hs => hf s (by unfold flat; exact List.mem_append_right _ hs))⟩
end
mutual
theorem good_mem1 : ∀ (t : AT), NGood t.node → ∀ s ∈ t.flat1, NGood s.node
  | .layer a pa h x y w ht px, g, s, hs => by
    unfold AT.flat1 at hs
    rw [List.mem_singleton.mp hs]; exact g
  | .group a la h l, g, s, hs => by
    unfold AT.flat1 at hs
    rcases List.mem_cons.mp hs with e | e
    · rw [e]; exact g
    · unfold AT.node NGood at g
      exact good_mem l g.2 s e
theorem good_mem : ∀ (l : List AT), LGood (nodes l) → ∀ s ∈ flat l, NGood s.node
  | [], g, s, hs => by unfold flat at hs; cases hs
  | t :: l, g, s, hs => by
    unfold nodes LGood at g
    unfold flat at hs
    rcases List.mem_append.mp hs with e | e
    · exact good_mem1 t g.1 s e
    · exact good_mem l g.2 s e
end
section
variable {C : Cs} {H H' : Hp} {p dx la : Addr} {ts : List AT} {ow : Addr → Nat} {g : House}
theorem PicAt.p_off (A : PicAt C H p dx la ts ow g) {t : AT} (h : t ∈ flat ts) : p ∉ t.cells := fun q => by
  have := A.owt t h p q
  rw [A.owp] at this
  omega
theorem PicAt.la_off (A : PicAt C H p dx la ts ow g) {t : AT} (h : t ∈ flat ts) : la ∉ t.cells := fun q => by
  have := A.owt t h la q
  rw [A.owl] at this
  omega
theorem PicAt.off (A : PicAt C H p dx la ts ow g) {t u : AT} (h : t ∈ flat ts) (hu : u ∈ flat ts) (ne : t.id ≠ u.id) : ∀ c ∈ t.cells, c ∉ u.cells := fun c hc q => by
  have a := A.owt t h c hc
  have b := A.owt u hu c q
  omega
/-- what is in a thing is another than it -/
theorem PicAt.kid_ne (A : PicAt C H p dx la ts ow g) {t u : AT} (h : t ∈ flat ts) (hu : u ∈ flat t.kids) : u.id ≠ t.id := by
  have s := (subl ts h).map AT.id
  have nd := A.ids.sublist s
  rw [List.map_cons] at nd
  have := (List.nodup_cons.mp nd).1
  intro e
  exact this (by rw [← e]; exact List.mem_map.mpr ⟨u, hu, rfl⟩)
/-- one thing changed in its own cells -/
theorem PicAt.modify (A : PicAt C H p dx la ts ow g) {i : Nat} {t0 : AT} {f : AT → AT} {F : Node → Node} (h0 : t0 ∈ flat ts) (hi : t0.id = i) (fa : (f t0).addr = t0.addr) (fh : (f t0).id = i) (fc : (f t0).cells = t0.cells) (fk : (f t0).kids = t0.kids)
    (hO : Own C H' (f t0)) (hK : ∀ b o, H b = some o → b ∉ t0.cells → H' b = some o) (fn : (f t0).node = F t0.node) (gd : NGood (f t0).node) :
    PicAt C H' p dx la (allAtA i f ts) ow { g with nodes := Node.allAt i F g.nodes } ∧ ∀ b ∈ foot p la (allAtA i f ts), b ∈ foot p la ts := by
  have un : ∀ s ∈ flat ts, s.id = i → s = t0 := fun s hs e => A.uniq hs h0 (by rw [e, hi])
  have fr : Fr t0.cells H H' := hK
  have key : ∀ u ∈ flat (allAtA i f ts), Own C H' u ∧ (∀ c ∈ u.cells, ow c = u.id + 1) ∧ (∃ s ∈ flat ts, u.cells = s.cells) := by
    intro u hu
    rcases mem_at ts hu with ⟨s, hs, es, hu'⟩ | ⟨s, hs, es, rfl⟩
    · rw [un s hs es] at hu'
      rw [flat1_eq, fk] at hu'
      rcases List.mem_cons.mp hu' with e | e
      · subst e
        refine ⟨hO, fun c hc => ?_, t0, h0, fc⟩
        rw [fc] at hc
        rw [fh, ← hi]
        exact A.owt t0 h0 c hc
      · have hm := flat_trans ts h0 e
        exact ⟨(A.held u hm).fr fr (A.off hm h0 (A.kid_ne h0 e)), A.owt u hm, u, hm, rfl⟩
    · have q := at_not_addr (f := f) es
      refine ⟨own_at ((A.held s hs).fr fr (A.off hs h0 (by rw [hi]; exact es))) es (fun t ht e => ?_), fun c hc => ?_, s, hs, q.2.2.1⟩
      · have := un t (kid_flat hs ht) e
        subst this
        exact fa
      · rw [q.2.2.1] at hc
        show ow c = (s.at_ i f).how.id + 1
        rw [q.2.1]
        exact A.owt s hs c hc
  have eids := ids_at (i := i) (f := f) ts (fun s hs e => by rw [un s hs e]; exact ⟨by rw [fh, hi], fk⟩)
  have elen : (flat (allAtA i f ts)).length = (flat ts).length := by
    have := congrArg List.length eids
    rw [List.length_map, List.length_map] at this
    exact this
  refine ⟨?_, ?_⟩
  · refine ⟨hK _ _ A.self (A.p_off h0), ?_, fun u hu => (key u hu).1, A.owp, A.owl, fun u hu => (key u hu).2.1, ?_, ?_, ?_, ?_, ?_, A.w1, A.w8, A.h1, A.h8⟩
    · rw [refs_at (fun t ht e => by rw [un t (mem_flat_self ht) e]; exact fa)]
      exact hK _ _ A.lst (A.la_off h0)
    · show Node.allAt i F g.nodes = _
      rw [at_nodes (F := F) ts (fun s hs e => by rw [un s hs e]; exact fn), A.ns]
    · rw [eids]; exact A.ids
    · intro u hu
      have : u.id ∈ (flat (allAtA i f ts)).map AT.id := List.mem_map.mpr ⟨u, hu, rfl⟩
      rw [eids] at this
      obtain ⟨s, hs, e⟩ := List.mem_map.mp this
      show u.id < g.next
      rw [← e]; exact A.lt s hs
    · rw [elen]; exact A.cnt
    · exact good_at ts A.good (fun s hs e => by rw [un s hs e]; exact gd)
  · intro b hb
    rcases foot_cases hb with e | e | ⟨u, hu, hc⟩
    · rw [e]; exact mem_foot_p
    · rw [e]; exact mem_foot_la
    · obtain ⟨s, hs, e⟩ := (key u hu).2.2
      exact mem_foot_t hs (by rw [← e]; exact hc)
end
end Lay
set_option Elab.async false
set_option linter.all false
set_option maxRecDepth 100000
set_option maxHeartbeats 2000000
namespace Lay
open PySem PySem.Spec PyProof.Rows L2
open Sq49 (Node How House says)
open LFrac (NGood LGood HGood)
abbrev sIsSide : Stmt := topS 41
abbrev sIsFull : Stmt := topS 42
abbrev sBegin : Stmt := topS 43
abbrev sSetHow : Stmt := topS 47
abbrev sShift : Stmt := topS 48
abbrev sPaint : Stmt := topS 49
/-- the module's numbers -/
structure Nm (mg : Str → Option Value) : Prop where
  bad : NumG mg "BAD_NUMBER" (-1)
  no : NumG mg "NO_THING" (-2)
  unfit : NumG mg "UNFIT" (-3)
  full : NumG mg "FULL" (-5)
  side : NumG mg "LONGEST_SIDE" 8
  most : NumG mg "MOST_THINGS" 10
  level : NumG mg "GREATEST_LEVEL" 255
  way : NumG mg "GREATEST_WAY" 6
  told : NumG mg "TOLD_MORE" 32
  far : NumG mg "GREATEST_TOLD" 64
/-- what a call that answers one number promises -/
def Prom (C : Cs) (p : Addr) (c : Sq49.Call) (H : Hp) (Q : VK) : Prop := ∃ g F, State C H p g F ∧ ∀ H', State C H' p (g.step c).1 (more F H) → Kp F H H' → (g.step c).2.out = [] → Q (.int (g.step c).2.value) H'
theorem refused {C : Cs} {p : Addr} {c : Sq49.Call} {H H' : Hp} {Q : VK} {g : House} {F : Addr → Prop} {z : Int} (S : State C H p g F) (k : ∀ H', State C H' p (g.step c).1 (more F H) → Kp F H H' → (g.step c).2.out = [] → Q (.int (g.step c).2.value) H')
    (e : g.step c = (g, says z)) (s : Same H H') : Q (.int z) H' := by
  have q := k H'
  rw [e] at q
  exact q ((S.same s).mono fun b h => .inl h) (Kp.of_same s) rfl
section
variable {P : Program} {w : World} {K : PySem.W.Frag} {mg : Str → Option Value} {base : Heap} {C : Cs}
def spSide : Sp := fun vs H Q _ => ∃ n : Int, vs = [.int n] ∧ Q (.bl (decide (1 ≤ n ∧ n ≤ 8))) H
theorem scSide : FnScope ["number"] ["number"] (C8.fnScope sIsSide) := C8.fnScope_by (by decide +kernel)
theorem side_ok (R : Raw K mg "is_side" sIsSide ["number"]) (M : Nm mg) : C8.Cal P w K mg base 1 "is_side" spSide [] := by
  refine R.cal scSide (fun vs H Q E h => ?_) (fun f cdv A outer s H vs Q E hr h => ?_)
  · obtain ⟨n, rfl, _⟩ := h
    rfl
  · obtain ⟨n, rfl, k⟩ := h
    refine ⟨_, pss_one (ps_ret (pe_chain op_le op_le pe_int (pv 0) (pe_num (by rfl) M.side))), ?_⟩
    refine ⟨_, rfl, _, _, rfl, rfl, _, rfl, ?_⟩
    refine ite2 (fun c => ?_) (fun c => ?_)
    · have c' : (1 : Int) ≤ n := of_decide_eq_true c
      refine ⟨_, _, rfl, rfl, ?_⟩
      have e : decide (n ≤ 8) = decide (1 ≤ n ∧ n ≤ 8) := by
        by_cases q : n ≤ 8
        · rw [decide_eq_true q, decide_eq_true ⟨c', q⟩]
        · rw [decide_eq_false q, decide_eq_false (fun z => q z.2)]
      show Q (.bl (decide (n ≤ 8))) H
      rw [e]; exact k
    · have c' : ¬ (1 : Int) ≤ n := of_decide_eq_false (Bool.eq_false_iff.mpr c)
      have e : decide (1 ≤ n ∧ n ≤ 8) = false := decide_eq_false fun z => c' z.1
      rw [e] at k
      exact k
def spFull (K : PySem.W.Frag) (C : Cs) : Sp := fun vs H Q _ => ∃ (a la : Addr) (ts : List AT), vs = [.ref a] ∧ HolderAt K H a la ts ∧ Held C H ts ∧ depths ts + 1 ≤ DEEP ∧ (flat ts).length ≤ 100 ∧
  ∀ (H' : Hp), Same H H' → Q (.bl (decide (10 ≤ (flat ts).length))) H'
theorem scFull : FnScope ["picture"] ["picture"] (C8.fnScope sIsFull) := C8.fnScope_by (by decide +kernel)
theorem full_ok (R : Raw K mg "is_full" sIsFull ["picture"]) (T : Tx K mg C) (M : Nm mg) (cA : C8.Cal P w K mg base DEEP "all_things" (spAll K C DEEP) []) : C8.Cal P w K mg base (DEEP + 1) "is_full" (spFull K C) [] := by
  refine R.cal scFull (fun vs H Q E h => ?_) (fun f cdv A outer s H vs Q E hr h => ?_)
  · obtain ⟨a, la, ts, rfl, _⟩ := h
    rfl
  · obtain ⟨a, la, ts, rfl, hH, hT, hd, hsz, k⟩ := h
    refine ⟨_, pss_one (ps_ret (pe_cmpR op_ge (pe_callB call_len_seq (by rfl) T.zlen PySem.boot_len (pa_cons (C8.pe_c cA hr (Nat.le_refl _) (by rfl) (pa_cons (pv 0) pa_nil)) pa_nil)) (pe_num (by rfl) M.most) (nomark _))), ?_⟩
    refine ⟨_, rfl, a, la, ts, rfl, hH, hT, hd, hsz, fun H1 r s1 hr1 er => ?_⟩
    refine ⟨r, _, rfl, .inl (SqL.of er), _, _, rfl, rfl, ?_⟩
    have e : decide ((10 : Int) ≤ (((refs (flat ts)).length : Nat) : Int)) = decide (10 ≤ (flat ts).length) := by
      rw [refs_length]
      by_cases q : 10 ≤ (flat ts).length
      · rw [decide_eq_true q, decide_eq_true (by omega)]
      · rw [decide_eq_false q, decide_eq_false (by omega)]
    show Q (.bl (decide ((10 : Int) ≤ (((refs (flat ts)).length : Nat) : Int)))) H1
    rw [e]
    exact k H1 s1
def spBeg (C : Cs) : Sp := fun vs H Q _ => ∃ (p : Addr) (wd ht : Nat), vs = [.ref p, .int wd, .int ht] ∧ Prom C p (.begin_ wd ht) H Q
theorem scBeg : FnScope ["picture", "w", "h"] ["picture", "w", "h"] (C8.fnScope sBegin) := C8.fnScope_by (by decide +kernel)
theorem side_iff (n : Nat) : decide (1 ≤ (n : Int) ∧ (n : Int) ≤ 8) = true ↔ ¬ (n = 0 ∨ 8 < n) := by
  rw [decide_eq_true_iff]; omega
theorem side_not (n : Nat) : (!decide (1 ≤ (n : Int) ∧ (n : Int) ≤ 8)) = decide (n = 0 ∨ 8 < n) := by
  by_cases q : n = 0 ∨ 8 < n
  · rw [decide_eq_true q, decide_eq_false (by omega)]; rfl
  · rw [decide_eq_false q, decide_eq_true (by omega)]; rfl
theorem flat_nil : flat [] = [] := by unfold flat; rfl
theorem no_nil {t : AT} (h : t ∈ flat []) : False := by rw [flat_nil] at h; cases h
theorem begin_ok (R : Raw K mg "begin" sBegin ["picture", "w", "h"]) (T : Tx K mg C) (M : Nm mg) (cS : C8.Cal P w K mg base 1 "is_side" spSide []) (cB : C8.Met P w K mg base 1 C.P "begin" (spBegin C) []) : C8.Cal P w K mg base 2 "begin" (spBeg C) [] := by
  refine R.cal scBeg (fun vs H Q E h => ?_) (fun f cdv A outer s H vs Q E hr h => ?_)
  · obtain ⟨p, wd, ht, rfl, _⟩ := h
    rfl
  · obtain ⟨p, wd, ht, rfl, g, F, S, k⟩ := h
    refine ⟨_, pss_cons (ps_if (PW.pt (pw_or (pt_not (pt_val (C8.pe_c cS hr (Nat.le_refl _) (by rfl) (pa_cons (pv 1) pa_nil)))) (pw_or1 (pt_not (pt_val (C8.pe_c cS hr (Nat.le_refl _) (by rfl) (pa_cons (pv 2) pa_nil)))))))
        (pss_one (ps_ret (pe_num (by rfl) M.bad))) pss_nil)
      (pss_cons (ps_expr (C8.pe_mt cB hr (Nat.le_refl _) (pv 0) (pa_cons (pv 1) (pa_cons (pv 2) pa_nil))))
      (pss_one (ps_ret pe_int))), ?_⟩
    refine ⟨_, rfl, _, rfl, _, rfl, iteB (fun c => ?_) (fun c => ?_)⟩
    · have c' : wd = 0 ∨ 8 < wd := of_decide_eq_true (by rw [← side_not]; exact c)
      refine iteT (refused S k ?_ (Same.refl _))
      show (if wd = 0 ∨ 8 < wd ∨ ht = 0 ∨ 8 < ht then (g, says (-1)) else _) = _
      rw [if_pos (by omega)]
    · have c' : ¬ (wd = 0 ∨ 8 < wd) := of_decide_eq_false (by rw [← side_not]; exact c)
      refine ⟨_, rfl, _, rfl, _, rfl, iteB (fun c2 => ?_) (fun c2 => ?_)⟩
      · have c2' : ht = 0 ∨ 8 < ht := of_decide_eq_true (by rw [← side_not]; exact c2)
        refine refused S k ?_ (Same.refl _)
        show (if wd = 0 ∨ 8 < wd ∨ ht = 0 ∨ 8 < ht then (g, says (-1)) else _) = _
        rw [if_pos (by omega)]
      · have c2' : ¬ (ht = 0 ∨ 8 < ht) := of_decide_eq_false (by rw [← side_not]; exact c2)
        obtain ⟨dx, la, ts, ow, A', hF⟩ := S
        refine ⟨_, rfl, p, dx, _, rfl, A'.self, picF_begin .., _, rfl, _, rfl, p, dx, _, wd, ht, rfl, A'.self, .inr ⟨_, _, _, _, rfl⟩, fun la' hla' => ?_⟩
        have e : g.step (.begin_ wd ht) = (⟨wd, ht, [], 0⟩, says 0) := by
          show (if wd = 0 ∨ 8 < wd ∨ ht = 0 ∨ 8 < ht then (g, says (-1)) else _) = _
          rw [if_neg (by omega)]
        have npl : la' ≠ p := fun q => by rw [q, A'.self] at hla'; cases hla'
        have q := k (upd (upd H la' (.lst [])) p (.ins C.P dx (picF wd ht la' 0)))
        rw [e] at q
        refine q ⟨dx, la', [], fun _ => 0, ⟨upd_same, by rw [upd_ne npl]; exact upd_same, fun t h => (no_nil h).elim, rfl, rfl, fun t h => (no_nil h).elim, by unfold nodes; rfl, by rw [flat_nil]; exact List.nodup_nil, fun t h => (no_nil h).elim, by rw [flat_nil]; exact Nat.zero_le _, by unfold nodes LGood; trivial, by show 1 ≤ wd; omega, by show wd ≤ 8; omega, by show 1 ≤ ht; omega, by show ht ≤ 8; omega⟩, fun b hb => ?_⟩ ?_ rfl
        · rcases foot_cases hb with rfl | rfl | ⟨t, h, _⟩
          · exact .inl (hF _ mem_foot_p)
          · exact .inr hla'
          · rw [flat_nil] at h; cases h
        · intro b o e n
          rw [upd_ne (fun q => n (by rw [q]; exact hF _ mem_foot_p)), upd_ne (ne_of_none e hla')]
          exact e
/-! ### how -/
def AT.setHow (h : How) : AT → AT
  | .layer a pa _ x y w ht px => .layer a pa h x y w ht px
  | .group a la _ l => .group a la h l
def thI (n s st wy cl : Int) : List (Str × V) := [("number", .int n), ("seen", .int s), ("strong", .int st), ("way", .int wy), ("clipped", .int cl)]
theorem put_how (n s st wy cl s' st' wy' cl' : Int) (r : List (Str × V)) : putF "clipped" (.int cl') (putF "way" (.int wy') (putF "strong" (.int st') (putF "seen" (.int s') (thI n s st wy cl ++ r)))) = thI n s' st' wy' cl' ++ r := by
  unfold thI
  simp only [List.cons_append, List.nil_append]
  repeat (first | rw [put_here] | rw [put_past (by decide +kernel)])
theorem put_len (g : Str) (v : V) (l : List (Str × V)) : (putF g v l).length ≤ l.length + 1 := by
  induction l with
  | nil => exact Nat.le_refl _
  | cons x r ih =>
    obtain ⟨a, b⟩ := x
    by_cases q : a = g
    · rw [q, put_here]; simp
    · rw [put_past q]; simp only [List.length_cons]; omega
/-- a thing's object -/
theorem own_ins {H : Hp} {t : AT} (T : Tx K mg C) (o : Own C H t) : ∃ D dx r, H t.addr = some (.ins D dx (thF t.how ++ r)) ∧ Cls K D ∧ (∀ f ∈ thNames, NoAttr K D f) ∧ r.length ≤ 5 ∧
    ∀ (H' : Hp) (h' : How), H' t.addr = some (.ins D dx (thF h' ++ r)) → (∀ b o, H b = some o → b ≠ t.addr → H' b = some o) → Own C H' (t.setHow h') := by
  cases t with
  | layer a pa h x y w ht px =>
    obtain ⟨⟨dx, e⟩, e2⟩ := o
    refine ⟨C.L, dx, _, e, T.iL.cl, fun f hf => T.nL f (thL hf), (by show 5 ≤ 5; decide), fun H' h' e' k => ⟨⟨dx, e'⟩, k _ _ e2 ?_⟩⟩
    exact ne_of e2 e (by intro z; cases z)
  | group a la h l =>
    obtain ⟨⟨dx, e⟩, e2⟩ := o
    refine ⟨C.G, dx, _, e, T.iG.cl, fun f hf => T.nG f (thG hf), (by show 1 ≤ 5; decide), fun H' h' e' k => ⟨⟨dx, e'⟩, k _ _ e2 ?_⟩⟩
    exact ne_of e2 e (by intro z; cases z)
theorem addr_mem (t : AT) : t.addr ∈ t.cells := by cases t <;> (unfold AT.cells AT.addr; exact List.mem_cons_self)
theorem foundV_non (o : Option AT) : decide (foundV o = V.non) = !o.isSome := by cases o <;> rfl
def spHow (C : Cs) : Sp := fun vs H Q _ => ∃ (p : Addr) (i s a m c : Nat), vs = [.ref p, .int i, .int s, .int a, .int m, .int c] ∧ Prom C p (.how i s a m c) H Q
theorem scHow : FnScope ["picture", "number", "seen", "strong", "way", "clipped", "thing"] ["picture", "number", "seen", "strong", "way", "clipped"] (C8.fnScope sSetHow) := C8.fnScope_by (by decide +kernel)
theorem how_bad {g : House} {i s a m c : Nat} (h : 1 < s ∨ 255 < a ∨ 6 < m ∨ 1 < c) : g.step (.how i s a m c) = (g, says (-1)) := by
  show (if 1 < s ∨ 255 < a ∨ 6 < m ∨ 1 < c then (g, says (-1)) else _) = _
  rw [if_pos h]
theorem found_of {C : Cs} {H : Hp} {p dx la : Addr} {ts : List AT} {ow : Addr → Nat} {g : House} (A : PicAt C H p dx la ts ow g) (i : Nat) : Node.findAll i g.nodes = ((flat ts).find? fun u => u.id == i).map AT.node := by
  rw [A.ns, find_all]
theorem b2n_of {s : Nat} (h : s ≤ 1) : b2n (s == 1) = (s : Int) := by
  unfold b2n
  have : s = 0 ∨ s = 1 := by omega
  rcases this with e | e <;> (subst e; rfl)
theorem how_node (t : AT) (h : How) : (t.setHow h).node = t.node.to h := by
  cases t with
  | layer => unfold AT.setHow AT.node; rfl
  | group => unfold AT.setHow AT.node; rfl
theorem to_good {n : Node} {h : How} (g : NGood n) (hg : HGood h) : NGood (n.to h) := by
  cases n with
  | layer => unfold NGood at g; unfold Node.to NGood; exact ⟨hg, g.2⟩
  | group => unfold NGood at g; unfold Node.to NGood; exact ⟨hg, g.2⟩
theorem how_ok (R : Raw K mg "set_how" sSetHow ["picture", "number", "seen", "strong", "way", "clipped"]) (T : Tx K mg C) (M : Nm mg) (cF : C8.Cal P w K mg base (DEEP + 1) "find_thing" (spFind K C) []) : C8.Cal P w K mg base (DEEP + 2) "set_how" (spHow C) [] := by
  refine R.cal scHow (fun vs H Q E h => ?_) (fun f cdv A outer s H vs Q E hr h => ?_)
  · obtain ⟨p, i, s, a, m, c, rfl, _⟩ := h
    rfl
  · obtain ⟨p, i, sn, a, m, c, rfl, g, F, S, k⟩ := h
    refine ⟨_, pss_cons (ps_if (PW.pt (pw_or (pt_cmpR op_gt (pv 2) pe_int (nomark _)) (pw_or (pt_cmpR op_gt (pv 3) (pe_num (by rfl) M.level) (nomark _)) (pw_or (pt_cmpR op_gt (pv 4) (pe_num (by rfl) M.way) (nomark _)) (pw_or1 (pt_cmpR op_gt (pv 5) pe_int (nomark _)))))))
        (pss_one (ps_ret (pe_num (by rfl) M.bad))) pss_nil)
      (pss_cons (ps_set (i := 6) scHow.nd rfl (Or.inl rfl) (C8.pe_c cF hr (Nat.le_refl _) (by rfl) (pa_cons (pv 0) (pa_cons (pv 1) pa_nil))))
      (pss_cons (ps_if (pt_cmpR op_isN (pv 6) pe_non (nomark _)) (pss_one (ps_ret (pe_num (by rfl) M.no))) pss_nil)
      (pss_cons (ps_fld (pv 6) (pv 2) rfl) (pss_cons (ps_fld (pv 6) (pv 3) rfl) (pss_cons (ps_fld (pv 6) (pv 4) rfl) (pss_cons (ps_fld (pv 6) (pv 5) rfl)
      (pss_one (ps_ret pe_int)))))))), ?_⟩
    refine ⟨_, rfl, _, _, rfl, rfl, _, rfl, ite2 (fun q => ?_) (fun q1 => ?_)⟩
    · have q' : (1 : Int) < sn := of_decide_eq_true q
      exact iteT (refused S k (how_bad (by omega)) (Same.refl _))
    have q1' : ¬ (1 : Int) < sn := of_decide_eq_false (Bool.eq_false_iff.mpr q1)
    refine ⟨_, rfl, _, _, rfl, rfl, _, rfl, ite2 (fun q => ?_) (fun q2 => ?_)⟩
    · have q' : (255 : Int) < a := of_decide_eq_true q
      exact iteT (refused S k (how_bad (by omega)) (Same.refl _))
    have q2' : ¬ (255 : Int) < a := of_decide_eq_false (Bool.eq_false_iff.mpr q2)
    refine ⟨_, rfl, _, _, rfl, rfl, _, rfl, ite2 (fun q => ?_) (fun q3 => ?_)⟩
    · have q' : (6 : Int) < m := of_decide_eq_true q
      exact iteT (refused S k (how_bad (by omega)) (Same.refl _))
    have q3' : ¬ (6 : Int) < m := of_decide_eq_false (Bool.eq_false_iff.mpr q3)
    refine ⟨_, rfl, _, _, rfl, rfl, _, rfl, ite2 (fun q => ?_) (fun q4 => ?_)⟩
    · have q' : (1 : Int) < c := of_decide_eq_true q
      exact refused S k (how_bad (by omega)) (Same.refl _)
    have q4' : ¬ (1 : Int) < c := of_decide_eq_false (Bool.eq_false_iff.mpr q4)
    have nb : ¬ (1 < sn ∨ 255 < a ∨ 6 < m ∨ 1 < c) := by omega
    obtain ⟨dx, la, ts, ow, A', hF⟩ := S
    have S' : State C H p g F := ⟨dx, la, ts, ow, A', hF⟩
    refine ⟨_, rfl, _, rfl, p, la, ts, i, rfl, A'.holder T, A'.held, A'.deep, A'.few, fun H1 s1 => ?_⟩
    refine ⟨_, rfl, rfl, _, rfl, ?_⟩
    rw [foundV_non]
    have es : g.step (.how i sn a m c) = g.found i fun _ => (g.to (Node.allAt i (fun n => n.to ⟨i, sn == 1, a, m, c == 1⟩) g.nodes), says 0) := by
      show (if 1 < sn ∨ 255 < a ∨ 6 < m ∨ 1 < c then (g, says (-1)) else _) = _
      rw [if_neg nb]
    unfold House.found at es
    rw [found_of A' i] at es
    cases e : (flat ts).find? (fun t => t.id == i) with
    | none =>
      rw [e] at es
      exact iteT (refused S' k es s1)
    | some t =>
      rw [e] at es
      refine iteF ?_
      have tm : t ∈ flat ts := List.mem_of_find?_eq_some e
      have tid : t.id = i := by
        have z := List.find?_some e
        exact beq_iff_eq.mp z
      have ot := (A'.held t tm).same s1
      obtain ⟨D, dt, r, e1, e2, e3, e4, e5⟩ := own_ins T ot
      have l0 : (thF t.how ++ r).length ≤ 10 := by rw [List.length_append]; show 5 + _ ≤ 10; omega
      have l1 := put_len "seen" (.int sn) (thF t.how ++ r)
      have l2 := put_len "strong" (.int a) (putF "seen" (.int sn) (thF t.how ++ r))
      have l3 := put_len "way" (.int m) (putF "strong" (.int a) (putF "seen" (.int sn) (thF t.how ++ r)))
      refine ⟨_, rfl, _, rfl, t.addr, D, dt, _, rfl, e1, e2, e3 _ (by decide +kernel), by omega, ?_⟩
      refine ⟨_, rfl, _, rfl, t.addr, D, dt, _, rfl, upd_same, e2, e3 _ (by decide +kernel), by omega, ?_⟩
      refine ⟨_, rfl, _, rfl, t.addr, D, dt, _, rfl, upd_same, e2, e3 _ (by decide +kernel), by omega, ?_⟩
      refine ⟨_, rfl, _, rfl, t.addr, D, dt, _, rfl, upd_same, e2, e3 _ (by decide +kernel), by omega, ?_⟩
      rw [upd_upd, upd_upd, upd_upd]
      have ef : putF "clipped" (.int c) (putF "way" (.int m) (putF "strong" (.int a) (putF "seen" (.int sn) (thF t.how ++ r)))) = thF ⟨i, sn == 1, a, m, c == 1⟩ ++ r := by
        have z := put_how t.how.id (b2n t.how.seen) t.how.strong t.how.way (b2n t.how.clip) sn a m c r
        have z2 : thF ⟨i, sn == 1, a, m, c == 1⟩ = thI i sn a m c := by
          unfold thF thI
          rw [b2n_of (by omega), b2n_of (by omega)]
        rw [z2, ← tid]
        exact z
      rw [upd_eq (congrArg (fun q => HO.ins D dt q) ef)]
      have hK : ∀ b o, H b = some o → b ∉ t.cells → upd H1 t.addr (.ins D dt (thF ⟨i, sn == 1, a, m, c == 1⟩ ++ r)) b = some o := fun b o eb nb => by
        rw [upd_ne (fun q => nb (by rw [q]; exact addr_mem t))]; exact s1 b o eb
      have md := A'.modify (f := AT.setHow ⟨i, sn == 1, a, m, c == 1⟩) (F := fun n => n.to ⟨i, sn == 1, a, m, c == 1⟩) (H' := upd H1 t.addr (.ins D dt (thF ⟨i, sn == 1, a, m, c == 1⟩ ++ r))) tm tid (by cases t <;> rfl) (by cases t <;> rfl) (by cases t <;> rfl) (by cases t <;> rfl)
        (e5 _ _ upd_same (fun b o eb nb => by rw [upd_ne nb]; exact eb)) hK (how_node _ _) (by rw [how_node]; exact to_good (good_mem ts A'.good t tm) ⟨by show a ≤ 255; omega, by show m ≤ 6; omega⟩)
      have q := k (upd H1 t.addr (.ins D dt (thF ⟨i, sn == 1, a, m, c == 1⟩ ++ r)))
      rw [es] at q
      refine q ⟨dx, la, _, ow, md.1, fun b hb => .inl (hF b (md.2 b hb))⟩ (fun b o eb nF => hK b o eb fun q => nF (hF b (mem_foot_t tm q))) rfl
end
end Lay
set_option Elab.async false
set_option linter.all false
set_option maxRecDepth 100000
set_option maxHeartbeats 2000000
namespace Lay
open PySem PySem.Spec PyProof.Rows L2
open Sq49 (Node How House says offset)
open LFrac (NGood LGood HGood)
def AT.setXY (x y : Int) : AT → AT
  | .layer a pa h _ _ w ht px => .layer a pa h x y w ht px
  | t => t
def AT.setPx (n : Nat) (v : Nat × Nat) : AT → AT
  | .layer a pa h x y w ht px => .layer a pa h x y w ht (px.set n v)
  | t => t
theorem node_layer (a pa : Addr) (h : How) (x y : Int) (w ht : Nat) (px : List (Nat × Nat)) : (AT.layer a pa h x y w ht px).node = .layer h x y w ht px := by unfold AT.node; rfl
theorem node_group (a la : Addr) (h : How) (l : List AT) : (AT.group a la h l).node = .group h (nodes l) := by unfold AT.node; rfl
theorem put_xy (h : How) (x y x' y' : Int) (w ht : Nat) (pa : Addr) : putF "y" (.int y') (putF "x" (.int x') (layF h x y w ht pa)) = layF h x' y' w ht pa := by
  unfold layF thF
  simp only [List.cons_append, List.nil_append]
  repeat (first | rw [put_here] | rw [put_past (by decide +kernel)])
theorem layF_width (h : How) (x y : Int) (w ht : Nat) (pa : Addr) : (layF h x y w ht pa).lookup ("width" : Str) = some (.int w) := by
  unfold layF thF
  repeat (first | exact lk_here | refine (lk_past (by decide +kernel)).trans ?_)
theorem layF_height (h : How) (x y : Int) (w ht : Nat) (pa : Addr) : (layF h x y w ht pa).lookup ("height" : Str) = some (.int ht) := by
  unfold layF thF
  repeat (first | exact lk_here | refine (lk_past (by decide +kernel)).trans ?_)
theorem layF_pixels (h : How) (x y : Int) (w ht : Nat) (pa : Addr) : (layF h x y w ht pa).lookup ("pixels" : Str) = some (.ref pa) := by
  unfold layF thF
  repeat (first | exact lk_here | refine (lk_past (by decide +kernel)).trans ?_)
theorem flatP_length : ∀ px : List (Nat × Nat), (flatP px).length = 2 * px.length
  | [] => rfl
  | p :: l => by
    show (V.int p.1 :: V.int p.2 :: flatP l).length = _
    rw [List.length_cons, List.length_cons, flatP_length l, List.length_cons]
    omega
theorem flatP_set : ∀ (px : List (Nat × Nat)) (n : Nat) (v : Nat × Nat), ((flatP px).set (2 * n) (.int v.1)).set (2 * n + 1) (.int v.2) = flatP (px.set n v)
  | [], n, v => rfl
  | p :: l, 0, v => rfl
  | p :: l, n + 1, v => by
    have ih := flatP_set l n v
    show ((V.int p.1 :: V.int p.2 :: flatP l).set (2 * (n + 1)) (.int v.1)).set (2 * (n + 1) + 1) (.int v.2) = V.int p.1 :: V.int p.2 :: flatP (l.set n v)
    rw [show 2 * (n + 1) = (2 * n + 1) + 1 by omega, List.set_cons_succ, List.set_cons_succ, List.set_cons_succ, List.set_cons_succ, ih]
abbrev sPix : Stmt := topS 15
section
variable {P : Program} {w : World} {K : PySem.W.Frag} {mg : Str → Option Value} {base : Heap} {C : Cs}
/-- where a layer's own pixel begins -/
def pixV (w ht : Nat) (x y : Int) : V := if 0 ≤ x ∧ x < w ∧ 0 ≤ y ∧ y < ht then .int (2 * (y * w + x)) else .non
def spPix (C : Cs) : Sp := fun vs H Q _ => ∃ (a dx pa : Addr) (h : How) (lx ly : Int) (wd ht : Nat) (x y : Int), vs = [.ref a, .int x, .int y] ∧ H a = some (.ins C.L dx (layF h lx ly wd ht pa)) ∧ wd ≤ 8 ∧ Q (pixV wd ht x y) H
theorem scPix : FnScope ["layer", "x", "y"] ["layer", "x", "y"] (C8.fnScope sPix) := C8.fnScope_by (by decide +kernel)
theorem pix_ok (R : Raw K mg "place_of_pixel" sPix ["layer", "x", "y"]) (T : Tx K mg C) : C8.Cal P w K mg base 1 "place_of_pixel" (spPix C) [] := by
  refine R.cal scPix (fun vs H Q E h => ?_) (fun f cdv A outer s H vs Q E hr h => ?_)
  · obtain ⟨a, dx, pa, h, lx, ly, wd, ht, x, y, rfl, _⟩ := h
    rfl
  · obtain ⟨a, dx, pa, h, lx, ly, wd, ht, x, y, rfl, e1, w8, k⟩ := h
    refine ⟨_, pss_cons (ps_if (PW.pt (pw_and (pt_chain op_le op_lt pe_int (pv 1) (pe_fld (pv 0) rfl)) (pw_and1 (pt_chain op_le op_lt pe_int (pv 2) (pe_fld (pv 0) rfl)))))
        (pss_one (ps_ret (pe_op op_mul pe_int (pe_op op_add (pe_op op_mul (pv 2) (pe_fld (pv 0) rfl)) (pv 1))))) pss_nil)
      (pss_one (ps_ret pe_non)), ?_⟩
    have cl := T.iL.cl
    refine ⟨_, rfl, _, _, rfl, rfl, _, rfl, iteB (fun c1 => ?_) (fun c1 => ?_)⟩
    · have c1' : (0 : Int) ≤ x := of_decide_eq_true c1
      refine ⟨_, rfl, a, C.L, dx, _, _, rfl, e1, cl, T.nL _ (by decide +kernel), layF_width .., _, _, rfl, rfl, _, rfl, iteB (fun c2 => ?_) (fun c2 => ?_)⟩
      · have c2' : x < (wd : Int) := of_decide_eq_true c2
        refine ⟨_, rfl, _, _, rfl, rfl, _, rfl, iteB (fun c3 => ?_) (fun c3 => ?_)⟩
        · have c3' : (0 : Int) ≤ y := of_decide_eq_true c3
          refine ⟨_, rfl, a, C.L, dx, _, _, rfl, e1, cl, T.nL _ (by decide +kernel), layF_height .., _, _, rfl, rfl, _, rfl, iteB (fun c4 => ?_) (fun c4 => ?_)⟩
          · have c4' : y < (ht : Int) := of_decide_eq_true c4
            refine ⟨_, rfl, _, rfl, a, C.L, dx, _, _, rfl, e1, cl, T.nL _ (by decide +kernel), layF_width .., _, _, rfl, rfl, .inr ⟨by omega, by omega⟩, _, rfl, _, _, rfl, rfl, _, _, rfl, rfl, .inl ⟨by decide, by decide⟩, ?_⟩
            unfold pixV at k
            rw [if_pos ⟨c1', c2', c3', c4'⟩] at k
            exact k
          · have c4' : ¬ y < (ht : Int) := of_decide_eq_false c4
            unfold pixV at k
            rw [if_neg (by omega)] at k
            exact k
        · have c3' : ¬ (0 : Int) ≤ y := of_decide_eq_false c3
          refine ⟨_, rfl, ?_⟩
          unfold pixV at k
          rw [if_neg (by omega)] at k
          exact k
      · have c2' : ¬ x < (wd : Int) := of_decide_eq_false c2
        unfold pixV at k
        rw [if_neg (by omega)] at k
        exact iteF k
    · have c1' : ¬ (0 : Int) ≤ x := of_decide_eq_false c1
      refine ⟨_, rfl, ?_⟩
      unfold pixV at k
      rw [if_neg (by omega)] at k
      exact iteF k
def spShift (C : Cs) : Sp := fun vs H Q _ => ∃ (p : Addr) (i x y : Nat), vs = [.ref p, .int i, .int x, .int y] ∧ Prom C p (.shift i x y) H Q
theorem scShift : FnScope ["picture", "number", "x", "y", "layer"] ["picture", "number", "x", "y"] (C8.fnScope sShift) := C8.fnScope_by (by decide +kernel)
theorem shift_bad {g : House} {i x y : Nat} (h : 64 < x ∨ 64 < y) : g.step (.shift i x y) = (g, says (-1)) := by
  show (if 2 * 32 < x ∨ 2 * 32 < y then (g, says (-1)) else _) = _
  rw [if_pos h]
theorem shift_ok (R : Raw K mg "shift_layer" sShift ["picture", "number", "x", "y"]) (T : Tx K mg C) (M : Nm mg) (cF : C8.Cal P w K mg base (DEEP + 1) "find_thing" (spFind K C) []) : C8.Cal P w K mg base (DEEP + 2) "shift_layer" (spShift C) [] := by
  refine R.cal scShift (fun vs H Q E h => ?_) (fun f cdv A outer s H vs Q E hr h => ?_)
  · obtain ⟨p, i, x, y, rfl, _⟩ := h
    rfl
  · obtain ⟨p, i, x, y, rfl, g, F, S, k⟩ := h
    refine ⟨_, pss_cons (ps_if (PW.pt (pw_or (pt_cmpR op_gt (pv 2) (pe_num (by rfl) M.far) (nomark _)) (pw_or1 (pt_cmpR op_gt (pv 3) (pe_num (by rfl) M.far) (nomark _)))))
        (pss_one (ps_ret (pe_num (by rfl) M.bad))) pss_nil)
      (pss_cons (ps_set (i := 4) scShift.nd rfl (Or.inl rfl) (C8.pe_c cF hr (Nat.le_refl _) (by rfl) (pa_cons (pv 0) (pa_cons (pv 1) pa_nil))))
      (pss_cons (ps_if (pt_cmpR op_isN (pv 4) pe_non (nomark _)) (pss_one (ps_ret (pe_num (by rfl) M.no))) pss_nil)
      (pss_cons (ps_if (pt_not (pt_val (pe_callB call_isi (by rfl) T.zisi boot_isi (pa_cons (pv 4) (pa_cons (pe_ref (by rfl) T.gL) pa_nil))))) (pss_one (ps_ret (pe_num (by rfl) M.unfit))) pss_nil)
      (pss_cons (ps_fld (pv 4) (pe_op op_sub (pv 2) (pe_num (by rfl) M.told)) rfl) (pss_cons (ps_fld (pv 4) (pe_op op_sub (pv 3) (pe_num (by rfl) M.told)) rfl)
      (pss_one (ps_ret pe_int))))))), ?_⟩
    refine ⟨_, rfl, _, _, rfl, rfl, _, rfl, ite2 (fun q => ?_) (fun q1 => ?_)⟩
    · have q' : (64 : Int) < x := of_decide_eq_true q
      exact iteT (refused S k (shift_bad (by omega)) (Same.refl _))
    have q1' : ¬ (64 : Int) < x := of_decide_eq_false (Bool.eq_false_iff.mpr q1)
    refine ⟨_, rfl, _, _, rfl, rfl, _, rfl, ite2 (fun q => ?_) (fun q2 => ?_)⟩
    · have q' : (64 : Int) < y := of_decide_eq_true q
      exact refused S k (shift_bad (by omega)) (Same.refl _)
    have q2' : ¬ (64 : Int) < y := of_decide_eq_false (Bool.eq_false_iff.mpr q2)
    obtain ⟨dx, la, ts, ow, A', hF⟩ := S
    have S' : State C H p g F := ⟨dx, la, ts, ow, A', hF⟩
    refine ⟨_, rfl, _, rfl, p, la, ts, i, rfl, A'.holder T, A'.held, A'.deep, A'.few, fun H1 s1 => ?_⟩
    refine ⟨_, rfl, rfl, _, rfl, ?_⟩
    rw [foundV_non]
    have es : g.step (.shift i x y) = g.found i fun n => match n with
        | .group _ _ => (g, says (-3))
        | .layer _ _ _ _ _ _ => (g.to (Node.allAt i (fun m => match m with
          | .layer a _ _ w h l => .layer a (offset x) (offset y) w h l
          | m => m) g.nodes), says 0) := by
      show (if 2 * 32 < x ∨ 2 * 32 < y then (g, says (-1)) else _) = _
      rw [if_neg (by omega)]
      rfl
    unfold House.found at es
    rw [found_of A' i] at es
    cases e : (flat ts).find? (fun t => t.id == i) with
    | none =>
      rw [e] at es
      exact iteT (refused S' k es s1)
    | some t =>
      rw [e] at es
      refine iteF ?_
      have tm : t ∈ flat ts := List.mem_of_find?_eq_some e
      have tid : t.id = i := by
        have z := List.find?_some e
        exact beq_iff_eq.mp z
      have ot := (A'.held t tm).same s1
      obtain ⟨ty, h1, h2⟩ := own_isL T ot
      refine ⟨_, rfl, _, _, ty, _, _, rfl, .own C.L, h1, h2, _, rfl, ?_⟩
      cases t with
      | group ta tla th tl =>
        rw [Option.map_some, node_group] at es
        exact iteT (refused S' k es s1)
      | layer ta tpa th tx ty' tw tht tpx =>
        rw [Option.map_some, node_layer] at es
        refine iteF ?_
        obtain ⟨⟨dt, e1⟩, e2⟩ := ot
        have c := T.iL.cl
        refine ⟨_, rfl, _, _, rfl, rfl, _, rfl, ta, C.L, dt, _, rfl, e1, c, T.nL _ (by decide +kernel), (by show 10 < 1000; decide), ?_⟩
        refine ⟨_, rfl, _, _, rfl, rfl, _, rfl, ta, C.L, dt, _, rfl, upd_same, c, T.nL _ (by decide +kernel), ?_, ?_⟩
        · exact Nat.lt_of_le_of_lt (put_len _ _ _) (by show 11 < 1000; decide)
        rw [upd_upd]
        have ef : putF "y" (.int ((y : Int) - 32)) (putF "x" (.int ((x : Int) - 32)) (layF th tx ty' tw tht tpa)) = layF th (offset x) (offset y) tw tht tpa := put_xy ..
        have hK : ∀ b o, H b = some o → b ∉ (AT.layer ta tpa th tx ty' tw tht tpx).cells → upd H1 ta (.ins C.L dt (layF th (offset x) (offset y) tw tht tpa)) b = some o := fun b o eb nb => by
          rw [upd_ne (fun q => nb (by rw [q]; exact addr_mem (AT.layer ta tpa th tx ty' tw tht tpx)))]; exact s1 b o eb
        have md := A'.modify (f := AT.setXY (offset x) (offset y)) (F := fun m => match m with
          | .layer a _ _ w h l => .layer a (offset x) (offset y) w h l
          | m => m) (H' := upd H1 ta (.ins C.L dt (layF th (offset x) (offset y) tw tht tpa))) tm tid rfl tid rfl rfl
          ⟨⟨dt, upd_same⟩, by rw [upd_ne (ne_of e2 e1 (by intro z; cases z))]; exact e2⟩ hK (by unfold AT.setXY AT.node; rfl) (by
            have gd := good_mem ts A'.good _ tm
            unfold AT.node NGood at gd
            unfold AT.setXY AT.node NGood
            exact gd)
        have q := k (upd H1 ta (.ins C.L dt (layF th (offset x) (offset y) tw tht tpa)))
        rw [es] at q
        have q2 := q ⟨dx, la, _, ow, md.1, fun b hb => .inl (hF b (md.2 b hb))⟩ (fun b o eb nF => hK b o eb fun q => nF (hF b (mem_foot_t tm q))) rfl
        rw [← upd_eq (H := H1) (a := ta) (congrArg (fun q => HO.ins C.L dt q) ef)] at q2
        exact q2
def spPaint (C : Cs) : Sp := fun vs H Q _ => ∃ (p : Addr) (i x y v c : Nat), vs = [.ref p, .int i, .int x, .int y, .int v, .int c] ∧ Prom C p (.paint i x y v c) H Q
theorem scPaint : FnScope ["picture", "number", "x", "y", "colour", "cover", "layer", "place"] ["picture", "number", "x", "y", "colour", "cover"] (C8.fnScope sPaint) := C8.fnScope_by (by decide +kernel)
theorem paint_bad {g : House} {i x y v c : Nat} (h : 255 < v ∨ 255 < c) : g.step (.paint i x y v c) = (g, says (-1)) := by
  show (if 255 < v ∨ 255 < c then (g, says (-1)) else _) = _
  rw [if_pos h]
theorem ixN_nat {n k : Nat} (h : k < n) : ixN n (k : Int) = some k := by
  unfold ixN
  rw [if_pos (by omega), if_pos (by omega)]
  rfl
theorem paint_ok (R : Raw K mg "paint_layer" sPaint ["picture", "number", "x", "y", "colour", "cover"]) (T : Tx K mg C) (M : Nm mg) (cX : C8.Cal P w K mg base 1 "place_of_pixel" (spPix C) []) (cF : C8.Cal P w K mg base (DEEP + 1) "find_thing" (spFind K C) []) : C8.Cal P w K mg base (DEEP + 2) "paint_layer" (spPaint C) [] := by
  refine R.cal scPaint (fun vs H Q E h => ?_) (fun f cdv A outer s H vs Q E hr h => ?_)
  · obtain ⟨p, i, x, y, v, c, rfl, _⟩ := h
    rfl
  · obtain ⟨p, i, x, y, v, c, rfl, g, F, S, k⟩ := h
    refine ⟨_, pss_cons (ps_if (PW.pt (pw_or (pt_cmpR op_gt (pv 4) (pe_num (by rfl) M.level) (nomark _)) (pw_or1 (pt_cmpR op_gt (pv 5) (pe_num (by rfl) M.level) (nomark _)))))
        (pss_one (ps_ret (pe_num (by rfl) M.bad))) pss_nil)
      (pss_cons (ps_set (i := 6) scPaint.nd rfl (Or.inl rfl) (C8.pe_c cF hr (Nat.le_refl _) (by rfl) (pa_cons (pv 0) (pa_cons (pv 1) pa_nil))))
      (pss_cons (ps_if (pt_cmpR op_isN (pv 6) pe_non (nomark _)) (pss_one (ps_ret (pe_num (by rfl) M.no))) pss_nil)
      (pss_cons (ps_if (pt_not (pt_val (pe_callB call_isi (by rfl) T.zisi boot_isi (pa_cons (pv 6) (pa_cons (pe_ref (by rfl) T.gL) pa_nil))))) (pss_one (ps_ret (pe_num (by rfl) M.unfit))) pss_nil)
      (pss_cons (ps_set (i := 7) scPaint.nd rfl (Or.inl rfl) (C8.pe_c cX hr (by decide) (by rfl) (pa_cons (pv 6) (pa_cons (pv 2) (pa_cons (pv 3) pa_nil)))))
      (pss_cons (ps_if (pt_cmpR op_isN (pv 7) pe_non (nomark _)) (pss_one (ps_ret (pe_num (by rfl) M.bad))) pss_nil)
      (pss_cons (ps_asg (pv 4) (pg_sub (pe_fld (pv 6) rfl) (pv 7) set_list))
      (pss_cons (ps_asg (pv 5) (pg_sub (pe_fld (pv 6) rfl) (pe_op op_add (pv 7) pe_int) set_list))
      (pss_one (ps_ret pe_int))))))))), ?_⟩
    refine ⟨_, rfl, _, _, rfl, rfl, _, rfl, ite2 (fun q => ?_) (fun q1 => ?_)⟩
    · have q' : (255 : Int) < v := of_decide_eq_true q
      exact iteT (refused S k (paint_bad (by omega)) (Same.refl _))
    have q1' : ¬ (255 : Int) < v := of_decide_eq_false (Bool.eq_false_iff.mpr q1)
    refine ⟨_, rfl, _, _, rfl, rfl, _, rfl, ite2 (fun q => ?_) (fun q2 => ?_)⟩
    · have q' : (255 : Int) < c := of_decide_eq_true q
      exact refused S k (paint_bad (by omega)) (Same.refl _)
    have q2' : ¬ (255 : Int) < c := of_decide_eq_false (Bool.eq_false_iff.mpr q2)
    obtain ⟨dx, la, ts, ow, A', hF⟩ := S
    have S' : State C H p g F := ⟨dx, la, ts, ow, A', hF⟩
    refine ⟨_, rfl, _, rfl, p, la, ts, i, rfl, A'.holder T, A'.held, A'.deep, A'.few, fun H1 s1 => ?_⟩
    refine ⟨_, rfl, rfl, _, rfl, ?_⟩
    rw [foundV_non]
    have es : g.step (.paint i x y v c) = g.found i fun n => match n with
        | .group _ _ => (g, says (-3))
        | .layer _ _ _ w h _ => if w ≤ x ∨ h ≤ y then (g, says (-1)) else (g.to (Node.allAt i (fun m => match m with
          | .layer a p q w h l => .layer a p q w h (l.set (y * w + x) (v, c))
          | m => m) g.nodes), says 0) := by
      show (if 255 < v ∨ 255 < c then (g, says (-1)) else _) = _
      rw [if_neg (by omega)]
      rfl
    unfold House.found at es
    rw [found_of A' i] at es
    cases e : (flat ts).find? (fun t => t.id == i) with
    | none =>
      rw [e] at es
      exact iteT (refused S' k es s1)
    | some t =>
      rw [e] at es
      refine iteF ?_
      have tm : t ∈ flat ts := List.mem_of_find?_eq_some e
      have tid : t.id = i := by
        have z := List.find?_some e
        exact beq_iff_eq.mp z
      have ot := (A'.held t tm).same s1
      obtain ⟨ty, h1, h2⟩ := own_isL T ot
      refine ⟨_, rfl, _, _, ty, _, _, rfl, .own C.L, h1, h2, _, rfl, ?_⟩
      cases t with
      | group ta tla th tl =>
        rw [Option.map_some, node_group] at es
        exact iteT (refused S' k es s1)
      | layer ta tpa th tx ty' tw tht tpx =>
        rw [Option.map_some, node_layer] at es
        replace es : g.step (.paint i x y v c) = if tw ≤ x ∨ tht ≤ y then (g, says (-1)) else (g.to (Node.allAt i (fun m => match m with
          | .layer a p q w h l => .layer a p q w h (l.set (y * w + x) (v, c))
          | m => m) g.nodes), says 0) := es
        refine iteF ?_
        have gd := good_mem ts A'.good _ tm
        unfold AT.node NGood at gd
        obtain ⟨g1, g2, g3, g4, g5, g6, g7⟩ := gd
        obtain ⟨⟨dt, e1⟩, e2⟩ := ot
        have cl := T.iL.cl
        refine ⟨_, rfl, _, rfl, _, rfl, ta, dt, tpa, th, tx, ty', tw, tht, x, y, rfl, e1, g3, ?_⟩
        by_cases q34 : tw ≤ x ∨ tht ≤ y
        · rw [if_pos q34] at es
          have ep : pixV tw tht x y = V.non := by unfold pixV; exact if_neg (by omega)
          rw [ep]
          refine ⟨_, rfl, rfl, _, rfl, iteT (refused S' k es s1)⟩
        have q3' : ¬ (tw : Int) ≤ x := by omega
        have q4' : ¬ (tht : Int) ≤ y := by omega
        rw [if_neg q34] at es
        have ep : pixV tw tht x y = V.int (2 * ((y : Int) * tw + x)) := by unfold pixV; exact if_pos (by omega)
        rw [ep]
        refine ⟨_, rfl, rfl, _, rfl, iteF ?_⟩
        have hn : y * tw + x < tpx.length := by
          rw [g6]
          have : y + 1 ≤ tht := by omega
          have h3 := Nat.mul_le_mul_left tw this
          rw [Nat.mul_comm tw (y + 1), Nat.add_mul] at h3
          omega
        have en : (2 : Int) * ((y : Int) * (tw : Int) + (x : Int)) = ((2 * (y * tw + x) : Nat) : Int) := by
          rw [Int.natCast_mul, Int.natCast_add, Int.natCast_mul]; rfl
        obtain ⟨n, hny⟩ : ∃ n, n = y * tw + x := ⟨_, rfl⟩
        rw [← hny] at hn en
        have hl := flatP_length tpx
        refine ⟨_, rfl, _, rfl, ta, C.L, dt, _, _, rfl, e1, cl, T.nL _ (by decide +kernel), layF_pixels .., _, rfl, tpa, _, _, 2 * n, rfl, rfl, e2, ?_, ?_⟩
        · show ixN _ ((2 : Int) * ((y : Int) * (tw : Int) + (x : Int))) = _
          rw [en]; exact ixN_nat (by omega)
        have nta : ta ≠ tpa := ne_of e1 e2 (by intro z; cases z)
        refine ⟨_, rfl, _, rfl, ta, C.L, dt, _, _, rfl, by rw [upd_ne nta]; exact e1, cl, T.nL _ (by decide +kernel), layF_pixels .., _, rfl, _, _, rfl, rfl, tpa, _, _, 2 * n + 1, rfl, rfl, upd_same, ?_, ?_⟩
        · show ixN _ ((2 : Int) * ((y : Int) * (tw : Int) + (x : Int)) + 1) = _
          rw [en]
          have := ixN_nat (n := ((flatP tpx).set (2 * n) (.int v)).length) (k := 2 * n + 1) (by rw [List.length_set]; omega)
          exact this
        rw [upd_upd, flatP_set tpx n (v, c)]
        have hK : ∀ b o, H b = some o → b ∉ (AT.layer ta tpa th tx ty' tw tht tpx).cells → upd H1 tpa (.lst (flatP (tpx.set n (v, c)))) b = some o := fun b o eb nb => by
          rw [upd_ne (fun q => nb (by rw [q]; unfold AT.cells; exact List.mem_cons_of_mem _ List.mem_cons_self))]; exact s1 b o eb
        have md := A'.modify (f := AT.setPx n (v, c)) (F := fun m => match m with
          | .layer a p q w h l => .layer a p q w h (l.set (y * w + x) (v, c))
          | m => m) (H' := upd H1 tpa (.lst (flatP (tpx.set n (v, c))))) tm tid rfl tid rfl rfl
          ⟨⟨dt, by rw [upd_ne nta]; exact e1⟩, upd_same⟩ hK (by unfold AT.setPx; rw [node_layer, node_layer, hny]) (by
            unfold AT.setPx
            rw [node_layer]
            unfold NGood
            refine ⟨g1, g2, g3, g4, g5, by rw [List.length_set]; exact g6, fun z hz => ?_⟩
            rcases List.mem_or_eq_of_mem_set hz with h | h
            · exact g7 z h
            · rw [h]; exact ⟨by show v ≤ 255; omega, by show c ≤ 255; omega⟩)
        have q := k (upd H1 tpa (.lst (flatP (tpx.set n (v, c)))))
        rw [es] at q
        exact q ⟨dx, la, _, ow, md.1, fun b hb => .inl (hF b (md.2 b hb))⟩ (fun b o eb nF => hK b o eb fun q => nF (hF b (mem_foot_t tm q))) rfl
end
end Lay
set_option Elab.async false
set_option linter.all false
set_option maxRecDepth 100000
set_option maxHeartbeats 2000000
namespace Lay
open PySem PySem.Spec PyProof.Rows L2
open LFrac (MD mNo mWeak mMix mOver Bg MBg mNear)
abbrev sDotInit : Stmt := inClass (topS 17) 0
abbrev sNo : Stmt := topS 18
abbrev sWeak : Stmt := topS 19
abbrev sOver : Stmt := topS 20
abbrev sMixed : Stmt := topS 21
abbrev sSame : Stmt := topS 22
abbrev sInLow : Stmt := topS 23
abbrev sColLow : Stmt := topS 24
abbrev sLow : Stmt := topS 25
abbrev sGcd : Stmt := topS 26
abbrev sShown : Stmt := topS 27
abbrev sNear : Stmt := topS 28
def dotNames : List Str := ["cover", "tint", "whole"]
def dotF (m : MD) : List (Str × V) := [("cover", .int m.c), ("tint", .int m.t), ("whole", .int m.w)]
theorem dotF_c (m : MD) : (dotF m).lookup ("cover" : Str) = some (.int m.c) := lk_here
theorem dotF_t (m : MD) : (dotF m).lookup ("tint" : Str) = some (.int m.t) := by
  unfold dotF
  repeat (first | exact lk_here | refine (lk_past (by decide +kernel)).trans ?_)
theorem dotF_w (m : MD) : (dotF m).lookup ("whole" : Str) = some (.int m.w) := by
  unfold dotF
  repeat (first | exact lk_here | refine (lk_past (by decide +kernel)).trans ?_)
theorem put_dot (c t w : Int) : putF "whole" (.int w) (putF "tint" (.int t) (putF "cover" (.int c) [])) = dotF ⟨c, t, w⟩ := by
  unfold dotF
  rw [put_nil]
  repeat (first | rw [put_nil] | rw [put_past (by decide +kernel)])
structure Dx (K : PySem.W.Frag) (mg : Str → Option Value) (D : Addr) : Prop where
  cl : Cls K D
  na : ∀ f ∈ dotNames, NoAttr K D f
  zmin : mg "min" = none
  zmax : mg "max" = none
  zabs : mg "abs" = none
  zrange : mg "range" = none
theorem Dx.nc {K : PySem.W.Frag} {mg : Str → Option Value} {D : Addr} (X : Dx K mg D) : NoAttr K D "cover" := X.na _ (by decide +kernel)
theorem Dx.nt {K : PySem.W.Frag} {mg : Str → Option Value} {D : Addr} (X : Dx K mg D) : NoAttr K D "tint" := X.na _ (by decide +kernel)
theorem Dx.nw {K : PySem.W.Frag} {mg : Str → Option Value} {D : Addr} (X : Dx K mg D) : NoAttr K D "whole" := X.na _ (by decide +kernel)
def DotAt (D : Addr) (H : Hp) (a : Addr) (m : MD) : Prop := ∃ dx, H a = some (.ins D dx (dotF m))
theorem DotAt.same {D : Addr} {H H' : Hp} {a : Addr} {m : MD} (h : DotAt D H a m) (s : Same H H') : DotAt D H' a m := h.elim fun dx e => ⟨dx, s _ _ e⟩
theorem new_dot {D : Addr} {H : Hp} {a da : Addr} {m : MD} {Q : VK} (ha : H a = none) (hda : H da = none) (k : ∀ H' r, Same H H' → DotAt D H' r m → Q (.ref r) H') : Q (.ref a) (upd (upd H da (.own a)) a (.ins D da (dotF m))) :=
  k _ _ (fun b o e => by rw [upd_ne (ne_of_none e ha), upd_ne (ne_of_none e hda)]; exact e) ⟨da, upd_same⟩
theorem bg_mul {i j : Int} (h1 : Bg i) (h2 : Bg j) : CMulW i j := wide_mul (a := 5000) (b := 5000) h1 h2 (by decide) (by decide) (by decide)
theorem bg_mul1 {i j k : Int} (h1 : Bg i) (h2 : Bg j) (h3 : Bg k) : CMulW i (j - k) := by
  refine wide_mul (a := 5000) (b := 5001) h1 ?_ (by decide) (by decide) (by decide)
  unfold Bg at h2 h3
  rw [Nat.pow_succ]
  generalize 2 ^ 5000 = z at *
  omega
section
variable {P : Program} {w : World} {K : PySem.W.Frag} {mg : Str → Option Value} {base : Heap} {D : Addr}
def spDotInit (D : Addr) : Sp := fun vs H Q _ => ∃ (a dx : Addr) (c t w : Int), vs = [.ref a, .int c, .int t, .int w] ∧ H a = some (.ins D dx []) ∧ Q .non (upd H a (.ins D dx (dotF ⟨c, t, w⟩)))
theorem scDot : FnScope ["self", "cover", "tint", "whole"] ["self", "cover", "tint", "whole"] (C8.fnScope sDotInit) := C8.fnScope_by (by decide +kernel)
theorem dot_mak (R : RawI K mg "Dot" D "Dot.__init__" sDotInit ["self", "cover", "tint", "whole"]) (X : Dx K mg D) : C8.Mak P w K mg base 1 "Dot" D (spDotInit D) [] := by
  refine R.mak scDot (fun vs H Q E h => ?_) (fun f cdv A outer s H vs Q E hr h => ?_)
  · obtain ⟨a, dx, c, t, w, rfl, _⟩ := h
    rfl
  · obtain ⟨a, dx, c, t, w, rfl, e, k⟩ := h
    refine ⟨_, pss_cons (ps_fld (pv 0) (pv 1) rfl) (pss_cons (ps_fld (pv 0) (pv 2) rfl) (pss_one (ps_fld (pv 0) (pv 3) rfl))), ?_⟩
    refine ⟨_, rfl, _, rfl, a, D, dx, _, rfl, e, X.cl, X.nc, (by show 0 < 1000; decide), ?_⟩
    refine ⟨_, rfl, _, rfl, a, D, dx, _, rfl, upd_same, X.cl, X.nt, (by show 1 < 1000; decide), ?_⟩
    refine ⟨_, rfl, _, rfl, a, D, dx, _, rfl, upd_same, X.cl, X.nw, (by show 2 < 1000; decide), ?_⟩
    rw [upd_upd, upd_upd]
    rw [upd_eq (congrArg (fun q => HO.ins D dx q) (put_dot c t w))]
    exact k
def spNo (D : Addr) : Sp := fun vs H Q _ => vs = [] ∧ ∀ H' r, Same H H' → DotAt D H' r mNo → Q (.ref r) H'
theorem scNo : FnScope [] [] (C8.fnScope sNo) := C8.fnScope_by (by decide +kernel)
theorem no_ok (R : Raw K mg "nothing" sNo []) (cD : C8.Mak P w K mg base 1 "Dot" D (spDotInit D) []) : C8.Cal P w K mg base 3 "nothing" (spNo D) [] := by
  refine R.cal scNo (fun vs H Q E h => ?_) (fun f cdv A outer s H vs Q E hr h => ?_)
  · obtain ⟨rfl, _⟩ := h
    rfl
  · obtain ⟨rfl, k⟩ := h
    refine ⟨_, pss_one (ps_ret (C8.pe_mk cD hr (by decide) (by rfl) (pa_cons pe_int (pa_cons pe_int (pa_cons pe_int pa_nil))))), ?_⟩
    intro a da ha hda nda
    refine ⟨a, da, _, _, _, rfl, upd_same, rfl, ?_⟩
    rw [upd_upd]
    exact new_dot ha hda k
def spWeak (D : Addr) : Sp := fun vs H Q _ => ∃ (a : Addr) (m : MD) (u l : Int), vs = [.ref a, .int u, .int l] ∧ DotAt D H a m ∧ MBg m ∧ Bg u ∧ Bg l ∧ ∀ H' r, Same H H' → DotAt D H' r (mWeak m u l) → Q (.ref r) H'
theorem scWeak : FnScope ["dot", "upper", "lower"] ["dot", "upper", "lower"] (C8.fnScope sWeak) := C8.fnScope_by (by decide +kernel)
theorem weak_ok (R : Raw K mg "weakened" sWeak ["dot", "upper", "lower"]) (X : Dx K mg D) (cD : C8.Mak P w K mg base 1 "Dot" D (spDotInit D) []) : C8.Cal P w K mg base 3 "weakened" (spWeak D) [] := by
  refine R.cal scWeak (fun vs H Q E h => ?_) (fun f cdv A outer s H vs Q E hr h => ?_)
  · obtain ⟨a, m, u, l, rfl, _⟩ := h
    rfl
  · obtain ⟨a, m, u, l, rfl, ⟨dx, e⟩, b, bu, bl, k⟩ := h
    refine ⟨_, pss_one (ps_ret (C8.pe_mk cD hr (by decide) (by rfl) (pa_cons (pe_op op_mulW (pe_fld (pv 0) rfl) (pv 1)) (pa_cons (pe_op op_mulW (pe_fld (pv 0) rfl) (pv 1)) (pa_cons (pe_op op_mulW (pe_fld (pv 0) rfl) (pv 2)) pa_nil))))), ?_⟩
    refine ⟨_, rfl, a, D, dx, _, _, rfl, e, X.cl, X.nc, dotF_c m, _, rfl, _, _, rfl, rfl, bg_mul b.c bu, ?_⟩
    refine ⟨_, rfl, a, D, dx, _, _, rfl, e, X.cl, X.nt, dotF_t m, _, rfl, _, _, rfl, rfl, bg_mul b.t bu, ?_⟩
    refine ⟨_, rfl, a, D, dx, _, _, rfl, e, X.cl, X.nw, dotF_w m, _, rfl, _, _, rfl, rfl, bg_mul b.w bl, ?_⟩
    intro r dr hr' hdr ndr
    refine ⟨r, dr, _, _, _, rfl, upd_same, rfl, ?_⟩
    rw [upd_upd]
    exact new_dot hr' hdr k
def spMixed (D : Addr) : Sp := fun vs H Q _ => ∃ (a b : Addr) (m n : MD) (way : Int), vs = [.ref a, .ref b, .int way] ∧ DotAt D H a m ∧ DotAt D H b n ∧ MBg m ∧ MBg n ∧ Q (.int (mMix way m n)) H
theorem scMixed : FnScope ["above", "below", "way", "both", "colour_above", "colour_below", "product"] ["above", "below", "way"] (C8.fnScope sMixed) := C8.fnScope_by (by decide +kernel)
theorem boot_min : bootBuiltins "min" = some (.builtin "min") := by decide +kernel
theorem boot_mx : bootBuiltins "max" = some (.builtin "max") := by decide +kernel
theorem boot_abs : bootBuiltins "abs" = some (.builtin "abs") := by decide +kernel
theorem int_eqI (a b : Int) : decide (V.int a = V.int b) = decide (a = b) := by
  by_cases e : a = b
  · rw [decide_eq_true e, decide_eq_true (by rw [e])]
  · rw [decide_eq_false e, decide_eq_false (fun q => e (by injection q))]
theorem mixed_ok (R : Raw K mg "mixed" sMixed ["above", "below", "way"]) (X : Dx K mg D) : C8.Cal P w K mg base 1 "mixed" (spMixed D) [] := by
  refine R.cal scMixed (fun vs H Q E h => ?_) (fun f cdv A outer s H vs Q E hr h => ?_)
  · obtain ⟨a, b, m, n, way, rfl, _⟩ := h
    rfl
  · obtain ⟨a, b, m, n, way, rfl, ⟨da, ea⟩, ⟨db, eb⟩, bm, bn, k⟩ := h
    refine ⟨_, pss_cons (ps_set (i := 3) scMixed.nd rfl (Or.inl rfl) (pe_op op_mulW (pe_fld (pv 0) rfl) (pe_fld (pv 1) rfl)))
      (pss_cons (ps_set (i := 4) scMixed.nd rfl (Or.inl rfl) (pe_op op_mulW (pe_fld (pv 0) rfl) (pe_fld (pv 1) rfl)))
      (pss_cons (ps_set (i := 5) scMixed.nd rfl (Or.inl rfl) (pe_op op_mulW (pe_fld (pv 1) rfl) (pe_fld (pv 0) rfl)))
      (pss_cons (ps_set (i := 6) scMixed.nd rfl (Or.inl rfl) (pe_op op_mulW (pe_fld (pv 0) rfl) (pe_fld (pv 1) rfl)))
      (pss_cons (ps_if (pt_cmpR op_eq (pv 2) pe_int (nomark _)) (pss_one (ps_ret (pv 4))) pss_nil)
      (pss_cons (ps_if (pt_cmpR op_eq (pv 2) pe_int (nomark _)) (pss_one (ps_ret (pv 6))) pss_nil)
      (pss_cons (ps_if (pt_cmpR op_eq (pv 2) pe_int (nomark _)) (pss_one (ps_ret (pe_op op_sub (pe_op op_add (pv 5) (pv 4)) (pv 6)))) pss_nil)
      (pss_cons (ps_if (pt_cmpR op_eq (pv 2) pe_int (nomark _)) (pss_one (ps_ret (pe_callB (call_min2 rfl) (by rfl) X.zmin boot_min (pa_cons (pv 5) (pa_cons (pv 4) pa_nil))))) pss_nil)
      (pss_cons (ps_if (pt_cmpR op_eq (pv 2) pe_int (nomark _)) (pss_one (ps_ret (pe_callB (call_max2 rfl) (by rfl) X.zmax boot_mx (pa_cons (pv 5) (pa_cons (pv 4) pa_nil))))) pss_nil)
      (pss_cons (ps_if (pt_cmpR op_eq (pv 2) pe_int (nomark _)) (pss_one (ps_ret (pe_callB call_abs (by rfl) X.zabs boot_abs (pa_cons (pe_op op_sub (pv 5) (pv 4)) pa_nil)))) pss_nil)
      (pss_one (ps_ret (pe_callB (call_min2 rfl) (by rfl) X.zmin boot_min (pa_cons (pe_op op_add (pv 5) (pv 4)) (pa_cons (pv 3) pa_nil)))))))))))))), ?_⟩
    refine ⟨_, rfl, a, D, da, _, _, rfl, ea, X.cl, X.nc, dotF_c m, _, rfl, b, D, db, _, _, rfl, eb, X.cl, X.nc, dotF_c n, _, _, rfl, rfl, bg_mul bm.c bn.c, ?_⟩
    refine ⟨_, rfl, a, D, da, _, _, rfl, ea, X.cl, X.nt, dotF_t m, _, rfl, b, D, db, _, _, rfl, eb, X.cl, X.nc, dotF_c n, _, _, rfl, rfl, bg_mul bm.t bn.c, ?_⟩
    refine ⟨_, rfl, b, D, db, _, _, rfl, eb, X.cl, X.nt, dotF_t n, _, rfl, a, D, da, _, _, rfl, ea, X.cl, X.nc, dotF_c m, _, _, rfl, rfl, bg_mul bn.t bm.c, ?_⟩
    refine ⟨_, rfl, a, D, da, _, _, rfl, ea, X.cl, X.nt, dotF_t m, _, rfl, b, D, db, _, _, rfl, eb, X.cl, X.nt, dotF_t n, _, _, rfl, rfl, bg_mul bm.t bn.t, ?_⟩
    unfold mMix at k
    refine ⟨_, rfl, rfl, _, rfl, ?_⟩
    rw [int_eqI]
    refine iteB (fun c => ?_) (fun c => ?_)
    · rw [if_pos (of_decide_eq_true c)] at k
      exact ⟨_, rfl, k⟩
    rw [if_neg (of_decide_eq_false c)] at k
    refine ⟨_, rfl, rfl, _, rfl, ?_⟩
    rw [int_eqI]
    refine iteB (fun c => ?_) (fun c => ?_)
    · rw [if_pos (of_decide_eq_true c)] at k
      exact ⟨_, rfl, k⟩
    rw [if_neg (of_decide_eq_false c)] at k
    refine ⟨_, rfl, rfl, _, rfl, ?_⟩
    rw [int_eqI]
    refine iteB (fun c => ?_) (fun c => ?_)
    · rw [if_pos (of_decide_eq_true c)] at k
      exact ⟨_, rfl, _, rfl, _, _, rfl, rfl, _, rfl, _, _, rfl, rfl, k⟩
    rw [if_neg (of_decide_eq_false c)] at k
    refine ⟨_, rfl, rfl, _, rfl, ?_⟩
    rw [int_eqI]
    refine iteB (fun c => ?_) (fun c => ?_)
    · rw [if_pos (of_decide_eq_true c)] at k
      exact ⟨_, rfl, _, rfl, _, _, rfl, k⟩
    rw [if_neg (of_decide_eq_false c)] at k
    refine ⟨_, rfl, rfl, _, rfl, ?_⟩
    rw [int_eqI]
    refine iteB (fun c => ?_) (fun c => ?_)
    · rw [if_pos (of_decide_eq_true c)] at k
      exact ⟨_, rfl, _, rfl, _, _, rfl, k⟩
    rw [if_neg (of_decide_eq_false c)] at k
    refine ⟨_, rfl, rfl, _, rfl, ?_⟩
    rw [int_eqI]
    refine iteB (fun c => ?_) (fun c => ?_)
    · rw [if_pos (of_decide_eq_true c)] at k
      exact ⟨_, rfl, _, rfl, _, _, rfl, rfl, _, rfl, k⟩
    rw [if_neg (of_decide_eq_false c)] at k
    exact ⟨_, rfl, _, rfl, _, _, rfl, rfl, _, rfl, _, _, rfl, k⟩
def spOver (D : Addr) : Sp := fun vs H Q _ => ∃ (a b : Addr) (m n : MD) (way : Int), vs = [.ref a, .ref b, .int way] ∧ DotAt D H a m ∧ DotAt D H b n ∧ MBg m ∧ MBg n ∧ ∀ H' r, Same H H' → DotAt D H' r (mOver way m n) → Q (.ref r) H'
theorem scOver : FnScope ["above", "below", "way", "cover", "alone"] ["above", "below", "way"] (C8.fnScope sOver) := C8.fnScope_by (by decide +kernel)
theorem over_ok (R : Raw K mg "over" sOver ["above", "below", "way"]) (X : Dx K mg D) (cD : C8.Mak P w K mg base 1 "Dot" D (spDotInit D) []) (cM : C8.Cal P w K mg base 1 "mixed" (spMixed D) []) : C8.Cal P w K mg base 3 "over" (spOver D) [] := by
  refine R.cal scOver (fun vs H Q E h => ?_) (fun f cdv A outer s H vs Q E hr h => ?_)
  · obtain ⟨a, b, m, n, way, rfl, _⟩ := h
    rfl
  · obtain ⟨a, b, m, n, way, rfl, ⟨da, ea⟩, ⟨db, eb⟩, bm, bn, k⟩ := h
    refine ⟨_, pss_cons (ps_set (i := 3) scOver.nd rfl (Or.inl rfl) (pe_op op_sub (pe_op op_add (pe_op op_mulW (pe_fld (pv 0) rfl) (pe_fld (pv 1) rfl)) (pe_op op_mulW (pe_fld (pv 1) rfl) (pe_fld (pv 0) rfl))) (pe_op op_mulW (pe_fld (pv 0) rfl) (pe_fld (pv 1) rfl))))
      (pss_cons (ps_set (i := 4) scOver.nd rfl (Or.inl rfl) (pe_op op_add (pe_op op_mulW (pe_fld (pv 0) rfl) (pe_op op_sub (pe_fld (pv 1) rfl) (pe_fld (pv 1) rfl))) (pe_op op_mulW (pe_fld (pv 1) rfl) (pe_op op_sub (pe_fld (pv 0) rfl) (pe_fld (pv 0) rfl)))))
      (pss_one (ps_ret (C8.pe_mk cD hr (by decide) (by rfl) (pa_cons (pv 3) (pa_cons (pe_op op_add (pv 4) (C8.pe_c cM hr (by decide) (by rfl) (pa_cons (pv 0) (pa_cons (pv 1) (pa_cons (pv 2) pa_nil))))) (pa_cons (pe_op op_mulW (pe_fld (pv 0) rfl) (pe_fld (pv 1) rfl)) pa_nil))))))), ?_⟩
    refine ⟨_, rfl, a, D, da, _, _, rfl, ea, X.cl, X.nc, dotF_c m, _, rfl, b, D, db, _, _, rfl, eb, X.cl, X.nw, dotF_w n, _, _, rfl, rfl, bg_mul bm.c bn.w, ?_⟩
    refine ⟨_, rfl, b, D, db, _, _, rfl, eb, X.cl, X.nc, dotF_c n, _, rfl, a, D, da, _, _, rfl, ea, X.cl, X.nw, dotF_w m, _, _, rfl, rfl, bg_mul bn.c bm.w, _, _, rfl, rfl, ?_⟩
    refine ⟨_, rfl, a, D, da, _, _, rfl, ea, X.cl, X.nc, dotF_c m, _, rfl, b, D, db, _, _, rfl, eb, X.cl, X.nc, dotF_c n, _, _, rfl, rfl, bg_mul bm.c bn.c, _, _, rfl, rfl, ?_⟩
    refine ⟨_, rfl, a, D, da, _, _, rfl, ea, X.cl, X.nt, dotF_t m, _, rfl, b, D, db, _, _, rfl, eb, X.cl, X.nw, dotF_w n, _, rfl, b, D, db, _, _, rfl, eb, X.cl, X.nc, dotF_c n, _, _, rfl, rfl, _, _, rfl, rfl, bg_mul1 bm.t bn.w bn.c, ?_⟩
    refine ⟨_, rfl, b, D, db, _, _, rfl, eb, X.cl, X.nt, dotF_t n, _, rfl, a, D, da, _, _, rfl, ea, X.cl, X.nw, dotF_w m, _, rfl, a, D, da, _, _, rfl, ea, X.cl, X.nc, dotF_c m, _, _, rfl, rfl, _, _, rfl, rfl, bg_mul1 bn.t bm.w bm.c, _, _, rfl, rfl, ?_⟩
    refine ⟨_, rfl, _, rfl, _, rfl, _, rfl, _, rfl, a, b, m, n, way, rfl, ⟨da, ea⟩, ⟨db, eb⟩, bm, bn, _, _, rfl, rfl, ?_⟩
    refine ⟨_, rfl, a, D, da, _, _, rfl, ea, X.cl, X.nw, dotF_w m, _, rfl, b, D, db, _, _, rfl, eb, X.cl, X.nw, dotF_w n, _, _, rfl, rfl, bg_mul bm.w bn.w, ?_⟩
    intro r dr hr' hdr ndr
    refine ⟨r, dr, _, _, _, rfl, upd_same, rfl, ?_⟩
    rw [upd_upd]
    exact new_dot hr' hdr k
def sameB (m n : MD) : Bool := decide (m.c * n.w = n.c * m.w ∧ m.t * n.w = n.t * m.w)
def spSame (D : Addr) : Sp := fun vs H Q _ => ∃ (a b : Addr) (m n : MD), vs = [.ref a, .ref b] ∧ DotAt D H a m ∧ DotAt D H b n ∧ MBg m ∧ MBg n ∧ Q (.bl (sameB m n)) H
theorem scSame : FnScope ["one", "other"] ["one", "other"] (C8.fnScope sSame) := C8.fnScope_by (by decide +kernel)
theorem same_ok (R : Raw K mg "is_same" sSame ["one", "other"]) (X : Dx K mg D) : C8.Cal P w K mg base 1 "is_same" (spSame D) [] := by
  refine R.cal scSame (fun vs H Q E h => ?_) (fun f cdv A outer s H vs Q E hr h => ?_)
  · obtain ⟨a, b, m, n, rfl, _⟩ := h
    rfl
  · obtain ⟨a, b, m, n, rfl, ⟨da, ea⟩, ⟨db, eb⟩, bm, bn, k⟩ := h
    refine ⟨_, pss_one (ps_ret (pe_and (pe_cmpR op_eq (pe_op op_mulW (pe_fld (pv 0) rfl) (pe_fld (pv 1) rfl)) (pe_op op_mulW (pe_fld (pv 1) rfl) (pe_fld (pv 0) rfl)) (nomark _))
      (pe_one (pe_cmpR op_eq (pe_op op_mulW (pe_fld (pv 0) rfl) (pe_fld (pv 1) rfl)) (pe_op op_mulW (pe_fld (pv 1) rfl) (pe_fld (pv 0) rfl)) (nomark _))))), ?_⟩
    refine ⟨_, rfl, a, D, da, _, _, rfl, ea, X.cl, X.nc, dotF_c m, _, rfl, b, D, db, _, _, rfl, eb, X.cl, X.nw, dotF_w n, _, _, rfl, rfl, bg_mul bm.c bn.w, ?_⟩
    refine ⟨_, rfl, b, D, db, _, _, rfl, eb, X.cl, X.nc, dotF_c n, _, rfl, a, D, da, _, _, rfl, ea, X.cl, X.nw, dotF_w m, _, _, rfl, rfl, bg_mul bn.c bm.w, rfl, _, rfl, ?_⟩
    unfold sameB at k
    rw [int_eqI]
    refine iteB (fun c => ?_) (fun c => ?_)
    · have c' := of_decide_eq_true c
      refine ⟨_, rfl, a, D, da, _, _, rfl, ea, X.cl, X.nt, dotF_t m, _, rfl, b, D, db, _, _, rfl, eb, X.cl, X.nw, dotF_w n, _, _, rfl, rfl, bg_mul bm.t bn.w, ?_⟩
      refine ⟨_, rfl, b, D, db, _, _, rfl, eb, X.cl, X.nt, dotF_t n, _, rfl, a, D, da, _, _, rfl, ea, X.cl, X.nw, dotF_w m, _, _, rfl, rfl, bg_mul bn.t bm.w, rfl, ?_⟩
      rw [int_eqI]
      have e : decide (m.t * n.w = n.t * m.w) = decide (m.c * n.w = n.c * m.w ∧ m.t * n.w = n.t * m.w) := by
        by_cases q : m.t * n.w = n.t * m.w
        · rw [decide_eq_true q, decide_eq_true ⟨c', q⟩]
        · rw [decide_eq_false q, decide_eq_false (fun z => q z.2)]
      rw [e]; exact k
    · have c' := of_decide_eq_false c
      rw [decide_eq_false (fun z => c' z.1)] at k
      exact k
/-! ### lowest terms -/
def spGcd : Sp := fun vs H Q _ => ∃ u l : Nat, vs = [.int u, .int l] ∧ Q (.int (Nat.gcd u l)) H
theorem scGcd : FnScope ["upper", "lower", "divisor", "rest", "remainder"] ["upper", "lower"] (C8.fnScope sGcd) := C8.fnScope_by (by decide +kernel)
theorem gcd_ok (R : Raw K mg "greatest_divisor" sGcd ["upper", "lower"]) : C8.Cal P w K mg base 1 "greatest_divisor" spGcd [] := by
  refine R.cal scGcd (fun vs H Q E h => ?_) (fun f cdv A outer s H vs Q E hr h => ?_)
  · obtain ⟨u, l, rfl, _⟩ := h
    rfl
  · obtain ⟨u, l, rfl, k⟩ := h
    refine ⟨_, pss_cons (ps_set (i := 2) scGcd.nd rfl (Or.inl rfl) (pv 1)) (pss_cons (ps_set (i := 3) scGcd.nd rfl (Or.inl rfl) (pv 0))
      (pss_cons (ps_while PassesOwn.never (pt_cmpR op_ne (pv 3) pe_int (nomark _))
        (pss_cons (ps_set (i := 4) scGcd.nd rfl (Or.inl rfl) (pe_op op_mod (pv 2) (pv 3))) (pss_cons (ps_set (i := 2) scGcd.nd rfl (Or.inl rfl) (pv 3)) (pss_one (ps_set (i := 3) scGcd.nd rfl (Or.inl rfl) (pv 4))))))
      (pss_one (ps_ret (pv 2))))), ?_⟩
    refine ⟨_, rfl, _, rfl, ?_⟩
    refine while_by (fun σ H' => ∃ (d r : Nat) (v4 : Option V), σ = [some (.int u), some (.int l), some (.int d), some (.int r), v4] ∧ H' = H ∧ Nat.gcd d r = Nat.gcd u l)
      (fun (σ : L2.St) (_ : Hp) => match σ[3]? with | some (some (V.int z)) => z.toNat | _ => 0) ?_ ?_ ?_
    · exact ⟨l, u, none, rfl, rfl, Nat.gcd_comm _ _⟩
    · rintro σ H1 ⟨d, r, v4, rfl, rfl, hg⟩
      refine ⟨_, rfl, rfl, _, rfl, ?_⟩
      rw [int_eqI]
      by_cases c : (r : Int) = 0
      · rw [decide_eq_true c]
        refine iteF ?_
        refine ⟨_, rfl, ?_⟩
        have c' : r = 0 := by omega
        subst c'
        rw [Nat.gcd_zero_right] at hg
        rw [hg]
        exact k
      · rw [decide_eq_false c]
        refine iteT ?_
        have rp : 0 < r := by omega
        refine ⟨_, rfl, _, rfl, _, _, rfl, rfl, (by show (0 : Int) < r; omega), _, rfl, _, rfl, ⟨r, d % r, _, rfl, rfl, ?_⟩, ?_⟩
        · rw [← hg, Nat.gcd_comm r (d % r), ← Nat.gcd_rec, Nat.gcd_comm]
        · show ((d : Int) % (r : Int)).toNat < (r : Int).toNat
          have := Int.emod_lt_of_pos (d : Int) (show (0 : Int) < r by omega)
          have := Int.emod_nonneg (d : Int) (show (r : Int) ≠ 0 by omega)
          omega
    · rintro σ H1 Q1 Q2 hQ ⟨v, e1, x1, x2, x3, x4⟩
      exact ⟨v, e1, x1, x2, x3, hQ _ _ x4⟩
/-- the two numbers in lowest terms -/
def mLow (u l : Nat) : List Int := [((u / Nat.gcd u l : Nat) : Int), ((l / Nat.gcd u l : Nat) : Int)]
def spLow : Sp := fun vs H Q _ => ∃ u l : Nat, vs = [.int u, .int l] ∧ 0 < l ∧ Bg (l : Int) ∧ ∀ H' r, Same H H' → H r = none → H' r = some (.lst ((mLow u l).map V.int)) → Q (.ref r) H'
theorem scLow : FnScope ["upper", "lower", "divisor"] ["upper", "lower"] (C8.fnScope sLow) := C8.fnScope_by (by decide +kernel)
theorem low_ok (R : Raw K mg "lowest_terms" sLow ["upper", "lower"]) (cG : C8.Cal P w K mg base 1 "greatest_divisor" spGcd []) : C8.Cal P w K mg base 2 "lowest_terms" spLow [] := by
  refine R.cal scLow (fun vs H Q E h => ?_) (fun f cdv A outer s H vs Q E hr h => ?_)
  · obtain ⟨u, l, rfl, _⟩ := h
    rfl
  · obtain ⟨u, l, rfl, l0, bl, k⟩ := h
    refine ⟨_, pss_cons (ps_set (i := 2) scLow.nd rfl (Or.inl rfl) (C8.pe_c cG hr (by decide) (by rfl) (pa_cons (pv 0) (pa_cons (pv 1) pa_nil))))
      (pss_one (ps_ret (pe_lst (pa_cons (pe_op op_fdivW (pv 0) (pv 2)) (pa_cons (pe_op op_fdivW (pv 1) (pv 2)) pa_nil))))), ?_⟩
    have gp : 0 < Nat.gcd u l := Nat.gcd_pos_of_pos_right _ l0
    have gl : Nat.gcd u l ≤ l := Nat.le_of_dvd l0 (Nat.gcd_dvd_right u l)
    have cd : ∀ i : Int, CDivW i ((Nat.gcd u l : Nat) : Int) := fun i => wide_div (b := 5000) (by omega) (by
      unfold Bg at bl
      generalize 2 ^ 5000 = z at *
      omega) (by decide) (by decide)
    refine ⟨_, rfl, _, rfl, u, l, rfl, _, rfl, _, rfl, _, _, rfl, rfl, cd _, _, rfl, _, rfl, _, _, rfl, rfl, cd _, (by show 2 ≤ sizeLine; decide), fun r hr' => ?_⟩
    exact k _ r (same_new hr' _) hr' upd_same
def mCol (m : MD) : List Int := if m.c = 0 then [0, 1] else mLow m.t.toNat m.c.toNat
structure MPos (m : MD) : Prop where
  t : 0 ≤ m.t
  c : 0 ≤ m.c
  w : 0 < m.w
def spCol (D : Addr) : Sp := fun vs H Q _ => ∃ (a : Addr) (m : MD), vs = [.ref a] ∧ DotAt D H a m ∧ MPos m ∧ MBg m ∧ ∀ H' r, Same H H' → H r = none → H' r = some (.lst ((mCol m).map V.int)) → Q (.ref r) H'
theorem scCol : FnScope ["dot"] ["dot"] (C8.fnScope sColLow) := C8.fnScope_by (by decide +kernel)
theorem nat_of_pos {i : Int} (h : 0 ≤ i) : V.int i = V.int (i.toNat : Int) := by rw [Int.toNat_of_nonneg h]
theorem col_ok (R : Raw K mg "colour_in_lowest_terms" sColLow ["dot"]) (X : Dx K mg D) (cL : C8.Cal P w K mg base 2 "lowest_terms" spLow []) : C8.Cal P w K mg base 3 "colour_in_lowest_terms" (spCol D) [] := by
  refine R.cal scCol (fun vs H Q E h => ?_) (fun f cdv A outer s H vs Q E hr h => ?_)
  · obtain ⟨a, m, rfl, _⟩ := h
    rfl
  · obtain ⟨a, m, rfl, ⟨da, ea⟩, p, b, k⟩ := h
    refine ⟨_, pss_cons (ps_if (pt_cmpR op_eq (pe_fld (pv 0) rfl) pe_int (nomark _)) (pss_one (ps_ret (pe_lst (pa_cons pe_int (pa_cons pe_int pa_nil))))) pss_nil)
      (pss_one (ps_ret (C8.pe_c cL hr (by decide) (by rfl) (pa_cons (pe_fld (pv 0) rfl) (pa_cons (pe_fld (pv 0) rfl) pa_nil))))), ?_⟩
    refine ⟨_, rfl, a, D, da, _, _, rfl, ea, X.cl, X.nc, dotF_c m, rfl, _, rfl, ?_⟩
    rw [int_eqI]
    unfold mCol at k
    refine iteB (fun c => ?_) (fun c => ?_)
    · rw [if_pos (of_decide_eq_true c)] at k
      exact ⟨(by show 2 ≤ sizeLine; decide), fun r hr' => k _ r (same_new hr' _) hr' upd_same⟩
    · have c' : ¬ m.c = 0 := of_decide_eq_false c
      rw [if_neg c'] at k
      refine ⟨_, rfl, a, D, da, _, _, rfl, ea, X.cl, X.nt, dotF_t m, _, rfl, a, D, da, _, _, rfl, ea, X.cl, X.nc, dotF_c m, m.t.toNat, m.c.toNat, ?_, by have := p.c; omega, ?_, k⟩
      · rw [nat_of_pos p.t, nat_of_pos p.c]; rfl
      · rw [Int.toNat_of_nonneg p.c]; exact b.c
def mTold (m : MD) : List Int := mLow m.c.toNat m.w.toNat ++ mCol m
def spInLow (D : Addr) : Sp := fun vs H Q _ => ∃ (a : Addr) (m : MD), vs = [.ref a] ∧ DotAt D H a m ∧ MPos m ∧ MBg m ∧ ∀ H' r, Same H H' → H r = none → H' r = some (.lst ((mTold m).map V.int)) → Q (.ref r) H'
theorem scInLow : FnScope ["dot"] ["dot"] (C8.fnScope sInLow) := C8.fnScope_by (by decide +kernel)
theorem mCol_len (m : MD) : (mCol m).length = 2 := by unfold mCol mLow; split <;> rfl
theorem inlow_ok (R : Raw K mg "in_lowest_terms" sInLow ["dot"]) (X : Dx K mg D) (cL : C8.Cal P w K mg base 2 "lowest_terms" spLow []) (cC : C8.Cal P w K mg base 3 "colour_in_lowest_terms" (spCol D) []) : C8.Cal P w K mg base 4 "in_lowest_terms" (spInLow D) [] := by
  refine R.cal scInLow (fun vs H Q E h => ?_) (fun f cdv A outer s H vs Q E hr h => ?_)
  · obtain ⟨a, m, rfl, _⟩ := h
    rfl
  · obtain ⟨a, m, rfl, ⟨da, ea⟩, p, b, k⟩ := h
    refine ⟨_, pss_one (ps_ret (pe_op op_cat (C8.pe_c cL hr (by decide) (by rfl) (pa_cons (pe_fld (pv 0) rfl) (pa_cons (pe_fld (pv 0) rfl) pa_nil))) (C8.pe_c cC hr (by decide) (by rfl) (pa_cons (pv 0) pa_nil)))), ?_⟩
    refine ⟨_, rfl, a, D, da, _, _, rfl, ea, X.cl, X.nc, dotF_c m, _, rfl, a, D, da, _, _, rfl, ea, X.cl, X.nw, dotF_w m, m.c.toNat, m.w.toNat, ?_, by have := p.w; omega, ?_, fun H1 r1 s1 n1 e1 => ?_⟩
    · rw [nat_of_pos p.c, nat_of_pos (Int.le_of_lt p.w)]; rfl
    · rw [Int.toNat_of_nonneg (Int.le_of_lt p.w)]; exact b.w
    refine ⟨_, rfl, a, m, rfl, ⟨da, s1 _ _ ea⟩, p, b, fun H2 r2 s2 n2 e2 => ?_⟩
    refine ⟨r1, r2, _, _, rfl, rfl, s2 _ _ e1, e2, ?_, fun r hr' => ?_⟩
    · rw [List.length_map, List.length_map, mCol_len]; show 2 + 2 ≤ sizeLine; decide
    refine k _ r ((s1.trans s2).trans (same_new hr' _)) ((s1.trans s2).free hr') ?_
    rw [upd_same]
    unfold mTold
    rw [List.map_append]
/-! ### levels -/
def spNear : Sp := fun vs H Q _ => ∃ u l : Int, vs = [.int u, .int l] ∧ 0 < l ∧ Bg l ∧ Q (.int (mNear u l)) H
theorem scNear : FnScope ["upper", "lower"] ["upper", "lower"] (C8.fnScope sNear) := C8.fnScope_by (by decide +kernel)
theorem near_ok (R : Raw K mg "nearest_level" sNear ["upper", "lower"]) (lv : NumG mg "GREATEST_LEVEL" 255) : C8.Cal P w K mg base 1 "nearest_level" spNear [] := by
  refine R.cal scNear (fun vs H Q E h => ?_) (fun f cdv A outer s H vs Q E hr h => ?_)
  · obtain ⟨u, l, rfl, _⟩ := h
    rfl
  · obtain ⟨u, l, rfl, l0, bl, k⟩ := h
    refine ⟨_, pss_one (ps_ret (pe_op op_fdivW (pe_op op_add (pe_op op_mul (pe_op op_mul pe_int (pe_num (by rfl) lv)) (pv 0)) (pv 1)) (pe_op op_mul pe_int (pv 1)))), ?_⟩
    refine ⟨_, _, rfl, rfl, .inl ⟨by decide, by decide⟩, _, rfl, _, _, rfl, rfl, .inl ⟨by decide, by decide⟩, _, rfl, _, _, rfl, rfl, _, rfl, _, _, rfl, rfl, .inl ⟨by decide, by decide⟩, _, _, rfl, rfl, ?_, k⟩
    refine wide_div (b := 5001) (by omega) ?_ (by decide) (by decide)
    unfold Bg at bl
    rw [Nat.pow_succ]
    generalize 2 ^ 5000 = z at *
    omega
def mShown (m : MD) : List Int := if mNear m.c m.w = 0 then [0, 0] else [mNear m.t m.c, mNear m.c m.w]
def spShown (D : Addr) : Sp := fun vs H Q _ => ∃ (a : Addr) (m : MD), vs = [.ref a] ∧ DotAt D H a m ∧ MPos m ∧ MBg m ∧ ∀ H' r, Same H H' → H r = none → H' r = some (.lst ((mShown m).map V.int)) → Q (.ref r) H'
theorem scShown : FnScope ["dot", "cover"] ["dot"] (C8.fnScope sShown) := C8.fnScope_by (by decide +kernel)
theorem shown_ok (R : Raw K mg "shown" sShown ["dot"]) (X : Dx K mg D) (cN : C8.Cal P w K mg base 1 "nearest_level" spNear []) : C8.Cal P w K mg base 2 "shown" (spShown D) [] := by
  refine R.cal scShown (fun vs H Q E h => ?_) (fun f cdv A outer s H vs Q E hr h => ?_)
  · obtain ⟨a, m, rfl, _⟩ := h
    rfl
  · obtain ⟨a, m, rfl, ⟨da, ea⟩, p, b, k⟩ := h
    refine ⟨_, pss_cons (ps_set (i := 1) scShown.nd rfl (Or.inl rfl) (C8.pe_c cN hr (by decide) (by rfl) (pa_cons (pe_fld (pv 0) rfl) (pa_cons (pe_fld (pv 0) rfl) pa_nil))))
      (pss_cons (ps_if (pt_cmpR op_eq (pv 1) pe_int (nomark _)) (pss_one (ps_ret (pe_lst (pa_cons pe_int (pa_cons pe_int pa_nil))))) pss_nil)
      (pss_one (ps_ret (pe_lst (pa_cons (C8.pe_c cN hr (by decide) (by rfl) (pa_cons (pe_fld (pv 0) rfl) (pa_cons (pe_fld (pv 0) rfl) pa_nil))) (pa_cons (pv 1) pa_nil)))))), ?_⟩
    refine ⟨_, rfl, a, D, da, _, _, rfl, ea, X.cl, X.nc, dotF_c m, _, rfl, a, D, da, _, _, rfl, ea, X.cl, X.nw, dotF_w m, _, _, rfl, p.w, b.w, ?_⟩
    refine ⟨_, rfl, rfl, _, rfl, ?_⟩
    rw [int_eqI]
    unfold mShown at k
    refine iteB (fun c => ?_) (fun c => ?_)
    · rw [if_pos (of_decide_eq_true c)] at k
      exact ⟨(by show 2 ≤ sizeLine; decide), fun r hr' => k _ r (same_new hr' _) hr' upd_same⟩
    · have c' : ¬ mNear m.c m.w = 0 := of_decide_eq_false c
      rw [if_neg c'] at k
      have cp : 0 < m.c := by
        have p1 := p.c
        by_cases z : m.c = 0
        · exact absurd (LFrac.near_zero p.w z) c'
        · omega
      refine ⟨_, rfl, a, D, da, _, _, rfl, ea, X.cl, X.nt, dotF_t m, _, rfl, a, D, da, _, _, rfl, ea, X.cl, X.nc, dotF_c m, _, _, rfl, cp, b.c, _, rfl, (by show 2 ≤ sizeLine; decide), fun r hr' => k _ r (same_new hr' _) hr' upd_same⟩
end
end Lay
set_option Elab.async false
set_option linter.all false
set_option maxRecDepth 100000
set_option maxHeartbeats 2000000
namespace Lay
open PySem PySem.Spec PyProof.Rows L2
open Sq49 (Node How House says offset)
open LFrac (NGood LGood HGood)
abbrev sMakeLayer : Stmt := topS 44
section
variable {C : Cs} {H H' : Hp} {p dx la la' : Addr} {ts ts' : List AT} {ow : Addr → Nat} {g g' : House}
/-- a new thing is put among the old ones -/
theorem PicAt.addNew (A : PicAt C H p dx la ts ow g) {new : AT} (hsub : ∀ u ∈ flat ts', u = new ∨ u ∈ flat ts) (hnd : ((flat ts').map AT.id).Nodup) (hcnt : (flat ts').length ≤ 10)
    (hnew : Own C H' new) (cn : ∀ c ∈ new.cells, H c = none) (idn : new.id = g.next) (hself : H' p = some (.ins C.P dx (picF g'.w g'.h la' g'.next))) (hlst : H' la' = some (.lst (refs ts')))
    (hla : la' = la ∨ H la' = none) (hln : la' ∉ new.cells) (hK : ∀ b o, H b = some o → b ≠ p → b ≠ la → H' b = some o)
    (en : g'.next = g.next + 1) (ew : g'.w = g.w) (eh : g'.h = g.h) (ens : g'.nodes = nodes ts') (good : LGood (nodes ts')) :
    (∃ ow', PicAt C H' p dx la' ts' ow' g') ∧ ∀ b ∈ foot p la' ts', b ∈ foot p la ts ∨ H b = none := by
  have hold : ∀ u ∈ flat ts, ∀ c ∈ u.cells, ∃ o, H c = some o := fun u hu => (A.held u hu).some_of
  have hp : p ∉ new.cells := fun q => by have := cn p q; rw [A.self] at this; cases this
  have hla0 : la ∉ new.cells := fun q => by have := cn la q; rw [A.lst] at this; cases this
  have hoff : ∀ u ∈ flat ts, ∀ c ∈ u.cells, c ∉ new.cells ∧ c ≠ la' := fun u hu c hc => by
    obtain ⟨o, e⟩ := hold u hu c hc
    refine ⟨fun q => (ne_of_none e (cn c q)) rfl, fun q => ?_⟩
    subst q
    rcases hla with z | z
    · subst z; exact A.la_off hu hc
    · rw [e] at z; cases z
  refine ⟨⟨fun c => if c ∈ new.cells then g.next + 1 else if c = la' then 0 else ow c, ?_⟩, ?_⟩
  · refine ⟨hself, hlst, fun u hu => ?_, ?_, ?_, fun u hu c hc => ?_, ens, hnd, fun u hu => ?_, hcnt, good, by rw [ew]; exact A.w1, by rw [ew]; exact A.w8, by rw [eh]; exact A.h1, by rw [eh]; exact A.h8⟩
    · rcases hsub u hu with e | e
      · rw [e]; exact hnew
      · refine Own.fr (F := [p, la]) (fun b o eb nb => hK b o eb (fun q => nb (by rw [q]; exact List.mem_cons_self)) (fun q => nb (by rw [q]; exact List.mem_cons_of_mem _ List.mem_cons_self))) (A.held u e) fun c hc q => ?_
        rcases List.mem_cons.mp q with z | z
        · rw [z] at hc; exact A.p_off e hc
        · rw [List.mem_singleton.mp z] at hc; exact A.la_off e hc
    · show (if p ∈ new.cells then g.next + 1 else if p = la' then 0 else ow p) = 0
      rw [if_neg hp]
      split
      · rfl
      · exact A.owp
    · show (if la' ∈ new.cells then g.next + 1 else if la' = la' then 0 else ow la') = 0
      rw [if_neg hln, if_pos rfl]
    · show (if c ∈ new.cells then g.next + 1 else if c = la' then 0 else ow c) = u.id + 1
      rcases hsub u hu with e | e
      · rw [e] at hc ⊢
        rw [if_pos hc, idn]
      · have q := hoff u e c hc
        rw [if_neg q.1, if_neg q.2]
        exact A.owt u e c hc
    · rw [en]
      rcases hsub u hu with e | e
      · rw [e, idn]; omega
      · have := A.lt u e; omega
  · intro b hb
    rcases foot_cases hb with e | e | ⟨u, hu, hc⟩
    · rw [e]; exact .inl mem_foot_p
    · rw [e]
      rcases hla with z | z
      · rw [z]; exact .inl mem_foot_la
      · exact .inr z
    · rcases hsub u hu with e | e
      · rw [e] at hc; exact .inr (cn b hc)
      · exact .inl (mem_foot_t e hc)
end
theorem top_sub : ∀ ts : List AT, List.Sublist ts (flat ts)
  | [] => List.nil_sublist _
  | t :: l => by
    have ef : flat (t :: l) = t :: (flat t.kids ++ flat l) := by
      conv => lhs; unfold flat
      rw [flat1_eq]; rfl
    rw [ef]
    exact List.Sublist.cons_cons _ ((top_sub l).trans (List.sublist_append_right _ _))
/-! ### pixels -/
def intsV (l : List Nat) : List V := (l.map fun (n : Nat) => (n : Int)).map V.int
theorem pairs_some : ∀ (l : List Nat) {q : List (Nat × Nat)}, Sq49.pairs l = some q → flatP q = intsV l ∧ l.length = 2 * q.length
  | [], q, h => by
    unfold Sq49.pairs at h
    cases h
    exact ⟨rfl, rfl⟩
  | [a], q, h => by
    unfold Sq49.pairs at h
    cases h
  | a :: b :: l, q, h => by
    unfold Sq49.pairs at h
    cases e : Sq49.pairs l with
    | none => rw [e] at h; cases h
    | some r =>
      rw [e] at h
      cases h
      have ih := pairs_some l e
      refine ⟨?_, ?_⟩
      · show V.int a :: V.int b :: flatP r = V.int a :: V.int b :: intsV l
        rw [ih.1]
      · show l.length + 1 + 1 = 2 * (r.length + 1)
        omega
theorem pairs_none : ∀ (l : List Nat), Sq49.pairs l = none → l.length % 2 = 1
  | [], h => by unfold Sq49.pairs at h; cases h
  | [a], h => rfl
  | a :: b :: l, h => by
    unfold Sq49.pairs at h
    cases e : Sq49.pairs l with
    | none =>
      have := pairs_none l e
      show (l.length + 1 + 1) % 2 = 1
      omega
    | some r => rw [e] at h; cases h
theorem pairs_mem : ∀ (l : List Nat) {q : List (Nat × Nat)}, Sq49.pairs l = some q → ∀ z ∈ q, z.1 ∈ l ∧ z.2 ∈ l
  | [], q, h => by
    unfold Sq49.pairs at h
    cases h
    exact fun z hz => nomatch hz
  | [a], q, h => by
    unfold Sq49.pairs at h
    cases h
  | a :: b :: l, q, h => by
    unfold Sq49.pairs at h
    cases e : Sq49.pairs l with
    | none => rw [e] at h; cases h
    | some r =>
      rw [e] at h
      cases h
      intro z hz
      rcases List.mem_cons.mp hz with q | q
      · rw [q]; exact ⟨List.mem_cons_self, List.mem_cons_of_mem _ List.mem_cons_self⟩
      · have ih := pairs_mem l e z q
        exact ⟨List.mem_cons_of_mem _ (List.mem_cons_of_mem _ ih.1), List.mem_cons_of_mem _ (List.mem_cons_of_mem _ ih.2)⟩
theorem layer_bad {g : House} {x y w h : Nat} {l : List Nat} (c : w = 0 ∨ 8 < w ∨ h = 0 ∨ 8 < h ∨ 64 < x ∨ 64 < y) : g.step (.layer x y w h l) = (g, says (-1)) := by
  show (if w = 0 ∨ 8 < w ∨ h = 0 ∨ 8 < h ∨ 2 * 32 < x ∨ 2 * 32 < y then (g, says (-1)) else _) = _
  rw [if_pos c]
theorem layer_go {g : House} {x y w h : Nat} {l : List Nat} (c : ¬ (w = 0 ∨ 8 < w ∨ h = 0 ∨ 8 < h ∨ 64 < x ∨ 64 < y)) : g.step (.layer x y w h l) = match Sq49.pairs l with
    | none => (g, says (-3))
    | some p => if p.length ≠ w * h ∨ (l.any fun c => decide (255 < c)) = true then (g, says (-3)) else if 10 ≤ g.count then (g, says (-5)) else
      ({ g with nodes := g.nodes ++ [.layer ⟨g.next, true, 255, 0, false⟩ (offset x) (offset y) w h p], next := g.next + 1 }, says g.next) := by
  show (if w = 0 ∨ 8 < w ∨ h = 0 ∨ 8 < h ∨ 2 * 32 < x ∨ 2 * 32 < y then (g, says (-1)) else _) = _
  rw [if_neg c]
  rfl
theorem layer_unfit {g : House} {x y w h : Nat} {l : List Nat} (c : ¬ (w = 0 ∨ 8 < w ∨ h = 0 ∨ 8 < h ∨ 64 < x ∨ 64 < y)) (q : l.length ≠ 2 * w * h ∨ (l.any fun c => decide (255 < c)) = true) : g.step (.layer x y w h l) = (g, says (-3)) := by
  rw [layer_go c]
  cases e : Sq49.pairs l with
  | none => rfl
  | some p =>
    show (if p.length ≠ w * h ∨ (l.any fun c => decide (255 < c)) = true then (g, says (-3)) else _) = _
    rw [if_pos]
    rcases q with q | q
    · refine .inl fun z => q ?_
      rw [(pairs_some l e).2, z, Nat.mul_assoc]
    · exact .inr q
theorem layer_fit {g : House} {x y w h : Nat} {l : List Nat} (c : ¬ (w = 0 ∨ 8 < w ∨ h = 0 ∨ 8 < h ∨ 64 < x ∨ 64 < y)) (q : l.length = 2 * w * h) (q2 : (l.any fun c => decide (255 < c)) = false) :
    ∃ px, Sq49.pairs l = some px ∧ px.length = w * h ∧ g.step (.layer x y w h l) = if 10 ≤ g.count then (g, says (-5)) else
      ({ g with nodes := g.nodes ++ [.layer ⟨g.next, true, 255, 0, false⟩ (offset x) (offset y) w h px], next := g.next + 1 }, says g.next) := by
  rw [layer_go c]
  cases e : Sq49.pairs l with
  | none =>
    have := pairs_none l e
    rw [q, Nat.mul_assoc] at this
    omega
  | some p =>
    have hl := (pairs_some l e).2
    have : p.length = w * h := by
      rw [q, Nat.mul_assoc] at hl
      omega
    refine ⟨p, rfl, this, ?_⟩
    show (if p.length ≠ w * h ∨ (l.any fun c => decide (255 < c)) = true then (g, says (-3)) else _) = _
    rw [if_neg]
    rw [q2]
    intro z
    rcases z with z | z
    · exact z this
    · cases z
theorem count_of {C : Cs} {H : Hp} {p dx la : Addr} {ts : List AT} {ow : Addr → Nat} {g : House} (A : PicAt C H p dx la ts ow g) : g.count = (flat ts).length := by
  unfold House.count
  rw [A.ns, ids_all, List.length_map]
theorem LGood_append : ∀ (l m : List Node), LGood l → LGood m → LGood (l ++ m)
  | [], m, _, h => h
  | x :: l, m, h, h2 => by
    unfold LGood at h
    show LGood (x :: (l ++ m))
    unfold LGood
    exact ⟨h.1, LGood_append l m h.2 h2⟩
section
variable {P : Program} {w : World} {K : PySem.W.Frag} {mg : Str → Option Value} {base : Heap} {C : Cs}
structure Tz (mg : Str → Option Value) : Prop where
  zmax : mg "max" = none
  zlist : mg "list" = none
theorem boot_max : bootBuiltins "max" = some (.builtin "max") := by decide +kernel
theorem boot_list : bootBuiltins "list" = some (.type "list") := by decide +kernel
def spMkLayer (K : PySem.W.Frag) (C : Cs) : Sp := fun vs H Q _ => ∃ (p pl : Addr) (x y wd ht : Nat) (l : List Nat), vs = [.ref p, .int x, .int y, .int wd, .int ht, .ref pl] ∧ SqL K H pl (intsV l) ∧ Prom C p (.layer x y wd ht l) H Q
theorem scMkLayer : FnScope ["picture", "x", "y", "w", "h", "pixels", "number"] ["picture", "x", "y", "w", "h", "pixels"] (C8.fnScope sMakeLayer) := C8.fnScope_by (by decide +kernel)
theorem any_max {l : List Nat} {m : Int} (hm : m ∈ l.map fun (n : Nat) => (n : Int)) (h : ∀ y ∈ l.map (fun (n : Nat) => (n : Int)), y ≤ m) : decide (255 < m) = l.any fun c => decide (255 < c) := by
  obtain ⟨k, hk, rfl⟩ := List.mem_map.mp hm
  by_cases q : 255 < k
  · rw [decide_eq_true (by omega)]
    exact (List.any_eq_true.mpr ⟨k, hk, decide_eq_true q⟩).symm
  · rw [decide_eq_false (by omega)]
    symm
    rw [List.any_eq_false]
    intro z hz
    have := h z (List.mem_map.mpr ⟨z, hz, rfl⟩)
    rw [decide_eq_false (by omega)]
    exact Bool.false_ne_true
/-- a list that is read stands where something that is no list is written -/
theorem sq_upd {H : Hp} {a b : Addr} {xs : List V} {o u : HO} (h : SqL K H a xs) (e : H b = some o) (hn : ∀ ys, o ≠ .lst ys) (hz : ∀ q ys, o ≠ .frz q ys) : SqL K (upd H b u) a xs := by
  rcases h with (h | ⟨z, h⟩) | h
  · refine .inl (.inl ?_)
    rw [upd_ne (fun q => by rw [q, e] at h; cases h; exact hn _ rfl)]; exact h
  · refine .inl (.inr ⟨z, ?_⟩)
    rw [upd_ne (fun q => by rw [q, e] at h; cases h; exact hz _ _ rfl)]; exact h
  · exact .inr h
theorem mklayer_ok (R : Raw K mg "make_layer" sMakeLayer ["picture", "x", "y", "w", "h", "pixels"]) (T : Tx K mg C) (Z : Tz mg) (M : Nm mg) (cS : C8.Cal P w K mg base 1 "is_side" spSide []) (cF : C8.Cal P w K mg base (DEEP + 1) "is_full" (spFull K C) [])
    (cT : C8.Met P w K mg base 1 C.P "take_number" (spTake C) []) (cL : C8.Mak P w K mg base 2 "Layer" C.L (spLayer C) []) : C8.Cal P w K mg base (DEEP + 2) "make_layer" (spMkLayer K C) [] := by
  refine R.cal scMkLayer (fun vs H Q E h => ?_) (fun f cdv A outer s H vs Q E hr h => ?_)
  · obtain ⟨p, pl, x, y, wd, ht, l, rfl, _⟩ := h
    rfl
  · obtain ⟨p, pl, x, y, wd, ht, l, rfl, hl, g, F, S, k⟩ := h
    refine ⟨_, pss_cons (ps_if (PW.pt (pw_or (pt_not (pt_val (C8.pe_c cS hr (by decide) (by rfl) (pa_cons (pv 3) pa_nil)))) (pw_or (pt_not (pt_val (C8.pe_c cS hr (by decide) (by rfl) (pa_cons (pv 4) pa_nil))))
          (pw_or (pt_cmpR op_gt (pv 1) (pe_num (by rfl) M.far) (nomark _)) (pw_or1 (pt_cmpR op_gt (pv 2) (pe_num (by rfl) M.far) (nomark _)))))))
        (pss_one (ps_ret (pe_num (by rfl) M.bad))) pss_nil)
      (pss_cons (ps_if (PW.pt (pw_or (pt_cmpR op_ne (pe_callB call_len_seq (by rfl) T.zlen PySem.boot_len (pa_cons (pv 5) pa_nil)) (pe_op op_mul (pe_op op_mul pe_int (pv 3)) (pv 4)) (nomark _))
          (pw_or1 (pt_cmpR op_gt (pe_callB (cr_max rfl) (by rfl) Z.zmax boot_max (pa_cons (pv 5) pa_nil)) (pe_num (by rfl) M.level) (nomark _)))))
        (pss_one (ps_ret (pe_num (by rfl) M.unfit))) pss_nil)
      (pss_cons (ps_if (pt_val (C8.pe_c cF hr (Nat.le_refl _) (by rfl) (pa_cons (pv 0) pa_nil))) (pss_one (ps_ret (pe_num (by rfl) M.full))) pss_nil)
      (pss_cons (ps_set (i := 6) scMkLayer.nd rfl (Or.inl rfl) (C8.pe_mt0 cT hr (by decide) (pv 0)))
      (pss_cons (ps_expr (pe_bm PySem.F.plainAttrs_list PySem.F.slot_list_append PySem.F.type_list_append mt_append (pe_fld (pv 0) rfl)
        (pa_cons (C8.pe_mk cL hr (by decide) (by rfl) (pa_cons (pv 6) (pa_cons (pe_op op_sub (pv 1) (pe_num (by rfl) M.told)) (pa_cons (pe_op op_sub (pv 2) (pe_num (by rfl) M.told)) (pa_cons (pv 3) (pa_cons (pv 4)
          (pa_cons (pe_callTy call_list_of (by rfl) Z.zlist boot_list (pa_cons (pv 5) pa_nil)) pa_nil))))))) pa_nil)))
      (pss_one (ps_ret (pv 6))))))), ?_⟩
    refine ⟨_, rfl, _, rfl, _, rfl, iteB (fun c => ?_) (fun c1 => ?_)⟩
    · have c' : wd = 0 ∨ 8 < wd := of_decide_eq_true (by rw [← side_not]; exact c)
      exact iteT (refused S k (layer_bad (by omega)) (Same.refl _))
    have c1' : ¬ (wd = 0 ∨ 8 < wd) := of_decide_eq_false (by rw [← side_not]; exact c1)
    refine ⟨_, rfl, _, rfl, _, rfl, iteB (fun c => ?_) (fun c2 => ?_)⟩
    · have c' : ht = 0 ∨ 8 < ht := of_decide_eq_true (by rw [← side_not]; exact c)
      exact iteT (refused S k (layer_bad (by omega)) (Same.refl _))
    have c2' : ¬ (ht = 0 ∨ 8 < ht) := of_decide_eq_false (by rw [← side_not]; exact c2)
    refine ⟨_, rfl, _, _, rfl, rfl, _, rfl, iteB (fun q => ?_) (fun q1 => ?_)⟩
    · have q' : (64 : Int) < x := of_decide_eq_true q
      exact iteT (refused S k (layer_bad (by omega)) (Same.refl _))
    have q1' : ¬ (64 : Int) < x := of_decide_eq_false q1
    refine ⟨_, rfl, _, _, rfl, rfl, _, rfl, iteB (fun q => ?_) (fun q2 => ?_)⟩
    · have q' : (64 : Int) < y := of_decide_eq_true q
      exact refused S k (layer_bad (by omega)) (Same.refl _)
    have q2' : ¬ (64 : Int) < y := of_decide_eq_false q2
    have cnb : ¬ (wd = 0 ∨ 8 < wd ∨ ht = 0 ∨ 8 < ht ∨ 64 < x ∨ 64 < y) := by omega
    have llen : (intsV l).length = l.length := by unfold intsV; rw [List.length_map, List.length_map]
    refine ⟨_, rfl, pl, _, rfl, .inl hl, _, rfl, _, _, rfl, rfl, .inl ⟨by decide, by decide⟩, _, rfl, _, _, rfl, rfl, .inl ⟨by omega, by omega⟩, rfl, _, rfl, iteB (fun q => ?_) (fun q3 => ?_)⟩
    · refine iteT (refused S k (layer_unfit cnb (.inl ?_)) (Same.refl _))
      intro z
      have : (!decide (V.int (((intsV l).length : Nat) : Int) = V.int ((2 : Int) * wd * ht))) = true := q
      rw [llen, z] at this
      rw [decide_eq_true (by rw [Int.natCast_mul, Int.natCast_mul]; rfl)] at this
      cases this
    have q3' : l.length = 2 * wd * ht := by
      have this : (!decide (V.int (((intsV l).length : Nat) : Int) = V.int ((2 : Int) * wd * ht))) = false := q3
      rw [llen] at this
      have z : V.int (l.length : Int) = V.int ((2 : Int) * wd * ht) := by
        by_cases z : V.int (l.length : Int) = V.int ((2 : Int) * wd * ht)
        · exact z
        · rw [decide_eq_false z] at this; cases this
      injection z with z
      have z2 : ((l.length : Nat) : Int) = ((2 * wd * ht : Nat) : Int) := by rw [Int.natCast_mul, Int.natCast_mul]; exact z
      exact Int.ofNat.inj z2
    have lpos : 0 < (l.map fun (n : Nat) => (n : Int)).length := by
      rw [List.length_map, q3']
      exact Nat.mul_pos (by omega) (by omega)
    refine ⟨_, rfl, pl, _, rfl, hl, lpos, fun m hm hmx => ⟨_, _, rfl, rfl, _, rfl, iteB (fun q => ?_) (fun q4 => ?_)⟩⟩
    · refine refused S k (layer_unfit cnb (.inr ?_)) (Same.refl _)
      rw [← any_max hm hmx]; exact q
    have q4' : (l.any fun c => decide (255 < c)) = false := by rw [← any_max hm hmx]; exact q4
    obtain ⟨px, hpx, hpl, es⟩ := layer_fit (g := g) cnb q3' q4'
    obtain ⟨dx, la, ts, ow, A', hF⟩ := S
    have S' : State C H p g F := ⟨dx, la, ts, ow, A', hF⟩
    refine ⟨_, rfl, p, la, ts, rfl, A'.holder T, A'.held, A'.deep, A'.few, fun H1 s1 => ⟨_, rfl, iteB (fun q => ?_) (fun q5 => ?_)⟩⟩
    · have q' : 10 ≤ (flat ts).length := of_decide_eq_true q
      rw [if_pos (by rw [count_of A']; exact q')] at es
      exact refused S' k es s1
    have q5' : ¬ 10 ≤ (flat ts).length := of_decide_eq_false q5
    rw [if_neg (by rw [count_of A']; exact q5')] at es
    have A1 := A'.same s1
    refine ⟨_, rfl, p, dx, _, rfl, A1.self, picF_take .., p, dx, la, g.w, g.h, g.next, rfl, A1.self, ?_⟩
    have npl : la ≠ p := ne_of A1.lst A1.self (by intro z; cases z)
    -- picture.things
    refine ⟨_, rfl, p, C.P, dx, _, _, rfl, upd_same, T.cP, T.nPt, picF_things .., .inl ⟨rfl, _, SqL.of (by rw [upd_ne npl]; exact A1.lst)⟩, ?_⟩
    -- the arguments
    have hl1 : SqL K (upd H1 p (.ins C.P dx (picF g.w g.h la (g.next + 1)))) pl (intsV l) := sq_upd (Same.seq s1 hl) A1.self (fun ys z => nomatch z) (fun q ys z => nomatch z)
    refine ⟨_, rfl, _, rfl, _, _, rfl, rfl, _, rfl, _, _, rfl, rfl, _, rfl, _, rfl, _, rfl, pl, _, rfl, .inl hl1, fun pa hpa => ?_⟩
    intro a da ha hda nda
    refine ⟨a, da, pa, g.next, (x : Int) - 32, (y : Int) - 32, wd, ht, rfl, upd_same, rfl, ?_⟩
    have e2p : upd H1 p (.ins C.P dx (picF g.w g.h la (g.next + 1))) p = some (.ins C.P dx (picF g.w g.h la (g.next + 1))) := upd_same
    have e2l : upd H1 p (.ins C.P dx (picF g.w g.h la (g.next + 1))) la = some (.lst (refs ts)) := by rw [upd_ne npl]; exact A1.lst
    have k2 : ∀ b o, H1 b = some o → b ≠ p → upd H1 p (.ins C.P dx (picF g.w g.h la (g.next + 1))) b = some o := fun b o e n => by rw [upd_ne n]; exact e
    generalize hH2 : upd H1 p (.ins C.P dx (picF g.w g.h la (g.next + 1))) = H2 at *
    have s3 : Same H2 (upd H2 pa (.lst (intsV l))) := same_new hpa _
    have e3pa : upd H2 pa (.lst (intsV l)) pa = some (.lst (intsV l)) := upd_same
    generalize hH3 : upd H2 pa (.lst (intsV l)) = H3 at *
    have s4 : Same H3 (upd (upd H3 da (.own a)) a (.ins C.L da [])) := fun b o e => by
      rw [upd_ne (ne_of_none e ha), upd_ne (ne_of_none e hda)]; exact e
    rw [upd_upd]
    have s5 : Same H3 (upd (upd H3 da (.own a)) a (.ins C.L da (layF (how0 g.next) ((x : Int) - 32) ((y : Int) - 32) wd ht pa))) := fun b o e => by
      rw [upd_ne (ne_of_none e ha), upd_ne (ne_of_none e hda)]; exact e
    have e5a : upd (upd H3 da (.own a)) a (.ins C.L da (layF (how0 g.next) ((x : Int) - 32) ((y : Int) - 32) wd ht pa)) a = some (.ins C.L da (layF (how0 g.next) ((x : Int) - 32) ((y : Int) - 32) wd ht pa)) := upd_same
    generalize hH5 : upd (upd H3 da (.own a)) a (.ins C.L da (layF (how0 g.next) ((x : Int) - 32) ((y : Int) - 32) wd ht pa)) = H5 at *
    have e5l := s5 _ _ (s3 _ _ e2l)
    refine ⟨la, _, _, rfl, rfl, e5l, (by rw [refs_length]; have a1 := A'.cnt; have a2 := List.Sublist.length_le (top_sub ts); exact small1000 (by omega)), ?_⟩
    refine ⟨_, rfl, ?_⟩
    have q := k (upd H5 la (.lst (refs ts ++ [.ref a])))
    rw [es] at q
    have nal : a ≠ la := Ne.symm (ne_of_none (s3 _ _ e2l) ha)
    have npal : pa ≠ la := Ne.symm (ne_of_none e2l hpa)
    have nppl : p ≠ la := Ne.symm npl
    have fH1 : ∀ b, H2 b = none → H1 b = none := fun b hb => by
      by_cases z : b = p
      · rw [z, e2p] at hb; cases hb
      · cases e : H1 b with
        | none => rfl
        | some o => rw [k2 b o e z] at hb; cases hb
    have fpa : H pa = none := s1.free (fH1 _ hpa)
    have fa : H a = none := s1.free (fH1 _ (s3.free ha))
    have hK : ∀ b o, H b = some o → b ≠ p → b ≠ la → upd H5 la (.lst (refs ts ++ [.ref a])) b = some o := fun b o e n1 n2 => by
      rw [upd_ne n2]; exact s5 _ _ (s3 _ _ (k2 _ _ (s1 _ _ e) n1))
    have fl : flat (ts ++ [AT.layer a pa (how0 g.next) (offset x) (offset y) wd ht px]) = flat ts ++ [AT.layer a pa (how0 g.next) (offset x) (offset y) wd ht px] := by
      rw [flat_append]
      congr 1
    have mk := A'.addNew (H' := upd H5 la (.lst (refs ts ++ [.ref a]))) (la' := la) (ts' := ts ++ [AT.layer a pa (how0 g.next) (offset x) (offset y) wd ht px]) (new := .layer a pa (how0 g.next) (offset x) (offset y) wd ht px)
      (g' := { g with nodes := g.nodes ++ [.layer ⟨g.next, true, 255, 0, false⟩ (offset x) (offset y) wd ht px], next := g.next + 1 })
      (fun u hu => by rw [fl] at hu; rcases List.mem_append.mp hu with z | z; exact .inr z; exact .inl (List.mem_singleton.mp z))
      (by
        rw [fl, List.map_append, List.nodup_append]
        refine ⟨A'.ids, by simp, fun z hz z2 hz2 => ?_⟩
        obtain ⟨u, hu, rfl⟩ := List.mem_map.mp hz
        have e := List.mem_singleton.mp hz2
        have l1 := A'.lt u hu
        rw [e]
        show u.id ≠ g.next
        omega)
      (by rw [fl, List.length_append]; show _ + 1 ≤ 10; omega)
      ⟨⟨da, by rw [upd_ne nal]; exact e5a⟩, by rw [upd_ne npal, (pairs_some l hpx).1]; exact s5 _ _ e3pa⟩
      (fun c hc => by
        unfold AT.cells at hc
        rcases List.mem_cons.mp hc with z | z
        · rw [z]; exact fa
        · rw [List.mem_singleton.mp z]; exact fpa)
      rfl (by rw [upd_ne nppl]; exact s5 _ _ (s3 _ _ e2p)) (by rw [upd_same, refs_append]; rfl) (.inl rfl)
      (fun z => by
        unfold AT.cells at z
        rcases List.mem_cons.mp z with z | z
        · exact nal z.symm
        · exact npal (List.mem_singleton.mp z).symm)
      hK rfl rfl rfl (by
        show g.nodes ++ _ = _
        rw [nodes_append, A'.ns]
        unfold nodes AT.node nodes
        rfl)
      (by
        rw [nodes_append]
        refine LGood_append _ _ A'.good ?_
        unfold nodes AT.node nodes LGood LGood NGood
        refine ⟨⟨⟨by show 255 ≤ 255; decide, by show 0 ≤ 6; decide⟩, by omega, by omega, by omega, by omega, hpl, fun z hz => ?_⟩, trivial⟩
        have zm := pairs_mem l hpx z hz
        have any := List.any_eq_false.mp q4'
        have a1 := any z.1 zm.1
        have a2 := any z.2 zm.2
        exact ⟨Nat.le_of_not_lt fun c => a1 (decide_eq_true c), Nat.le_of_not_lt fun c => a2 (decide_eq_true c)⟩)
    obtain ⟨⟨ow', mk1⟩, mk2⟩ := mk
    exact q ⟨dx, la, _, ow', mk1, fun b hb => (mk2 b hb).imp (fun z => hF b z) id⟩ (fun b o eb nF => hK b o eb (fun z => nF (by rw [z]; exact hF _ mem_foot_p)) (fun z => nF (by rw [z]; exact hF _ mem_foot_la))) rfl
end
end Lay
set_option Elab.async false
set_option linter.all false
set_option maxRecDepth 100000
set_option maxHeartbeats 2000000
namespace Lay
open PySem PySem.Spec PyProof.Rows L2
open Sq49 (Node How House says offset)
open LFrac (NGood LGood HGood)
abbrev sMakeGroup : Stmt := topS 45
theorem cut_mid {xs : List V} {a b : Nat} (h : a ≤ b) (hb : b ≤ xs.length) : cutV xs (some (a : Int)) (some (b : Int)) = (xs.drop a).take (b - a) := by
  unfold cutV
  rw [HT.sIx_nat, HT.sIx_nat, Nat.min_eq_left hb, Nat.min_eq_left (Nat.le_trans h hb)]
theorem cut_to {xs : List V} {b : Nat} (hb : b ≤ xs.length) : cutV xs none (some (b : Int)) = xs.take b := by
  unfold cutV
  rw [HT.sIx_none, HT.sIx_nat, Nat.min_eq_left hb]
  rfl
theorem cut_from {xs : List V} {a : Nat} (h : a ≤ xs.length) : cutV xs (some (a : Int)) none = xs.drop a := by
  unfold cutV
  rw [HT.sIx_none, HT.sIx_nat, Nat.min_eq_left h]
  rw [List.take_of_length_le (by rw [List.length_drop]; omega)]
theorem refs_take (ts : List AT) (n : Nat) : (refs ts).take n = refs (ts.take n) := by unfold refs; rw [List.map_take]
theorem refs_drop (ts : List AT) (n : Nat) : (refs ts).drop n = refs (ts.drop n) := by unfold refs; rw [List.map_drop]
theorem nodes_take (ts : List AT) (n : Nat) : nodes (ts.take n) = (nodes ts).take n := by rw [nodes_map, nodes_map, List.map_take]
theorem nodes_drop (ts : List AT) (n : Nat) : nodes (ts.drop n) = (nodes ts).drop n := by rw [nodes_map, nodes_map, List.map_drop]
theorem nodes_cons (t : AT) (l : List AT) : nodes (t :: l) = t.node :: nodes l := by conv => lhs; unfold nodes
theorem idx_nodes (ts : List AT) (i : Nat) : (nodes ts).findIdx? (fun x => x.how.id == i) = ts.findIdx? fun t => t.id == i := by
  rw [nodes_map, List.findIdx?_map]
  congr 1
  funext t
  show (t.node.how.id == i) = _
  rw [node_how]
theorem LGood_mem {l : List Node} : LGood l ↔ ∀ n ∈ l, NGood n := by
  induction l with
  | nil => unfold LGood; exact ⟨fun _ n h => (List.not_mem_nil h).elim, fun _ => trivial⟩
  | cons x r ih =>
    unfold LGood
    rw [ih]
    refine ⟨fun h n hn => ?_, fun h => ⟨h x List.mem_cons_self, fun n hn => h n (List.mem_cons_of_mem _ hn)⟩⟩
    rcases List.mem_cons.mp hn with e | e
    · rw [e]; exact h.1
    · exact h.2 n e
theorem flat_cons (t : AT) (l : List AT) : flat (t :: l) = t :: (flat t.kids ++ flat l) := by
  conv => lhs; unfold flat
  rw [flat1_eq]; rfl
theorem group_zero {g : House} {i : Nat} : g.step (.group i 0) = (g, says (-1)) := by
  simp [House.step]
theorem group_go {g : House} {i n : Nat} (h : n ≠ 0) : g.step (.group i n) = match g.nodes.findIdx? fun x => x.how.id == i with
    | none => (g, says (-2))
    | some p => if g.nodes.length < p + n then (g, says (-1)) else if 10 ≤ g.count then (g, says (-5)) else
      ({ g with nodes := g.nodes.take p ++ .group ⟨g.next, true, 255, 0, false⟩ ((g.nodes.drop p).take n) :: g.nodes.drop (p + n), next := g.next + 1 }, says g.next) := by
  show (if n = 0 then (g, says (-1)) else _) = _
  rw [if_neg h]
  rfl
theorem placeV_eq (o : Option Nat) : placeV o = match o with | none => .non | some n => .int n := by cases o <;> rfl
section
variable {P : Program} {w : World} {K : PySem.W.Frag} {mg : Str → Option Value} {base : Heap} {C : Cs}
def spMkGroup (C : Cs) : Sp := fun vs H Q _ => ∃ (p : Addr) (i n : Nat), vs = [.ref p, .int i, .int n] ∧ Prom C p (.group i n) H Q
theorem scMkGroup : FnScope ["picture", "lowest", "n", "place", "end", "number", "group"] ["picture", "lowest", "n"] (C8.fnScope sMakeGroup) := C8.fnScope_by (by decide +kernel)
theorem int_eq0 (n : Nat) : decide (V.int (n : Int) = V.int 0) = decide (n = 0) := by
  by_cases e : n = 0
  · subst e; rfl
  · have : ¬ V.int (n : Int) = V.int 0 := fun q => e (by injection q with q; omega)
    rw [decide_eq_false this, decide_eq_false e]
theorem mkgroup_ok (R : Raw K mg "make_group" sMakeGroup ["picture", "lowest", "n"]) (T : Tx K mg C) (M : Nm mg) (cP : C8.Cal P w K mg base 1 "place_of" (spPlace K C) []) (cF : C8.Cal P w K mg base (DEEP + 1) "is_full" (spFull K C) [])
    (cT : C8.Met P w K mg base 1 C.P "take_number" (spTake C) []) (cG : C8.Mak P w K mg base 2 "Group" C.G (spGroup C) []) : C8.Cal P w K mg base (DEEP + 2) "make_group" (spMkGroup C) [] := by
  refine R.cal scMkGroup (fun vs H Q E h => ?_) (fun f cdv A outer s H vs Q E hr h => ?_)
  · obtain ⟨p, i, n, rfl, _⟩ := h
    rfl
  · obtain ⟨p, i, n, rfl, g, F, S, k⟩ := h
    refine ⟨_, pss_cons (ps_if (pt_cmpR op_eq (pv 2) pe_int (nomark _)) (pss_one (ps_ret (pe_num (by rfl) M.bad))) pss_nil)
      (pss_cons (ps_set (i := 3) scMkGroup.nd rfl (Or.inl rfl) (C8.pe_c cP hr (by decide) (by rfl) (pa_cons (pv 0) (pa_cons (pv 1) pa_nil))))
      (pss_cons (ps_if (pt_cmpR op_isN (pv 3) pe_non (nomark _)) (pss_one (ps_ret (pe_num (by rfl) M.no))) pss_nil)
      (pss_cons (ps_set (i := 4) scMkGroup.nd rfl (Or.inl rfl) (pe_op op_add (pv 3) (pv 2)))
      (pss_cons (ps_if (pt_cmpR op_gt (pv 4) (pe_callB call_len_seq (by rfl) T.zlen PySem.boot_len (pa_cons (pe_fld (pv 0) rfl) pa_nil)) (nomark _)) (pss_one (ps_ret (pe_num (by rfl) M.bad))) pss_nil)
      (pss_cons (ps_if (pt_val (C8.pe_c cF hr (Nat.le_refl _) (by rfl) (pa_cons (pv 0) pa_nil))) (pss_one (ps_ret (pe_num (by rfl) M.full))) pss_nil)
      (pss_cons (ps_set (i := 5) scMkGroup.nd rfl (Or.inl rfl) (C8.pe_mt0 cT hr (by decide) (pv 0)))
      (pss_cons (ps_set (i := 6) scMkGroup.nd rfl (Or.inl rfl) (C8.pe_mk cG hr (by decide) (by rfl) (pa_cons (pv 5) (pa_cons (pe_slice sl_list (pe_fld (pv 0) rfl) (po_some (pv 3)) (po_some (pv 4))) pa_nil))))
      (pss_cons (ps_fld (pv 0) (pe_op op_cat (pe_op op_cat (pe_slice sl_list (pe_fld (pv 0) rfl) po_none (po_some (pv 3))) (pe_lst (pa_cons (pv 6) pa_nil))) (pe_slice sl_list (pe_fld (pv 0) rfl) (po_some (pv 4)) po_none)) rfl)
      (pss_one (ps_ret (pv 5))))))))))), ?_⟩
    refine ⟨_, rfl, rfl, _, rfl, iteB (fun q => ?_) (fun q0 => ?_)⟩
    · have q' : n = 0 := of_decide_eq_true (by rw [← int_eq0]; exact q)
      subst q'
      exact refused S k group_zero (Same.refl _)
    have q0' : n ≠ 0 := of_decide_eq_false (by rw [← int_eq0]; exact q0)
    have es := group_go (g := g) (i := i) q0'
    obtain ⟨dx, la, ts, ow, A', hF⟩ := S
    have S' : State C H p g F := ⟨dx, la, ts, ow, A', hF⟩
    rw [A'.ns, idx_nodes] at es
    refine ⟨_, rfl, _, rfl, p, la, ts, i, rfl, A'.holder T, fun t ht => A'.held t (mem_flat_self ht), fun H1 s1 => ?_⟩
    refine ⟨_, rfl, rfl, _, rfl, ?_⟩
    rw [placeV_non]
    cases e : ts.findIdx? (fun t => t.id == i) with
    | none =>
      rw [e] at es
      exact iteT (refused S' k es s1)
    | some pl =>
      rw [e] at es
      replace es : g.step (.group i n) = if (nodes ts).length < pl + n then (g, says (-1)) else if 10 ≤ g.count then (g, says (-5)) else
        ({ g with nodes := (nodes ts).take pl ++ .group ⟨g.next, true, 255, 0, false⟩ (((nodes ts).drop pl).take n) :: (nodes ts).drop (pl + n), next := g.next + 1 }, says g.next) := es
      have nl : (nodes ts).length = ts.length := by rw [nodes_map, List.length_map]
      refine iteF ?_
      have A1 := A'.same s1
      refine ⟨_, rfl, _, rfl, _, _, rfl, rfl, ?_⟩
      refine ⟨_, rfl, _, rfl, p, C.P, dx, _, _, rfl, A1.self, T.cP, T.nPt, picF_things .., la, _, rfl, .inl (SqL.of A1.lst), _, _, rfl, rfl, _, rfl, iteB (fun q => ?_) (fun q1 => ?_)⟩
      · have q' : (((refs ts).length : Nat) : Int) < (pl : Int) + (n : Int) := of_decide_eq_true q
        rw [refs_length] at q'
        rw [if_pos (by omega)] at es
        exact refused S' k es s1
      have q1' : ¬ (((refs ts).length : Nat) : Int) < (pl : Int) + (n : Int) := of_decide_eq_false q1
      rw [refs_length] at q1'
      rw [if_neg (by omega)] at es
      refine ⟨_, rfl, p, la, ts, rfl, A1.holder T, A1.held, A1.deep, A1.few, fun H1' s1' => ⟨_, rfl, iteB (fun q => ?_) (fun q2 => ?_)⟩⟩
      · have q' : 10 ≤ (flat ts).length := of_decide_eq_true q
        rw [if_pos (by rw [count_of A']; exact q')] at es
        exact refused S' k es (s1.trans s1')
      have q2' : ¬ 10 ≤ (flat ts).length := of_decide_eq_false q2
      rw [if_neg (by rw [count_of A']; exact q2')] at es
      replace s1 : Same H H1' := s1.trans s1'
      have B1 := A'.same s1
      refine ⟨_, rfl, p, dx, _, rfl, B1.self, picF_take .., p, dx, la, g.w, g.h, g.next, rfl, B1.self, ?_⟩
      have npl : la ≠ p := ne_of B1.lst B1.self (by intro z; cases z)
      have e2p : upd H1' p (.ins C.P dx (picF g.w g.h la (g.next + 1))) p = some (.ins C.P dx (picF g.w g.h la (g.next + 1))) := upd_same
      have e2l : upd H1' p (.ins C.P dx (picF g.w g.h la (g.next + 1))) la = some (.lst (refs ts)) := by rw [upd_ne npl]; exact B1.lst
      have k2 : ∀ b o, H1' b = some o → b ≠ p → upd H1' p (.ins C.P dx (picF g.w g.h la (g.next + 1))) b = some o := fun b o e n => by rw [upd_ne n]; exact e
      generalize hH2 : upd H1' p (.ins C.P dx (picF g.w g.h la (g.next + 1))) = H2 at *
      have fH : ∀ b, H2 b = none → H b = none := fun b hb => s1.free (by
        by_cases z : b = p
        · rw [z, e2p] at hb; cases hb
        · cases e : H1' b with
          | none => rfl
          | some o => rw [k2 b o e z] at hb; cases hb)
      -- Group(number, things[place:end])
      refine ⟨_, rfl, _, rfl, p, C.P, dx, _, _, rfl, e2p, T.cP, T.nPt, picF_things .., _, rfl, _, rfl, _, rfl, _, rfl, la, _, rfl, SqL.of e2l, fun lb hlb => ?_⟩
      intro a da ha hda nda
      have em : cutV (refs ts) (some (pl : Int)) (some ((pl : Int) + (n : Int))) = refs ((ts.drop pl).take n) := by
        have z := cut_mid (xs := refs ts) (a := pl) (b := pl + n) (by omega) (by rw [refs_length]; omega)
        rw [refs_drop, refs_take, show pl + n - pl = n by omega] at z
        exact z
      refine ⟨a, da, lb, g.next, rfl, upd_same, rfl, ?_⟩
      rw [upd_upd]
      have s3 : Same H2 (upd H2 lb (.lst (cutV (refs ts) (some (pl : Int)) (some ((pl : Int) + (n : Int)))))) := same_new hlb _
      have e3 : upd H2 lb (.lst (cutV (refs ts) (some (pl : Int)) (some ((pl : Int) + (n : Int))))) lb = some (.lst (refs ((ts.drop pl).take n))) := by rw [upd_same, em]
      generalize hH3 : upd H2 lb (.lst (cutV (refs ts) (some (pl : Int)) (some ((pl : Int) + (n : Int))))) = H3 at *
      have s5 : Same H3 (upd (upd H3 da (.own a)) a (.ins C.G da (grpF (how0 g.next) lb))) := fun b o e => by
        rw [upd_ne (ne_of_none e ha), upd_ne (ne_of_none e hda)]; exact e
      have e5a : upd (upd H3 da (.own a)) a (.ins C.G da (grpF (how0 g.next) lb)) a = some (.ins C.G da (grpF (how0 g.next) lb)) := upd_same
      generalize hH5 : upd (upd H3 da (.own a)) a (.ins C.G da (grpF (how0 g.next) lb)) = H5 at *
      have s25 : Same H2 H5 := s3.trans s5
      have e5p := s25 _ _ e2p
      have e5l := s25 _ _ e2l
      have tl : ts.length ≤ 10 := Nat.le_trans (List.Sublist.length_le (top_sub ts)) A'.cnt
      refine ⟨_, rfl, p, C.P, dx, _, _, rfl, e5p, T.cP, T.nPt, picF_things .., _, rfl, _, rfl, la, _, rfl, SqL.of e5l, fun c1 hc1 => ?_⟩
      rw [cut_to (by rw [refs_length]; omega), refs_take]
      have s6 := same_new hc1 (.lst (refs (ts.take pl)))
      have e6 : upd H5 c1 (.lst (refs (ts.take pl))) c1 = some (.lst (refs (ts.take pl))) := upd_same
      generalize upd H5 c1 (.lst (refs (ts.take pl))) = H6 at *
      refine ⟨_, rfl, (by show 1 ≤ sizeLine; decide), fun c2 hc2 => ?_⟩
      have s7 := same_new hc2 (.lst [.ref a])
      have e7 : upd H6 c2 (.lst [.ref a]) c2 = some (.lst [.ref a]) := upd_same
      generalize upd H6 c2 (.lst [.ref a]) = H7 at *
      have tkl : (ts.take pl).length ≤ 10 := by rw [List.length_take]; omega
      refine ⟨c1, c2, _, _, rfl, rfl, s7 _ _ e6, e7, (by rw [refs_length]; exact Nat.le_of_lt (small1000 (by show _ + 1 ≤ 1000; omega))), fun c3 hc3 => ?_⟩
      have s8 := same_new hc3 (.lst (refs (ts.take pl) ++ [.ref a]))
      have e8 : upd H7 c3 (.lst (refs (ts.take pl) ++ [.ref a])) c3 = some (.lst (refs (ts.take pl) ++ [.ref a])) := upd_same
      generalize upd H7 c3 (.lst (refs (ts.take pl) ++ [.ref a])) = H8 at *
      have s28 : Same H2 H8 := ((s25.trans s6).trans s7).trans s8
      refine ⟨_, rfl, p, C.P, dx, _, _, rfl, s28 _ _ e2p, T.cP, T.nPt, picF_things .., _, rfl, _, rfl, la, _, rfl, SqL.of (s28 _ _ e2l), fun c4 hc4 => ?_⟩
      have ee : cutV (refs ts) (some ((pl : Int) + (n : Int))) none = refs (ts.drop (pl + n)) := by
        have z := cut_from (xs := refs ts) (a := pl + n) (by rw [refs_length]; omega)
        rw [refs_drop] at z
        exact z
      have s9 : Same H8 (upd H8 c4 (.lst (cutV (refs ts) (some ((pl : Int) + (n : Int))) none))) := same_new hc4 _
      have e9 : upd H8 c4 (.lst (cutV (refs ts) (some ((pl : Int) + (n : Int))) none)) c4 = some (.lst (refs (ts.drop (pl + n)))) := by rw [upd_same, ee]
      generalize hH9 : upd H8 c4 (.lst (cutV (refs ts) (some ((pl : Int) + (n : Int))) none)) = H9 at *
      have dl : (ts.drop (pl + n)).length ≤ 10 := by rw [List.length_drop]; omega
      refine ⟨c3, c4, _, _, rfl, rfl, s9 _ _ e8, e9, (by rw [List.length_append, refs_length, refs_length]; exact Nat.le_of_lt (small1000 (by show _ + 1 + _ ≤ 1000; omega))), fun lc hlc => ?_⟩
      have s10 := same_new hlc (.lst ((refs (ts.take pl) ++ [.ref a]) ++ refs (ts.drop (pl + n))))
      have e10 : upd H9 lc (.lst ((refs (ts.take pl) ++ [.ref a]) ++ refs (ts.drop (pl + n)))) lc = some (.lst ((refs (ts.take pl) ++ [.ref a]) ++ refs (ts.drop (pl + n)))) := upd_same
      generalize upd H9 lc (.lst ((refs (ts.take pl) ++ [.ref a]) ++ refs (ts.drop (pl + n)))) = H10 at *
      have s210 : Same H2 H10 := (s28.trans s9).trans s10
      have s510 : Same H5 H10 := (((s6.trans s7).trans s8).trans s9).trans s10
      refine ⟨_, rfl, p, C.P, dx, _, rfl, s210 _ _ e2p, T.cP, T.nPt, (by show 4 < 1000; decide), ?_⟩
      refine ⟨_, rfl, ?_⟩
      rw [upd_eq (congrArg (fun q => HO.ins C.P dx q) (put_picThings g.w g.h la lc (g.next + 1)))]
      have q := k (upd H10 p (.ins C.P dx (picF g.w g.h lc (g.next + 1))))
      rw [es] at q
      have np : ∀ b o, H10 b = some o → (∀ D d fs, o ≠ .ins D d fs) → b ≠ p := fun b o e hn z => by
        rw [z, s210 _ _ e2p] at e; cases e; exact hn _ _ _ rfl
      have nap : a ≠ p := fun z => by rw [z, s3 _ _ e2p] at ha; cases ha
      have fa : H a = none := fH _ (s3.free ha)
      have flb : H lb = none := fH _ hlb
      have flc : H lc = none := fH _ (((s28.trans s9)).free hlc)
      have hK : ∀ b o, H b = some o → b ≠ p → b ≠ la → upd H10 p (.ins C.P dx (picF g.w g.h lc (g.next + 1))) b = some o := fun b o e n1 n2 => by
        rw [upd_ne n1]; exact s210 _ _ (k2 _ _ (s1 _ _ e) n1)
      have nalc : lc ≠ a := fun z => by rw [z, (((s6.trans s7).trans s8).trans s9) _ _ e5a] at hlc; cases hlc
      have nblc : lc ≠ lb := fun z => by rw [z, ((((s5.trans s6).trans s7).trans s8).trans s9) _ _ e3] at hlc; cases hlc
      have fl : flat (ts.take pl ++ AT.group a lb (how0 g.next) ((ts.drop pl).take n) :: ts.drop (pl + n)) = flat (ts.take pl) ++ (AT.group a lb (how0 g.next) ((ts.drop pl).take n) :: (flat ((ts.drop pl).take n) ++ flat (ts.drop (pl + n)))) := by
        rw [flat_append, flat_cons]
        rfl
      have ft : flat ts = flat (ts.take pl) ++ (flat ((ts.drop pl).take n) ++ flat (ts.drop (pl + n))) := by
        have z : ts = ts.take pl ++ ((ts.drop pl).take n ++ ts.drop (pl + n)) := by
          rw [← List.drop_drop, List.take_append_drop, List.take_append_drop]
        conv => lhs; rw [z, flat_append, flat_append]
      have pm : List.Perm (flat (ts.take pl ++ AT.group a lb (how0 g.next) ((ts.drop pl).take n) :: ts.drop (pl + n))) (AT.group a lb (how0 g.next) ((ts.drop pl).take n) :: flat ts) := by
        rw [fl, ft]
        exact List.perm_middle
      have mk := A'.addNew (H' := upd H10 p (.ins C.P dx (picF g.w g.h lc (g.next + 1)))) (la' := lc) (ts' := ts.take pl ++ AT.group a lb (how0 g.next) ((ts.drop pl).take n) :: ts.drop (pl + n)) (new := .group a lb (how0 g.next) ((ts.drop pl).take n))
        (g' := { g with nodes := (nodes ts).take pl ++ .group ⟨g.next, true, 255, 0, false⟩ (((nodes ts).drop pl).take n) :: (nodes ts).drop (pl + n), next := g.next + 1 })
        (fun u hu => by
          have := pm.mem_iff.mp hu
          exact List.mem_cons.mp this)
        (by
          rw [(pm.map AT.id).nodup_iff, List.map_cons, List.nodup_cons]
          refine ⟨fun z => ?_, A'.ids⟩
          obtain ⟨u, hu, z⟩ := List.mem_map.mp z
          have l1 := A'.lt u hu
          rw [z] at l1
          have l2 : g.next < g.next := l1
          omega)
        (by rw [pm.length_eq, List.length_cons]; omega)
        ⟨⟨da, by rw [upd_ne nap]; exact s510 _ _ e5a⟩, by rw [upd_ne (np lb _ (s510 _ _ (s5 _ _ e3)) (fun _ _ _ z => nomatch z))]; exact s510 _ _ (s5 _ _ e3)⟩
        (fun c hc => by
          unfold AT.cells at hc
          rcases List.mem_cons.mp hc with z | z
          · rw [z]; exact fa
          · rw [List.mem_singleton.mp z]; exact flb)
        rfl upd_same (by
          rw [upd_ne (np lc _ e10 (fun _ _ _ z => nomatch z)), e10, refs_append, List.append_assoc]
          rfl) (.inr flc)
        (fun z => by
          unfold AT.cells at z
          rcases List.mem_cons.mp z with z | z
          · exact nalc z
          · exact nblc (List.mem_singleton.mp z))
        hK rfl rfl rfl (by
          show (nodes ts).take pl ++ _ = _
          rw [nodes_append, nodes_take]
          rw [nodes_cons, node_group, nodes_take, nodes_drop, nodes_drop]
          rfl)
        (by
          rw [nodes_append, nodes_take]
          have gd := LGood_mem.mp A'.good
          refine LGood_append _ _ (LGood_mem.mpr fun z hz => gd z (List.mem_of_mem_take hz)) ?_
          rw [nodes_cons, node_group, nodes_take, nodes_drop, nodes_drop]
          unfold LGood NGood
          exact ⟨⟨⟨by show 255 ≤ 255; decide, by show 0 ≤ 6; decide⟩, LGood_mem.mpr fun z hz => gd z (List.mem_of_mem_drop (List.mem_of_mem_take hz))⟩, LGood_mem.mpr fun z hz => gd z (List.mem_of_mem_drop hz)⟩)
      obtain ⟨⟨ow', mk1⟩, mk2⟩ := mk
      exact q ⟨dx, lc, _, ow', mk1, fun b hb => (mk2 b hb).imp (fun z => hF b z) id⟩ (fun b o eb nF => hK b o eb (fun z => nF (by rw [z]; exact hF _ mem_foot_p)) (fun z => nF (by rw [z]; exact hF _ mem_foot_la))) rfl
end
end Lay
set_option Elab.async false
set_option linter.all false
set_option maxRecDepth 100000
set_option maxHeartbeats 2000000
namespace Lay
open PySem PySem.Spec PyProof.Rows L2
open Sq49 (Node How House says offset)
open LFrac (NGood LGood HGood)
/-! ### where a thing stands -/
theorem flat_up : ∀ (l : List AT) {t : AT}, t ∈ flat l → t ∈ l ∨ ∃ u ∈ flat l, u.isG = true ∧ t ∈ u.kids := by
  intro l
  suffices h : ∀ (n : Nat) (l : List AT), (flat l).length ≤ n → ∀ {t : AT}, t ∈ flat l → t ∈ l ∨ ∃ u ∈ flat l, u.isG = true ∧ t ∈ u.kids from fun {t} ht => h _ l (Nat.le_refl _) ht
  intro n
  induction n with
  | zero =>
    intro l hl t ht
    have : flat l = [] := List.length_eq_zero_iff.mp (by omega)
    rw [this] at ht; cases ht
  | succ n ih =>
    intro l hl t ht
    cases l with
    | nil => rw [flat_nil] at ht; cases ht
    | cons s r =>
      rw [flat_cons] at hl ht ⊢
      rw [List.length_cons, List.length_append] at hl
      rcases List.mem_cons.mp ht with e | e
      · rw [e]; exact .inl List.mem_cons_self
      · rcases List.mem_append.mp e with e | e
        · rcases ih s.kids (by omega) e with h | ⟨u, h1, h2, h3⟩
          · refine .inr ⟨s, List.mem_cons_self, ?_, h⟩
            cases s with
            | layer => cases h
            | group => rfl
          · exact .inr ⟨u, List.mem_cons_of_mem _ (List.mem_append_left _ h1), h2, h3⟩
        · rcases ih r (by omega) e with h | ⟨u, h1, h2, h3⟩
          · exact .inl (List.mem_cons_of_mem _ h)
          · exact .inr ⟨u, List.mem_cons_of_mem _ (List.mem_append_right _ h1), h2, h3⟩
theorem nd_parts {t : AT} {l : List AT} (nd : ((flat (t :: l)).map AT.id).Nodup) : ((flat t.kids).map AT.id).Nodup ∧ ((flat l).map AT.id).Nodup ∧ (∀ u ∈ flat t.kids, u.id ≠ t.id) ∧ (∀ u ∈ flat l, u.id ≠ t.id) ∧ ∀ u ∈ flat t.kids, ∀ v ∈ flat l, u.id ≠ v.id := by
  rw [flat_cons, List.map_cons, List.nodup_cons, List.map_append, List.nodup_append] at nd
  obtain ⟨h1, h2, h3, h4⟩ := nd
  refine ⟨h2, h3, fun u hu e => h1 ?_, fun u hu e => h1 ?_, fun u hu v hv => h4 _ (List.mem_map.mpr ⟨u, hu, rfl⟩) _ (List.mem_map.mpr ⟨v, hv, rfl⟩)⟩
  · rw [← e]; exact List.mem_append_left _ (List.mem_map.mpr ⟨u, hu, rfl⟩)
  · rw [← e]; exact List.mem_append_right _ (List.mem_map.mpr ⟨u, hu, rfl⟩)
/-- what stands by itself is in no group -/
theorem top_kid : ∀ (l : List AT), ((flat l).map AT.id).Nodup → ∀ {k v k' : AT}, k ∈ l → v ∈ flat l → k' ∈ v.kids → k.id ≠ k'.id
  | [], _, k, v, k', h, _, _ => by cases h
  | t :: r, nd, k, v, k', hk, hv, hk' => by
    obtain ⟨n1, n2, n3, n4, n5⟩ := nd_parts nd
    rw [flat_cons] at hv
    have hin : k' ∈ flat t.kids ∨ (v ∈ flat r ∧ k' ∈ flat r) := by
      rcases List.mem_cons.mp hv with e | e
      · rw [e] at hk'; exact .inl (mem_flat_self hk')
      · rcases List.mem_append.mp e with e | e
        · exact .inl (flat_trans t.kids e (mem_flat_self hk'))
        · exact .inr ⟨e, flat_trans r e (mem_flat_self hk')⟩
    rcases List.mem_cons.mp hk with e | e
    · rw [e]
      rcases hin with h | h
      · exact Ne.symm (n3 _ h)
      · exact Ne.symm (n4 _ h.2)
    · rcases hin with h | h
      · exact Ne.symm (n5 _ h _ (mem_flat_self e))
      · exact top_kid r n2 e h.1 hk'
/-- a thing stands right in one list alone -/
theorem one_holder : ∀ (n : Nat) (l : List AT), (flat l).length ≤ n → ((flat l).map AT.id).Nodup → ∀ {u v k k' : AT}, u ∈ flat l → v ∈ flat l → k ∈ u.kids → k' ∈ v.kids → k.id = k'.id → u.id = v.id := by
  intro n
  induction n with
  | zero =>
    intro l hl nd u v k k' hu
    have : flat l = [] := List.length_eq_zero_iff.mp (by omega)
    rw [this] at hu; cases hu
  | succ n ih =>
    intro l hl nd u v k k' hu hv hk hk' e
    cases l with
    | nil => rw [flat_nil] at hu; cases hu
    | cons t r =>
      obtain ⟨n1, n2, n3, n4, n5⟩ := nd_parts nd
      rw [flat_cons] at hl hu hv
      rw [List.length_cons, List.length_append] at hl
      have cu : u = t ∨ u ∈ flat t.kids ∨ u ∈ flat r := by
        rcases List.mem_cons.mp hu with z | z
        · exact .inl z
        · exact .inr (List.mem_append.mp z)
      have cv : v = t ∨ v ∈ flat t.kids ∨ v ∈ flat r := by
        rcases List.mem_cons.mp hv with z | z
        · exact .inl z
        · exact .inr (List.mem_append.mp z)
      rcases cu with cu | cu | cu
      · rcases cv with cv | cv | cv
        · rw [cu, cv]
        · subst cu
          exact absurd e (top_kid u.kids n1 hk cv hk')
        · subst cu
          exact absurd e (n5 _ (mem_flat_self hk) _ (flat_trans r cv (mem_flat_self hk')))
      · rcases cv with cv | cv | cv
        · subst cv
          exact absurd e.symm (top_kid v.kids n1 hk' cu hk)
        · exact ih t.kids (by omega) n1 cu cv hk hk' e
        · exact absurd e (n5 _ (flat_trans _ cu (mem_flat_self hk)) _ (flat_trans r cv (mem_flat_self hk')))
      · rcases cv with cv | cv | cv
        · subst cv
          exact absurd e.symm (n5 _ (mem_flat_self hk') _ (flat_trans r cu (mem_flat_self hk)))
        · exact absurd e.symm (n5 _ (flat_trans _ cv (mem_flat_self hk')) _ (flat_trans r cu (mem_flat_self hk)))
        · exact ih r (by omega) n2 cu cv hk hk' e
/-! ### a thing replaced by some, wherever it is -/
mutual
def repl1 (i : Nat) (R : Node → List Node) : Node → List Node
  | .layer a x y w h l => if a.id = i then R (.layer a x y w h l) else [.layer a x y w h l]
  | .group a l => if a.id = i then R (.group a l) else [.group a (replL i R l)]
def replL (i : Nat) (R : Node → List Node) : List Node → List Node
  | [] => []
  | x :: l => repl1 i R x ++ replL i R l
end
def Ropen : Node → List Node
  | .layer a x y w h l => [.layer a x y w h l]
  | .group _ l => l
mutual
theorem open_repl1 (i : Nat) : ∀ n : Node, n.opened i = repl1 i Ropen n
  | .layer a x y w h l => by
    unfold Node.opened repl1
    by_cases e : a.id = i
    · rw [if_pos e]; rfl
    · rw [if_neg e]
  | .group a l => by
    unfold Node.opened repl1
    by_cases e : a.id = i
    · rw [if_pos e, if_pos e]; rfl
    · rw [if_neg e, if_neg e, open_repl i l]
theorem open_repl (i : Nat) : ∀ l : List Node, Node.allOpened i l = replL i Ropen l
  | [] => by unfold Node.allOpened replL; rfl
  | x :: l => by unfold Node.allOpened replL; rw [open_repl1 i x, open_repl i l]
end
mutual
theorem without_repl1 (i : Nat) : ∀ n : Node, n.how.id ≠ i → [n.without i] = repl1 i (fun _ => []) n
  | .layer a x y w h l, e => by
    unfold Node.without repl1
    rw [if_neg (by exact e)]
  | .group a l, e => by
    unfold Node.without repl1
    rw [if_neg (by exact e), without_repl i l]
theorem without_repl (i : Nat) : ∀ l : List Node, Node.allWithout i l = replL i (fun _ => []) l
  | [] => by unfold Node.allWithout replL; rfl
  | x :: l => by
    unfold Node.allWithout replL
    by_cases e : x.how.id = i
    · rw [if_pos e, without_repl i l]
      have : repl1 i (fun _ => []) x = [] := by
        cases x with
        | layer => unfold repl1; exact if_pos e
        | group => unfold repl1; exact if_pos e
      rw [this]; rfl
    · rw [if_neg e, without_repl i l, ← without_repl1 i x e]; rfl
end
theorem replL_append (i : Nat) (R : Node → List Node) : ∀ l m : List Node, replL i R (l ++ m) = replL i R l ++ replL i R m
  | [], m => by
    conv => rhs; unfold replL
    cases m <;> rfl
  | x :: l, m => by
    show replL i R (x :: (l ++ m)) = _
    conv => lhs; unfold replL
    conv => rhs; lhs; unfold replL
    rw [replL_append i R l m, List.append_assoc]
mutual
theorem repl_none1 (i : Nat) (R : Node → List Node) : ∀ t : AT, (∀ u ∈ t.flat1, u.id ≠ i) → repl1 i R t.node = [t.node]
  | .layer a pa h x y w ht px, hn => by
    rw [node_layer]
    unfold repl1
    exact if_neg (hn (.layer a pa h x y w ht px) (by unfold AT.flat1; exact List.mem_cons_self))
  | .group a la h l, hn => by
    rw [node_group]
    unfold repl1
    have hni : ¬ h.id = i := hn (.group a la h l) (by unfold AT.flat1; exact List.mem_cons_self)
    rw [if_neg hni, repl_none i R l (fun u hu => hn u (by unfold AT.flat1; exact List.mem_cons_of_mem _ hu))]
theorem repl_none (i : Nat) (R : Node → List Node) : ∀ l : List AT, (∀ u ∈ flat l, u.id ≠ i) → replL i R (nodes l) = nodes l
  | [], _ => by unfold nodes replL; rfl
  | t :: l, hn => by
    rw [nodes_cons]
    unfold replL
    rw [repl_none1 i R t (fun u hu => hn u (by unfold flat; exact List.mem_append_left _ hu)), repl_none i R l (fun u hu => hn u (by unfold flat; exact List.mem_append_right _ hu))]
    rfl
end
theorem repl_id (i : Nat) (R : Node → List Node) {t : AT} (h : t.id = i) : repl1 i R t.node = R t.node := by
  cases t with
  | layer => rw [node_layer]; unfold repl1; exact if_pos h
  | group => rw [node_group]; unfold repl1; exact if_pos h
/-- right in the list -/
theorem repl_here {i : Nat} {R : Node → List Node} {l : List AT} {pl : Nat} {t : AT} (nd : ((flat l).map AT.id).Nodup) (ht : l[pl]? = some t) (hi : t.id = i) :
    replL i R (nodes l) = nodes (l.take pl) ++ (R t.node ++ nodes (l.drop (pl + 1))) := by
  have e1 : l = l.take pl ++ (t :: l.drop (pl + 1)) := by
    obtain ⟨hl, ht⟩ := List.getElem?_eq_some_iff.mp ht
    rw [← ht, ← List.drop_eq_getElem_cons hl, List.take_append_drop]
  have nd' := nd
  rw [e1, flat_append, List.map_append, List.nodup_append] at nd'
  obtain ⟨n1, n2, n3⟩ := nd'
  obtain ⟨m1, m2, m3, m4, m5⟩ := nd_parts n2
  have tid : t.id ∈ (flat (t :: l.drop (pl + 1))).map AT.id := by rw [flat_cons]; exact List.mem_map.mpr ⟨t, List.mem_cons_self, rfl⟩
  conv => lhs; rw [e1, nodes_append, nodes_cons]
  rw [replL_append, repl_none i R (l.take pl) (fun u hu e => n3 _ (List.mem_map.mpr ⟨u, hu, rfl⟩) _ tid (by rw [e, hi]))]
  congr 1
  conv => lhs; unfold replL
  rw [repl_id i R hi, repl_none i R (l.drop (pl + 1)) (fun u hu e => m4 u hu (by rw [e, hi]))]
/-- in the group t0's list -/
theorem repl_in {i : Nat} {R : Node → List Node} {hid : Nat} {t0 : AT} {hh : How} {ns : List Node} (h0 : t0.node = .group hh (nodes t0.kids)) (hh0 : t0.id = hid) (hne : hid ≠ i) (hin : replL i R (nodes t0.kids) = ns) :
    ∀ (n : Nat) (l : List AT), (flat l).length ≤ n → (∀ u ∈ flat l, u.id = hid → u = t0) → (∀ u ∈ flat l, u.id ≠ hid → ∀ k ∈ u.kids, k.id ≠ i) → (∀ t ∈ l, t.id ≠ i) →
      replL i R (nodes l) = Node.allAt hid (fun _ => .group hh ns) (nodes l) := by
  intro n
  induction n with
  | zero =>
    intro l hl _ _ _
    have : flat l = [] := List.length_eq_zero_iff.mp (by omega)
    cases l with
    | nil => unfold nodes replL Node.allAt; rfl
    | cons t r => rw [flat_cons] at this; cases this
  | succ n ih =>
    intro l hl h1 h2 h3
    cases l with
    | nil => unfold nodes replL Node.allAt; rfl
    | cons t r =>
      rw [flat_cons] at hl h1 h2
      rw [List.length_cons, List.length_append] at hl
      have hr := ih r (by omega) (fun u hu => h1 u (List.mem_cons_of_mem _ (List.mem_append_right _ hu))) (fun u hu => h2 u (List.mem_cons_of_mem _ (List.mem_append_right _ hu))) (fun t ht => h3 t (List.mem_cons_of_mem _ ht))
      rw [nodes_cons]
      unfold replL Node.allAt
      rw [hr]
      have ti := h3 t List.mem_cons_self
      have e : repl1 i R t.node = [t.node.at_ hid (fun _ => .group hh ns)] := by
        by_cases c : t.id = hid
        · have := h1 t List.mem_cons_self c
          subst this
          have ei : hh.id = hid := by
            have := node_how t
            rw [h0] at this
            rw [← hh0]
            show hh.id = t.how.id
            rw [← this]
            rfl
          rw [h0]
          unfold repl1 Node.at_
          rw [if_neg (by rw [ei]; exact hne), if_pos ei, hin]
        · cases t with
          | layer a pa h x y w ht px =>
            rw [node_layer]
            unfold repl1 Node.at_
            rw [if_neg (by exact ti), if_neg (by exact c)]
          | group a la h l =>
            rw [node_group]
            unfold repl1 Node.at_
            rw [if_neg (by exact ti), if_neg (by exact c)]
            have hk := ih l (by rw [show (AT.group a la h l).kids = l from rfl] at hl; omega) (fun u hu => h1 u (List.mem_cons_of_mem _ (List.mem_append_left _ hu))) (fun u hu => h2 u (List.mem_cons_of_mem _ (List.mem_append_left _ hu))) (fun k hk => h2 (.group a la h l) List.mem_cons_self c k hk)
            rw [hk]
      rw [e]
      rfl
end Lay
set_option Elab.async false
set_option linter.all false
set_option maxRecDepth 100000
set_option maxHeartbeats 2000000
namespace LFrac
open Sq49
/-! ### one left out -/
def woN (lo : Option Nat) (x : Node) : Node := match lo with
  | none => x
  | some i => x.without i
def woL (lo : Option Nat) (l : List Node) : List Node := match lo with
  | none => l
  | some i => Node.allWithout i l
def rSt (px py : Int) (lo : Option Nat) (u : RD × Rat) (x : Node) : RD × Rat :=
  if lo = some x.how.id then u else
  (rover x.how.way (if x.how.clip = true then RD.part u.2 (rNode px py (woN lo x)) else rNode px py (woN lo x)) u.1, if x.how.clip = true then u.2 else (rNode px py (woN lo x)).c)
theorem without_how (i : Nat) (x : Node) : (x.without i).how = x.how := by cases x <;> (unfold Node.without; rfl)
theorem pile_fold (px py : Int) (lo : Option Nat) : ∀ (l : List Node) (u : RD) (b : Rat), rPile px py u b (woL lo l) = (l.foldl (rSt px py lo) (u, b)).1 := by
  intro l
  induction l with
  | nil =>
    intro u b
    cases lo with
    | none => show rPile px py u b [] = u; unfold rPile; rfl
    | some i => show rPile px py u b (Node.allWithout i []) = u; unfold Node.allWithout rPile; rfl
  | cons x l ih =>
    intro u b
    rw [List.foldl_cons]
    cases lo with
    | none =>
      have e : rSt px py none (u, b) x = (rover x.how.way (if x.how.clip = true then RD.part b (rNode px py x) else rNode px py x) u, if x.how.clip = true then b else (rNode px py x).c) := by
        unfold rSt; exact if_neg (fun z => nomatch z)
      rw [e, ← ih]
      show rPile px py u b (x :: l) = rPile px py _ _ l
      conv => lhs; unfold rPile
    | some i =>
      show rPile px py u b (Node.allWithout i (x :: l)) = _
      unfold Node.allWithout
      by_cases c : x.how.id = i
      · have e : rSt px py (some i) (u, b) x = (u, b) := by unfold rSt; exact if_pos (by rw [c])
        rw [if_pos c, e, ← ih]
        rfl
      · have e : rSt px py (some i) (u, b) x = (rover x.how.way (if x.how.clip = true then RD.part b (rNode px py (x.without i)) else rNode px py (x.without i)) u, if x.how.clip = true then b else (rNode px py (x.without i)).c) := by
          unfold rSt; exact if_neg (fun z => c (Option.some.inj z).symm)
        rw [if_neg c, e, ← ih]
        conv => lhs; unfold rPile
        rw [without_how]
        rfl
theorem lsize_cons (x : Node) (l : List Node) : lsize (x :: l) = nsize x + lsize l := by conv => lhs; unfold lsize
theorem rpart_clear (f : Rat) : RD.part f rclear = rclear := by unfold RD.part rclear; simp [Rat.mul_zero]
theorem B_one : B 1 = 255 := by unfold B; rfl
theorem B_two : B 2 = 65025 := by unfold B; rfl
theorem pix_mok {p : Nat × Nat} (h : p.1 ≤ 255 ∧ p.2 ≤ 255) : MOk 2 ⟨(p.2 : Int) * 255, (p.2 : Int) * (p.1 : Int), 255 * 255⟩ ⟨(p.2 : Rat) / 255, (p.1 : Rat) / 255 * ((p.2 : Rat) / 255)⟩ := by
  refine ⟨rfl, ?_, ?_, ?_⟩
  · show (((p.2 : Int) * 255 : Int) : Rat) = (p.2 : Rat) / 255 * B 2
    rw [B_two, Rat.intCast_mul, Rat.intCast_natCast]
    have : ((255 : Int) : Rat) = 255 := rfl
    rw [this]; grind
  · show (((p.2 : Int) * (p.1 : Int) : Int) : Rat) = (p.1 : Rat) / 255 * ((p.2 : Rat) / 255) * B 2
    rw [B_two, Rat.intCast_mul, Rat.intCast_natCast, Rat.intCast_natCast]
    grind
  · have q := pixel_ok h
    rw [← q.2]; exact q.1.ok
theorem strong_mok {E s : Nat} {m : MD} {d : RD} (h : MOk E m d) (hs : s ≤ 255) : MOk (E + 1) (mWeak m (s : Int) 255) (RD.part ((s : Rat) / 255) d) := by
  have q := Q_255_le hs
  have q0 := Q_nonneg (frac s 255)
  rw [Q_255] at q q0
  refine mWeak_ok h rfl ?_ q0 q
  rw [B_one, Rat.intCast_natCast]; grind
end LFrac
namespace Lay
open PySem PySem.Spec PyProof.Rows L2
open Sq49 (Node How House)
open LFrac (MD mNo mWeak mMix mOver Bg MBg mNear NGood LGood HGood MOk RD rNode rPile rclear woN woL rSt tabA tabQ nsize lsize)
abbrev sDotPic : Stmt := topS 30
abbrev sPut : Stmt := topS 31
abbrev sDotThing : Stmt := topS 32
abbrev sDotLayer : Stmt := topS 33
abbrev sRow : Stmt := topS 34
def loV (lo : Option Nat) : V := match lo with
  | none => .non
  | some i => .int i
theorem loV_eq (id : Nat) (lo : Option Nat) : decide (V.int (id : Int) = loV lo) = decide (lo = some id) := by
  cases lo with
  | none => rfl
  | some i =>
    show decide (V.int (id : Int) = V.int (i : Int)) = _
    rw [int_eqI]
    by_cases e : i = id
    · rw [decide_eq_true (by omega), decide_eq_true (by rw [e])]
    · rw [decide_eq_false (by omega), decide_eq_false (fun z => e (Option.some.inj z))]
theorem loV_scal (id : Int) (lo : Option Nat) : scal (.int id) (loV lo) = true := by cases lo <;> rfl
theorem flatP_get : ∀ (px : List (Nat × Nat)) {n : Nat} {p : Nat × Nat}, px[n]? = some p → (flatP px)[2 * n]? = some (.int p.1) ∧ (flatP px)[2 * n + 1]? = some (.int p.2)
  | [], n, p, h => by simp at h
  | q :: l, 0, p, h => by
    have e : q = p := Option.some.inj h
    subst e
    exact ⟨rfl, rfl⟩
  | q :: l, n + 1, p, h => by
    have ih := flatP_get l (n := n) (p := p) h
    show (V.int q.1 :: V.int q.2 :: flatP l)[2 * (n + 1)]? = _ ∧ (V.int q.1 :: V.int q.2 :: flatP l)[2 * (n + 1) + 1]? = _
    rw [show 2 * (n + 1) = (2 * n + 1) + 1 by omega, List.getElem?_cons_succ, List.getElem?_cons_succ, List.getElem?_cons_succ, List.getElem?_cons_succ]
    exact ih
theorem th_seen (h : How) (r : List (Str × V)) : (thF h ++ r).lookup ("seen" : Str) = some (.int (b2n h.seen)) := by
  unfold thF
  repeat (first | exact lk_here | refine (lk_past (by decide +kernel)).trans ?_)
theorem th_strong (h : How) (r : List (Str × V)) : (thF h ++ r).lookup ("strong" : Str) = some (.int h.strong) := by
  unfold thF
  repeat (first | exact lk_here | refine (lk_past (by decide +kernel)).trans ?_)
theorem th_clip (h : How) (r : List (Str × V)) : (thF h ++ r).lookup ("clipped" : Str) = some (.int (b2n h.clip)) := by
  unfold thF
  repeat (first | exact lk_here | refine (lk_past (by decide +kernel)).trans ?_)
theorem layF_y (h : How) (x y : Int) (w ht : Nat) (pa : Addr) : (layF h x y w ht pa).lookup ("y" : Str) = some (.int y) := by
  unfold layF thF
  repeat (first | exact lk_here | refine (lk_past (by decide +kernel)).trans ?_)
section
variable {P : Program} {w : World} {K : PySem.W.Frag} {mg : Str → Option Value} {base : Heap} {C : Cs} {D : Addr}
theorem Raw.cal_none' {x : Str} {st : Stmt} {ps : List Str} {sp : Sp} {k : Nat} (R : Raw K mg x st ps) (no : ∀ vs H Q E, ¬ sp vs H Q E) : C8.Cal P w K mg base k x sp [] := by
  obtain ⟨f, fd, D, b⟩ := R.ex
  exact ⟨f, fd, ps, [], ⟨fun vs H Q E h => absurd h (no vs H Q E), fun A outer s H args us vs Q E _ _ _ _ h => absurd h (no vs H Q E)⟩, D.mgf, D.kp, b, .nil⟩
theorem pe_c0 {X : Cx} {k j : Nat} {x : Str} {sp : Sp} {dvs : List V} {p pos : Pos} (c : C8.Cal X.prog X.w X.K X.mg X.base k x sp dvs) (hr : Room j X.A) (hk : k ≤ j) (hg : Gl X x) (hdb : (x == ("__debug__" : Str)) = false := by decide) :
    PE X (.Call (.Name x p) [] [] pos) (tCall sp dvs E0 tNil) := by
  obtain ⟨f, fd, ps, ds, F, hm, kp, b, d⟩ := c.ex
  exact pe_call0 F (hr.mono hk) hg hm kp b d pass0 hdb
/-! ### a layer -/
def spDotLayer (C : Cs) (D : Addr) : Sp := fun vs H Q _ => ∃ (a pa : Addr) (h : How) (lx ly : Int) (wd ht : Nat) (pxs : List (Nat × Nat)) (px py : Int), vs = [.ref a, .int px, .int py] ∧ Own C H (.layer a pa h lx ly wd ht pxs) ∧ NGood (.layer h lx ly wd ht pxs) ∧
  ∀ H' r m E, Same H H' → DotAt D H' r m → E ≤ 2 → MOk E m (if px - lx < 0 ∨ (wd : Int) ≤ px - lx ∨ py - ly < 0 ∨ (ht : Int) ≤ py - ly then rclear else
    ⟨(((pxs[(py - ly).toNat * wd + (px - lx).toNat]?).getD (0, 0)).2 : Rat) / 255, (((pxs[(py - ly).toNat * wd + (px - lx).toNat]?).getD (0, 0)).1 : Rat) / 255 * ((((pxs[(py - ly).toNat * wd + (px - lx).toNat]?).getD (0, 0)).2 : Rat) / 255)⟩) → Q (.ref r) H'
theorem scDotLayer : FnScope ["layer", "x", "y", "place", "colour", "cover"] ["layer", "x", "y"] (C8.fnScope sDotLayer) := C8.fnScope_by (by decide +kernel)
theorem dotlayer_ok (R : Raw K mg "dot_of_layer" sDotLayer ["layer", "x", "y"]) (T : Tx K mg C) (lv : NumG mg "GREATEST_LEVEL" 255) (cX : C8.Cal P w K mg base 1 "place_of_pixel" (spPix C) []) (cN : C8.Cal P w K mg base 3 "nothing" (spNo D) []) (cD : C8.Mak P w K mg base 1 "Dot" D (spDotInit D) []) : C8.Cal P w K mg base 4 "dot_of_layer" (spDotLayer C D) [] := by
  refine R.cal scDotLayer (fun vs H Q E h => ?_) (fun f cdv A outer s H vs Q E hr h => ?_)
  · obtain ⟨a, pa, h, lx, ly, wd, ht, pxs, px, py, rfl, _⟩ := h
    rfl
  · obtain ⟨a, pa, h, lx, ly, wd, ht, pxs, px, py, rfl, ⟨⟨dx, e1⟩, e2⟩, gd, k⟩ := h
    refine ⟨_, pss_cons (ps_set (i := 3) scDotLayer.nd rfl (Or.inl rfl) (C8.pe_c cX hr (by decide) (by rfl) (pa_cons (pv 0) (pa_cons (pe_op op_sub (pv 1) (pe_fld (pv 0) rfl)) (pa_cons (pe_op op_sub (pv 2) (pe_fld (pv 0) rfl)) pa_nil)))))
      (pss_cons (ps_if (pt_cmpR op_isN (pv 3) pe_non (nomark _)) (pss_one (ps_ret (pe_c0 cN hr (by decide) (by rfl)))) pss_nil)
      (pss_cons (ps_set (i := 4) scDotLayer.nd rfl (Or.inl rfl) (pe_ix ix_list (pe_fld (pv 0) rfl) (pv 3) (fun _ _ => rfl)))
      (pss_cons (ps_set (i := 5) scDotLayer.nd rfl (Or.inl rfl) (pe_ix ix_list (pe_fld (pv 0) rfl) (pe_op op_add (pv 3) pe_int) (fun _ _ => rfl)))
      (pss_one (ps_ret (C8.pe_mk cD hr (by decide) (by rfl) (pa_cons (pe_op op_mul (pv 5) (pe_num (by rfl) lv)) (pa_cons (pe_op op_mul (pv 5) (pv 4)) (pa_cons (pe_op op_mul (pe_num (by rfl) lv) (pe_num (by rfl) lv)) pa_nil))))))))), ?_⟩
    have cl := T.iL.cl
    unfold NGood at gd
    obtain ⟨g1, g2, g3, g4, g5, g6, g7⟩ := gd
    refine ⟨_, rfl, _, rfl, _, rfl, a, C.L, dx, _, _, rfl, e1, cl, T.nL _ (by decide +kernel), layF_x .., _, _, rfl, rfl, _, rfl, _, rfl, a, C.L, dx, _, _, rfl, e1, cl, T.nL _ (by decide +kernel), layF_y .., _, _, rfl, rfl, ?_⟩
    refine ⟨a, dx, pa, h, lx, ly, wd, ht, px - lx, py - ly, rfl, e1, g3, ?_⟩
    by_cases c : px - lx < 0 ∨ (wd : Int) ≤ px - lx ∨ py - ly < 0 ∨ (ht : Int) ≤ py - ly
    · have ep : pixV wd ht (px - lx) (py - ly) = V.non := by unfold pixV; exact if_neg (by omega)
      rw [ep]
      refine ⟨_, rfl, rfl, _, rfl, iteT ⟨rfl, fun H' r s1 d1 => ?_⟩⟩
      exact k H' r _ 0 s1 d1 (by decide) (by rw [if_pos c]; exact LFrac.mNo_ok)
    · have ep : pixV wd ht (px - lx) (py - ly) = V.int (2 * ((py - ly) * wd + (px - lx))) := by unfold pixV; exact if_pos (by omega)
      rw [ep]
      refine ⟨_, rfl, rfl, _, rfl, iteF ?_⟩
      obtain ⟨x, hx⟩ : ∃ x : Nat, px - lx = x := ⟨(px - lx).toNat, by omega⟩
      obtain ⟨y, hy⟩ : ∃ y : Nat, py - ly = y := ⟨(py - ly).toNat, by omega⟩
      have hn : y * wd + x < pxs.length := by
        rw [g6]
        have : y + 1 ≤ ht := by omega
        have h3 := Nat.mul_le_mul_left wd this
        rw [Nat.mul_comm wd (y + 1), Nat.add_mul] at h3
        omega
      have ei : (2 : Int) * ((py - ly) * (wd : Int) + (px - lx)) = ((2 * (y * wd + x) : Nat) : Int) := by
        rw [hx, hy, Int.natCast_mul, Int.natCast_add, Int.natCast_mul]; rfl
      have egp : pxs[y * wd + x]? = some pxs[y * wd + x] := List.getElem?_eq_getElem hn
      have ek : pxs[(py - ly).toNat * wd + (px - lx).toNat]? = some pxs[y * wd + x] := by
        rw [hx, hy, Int.toNat_natCast, Int.toNat_natCast]; exact egp
      generalize hp : pxs[y * wd + x] = p at egp ek
      have pm : p ∈ pxs := List.mem_of_getElem? egp
      have gg := flatP_get pxs egp
      refine ⟨_, rfl, a, C.L, dx, _, _, rfl, e1, cl, T.nL _ (by decide +kernel), layF_pixels .., _, rfl, pa, _, _, _, rfl, rfl, SqL.of e2, by rw [ei]; exact atI_nat gg.1, ?_⟩
      refine ⟨_, rfl, a, C.L, dx, _, _, rfl, e1, cl, T.nL _ (by decide +kernel), layF_pixels .., _, rfl, _, _, rfl, rfl, pa, _, _, _, rfl, rfl, SqL.of e2, by rw [ei]; exact atI_nat (j := 2 * (y * wd + x) + 1) gg.2, ?_⟩
      have p7 := g7 p pm
      refine ⟨_, rfl, _, _, rfl, rfl, .inl ⟨by omega, by omega⟩, _, rfl, _, rfl, _, _, rfl, rfl, .inl ⟨by omega, by omega⟩, _, _, rfl, rfl, .inl ⟨by decide, by decide⟩, ?_⟩
      intro r dr hr' hdr ndr
      refine ⟨r, dr, _, _, _, rfl, upd_same, rfl, ?_⟩
      rw [upd_upd]
      refine new_dot (m := ⟨(p.2 : Int) * 255, (p.2 : Int) * (p.1 : Int), 255 * 255⟩) hr' hdr fun H' r s1 d1 => k H' r _ 2 s1 d1 (Nat.le_refl _) ?_
      rw [if_neg c, ek]
      exact LFrac.pix_mok p7
/-! ### things put together -/
def spPut (K : PySem.W.Frag) (C : Cs) (D : Addr) (n : Nat) : Sp := fun vs H Q _ => ∃ (la : Addr) (ts : List AT) (px py : Int) (lo : Option Nat), vs = [.ref la, .int px, .int py, loV lo] ∧ H la = some (.lst (refs ts)) ∧ Held C H ts ∧ depths ts + 1 ≤ n ∧ lsize (nodes ts) ≤ 10 ∧ LGood (nodes ts) ∧
  ∀ H' r m E, Same H H' → DotAt D H' r m → E ≤ tabQ (lsize (nodes ts)) → MOk E m (rPile px py rclear 0 (woL lo (nodes ts))) → Q (.ref r) H'
def spThingDot (C : Cs) (D : Addr) (n : Nat) : Sp := fun vs H Q _ => ∃ (t : AT) (px py : Int) (lo : Option Nat), vs = [.ref t.addr, .int px, .int py, loV lo] ∧ (∀ u ∈ t.flat1, Own C H u) ∧ t.depth ≤ n ∧ nsize t.node ≤ 10 ∧ NGood t.node ∧
  ∀ H' r m E, Same H H' → DotAt D H' r m → E ≤ tabA (nsize t.node) → MOk E m (rNode px py (woN lo t.node)) → Q (.ref r) H'
theorem scThingDot : FnScope ["thing", "x", "y", "left_out", "dot"] ["thing", "x", "y", "left_out"] (C8.fnScope sDotThing) := C8.fnScope_by (by decide +kernel)
theorem tab_318 : ∀ m, m < 11 → tabQ m ≤ 318 := by decide
theorem tab_211 : ∀ m, m < 11 → tabA m ≤ 211 := by decide
theorem b2n_seen (b : Bool) : decide (b2n b = 0) = !b := by cases b <;> rfl
theorem b2n_clip (b : Bool) : decide (b2n b = 1) = b := by cases b <;> rfl
theorem thingdot_ok {n : Nat} (R : Raw K mg "dot_of_thing" sDotThing ["thing", "x", "y", "left_out"]) (T : Tx K mg C) (lv : NumG mg "GREATEST_LEVEL" 255) (cN : C8.Cal P w K mg base 3 "nothing" (spNo D) []) (cW : C8.Cal P w K mg base 3 "weakened" (spWeak D) []) (cL : C8.Cal P w K mg base 4 "dot_of_layer" (spDotLayer C D) [])
    (cP : C8.Cal P w K mg base (2 * n + 4) "put_together" (spPut K C D n) []) : C8.Cal P w K mg base (2 * n + 5) "dot_of_thing" (spThingDot C D n) [] := by
  refine R.cal scThingDot (fun vs H Q E h => ?_) (fun f cdv A outer s H vs Q E hr h => ?_)
  · obtain ⟨t, px, py, lo, rfl, _⟩ := h
    rfl
  · obtain ⟨t, px, py, lo, rfl, hO, hd, hs, hg, k⟩ := h
    refine ⟨_, pss_cons (ps_if (pt_cmpR op_eq (pe_fld (pv 0) rfl) pe_int (nomark _)) (pss_one (ps_ret (pe_c0 cN hr (by omega) (by rfl)))) pss_nil)
      (pss_cons (ps_if (pt_val (pe_callB call_isi (by rfl) T.zisi boot_isi (pa_cons (pv 0) (pa_cons (pe_ref (by rfl) T.gL) pa_nil))))
        (pss_one (ps_set (i := 4) scThingDot.nd rfl (Or.inl rfl) (C8.pe_c cL hr (by omega) (by rfl) (pa_cons (pv 0) (pa_cons (pv 1) (pa_cons (pv 2) pa_nil))))))
        (pss_one (ps_set (i := 4) scThingDot.nd rfl (Or.inl rfl) (C8.pe_c cP hr (Nat.le_refl _) (by rfl) (pa_cons (pe_fld (pv 0) rfl) (pa_cons (pv 1) (pa_cons (pv 2) (pa_cons (pv 3) pa_nil))))))))
      (pss_one (ps_ret (C8.pe_c cW hr (by omega) (by rfl) (pa_cons (pv 4) (pa_cons (pe_fld (pv 0) rfl) (pa_cons (pe_num (by rfl) lv) pa_nil))))))), ?_⟩
    have ot : Own C H t := hO t (by rw [flat1_eq]; exact List.mem_cons_self)
    obtain ⟨Dc, dt, r0, e1, e2, e3, e4, _⟩ := own_ins T ot
    refine ⟨_, rfl, t.addr, Dc, dt, _, _, rfl, e1, e2, e3 _ (by decide +kernel), th_seen .., rfl, _, rfl, ?_⟩
    rw [int_eqI, b2n_seen]
    cases hsn : t.how.seen with
    | false =>
      refine iteT ⟨rfl, fun H' r s1 d1 => k H' r _ 0 s1 d1 (Nat.zero_le _) ?_⟩
      have e : rNode px py (woN lo t.node) = rclear := by
        cases t with
        | layer a pa h x y w ht pxs =>
          rw [node_layer]
          have e : woN lo (.layer h x y w ht pxs) = .layer h x y w ht pxs := by cases lo <;> (unfold woN; first | rfl | (unfold Node.without; rfl))
          rw [e]
          unfold rNode
          exact if_pos hsn
        | group a la h l =>
          rw [node_group]
          have e : ∃ l', woN lo (.group h (nodes l)) = .group h l' := by cases lo <;> (unfold woN; first | exact ⟨_, rfl⟩ | (unfold Node.without; exact ⟨_, rfl⟩))
          obtain ⟨l', e⟩ := e
          rw [e]
          unfold rNode
          exact if_pos hsn
      rw [e]; exact LFrac.mNo_ok
    | true =>
      refine iteF ?_
      obtain ⟨ty, h1, h2⟩ := own_isL T ot
      refine ⟨_, rfl, _, _, ty, _, _, rfl, .own C.L, h1, h2, _, rfl, ?_⟩
      -- what is left: weakened
      have last : ∀ (H1 : Hp) (r1 : Addr) (m1 : MD) (E1 : Nat) (d1 : RD), Same H H1 → DotAt D H1 r1 m1 → E1 + 1 ≤ tabA (nsize t.node) → MOk E1 m1 d1 → rNode px py (woN lo t.node) = RD.part ((t.how.strong : Rat) / 255) d1 →
          ∃ v, v = V.ref r1 ∧ ∃ (a : Addr) (m : MD) (u l : Int), [v, V.int t.how.strong, V.int 255] = [V.ref a, V.int u, V.int l] ∧ DotAt D H1 a m ∧ MBg m ∧ Bg u ∧ Bg l ∧ ∀ H' r, Same H1 H' → DotAt D H' r (mWeak m u l) → Q (.ref r) H' := by
        intro H1 r1 m1 E1 d1 s1 a1 hE o1 er
        have hst : t.how.strong ≤ 255 := by
          have := hg.how
          rw [node_how] at this
          exact this.strong
        have t211 := tab_211 (nsize t.node) (by omega)
        refine ⟨_, rfl, r1, m1, _, _, rfl, a1, o1.bg (by omega), LFrac.bg_small (by omega), LFrac.bg_small (by decide), fun H' r s2 a2 => ?_⟩
        refine k H' r _ (E1 + 1) (s1.trans s2) a2 hE ?_
        rw [er]
        exact LFrac.strong_mok o1 hst
      cases t with
      | layer a pa h x y wd ht pxs =>
        refine iteT ?_
        rw [node_layer] at hg last
        refine ⟨_, rfl, _, rfl, _, rfl, a, pa, h, x, y, wd, ht, pxs, px, py, rfl, ot, hg, fun H1 r1 m1 E1 s1 a1 hE o1 => ?_⟩
        obtain ⟨v, ev, q⟩ := last H1 r1 m1 E1 _ s1 a1 (by unfold nsize; show E1 + 1 ≤ 3; omega) o1 (by
          have e : woN lo (.layer h x y wd ht pxs) = .layer h x y wd ht pxs := by cases lo <;> (unfold woN; first | rfl | (unfold Node.without; rfl))
          rw [e]
          unfold rNode
          rw [if_neg (by rw [show h.seen = true from hsn]; exact Bool.noConfusion)]
          split
          · rw [LFrac.rpart_clear]
          · rfl)
        subst ev
        exact ⟨_, rfl, _, rfl, a, Dc, dt, _, _, rfl, s1 _ _ e1, e2, e3 _ (by decide +kernel), th_strong .., q⟩
      | group a la h l =>
        refine iteF ?_
        have ol := ot
        obtain ⟨⟨dg, o1⟩, o2⟩ := ol
        rw [node_group] at hg last hs
        unfold NGood at hg
        have hs' : nsize (.group h (nodes l)) = lsize (nodes l) + 1 := by conv => lhs; unfold nsize
        rw [hs'] at hs last
        have hdl : depths l + 1 ≤ n := by
          have : depths l + 1 = AT.depth (.group a la h l) := by conv => rhs; unfold AT.depth
          omega
        refine ⟨_, rfl, a, C.G, dg, _, _, rfl, o1, T.iG.cl, T.nGt, grpF_things .., _, rfl, _, rfl, _, rfl, la, l, px, py, lo, rfl, o2, fun u hu => hO u (by unfold AT.flat1; exact List.mem_cons_of_mem _ hu), hdl, by omega, hg.2, fun H1 r1 m1 E1 s1 a1 hE ok1 => ?_⟩
        have up := LFrac.tab_up (lsize (nodes l)) (by omega)
        obtain ⟨v, ev, q⟩ := last H1 r1 m1 E1 _ s1 a1 (by omega) ok1 (by
          have e : woN lo (.group h (nodes l)) = .group h (woL lo (nodes l)) := by cases lo <;> (unfold woN woL; first | rfl | (unfold Node.without; rfl))
          rw [e]
          unfold rNode
          rw [if_neg (by rw [show h.seen = true from hsn]; exact Bool.noConfusion)]
          rfl)
        subst ev
        exact ⟨_, rfl, _, rfl, a, Dc, dt, _, _, rfl, s1 _ _ e1, e2, e3 _ (by decide +kernel), th_strong .., q⟩
end
end Lay
set_option Elab.async false
set_option linter.all false
set_option maxRecDepth 100000
set_option maxHeartbeats 2000000
namespace Lay
open PySem PySem.Spec PyProof.Rows L2
open Sq49 (Node How House)
open LFrac (MD mNo mWeak mMix mOver Bg MBg mNear NGood LGood HGood MOk RD rNode rPile rclear woN woL rSt tabA tabQ nsize lsize)
section
variable {P : Program} {w : World} {K : PySem.W.Frag} {mg : Str → Option Value} {base : Heap} {C : Cs} {D : Addr}
theorem scPut : FnScope ["things", "x", "y", "left_out", "so_far", "base", "thing", "dot"] ["things", "x", "y", "left_out"] (C8.fnScope sPut) := C8.fnScope_by (by decide +kernel)
/-- what a thing is worth by its turn -/
theorem nodes_drop_cons {ts : List AT} {i : Nat} {t : AT} (h : ts[i]? = some t) : nodes (ts.drop i) = t.node :: nodes (ts.drop (i + 1)) := by
  obtain ⟨hl, ht⟩ := List.getElem?_eq_some_iff.mp h
  rw [List.drop_eq_getElem_cons hl, ht, nodes_cons]
theorem nodes_take_snoc {ts : List AT} {i : Nat} {t : AT} (h : ts[i]? = some t) : nodes (ts.take (i + 1)) = nodes (ts.take i) ++ [t.node] := by
  rw [take_snoc h, nodes_append, nodes_cons]
  congr 1
theorem size_mem {ts : List AT} {t : AT} (h : t ∈ ts) : nsize t.node ≤ lsize (nodes ts) := by
  induction ts with
  | nil => cases h
  | cons s r ih =>
    rw [nodes_cons, LFrac.lsize_cons]
    rcases List.mem_cons.mp h with e | e
    · rw [e]; omega
    · have := ih e; omega
theorem size_drop (ts : List AT) (i : Nat) : lsize (nodes (ts.drop i)) ≤ lsize (nodes ts) := by
  induction i generalizing ts with
  | zero => exact Nat.le_refl _
  | succ i ih =>
    cases ts with
    | nil => exact Nat.le_refl _
    | cons s r =>
      rw [nodes_cons, LFrac.lsize_cons, List.drop_succ_cons]
      have := ih r
      omega
theorem put_turn {n : Nat} (R : Raw K mg "put_together" sPut ["things", "x", "y", "left_out"]) (T : Tx K mg C) (X : Dx K mg D) (cN : C8.Cal P w K mg base 3 "nothing" (spNo D) []) (cW : C8.Cal P w K mg base 3 "weakened" (spWeak D) []) (cO : C8.Cal P w K mg base 3 "over" (spOver D) [])
    (cT : C8.Cal P w K mg base (2 * n + 5) "dot_of_thing" (spThingDot C D n) []) : C8.Cal P w K mg base (2 * (n + 1) + 4) "put_together" (spPut K C D (n + 1)) [] := by
  refine R.cal (k := 2 * n + 5) scPut (fun vs H Q E h => ?_) (fun f cdv A outer s H vs Q E hr h => ?_)
  · obtain ⟨la, ts, px, py, lo, rfl, _⟩ := h
    rfl
  · obtain ⟨la, ts, px, py, lo, rfl, hla, hO, hd, hs, hg, k⟩ := h
    refine ⟨_, pss_cons (ps_set (i := 4) scPut.nd rfl (Or.inl rfl) (pe_c0 cN hr (by omega) (by rfl)))
      (pss_cons (ps_set (i := 5) scPut.nd rfl (Or.inl rfl) (pe_c0 cN hr (by omega) (by rfl)))
      (pss_cons (ps_for PassesOwn.never rfl (pi_list (pv 0)) (pg_name (i := 6) scPut.nd rfl (Or.inl rfl))
        (pss_cons (ps_if (pt_cmpR op_eq (pe_fld (pv 6) rfl) (pv 3) (nomark _)) (pss_one ps_continue) pss_nil)
        (pss_cons (ps_set (i := 7) scPut.nd rfl (Or.inl rfl) (C8.pe_c cT hr (Nat.le_refl _) (by rfl) (pa_cons (pv 6) (pa_cons (pv 1) (pa_cons (pv 2) (pa_cons (pv 3) pa_nil))))))
        (pss_cons (ps_if (pt_cmpR op_eq (pe_fld (pv 6) rfl) pe_int (nomark _))
          (pss_one (ps_set (i := 7) scPut.nd rfl (Or.inl rfl) (C8.pe_c cW hr (by omega) (by rfl) (pa_cons (pv 7) (pa_cons (pe_fld (pv 5) rfl) (pa_cons (pe_fld (pv 5) rfl) pa_nil))))))
          (pss_one (ps_set (i := 5) scPut.nd rfl (Or.inl rfl) (pv 7))))
        (pss_one (ps_set (i := 4) scPut.nd rfl (Or.inl rfl) (C8.pe_c cO hr (by omega) (by rfl) (pa_cons (pv 7) (pa_cons (pv 4) (pa_cons (pe_fld (pv 6) rfl) pa_nil))))))))))
      (pss_one (ps_ret (pv 4))))), ?_⟩
    refine ⟨rfl, fun H1 so s1 d1 => ?_⟩
    refine ⟨rfl, fun H2 ba s2 d2 => ?_⟩
    have s12 := s1.trans s2
    refine ⟨_, rfl, la, rfl, ⟨_, SqL.of (s12 _ _ hla)⟩, for_list (K := K) (a := la) (xs := refs ts) (fun i σ H' => ∃ (so ba : Addr) (m1 m2 : MD) (E b : Nat) (db : RD) (v6 v7 : Option V), σ = [some (.ref la), some (.int px), some (.int py), some (loV lo), some (.ref so), some (.ref ba), v6, v7] ∧ Same H H' ∧
        DotAt D H' so m1 ∧ DotAt D H' ba m2 ∧ MOk E m1 ((nodes (ts.take i)).foldl (rSt px py lo) (rclear, 0)).1 ∧ MOk b m2 db ∧ db.c = ((nodes (ts.take i)).foldl (rSt px py lo) (rclear, 0)).2 ∧
        E + (b * lsize (nodes (ts.drop i)) + tabQ (lsize (nodes (ts.drop i)))) ≤ tabQ (lsize (nodes ts)) ∧ b ≤ 300)
      ⟨so, ba, mNo, mNo, 0, 0, rclear, none, none, rfl, s12, d1.same s2, d2, by rw [List.take_zero]; exact LFrac.mNo_ok, LFrac.mNo_ok, by rw [List.take_zero]; rfl, by rw [List.drop_zero]; omega, by decide⟩
      (fun i σ H' _ ⟨_, _, _, _, _, _, _, _, _, _, s5, _⟩ => SqL.of (s5 _ _ hla)) ?_ ?_⟩
    · rintro i y σ H3 hi ⟨so, ba, m1, m2, E1, b, db, v6, v7, rfl, s3, a1, a2, o1, o2, ebc, hE, hb⟩
      obtain ⟨t, ht, rfl⟩ := refs_get hi
      have tm : t ∈ ts := List.mem_of_getElem? ht
      have hdr := nodes_drop_cons ht
      have htk := nodes_take_snoc ht
      have ot := (hO t (mem_flat_self tm)).same s3
      obtain ⟨Dc, dt, r0, e1, e2, e3, e4, _⟩ := own_ins T ot
      have sz := size_mem tm
      have szd := size_drop ts i
      have np := LFrac.nsize_pos t.node
      rw [hdr, LFrac.lsize_cons] at hE szd
      have tb := tab_318 (lsize (nodes ts)) (by omega)
      have st := LFrac.tab_step (nsize t.node + lsize (nodes (ts.drop (i + 1)))) (by omega) (nsize t.node) (by omega) np (by omega)
      have e11 : nsize t.node + lsize (nodes (ts.drop (i + 1))) - nsize t.node = lsize (nodes (ts.drop (i + 1))) := by omega
      rw [e11] at st
      refine ⟨_, rfl, t.addr, Dc, dt, _, _, rfl, e1, e2, e3 _ (by decide +kernel), th_number .., _, rfl, loV_scal _ _, _, rfl, ?_⟩
      rw [loV_eq]
      rw [htk, List.foldl_append, List.foldl_cons, List.foldl_nil]
      generalize hfo : (nodes (ts.take i)).foldl (rSt px py lo) (rclear, 0) = fo at o1 ebc ⊢
      have idt : t.node.how = t.how := node_how t
      refine iteB (fun c => ?_) (fun c => ?_)
      · have c' : lo = some t.how.id := of_decide_eq_true c
        have er : rSt px py lo fo t.node = fo := by unfold rSt; exact if_pos (by rw [idt]; exact c')
        refine ⟨so, ba, m1, m2, E1, b, db, _, v7, rfl, s3, a1, a2, by rw [er]; exact o1, o2, by rw [er]; exact ebc, ?_, hb⟩
        have h2 : b * lsize (nodes (ts.drop (i + 1))) ≤ b * (nsize t.node + lsize (nodes (ts.drop (i + 1)))) := Nat.mul_le_mul_left b (by omega)
        omega
      · have c' : ¬ lo = some t.how.id := of_decide_eq_false c
        have er : rSt px py lo fo t.node = (LFrac.rover t.how.way (if t.how.clip = true then RD.part fo.2 (rNode px py (woN lo t.node)) else rNode px py (woN lo t.node)) fo.1, if t.how.clip = true then fo.2 else (rNode px py (woN lo t.node)).c) := by
          unfold rSt; rw [if_neg (by rw [idt]; exact c'), idt]
        rw [er]
        have td : t.depth ≤ n := by have := depth_mem tm; omega
        refine ⟨_, rfl, _, rfl, _, rfl, _, rfl, t, px, py, lo, rfl, fun u hu => (hO u (by rw [flat_eq, List.mem_flatMap]; exact ⟨t, tm, hu⟩)).same s3, td, by omega, good_mem ts hg t (mem_flat_self tm), fun H4 rd md Ed s4 ad hEd od => ?_⟩
        have t211 := tab_211 (nsize t.node) (by omega)
        have h3 : tabA (nsize t.node) ≤ tabA (nsize t.node) * (1 + lsize (nodes (ts.drop (i + 1)))) := Nat.le_mul_of_pos_right _ (by omega)
        have s34 := s3.trans s4
        have hl1 : b ≤ b * (nsize t.node + lsize (nodes (ts.drop (i + 1)))) := Nat.le_mul_of_pos_right _ (by omega)
        refine ⟨_, rfl, t.addr, Dc, dt, _, _, rfl, s4 _ _ e1, e2, e3 _ (by decide +kernel), th_clip .., rfl, _, rfl, ?_⟩
        rw [int_eqI, b2n_clip]
        cases hcl : t.how.clip with
        | true =>
          refine iteT ?_
          obtain ⟨dba, eba⟩ := a2.same s4
          refine ⟨_, rfl, _, rfl, ba, D, dba, _, _, rfl, eba, X.cl, X.nc, dotF_c m2, _, rfl, ba, D, dba, _, _, rfl, eba, X.cl, X.nw, dotF_w m2, rd, md, m2.c, m2.w, rfl, ad, od.bg (by omega), (o2.bg (by omega)).c, (o2.bg (by omega)).w, fun H5 r5 s5 a5 => ?_⟩
          have ow : MOk (Ed + b) (mWeak md m2.c m2.w) (RD.part fo.2 (rNode px py (woN lo t.node))) := by
            rw [← ebc]
            exact LFrac.mWeak_ok od o2.w o2.c o2.ok.c0 o2.ok.c1
          have s45 := s4.trans s5
          refine ⟨_, rfl, _, rfl, _, rfl, t.addr, Dc, dt, _, _, rfl, s45 _ _ e1, e2, e3 _ (by decide +kernel), th_way .., r5, so, _, m1, _, rfl, a5, a1.same s45, ow.bg (by omega), o1.bg (by omega), fun H6 r6 s6 a6 => ?_⟩
          have oo := LFrac.mOver_ok t.how.way ow o1
          refine ⟨r6, ba, _, m2, _, b, db, _, _, rfl, (s3.trans s45).trans s6, a6, (a2.same s45).same s6, oo, o2, ebc, ?_, hb⟩
          have h2 : b * lsize (nodes (ts.drop (i + 1))) + b ≤ b * (nsize t.node + lsize (nodes (ts.drop (i + 1)))) := by
            have : b * (1 + lsize (nodes (ts.drop (i + 1)))) ≤ b * (nsize t.node + lsize (nodes (ts.drop (i + 1)))) := Nat.mul_le_mul_left b (by omega)
            rw [Nat.mul_add, Nat.mul_one] at this
            omega
          omega
        | false =>
          refine iteF ?_
          refine ⟨_, rfl, ?_⟩
          refine ⟨_, rfl, _, rfl, _, rfl, t.addr, Dc, dt, _, _, rfl, s4 _ _ e1, e2, e3 _ (by decide +kernel), th_way .., rd, so, _, m1, _, rfl, ad, a1.same s4, od.bg (by omega), o1.bg (by omega), fun H6 r6 s6 a6 => ?_⟩
          have oo := LFrac.mOver_ok t.how.way od o1
          refine ⟨r6, rd, _, md, _, Ed, _, _, _, rfl, s34.trans s6, a6, ad.same s6, oo, od, rfl, ?_, by omega⟩
          have h4 : tabA (nsize t.node) * (1 + lsize (nodes (ts.drop (i + 1)))) = tabA (nsize t.node) + tabA (nsize t.node) * lsize (nodes (ts.drop (i + 1))) := by rw [Nat.mul_add, Nat.mul_one]
          have h5 : Ed * lsize (nodes (ts.drop (i + 1))) ≤ tabA (nsize t.node) * lsize (nodes (ts.drop (i + 1))) := Nat.mul_le_mul_right _ hEd
          omega
    · rintro σ H3 ⟨so, ba, m1, m2, E1, b, db, v6, v7, rfl, s3, a1, a2, o1, o2, ebc, hE, hb⟩
      rw [refs_length, List.take_length] at o1
      refine ⟨_, rfl, k H3 so m1 E1 s3 a1 (by omega) ?_⟩
      rw [LFrac.pile_fold]
      exact o1
theorem put_all (R : Raw K mg "put_together" sPut ["things", "x", "y", "left_out"]) (R2 : Raw K mg "dot_of_thing" sDotThing ["thing", "x", "y", "left_out"]) (T : Tx K mg C) (X : Dx K mg D) (lv : NumG mg "GREATEST_LEVEL" 255) (cN : C8.Cal P w K mg base 3 "nothing" (spNo D) []) (cW : C8.Cal P w K mg base 3 "weakened" (spWeak D) [])
    (cO : C8.Cal P w K mg base 3 "over" (spOver D) []) (cL : C8.Cal P w K mg base 4 "dot_of_layer" (spDotLayer C D) []) : ∀ n, C8.Cal P w K mg base (2 * n + 4) "put_together" (spPut K C D n) []
  | 0 => R.cal_none' fun vs H Q E h => by obtain ⟨la, ts, px, py, lo, _, _, _, hd, _⟩ := h; omega
  | n + 1 => put_turn R T X cN cW cO (thingdot_ok R2 T lv cN cW cL (put_all R R2 T X lv cN cW cO cL n))
end
end Lay
set_option Elab.async false
set_option linter.all false
set_option maxRecDepth 100000
set_option maxHeartbeats 2000000
namespace LFrac
open Sq49
mutual
theorem good_without1 (i : Nat) : ∀ n : Node, NGood n → NGood (n.without i)
  | .layer a x y w h l, g => by unfold Node.without; exact g
  | .group a l, g => by
    unfold Node.without
    unfold NGood at g ⊢
    exact ⟨g.1, good_without i l g.2⟩
theorem good_without (i : Nat) : ∀ l : List Node, LGood l → LGood (Node.allWithout i l)
  | [], _ => by unfold Node.allWithout; unfold LGood; trivial
  | x :: l, g => by
    unfold LGood at g
    unfold Node.allWithout
    split
    · exact good_without i l g.2
    · unfold LGood; exact ⟨good_without1 i x g.1, good_without i l g.2⟩
end
theorem good_wo (lo : Option Nat) {l : List Node} (g : LGood l) : LGood (woL lo l) := by
  cases lo with
  | none => exact g
  | some i => exact good_without i l g
/-- what a dot is told as -/
theorem told_eq {d : Dot} (h : DOk d) {E : Nat} {m : MD} (o : MOk E m (QD d)) : Lay.mTold m = Sq49.ints [d.cover.n, d.cover.d, d.colour.n, d.colour.d] := by
  have b := o.bounds
  have c1 := low_is h.lc (n := m.c.toNat) (d := m.w.toNat) (by omega) (mk_of o)
  unfold Lay.mTold Lay.mCol
  by_cases z : m.c = 0
  · have hz : d.cover.n = 0 := h.lc.zero_iff.mpr ((c_zero o).mp z)
    have e : d.colour = zero := by unfold Dot.colour; exact if_pos hz
    rw [if_pos z, e, c1.1, c1.2]
    rfl
  · have c2 := low_is h.col_low (n := m.t.toNat) (d := m.c.toNat) (by omega) (by rw [h.Q_col]; exact col_of o)
    rw [if_neg z, c1.1, c1.2, c2.1, c2.2]
    rfl
theorem shown_eq {d : Dot} (h : DOk d) {E : Nat} {m : MD} (o : MOk E m (QD d)) : Lay.mShown m = Sq49.ints [(shown d).1, (shown d).2] := by
  have b := o.bounds
  have e1 := shown_cover h o
  unfold Lay.mShown
  rw [e1]
  unfold shown
  by_cases z : rounded d.cover = 0
  · rw [if_pos (by omega), if_pos z]; rfl
  · have cz : m.c ≠ 0 := fun q => z (by have := near_zero (m := m) b.2.2.2 q; rw [e1] at this; omega)
    rw [if_neg (by omega), if_neg z, shown_colour h o cz]; rfl
end LFrac
namespace Lay
open PySem PySem.Spec PyProof.Rows L2
open Sq49 (Node How House says)
open LFrac (MD mNo mWeak mMix mOver Bg MBg mNear NGood LGood HGood MOk RD rNode rPile rclear woN woL rSt tabA tabQ nsize lsize DOk QD)
abbrev sHasPixel : Stmt := topS 54
abbrev sLookDot : Stmt := topS 55
abbrev sLookRow : Stmt := topS 56
abbrev sMatters : Stmt := topS 57
abbrev sListThings : Stmt := topS 58
abbrev sNums : Stmt := topS 59
theorem picF_width (wd ht : Nat) (la : Addr) (n : Nat) : (picF wd ht la n).lookup ("width" : Str) = some (.int wd) := lk_here
theorem picF_height (wd ht : Nat) (la : Addr) (n : Nat) : (picF wd ht la n).lookup ("height" : Str) = some (.int ht) := by
  unfold picF
  repeat (first | exact lk_here | refine (lk_past (by decide +kernel)).trans ?_)
theorem Tx.nPw {K : PySem.W.Frag} {mg : Str → Option Value} {C : Cs} (T : Tx K mg C) : NoAttr K C.P "width" := T.nP _ (by decide +kernel)
theorem Tx.nPh {K : PySem.W.Frag} {mg : Str → Option Value} {C : Cs} (T : Tx K mg C) : NoAttr K C.P "height" := T.nP _ (by decide +kernel)
section
variable {P : Program} {w : World} {K : PySem.W.Frag} {mg : Str → Option Value} {base : Heap} {C : Cs} {D : Addr}
abbrev LPUT : Nat := 2 * DEEP + 4
def spDotPic (C : Cs) (D : Addr) : Sp := fun vs H Q _ => ∃ (p dx la : Addr) (ts : List AT) (ow : Addr → Nat) (g : House) (x y : Nat) (lo : Option Nat), vs = [.ref p, .int x, .int y, loV lo] ∧ PicAt C H p dx la ts ow g ∧
  ∀ H' r m E d, Same H H' → DotAt D H' r m → E ≤ 318 → d = Node.pile x y Sq49.clear Sq49.clear (woL lo g.nodes) → DOk d → MOk E m (QD d) → Q (.ref r) H'
theorem scDotPic : FnScope ["picture", "x", "y", "left_out"] ["picture", "x", "y", "left_out"] (C8.fnScope sDotPic) := C8.fnScope_by (by decide +kernel)
theorem dotpic_ok (R : Raw K mg "dot_of_picture" sDotPic ["picture", "x", "y", "left_out"]) (T : Tx K mg C) (cP : C8.Cal P w K mg base LPUT "put_together" (spPut K C D DEEP) []) : C8.Cal P w K mg base (LPUT + 1) "dot_of_picture" (spDotPic C D) [] := by
  refine R.cal scDotPic (fun vs H Q E h => ?_) (fun f cdv A outer s H vs Q E hr h => ?_)
  · obtain ⟨p, dx, la, ts, ow, g, x, y, lo, rfl, _⟩ := h
    rfl
  · obtain ⟨p, dx, la, ts, ow, g, x, y, lo, rfl, A', k⟩ := h
    refine ⟨_, pss_one (ps_ret (C8.pe_c cP hr (Nat.le_refl _) (by rfl) (pa_cons (pe_fld (pv 0) rfl) (pa_cons (pv 1) (pa_cons (pv 2) (pa_cons (pv 3) pa_nil)))))), ?_⟩
    have sz : lsize (nodes ts) ≤ 10 := by rw [← LFrac.lsize_ids, ids_all, List.length_map]; exact A'.cnt
    refine ⟨_, rfl, p, C.P, dx, _, _, rfl, A'.self, T.cP, T.nPt, picF_things .., _, rfl, _, rfl, _, rfl, la, ts, x, y, lo, rfl, A'.lst, A'.held, A'.deep, sz, A'.good, fun H1 r m E1 s1 a1 hE o => ?_⟩
    have t3 := tab_318 (lsize (nodes ts)) (by omega)
    have q := LFrac.pile_ok x y (woL lo (nodes ts)) (LFrac.good_wo lo A'.good) Sq49.clear Sq49.clear LFrac.clear_ok LFrac.clear_ok
    refine k H1 r m E1 _ s1 a1 (by omega) (by rw [A'.ns]) q.1 ?_
    rw [q.2, LFrac.QD_clear]
    exact o
theorem mok_pos {E : Nat} {m : MD} {d : RD} (o : MOk E m d) : MPos m := by
  have b := o.bounds
  exact ⟨b.1, by omega, b.2.2.2⟩
/-! ### a row -/
def rowUpTo (g : House) (y n : Nat) : List Nat := (List.range n).flatMap fun x => [(Sq49.shown (g.dot x y)).1, (Sq49.shown (g.dot x y)).2]
theorem rowUpTo_succ (g : House) (y n : Nat) : rowUpTo g y (n + 1) = rowUpTo g y n ++ [(Sq49.shown (g.dot n y)).1, (Sq49.shown (g.dot n y)).2] := by
  unfold rowUpTo
  rw [List.range_succ, List.flatMap_append]
  congr 1
theorem rowUpTo_len (g : House) (y n : Nat) : (rowUpTo g y n).length = 2 * n := by
  induction n with
  | zero => rfl
  | succ n ih => rw [rowUpTo_succ, List.length_append, ih]; show 2 * n + 2 = _; omega
theorem intsV_append (a b : List Nat) : intsV (a ++ b) = intsV a ++ intsV b := by unfold intsV; rw [List.map_append, List.map_append]
theorem intsV_len (a : List Nat) : (intsV a).length = a.length := by unfold intsV; rw [List.length_map, List.length_map]
theorem ints_V (a : List Nat) : (Sq49.ints a).map V.int = intsV a := rfl
def spRow (C : Cs) : Sp := fun vs H Q _ => ∃ (p dx la : Addr) (ts : List AT) (ow : Addr → Nat) (g : House) (y : Nat), vs = [.ref p, .int y] ∧ PicAt C H p dx la ts ow g ∧
  ∀ H' r, Same H H' → H r = none → H' r = some (.lst (intsV (rowUpTo g y g.w))) → Q (.ref r) H'
theorem scRow : FnScope ["picture", "y", "levels", "x"] ["picture", "y"] (C8.fnScope sRow) := C8.fnScope_by (by decide +kernel)
theorem row_ok (R : Raw K mg "shown_row" sRow ["picture", "y"]) (T : Tx K mg C) (X : Dx K mg D) (cP : C8.Cal P w K mg base (LPUT + 1) "dot_of_picture" (spDotPic C D) []) (cS : C8.Cal P w K mg base 2 "shown" (spShown D) []) : C8.Cal P w K mg base (LPUT + 2) "shown_row" (spRow C) [] := by
  refine R.cal scRow (fun vs H Q E h => ?_) (fun f cdv A outer s H vs Q E hr h => ?_)
  · obtain ⟨p, dx, la, ts, ow, g, y, rfl, _⟩ := h
    rfl
  · obtain ⟨p, dx, la, ts, ow, g, y, rfl, A', k⟩ := h
    refine ⟨_, pss_cons (ps_set (i := 2) scRow.nd rfl (Or.inl rfl) (pe_lst pa_nil))
      (pss_cons (ps_for PassesOwn.never rfl (pi_range1 (by rfl) X.zrange (pa_cons (pe_fld (pv 0) rfl) pa_nil)) (pg_name (i := 3) scRow.nd rfl (Or.inl rfl))
        (pss_one (ps_expr (pe_bm PySem.F.plainAttrs_list PySem.F.slot_list_extend PySem.F.type_list_extend mt_extend (pv 2)
          (pa_cons (C8.pe_c cS hr (by decide) (by rfl) (pa_cons (C8.pe_c cP hr (Nat.le_refl _) (by rfl) (pa_cons (pv 0) (pa_cons (pv 3) (pa_cons (pv 1) (pa_cons pe_non pa_nil))))) pa_nil)) pa_nil)))))
      (pss_one (ps_ret (pv 2)))), ?_⟩
    refine ⟨Nat.zero_le _, fun lv hlv => ?_⟩
    have s0 := same_new hlv (.lst [])
    have A0 := A'.same s0
    have w8 := A'.w8
    refine ⟨_, rfl, p, C.P, dx, _, _, rfl, A0.self, T.cP, T.nPw, picF_width .., _, rfl, by omega, by omega, for_range (n := ((g.w : Int)).toNat) (fun n σ H' => ∃ v3 : Option V, σ = [some (.ref p), some (.int y), some (.ref lv), v3] ∧ Same H H' ∧ H' lv = some (.lst (intsV (rowUpTo g y n))))
      ⟨none, rfl, s0, upd_same⟩ ?_ ?_⟩
    · rintro n σ H1 hn ⟨v3, rfl, s1, e1⟩
      have hn' : n < g.w := by omega
      have en : V.int (0 + (n : Int)) = V.int (n : Int) := by rw [Int.zero_add]
      rw [en]
      refine ⟨_, rfl, .inl ⟨rfl, _, SqL.of e1⟩, _, rfl, _, rfl, _, rfl, p, dx, la, ts, ow, g, n, y, none, rfl, A'.same s1, fun H2 r2 m E2 d s2 a2 hE ed hd o => ?_⟩
      have sh := LFrac.shown_eq hd o
      refine ⟨r2, m, rfl, a2, mok_pos o, o.bg (by omega), fun H3 r3 s3 n3 e3 => ?_⟩
      rw [sh, ints_V] at e3
      have e13 : H3 lv = _ := s3 _ _ (s2 _ _ e1)
      refine ⟨lv, r3, _, _, rfl, rfl, e13, e3, ?_, ?_⟩
      · rw [intsV_len, intsV_len, rowUpTo_len]
        exact Nat.le_of_lt (small1000 (by show _ + 2 ≤ 1000; omega))
      · refine ⟨_, rfl, fun b o' eb => ?_, ?_⟩
        · rw [upd_ne (ne_of_none eb hlv)]; exact s3 _ _ (s2 _ _ (s1 _ _ eb))
        · rw [upd_same, rowUpTo_succ, intsV_append]
          have : d = g.dot n y := ed
          rw [this]
    · rintro σ H1 ⟨v3, rfl, s1, e1⟩
      rw [Int.toNat_natCast] at e1
      exact ⟨_, rfl, k H1 lv s1 hlv e1⟩
/-! ### the calls that look -/
/-- what a look promises -/
def Look (C : Cs) (p : Addr) (c : Sq49.Call) (H : Hp) (Q : VK) : Prop := ∃ dx la ts ow g, PicAt C H p dx la ts ow g ∧ ∀ H' r, Same H H' → H r = none → H' r = some (.lst (((g.step c).2.value :: (g.step c).2.out).map V.int)) → Q (.ref r) H'
def spHas (C : Cs) : Sp := fun vs H Q _ => ∃ (p dx la : Addr) (wd ht n x y : Nat), vs = [.ref p, .int x, .int y] ∧ H p = some (.ins C.P dx (picF wd ht la n)) ∧ Q (.bl (decide (x < wd ∧ y < ht))) H
theorem scHas : FnScope ["picture", "x", "y"] ["picture", "x", "y"] (C8.fnScope sHasPixel) := C8.fnScope_by (by decide +kernel)
theorem has_ok (R : Raw K mg "has_pixel" sHasPixel ["picture", "x", "y"]) (T : Tx K mg C) : C8.Cal P w K mg base 1 "has_pixel" (spHas C) [] := by
  refine R.cal scHas (fun vs H Q E h => ?_) (fun f cdv A outer s H vs Q E hr h => ?_)
  · obtain ⟨p, dx, la, wd, ht, n, x, y, rfl, _⟩ := h
    rfl
  · obtain ⟨p, dx, la, wd, ht, n, x, y, rfl, e, k⟩ := h
    refine ⟨_, pss_one (ps_ret (pe_and (pe_cmpR op_lt (pv 1) (pe_fld (pv 0) rfl) (nomark _)) (pe_one (pe_cmpR op_lt (pv 2) (pe_fld (pv 0) rfl) (nomark _))))), ?_⟩
    refine ⟨_, rfl, _, rfl, p, C.P, dx, _, _, rfl, e, T.cP, T.nPw, picF_width .., _, _, rfl, rfl, _, rfl, iteB (fun c => ?_) (fun c => ?_)⟩
    · have c' : (x : Int) < wd := of_decide_eq_true c
      refine ⟨_, rfl, _, rfl, p, C.P, dx, _, _, rfl, e, T.cP, T.nPh, picF_height .., _, _, rfl, rfl, ?_⟩
      have e : decide ((y : Int) < ht) = decide (x < wd ∧ y < ht) := by
        by_cases q : y < ht
        · rw [decide_eq_true (by omega), decide_eq_true ⟨by omega, q⟩]
        · rw [decide_eq_false (by omega), decide_eq_false (fun z => q z.2)]
      show Q (.bl (decide ((y : Int) < ht))) H
      rw [e]; exact k
    · have c' : ¬ (x : Int) < wd := of_decide_eq_false c
      rw [decide_eq_false (fun z => c' (by omega))] at k
      exact k
def spLookDot (C : Cs) : Sp := fun vs H Q _ => ∃ (p : Addr) (x y : Nat), vs = [.ref p, .int x, .int y] ∧ Look C p (.dot x y) H Q
theorem scLookDot : FnScope ["picture", "x", "y"] ["picture", "x", "y"] (C8.fnScope sLookDot) := C8.fnScope_by (by decide +kernel)
theorem refuse1 {p : Addr} {c : Sq49.Call} {H : Hp} {Q : VK} {g : House} {z : Int} (k : ∀ H' r, Same H H' → H r = none → H' r = some (.lst (((g.step c).2.value :: (g.step c).2.out).map V.int)) → Q (.ref r) H') (e : g.step c = (g, says z)) : 1 ≤ sizeLine ∧ ∀ r, H r = none → Q (.ref r) (upd H r (.lst [.int z])) := by
  refine ⟨by decide, fun r hr => k _ r (same_new hr _) hr ?_⟩
  rw [e]
  exact upd_same
theorem lookdot_ok (R : Raw K mg "look_at_dot" sLookDot ["picture", "x", "y"]) (T : Tx K mg C) (M : Nm mg) (cH : C8.Cal P w K mg base 1 "has_pixel" (spHas C) []) (cP : C8.Cal P w K mg base (LPUT + 1) "dot_of_picture" (spDotPic C D) []) (cI : C8.Cal P w K mg base 4 "in_lowest_terms" (spInLow D) []) :
    C8.Cal P w K mg base (LPUT + 2) "look_at_dot" (spLookDot C) [] := by
  refine R.cal scLookDot (fun vs H Q E h => ?_) (fun f cdv A outer s H vs Q E hr h => ?_)
  · obtain ⟨p, x, y, rfl, _⟩ := h
    rfl
  · obtain ⟨p, x, y, rfl, dx, la, ts, ow, g, A', k⟩ := h
    refine ⟨_, pss_cons (ps_if (pt_not (pt_val (C8.pe_c cH hr (by decide) (by rfl) (pa_cons (pv 0) (pa_cons (pv 1) (pa_cons (pv 2) pa_nil)))))) (pss_one (ps_ret (pe_lst (pa_cons (pe_num (by rfl) M.bad) pa_nil)))) pss_nil)
      (pss_one (ps_ret (pe_op op_cat (pe_lst (pa_cons pe_int pa_nil)) (C8.pe_c cI hr (by decide) (by rfl) (pa_cons (C8.pe_c cP hr (Nat.le_refl _) (by rfl) (pa_cons (pv 0) (pa_cons (pv 1) (pa_cons (pv 2) (pa_cons pe_non pa_nil))))) pa_nil))))), ?_⟩
    refine ⟨_, rfl, _, rfl, _, rfl, p, dx, la, g.w, g.h, g.next, x, y, rfl, A'.self, _, rfl, ?_⟩
    by_cases c : x < g.w ∧ y < g.h
    · rw [decide_eq_true c]
      refine iteF ?_
      refine ⟨(by show 1 ≤ sizeLine; decide), fun q hq => ?_⟩
      have s1 := same_new hq (.lst [.int 0])
      refine ⟨_, rfl, _, rfl, _, rfl, p, dx, la, ts, ow, g, x, y, none, rfl, A'.same s1, fun H2 r2 m E2 d s2 a2 hE ed hd o => ?_⟩
      refine ⟨r2, m, rfl, a2, mok_pos o, o.bg (by omega), fun H3 r3 s3 n3 e3 => ?_⟩
      rw [LFrac.told_eq hd o] at e3
      refine ⟨q, r3, _, _, rfl, rfl, s3 _ _ (s2 _ _ upd_same), e3, (by show 1 + 4 ≤ sizeLine; decide), fun r hr' => ?_⟩
      refine k _ r (((s1.trans s2).trans s3).trans (same_new hr' _)) (((s1.trans s2).trans s3).free hr') ?_
      have es : g.step (.dot x y) = (g, ⟨0, Sq49.ints [(g.dot x y).cover.n, (g.dot x y).cover.d, (g.dot x y).colour.n, (g.dot x y).colour.d]⟩) := by
        show (if g.w ≤ x ∨ g.h ≤ y then (g, says (-1)) else _) = _
        rw [if_neg (by omega)]
      have ed' : d = g.dot x y := ed
      rw [es, upd_same, ed']
      rfl
    · rw [decide_eq_false c]
      refine iteT ?_
      have es : g.step (.dot x y) = (g, says (-1)) := by
        show (if g.w ≤ x ∨ g.h ≤ y then (g, says (-1)) else _) = _
        rw [if_pos (by omega)]
      exact refuse1 (p := p) k es
def spLookRow (C : Cs) : Sp := fun vs H Q _ => ∃ (p : Addr) (y : Nat), vs = [.ref p, .int y] ∧ Look C p (.row y) H Q
theorem scLookRow : FnScope ["picture", "y"] ["picture", "y"] (C8.fnScope sLookRow) := C8.fnScope_by (by decide +kernel)
theorem lookrow_ok (R : Raw K mg "look_at_row" sLookRow ["picture", "y"]) (T : Tx K mg C) (M : Nm mg) (cR : C8.Cal P w K mg base (LPUT + 2) "shown_row" (spRow C) []) : C8.Cal P w K mg base (LPUT + 3) "look_at_row" (spLookRow C) [] := by
  refine R.cal scLookRow (fun vs H Q E h => ?_) (fun f cdv A outer s H vs Q E hr h => ?_)
  · obtain ⟨p, y, rfl, _⟩ := h
    rfl
  · obtain ⟨p, y, rfl, dx, la, ts, ow, g, A', k⟩ := h
    refine ⟨_, pss_cons (ps_if (pt_cmpR op_ge (pv 1) (pe_fld (pv 0) rfl) (nomark _)) (pss_one (ps_ret (pe_lst (pa_cons (pe_num (by rfl) M.bad) pa_nil)))) pss_nil)
      (pss_one (ps_ret (pe_op op_cat (pe_lst (pa_cons (pe_fld (pv 0) rfl) pa_nil)) (C8.pe_c cR hr (Nat.le_refl _) (by rfl) (pa_cons (pv 0) (pa_cons (pv 1) pa_nil)))))), ?_⟩
    refine ⟨_, rfl, _, rfl, p, C.P, dx, _, _, rfl, A'.self, T.cP, T.nPh, picF_height .., _, _, rfl, rfl, _, rfl, iteB (fun c => ?_) (fun c => ?_)⟩
    · have c' : (g.h : Int) ≤ y := of_decide_eq_true c
      have es : g.step (.row y) = (g, says (-1)) := by
        show (if g.h ≤ y then (g, says (-1)) else _) = _
        rw [if_pos (by omega)]
      exact refuse1 (p := p) k es
    · have c' : ¬ (g.h : Int) ≤ y := of_decide_eq_false c
      have es : g.step (.row y) = (g, ⟨g.w, Sq49.ints (rowUpTo g y g.w)⟩) := by
        show (if g.h ≤ y then (g, says (-1)) else _) = _
        rw [if_neg (by omega)]
        rfl
      refine ⟨_, rfl, p, C.P, dx, _, _, rfl, A'.self, T.cP, T.nPw, picF_width .., (by show 1 ≤ sizeLine; decide), fun q hq => ?_⟩
      have s1 := same_new hq (.lst [.int g.w])
      refine ⟨_, rfl, _, rfl, p, dx, la, ts, ow, g, y, rfl, A'.same s1, fun H2 r2 s2 n2 e2 => ?_⟩
      have w8 := A'.w8
      refine ⟨q, r2, _, _, rfl, rfl, s2 _ _ upd_same, e2, ?_, fun r hr' => ?_⟩
      · rw [intsV_len, rowUpTo_len]
        exact Nat.le_of_lt (small1000 (by show 1 + _ ≤ 1000; omega))
      refine k _ r ((s1.trans s2).trans (same_new hr' _)) ((s1.trans s2).free hr') ?_
      rw [es, upd_same]
      rfl
end
end Lay
set_option Elab.async false
set_option linter.all false
set_option maxRecDepth 100000
set_option maxHeartbeats 2000000
namespace Lay
open PySem PySem.Spec PyProof.Rows L2
open Sq49 (Node How House says)
open LFrac (MD mNo mWeak mMix mOver Bg MBg mNear NGood LGood HGood MOk RD rNode rPile rclear woN woL rSt tabA tabQ nsize lsize DOk QD)
section
variable {P : Program} {w : World} {K : PySem.W.Frag} {mg : Str → Option Value} {base : Heap} {C : Cs} {D : Addr}
def spNums (K : PySem.W.Frag) (C : Cs) : Sp := fun vs H Q _ => ∃ (a la : Addr) (ts : List AT), vs = [.ref a] ∧ HolderAt K H a la ts ∧ Held C H ts ∧ depths ts + 1 ≤ DEEP ∧ (flat ts).length ≤ 100 ∧
  ∀ H' r, Same H H' → H r = none → H' r = some (.lst (intsV ((flat ts).map AT.id))) → Q (.ref r) H'
theorem scNums : FnScope ["picture", "thing"] ["picture"] (C8.fnScope sNums) := C8.fnScope_by (by decide +kernel)
theorem nums_ok (R : Raw K mg "all_numbers" sNums ["picture"]) (T : Tx K mg C) (cA : C8.Cal P w K mg base DEEP "all_things" (spAll K C DEEP) []) : C8.Cal P w K mg base (DEEP + 1) "all_numbers" (spNums K C) [] := by
  refine R.cal scNums (fun vs H Q E h => ?_) (fun f cdv A outer s H vs Q E hr h => ?_)
  · obtain ⟨a, la, ts, rfl, _⟩ := h
    rfl
  · obtain ⟨a, la, ts, rfl, hH, hT, hd, hsz, k⟩ := h
    refine ⟨_, pss_one (ps_ret (pe_lc (own := [("thing", 1)]) (g := gName 1) (tt := tYes) (te := tFld K (tVar 1) "number") rfl scNums.nd (pi_list (C8.pe_c cA hr (Nat.le_refl _) (by rfl) (pa_cons (pv 0) pa_nil)))
        (blkOk_by (own := [("thing", 1)]) (N := ["picture", "thing"]) (sc := C8.fnScope sNums) (by decide +kernel)) (fun _ _ _ _ _ => pg_name (i := 1) scNums.nd rfl (Or.inl rfl))
        (fun _ _ _ _ _ => pts_nil) (fun _ _ _ _ _ => pe_fld (pv 1) rfl))), ?_⟩
    refine ⟨_, rfl, a, la, ts, rfl, hH, hT, hd, hsz, fun H1 r s1 hr1 er => ?_⟩
    refine ⟨r, rfl, ⟨_, SqL.of er⟩, fun L hL => lc_list (K := K) (a := r) (xs := refs (flat ts)) (fun n H' => Same H1 H' ∧ H' L = some (.lst (intsV (((flat ts).take n).map AT.id))))
      ⟨same_new hL _, by rw [List.take_zero]; exact upd_same⟩ (fun n H' _ h => SqL.of (h.1 _ _ er)) ?_ ?_⟩
    · rintro n y H' hi ⟨s2, hL'⟩
      obtain ⟨t, ht, rfl⟩ := refs_get hi
      have tm : t ∈ flat ts := List.mem_of_getElem? ht
      obtain ⟨Dc, dx, fs, e1, e2, e3, e4⟩ := own_number T (((hT t tm).same s1).same s2)
      have hl : ((flat ts).take n).length ≤ 100 := by rw [List.length_take]; omega
      refine ⟨rfl, ?_⟩
      show if true = true then _ else (Same H1 H' ∧ H' L = some (.lst (intsV (((flat ts).take (n + 1)).map AT.id))))
      refine iteT ?_
      refine iteT ⟨_, rfl, t.addr, Dc, dx, fs, _, rfl, e1, e2, e3, e4, _, hL', ?_, fun b o q => ?_, ?_⟩
      · rw [intsV_len, List.length_map]; exact small1000 (by omega)
      · rw [upd_ne (ne_of_none q hL)]; exact s2 b o q
      · rw [upd_same, take_snoc ht, List.map_append, intsV_append]
        rfl
    · rintro H2 ⟨s2, hL2⟩
      rw [refs_length, List.take_length] at hL2
      exact k H2 L (s1.trans s2) (s1.free hL) hL2
def spListThings (C : Cs) : Sp := fun vs H Q _ => ∃ (p : Addr), vs = [.ref p] ∧ Look C p .list H Q
theorem scListThings : FnScope ["picture"] ["picture"] (C8.fnScope sListThings) := C8.fnScope_by (by decide +kernel)
theorem list_ok (R : Raw K mg "list_things" sListThings ["picture"]) (T : Tx K mg C) (cN : C8.Cal P w K mg base (DEEP + 1) "all_numbers" (spNums K C) []) : C8.Cal P w K mg base (DEEP + 2) "list_things" (spListThings C) [] := by
  refine R.cal scListThings (fun vs H Q E h => ?_) (fun f cdv A outer s H vs Q E hr h => ?_)
  · obtain ⟨p, rfl, _⟩ := h
    rfl
  · obtain ⟨p, rfl, dx, la, ts, ow, g, A', k⟩ := h
    refine ⟨_, pss_one (ps_ret (pe_op op_cat (pe_lst (pa_cons (pe_callB call_len_seq (by rfl) T.zlen PySem.boot_len (pa_cons (pe_fld (pv 0) rfl) pa_nil)) pa_nil)) (C8.pe_c cN hr (Nat.le_refl _) (by rfl) (pa_cons (pv 0) pa_nil)))), ?_⟩
    refine ⟨_, rfl, p, C.P, dx, _, _, rfl, A'.self, T.cP, T.nPt, picF_things .., la, _, rfl, .inl (SqL.of A'.lst), (by show 1 ≤ sizeLine; decide), fun q hq => ?_⟩
    have s1 := same_new hq (.lst [.int (refs ts).length])
    have A1 := A'.same s1
    refine ⟨_, rfl, p, la, ts, rfl, A1.holder T, A1.held, A1.deep, A1.few, fun H2 r2 s2 n2 e2 => ?_⟩
    have few := A'.few
    refine ⟨q, r2, _, _, rfl, rfl, s2 _ _ upd_same, e2, ?_, fun r hr' => ?_⟩
    · rw [intsV_len, List.length_map]
      exact Nat.le_of_lt (small1000 (by show 1 + _ ≤ 1000; omega))
    refine k _ r ((s1.trans s2).trans (same_new hr' _)) ((s1.trans s2).free hr') ?_
    rw [upd_same]
    show _ = some (HO.lst (((g.nodes.length : Int) :: Sq49.ints (Node.allIds g.nodes)).map V.int))
    rw [A'.ns, ids_all, nodes_map, List.length_map, refs_length]
    rfl
/-! ### what matters -/
def spMatters (C : Cs) : Sp := fun vs H Q _ => ∃ (p : Addr) (x y : Nat), vs = [.ref p, .int x, .int y] ∧ Look C p (.matters x y) H Q
theorem scMatters : FnScope ["picture", "x", "y", "dot", "numbers", "number"] ["picture", "x", "y"] (C8.fnScope sMatters) := C8.fnScope_by (by decide +kernel)
theorem matters_ok (R : Raw K mg "what_matters" sMatters ["picture", "x", "y"]) (T : Tx K mg C) (M : Nm mg) (cH : C8.Cal P w K mg base 1 "has_pixel" (spHas C) []) (cP : C8.Cal P w K mg base (LPUT + 1) "dot_of_picture" (spDotPic C D) []) (cN : C8.Cal P w K mg base (DEEP + 1) "all_numbers" (spNums K C) [])
    (cS : C8.Cal P w K mg base 1 "is_same" (spSame D) []) : C8.Cal P w K mg base (LPUT + 2) "what_matters" (spMatters C) [] := by
  refine R.cal scMatters (fun vs H Q E h => ?_) (fun f cdv A outer s H vs Q E hr h => ?_)
  · obtain ⟨p, x, y, rfl, _⟩ := h
    rfl
  · obtain ⟨p, x, y, rfl, dx, la, ts, ow, g, A', k⟩ := h
    refine ⟨_, pss_cons (ps_if (pt_not (pt_val (C8.pe_c cH hr (by decide) (by rfl) (pa_cons (pv 0) (pa_cons (pv 1) (pa_cons (pv 2) pa_nil)))))) (pss_one (ps_ret (pe_lst (pa_cons (pe_num (by rfl) M.bad) pa_nil)))) pss_nil)
      (pss_cons (ps_set (i := 3) scMatters.nd rfl (Or.inr rfl) (C8.pe_c cP hr (Nat.le_refl _) (by rfl) (pa_cons (pv 0) (pa_cons (pv 1) (pa_cons (pv 2) (pa_cons pe_non pa_nil))))))
      (pss_cons (ps_setLc (i := 4) (own := [("number", 5)]) (g := gName 5)
          (tt := tNot (tB (tCall (spSame D) [] C8.E0 (tCons (tVar 3) (tCons (tCall (spDotPic C D) [] C8.E0 (tCons (tVar 0) (tCons (tVar 1) (tCons (tVar 2) (tCons (tVar 5) tNil))))) tNil))))) (te := tVar 5) rfl scMatters.nd rfl rfl (sw_true rfl rfl rfl (by decide +kernel)) (pi_list (C8.pe_c cN hr (by decide) (by rfl) (pa_cons (pv 0) pa_nil)))
        (blkOk_by (own := [("number", 5)]) (N := ["picture", "x", "y", "dot", "numbers", "number"]) (sc := C8.fnScope sMatters) (by decide +kernel)) (fun _ _ _ _ _ => pg_name (i := 5) scMatters.nd rfl (Or.inl rfl))
        (fun _ _ _ _ _ => pts_one (pt_not (pt_val (C8.pe_c cS hr (by decide) (by rfl) (pa_cons (pv 3) (pa_cons (C8.pe_c cP hr (Nat.le_refl _) (by rfl) (pa_cons (pv 0) (pa_cons (pv 1) (pa_cons (pv 2) (pa_cons (pv 5) pa_nil))))) pa_nil)))))) (fun _ _ _ _ _ => pv 5))
      (pss_one (ps_ret (pe_op op_cat (pe_lst (pa_cons (pe_callB call_len_seq (by rfl) T.zlen PySem.boot_len (pa_cons (pv 4) pa_nil)) pa_nil)) (pv 4)))))), ?_⟩
    refine ⟨_, rfl, _, rfl, _, rfl, p, dx, la, g.w, g.h, g.next, x, y, rfl, A'.self, _, rfl, ?_⟩
    by_cases c : x < g.w ∧ y < g.h
    · rw [decide_eq_true c]
      refine iteF ?_
      refine ⟨_, rfl, _, rfl, _, rfl, p, dx, la, ts, ow, g, x, y, none, rfl, A', fun H1 rd m E1 d s1 a1 hE ed hd o => ?_⟩
      have A1 := A'.same s1
      refine ⟨_, rfl, p, la, ts, rfl, A1.holder T, A1.held, A1.deep, A1.few, fun H2 r2 s2 n2 e2 => ?_⟩
      have s12 := s1.trans s2
      have few := A'.few
      refine ⟨r2, rfl, ⟨_, SqL.of e2⟩, fun L hL => lc_list (K := K) (a := r2) (xs := intsV ((flat ts).map AT.id)) (fun n H' => Same H2 H' ∧ H' L = some (.lst (intsV ((((flat ts).map AT.id).take n).filter fun i => g.matters i x y))))
        ⟨same_new hL _, by rw [List.take_zero]; exact upd_same⟩ (fun n H' _ h => SqL.of (h.1 _ _ e2)) ?_ ?_⟩
      · rintro n yv H3 hi ⟨s3, hL'⟩
        have hi2 : ∃ i, ((flat ts).map AT.id)[n]? = some i ∧ yv = .int (i : Nat) := by
          unfold intsV at hi
          rw [List.getElem?_map, List.getElem?_map] at hi
          cases e : ((flat ts).map AT.id)[n]? with
          | none => rw [e] at hi; cases hi
          | some i => rw [e] at hi; cases hi; exact ⟨i, rfl, rfl⟩
        obtain ⟨i, hix, rfl⟩ := hi2
        have hl : ((((flat ts).map AT.id).take n).filter fun i => g.matters i x y).length ≤ 100 := by
          have a1 := List.length_filter_le (fun i => g.matters i x y) (((flat ts).map AT.id).take n)
          rw [List.length_take, List.length_map] at a1
          omega
        have hs : (((flat ts).map AT.id).take (n + 1)).filter (fun i => g.matters i x y) = (((flat ts).map AT.id).take n).filter (fun i => g.matters i x y) ++ [i].filter (fun i => g.matters i x y) := by rw [take_snoc hix, List.filter_append]
        have s13 : Same H1 H3 := s2.trans s3
        refine ⟨rfl, _, rfl, _, rfl, _, rfl, _, rfl, _, rfl, p, dx, la, ts, ow, g, x, y, some i, rfl, A1.same s13, fun H4 r4 m4 E4 d4 s4 a4 hE4 ed4 hd4 o4 => ?_⟩
        refine ⟨rd, r4, m, m4, rfl, (a1.same s13).same s4, a4, o.bg (by omega), o4.bg (by omega), _, rfl, ?_⟩
        have em : (!sameB m m4) = g.matters i x y := by
          unfold sameB House.matters
          have ds := LFrac.dot_same hd hd4 o o4
          have ed' : d = g.dot x y := ed
          have ed4' : d4 = Node.pile x y Sq49.clear Sq49.clear (Node.allWithout i g.nodes) := ed4
          by_cases q : d = d4
          · rw [decide_eq_true (ds.mp q), ← ed', ← ed4', q]
            simp
          · rw [decide_eq_false (fun z => q (ds.mpr z)), ← ed', ← ed4']
            symm
            exact bne_iff_ne.mpr (Ne.symm q)
        have s24 := s3.trans s4
        have em2 : sameB m m4 = !g.matters i x y := by rw [← em, Bool.not_not]
        rw [em2]
        cases e : g.matters i x y with
        | true =>
          refine iteT ⟨_, rfl, _, s4 _ _ hL', (by rw [intsV_len]; exact small1000 (by omega)), fun b o' q => ?_, ?_⟩
          · rw [upd_ne (ne_of_none q hL)]; exact s24 b o' q
          · rw [upd_same, hs, intsV_append, List.filter_cons_of_pos (by exact e)]
            rfl
        | false =>
          refine iteF ⟨s24, ?_⟩
          rw [hs, List.filter_cons_of_neg (by rw [e]; exact Bool.false_ne_true), List.filter_nil, List.append_nil]
          exact s4 _ _ hL'
      · rintro H3 ⟨s3, hL3⟩
        rw [intsV_len, List.take_length] at hL3
        have hl : (((flat ts).map AT.id).filter fun i => g.matters i x y).length ≤ 100 := by
          have a1 := List.length_filter_le (fun i => g.matters i x y) ((flat ts).map AT.id)
          rw [List.length_map] at a1
          omega
        refine ⟨_, rfl, L, _, rfl, .inl (SqL.of hL3), (by show 1 ≤ sizeLine; decide), fun q hq => ?_⟩
        have s4 := same_new hq (.lst [.int (intsV (((flat ts).map AT.id).filter fun i => g.matters i x y)).length])
        refine ⟨_, rfl, q, L, _, _, rfl, rfl, upd_same, s4 _ _ hL3, ?_, fun r hr' => ?_⟩
        · rw [intsV_len]; exact Nat.le_of_lt (small1000 (by show 1 + _ ≤ 1000; omega))
        have s14 := (s12.trans s3).trans s4
        refine k _ r (s14.trans (same_new hr' _)) (s14.free hr') ?_
        have es : g.step (.matters x y) = (g, ⟨(((Node.allIds g.nodes).filter fun i => g.matters i x y).length : Nat), Sq49.ints ((Node.allIds g.nodes).filter fun i => g.matters i x y)⟩) := by
          show (if g.w ≤ x ∨ g.h ≤ y then (g, says (-1)) else _) = _
          rw [if_neg (by omega)]
        have ei : Node.allIds g.nodes = (flat ts).map AT.id := by rw [A'.ns, ids_all]
        rw [es, upd_same, ei, intsV_len]
        rfl
    · rw [decide_eq_false c]
      refine iteT ?_
      have es : g.step (.matters x y) = (g, says (-1)) := by
        show (if g.w ≤ x ∨ g.h ≤ y then (g, says (-1)) else _) = _
        rw [if_pos (by omega)]
      exact refuse1 (p := p) k es
end
end Lay
set_option Elab.async false
set_option linter.all false
set_option maxRecDepth 100000
set_option maxHeartbeats 2000000
namespace Lay
open PySem PySem.Spec PyProof.Rows L2
open Sq49 (Node How House says offset)
open LFrac (NGood LGood HGood)
abbrev sOpen : Stmt := topS 46
mutual
theorem at_none1 {i : Nat} {f : AT → AT} : ∀ t : AT, (∀ u ∈ t.flat1, u.id ≠ i) → t.at_ i f = t
  | .layer a pa h x y w ht px, hn => by
    unfold AT.at_
    have hni : ¬ h.id = i := hn (.layer a pa h x y w ht px) (by unfold AT.flat1; exact List.mem_cons_self)
    exact if_neg hni
  | .group a la h l, hn => by
    unfold AT.at_
    have hni : ¬ h.id = i := hn (.group a la h l) (by unfold AT.flat1; exact List.mem_cons_self)
    rw [if_neg hni, at_none l (fun u hu => hn u (by unfold AT.flat1; exact List.mem_cons_of_mem _ hu))]
theorem at_none {i : Nat} {f : AT → AT} : ∀ l : List AT, (∀ u ∈ flat l, u.id ≠ i) → allAtA i f l = l
  | [], _ => by unfold allAtA; rfl
  | t :: l, hn => by
    unfold allAtA
    rw [at_none1 t (fun u hu => hn u (by unfold flat; exact List.mem_append_left _ hu)), at_none l (fun u hu => hn u (by unfold flat; exact List.mem_append_right _ hu))]
end
theorem allAtA_cons {i : Nat} {f : AT → AT} (t : AT) (l : List AT) : allAtA i f (t :: l) = t.at_ i f :: allAtA i f l := by conv => lhs; unfold allAtA
/-- the numbers ahead of a thing and behind it are as they were -/
theorem ids_split {hid : Nat} {f : AT → AT} {t0 : AT} (h0 : t0.id = hid) : ∀ (n : Nat) (l : List AT), (flat l).length ≤ n → ((flat l).map AT.id).Nodup → t0 ∈ flat l →
    ∃ A B, (flat l).map AT.id = A ++ (t0.flat1.map AT.id ++ B) ∧ (flat (allAtA hid f l)).map AT.id = A ++ ((f t0).flat1.map AT.id ++ B) := by
  intro n
  induction n with
  | zero =>
    intro l hl _ ht
    have : flat l = [] := List.length_eq_zero_iff.mp (by omega)
    rw [this] at ht; cases ht
  | succ n ih =>
    intro l hl nd ht
    cases l with
    | nil => rw [flat_nil] at ht; cases ht
    | cons t r =>
      obtain ⟨n1, n2, n3, n4, n5⟩ := nd_parts nd
      rw [allAtA_cons]
      rw [flat_cons] at ht hl ⊢
      rw [List.length_cons, List.length_append] at hl
      have ef : ∀ s : AT, flat (s :: allAtA hid f r) = s.flat1 ++ flat (allAtA hid f r) := fun s => by conv => lhs; unfold flat
      rw [ef]
      rcases List.mem_cons.mp ht with e | e
      · subst e
        refine ⟨[], (flat r).map AT.id, ?_, ?_⟩
        · rw [flat1_eq]; simp
        · rw [at_of_id h0, at_none r (fun u hu => by rw [← h0]; exact n4 u hu)]; simp
      · rcases List.mem_append.mp e with e | e
        · obtain ⟨A, B, a1, a2⟩ := ih t.kids (by omega) n1 e
          have tne : t.id ≠ hid := by rw [← h0]; exact Ne.symm (n3 t0 e)
          refine ⟨t.id :: A, B ++ (flat r).map AT.id, ?_, ?_⟩
          · rw [List.map_cons, List.map_append, a1]; simp
          · have q := at_not_addr (f := f) tne
            rw [flat1_eq, q.2.2.2, at_none r (fun u hu => by rw [← h0]; exact Ne.symm (n5 t0 e u hu)), List.cons_append, List.map_cons, List.map_append, a2]
            show (t.at_ hid f).how.id :: _ = _
            rw [q.2.1]
            simp
        · obtain ⟨A, B, a1, a2⟩ := ih r (by omega) n2 e
          refine ⟨t.id :: ((flat t.kids).map AT.id ++ A), B, ?_, ?_⟩
          · rw [List.map_cons, List.map_append, a1]; simp
          · rw [at_none1 t (fun u hu => by
              rw [flat1_eq] at hu
              rw [← h0]
              rcases List.mem_cons.mp hu with z | z
              · rw [z]; exact Ne.symm (n4 t0 e)
              · exact n5 u z t0 e), List.map_append, a2, flat1_eq, List.map_cons]
            simp
theorem nd_mid {A B X X' : List Nat} (h : (A ++ (X ++ B)).Nodup) (hX : X'.Nodup) (hs : ∀ x ∈ X', x ∈ X) : (A ++ (X' ++ B)).Nodup := by
  rw [List.nodup_append] at h ⊢
  obtain ⟨h1, h2, h3⟩ := h
  rw [List.nodup_append] at h2 ⊢
  obtain ⟨h4, h5, h6⟩ := h2
  refine ⟨h1, ⟨hX, h5, fun a ha b hb => h6 a (hs a ha) b hb⟩, fun a ha b hb => h3 a ha b ?_⟩
  rcases List.mem_append.mp hb with z | z
  · exact List.mem_append_left _ (hs b z)
  · exact List.mem_append_right _ z
section
variable {C : Cs} {H H' : Hp} {p dx la : Addr} {ts : List AT} {ow : Addr → Nat} {g : House}
/-- a group's list is another -/
theorem PicAt.rehold (A : PicAt C H p dx la ts ow g) {ha hla lc : Addr} {hh : How} {hl hl' : List AT} (h0 : AT.group ha hla hh hl ∈ flat ts) (hsub : ∀ u ∈ flat hl', u ∈ flat hl) (hnd : ((flat hl').map AT.id).Nodup) (hlen : (flat hl').length ≤ (flat hl).length)
    (e1 : ∃ dg, H' ha = some (.ins C.G dg (grpF hh lc))) (e2 : H' lc = some (.lst (refs hl'))) (fr : H lc = none) (hK : ∀ b o, H b = some o → b ≠ ha → H' b = some o) :
    (∃ ow', PicAt C H' p dx la (allAtA hh.id (fun _ => AT.group ha lc hh hl') ts) ow' { g with nodes := nodes (allAtA hh.id (fun _ => AT.group ha lc hh hl') ts) } ∧ ∀ c, c ≠ lc → ow' c = ow c) ∧
      ∀ b ∈ foot p la (allAtA hh.id (fun _ => AT.group ha lc hh hl') ts), b ∈ foot p la ts ∨ H b = none := by
  have un : ∀ s ∈ flat ts, s.id = hh.id → s = AT.group ha hla hh hl := fun s hs e => A.uniq hs h0 e
  have hac : ha ∈ (AT.group ha hla hh hl).cells := by unfold AT.cells; exact List.mem_cons_self
  have frc : Fr [ha] H H' := fun b o e n => hK b o e fun q => n (by rw [q]; exact List.mem_cons_self)
  have nlc : ∀ u ∈ flat ts, lc ∉ u.cells := fun u hu q => by
    obtain ⟨o, e⟩ := (A.held u hu).some_of lc q
    rw [fr] at e; cases e
  have nlcp : lc ≠ p := fun q => by rw [q, A.self] at fr; cases fr
  have nlcl : lc ≠ la := fun q => by rw [q, A.lst] at fr; cases fr
  have keep : ∀ u ∈ flat ts, u.id ≠ hh.id → Own C H' u := fun u hu ne => (A.held u hu).fr frc fun c hc q => A.off hu h0 ne c hc (by rw [List.mem_singleton.mp q]; exact hac)
  have key : ∀ u ∈ flat (allAtA hh.id (fun _ => AT.group ha lc hh hl') ts), Own C H' u ∧ (∀ c ∈ u.cells, (if c = lc then hh.id + 1 else ow c) = u.id + 1) ∧ (∀ c ∈ u.cells, c = lc ∨ ∃ s ∈ flat ts, c ∈ s.cells) ∧ u.id < g.next := by
    intro u hu
    rcases mem_at ts hu with ⟨s, hs, es, hu'⟩ | ⟨s, hs, es, rfl⟩
    · rw [flat1_eq] at hu'
      rcases List.mem_cons.mp hu' with e | e
      · subst e
        refine ⟨⟨e1, e2⟩, fun c hc => ?_, fun c hc => ?_, A.lt (AT.group ha hla hh hl) h0⟩
        · unfold AT.cells at hc
          rcases List.mem_cons.mp hc with z | z
          · rw [z, if_neg (fun q => nlc _ h0 (by rw [← q]; exact hac))]
            exact A.owt _ h0 ha hac
          · rw [List.mem_singleton.mp z, if_pos rfl]; rfl
        · unfold AT.cells at hc
          rcases List.mem_cons.mp hc with z | z
          · exact .inr ⟨_, h0, by rw [z]; exact hac⟩
          · exact .inl (List.mem_singleton.mp z)
      · have e' : u ∈ flat hl := hsub u e
        have hm : u ∈ flat ts := flat_trans ts h0 e'
        refine ⟨keep u hm (A.kid_ne h0 e'), fun c hc => ?_, fun c hc => .inr ⟨u, hm, hc⟩, A.lt u hm⟩
        rw [if_neg (fun q => nlc u hm (by rw [← q]; exact hc))]
        exact A.owt u hm c hc
    · have q := at_not_addr (f := fun _ => AT.group ha lc hh hl') es
      refine ⟨own_at (keep s hs es) es (fun t ht e => ?_), fun c hc => ?_, fun c hc => ?_, ?_⟩
      · have := un t (kid_flat hs ht) e
        rw [this]; rfl
      · rw [q.2.2.1] at hc
        rw [if_neg (fun z => nlc s hs (by rw [← z]; exact hc))]
        show ow c = (s.at_ hh.id _).how.id + 1
        rw [q.2.1]
        exact A.owt s hs c hc
      · rw [q.2.2.1] at hc
        exact .inr ⟨s, hs, hc⟩
      · show (s.at_ hh.id _).how.id < g.next
        rw [q.2.1]; exact A.lt s hs
  obtain ⟨X, Y, x1, x2⟩ := ids_split (f := fun _ => AT.group ha lc hh hl') (t0 := AT.group ha hla hh hl) (hid := hh.id) rfl _ ts (Nat.le_refl _) A.ids h0
  have nd := A.ids
  rw [x1] at nd
  have hX : ((AT.group ha lc hh hl').flat1.map AT.id).Nodup := by
    rw [flat1_eq, List.map_cons, List.nodup_cons]
    refine ⟨fun z => ?_, hnd⟩
    obtain ⟨u, hu, e⟩ := List.mem_map.mp z
    exact A.kid_ne h0 (hsub u hu) e
  have hXs : ∀ x ∈ (AT.group ha lc hh hl').flat1.map AT.id, x ∈ (AT.group ha hla hh hl).flat1.map AT.id := by
    intro x hx
    rw [flat1_eq] at hx ⊢
    obtain ⟨u, hu, e⟩ := List.mem_map.mp hx
    rcases List.mem_cons.mp hu with z | z
    · rw [z] at e; rw [← e]; exact List.mem_map.mpr ⟨_, List.mem_cons_self, rfl⟩
    · rw [← e]; exact List.mem_map.mpr ⟨u, List.mem_cons_of_mem _ (hsub u z), rfl⟩
  refine ⟨⟨fun c => if c = lc then hh.id + 1 else ow c, ?_, fun c hc => if_neg hc⟩, ?_⟩
  · refine ⟨hK _ _ A.self (fun q => A.p_off h0 (by rw [q]; exact hac)), ?_, fun u hu => (key u hu).1, by rw [if_neg (Ne.symm nlcp)]; exact A.owp, by rw [if_neg (Ne.symm nlcl)]; exact A.owl, fun u hu => (key u hu).2.1, rfl, ?_, fun u hu => (key u hu).2.2.2, ?_, ?_, A.w1, A.w8, A.h1, A.h8⟩
    · rw [refs_at (fun t ht e => by rw [un t (mem_flat_self ht) e]; rfl)]
      exact hK _ _ A.lst (fun q => A.la_off h0 (by rw [q]; exact hac))
    · rw [x2]; exact nd_mid nd hX hXs
    · have l1 := congrArg List.length x1
      have l2 := congrArg List.length x2
      rw [flat1_eq] at l1 l2
      simp only [List.length_map, List.length_append, List.length_cons] at l1 l2
      have l3 := A.cnt
      have k1 : (AT.group ha hla hh hl).kids = hl := rfl
      have k2 : (AT.group ha lc hh hl').kids = hl' := rfl
      rw [k1] at l1
      rw [k2] at l2
      omega
    · refine good_at ts A.good (fun s hs e => ?_)
      have gd := good_mem ts A.good _ h0
      rw [node_group] at gd ⊢
      unfold NGood at gd ⊢
      refine ⟨gd.1, LGood_mem.mpr fun z hz => ?_⟩
      rw [nodes_map] at hz
      obtain ⟨u, hu, rfl⟩ := List.mem_map.mp hz
      exact good_mem ts A.good u (flat_trans ts h0 (hsub u (mem_flat_self hu)))
  · intro b hb
    rcases foot_cases hb with e | e | ⟨u, hu, hc⟩
    · rw [e]; exact .inl mem_foot_p
    · rw [e]; exact .inl mem_foot_la
    · rcases (key u hu).2.2.1 b hc with z | ⟨s, hs, z⟩
      · rw [z]; exact .inr fr
      · exact .inl (mem_foot_t hs z)
/-- the picture's own list is another -/
theorem PicAt.repic (A : PicAt C H p dx la ts ow g) {lc : Addr} {hl' : List AT} (hsub : ∀ u ∈ flat hl', u ∈ flat ts) (hnd : ((flat hl').map AT.id).Nodup) (hlen : (flat hl').length ≤ (flat ts).length)
    (e1 : H' p = some (.ins C.P dx (picF g.w g.h lc g.next))) (e2 : H' lc = some (.lst (refs hl'))) (fr : H lc = none) (hK : ∀ b o, H b = some o → b ≠ p → H' b = some o) :
    (∃ ow', PicAt C H' p dx lc hl' ow' { g with nodes := nodes hl' } ∧ ∀ c, c ≠ lc → ow' c = ow c) ∧ ∀ b ∈ foot p lc hl', b ∈ foot p la ts ∨ H b = none := by
  have nlc : ∀ u ∈ flat ts, lc ∉ u.cells := fun u hu q => by
    obtain ⟨o, e⟩ := (A.held u hu).some_of lc q
    rw [fr] at e; cases e
  have nlcp : lc ≠ p := fun q => by rw [q, A.self] at fr; cases fr
  refine ⟨⟨fun c => if c = lc then 0 else ow c, ?_, fun c hc => if_neg hc⟩, ?_⟩
  · refine ⟨e1, e2, fun u hu => ?_, by rw [if_neg (Ne.symm nlcp)]; exact A.owp, by rw [if_pos rfl], fun u hu c hc => ?_, rfl, hnd, fun u hu => A.lt u (hsub u hu), Nat.le_trans hlen A.cnt, ?_, A.w1, A.w8, A.h1, A.h8⟩
    · exact (A.held u (hsub u hu)).fr (F := [p]) (fun b o e n => hK b o e fun q => n (by rw [q]; exact List.mem_cons_self)) fun c hc q => A.p_off (hsub u hu) (by rw [← List.mem_singleton.mp q]; exact hc)
    · rw [if_neg (fun q => nlc u (hsub u hu) (by rw [← q]; exact hc))]
      exact A.owt u (hsub u hu) c hc
    · refine LGood_mem.mpr fun z hz => ?_
      rw [nodes_map] at hz
      obtain ⟨u, hu, rfl⟩ := List.mem_map.mp hz
      exact good_mem ts A.good u (hsub u (mem_flat_self hu))
  · intro b hb
    rcases foot_cases hb with e | e | ⟨u, hu, hc⟩
    · rw [e]; exact .inl mem_foot_p
    · rw [e]; exact .inr fr
    · exact .inl (mem_foot_t (hsub u hu) hc)
end
end Lay
set_option Elab.async false
set_option linter.all false
set_option maxRecDepth 100000
set_option maxHeartbeats 2000000
namespace Lay
open PySem PySem.Spec PyProof.Rows L2
open Sq49 (Node How House says offset)
open LFrac (NGood LGood HGood)
theorem put_grpThings (h : How) (la lb : Addr) : putF "things" (.ref lb) (grpF h la) = grpF h lb := by
  unfold grpF thF
  simp only [List.cons_append, List.nil_append]
  repeat (first | rw [put_here] | rw [put_past (by decide +kernel)])
theorem hasId_iff {i : Nat} {l : List AT} : hasId i l = true ↔ ∃ t ∈ l, t.id = i := by
  unfold hasId
  rw [List.any_eq_true]
  exact ⟨fun ⟨t, h1, h2⟩ => ⟨t, h1, beq_iff_eq.mp h2⟩, fun ⟨t, h1, h2⟩ => ⟨t, h1, beq_iff_eq.mpr h2⟩⟩
theorem idx_some {i : Nat} {l : List AT} (h : hasId i l = true) : ∃ pl t, l.findIdx? (fun t => t.id == i) = some pl ∧ l[pl]? = some t ∧ t.id = i := by
  cases e : l.findIdx? (fun t => t.id == i) with
  | none => rw [← idx_any, e] at h; cases h
  | some pl =>
    obtain ⟨h1, h2, _⟩ := List.findIdx?_eq_some_iff_getElem.mp e
    exact ⟨pl, l[pl], rfl, List.getElem?_eq_getElem h1, beq_iff_eq.mp h2⟩
theorem flat_sublist : ∀ {l m : List AT}, List.Sublist l m → List.Sublist (flat l) (flat m) := by
  intro l m h
  induction h with
  | slnil => exact List.Sublist.refl _
  | cons a h ih => rw [flat_cons]; exact List.Sublist.cons _ (ih.trans (List.sublist_append_right _ _))
  | cons_cons a h ih => rw [flat_cons, flat_cons]; exact List.Sublist.cons_cons _ (List.Sublist.append (List.Sublist.refl _) ih)
/-- the list without one of its things, with some that were in it instead -/
theorem flat_put {l X : List AT} {pl : Nat} {t : AT} (ht : l[pl]? = some t) (hX : List.Sublist (flat X) (flat t.kids)) : List.Sublist (flat (l.take pl ++ X ++ l.drop (pl + 1))) (flat l) := by
  have e1 : l = l.take pl ++ (t :: l.drop (pl + 1)) := by
    obtain ⟨hl, ht⟩ := List.getElem?_eq_some_iff.mp ht
    rw [← ht, ← List.drop_eq_getElem_cons hl, List.take_append_drop]
  conv => rhs; rw [e1, flat_append, flat_cons]
  rw [flat_append, flat_append, List.append_assoc]
  exact List.Sublist.append (List.Sublist.refl _) (List.Sublist.cons _ (List.Sublist.append hX (List.Sublist.refl _)))
theorem flat1_in {ts : List AT} {t u : AT} (tm : t ∈ flat ts) (hu : u ∈ t.flat1) : u ∈ flat ts := by
  rw [flat1_eq] at hu
  rcases List.mem_cons.mp hu with y | y
  · rw [y]; exact tm
  · exact flat_trans ts tm y
theorem flat_split {l : List AT} {pl : Nat} {t : AT} (ht : l[pl]? = some t) : (flat l).map AT.id = (flat (l.take pl)).map AT.id ++ (t.flat1.map AT.id ++ (flat (l.drop (pl + 1))).map AT.id) := by
  have e1 : l = l.take pl ++ (t :: l.drop (pl + 1)) := by
    obtain ⟨hl, ht⟩ := List.getElem?_eq_some_iff.mp ht
    rw [← ht, ← List.drop_eq_getElem_cons hl, List.take_append_drop]
  conv => lhs; rw [e1, flat_append, flat_cons]
  rw [flat1_eq]
  simp
theorem filter_one {l : List AT} {pl : Nat} {t : AT} {i : Nat} (nd : (l.map AT.id).Nodup) (ht : l[pl]? = some t) (hi : t.id = i) : l.filter (fun t => t.id != i) = l.take pl ++ l.drop (pl + 1) := by
  have e1 : l = l.take pl ++ (t :: l.drop (pl + 1)) := by
    obtain ⟨hl, ht⟩ := List.getElem?_eq_some_iff.mp ht
    rw [← ht, ← List.drop_eq_getElem_cons hl, List.take_append_drop]
  have nd' := nd
  rw [e1, List.map_append, List.map_cons, List.nodup_append, List.nodup_cons] at nd'
  obtain ⟨n1, ⟨n2, n3⟩, n4⟩ := nd'
  conv => lhs; rw [e1, List.filter_append]
  rw [List.filter_cons_of_neg (by rw [hi]; simp)]
  rw [List.filter_eq_self.mpr (fun v hv => bne_iff_ne.mpr fun e => n4 v.id (List.mem_map.mpr ⟨v, hv, rfl⟩) t.id List.mem_cons_self (by rw [e, hi]))]
  rw [List.filter_eq_self.mpr (fun v hv => bne_iff_ne.mpr fun e => n2 (by rw [hi, ← e]; exact List.mem_map.mpr ⟨v, hv, rfl⟩))]
section
variable {K : PySem.W.Frag} {mg : Str → Option Value} {C : Cs} {H : Hp} {p dx la : Addr} {ts : List AT} {ow : Addr → Nat} {g : House}
/-- where a thing stands, and what it is to change that list -/
theorem hold_done (A : PicAt C H p dx la ts ow g) (T : Tx K mg C) {t : AT} {i : Nat} (tm : t ∈ flat ts) (tid : t.id = i) :
    ∃ (hA : Addr) (hl : List AT) (pl : Nat) (D dg : Addr) (fs : List (Str × V)) (lb : Addr), (holders p ts).find? (fun h => hasId i h.2) = some (hA, hl) ∧ hl[pl]? = some t ∧ hl.findIdx? (fun t => t.id == i) = some pl ∧
      H hA = some (.ins D dg fs) ∧ Cls K D ∧ NoAttr K D "things" ∧ fs.lookup ("things" : Str) = some (.ref lb) ∧ H lb = some (.lst (refs hl)) ∧ fs.length ≤ 10 ∧ (∀ x ∈ hl, x ∈ flat ts) ∧ hl.length ≤ 10 ∧ hA ∈ foot p la ts ∧ hA ≠ t.addr ∧ lb ∉ t.cells ∧ (∀ u ∈ t.flat1, hA ∉ u.cells) ∧ (hl.map AT.id).Nodup ∧
      ∀ (R : Node → List Node) (X : List AT) (H' : Hp) (lc : Addr), nodes X = R t.node → List.Sublist (flat X) (flat t.kids) → H' hA = some (.ins D dg (putF "things" (.ref lc) fs)) → H' lc = some (.lst (refs (hl.take pl ++ X ++ hl.drop (pl + 1)))) → H lc = none →
        (∀ b o, H b = some o → b ≠ hA → H' b = some o) → ∃ la' ts' ow', PicAt C H' p dx la' ts' ow' { g with nodes := replL i R g.nodes } ∧ (∀ b ∈ foot p la' ts', b ∈ foot p la ts ∨ H b = none) ∧ (∀ c, c ≠ lc → ow' c = ow c) ∧
          (∃ A B, (flat ts).map AT.id = A ++ (t.flat1.map AT.id ++ B) ∧ (flat ts').map AT.id = A ++ ((flat X).map AT.id ++ B)) ∧ (X = [] → refs ts' = refs (ts.filter fun t => t.id != i)) := by
  by_cases top : hasId i ts = true
  · obtain ⟨pl, t', h1, h2, h3⟩ := idx_some top
    have et : t' = t := A.uniq (mem_flat_self (List.mem_of_getElem? h2)) tm (by rw [h3, tid])
    subst et
    refine ⟨p, ts, pl, C.P, dx, _, la, ?_, h2, h1, A.self, T.cP, T.nPt, picF_things .., A.lst, (by show 4 ≤ 10; decide), fun x hx => mem_flat_self hx, Nat.le_trans (List.Sublist.length_le (top_sub ts)) A.cnt, mem_foot_p, fun z => A.p_off tm (by rw [z]; exact addr_mem _), A.la_off tm, fun u hu => A.p_off (flat1_in tm hu), A.ids.sublist ((top_sub ts).map _), ?_⟩
    · unfold holders
      rw [List.find?_cons_of_pos (by exact top)]
    · intro R X H' lc hX hs e1 e2 fr hK
      rw [put_picThings] at e1
      have sl := flat_put h2 hs
      have nl : replL i R g.nodes = nodes (ts.take pl ++ X ++ ts.drop (pl + 1)) := by
        rw [A.ns, repl_here A.ids h2 h3, nodes_append, nodes_append, hX, List.append_assoc]
      obtain ⟨⟨ow', q1, q3⟩, q2⟩ := A.repic (H' := H') (lc := lc) (hl' := ts.take pl ++ X ++ ts.drop (pl + 1)) (fun u hu => sl.subset hu) (A.ids.sublist (sl.map _)) sl.length_le e1 e2 fr hK
      rw [← nl] at q1
      refine ⟨lc, _, ow', q1, q2, q3, ⟨_, _, flat_split h2, by rw [flat_append, flat_append, List.map_append, List.map_append, List.append_assoc]⟩, fun eX => ?_⟩
      rw [eX, List.append_nil, filter_one (A.ids.sublist ((top_sub ts).map _)) h2 h3]
  · rcases flat_up ts tm with h | ⟨u, hu, hg, hk⟩
    · exact absurd (hasId_iff.mpr ⟨t, h, tid⟩) top
    · cases u with
      | layer => cases hg
      | group ha hla hh hl =>
        have hk' : t ∈ hl := hk
        have hin : hasId i hl = true := hasId_iff.mpr ⟨t, hk', tid⟩
        obtain ⟨pl, t', h1, h2, h3⟩ := idx_some hin
        have et : t' = t := A.uniq (kid_flat hu (List.mem_of_getElem? h2)) tm (by rw [h3, tid])
        subst et
        have ho := A.held _ hu
        obtain ⟨⟨dg, o1⟩, o2⟩ := ho
        have only : ∀ v ∈ flat ts, v.id ≠ hh.id → ∀ k ∈ v.kids, k.id ≠ i := fun v hv ne k hk2 e => ne (one_holder _ ts (Nat.le_refl _) A.ids hv hu hk2 hk (by rw [e, tid]))
        have tne : t'.id ≠ hh.id := A.kid_ne hu (mem_flat_self hk')
        have off := A.off hu tm (Ne.symm tne)
        refine ⟨ha, hl, pl, C.G, dg, _, hla, ?_, h2, h1, o1, T.iG.cl, T.nGt, grpF_things .., o2, (by show 6 ≤ 10; decide), fun x hx => kid_flat hu hx, ?_, mem_foot_t hu (by unfold AT.cells; exact List.mem_cons_self), fun z => off ha (by unfold AT.cells; exact List.mem_cons_self) (by rw [z]; exact addr_mem _), off hla (by unfold AT.cells; exact List.mem_cons_of_mem _ List.mem_cons_self), ?_, ?_, ?_⟩
        · unfold holders
          rw [List.find?_cons_of_neg (by exact top)]
          have e : ∀ (L : List AT), (∀ v ∈ L, v ∈ flat ts) → AT.group ha hla hh hl ∈ L → List.find? (fun h => hasId i h.2) ((L.filter AT.isG).map fun g => (g.addr, g.kids)) = some (ha, hl) := by
            intro L
            induction L with
            | nil => intro _ h; cases h
            | cons v r ih =>
              intro hs hm
              by_cases c : v.isG = true
              · rw [List.filter_cons_of_pos c, List.map_cons]
                by_cases c2 : hasId i v.kids = true
                · rw [List.find?_cons_of_pos (by exact c2)]
                  obtain ⟨k, hk2, ek⟩ := hasId_iff.mp c2
                  have : v.id = hh.id := by
                    by_cases z : v.id = hh.id
                    · exact z
                    · exact absurd ek (only v (hs v List.mem_cons_self) z k hk2)
                  have := A.uniq (hs v List.mem_cons_self) hu this
                  rw [this]; rfl
                · rw [List.find?_cons_of_neg (by exact c2)]
                  rcases List.mem_cons.mp hm with z | z
                  · rw [← z] at c2; exact absurd hin c2
                  · exact ih (fun v hv => hs v (List.mem_cons_of_mem _ hv)) z
              · rw [List.filter_cons_of_neg c]
                rcases List.mem_cons.mp hm with z | z
                · rw [← z] at c; exact absurd rfl c
                · exact ih (fun v hv => hs v (List.mem_cons_of_mem _ hv)) z
          exact e (flat ts) (fun v hv => hv) hu
        · have a1 := (subl ts hu).length_le
          have a2 := List.Sublist.length_le (top_sub hl)
          have a3 := A.cnt
          rw [List.length_cons, show (AT.group ha hla hh hl).kids = hl from rfl] at a1
          omega
        · intro u hu2 z
          have hin2 : u ∈ flat hl := by
            rw [flat1_eq] at hu2
            rcases List.mem_cons.mp hu2 with y | y
            · rw [y]; exact mem_flat_self hk'
            · exact mem_flat_kids hk' y
          exact A.off hu (flat_trans ts hu hin2) (Ne.symm (A.kid_ne hu hin2)) ha (by unfold AT.cells; exact List.mem_cons_self) z
        · have := A.ids.sublist ((subl ts hu).map AT.id)
          rw [List.map_cons, List.nodup_cons] at this
          exact this.2.sublist ((top_sub hl).map _)
        · intro R X H' lc hX hs e1 e2 fr hK
          rw [put_grpThings] at e1
          have sl := flat_put h2 hs
          have hnd : ((flat hl).map AT.id).Nodup := by
            have := A.ids.sublist ((subl ts hu).map AT.id)
            rw [List.map_cons, List.nodup_cons] at this
            exact this.2
          have h9 : replL i R (nodes hl) = nodes (hl.take pl ++ X ++ hl.drop (pl + 1)) := by
            rw [repl_here hnd h2 h3, nodes_append, nodes_append, hX, List.append_assoc]
          have nl : replL i R g.nodes = nodes (allAtA hh.id (fun _ => AT.group ha lc hh (hl.take pl ++ X ++ hl.drop (pl + 1))) ts) := by
            rw [A.ns, repl_in (t0 := AT.group ha hla hh hl) (hh := hh) (hid := hh.id) (node_group ..) rfl (fun z => tne (by rw [z, tid])) h9 _ ts (Nat.le_refl _) (fun v hv e => A.uniq hv hu e) only (fun v hv e => top (hasId_iff.mpr ⟨v, hv, e⟩))]
            rw [at_nodes (F := fun _ => Node.group hh (nodes (hl.take pl ++ X ++ hl.drop (pl + 1)))) ts (fun v hv e => node_group ..)]
          obtain ⟨⟨ow', q1, q3⟩, q2⟩ := A.rehold (H' := H') (lc := lc) (hl' := hl.take pl ++ X ++ hl.drop (pl + 1)) hu (fun u hu => sl.subset hu) (hnd.sublist (sl.map _)) sl.length_le ⟨dg, e1⟩ e2 fr hK
          rw [← nl] at q1
          refine ⟨la, _, ow', q1, q2, q3, ?_, fun _ => ?_⟩
          · obtain ⟨A0, B0, x1, x2⟩ := ids_split (f := fun _ => AT.group ha lc hh (hl.take pl ++ X ++ hl.drop (pl + 1))) (t0 := AT.group ha hla hh hl) (hid := hh.id) rfl _ ts (Nat.le_refl _) A.ids hu
            refine ⟨A0 ++ (hh.id :: (flat (hl.take pl)).map AT.id), (flat (hl.drop (pl + 1))).map AT.id ++ B0, ?_, ?_⟩
            · rw [x1, flat1_eq, List.map_cons, show (AT.group ha hla hh hl).kids = hl from rfl, flat_split h2]
              simp
              rfl
            · rw [x2, flat1_eq, List.map_cons, show (AT.group ha lc hh (hl.take pl ++ X ++ hl.drop (pl + 1))).kids = hl.take pl ++ X ++ hl.drop (pl + 1) from rfl, flat_append, flat_append, List.map_append, List.map_append]
              simp
              rfl
          · have ef : ts.filter (fun t => t.id != i) = ts := List.filter_eq_self.mpr fun v hv => by
              have : v.id ≠ i := fun e => top (hasId_iff.mpr ⟨v, hv, e⟩)
              exact bne_iff_ne.mpr this
            rw [ef, refs_at (fun v hv e => by rw [A.uniq (mem_flat_self hv) hu e]; rfl)]
end
section
variable {P : Program} {w : World} {K : PySem.W.Frag} {mg : Str → Option Value} {base : Heap} {C : Cs}
def spOpen (C : Cs) : Sp := fun vs H Q _ => ∃ (p : Addr) (i : Nat), vs = [.ref p, .int i] ∧ Prom C p (.open_ i) H Q
theorem scOpen : FnScope ["picture", "number", "group", "holder", "place"] ["picture", "number"] (C8.fnScope sOpen) := C8.fnScope_by (by decide +kernel)
theorem open_ok (R : Raw K mg "open_group" sOpen ["picture", "number"]) (T : Tx K mg C) (M : Nm mg) (cF : C8.Cal P w K mg base (DEEP + 1) "find_thing" (spFind K C) []) (cH : C8.Cal P w K mg base (DEEP + 1) "holder_of" (spHolder K C) []) (cP : C8.Cal P w K mg base 1 "place_of" (spPlace K C) []) :
    C8.Cal P w K mg base (DEEP + 2) "open_group" (spOpen C) [] := by
  refine R.cal scOpen (fun vs H Q E h => ?_) (fun f cdv A outer s H vs Q E hr h => ?_)
  · obtain ⟨p, i, rfl, _⟩ := h
    rfl
  · obtain ⟨p, i, rfl, g, F, S, k⟩ := h
    refine ⟨_, pss_cons (ps_set (i := 2) scOpen.nd rfl (Or.inl rfl) (C8.pe_c cF hr (Nat.le_refl _) (by rfl) (pa_cons (pv 0) (pa_cons (pv 1) pa_nil))))
      (pss_cons (ps_if (pt_cmpR op_isN (pv 2) pe_non (nomark _)) (pss_one (ps_ret (pe_num (by rfl) M.no))) pss_nil)
      (pss_cons (ps_if (pt_not (pt_val (pe_callB call_isi (by rfl) T.zisi boot_isi (pa_cons (pv 2) (pa_cons (pe_ref (by rfl) T.gG) pa_nil))))) (pss_one (ps_ret (pe_num (by rfl) M.unfit))) pss_nil)
      (pss_cons (ps_set (i := 3) scOpen.nd rfl (Or.inl rfl) (C8.pe_c cH hr (Nat.le_refl _) (by rfl) (pa_cons (pv 0) (pa_cons (pv 1) pa_nil))))
      (pss_cons (ps_set (i := 4) scOpen.nd rfl (Or.inl rfl) (C8.pe_c cP hr (by decide) (by rfl) (pa_cons (pv 3) (pa_cons (pv 1) pa_nil))))
      (pss_cons (ps_fld (pv 3) (pe_op op_cat (pe_op op_cat (pe_slice sl_list (pe_fld (pv 3) rfl) po_none (po_some (pv 4))) (pe_fld (pv 2) rfl)) (pe_slice sl_list (pe_fld (pv 3) rfl) (po_some (pe_op op_add (pv 4) pe_int)) po_none)) rfl)
      (pss_one (ps_ret (pe_callB call_len_seq (by rfl) T.zlen PySem.boot_len (pa_cons (pe_fld (pv 2) rfl) pa_nil))))))))), ?_⟩
    obtain ⟨dx, la, ts, ow, A', hF⟩ := S
    have S' : State C H p g F := ⟨dx, la, ts, ow, A', hF⟩
    refine ⟨_, rfl, _, rfl, p, la, ts, i, rfl, A'.holder T, A'.held, A'.deep, A'.few, fun H1 s1 => ?_⟩
    refine ⟨_, rfl, rfl, _, rfl, ?_⟩
    rw [foundV_non]
    have es : g.step (.open_ i) = g.found i fun n => match n with
        | .layer _ _ _ _ _ _ => (g, says (-3))
        | .group _ l => (g.to (Node.allOpened i g.nodes), says l.length) := rfl
    unfold House.found at es
    rw [found_of A' i] at es
    cases e : (flat ts).find? (fun t => t.id == i) with
    | none =>
      rw [e] at es
      exact iteT (refused S' k es s1)
    | some t =>
      rw [e] at es
      refine iteF ?_
      have tm : t ∈ flat ts := List.mem_of_find?_eq_some e
      have tid : t.id = i := by
        have z := List.find?_some e
        exact beq_iff_eq.mp z
      have ot := (A'.held t tm).same s1
      obtain ⟨ty, h1, h2⟩ := own_isG T ot
      refine ⟨_, rfl, _, _, ty, _, _, rfl, .own C.G, h1, h2, _, rfl, ?_⟩
      cases t with
      | layer ta tpa th tx ty' tw tht tpx =>
        rw [Option.map_some, node_layer] at es
        exact iteT (refused S' k es s1)
      | group ta tla th tl =>
        rw [Option.map_some, node_group] at es
        refine iteF ?_
        obtain ⟨hA, hl, pl, D, dg, fs, lb, f1, f2, f3, f4, f5, f6, f7, f8, f9, f10, f11, f12, f13, f14, f15, f16, fin⟩ := hold_done A' T tm tid
        have A1 := A'.same s1
        refine ⟨_, rfl, _, rfl, p, la, ts, i, rfl, A1.holder T, A1.held, A1.deep, A1.few, fun H2 s2 => ?_⟩
        have s12 := s1.trans s2
        rw [f1]
        refine ⟨_, rfl, _, rfl, hA, lb, hl, i, rfl, ⟨D, dg, fs, s12 _ _ f4, f5, f6, f7, s12 _ _ f8⟩, fun x hx => (A'.held x (f10 x hx)).same s12, fun H3 s3 => ?_⟩
        have s13 := s12.trans s3
        rw [f3]
        have hpl : pl < hl.length := (List.getElem?_eq_some_iff.mp f2).1
        have o3 := (A'.held _ tm).same s13
        obtain ⟨⟨dt, o3a⟩, o3b⟩ := o3
        -- holder.things[:place]
        refine ⟨_, rfl, hA, D, dg, fs, _, rfl, s13 _ _ f4, f5, f6, f7, _, rfl, _, rfl, lb, _, rfl, SqL.of (s13 _ _ f8), fun c1 hc1 => ?_⟩
        rw [cut_to (by rw [refs_length]; omega), refs_take]
        have s4 := same_new hc1 (.lst (refs (hl.take pl)))
        have e4 : upd H3 c1 (.lst (refs (hl.take pl))) c1 = some (.lst (refs (hl.take pl))) := upd_same
        generalize upd H3 c1 (.lst (refs (hl.take pl))) = H4 at *
        -- + group.things
        have tll : tl.length ≤ 10 := by
          have a1 := (subl ts tm).length_le
          have a2 := List.Sublist.length_le (top_sub tl)
          have a3 := A'.cnt
          rw [List.length_cons, show (AT.group ta tla th tl).kids = tl from rfl] at a1
          omega
        have tkl : (hl.take pl).length ≤ 10 := by rw [List.length_take]; omega
        refine ⟨_, rfl, ta, C.G, dt, _, _, rfl, s4 _ _ o3a, T.iG.cl, T.nGt, grpF_things .., c1, tla, _, _, rfl, rfl, e4, s4 _ _ o3b, (by rw [refs_length, refs_length]; exact Nat.le_of_lt (small1000 (by omega))), fun c2 hc2 => ?_⟩
        rw [← refs_append]
        have s5 := same_new hc2 (.lst (refs (hl.take pl ++ tl)))
        have e5 : upd H4 c2 (.lst (refs (hl.take pl ++ tl))) c2 = some (.lst (refs (hl.take pl ++ tl))) := upd_same
        generalize upd H4 c2 (.lst (refs (hl.take pl ++ tl))) = H5 at *
        have s15 : Same H H5 := (s13.trans s4).trans s5
        -- + holder.things[place + 1:]
        refine ⟨_, rfl, hA, D, dg, fs, _, rfl, s15 _ _ f4, f5, f6, f7, _, rfl, _, _, rfl, rfl, _, rfl, lb, _, rfl, SqL.of (s15 _ _ f8), fun c3 hc3 => ?_⟩
        have ee : cutV (refs hl) (some ((pl : Int) + 1)) none = refs (hl.drop (pl + 1)) := by
          have z := cut_from (xs := refs hl) (a := pl + 1) (by rw [refs_length]; omega)
          rw [refs_drop] at z
          exact z
        have s6 : Same H5 (upd H5 c3 (.lst (cutV (refs hl) (some ((pl : Int) + 1)) none))) := same_new hc3 _
        have e6 : upd H5 c3 (.lst (cutV (refs hl) (some ((pl : Int) + 1)) none)) c3 = some (.lst (refs (hl.drop (pl + 1)))) := by rw [upd_same, ee]
        generalize hH6 : upd H5 c3 (.lst (cutV (refs hl) (some ((pl : Int) + 1)) none)) = H6 at *
        have dl : (hl.drop (pl + 1)).length ≤ 10 := by rw [List.length_drop]; omega
        refine ⟨c2, c3, _, _, rfl, rfl, s6 _ _ e5, e6, (by rw [refs_length, refs_length, List.length_append]; exact Nat.le_of_lt (small1000 (by omega))), fun lc hlc => ?_⟩
        rw [← refs_append]
        have s7 := same_new hlc (.lst (refs (hl.take pl ++ tl ++ hl.drop (pl + 1))))
        have e7 : upd H6 lc (.lst (refs (hl.take pl ++ tl ++ hl.drop (pl + 1)))) lc = some (.lst (refs (hl.take pl ++ tl ++ hl.drop (pl + 1)))) := upd_same
        generalize upd H6 lc (.lst (refs (hl.take pl ++ tl ++ hl.drop (pl + 1)))) = H7 at *
        have s17 : Same H H7 := (s15.trans s6).trans s7
        refine ⟨_, rfl, hA, D, dg, fs, rfl, s17 _ _ f4, f5, f6, by omega, ?_⟩
        have nlc : lc ≠ hA := ne_of e7 (s17 _ _ f4) (by intro z; cases z)
        have flc : H lc = none := (s15.trans s6).free hlc
        have hK : ∀ b o, H b = some o → b ≠ hA → upd H7 hA (.ins D dg (putF "things" (.ref lc) fs)) b = some o := fun b o e n => by rw [upd_ne n]; exact s17 _ _ e
        have o7a : H7 ta = some (.ins C.G dt (grpF th tla)) := s17 _ _ (by
          have := (A'.held _ tm).1
          obtain ⟨dt', q⟩ := this
          have q2 := s13 _ _ q
          rw [o3a] at q2
          cases q2
          exact q)
        refine ⟨_, rfl, ta, C.G, dt, _, _, rfl, by rw [upd_ne (show ta ≠ hA from Ne.symm f13)]; exact o7a, T.iG.cl, T.nGt, grpF_things .., tla, _, rfl, .inl (SqL.of (hK _ _ (A'.held _ tm).2 ?_)), ?_⟩
        · intro z
          have := (A'.held _ tm).2
          rw [z, f4] at this
          cases this
        obtain ⟨la2, ts2, ow2, st1, st2, _⟩ := fin Ropen tl (upd H7 hA (.ins D dg (putF "things" (.ref lc) fs))) lc (by rw [node_group]; rfl) (List.Sublist.refl _) upd_same (by rw [upd_ne nlc]; exact e7) flc hK
        rw [← open_repl] at st1
        have st : State C (upd H7 hA (.ins D dg (putF "things" (.ref lc) fs))) p _ (fun b => b ∈ foot p la ts ∨ H b = none) := ⟨dx, la2, ts2, ow2, st1, st2⟩
        have q := k (upd H7 hA (.ins D dg (putF "things" (.ref lc) fs)))
        rw [es] at q
        rw [refs_length]
        have nl2 : (nodes tl).length = tl.length := by rw [nodes_map, List.length_map]
        have q2 := q (st.mono fun b hb => hb.imp (fun z => hF b z) id) (fun b o eb nF => hK b o eb fun z => nF (by rw [z]; exact hF _ f12)) rfl
        have q3 : Q (.int ((nodes tl).length : Int)) (upd H7 hA (.ins D dg (putF "things" (.ref lc) fs))) := q2
        rw [nl2] at q3
        exact q3
end
end Lay
set_option Elab.async false
set_option linter.all false
set_option maxRecDepth 100000
set_option maxHeartbeats 2000000
namespace Lay
open PySem PySem.Spec PyProof.Rows L2
open Sq49 (Node How House says offset)
open LFrac (NGood LGood HGood)
abbrev sTakeOut : Stmt := topS 14
abbrev sDrop : Stmt := topS 50
abbrev sLift : Stmt := topS 51
section
variable {P : Program} {w : World} {K : PySem.W.Frag} {mg : Str → Option Value} {base : Heap} {C : Cs}
theorem int_neN (a b : Nat) : (!decide (V.int (a : Int) = V.int (b : Int))) = (a != b) := by rw [int_eq_nat]; rfl
def spTakeOut (K : PySem.W.Frag) (C : Cs) : Sp := fun vs H Q _ => ∃ (a Dc dx la : Addr) (fs : List (Str × V)) (ts : List AT) (i : Nat), vs = [.ref a, .int i] ∧ H a = some (.ins Dc dx fs) ∧ Cls K Dc ∧ NoAttr K Dc "things" ∧ fs.lookup ("things" : Str) = some (.ref la) ∧ fs.length ≤ 10 ∧ H la = some (.lst (refs ts)) ∧ (∀ t ∈ ts, Own C H t) ∧ ts.length ≤ 100 ∧
  ∀ H1 lc, Same H H1 → H lc = none → H1 lc = some (.lst (refs (ts.filter fun t => t.id != i))) → Q .non (upd H1 a (.ins Dc dx (putF "things" (.ref lc) fs)))
theorem scTakeOut : FnScope ["holder", "number", "thing"] ["holder", "number"] (C8.fnScope sTakeOut) := C8.fnScope_by (by decide +kernel)
theorem takeout_ok (R : Raw K mg "take_out" sTakeOut ["holder", "number"]) (T : Tx K mg C) : C8.Cal P w K mg base 1 "take_out" (spTakeOut K C) [] := by
  refine R.cal scTakeOut (fun vs H Q E h => ?_) (fun f cdv A outer s H vs Q E hr h => ?_)
  · obtain ⟨a, Dc, dx, la, fs, ts, i, rfl, _⟩ := h
    rfl
  · obtain ⟨a, Dc, dx, la, fs, ts, i, rfl, e1, e2, e3, e4, e5, e6, hT, hsz, k⟩ := h
    refine ⟨_, pss_one (ps_fld (pv 0) (pe_lc (own := [("thing", 2)]) (g := gName 2) (tt := tTest (tOp rNe (tFld K (tVar 2) "number") (tVar 1))) (te := tVar 2) rfl scTakeOut.nd (pi_list (pe_fld (pv 0) rfl))
        (blkOk_by (own := [("thing", 2)]) (N := ["holder", "number", "thing"]) (sc := C8.fnScope sTakeOut) (by decide +kernel)) (fun _ _ _ _ _ => pg_name (i := 2) scTakeOut.nd rfl (Or.inl rfl))
        (fun _ _ _ _ _ => pts_one (pt_cmpR op_ne (pe_fld (pv 2) rfl) (pv 1) (nomark _))) (fun _ _ _ _ _ => pv 2)) rfl), ?_⟩
    refine ⟨_, rfl, a, Dc, dx, fs, _, rfl, e1, e2, e3, e4, la, rfl, ⟨_, SqL.of e6⟩, fun L hL => lc_list (K := K) (a := la) (xs := refs ts) (fun n H' => Same H H' ∧ H' L = some (.lst (refs ((ts.take n).filter fun t => t.id != i))))
      ⟨same_new hL _, by rw [List.take_zero]; exact upd_same⟩ (fun n H' _ h => SqL.of (h.1 _ _ e6)) ?_ ?_⟩
    · rintro n y H' hi ⟨s2, hL'⟩
      obtain ⟨t, ht, rfl⟩ := refs_get hi
      have tm : t ∈ ts := List.mem_of_getElem? ht
      obtain ⟨Db, dy, gs, x1, x2, x3, x4⟩ := own_number T ((hT t tm).same s2)
      have hl : ((ts.take n).filter fun t => t.id != i).length ≤ 100 := by
        have a1 := List.length_filter_le (fun t : AT => t.id != i) (ts.take n)
        rw [List.length_take] at a1
        omega
      have hs : (ts.take (n + 1)).filter (fun t => t.id != i) = (ts.take n).filter (fun t => t.id != i) ++ [t].filter (fun t => t.id != i) := by rw [take_snoc ht, List.filter_append]
      refine ⟨rfl, _, rfl, t.addr, Db, dy, gs, _, rfl, x1, x2, x3, x4, _, rfl, rfl, _, rfl, ?_⟩
      rw [int_neN]
      cases e : (t.id != i) with
      | true =>
        refine iteT ⟨_, rfl, _, hL', (by rw [refs_length]; exact small1000 (by omega)), fun b o q => ?_, ?_⟩
        · rw [upd_ne (ne_of_none q hL)]; exact s2 b o q
        · rw [upd_same, hs, refs_append, List.filter_cons_of_pos (by exact e)]
          rfl
      | false =>
        refine iteF ⟨s2, ?_⟩
        rw [hs, List.filter_cons_of_neg (by rw [e]; exact Bool.false_ne_true), List.filter_nil, List.append_nil]
        exact hL'
    · rintro H2 ⟨s2, hL2⟩
      rw [refs_length, List.take_length] at hL2
      refine ⟨_, rfl, a, Dc, dx, fs, rfl, s2 _ _ e1, e2, e3, by omega, ?_⟩
      exact k H2 L s2 hL hL2
theorem no_holder {p : Addr} {ts : List AT} {i : Nat} (h : (flat ts).find? (fun t => t.id == i) = none) : (holders p ts).find? (fun h => hasId i h.2) = none := by
  have no := List.find?_eq_none.mp h
  rw [List.find?_eq_none]
  intro x hx q
  obtain ⟨t, ht, e⟩ := hasId_iff.mp q
  unfold holders at hx
  rcases List.mem_cons.mp hx with z | z
  · rw [z] at ht
    exact no t (mem_flat_self ht) (beq_iff_eq.mpr e)
  · obtain ⟨g, hg, rfl⟩ := List.mem_map.mp z
    exact no t (kid_flat (List.mem_filter.mp hg).1 ht) (beq_iff_eq.mpr e)
theorem holderV_non (o : Option (Addr × List AT)) : decide (holderV o = V.non) = !o.isSome := by cases o <;> rfl
def spDrop (C : Cs) : Sp := fun vs H Q _ => ∃ (p : Addr) (i : Nat), vs = [.ref p, .int i] ∧ Prom C p (.drop i) H Q
theorem scDrop : FnScope ["picture", "number", "holder"] ["picture", "number"] (C8.fnScope sDrop) := C8.fnScope_by (by decide +kernel)
theorem drop_ok (R : Raw K mg "drop_thing" sDrop ["picture", "number"]) (T : Tx K mg C) (M : Nm mg) (cH : C8.Cal P w K mg base (DEEP + 1) "holder_of" (spHolder K C) []) (cO : C8.Cal P w K mg base 1 "take_out" (spTakeOut K C) []) (cA : C8.Cal P w K mg base DEEP "all_things" (spAll K C DEEP) []) :
    C8.Cal P w K mg base (DEEP + 2) "drop_thing" (spDrop C) [] := by
  refine R.cal scDrop (fun vs H Q E h => ?_) (fun f cdv A outer s H vs Q E hr h => ?_)
  · obtain ⟨p, i, rfl, _⟩ := h
    rfl
  · obtain ⟨p, i, rfl, g, F, S, k⟩ := h
    refine ⟨_, pss_cons (ps_set (i := 2) scDrop.nd rfl (Or.inl rfl) (C8.pe_c cH hr (Nat.le_refl _) (by rfl) (pa_cons (pv 0) (pa_cons (pv 1) pa_nil))))
      (pss_cons (ps_if (pt_cmpR op_isN (pv 2) pe_non (nomark _)) (pss_one (ps_ret (pe_num (by rfl) M.no))) pss_nil)
      (pss_cons (ps_expr (C8.pe_c cO hr (by decide) (by rfl) (pa_cons (pv 2) (pa_cons (pv 1) pa_nil))))
      (pss_one (ps_ret (pe_callB call_len_seq (by rfl) T.zlen PySem.boot_len (pa_cons (C8.pe_c cA hr (by decide) (by rfl) (pa_cons (pv 0) pa_nil)) pa_nil)))))), ?_⟩
    obtain ⟨dx, la, ts, ow, A', hF⟩ := S
    have S' : State C H p g F := ⟨dx, la, ts, ow, A', hF⟩
    have es : g.step (.drop i) = g.found i fun _ => (g.to (Node.allWithout i g.nodes), says (Node.allIds (Node.allWithout i g.nodes)).length) := rfl
    unfold House.found at es
    rw [found_of A' i] at es
    refine ⟨_, rfl, _, rfl, p, la, ts, i, rfl, A'.holder T, A'.held, A'.deep, A'.few, fun H1 s1 => ?_⟩
    refine ⟨_, rfl, rfl, _, rfl, ?_⟩
    rw [holderV_non]
    cases e : (flat ts).find? (fun t => t.id == i) with
    | none =>
      rw [e] at es
      rw [no_holder e]
      exact iteT (refused S' k es s1)
    | some t =>
      rw [e] at es
      have tm : t ∈ flat ts := List.mem_of_find?_eq_some e
      have tid : t.id = i := beq_iff_eq.mp (by have z := List.find?_some e; exact z)
      obtain ⟨hA, hl, pl, D, dg, fs, lb, f1, f2, f3, f4, f5, f6, f7, f8, f9, f10, f11, f12, f13, f14, f15, f16, fin⟩ := hold_done A' T tm tid
      rw [f1]
      refine iteF ?_
      refine ⟨_, rfl, _, rfl, hA, D, dg, lb, fs, hl, i, rfl, s1 _ _ f4, f5, f6, f7, f9, s1 _ _ f8, fun x hx => (A'.held x (f10 x hx)).same s1, by omega, fun H2 lc s2 n2 e2 => ?_⟩
      have s12 := s1.trans s2
      have flc : H lc = none := s1.free n2
      rw [filter_one f16 f2 tid] at e2
      have nlc : lc ≠ hA := ne_of e2 (s12 _ _ f4) (by intro z; cases z)
      have hK : ∀ b o, H b = some o → b ≠ hA → upd H2 hA (.ins D dg (putF "things" (.ref lc) fs)) b = some o := fun b o e n => by rw [upd_ne n]; exact s12 _ _ e
      obtain ⟨la2, ts2, ow2, st1, st2, _⟩ := fin (fun _ => []) [] (upd H2 hA (.ins D dg (putF "things" (.ref lc) fs))) lc (by unfold nodes; rfl) (by rw [flat_nil]; exact List.nil_sublist _) upd_same (by rw [upd_ne nlc, List.append_nil]; exact e2) flc hK
      rw [← without_repl] at st1
      refine ⟨_, rfl, p, la2, ts2, rfl, st1.holder T, st1.held, st1.deep, st1.few, fun H3 r3 s3 n3 e3 => ?_⟩
      refine ⟨r3, _, rfl, .inl (SqL.of e3), ?_⟩
      have q := k H3
      rw [es] at q
      have st3 := st1.same s3
      have q2 := q ⟨dx, la2, ts2, ow2, st3, fun b hb => (st2 b hb).imp (fun z => hF b z) id⟩ (fun b o eb nF => s3 _ _ (hK b o eb fun z => nF (by rw [z]; exact hF _ f12))) rfl
      have q3 : Q (.int ((Node.allIds (Node.allWithout i g.nodes)).length : Int)) H3 := q2
      have en : Node.allWithout i g.nodes = nodes ts2 := st1.ns
      rw [en, ids_all, List.length_map] at q3
      rw [refs_length]
      exact q3
/-! ### lift -/
theorem without_top (i : Nat) : ∀ l : List Node, (Node.allWithout i l).length = (l.filter fun x => x.how.id != i).length
  | [] => by unfold Node.allWithout; rfl
  | x :: l => by
    unfold Node.allWithout
    by_cases c : x.how.id = i
    · rw [if_pos c, without_top i l, List.filter_cons_of_neg (by rw [c]; simp)]
    · rw [if_neg c, List.length_cons, without_top i l, List.filter_cons_of_pos (by exact bne_iff_ne.mpr c), List.length_cons]
theorem filter_nodes (i : Nat) : ∀ ts : List AT, ((nodes ts).filter fun x => x.how.id != i).length = (ts.filter fun t => t.id != i).length
  | [] => by unfold nodes; rfl
  | t :: l => by
    rw [nodes_cons]
    by_cases c : t.id = i
    · rw [List.filter_cons_of_neg (by rw [node_how]; simp [c]), List.filter_cons_of_neg (by simp [c]), filter_nodes i l]
    · rw [List.filter_cons_of_pos (by rw [node_how]; exact bne_iff_ne.mpr c), List.filter_cons_of_pos (by exact bne_iff_ne.mpr c), List.length_cons, List.length_cons, filter_nodes i l]
def spLift (C : Cs) : Sp := fun vs H Q _ => ∃ (p : Addr) (i n : Nat), vs = [.ref p, .int i, .int n] ∧ Prom C p (.lift i n) H Q
theorem scLift : FnScope ["picture", "number", "p", "thing", "others", "other"] ["picture", "number", "p"] (C8.fnScope sLift) := C8.fnScope_by (by decide +kernel)
theorem PicAt.putBack {H4 H6 : Hp} {p dx la2 lc3 : Addr} {ts2 : List AT} {ow2 : Addr → Nat} {g2 : House} (A : PicAt C H4 p dx la2 ts2 ow2 g2) {t : AT} {n : Nat} (hO : ∀ u ∈ t.flat1, Own C H6 u) (hK : ∀ b o, H4 b = some o → b ≠ p → H6 b = some o)
    (hw : ∀ u ∈ t.flat1, ∀ c ∈ u.cells, ow2 c = u.id + 1) (hlc : H4 lc3 = none) (hex : ∀ u ∈ t.flat1, ∀ c ∈ u.cells, ∃ o, H4 c = some o) (e1 : H6 p = some (.ins C.P dx (picF g2.w g2.h lc3 g2.next))) (e2 : H6 lc3 = some (.lst (refs (ts2.take n ++ t :: ts2.drop n))))
    (nd : (t.flat1.map AT.id ++ (flat ts2).map AT.id).Nodup) (len : t.flat1.length + (flat ts2).length ≤ 10) (hlt : ∀ u ∈ t.flat1, u.id < g2.next) (gd : NGood t.node) :
    ∃ ow3, PicAt C H6 p dx lc3 (ts2.take n ++ t :: ts2.drop n) ow3 { g2 with nodes := Sq49.put n t.node g2.nodes } := by
  have ft : flat ts2 = flat (ts2.take n) ++ flat (ts2.drop n) := by rw [← flat_append, List.take_append_drop]
  have fl : flat (ts2.take n ++ t :: ts2.drop n) = flat (ts2.take n) ++ (t.flat1 ++ flat (ts2.drop n)) := by
    rw [flat_append, flat_cons, flat1_eq]; rfl
  have pm : List.Perm (flat (ts2.take n ++ t :: ts2.drop n)) (t.flat1 ++ flat ts2) := by
    rw [fl, ft, ← List.append_assoc, ← List.append_assoc]
    exact List.Perm.append_right _ List.perm_append_comm
  have cases : ∀ u ∈ flat (ts2.take n ++ t :: ts2.drop n), u ∈ t.flat1 ∨ u ∈ flat ts2 := fun u hu => List.mem_append.mp (pm.mem_iff.mp hu)
  have nlp : lc3 ≠ p := fun z => by rw [z, A.self] at hlc; cases hlc
  refine ⟨fun c => if c = lc3 then 0 else ow2 c, ⟨e1, e2, fun u hu => ?_, by rw [if_neg (Ne.symm nlp)]; exact A.owp, by rw [if_pos rfl], fun u hu c hc => ?_, ?_, ?_, fun u hu => ?_, ?_, ?_, A.w1, A.w8, A.h1, A.h8⟩⟩
  · rcases cases u hu with h | h
    · exact hO u h
    · exact (A.held u h).fr (F := [p]) (fun b o e n => hK b o e fun q => n (by rw [q]; exact List.mem_cons_self)) fun c hc q => A.p_off h (by rw [← List.mem_singleton.mp q]; exact hc)
  · have cn : c ≠ lc3 := fun z => by
      have ex : ∃ o, H4 c = some o := by
        rcases cases u hu with h | h
        · exact hex u h c hc
        · exact (A.held u h).some_of c hc
      obtain ⟨o, eo⟩ := ex
      rw [z, hlc] at eo; cases eo
    rw [if_neg cn]
    rcases cases u hu with h | h
    · exact hw u h c hc
    · exact A.owt u h c hc
  · show Sq49.put n t.node g2.nodes = _
    unfold Sq49.put
    rw [A.ns, nodes_append, nodes_cons, nodes_take, nodes_drop]
  · rw [(pm.map AT.id).nodup_iff, List.map_append]; exact nd
  · rcases cases u hu with h | h
    · exact hlt u h
    · exact A.lt u h
  · rw [pm.length_eq, List.length_append]; exact len
  · rw [nodes_append, nodes_cons]
    have gd2 := LGood_mem.mp A.good
    refine LGood_append _ _ (LGood_mem.mpr fun z hz => gd2 z ?_) ?_
    · rw [nodes_take] at hz; exact List.mem_of_mem_take hz
    · unfold LGood
      exact ⟨gd, LGood_mem.mpr fun z hz => gd2 z (by rw [nodes_drop] at hz; exact List.mem_of_mem_drop hz)⟩
theorem lift_ok (R : Raw K mg "lift_thing" sLift ["picture", "number", "p"]) (T : Tx K mg C) (M : Nm mg) (cF : C8.Cal P w K mg base (DEEP + 1) "find_thing" (spFind K C) []) (cH : C8.Cal P w K mg base (DEEP + 1) "holder_of" (spHolder K C) []) (cO : C8.Cal P w K mg base 1 "take_out" (spTakeOut K C) []) :
    C8.Cal P w K mg base (DEEP + 2) "lift_thing" (spLift C) [] := by
  refine R.cal scLift (fun vs H Q E h => ?_) (fun f cdv A outer s H vs Q E hr h => ?_)
  · obtain ⟨p, i, n, rfl, _⟩ := h
    rfl
  · obtain ⟨p, i, n, rfl, g, F, S, k⟩ := h
    refine ⟨_, pss_cons (ps_set (i := 3) scLift.nd rfl (Or.inl rfl) (C8.pe_c cF hr (Nat.le_refl _) (by rfl) (pa_cons (pv 0) (pa_cons (pv 1) pa_nil))))
      (pss_cons (ps_if (pt_cmpR op_isN (pv 3) pe_non (nomark _)) (pss_one (ps_ret (pe_num (by rfl) M.no))) pss_nil)
      (pss_cons (ps_setLc (i := 4) (own := [("other", 5)]) (g := gName 5) (tt := tTest (tOp rNe (tFld K (tVar 5) "number") (tVar 1))) (te := tVar 5) rfl scLift.nd rfl rfl (sw_true rfl rfl rfl (by decide +kernel)) (pi_list (pe_fld (pv 0) rfl))
        (blkOk_by (own := [("other", 5)]) (N := ["picture", "number", "p", "thing", "others", "other"]) (sc := C8.fnScope sLift) (by decide +kernel)) (fun _ _ _ _ _ => pg_name (i := 5) scLift.nd rfl (Or.inl rfl))
        (fun _ _ _ _ _ => pts_one (pt_cmpR op_ne (pe_fld (pv 5) rfl) (pv 1) (nomark _))) (fun _ _ _ _ _ => pv 5))
      (pss_cons (ps_if (pt_cmpR op_gt (pv 2) (pe_callB call_len_seq (by rfl) T.zlen PySem.boot_len (pa_cons (pv 4) pa_nil)) (nomark _)) (pss_one (ps_ret (pe_num (by rfl) M.bad))) pss_nil)
      (pss_cons (ps_expr (C8.pe_c cO hr (by decide) (by rfl) (pa_cons (C8.pe_c cH hr (Nat.le_refl _) (by rfl) (pa_cons (pv 0) (pa_cons (pv 1) pa_nil))) (pa_cons (pv 1) pa_nil))))
      (pss_cons (ps_fld (pv 0) (pe_op op_cat (pe_op op_cat (pe_slice sl_list (pv 4) po_none (po_some (pv 2))) (pe_lst (pa_cons (pv 3) pa_nil))) (pe_slice sl_list (pv 4) (po_some (pv 2)) po_none)) rfl)
      (pss_one (ps_ret pe_int))))))), ?_⟩
    obtain ⟨dx, la, ts, ow, A', hF⟩ := S
    have S' : State C H p g F := ⟨dx, la, ts, ow, A', hF⟩
    have es : g.step (.lift i n) = g.found i fun x => if (Node.allWithout i g.nodes).length < n then (g, says (-1)) else (g.to (Sq49.put n x (Node.allWithout i g.nodes)), says 0) := rfl
    unfold House.found at es
    rw [found_of A' i] at es
    refine ⟨_, rfl, _, rfl, p, la, ts, i, rfl, A'.holder T, A'.held, A'.deep, A'.few, fun H1 s1 => ?_⟩
    refine ⟨_, rfl, rfl, _, rfl, ?_⟩
    rw [foundV_non]
    cases e : (flat ts).find? (fun t => t.id == i) with
    | none =>
      rw [e] at es
      exact iteT (refused S' k es s1)
    | some t =>
      rw [e] at es
      replace es : g.step (.lift i n) = if (Node.allWithout i g.nodes).length < n then (g, says (-1)) else (g.to (Sq49.put n t.node (Node.allWithout i g.nodes)), says 0) := es
      refine iteF ?_
      have tm : t ∈ flat ts := List.mem_of_find?_eq_some e
      have tid : t.id = i := beq_iff_eq.mp (by have z := List.find?_some e; exact z)
      have A1 := A'.same s1
      have tl : ts.length ≤ 10 := Nat.le_trans (List.Sublist.length_le (top_sub ts)) A'.cnt
      have eln : (Node.allWithout i g.nodes).length = (ts.filter fun t => t.id != i).length := by rw [without_top, A'.ns, filter_nodes]
      have fll : (ts.filter fun t => t.id != i).length ≤ 10 := Nat.le_trans (List.length_filter_le _ _) tl
      rw [eln] at es
      refine ⟨_, rfl, p, C.P, dx, _, _, rfl, A1.self, T.cP, T.nPt, picF_things .., la, rfl, ⟨_, SqL.of A1.lst⟩, fun L hL => lc_list (K := K) (a := la) (xs := refs ts) (fun n H' => Same H1 H' ∧ H' L = some (.lst (refs ((ts.take n).filter fun t => t.id != i))))
        ⟨same_new hL _, by rw [List.take_zero]; exact upd_same⟩ (fun n H' _ h => SqL.of (h.1 _ _ A1.lst)) ?_ ?_⟩
      · rintro j y H' hi ⟨s2, hL'⟩
        obtain ⟨u, ht, rfl⟩ := refs_get hi
        have um : u ∈ ts := List.mem_of_getElem? ht
        obtain ⟨Db, dy, gs, x1, x2, x3, x4⟩ := own_number T ((A1.held u (mem_flat_self um)).same s2)
        have hl : ((ts.take j).filter fun t => t.id != i).length ≤ 100 := by
          have a1 := List.length_filter_le (fun t : AT => t.id != i) (ts.take j)
          rw [List.length_take] at a1
          omega
        have hs : (ts.take (j + 1)).filter (fun t => t.id != i) = (ts.take j).filter (fun t => t.id != i) ++ [u].filter (fun t => t.id != i) := by rw [take_snoc ht, List.filter_append]
        refine ⟨rfl, _, rfl, u.addr, Db, dy, gs, _, rfl, x1, x2, x3, x4, _, rfl, rfl, _, rfl, ?_⟩
        rw [int_neN]
        cases e : (u.id != i) with
        | true =>
          refine iteT ⟨_, rfl, _, hL', (by rw [refs_length]; exact small1000 (by omega)), fun b o q => ?_, ?_⟩
          · rw [upd_ne (ne_of_none q hL)]; exact s2 b o q
          · rw [upd_same, hs, refs_append, List.filter_cons_of_pos (by exact e)]
            rfl
        | false =>
          refine iteF ⟨s2, ?_⟩
          rw [hs, List.filter_cons_of_neg (by rw [e]; exact Bool.false_ne_true), List.filter_nil, List.append_nil]
          exact hL'
      · rintro H2 ⟨s2, hL2⟩
        rw [refs_length, List.take_length] at hL2
        have s12 := s1.trans s2
        refine ⟨_, rfl, _, rfl, L, _, rfl, .inl (SqL.of hL2), _, _, rfl, rfl, _, rfl, iteB (fun q => ?_) (fun q1 => ?_)⟩
        · have q' : (((refs (ts.filter fun t => t.id != i)).length : Nat) : Int) < (n : Int) := of_decide_eq_true q
          rw [refs_length] at q'
          rw [if_pos (by omega)] at es
          exact refused S' k es s12
        have q1' : ¬ (((refs (ts.filter fun t => t.id != i)).length : Nat) : Int) < (n : Int) := of_decide_eq_false q1
        rw [refs_length] at q1'
        rw [if_neg (by omega)] at es
        obtain ⟨hA, hl, pl, D, dg, fs, lb, f1, f2, f3, f4, f5, f6, f7, f8, f9, f10, f11, f12, f13, f14, f15, f16, fin⟩ := hold_done A' T tm tid
        have A2 := A'.same s12
        refine ⟨_, rfl, _, rfl, p, la, ts, i, rfl, A2.holder T, A2.held, A2.deep, A2.few, fun H3 s3 => ?_⟩
        have s13 := s12.trans s3
        rw [f1]
        refine ⟨_, rfl, hA, D, dg, lb, fs, hl, i, rfl, s13 _ _ f4, f5, f6, f7, f9, s13 _ _ f8, fun x hx => (A'.held x (f10 x hx)).same s13, by omega, fun H4' lc s4 n4 e4 => ?_⟩
        have s14 := s13.trans s4
        have flc : H lc = none := s13.free n4
        rw [filter_one f16 f2 tid] at e4
        have nlc : lc ≠ hA := ne_of e4 (s14 _ _ f4) (by intro z; cases z)
        have hK : ∀ b o, H b = some o → b ≠ hA → upd H4' hA (.ins D dg (putF "things" (.ref lc) fs)) b = some o := fun b o e n => by rw [upd_ne n]; exact s14 _ _ e
        obtain ⟨la2, ts2, ow2, st1, st2, st3, ⟨IA, IB, st4, st5⟩, st6⟩ := fin (fun _ => []) [] (upd H4' hA (.ins D dg (putF "things" (.ref lc) fs))) lc (by unfold nodes; rfl) (by rw [flat_nil]; exact List.nil_sublist _) upd_same (by rw [upd_ne nlc, List.append_nil]; exact e4) flc hK
        rw [← without_repl] at st1
        have eo := st6 rfl
        have fL : H L = none := s1.free hL
        have nLA : L ≠ hA := ne_of hL2 (s12 _ _ f4) (by intro z; cases z)
        have hL4 : upd H4' hA (.ins D dg (putF "things" (.ref lc) fs)) L = some (.lst (refs ts2)) := by rw [upd_ne nLA, eo]; exact (s3.trans s4) _ _ hL2
        have hfree : ∀ b, upd H4' hA (.ins D dg (putF "things" (.ref lc) fs)) b = none → H b = none := fun b hb => by
          by_cases z : b = hA
          · rw [z, upd_same] at hb; cases hb
          · rw [upd_ne z] at hb; exact s14.free hb
        generalize hH4 : upd H4' hA (.ins D dg (putF "things" (.ref lc) fs)) = H4 at *
        have ln2 : ts2.length = (ts.filter fun t => t.id != i).length := by
          have := congrArg List.length eo
          rw [refs_length, refs_length] at this
          exact this
        -- others[:p]
        refine ⟨_, rfl, _, rfl, _, rfl, L, _, rfl, SqL.of hL4, fun c1 hc1 => ?_⟩
        rw [cut_to (by rw [refs_length]; omega), refs_take]
        have s5 := same_new hc1 (.lst (refs (ts2.take n)))
        have e5 : upd H4 c1 (.lst (refs (ts2.take n))) c1 = some (.lst (refs (ts2.take n))) := upd_same
        generalize upd H4 c1 (.lst (refs (ts2.take n))) = H5 at *
        refine ⟨_, rfl, (by show 1 ≤ sizeLine; decide), fun c2 hc2 => ?_⟩
        have s6 := same_new hc2 (.lst [foundV (some t)])
        have e6 : upd H5 c2 (.lst [foundV (some t)]) c2 = some (.lst [.ref t.addr]) := upd_same
        generalize upd H5 c2 (.lst [foundV (some t)]) = H6 at *
        have tkl : (ts2.take n).length ≤ 10 := by rw [List.length_take]; omega
        refine ⟨c1, c2, _, _, rfl, rfl, s6 _ _ e5, e6, (by rw [refs_length]; exact Nat.le_of_lt (small1000 (by show _ + 1 ≤ 1000; omega))), fun c3 hc3 => ?_⟩
        have s7 := same_new hc3 (.lst (refs (ts2.take n) ++ [.ref t.addr]))
        have e7 : upd H6 c3 (.lst (refs (ts2.take n) ++ [.ref t.addr])) c3 = some (.lst (refs (ts2.take n) ++ [.ref t.addr])) := upd_same
        generalize upd H6 c3 (.lst (refs (ts2.take n) ++ [.ref t.addr])) = H7 at *
        have s47 := (s5.trans s6).trans s7
        refine ⟨_, rfl, _, rfl, _, rfl, L, _, rfl, SqL.of (s47 _ _ hL4), fun c4 hc4 => ?_⟩
        rw [cut_from (by rw [refs_length]; omega), refs_drop]
        have s8 := same_new hc4 (.lst (refs (ts2.drop n)))
        have e8 : upd H7 c4 (.lst (refs (ts2.drop n))) c4 = some (.lst (refs (ts2.drop n))) := upd_same
        generalize upd H7 c4 (.lst (refs (ts2.drop n))) = H8 at *
        have dl : (ts2.drop n).length ≤ 10 := by rw [List.length_drop]; omega
        refine ⟨c3, c4, _, _, rfl, rfl, s8 _ _ e7, e8, (by rw [List.length_append, refs_length, refs_length]; exact Nat.le_of_lt (small1000 (by show _ + 1 + _ ≤ 1000; omega))), fun lc3 hlc3 => ?_⟩
        have s9 := same_new hlc3 (.lst (refs (ts2.take n) ++ [.ref t.addr] ++ refs (ts2.drop n)))
        have e9 : upd H8 lc3 (.lst (refs (ts2.take n) ++ [.ref t.addr] ++ refs (ts2.drop n))) lc3 = some (.lst (refs (ts2.take n ++ t :: ts2.drop n))) := by
          rw [upd_same, refs_append, List.append_assoc]; rfl
        generalize upd H8 lc3 (.lst (refs (ts2.take n) ++ [.ref t.addr] ++ refs (ts2.drop n))) = H9 at *
        have s49 := (s47.trans s8).trans s9
        have f4c : H4 lc3 = none := (s47.trans s8).free hlc3
        have fc : H lc3 = none := hfree _ f4c
        refine ⟨_, rfl, p, C.P, dx, _, rfl, s49 _ _ st1.self, T.cP, T.nPt, (by show 4 < 1000; decide), ?_⟩
        rw [upd_eq (congrArg (fun q => HO.ins C.P dx q) (put_picThings g.w g.h la2 lc3 g.next))]
        have nlp : lc3 ≠ p := fun z => by rw [z, A'.self] at fc; cases fc
        have hK6 : ∀ b o, H4 b = some o → b ≠ p → upd H9 p (.ins C.P dx (picF g.w g.h lc3 g.next)) b = some o := fun b o e n => by rw [upd_ne n]; exact s49 _ _ e
        have hKt : ∀ u ∈ t.flat1, ∀ b o, H b = some o → b ∈ u.cells → upd H9 p (.ins C.P dx (picF g.w g.h lc3 g.next)) b = some o := fun u hu b o e hb => by
          rw [upd_ne (fun z => A'.p_off (flat1_in tm hu) (by rw [← z]; exact hb))]
          exact s49 _ _ (hK b o e (fun z => f15 u hu (by rw [← z]; exact hb)))
        have idsum : List.Perm (t.flat1.map AT.id ++ (flat ts2).map AT.id) ((flat ts).map AT.id) := by
          rw [st4, st5, flat_nil, List.map_nil, List.nil_append, ← List.append_assoc, ← List.append_assoc]
          exact List.Perm.append_right _ List.perm_append_comm
        obtain ⟨ow3, P3⟩ := st1.putBack (H6 := upd H9 p (.ins C.P dx (picF g.w g.h lc3 g.next))) (lc3 := lc3) (t := t) (n := n)
          (fun u hu => by
            have o := A'.held u (flat1_in tm hu)
            have hk := hKt u hu
            cases u with
            | layer ua upa uh ux uy uw uht upx =>
              obtain ⟨⟨du, o1⟩, o2⟩ := o
              exact ⟨⟨du, hk _ _ o1 (by unfold AT.cells; exact List.mem_cons_self)⟩, hk _ _ o2 (by unfold AT.cells; exact List.mem_cons_of_mem _ List.mem_cons_self)⟩
            | group ua ula uh ul =>
              obtain ⟨⟨du, o1⟩, o2⟩ := o
              exact ⟨⟨du, hk _ _ o1 (by unfold AT.cells; exact List.mem_cons_self)⟩, hk _ _ o2 (by unfold AT.cells; exact List.mem_cons_of_mem _ List.mem_cons_self)⟩)
          hK6
          (fun u hu c hc => by
            obtain ⟨o, eo⟩ := (A'.held u (flat1_in tm hu)).some_of c hc
            rw [st3 c (fun z => by rw [z, flc] at eo; cases eo)]
            exact A'.owt u (flat1_in tm hu) c hc)
          f4c
          (fun u hu c hc => by
            obtain ⟨o, eo⟩ := (A'.held u (flat1_in tm hu)).some_of c hc
            exact ⟨o, hK c o eo (fun z => f15 u hu (by rw [← z]; exact hc))⟩)
          upd_same (by rw [upd_ne nlp]; exact e9) (idsum.nodup_iff.mpr A'.ids)
          (by
            have := idsum.length_eq
            rw [List.length_append, List.length_map, List.length_map, List.length_map] at this
            have := A'.cnt
            omega)
          (fun u hu => A'.lt u (flat1_in tm hu)) (good_mem ts A'.good t tm)
        have q := k (upd H9 p (.ins C.P dx (picF g.w g.h lc3 g.next)))
        rw [es] at q
        refine q ⟨dx, lc3, _, ow3, P3, fun b hb => ?_⟩ (fun b o eb nF => ?_) rfl
        · rcases foot_cases hb with z | z | ⟨u, hu, hc⟩
          · rw [z]; exact .inl (hF _ mem_foot_p)
          · rw [z]; exact .inr fc
          · have : u ∈ t.flat1 ∨ u ∈ flat ts2 := by
              rw [flat_append, flat_cons] at hu
              rcases List.mem_append.mp hu with y | y
              · exact .inr (by rw [← List.take_append_drop n ts2, flat_append]; exact List.mem_append_left _ y)
              · rw [← List.cons_append, ← flat1_eq] at y
                rcases List.mem_append.mp y with y | y
                · exact .inl y
                · exact .inr (by rw [← List.take_append_drop n ts2, flat_append]; exact List.mem_append_right _ y)
            rcases this with y | y
            · exact .inl (hF _ (mem_foot_t (flat1_in tm y) hc))
            · exact (st2 b (mem_foot_t y hc)).imp (fun z => hF b z) id
        · have nh : b ≠ hA := fun z => nF (by rw [z]; exact hF _ f12)
          have np : b ≠ p := fun z => nF (by rw [z]; exact hF _ mem_foot_p)
          exact hK6 b o (hK b o eb nh) np
end
end Lay
set_option Elab.async false
set_option linter.all false
set_option maxRecDepth 100000
set_option maxHeartbeats 2000000
namespace Lay
open PySem PySem.Spec PyProof.Rows L2
open Sq49 (Node How House says offset)
open LFrac (NGood LGood HGood)
abbrev sFlat : Stmt := topS 52
def flatRow (g : House) (y n : Nat) : List (Nat × Nat) := (List.range n).map fun x => Sq49.shown (g.dot x y)
def flatTo (g : House) (n : Nat) : List (Nat × Nat) := (List.range n).flatMap fun y => flatRow g y g.w
theorem flatP_append (a b : List (Nat × Nat)) : flatP (a ++ b) = flatP a ++ flatP b := by unfold flatP; rw [List.flatMap_append]
theorem flatRow_P (g : House) (y n : Nat) : intsV (rowUpTo g y n) = flatP (flatRow g y n) := by
  induction n with
  | zero => rfl
  | succ n ih =>
    have e : flatRow g y (n + 1) = flatRow g y n ++ [Sq49.shown (g.dot n y)] := by unfold flatRow; rw [List.range_succ, List.map_append]; rfl
    rw [rowUpTo_succ, intsV_append, ih, e, flatP_append]
    rfl
theorem flatTo_succ (g : House) (n : Nat) : flatTo g (n + 1) = flatTo g n ++ flatRow g n g.w := by
  unfold flatTo
  rw [List.range_succ, List.flatMap_append]
  congr 1
  rw [List.flatMap_cons]; simp
theorem flatTo_len (g : House) (n : Nat) : (flatTo g n).length = n * g.w := by
  induction n with
  | zero => rw [Nat.zero_mul]; rfl
  | succ n ih =>
    rw [flatTo_succ, List.length_append, ih]
    unfold flatRow
    rw [List.length_map, List.length_range, Nat.succ_mul]
theorem flat_cells (g : House) : (g.cells.map fun p => Sq49.shown (g.dot p.1 p.2)) = flatTo g g.h := by
  unfold House.cells flatTo flatRow
  rw [List.map_flatMap]
  congr 1
  funext y
  rw [List.map_map]
  rfl
section
variable {P : Program} {w : World} {K : PySem.W.Frag} {mg : Str → Option Value} {base : Heap} {C : Cs} {D : Addr}
theorem PicAt.dok {H : Hp} {p dx la : Addr} {ts : List AT} {ow : Addr → Nat} {g : House} (A : PicAt C H p dx la ts ow g) (x y : Nat) : LFrac.DOk (g.dot x y) := by
  unfold House.dot
  rw [A.ns]
  exact (LFrac.pile_ok x y (nodes ts) A.good Sq49.clear Sq49.clear LFrac.clear_ok LFrac.clear_ok).1
theorem flatTo_le {H : Hp} {p dx la : Addr} {ts : List AT} {ow : Addr → Nat} {g : House} (A : PicAt C H p dx la ts ow g) (n : Nat) : ∀ z ∈ flatTo g n, z.1 ≤ 255 ∧ z.2 ≤ 255 := by
  intro z hz
  unfold flatTo flatRow at hz
  obtain ⟨y, _, hz⟩ := List.mem_flatMap.mp hz
  obtain ⟨x, _, rfl⟩ := List.mem_map.mp hz
  exact LFrac.shown_le (A.dok x y)
def spFlat (C : Cs) : Sp := fun vs H Q _ => ∃ (p : Addr), vs = [.ref p] ∧ Prom C p .flat H Q
theorem scFlat : FnScope ["picture", "pixels", "y", "number"] ["picture"] (C8.fnScope sFlat) := C8.fnScope_by (by decide +kernel)
theorem flat_ok (R : Raw K mg "make_flat" sFlat ["picture"]) (T : Tx K mg C) (X : Dx K mg D) (cR : C8.Cal P w K mg base (LPUT + 2) "shown_row" (spRow C) []) (cT : C8.Met P w K mg base 1 C.P "take_number" (spTake C) []) (cL : C8.Mak P w K mg base 2 "Layer" C.L (spLayer C) []) :
    C8.Cal P w K mg base (LPUT + 3) "make_flat" (spFlat C) [] := by
  refine R.cal scFlat (fun vs H Q E h => ?_) (fun f cdv A outer s H vs Q E hr h => ?_)
  · obtain ⟨p, rfl, _⟩ := h
    rfl
  · obtain ⟨p, rfl, g, F, S, k⟩ := h
    refine ⟨_, pss_cons (ps_set (i := 1) scFlat.nd rfl (Or.inl rfl) (pe_lst pa_nil))
      (pss_cons (ps_for PassesOwn.never rfl (pi_range1 (by rfl) X.zrange (pa_cons (pe_fld (pv 0) rfl) pa_nil)) (pg_name (i := 2) scFlat.nd rfl (Or.inl rfl))
        (pss_one (ps_expr (pe_bm PySem.F.plainAttrs_list PySem.F.slot_list_extend PySem.F.type_list_extend mt_extend (pv 1)
          (pa_cons (C8.pe_c cR hr (Nat.le_refl _) (by rfl) (pa_cons (pv 0) (pa_cons (pv 2) pa_nil))) pa_nil)))))
      (pss_cons (ps_set (i := 3) scFlat.nd rfl (Or.inl rfl) (C8.pe_mt0 cT hr (by decide) (pv 0)))
      (pss_cons (ps_fld (pv 0) (pe_lst (pa_cons (C8.pe_mk cL hr (by decide) (by rfl) (pa_cons (pv 3) (pa_cons pe_int (pa_cons pe_int (pa_cons (pe_fld (pv 0) rfl) (pa_cons (pe_fld (pv 0) rfl) (pa_cons (pv 1) pa_nil))))))) pa_nil)) rfl)
      (pss_one (ps_ret (pv 3)))))), ?_⟩
    obtain ⟨dx, la, ts, ow, A', hF⟩ := S
    refine ⟨Nat.zero_le _, fun pl hpl => ?_⟩
    have s0 := same_new hpl (.lst [])
    have A0 := A'.same s0
    have w8 := A'.w8
    have h8 := A'.h8
    have w1 := A'.w1
    have h1 := A'.h1
    have big : ∀ n, n ≤ g.h → n * g.w ≤ 64 := fun n hn => by
      have a1 : n * g.w ≤ 8 * g.w := Nat.mul_le_mul_right _ (by omega)
      omega
    refine ⟨_, rfl, p, C.P, dx, _, _, rfl, A0.self, T.cP, T.nPh, picF_height .., _, rfl, by omega, by omega, for_range (n := ((g.h : Int)).toNat) (fun n σ H' => ∃ v2 : Option V, σ = [some (.ref p), some (.ref pl), v2, none] ∧ Same H H' ∧ H' pl = some (.lst (flatP (flatTo g n))))
      ⟨none, rfl, s0, upd_same⟩ ?_ ?_⟩
    · rintro n σ H1 hn ⟨v2, rfl, s1, e1⟩
      have hn' : n < g.h := by omega
      have en : V.int (0 + (n : Int)) = V.int (n : Int) := by rw [Int.zero_add]
      rw [en]
      refine ⟨_, rfl, .inl ⟨rfl, _, SqL.of e1⟩, _, rfl, _, rfl, p, dx, la, ts, ow, g, n, rfl, A'.same s1, fun H2 r2 s2 n2 e2 => ?_⟩
      rw [flatRow_P] at e2
      refine ⟨pl, r2, _, _, rfl, rfl, s2 _ _ e1, e2, ?_, ?_⟩
      · have b1 := big n (by omega)
        rw [flatP_length, flatP_length, flatTo_len]
        unfold flatRow
        rw [List.length_map, List.length_range]
        exact Nat.le_of_lt (small1000 (by omega))
      · refine ⟨_, rfl, fun b o' eb => ?_, ?_⟩
        · rw [upd_ne (ne_of_none eb hpl)]; exact s2 _ _ (s1 _ _ eb)
        · rw [upd_same, flatTo_succ, flatP_append]
    · rintro σ H1 ⟨v2, rfl, s1, e1⟩
      rw [Int.toNat_natCast] at e1
      have A1 := A'.same s1
      refine ⟨_, rfl, p, dx, _, rfl, A1.self, picF_take .., p, dx, la, g.w, g.h, g.next, rfl, A1.self, ?_⟩
      have e2p : upd H1 p (.ins C.P dx (picF g.w g.h la (g.next + 1))) p = some (.ins C.P dx (picF g.w g.h la (g.next + 1))) := upd_same
      have npp : pl ≠ p := fun z => by rw [z, A'.self] at hpl; cases hpl
      have e2l : upd H1 p (.ins C.P dx (picF g.w g.h la (g.next + 1))) pl = some (.lst (flatP (flatTo g g.h))) := by rw [upd_ne npp]; exact e1
      have k2 : ∀ b o, H1 b = some o → b ≠ p → upd H1 p (.ins C.P dx (picF g.w g.h la (g.next + 1))) b = some o := fun b o e n => by rw [upd_ne n]; exact e
      generalize hH2 : upd H1 p (.ins C.P dx (picF g.w g.h la (g.next + 1))) = H2 at *
      refine ⟨_, rfl, _, rfl, p, C.P, dx, _, _, rfl, e2p, T.cP, T.nPw, picF_width .., _, rfl, p, C.P, dx, _, _, rfl, e2p, T.cP, T.nPh, picF_height .., _, rfl, ?_⟩
      intro a da ha hda nda
      refine ⟨a, da, pl, g.next, 0, 0, g.w, g.h, rfl, upd_same, rfl, ?_⟩
      rw [upd_upd]
      have s5 : Same H2 (upd (upd H2 da (.own a)) a (.ins C.L da (layF (how0 g.next) 0 0 g.w g.h pl))) := fun b o e => by
        rw [upd_ne (ne_of_none e ha), upd_ne (ne_of_none e hda)]; exact e
      have e5a : upd (upd H2 da (.own a)) a (.ins C.L da (layF (how0 g.next) 0 0 g.w g.h pl)) a = some (.ins C.L da (layF (how0 g.next) 0 0 g.w g.h pl)) := upd_same
      generalize hH5 : upd (upd H2 da (.own a)) a (.ins C.L da (layF (how0 g.next) 0 0 g.w g.h pl)) = H5 at *
      refine ⟨(by show 1 ≤ sizeLine; decide), fun lc hlc => ?_⟩
      have s6 := same_new hlc (.lst [.ref a])
      have e6 : upd H5 lc (.lst [.ref a]) lc = some (.lst [.ref a]) := upd_same
      generalize hH6 : upd H5 lc (.lst [.ref a]) = H6 at *
      have s26 := s5.trans s6
      refine ⟨_, rfl, p, C.P, dx, _, rfl, s26 _ _ e2p, T.cP, T.nPt, (by show 4 < 1000; decide), ?_⟩
      rw [upd_eq (congrArg (fun q => HO.ins C.P dx q) (put_picThings g.w g.h la lc (g.next + 1)))]
      refine ⟨_, rfl, ?_⟩
      have fH : ∀ b, H2 b = none → H b = none := fun b hb => s1.free (by
        by_cases z : b = p
        · rw [z, e2p] at hb; cases hb
        · cases e : H1 b with
          | none => rfl
          | some o => rw [k2 b o e z] at hb; cases hb)
      have fa : H a = none := fH _ ha
      have flc : H lc = none := fH _ (s5.free hlc)
      have nap : a ≠ p := fun z => by rw [z, A'.self] at fa; cases fa
      have nlp : lc ≠ p := fun z => by rw [z, A'.self] at flc; cases flc
      have nla : lc ≠ a := fun z => by rw [z, e5a] at hlc; cases hlc
      have nll : lc ≠ pl := fun z => by rw [z, s5 _ _ e2l] at hlc; cases hlc
      have hcells : ∀ c ∈ [a, pl], c ≠ p ∧ c ≠ lc := fun c hc => by
        rcases List.mem_cons.mp hc with z | z
        · rw [z]; exact ⟨nap, Ne.symm nla⟩
        · rw [List.mem_singleton.mp z]; exact ⟨npp, Ne.symm nll⟩
      have es : g.step .flat = ({ g with nodes := [.layer ⟨g.next, true, 255, 0, false⟩ 0 0 g.w g.h (flatTo g g.h)], next := g.next + 1 }, says g.next) := by
        show ({ g with nodes := [.layer ⟨g.next, true, 255, 0, false⟩ 0 0 g.w g.h (g.cells.map fun (p : Nat × Nat) => Sq49.shown (g.dot p.1 p.2))], next := g.next + 1 }, says g.next) = _
        rw [flat_cells]
      have fl1 : flat [AT.layer a pl (how0 g.next) 0 0 g.w g.h (flatTo g g.h)] = [AT.layer a pl (how0 g.next) 0 0 g.w g.h (flatTo g g.h)] := by
        rw [flat_cons, flat_nil]
        show _ :: (flat [] ++ []) = _
        rw [flat_nil]; rfl
      have q := k (upd H6 p (.ins C.P dx (picF g.w g.h lc (g.next + 1))))
      rw [es] at q
      refine q ⟨dx, lc, [AT.layer a pl (how0 g.next) 0 0 g.w g.h (flatTo g g.h)], fun c => if c ∈ [a, pl] then g.next + 1 else 0, ⟨upd_same, ?_, fun u hu => ?_, ?_, ?_, fun u hu c hc => ?_, ?_, ?_, fun u hu => ?_, ?_, ?_, w1, w8, h1, h8⟩, fun b hb => ?_⟩ (fun b o eb nF => ?_) rfl
      · rw [upd_ne nlp]; exact e6
      · rw [fl1] at hu
        rw [List.mem_singleton.mp hu]
        exact ⟨⟨da, by rw [upd_ne nap]; exact s6 _ _ e5a⟩, by rw [upd_ne npp]; exact s26 _ _ e2l⟩
      · exact if_neg (fun z => (hcells p z).1 rfl)
      · exact if_neg (fun z => (hcells lc z).2 rfl)
      · rw [fl1] at hu
        rw [List.mem_singleton.mp hu] at hc ⊢
        exact if_pos hc
      · show [Node.layer _ _ _ _ _ _] = _
        rw [nodes_cons, node_layer]
        unfold nodes
        rfl
      · rw [fl1]; simp
      · rw [fl1] at hu
        rw [List.mem_singleton.mp hu]
        show g.next < g.next + 1
        omega
      · rw [fl1]; show 1 ≤ 10; decide
      · rw [nodes_cons, node_layer]
        unfold nodes LGood LGood NGood
        exact ⟨⟨⟨by show 255 ≤ 255; decide, by show 0 ≤ 6; decide⟩, w1, w8, h1, h8, by rw [flatTo_len, Nat.mul_comm], flatTo_le A' g.h⟩, trivial⟩
      · rcases foot_cases hb with z | z | ⟨u, hu, hc⟩
        · rw [z]; exact .inl (hF _ mem_foot_p)
        · rw [z]; exact .inr flc
        · rw [fl1] at hu
          rw [List.mem_singleton.mp hu] at hc
          unfold AT.cells at hc
          rcases List.mem_cons.mp hc with z | z
          · rw [z]; exact .inr fa
          · rw [List.mem_singleton.mp z]; exact .inr hpl
      · have np : b ≠ p := fun z => nF (by rw [z]; exact hF _ mem_foot_p)
        rw [upd_ne np]
        exact s26 _ _ (k2 _ _ (s1 _ _ eb) np)
end
end Lay
set_option Elab.async false
set_option linter.all false
set_option maxRecDepth 100000
set_option maxHeartbeats 2000000
namespace Lay
open PySem PySem.Spec PyProof.Rows L2
section
variable {K : PySem.W.Frag} {h : Heap} {mg : Str → Option Value}
theorem raw_mk {x : Str} {st : Stmt} {ps : List Str} {f : Addr} {od an : Option Addr} {sl : Array (Option Value)} {oc kV dc pm cd ct : Value} (X : K.In h) (G : h.Ns mainGlobals mg)
    (a : PySem.W.nsIn K mainGlobals x = some (some (.ref f))) (l : K.lookup f = some ⟨oc, od, .func (PySem.W.fnOf x x (C8.fnArgs st) (C8.fnBody st) (C8.fnScope st) .none kV dc pm an cd ct), sl⟩) (c : PySem.W.codeIn K cd x = true) (k : PySem.W.keepIn K (.ref f) = true)
    (hb : ∀ (kV doc pm : Value) (an : Option Addr) (cdv ct : Value) (us : List Value), us.length = ps.length → bindArgs (PySem.W.fnOf x x (C8.fnArgs st) (C8.fnBody st) (C8.fnScope st) .none kV doc pm an cdv ct) ⟨us, []⟩ = pure (ps.zip us)) : Raw K mg x st ps :=
  ⟨f, _, ⟨⟨oc, od, .none, kV, dc, pm, an, cd, ct, sl, rfl, l, c⟩, PySem.W.mg_of X G a, k⟩, .all (hb kV dc pm an cd ct)⟩
theorem rawM_mk {C : Addr} {m qual : Str} {st : Stmt} {ps : List Str} {f : Addr} {od an : Option Addr} {sl : Array (Option Value)} {oc kV dc pm cd ct : Value}
    (a : PySem.W.findIn K (.ref C) m = some (some (.ref f))) (i : PySem.W.isFn K (.ref f) = true) (l : K.lookup f = some ⟨oc, od, .func (PySem.W.fnOf m qual (C8.fnArgs st) (C8.fnBody st) (C8.fnScope st) .none kV dc pm an cd ct), sl⟩) (c : PySem.W.codeIn K cd qual = true) (k : PySem.W.keepIn K (.ref f) = true)
    (hb : ∀ (kV doc pm : Value) (an : Option Addr) (cdv ct : Value) (us : List Value), us.length = ps.length → bindArgs (PySem.W.fnOf m qual (C8.fnArgs st) (C8.fnBody st) (C8.fnScope st) .none kV doc pm an cdv ct) ⟨us, []⟩ = pure (ps.zip us)) : RawM K C m qual st ps :=
  ⟨f, _, ⟨a, i, k⟩, ⟨oc, od, .none, kV, dc, pm, an, cd, ct, sl, rfl, l, c⟩, .all (hb kV dc pm an cd ct)⟩
theorem rawI_mk {x : Str} {C : Addr} {qual : Str} {st : Stmt} {ps : List Str} {f : Addr} {od an : Option Addr} {sl : Array (Option Value)} {oc kV dc pm cd ct : Value} (X : K.In h) (G : h.Ns mainGlobals mg)
    (aC : PySem.W.nsIn K mainGlobals x = some (some (.ref C))) (mk : PySem.W.makesIn K C = true) (kc : PySem.W.keepIn K (.ref C) = true)
    (a : PySem.W.findIn K (.ref C) "__init__" = some (some (.ref f))) (i : PySem.W.isFn K (.ref f) = true) (l : K.lookup f = some ⟨oc, od, .func (PySem.W.fnOf "__init__" qual (C8.fnArgs st) (C8.fnBody st) (C8.fnScope st) .none kV dc pm an cd ct), sl⟩) (c : PySem.W.codeIn K cd qual = true)
    (hb : ∀ (kV doc pm : Value) (an : Option Addr) (cdv ct : Value) (us : List Value), us.length = ps.length → bindArgs (PySem.W.fnOf "__init__" qual (C8.fnArgs st) (C8.fnBody st) (C8.fnScope st) .none kV doc pm an cdv ct) ⟨us, []⟩ = pure (ps.zip us)) : RawI K mg x C qual st ps :=
  ⟨f, _, ⟨mk, a, i, kc⟩, PySem.W.mg_of X G aC, ⟨oc, od, .none, kV, dc, pm, an, cd, ct, sl, rfl, l, c⟩, .all (hb kV dc pm an cd ct)⟩
theorem num_mk {x : Str} {n : Int} {t : Tok} (X : K.In h) (G : h.Ns mainGlobals mg) (a : PySem.W.nsIn K mainGlobals x = some (some (.int n t))) : NumG mg x n := ⟨t, PySem.W.mg_of X G a⟩
theorem insC_mk {C : Addr} (pg : PySem.W.plainGet K C Str.empty = true) (hd : PySem.W.hasDictIn K C = true) (po : PySem.W.plainOver K C = true) (sa : PySem.W.findIn K (.ref C) "__setattr__" = some (some (.builtin "object.__setattr__")))
    (ha : PySem.W.findIn K (.ref C) "__class__" = some (some (.builtin "object.__class__"))) (hn : PySem.W.specialIn K (.builtin "object.__class__") "__get__" = some (some (.builtin "getset_descriptor.__get__"))) (htk : PySem.W.takesIn K (.builtin "object.__class__") = some true)
    (hm : PySem.W.mroIn K C (.type "object") = some true) (me : PySem.W.kitOne K (.ref C) (.ref C) = some true) : C8.InsC K C := ⟨⟨pg, hd, po, sa⟩, ha, hn, htk, hm, me⟩
theorem tx_mk {CL CG CP : Addr} (X : K.In h) (G : h.Ns mainGlobals mg) (aL : PySem.W.nsIn K mainGlobals "Layer" = some (some (.ref CL))) (aG : PySem.W.nsIn K mainGlobals "Group" = some (some (.ref CG))) (iL : C8.InsC K CL) (iG : C8.InsC K CG) (cP : Cls K CP)
    (kLG : PySem.W.kitOne K (.ref CL) (.ref CG) = some false) (kGL : PySem.W.kitOne K (.ref CG) (.ref CL) = some false) (nL : ∀ f ∈ layNames, NoAttr K CL f) (nG : ∀ f ∈ grpNames, NoAttr K CG f) (nP : ∀ f ∈ picNames, NoAttr K CP f)
    (z1 : mg "len" = none) (z2 : mg "isinstance" = none) (z3 : mg "enumerate" = none) : Tx K mg ⟨CL, CG, CP⟩ := ⟨iL, iG, cP, kLG, kGL, PySem.W.mg_of X G aL, PySem.W.mg_of X G aG, nL, nG, nP, z1, z2, z3⟩
theorem na_nil {C : Addr} : ∀ f ∈ ([] : List Str), NoAttr K C f := fun f h => (List.not_mem_nil h).elim
theorem na_cons {C : Addr} {f : Str} {l : List Str} (h : PySem.W.findIn K (.ref C) f = some none) (r : ∀ x ∈ l, NoAttr K C x) : ∀ x ∈ f :: l, NoAttr K C x := fun x hx => by
  rcases List.mem_cons.mp hx with e | e
  · rw [e]; exact h
  · exact r x e
/-- a class's def that is called through the class -/
theorem clsfn_mk {P : Program} {w : World} {x m qual : Str} {st : Stmt} {ps : List Str} {sp : Sp} {k : Nat} {C f : Addr} {od an : Option Addr} {sl : Array (Option Value)} {oc kV dc pm cd ct : Value} (X : K.In h) (G : h.Ns mainGlobals mg)
    (a : PySem.W.nsIn K mainGlobals x = some (some (.ref C))) (rd : PySem.W.readsIn K C (.type "type") = true) (ga : PySem.W.specialIn K (.ref C) "__getattribute__" = some (some (.builtin "type.__getattribute__")))
    (at_ : PySem.W.findCls K (.ref C) (.type "type") m = some (.val (.ref f))) (l : K.lookup f = some ⟨oc, od, .func (PySem.W.fnOf m qual (C8.fnArgs st) (C8.fnBody st) (C8.fnScope st) .none kV dc pm an cd ct), sl⟩) (c : PySem.W.codeIn K cd qual = true) (kp : PySem.W.keepIn K (.ref f) = true)
    (hb : ∀ (kV doc pm : Value) (an : Option Addr) (cdv ct : Value) (us : List Value), us.length = ps.length → bindArgs (PySem.W.fnOf m qual (C8.fnArgs st) (C8.fnBody st) (C8.fnScope st) .none kV doc pm an cdv ct) ⟨us, []⟩ = pure (ps.zip us))
    (ok : ∀ (base : Heap) (f : Addr) (fd : FuncData), C8.Fun K m qual st f fd → FnOk P w K mg base CX0 k f fd ps sp) : ∀ base, ClsFn P w K mg base k x m sp := fun base =>
  ⟨C, f, _, ps, PySem.W.mg_of X G a, ⟨⟨rd, ga⟩, at_⟩, ok base f _ ⟨oc, od, .none, kV, dc, pm, an, cd, ct, sl, rfl, l, c⟩, kp, .all (hb kV dc pm an cd ct)⟩
/-- the def that is asked -/
theorem main_mk {P : Program} {w : World} {x : Str} {st : Stmt} {ps : List Str} {sp : Sp} {n : Nat} {fa f : Addr} {od an : Option Addr} {sl : Array (Option Value)} {oc kV dc pm cd ct : Value} (X : K.In h) (G : h.Ns mainGlobals mg) (hfa : mg x = some (.ref fa))
    (a : PySem.W.nsIn K mainGlobals x = some (some (.ref f))) (l : K.lookup f = some ⟨oc, od, .func (PySem.W.fnOf x x (C8.fnArgs st) (C8.fnBody st) (C8.fnScope st) .none kV dc pm an cd ct), sl⟩) (c : PySem.W.codeIn K cd x = true)
    (hb : ∀ (kV doc pm : Value) (an : Option Addr) (cdv ct : Value) (us : List Value), us.length = ps.length → bindArgs (PySem.W.fnOf x x (C8.fnArgs st) (C8.fnBody st) (C8.fnScope st) .none kV doc pm an cdv ct) ⟨us, []⟩ = pure (ps.zip us))
    (ok : ∀ (base : Heap) (fd : FuncData), C8.Fun K x x st fa fd → FnOk P w K mg base CX0 n fa fd ps sp) :
    ∃ fd : FuncData, (∀ (s : Shared) (us : List Value), us.length = ps.length → BindsTo s fd ⟨us, []⟩ (ps.zip us)) ∧ ∀ base : Heap, K.In base → base.Ns mainGlobals mg → FnOk P w K mg base CX0 n fa fd ps sp := by
  have e := hfa.symm.trans (PySem.W.mg_of X G a)
  cases e
  exact ⟨_, fun s us hu => .of_eq (hb kV dc pm an cd ct us hu), fun base _ _ => ok base _ ⟨oc, od, .none, kV, dc, pm, an, cd, ct, sl, rfl, l, c⟩⟩
abbrev RawOf (X : K.In h) (mg : Str → Option Value) (x : Str) (st : Stmt) (ps : List Str) : Prop := Raw K mg x st ps
abbrev RawMOf (X : K.In h) (C : Addr) (m qual : Str) (st : Stmt) (ps : List Str) : Prop := RawM K C m qual st ps
abbrev TxOf (X : K.In h) (mg : Str → Option Value) (C : Cs) : Prop := Tx K mg C
abbrev ClsFnOf (X : K.In h) (P : Program) (w : World) (mg : Str → Option Value) (k : Nat) (x m : Str) (sp : PySem.W.Frag → Sp) : Prop := ∀ base, ClsFn P w K mg base k x m (sp K)
abbrev DictOf (X : K.In h) (mg : Str → Option Value) (x : Str) (kvs : List (Int × Int)) : Prop := ∃ d es n, mg x = some (.ref d) ∧ K.lookup d = some ⟨.type "dict", none, .dict es n, #[]⟩
abbrev RawIOf (X : K.In h) (mg : Str → Option Value) (x : Str) (C : Addr) (qual : Str) (st : Stmt) (ps : List Str) : Prop := RawI K mg x C qual st ps
end
end Lay
set_option Elab.async false
set_option linter.all false
set_option maxRecDepth 100000
set_option maxHeartbeats 2000000
namespace Lay
open PySem PySem.Spec PyProof.Rows L2
/-! ### a dict of the module, whole numbers to whole numbers -/
def entOk : List DictEntry → List (Int × Int) → Bool
  | [], [] => true
  | e :: es, kv :: r => decide (e.hash = hashInt kv.1) && (Value.isInt kv.1 e.key && (Value.isInt kv.2 e.val && entOk es r))
  | _, _ => false
structure IntDict (K : PySem.W.Frag) (a : Addr) (kvs : List (Int × Int)) : Prop where
  ex : ∃ es n, K.lookup a = some ⟨.type "dict", none, .dict es n, #[]⟩ ∧ entOk es.toList kvs = true
theorem ent_keys (P : Program) (w : World) : ∀ (es : List DictEntry) (kvs : List (Int × Int)), entOk es kvs = true → ∀ e ∈ es, ∃ k, (intKind P w).is k e.key = true ∧ e.hash = (intKind P w).hash k
  | [], _, _, e, he => by cases he
  | x :: es, [], h, e, he => by cases h
  | x :: es, kv :: r, h, e, he => by
    unfold entOk at h
    simp only [Bool.and_eq_true, decide_eq_true_eq] at h
    rcases List.mem_cons.mp he with z | z
    · rw [z]; exact ⟨kv.1, h.2.1, h.1⟩
    · exact ent_keys P w es r h.2.2.2 e z
theorem ent_find : ∀ (es : List DictEntry) (kvs : List (Int × Int)) (k v : Int), entOk es kvs = true → kvs.lookup k = some v → ∃ t, (es.find? fun e => Value.isInt k e.key).map (·.val) = some (.int v t)
  | [], [], k, v, _, hl => by cases hl
  | [], _ :: _, k, v, h, _ => by cases h
  | x :: es, [], k, v, h, _ => by cases h
  | x :: es, (k0, v0) :: r, k, v, h, hl => by
    unfold entOk at h
    simp only [Bool.and_eq_true, decide_eq_true_eq] at h
    obtain ⟨t, ek⟩ := Value.isInt_shape h.2.1
    obtain ⟨u, ev⟩ := Value.isInt_shape h.2.2.1
    by_cases c : k = k0
    · subst c
      have : v0 = v := by
        have z : List.lookup k ((k, v0) :: r) = some v0 := by simp [List.lookup]
        rw [z] at hl; exact Option.some.inj hl
      subst this
      refine ⟨u, ?_⟩
      rw [List.find?_cons_of_pos (by exact h.2.1), Option.map_some, ev]
    · have z : List.lookup k ((k0, v0) :: r) = List.lookup k r := by
        have : (k == k0) = false := beq_eq_false_iff_ne.mpr c
        simp only [List.lookup, this]
      rw [z] at hl
      have nk : ¬ Value.isInt k x.key = true := by
        intro q
        rw [ek] at q
        have z : k0 = k := by simpa [Value.isInt] using q
        exact c z.symm
      rw [List.find?_cons_of_neg (by exact nk)]
      exact ent_find es r k v h.2.2.2 hl
def rIxI (K : PySem.W.Frag) : R2 := fun x y H Q => ∃ p kvs i v, x = .ref p ∧ y = .int i ∧ IntDict K p kvs ∧ kvs.lookup i = some v ∧ Q (.int v) H
section
variable {X : Cx}
theorem ix_intDict : IxR X (rIxI X.K) := by
  intro value slice pins s σ H x y v u Q I rx ry h hs
  obtain ⟨p, kvs, i, r, rfl, rfl, ⟨es, n, hl, hk⟩, e, q⟩ := h
  obtain rfl : v = Value.ref p := rx
  obtain ⟨t, rfl⟩ := ry
  have hg : s.heap.get? p = some ⟨.type "dict", none, .dict es n, #[]⟩ := I.kIn p _ hl
  have hm : s.heap.MapOf (intKind X.prog X.w) p (findBy (intKind X.prog X.w).is es) := ⟨_, es, n, hg, ⟨rfl, rfl, rfl⟩, rfl, fun e he => ent_keys X.prog X.w es.toList kvs hk e (Array.mem_toList_iff.mpr he), fun _ => rfl⟩
  obtain ⟨tv, hf⟩ := ent_find es.toList kvs i r hk e
  have hf' : findBy (intKind X.prog X.w).is es i = some (.int r tv) := by
    unfold findBy
    rw [← Array.find?_toList]
    exact hf
  exact tail_any hm.typeIs slot_dict_getitem.lookup (wpAny_getItem_of (show (intKind X.prog X.w).is i (.int i t) = true by simp [intKind, Value.isInt]) hm hf' ⟨.int r, H, I.tok _, ⟨tv, rfl⟩, q⟩) hs
end
theorem dict_mk {K : PySem.W.Frag} {h : Heap} {mg : Str → Option Value} {x : Str} {d : Addr} {es : Array DictEntry} {n : Nat} {kvs : List (Int × Int)} (X : K.In h) (G : h.Ns mainGlobals mg) (a : PySem.W.nsIn K mainGlobals x = some (some (.ref d))) (l : K.lookup d = some ⟨.type "dict", none, .dict es n, #[]⟩)
    (e : entOk es.toList kvs = true) : ∃ d, mg x = some (.ref d) ∧ IntDict K d kvs := ⟨d, PySem.W.mg_of X G a, es, n, l, e⟩
abbrev DictG {K : PySem.W.Frag} {h : Heap} (X : K.In h) (mg : Str → Option Value) (x : Str) (kvs : List (Int × Int)) : Prop := ∃ d, mg x = some (.ref d) ∧ IntDict K d kvs
end Lay
set_option Elab.async false
set_option linter.all false
set_option maxRecDepth 100000
set_option maxHeartbeats 2000000
namespace Lay
open PySem PySem.Spec PyProof.Rows L2
open Sq49 (Node How House says offset Call)
open LCalls (enc told ofN)
abbrev sEnd : Stmt := topS 77
abbrev sGo : Stmt := topS 76
abbrev sAnswers : Stmt := topS 75
def intsI (l : List Int) : List V := l.map V.int
/-- how many numbers stand behind a call's own -/
def sizeOf : Call → Nat
  | .begin_ .. => 2
  | .layer .. => 4
  | .group .. => 2
  | .open_ .. => 1
  | .how .. => 5
  | .shift .. => 3
  | .paint .. => 5
  | .drop .. => 1
  | .lift .. => 2
  | .dot .. => 2
  | .row .. => 1
  | .matters .. => 2
  | .flat => 0
  | .list => 0
def kindOf : Call → Int
  | .begin_ .. => 1
  | .layer .. => 2
  | .group .. => 3
  | .open_ .. => 4
  | .how .. => 5
  | .shift .. => 6
  | .paint .. => 7
  | .drop .. => 8
  | .lift .. => 9
  | .dot .. => 10
  | .row .. => 11
  | .matters .. => 12
  | .flat => 13
  | .list => 14
/-- what stands behind a call's number -/
def tailOf (k : Call) : List Int := (enc k).tail
theorem enc_eq (k : Call) : enc k = kindOf k :: tailOf k := by cases k <;> rfl
def sizesD : List (Int × Int) := [(1, 2), (2, 4), (3, 2), (4, 1), (5, 5), (6, 3), (7, 5), (8, 1), (9, 2), (10, 2), (11, 1), (12, 2), (13, 0), (14, 0)]
theorem sizes_of (k : Call) : sizesD.lookup (kindOf k) = some (sizeOf k : Int) := by cases k <;> rfl
theorem tail_len (k : Call) (h : kindOf k ≠ 2) : (tailOf k).length = sizeOf k := by cases k <;> first | rfl | exact absurd rfl h
theorem ofN_len (l : List Nat) : (ofN l).length = l.length := by unfold ofN; rw [List.length_map]
section
variable {P : Program} {w : World} {K : PySem.W.Frag} {mg : Str → Option Value} {base : Heap} {C : Cs}
structure Td (K : PySem.W.Frag) (mg : Str → Option Value) : Prop where
  sizes : ∃ d, mg "SIZES" = some (.ref d) ∧ IntDict K d sizesD
  layer : NumG mg "LAYER" 2
def spEnd (K : PySem.W.Frag) : Sp := fun vs H Q _ => ∃ (a : Addr) (pre post : List Int) (k : Call), vs = [.ref a, .int (pre.length : Nat)] ∧ SqL K H a (intsI (pre ++ (enc k ++ post))) ∧ Q (.int ((pre.length + (enc k).length : Nat) : Int)) H
theorem scEnd : FnScope ["calls", "place", "kind", "end"] ["calls", "place"] (C8.fnScope sEnd) := C8.fnScope_by (by decide +kernel)
theorem intsI_append (a b : List Int) : intsI (a ++ b) = intsI a ++ intsI b := List.map_append
theorem intsI_len (a : List Int) : (intsI a).length = a.length := List.length_map _
theorem at_place {pre post : List Int} {x : Int} : atI (intsI (pre ++ x :: post)) ((pre.length : Nat) : Int) = some (.int x) := by
  refine atI_nat ?_
  rw [intsI_append, List.getElem?_append_right (by rw [intsI_len]; exact Nat.le_refl _), intsI_len, Nat.sub_self]
  rfl
theorem int_ne {a b : Int} (h : a ≠ b) : decide (V.int a = V.int b) = false := decide_eq_false fun q => h (by injection q)
theorem end_ok (R : Raw K mg "end_of_call" sEnd ["calls", "place"]) (D : Td K mg) : C8.Cal P w K mg base 1 "end_of_call" (spEnd K) [] := by
  refine R.cal scEnd (fun vs H Q E h => ?_) (fun f cdv A outer s H vs Q E hr h => ?_)
  · obtain ⟨a, pre, post, k, rfl, _⟩ := h
    rfl
  · obtain ⟨a, pre, post, k, rfl, hS, q⟩ := h
    obtain ⟨d, gd, hd⟩ := D.sizes
    refine ⟨_, pss_cons (ps_set (i := 2) scEnd.nd rfl (Or.inl rfl) (pe_ix ix_list (pv 0) (pv 1) (fun _ _ => rfl)))
      (pss_cons (ps_set (i := 3) scEnd.nd rfl (Or.inl rfl) (pe_op op_add (pe_op op_add (pv 1) pe_int) (pe_ix ix_intDict (pe_ref (by rfl) gd) (pv 2) (fun _ _ => rfl))))
      (pss_cons (ps_if (pt_cmpR op_eq (pv 2) (pe_num (by rfl) D.layer) (nomark _)) (pss_one (ps_set (i := 3) scEnd.nd rfl (Or.inl rfl) (pe_op op_add (pe_op op_add (pv 3) pe_int) (pe_ix ix_list (pv 0) (pv 3) (fun _ _ => rfl))))) pss_nil)
      (pss_one (ps_ret (pv 3))))), ?_⟩
    have hk : pre ++ (enc k ++ post) = pre ++ kindOf k :: (tailOf k ++ post) := by rw [enc_eq]; rfl
    refine ⟨_, rfl, _, rfl, a, _, _, _, rfl, rfl, hS, by rw [hk]; exact at_place, ?_⟩
    refine ⟨_, rfl, _, _, rfl, rfl, _, rfl, d, _, _, _, rfl, rfl, hd, sizes_of k, _, _, rfl, rfl, ?_⟩
    refine ⟨_, rfl, rfl, _, rfl, iteB (fun c => ?_) (fun c => ?_)⟩
    · have c' : kindOf k = 2 := by
        have z : V.int (kindOf k) = V.int 2 := of_decide_eq_true c
        injection z
      cases k with
      | layer x y wd ht l =>
        have e2 : pre ++ (enc (.layer x y wd ht l) ++ post) = (pre ++ [2, (x : Int), (y : Int), (wd : Int), (ht : Int)]) ++ (l.length : Int) :: (ofN l ++ post) := by
          rw [List.append_assoc]
          rfl
        have e3 : ((pre ++ [2, (x : Int), (y : Int), (wd : Int), (ht : Int)]).length : Int) = (pre.length : Int) + 1 + 4 := by
          rw [List.length_append]; show ((pre.length + 5 : Nat) : Int) = _; omega
        refine ⟨_, rfl, _, _, rfl, rfl, _, rfl, _, rfl, a, _, _, _, rfl, rfl, hS, by rw [e2, show ((pre.length : Nat) : Int) + 1 + ((sizeOf (.layer x y wd ht l) : Nat) : Int) = (((pre ++ [2, (x : Int), (y : Int), (wd : Int), (ht : Int)]).length : Nat) : Int) from e3.symm]; exact at_place, _, _, rfl, rfl, ?_⟩
        refine ⟨_, rfl, ?_⟩
        have e4 : ((pre.length + (enc (.layer x y wd ht l)).length : Nat) : Int) = (pre.length : Int) + 1 + 4 + 1 + (l.length : Int) := by
          have : (enc (.layer x y wd ht l)).length = 6 + l.length := by
            show (ofN l).length + 1 + 1 + 1 + 1 + 1 + 1 = _
            rw [ofN_len]; omega
          rw [this]; omega
        rw [e4] at q
        exact q
      | begin_ => cases c'
      | group => cases c'
      | open_ => cases c'
      | how => cases c'
      | shift => cases c'
      | paint => cases c'
      | drop => cases c'
      | lift => cases c'
      | dot => cases c'
      | row => cases c'
      | matters => cases c'
      | flat => cases c'
      | list => cases c'
    · have c' : kindOf k ≠ 2 := fun z => by
        have y : decide (V.int (kindOf k) = V.int 2) = false := c
        rw [z] at y
        cases y
      refine ⟨_, rfl, ?_⟩
      have e4 : ((pre.length + (enc k).length : Nat) : Int) = (pre.length : Int) + 1 + (sizeOf k : Int) := by
        rw [enc_eq, List.length_cons, tail_len k c']; omega
      rw [e4] at q
      exact q
/-- what answer_call promises -/
def spAnswer (K : PySem.W.Frag) (C : Cs) : Sp := fun vs H Q _ => ∃ (p tl : Addr) (k : Call) (g : House) (F : Addr → Prop), vs = [.ref p, .int (kindOf k), .ref tl] ∧ SqL K H tl (intsI (tailOf k)) ∧ LCalls.rowOk k ∧ State C H p g F ∧
  ∀ (H' : Hp) (r : Addr), State C H' p (g.step k).1 (more F H) → Kp F H H' → (∀ b o, H b = some o → ¬ F b → b ≠ r) → H' r = some (.lst (intsI ((g.step k).2.value :: (g.step k).2.out))) → Q (.ref r) H'
def spGo (K : PySem.W.Frag) (C : Cs) : Sp := fun vs H Q _ => ∃ (p a : Addr) (ks : List Call) (Tk : Prop), vs = [.ref p, .ref a] ∧ (∀ H' : Hp, (Tk → ∀ o, H a = some o → H' a = some o) → SqL K H' a (intsI (ks.flatMap enc))) ∧ (Tk → H a ≠ none) ∧ (∀ k ∈ ks, LCalls.rowOk k) ∧ (told Sq49.fresh ks).length ≤ 10000000 ∧ State C H p Sq49.fresh (fun b => ¬ (b = a ∧ Tk)) ∧
  ∀ (H' : Hp) (r : Addr), H' r = some (.lst (intsI (told Sq49.fresh ks))) → Q (.ref r) H'
theorem scGo : FnScope ["picture", "calls", "given", "place", "end", "answered"] ["picture", "calls"] (C8.fnScope sGo) := C8.fnScope_by (by decide +kernel)
theorem sq_kept {H H' : Hp} {a : Addr} {xs : List V} (h : SqL K H a xs) (kp : ∀ o, H a = some o → H' a = some o) : SqL K H' a xs := by
  rcases h with (h | ⟨z, h⟩) | h
  · exact .inl (.inl (kp _ h))
  · exact .inl (.inr ⟨z, kp _ h⟩)
  · exact .inr h
theorem cut_tail {pre post : List Int} {k : Call} : cutV (intsI (pre ++ (enc k ++ post))) (some ((pre.length : Int) + 1)) (some ((pre.length + (enc k).length : Nat) : Int)) = intsI (tailOf k) := by
  have el : (enc k).length = (tailOf k).length + 1 := by rw [enc_eq, List.length_cons]
  have z := cut_mid (xs := intsI (pre ++ (enc k ++ post))) (a := pre.length + 1) (b := pre.length + (enc k).length) (by omega) (by rw [intsI_len, List.length_append, List.length_append]; omega)
  have e : (((pre.length + 1 : Nat)) : Int) = (pre.length : Int) + 1 := rfl
  rw [e] at z
  rw [z]
  have e2 : pre ++ (enc k ++ post) = (pre ++ [kindOf k]) ++ (tailOf k ++ post) := by rw [enc_eq, List.append_assoc]; rfl
  rw [e2, intsI_append, intsI_append (tailOf k) post]
  rw [List.drop_left' (by rw [intsI_len, List.length_append]; rfl), List.take_left' (by rw [intsI_len]; omega)]
theorem told_cons (g : House) (k : Call) (l : List Call) : told g (k :: l) = (((g.step k).2.out.length + 1 : Nat) : Int) :: (g.step k).2.value :: ((g.step k).2.out ++ told (g.step k).1 l) := by
  conv => lhs; unfold told
theorem go_ok (R : Raw K mg "go_through" sGo ["picture", "calls"]) (T : Tx K mg C) (cE : C8.Cal P w K mg base 1 "end_of_call" (spEnd K) []) {n : Nat} (hn : 1 ≤ n) (cA : C8.Cal P w K mg base n "answer_call" (spAnswer K C) []) : C8.Cal P w K mg base (n + 1) "go_through" (spGo K C) [] := by
  refine R.cal scGo (fun vs H Q E h => ?_) (fun f cdv A outer s H vs Q E hr h => ?_)
  · obtain ⟨p, a, ks, Tk, rfl, _⟩ := h
    rfl
  · obtain ⟨p, a, ks, Tk, rfl, hS, hTk, hro, hbig, S, q⟩ := h
    refine ⟨_, pss_cons (ps_set (i := 2) scGo.nd rfl (Or.inl rfl) (pe_lst pa_nil))
      (pss_cons (ps_set (i := 3) scGo.nd rfl (Or.inl rfl) pe_int)
      (pss_cons (ps_while PassesOwn.never (pt_cmpR op_lt (pv 3) (pe_callB call_len_seq (by rfl) T.zlen PySem.boot_len (pa_cons (pv 1) pa_nil)) (nomark _))
        (pss_cons (ps_set (i := 4) scGo.nd rfl (Or.inl rfl) (C8.pe_c cE hr hn (by rfl) (pa_cons (pv 1) (pa_cons (pv 3) pa_nil))))
        (pss_cons (ps_set (i := 5) scGo.nd rfl (Or.inl rfl) (C8.pe_c cA hr (Nat.le_refl _) (by rfl) (pa_cons (pv 0) (pa_cons (pe_ix ix_list (pv 1) (pv 3) (fun _ _ => rfl)) (pa_cons (pe_slice sl_list (pv 1) (po_some (pe_op op_add (pv 3) pe_int)) (po_some (pv 4))) pa_nil)))))
        (pss_cons (ps_expr (pe_bm PySem.F.plainAttrs_list PySem.F.slot_list_append PySem.F.type_list_append mt_append (pv 2) (pa_cons (pe_callB call_len_seq (by rfl) T.zlen PySem.boot_len (pa_cons (pv 5) pa_nil)) pa_nil)))
        (pss_cons (ps_expr (pe_bm PySem.F.plainAttrs_list PySem.F.slot_list_extend PySem.F.type_list_extend mt_extend (pv 2) (pa_cons (pv 5) pa_nil)))
        (pss_one (ps_set (i := 3) scGo.nd rfl (Or.inl rfl) (pv 4))))))))
      (pss_one (ps_ret (pv 2))))), ?_⟩
    refine ⟨Nat.zero_le _, fun gv hgv => ?_⟩
    have s0 : Same H (upd H gv (.lst [])) := same_new hgv _
    refine while_by (fun σ H' => ∃ (done rest : List Call) (g : House) (out : List Int) (v4 v5 : Option V), σ = [some (.ref p), some (.ref a), some (.ref gv), some (.int ((done.flatMap enc).length : Nat)), v4, v5] ∧ ks = done ++ rest ∧
        State C H' p g (fun b => b ≠ gv ∧ ¬ (b = a ∧ Tk)) ∧ H' gv = some (.lst (intsI out)) ∧ out ++ told g rest = told Sq49.fresh ks ∧ (Tk → ∀ o, H a = some o → H' a = some o))
      (fun (σ : L2.St) (_ : Hp) => match σ[3]? with | some (some (V.int z)) => (ks.flatMap enc).length - z.toNat | _ => 0) ?_ ?_ ?_
    · refine ⟨[], ks, Sq49.fresh, [], none, none, rfl, rfl, ?_, upd_same, rfl, fun _ o e => s0 _ _ e⟩
      obtain ⟨dx, la, ts, ow, A', hF⟩ := S.same s0
      have B := S
      obtain ⟨dx0, la0, ts0, ow0, A0, hF0⟩ := S
      refine ⟨dx0, la0, ts0, ow0, A0.same s0, fun b hb => ⟨fun z => ?_, hF0 b hb⟩⟩
      have : ∃ o, H b = some o := by
        rcases foot_cases hb with e | e | ⟨t, ht, hc⟩
        · rw [e]; exact ⟨_, A0.self⟩
        · rw [e]; exact ⟨_, A0.lst⟩
        · exact (A0.held t ht).some_of b hc
      obtain ⟨o, e⟩ := this
      rw [z, hgv] at e
      cases e
    · rintro σ H1 ⟨done, rest, g, out, v4, v5, rfl, hks, S1, hg1, hout, hka⟩
      have hS1 : SqL K H1 a (intsI (ks.flatMap enc)) := hS H1 hka
      refine ⟨_, rfl, _, rfl, a, _, rfl, .inl hS1, _, _, rfl, rfl, _, rfl, iteB (fun c => ?_) (fun c => ?_)⟩
      · have c' : (((done.flatMap enc).length : Nat) : Int) < (((intsI (ks.flatMap enc)).length : Nat) : Int) := of_decide_eq_true c
        rw [intsI_len] at c'
        cases rest with
        | nil =>
          rw [List.append_nil] at hks
          rw [hks] at c'
          omega
        | cons k rest =>
          have efl : ks.flatMap enc = done.flatMap enc ++ (enc k ++ rest.flatMap enc) := by rw [hks, List.flatMap_append, List.flatMap_cons]
          have hS2 := hS1
          rw [efl] at hS2
          refine ⟨_, rfl, _, rfl, a, done.flatMap enc, rest.flatMap enc, k, rfl, hS2, ?_⟩
          have hk : done.flatMap enc ++ (enc k ++ rest.flatMap enc) = done.flatMap enc ++ kindOf k :: (tailOf k ++ rest.flatMap enc) := by rw [enc_eq]; rfl
          refine ⟨_, rfl, _, rfl, _, rfl, a, _, _, _, rfl, rfl, hS2, by rw [hk]; exact at_place, _, rfl, _, rfl, _, _, rfl, rfl, _, rfl, _, rfl, _, rfl, a, _, rfl, hS2, fun tl htl => ?_⟩
          rw [cut_tail]
          have s2 : Same H1 (upd H1 tl (.lst (intsI (tailOf k)))) := same_new htl _
          refine ⟨p, tl, k, g, _, rfl, SqL.of upd_same, hro k (by rw [hks]; exact List.mem_append_right _ List.mem_cons_self), S1.same s2, fun H3 r S3 kp3 hr3 er3 => ?_⟩
          have hg2 := s2 _ _ hg1
          have hg3 : H3 gv = some (.lst (intsI out)) := kp3 _ _ hg2 (fun z => z.1 rfl)
          have hka3 : Tk → ∀ o, H a = some o → H3 a = some o := fun tk o e => kp3 _ _ (s2 _ _ (hka tk o e)) (fun z => z.2 ⟨rfl, tk⟩)
          have S3' : State C H3 p (g.step k).1 (fun b => b ≠ gv ∧ ¬ (b = a ∧ Tk)) := S3.mono fun b hb => by
            rcases hb with z | z
            · exact z
            · refine ⟨fun y => ?_, fun y => ?_⟩
              · rw [y, hg2] at z; cases z
              · obtain ⟨y1, y2⟩ := y
                rw [y1] at z
                cases e : H a with
                | none => exact hTk y2 e
                | some o => rw [s2 _ _ (hka y2 o e)] at z; cases z
          have hlen : out.length + (1 + ((g.step k).2.out.length + 1)) ≤ 10000000 := by
            have z := congrArg List.length hout
            rw [told_cons, List.length_append, List.length_cons, List.length_cons, List.length_append] at z
            omega
          have hsl : (10000000 : Nat) < sizeLine := by decide
          refine ⟨_, rfl, .inl ⟨rfl, _, SqL.of hg3⟩, _, rfl, r, _, rfl, .inl (SqL.of er3), gv, _, _, rfl, rfl, hg3, (by rw [intsI_len]; omega), ?_⟩
          have nrg : r ≠ gv := Ne.symm (hr3 gv _ hg2 (fun z => z.1 rfl))
          refine ⟨_, rfl, .inl ⟨rfl, _, SqL.of upd_same⟩, _, rfl, gv, r, _, _, rfl, rfl, upd_same, by rw [upd_ne nrg]; exact er3, ?_, ?_⟩
          · rw [List.length_append, intsI_len, intsI_len]
            show out.length + 1 + ((g.step k).2.out.length + 1) ≤ sizeLine
            omega
          rw [upd_upd]
          refine ⟨_, rfl, ?_⟩
          have eln : (((intsI ((g.step k).2.value :: (g.step k).2.out)).length : Nat) : Int) = (((g.step k).2.out.length + 1 : Nat) : Int) := by rw [intsI_len]; rfl
          have eo : intsI out ++ [V.int (((intsI ((g.step k).2.value :: (g.step k).2.out)).length : Nat) : Int)] ++ intsI ((g.step k).2.value :: (g.step k).2.out) = intsI (out ++ ((((g.step k).2.out.length + 1 : Nat) : Int) :: (g.step k).2.value :: (g.step k).2.out)) := by
            rw [eln, intsI_append, List.append_assoc]
            rfl
          refine ⟨⟨done ++ [k], rest, (g.step k).1, out ++ ((((g.step k).2.out.length + 1 : Nat) : Int) :: (g.step k).2.value :: (g.step k).2.out), some (.int ((done.flatMap enc).length + (enc k).length : Nat)), some (.ref r), ?_, ?_, ?_, ?_, ?_, ?_⟩, ?_⟩
          · rw [List.flatMap_append, List.length_append]
            show _ = [some (V.ref p), some (V.ref a), some (V.ref gv), some (V.int (((done.flatMap enc).length + ([k].flatMap enc).length : Nat) : Int)), _, _]
            rw [show [k].flatMap enc = enc k by rw [List.flatMap_cons]; simp]
            rfl
          · rw [hks, List.append_assoc]; rfl
          · obtain ⟨dx, la, ts, ow, A', hF⟩ := S3'
            have off : ∀ b ∈ foot p la ts, b ≠ gv := fun b hb => (hF b hb).1
            refine ⟨dx, la, ts, ow, { A' with self := by rw [upd_ne (off _ mem_foot_p)]; exact A'.self, lst := by rw [upd_ne (off _ mem_foot_la)]; exact A'.lst, held := fun t ht => ?_ }, hF⟩
            exact (A'.held t ht).fr (F := [gv]) (Fr.upd List.mem_cons_self) fun c hc z => off c (mem_foot_t ht hc) (List.mem_singleton.mp z)
          · rw [upd_same]
            exact congrArg (fun z => some (HO.lst z)) eo
          · rw [← hout, told_cons, List.append_assoc]
            rfl
          · intro tk o e
            have nag : a ≠ gv := fun z => by rw [z, hgv] at e; cases e
            rw [upd_ne nag]; exact hka3 tk o e
          · show (ks.flatMap enc).length - (((done.flatMap enc).length + (enc k).length : Nat) : Int).toNat < (ks.flatMap enc).length - (((done.flatMap enc).length : Nat) : Int).toNat
            have : 0 < (enc k).length := by rw [enc_eq]; exact Nat.succ_pos _
            omega
      · have c' : ¬ (((done.flatMap enc).length : Nat) : Int) < (((intsI (ks.flatMap enc)).length : Nat) : Int) := of_decide_eq_false c
        rw [intsI_len] at c'
        refine ⟨_, rfl, ?_⟩
        cases rest with
        | nil =>
          have : told g [] = [] := by unfold told; rfl
          rw [this, List.append_nil] at hout
          rw [hout] at hg1
          exact q H1 gv hg1
        | cons k rest =>
          exfalso
          have : 0 < (enc k).length := by rw [enc_eq]; exact Nat.succ_pos _
          rw [hks, List.flatMap_append, List.flatMap_cons, List.length_append, List.length_append] at c'
          omega
    · rintro σ H1 Q1 Q2 hQ ⟨v, e1, v2, e2, x1, x2, x3, x4, x5, x6, x7, x8, x9, x10, x11⟩
      exact ⟨v, e1, v2, e2, x1, x2, x3, x4, x5, x6, x7, x8, x9, x10, hQ _ _ x11⟩
def spAnswers (K : PySem.W.Frag) : Sp := fun vs H Q _ => ∃ (a : Addr) (ks : List Call), vs = [.ref a] ∧ SqL K H a (intsI (ks.flatMap enc)) ∧ (∀ k ∈ ks, LCalls.rowOk k) ∧ (told Sq49.fresh ks).length ≤ 10000000 ∧
  ∀ (H' : Hp) (r : Addr), H' r = some (.lst (intsI (told Sq49.fresh ks))) → Q (.ref r) H'
theorem scAnswers : FnScope ["calls"] ["calls"] (C8.fnScope sAnswers) := C8.fnScope_by (by decide +kernel)
theorem fresh_state {H : Hp} {p dx la : Addr} {F : Addr → Prop} (e1 : H p = some (.ins C.P dx (picF 1 1 la 0))) (e2 : H la = some (.lst [])) (hp : F p) (hl : F la) : State C H p Sq49.fresh F := by
  refine ⟨dx, la, [], fun _ => 0, ⟨e1, e2, fun t h => (no_nil h).elim, rfl, rfl, fun t h => (no_nil h).elim, by unfold nodes; rfl, by rw [flat_nil]; exact List.nodup_nil, fun t h => (no_nil h).elim, by rw [flat_nil]; exact Nat.zero_le _, by unfold nodes LFrac.LGood; trivial, by decide, by decide, by decide, by decide⟩, fun b hb => ?_⟩
  rcases foot_cases hb with rfl | rfl | ⟨t, h, _⟩
  · exact hp
  · exact hl
  · exact (no_nil h).elim
theorem answers_fn {f : Addr} {fd : FuncData} (F : C8.Fun K "answers" "answers" sAnswers f fd) (T : Tx K mg C) {n : Nat} (hn : 3 ≤ n) (cP : C8.Mak P w K mg base 2 "Picture" C.P (spPicInit C) []) (cG : C8.Cal P w K mg base n "go_through" (spGo K C) []) : FnOk P w K mg base CX0 (n + 1) f fd ["calls"] (spAnswers K) := by
  refine C8.fn0 F scAnswers (fun vs H Q E h => ?_) (fun cdv A outer s H vs Q E hr h => ?_)
  · obtain ⟨a, ks, rfl, _⟩ := h
    rfl
  · obtain ⟨a, ks, rfl, hS, hro, hbig, q⟩ := h
    obtain ⟨fI, fdI, psI, dsI, MI, FI, gP, bI, dI⟩ := cP.ex
    refine ⟨_, pss_one (ps_ret (C8.pe_c cG hr (Nat.le_refl _) (by rfl) (pa_cons (pe_make0 MI FI (hr.mono hn) (by rfl) gP bI dI pass0) (pa_cons (pv 0) pa_nil)))), ?_⟩
    intro x dx hx hdx nex
    refine ⟨x, dx, rfl, upd_same, fun la hla => ⟨rfl, ?_⟩⟩
    have s1 : Same H (upd (upd (upd (upd H dx (.own x)) x (.ins C.P dx [])) la (.lst [])) x (.ins C.P dx (picF 1 1 la 0))) := fun b o e => by
      have n1 : b ≠ x := ne_of_none e hx
      have n2 : b ≠ dx := ne_of_none e hdx
      have e3 : upd (upd H dx (.own x)) x (.ins C.P dx []) b = some o := by rw [upd_ne n1, upd_ne n2]; exact e
      rw [upd_ne n1, upd_ne (ne_of_none e3 hla)]
      exact e3
    have nlx : la ≠ x := fun z => by rw [z, upd_same] at hla; cases hla
    have fla : H la = none := by
      cases e : H la with
      | none => rfl
      | some o =>
        rw [upd_ne nlx, upd_ne (fun z => by rw [z, hdx] at e; cases e)] at hla
        rw [e] at hla; cases hla
    refine ⟨_, rfl, x, a, ks, H a ≠ none, rfl, fun H' hk => sq_kept hS (fun o e => hk (by rw [e]; exact fun y => nomatch y) o (s1 _ _ e)), fun tk => ?_, hro, hbig, ?_, fun H' r e => q H' r e⟩
    · cases e : H a with
      | none => exact absurd e tk
      | some o => rw [s1 _ _ e]; exact fun y => nomatch y
    have keyA : ∀ b, H b = none → ¬ (b = a ∧ H a ≠ none) := fun b hb y => y.2 (by rw [← y.1]; exact hb)
    refine fresh_state (dx := dx) (la := la) upd_same (by rw [upd_ne nlx]; exact upd_same) ?_ ?_
    · exact keyA x hx
    · exact keyA la fla
end
end Lay
set_option Elab.async false
set_option linter.all false
set_option maxRecDepth 100000
set_option maxHeartbeats 2000000
namespace Lay
open PySem PySem.Spec PyProof.Rows L2
open Sq49 (Node How House says offset Call)
open LCalls (enc told ofN)
abbrev sAnswerCall : Stmt := topS 78
abbrev sChange : Stmt := topS 79
structure Nk (mg : Str → Option Value) : Prop where
  kBEGIN : NumG mg "BEGIN" 1
  kLAYER : NumG mg "LAYER" 2
  kGROUP : NumG mg "GROUP" 3
  kOPEN : NumG mg "OPEN" 4
  kHOW : NumG mg "HOW" 5
  kSHIFT : NumG mg "SHIFT" 6
  kPAINT : NumG mg "PAINT" 7
  kDROP : NumG mg "DROP" 8
  kLIFT : NumG mg "LIFT" 9
  kDOT : NumG mg "DOT" 10
  kROW : NumG mg "ROW" 11
  kMATTERS : NumG mg "MATTERS" 12
  kLIST : NumG mg "LIST" 14
theorem if_no {a b : Int} {A B : Prop} (h : a ≠ b) (q : B) : if decide (V.int a = V.int b) = true then A else B := by rw [int_ne h]; exact iteF q
theorem if_yes {a : Int} {A B : Prop} (q : A) : if decide (V.int a = V.int a) = true then A else B := by rw [decide_eq_true rfl]; exact iteT q
theorem Prom.same {C : Cs} {p : Addr} {c : Call} {H H1 : Hp} {Q : VK} (h : Prom C p c H Q) (s : Same H H1) : Prom C p c H1 Q := by
  obtain ⟨g, F, S, k⟩ := h
  refine ⟨g, F, S.same s, fun H' S' kp o => k H' (S'.mono fun b hb => hb.imp id fun z => s.free z) (fun b o e n => kp b o (s _ _ e) n) o⟩
/-- a call that changes the picture -/
def isChange : Call → Bool
  | .dot .. => false
  | .row .. => false
  | .matters .. => false
  | .list => false
  | _ => true
section
variable {P : Program} {w : World} {K : PySem.W.Frag} {mg : Str → Option Value} {base : Heap} {C : Cs} {D : Addr}
def spChange (K : PySem.W.Frag) (C : Cs) : Sp := fun vs H Q _ => ∃ (p tl : Addr) (k : Call), vs = [.ref p, .int (kindOf k), .ref tl] ∧ SqL K H tl (intsI (tailOf k)) ∧ isChange k = true ∧ Prom C p k H Q
theorem scChange : FnScope ["picture", "kind", "told"] ["picture", "kind", "told"] (C8.fnScope sChange) := C8.fnScope_by (by decide +kernel)
theorem cut_five {x y w h : Nat} {l : List Nat} : cutV (intsI (tailOf (.layer x y w h l))) (some 5) none = intsV l := by
  have z := cut_from (xs := intsI (tailOf (.layer x y w h l))) (a := 5) (by
    rw [intsI_len]
    show 5 ≤ (ofN [x, y, w, h, l.length] ++ ofN l).length
    rw [List.length_append]
    exact Nat.le_add_right _ _)
  exact z
theorem change_ok (R : Raw K mg "answer_change" sChange ["picture", "kind", "told"]) (N : Nk mg) (cBeg : C8.Cal P w K mg base (2) "begin" (spBeg C) []) (cLay : C8.Cal P w K mg base (DEEP + 2) "make_layer" (spMkLayer K C) []) (cGrp : C8.Cal P w K mg base (DEEP + 2) "make_group" (spMkGroup C) []) (cOpn : C8.Cal P w K mg base (DEEP + 2) "open_group" (spOpen C) []) (cHow : C8.Cal P w K mg base (DEEP + 2) "set_how" (spHow C) []) (cShf : C8.Cal P w K mg base (DEEP + 2) "shift_layer" (spShift C) []) (cPnt : C8.Cal P w K mg base (DEEP + 2) "paint_layer" (spPaint C) []) (cDrp : C8.Cal P w K mg base (DEEP + 2) "drop_thing" (spDrop C) []) (cLft : C8.Cal P w K mg base (DEEP + 2) "lift_thing" (spLift C) []) (cFlt : C8.Cal P w K mg base (LPUT + 3) "make_flat" (spFlat C) []) : C8.Cal P w K mg base (LPUT + 4) "answer_change" (spChange K C) [] := by
  refine R.cal scChange (fun vs H Q E h => ?_) (fun f cdv A outer s H vs Q E hr h => ?_)
  · obtain ⟨p, tl, k, rfl, _⟩ := h
    rfl
  · obtain ⟨p, tl, k, rfl, hS, hc, q⟩ := h
    refine ⟨_, (pss_cons (ps_if (pt_cmpR op_eq (pv 1) (pe_num (by rfl) N.kBEGIN) (nomark _)) (pss_one (ps_ret (C8.pe_c cBeg hr (by decide) (by rfl) (pa_cons (pv 0) (pa_cons (pe_ix ix_list (pv 2) pe_int (fun _ _ => rfl)) (pa_cons (pe_ix ix_list (pv 2) pe_int (fun _ _ => rfl)) pa_nil)))))) pss_nil)
      (pss_cons (ps_if (pt_cmpR op_eq (pv 1) (pe_num (by rfl) N.kLAYER) (nomark _)) (pss_one (ps_ret (C8.pe_c cLay hr (by decide) (by rfl) (pa_cons (pv 0) (pa_cons (pe_ix ix_list (pv 2) pe_int (fun _ _ => rfl)) (pa_cons (pe_ix ix_list (pv 2) pe_int (fun _ _ => rfl)) (pa_cons (pe_ix ix_list (pv 2) pe_int (fun _ _ => rfl)) (pa_cons (pe_ix ix_list (pv 2) pe_int (fun _ _ => rfl)) (pa_cons (pe_slice sl_list (pv 2) (po_some pe_int) po_none) pa_nil))))))))) pss_nil)
      (pss_cons (ps_if (pt_cmpR op_eq (pv 1) (pe_num (by rfl) N.kGROUP) (nomark _)) (pss_one (ps_ret (C8.pe_c cGrp hr (by decide) (by rfl) (pa_cons (pv 0) (pa_cons (pe_ix ix_list (pv 2) pe_int (fun _ _ => rfl)) (pa_cons (pe_ix ix_list (pv 2) pe_int (fun _ _ => rfl)) pa_nil)))))) pss_nil)
      (pss_cons (ps_if (pt_cmpR op_eq (pv 1) (pe_num (by rfl) N.kOPEN) (nomark _)) (pss_one (ps_ret (C8.pe_c cOpn hr (by decide) (by rfl) (pa_cons (pv 0) (pa_cons (pe_ix ix_list (pv 2) pe_int (fun _ _ => rfl)) pa_nil))))) pss_nil)
      (pss_cons (ps_if (pt_cmpR op_eq (pv 1) (pe_num (by rfl) N.kHOW) (nomark _)) (pss_one (ps_ret (C8.pe_c cHow hr (by decide) (by rfl) (pa_cons (pv 0) (pa_cons (pe_ix ix_list (pv 2) pe_int (fun _ _ => rfl)) (pa_cons (pe_ix ix_list (pv 2) pe_int (fun _ _ => rfl)) (pa_cons (pe_ix ix_list (pv 2) pe_int (fun _ _ => rfl)) (pa_cons (pe_ix ix_list (pv 2) pe_int (fun _ _ => rfl)) (pa_cons (pe_ix ix_list (pv 2) pe_int (fun _ _ => rfl)) pa_nil))))))))) pss_nil)
      (pss_cons (ps_if (pt_cmpR op_eq (pv 1) (pe_num (by rfl) N.kSHIFT) (nomark _)) (pss_one (ps_ret (C8.pe_c cShf hr (by decide) (by rfl) (pa_cons (pv 0) (pa_cons (pe_ix ix_list (pv 2) pe_int (fun _ _ => rfl)) (pa_cons (pe_ix ix_list (pv 2) pe_int (fun _ _ => rfl)) (pa_cons (pe_ix ix_list (pv 2) pe_int (fun _ _ => rfl)) pa_nil))))))) pss_nil)
      (pss_cons (ps_if (pt_cmpR op_eq (pv 1) (pe_num (by rfl) N.kPAINT) (nomark _)) (pss_one (ps_ret (C8.pe_c cPnt hr (by decide) (by rfl) (pa_cons (pv 0) (pa_cons (pe_ix ix_list (pv 2) pe_int (fun _ _ => rfl)) (pa_cons (pe_ix ix_list (pv 2) pe_int (fun _ _ => rfl)) (pa_cons (pe_ix ix_list (pv 2) pe_int (fun _ _ => rfl)) (pa_cons (pe_ix ix_list (pv 2) pe_int (fun _ _ => rfl)) (pa_cons (pe_ix ix_list (pv 2) pe_int (fun _ _ => rfl)) pa_nil))))))))) pss_nil)
      (pss_cons (ps_if (pt_cmpR op_eq (pv 1) (pe_num (by rfl) N.kDROP) (nomark _)) (pss_one (ps_ret (C8.pe_c cDrp hr (by decide) (by rfl) (pa_cons (pv 0) (pa_cons (pe_ix ix_list (pv 2) pe_int (fun _ _ => rfl)) pa_nil))))) pss_nil)
      (pss_cons (ps_if (pt_cmpR op_eq (pv 1) (pe_num (by rfl) N.kLIFT) (nomark _)) (pss_one (ps_ret (C8.pe_c cLft hr (by decide) (by rfl) (pa_cons (pv 0) (pa_cons (pe_ix ix_list (pv 2) pe_int (fun _ _ => rfl)) (pa_cons (pe_ix ix_list (pv 2) pe_int (fun _ _ => rfl)) pa_nil)))))) pss_nil)
      (pss_one (ps_ret (C8.pe_c cFlt hr (Nat.le_refl _) (by rfl) (pa_cons (pv 0) pa_nil))))))))))))), ?_⟩
    cases k with
    | begin_ w h =>
      refine ⟨_, rfl, rfl, _, rfl, if_yes (a := 1) ?_⟩
      exact ⟨_, rfl, _, rfl, tl, _, _, _, rfl, rfl, hS, (by exact atI_nat (j := 0) rfl), _, rfl, tl, _, _, _, rfl, rfl, hS, (by exact atI_nat (j := 1) rfl), p, w, h, rfl, q⟩
    | layer x y wd ht l =>
      refine ⟨_, rfl, rfl, _, rfl, if_no (a := 2) (b := 1) (by decide) ?_⟩
      refine ⟨_, rfl, rfl, _, rfl, if_yes (a := 2) ?_⟩
      refine ⟨_, rfl, _, rfl, tl, _, _, _, rfl, rfl, hS, (by exact atI_nat (j := 0) rfl), _, rfl, tl, _, _, _, rfl, rfl, hS, (by exact atI_nat (j := 1) rfl), _, rfl, tl, _, _, _, rfl, rfl, hS, (by exact atI_nat (j := 2) rfl), _, rfl, tl, _, _, _, rfl, rfl, hS, (by exact atI_nat (j := 3) rfl), _, rfl, _, rfl, tl, _, rfl, hS, fun pl hpl => ?_⟩
      rw [cut_five]
      exact ⟨p, pl, x, y, wd, ht, l, rfl, SqL.of upd_same, q.same (same_new hpl _)⟩
    | group i n =>
      refine ⟨_, rfl, rfl, _, rfl, if_no (a := 3) (b := 1) (by decide) ?_⟩
      refine ⟨_, rfl, rfl, _, rfl, if_no (a := 3) (b := 2) (by decide) ?_⟩
      refine ⟨_, rfl, rfl, _, rfl, if_yes (a := 3) ?_⟩
      exact ⟨_, rfl, _, rfl, tl, _, _, _, rfl, rfl, hS, (by exact atI_nat (j := 0) rfl), _, rfl, tl, _, _, _, rfl, rfl, hS, (by exact atI_nat (j := 1) rfl), p, i, n, rfl, q⟩
    | open_ i =>
      refine ⟨_, rfl, rfl, _, rfl, if_no (a := 4) (b := 1) (by decide) ?_⟩
      refine ⟨_, rfl, rfl, _, rfl, if_no (a := 4) (b := 2) (by decide) ?_⟩
      refine ⟨_, rfl, rfl, _, rfl, if_no (a := 4) (b := 3) (by decide) ?_⟩
      refine ⟨_, rfl, rfl, _, rfl, if_yes (a := 4) ?_⟩
      exact ⟨_, rfl, _, rfl, tl, _, _, _, rfl, rfl, hS, (by exact atI_nat (j := 0) rfl), p, i, rfl, q⟩
    | how i s a m c =>
      refine ⟨_, rfl, rfl, _, rfl, if_no (a := 5) (b := 1) (by decide) ?_⟩
      refine ⟨_, rfl, rfl, _, rfl, if_no (a := 5) (b := 2) (by decide) ?_⟩
      refine ⟨_, rfl, rfl, _, rfl, if_no (a := 5) (b := 3) (by decide) ?_⟩
      refine ⟨_, rfl, rfl, _, rfl, if_no (a := 5) (b := 4) (by decide) ?_⟩
      refine ⟨_, rfl, rfl, _, rfl, if_yes (a := 5) ?_⟩
      exact ⟨_, rfl, _, rfl, tl, _, _, _, rfl, rfl, hS, (by exact atI_nat (j := 0) rfl), _, rfl, tl, _, _, _, rfl, rfl, hS, (by exact atI_nat (j := 1) rfl), _, rfl, tl, _, _, _, rfl, rfl, hS, (by exact atI_nat (j := 2) rfl), _, rfl, tl, _, _, _, rfl, rfl, hS, (by exact atI_nat (j := 3) rfl), _, rfl, tl, _, _, _, rfl, rfl, hS, (by exact atI_nat (j := 4) rfl), p, i, s, a, m, c, rfl, q⟩
    | shift i x y =>
      refine ⟨_, rfl, rfl, _, rfl, if_no (a := 6) (b := 1) (by decide) ?_⟩
      refine ⟨_, rfl, rfl, _, rfl, if_no (a := 6) (b := 2) (by decide) ?_⟩
      refine ⟨_, rfl, rfl, _, rfl, if_no (a := 6) (b := 3) (by decide) ?_⟩
      refine ⟨_, rfl, rfl, _, rfl, if_no (a := 6) (b := 4) (by decide) ?_⟩
      refine ⟨_, rfl, rfl, _, rfl, if_no (a := 6) (b := 5) (by decide) ?_⟩
      refine ⟨_, rfl, rfl, _, rfl, if_yes (a := 6) ?_⟩
      exact ⟨_, rfl, _, rfl, tl, _, _, _, rfl, rfl, hS, (by exact atI_nat (j := 0) rfl), _, rfl, tl, _, _, _, rfl, rfl, hS, (by exact atI_nat (j := 1) rfl), _, rfl, tl, _, _, _, rfl, rfl, hS, (by exact atI_nat (j := 2) rfl), p, i, x, y, rfl, q⟩
    | paint i x y v c =>
      refine ⟨_, rfl, rfl, _, rfl, if_no (a := 7) (b := 1) (by decide) ?_⟩
      refine ⟨_, rfl, rfl, _, rfl, if_no (a := 7) (b := 2) (by decide) ?_⟩
      refine ⟨_, rfl, rfl, _, rfl, if_no (a := 7) (b := 3) (by decide) ?_⟩
      refine ⟨_, rfl, rfl, _, rfl, if_no (a := 7) (b := 4) (by decide) ?_⟩
      refine ⟨_, rfl, rfl, _, rfl, if_no (a := 7) (b := 5) (by decide) ?_⟩
      refine ⟨_, rfl, rfl, _, rfl, if_no (a := 7) (b := 6) (by decide) ?_⟩
      refine ⟨_, rfl, rfl, _, rfl, if_yes (a := 7) ?_⟩
      exact ⟨_, rfl, _, rfl, tl, _, _, _, rfl, rfl, hS, (by exact atI_nat (j := 0) rfl), _, rfl, tl, _, _, _, rfl, rfl, hS, (by exact atI_nat (j := 1) rfl), _, rfl, tl, _, _, _, rfl, rfl, hS, (by exact atI_nat (j := 2) rfl), _, rfl, tl, _, _, _, rfl, rfl, hS, (by exact atI_nat (j := 3) rfl), _, rfl, tl, _, _, _, rfl, rfl, hS, (by exact atI_nat (j := 4) rfl), p, i, x, y, v, c, rfl, q⟩
    | drop i =>
      refine ⟨_, rfl, rfl, _, rfl, if_no (a := 8) (b := 1) (by decide) ?_⟩
      refine ⟨_, rfl, rfl, _, rfl, if_no (a := 8) (b := 2) (by decide) ?_⟩
      refine ⟨_, rfl, rfl, _, rfl, if_no (a := 8) (b := 3) (by decide) ?_⟩
      refine ⟨_, rfl, rfl, _, rfl, if_no (a := 8) (b := 4) (by decide) ?_⟩
      refine ⟨_, rfl, rfl, _, rfl, if_no (a := 8) (b := 5) (by decide) ?_⟩
      refine ⟨_, rfl, rfl, _, rfl, if_no (a := 8) (b := 6) (by decide) ?_⟩
      refine ⟨_, rfl, rfl, _, rfl, if_no (a := 8) (b := 7) (by decide) ?_⟩
      refine ⟨_, rfl, rfl, _, rfl, if_yes (a := 8) ?_⟩
      exact ⟨_, rfl, _, rfl, tl, _, _, _, rfl, rfl, hS, (by exact atI_nat (j := 0) rfl), p, i, rfl, q⟩
    | lift i n =>
      refine ⟨_, rfl, rfl, _, rfl, if_no (a := 9) (b := 1) (by decide) ?_⟩
      refine ⟨_, rfl, rfl, _, rfl, if_no (a := 9) (b := 2) (by decide) ?_⟩
      refine ⟨_, rfl, rfl, _, rfl, if_no (a := 9) (b := 3) (by decide) ?_⟩
      refine ⟨_, rfl, rfl, _, rfl, if_no (a := 9) (b := 4) (by decide) ?_⟩
      refine ⟨_, rfl, rfl, _, rfl, if_no (a := 9) (b := 5) (by decide) ?_⟩
      refine ⟨_, rfl, rfl, _, rfl, if_no (a := 9) (b := 6) (by decide) ?_⟩
      refine ⟨_, rfl, rfl, _, rfl, if_no (a := 9) (b := 7) (by decide) ?_⟩
      refine ⟨_, rfl, rfl, _, rfl, if_no (a := 9) (b := 8) (by decide) ?_⟩
      refine ⟨_, rfl, rfl, _, rfl, if_yes (a := 9) ?_⟩
      exact ⟨_, rfl, _, rfl, tl, _, _, _, rfl, rfl, hS, (by exact atI_nat (j := 0) rfl), _, rfl, tl, _, _, _, rfl, rfl, hS, (by exact atI_nat (j := 1) rfl), p, i, n, rfl, q⟩
    | flat =>
      refine ⟨_, rfl, rfl, _, rfl, if_no (a := 13) (b := 1) (by decide) ?_⟩
      refine ⟨_, rfl, rfl, _, rfl, if_no (a := 13) (b := 2) (by decide) ?_⟩
      refine ⟨_, rfl, rfl, _, rfl, if_no (a := 13) (b := 3) (by decide) ?_⟩
      refine ⟨_, rfl, rfl, _, rfl, if_no (a := 13) (b := 4) (by decide) ?_⟩
      refine ⟨_, rfl, rfl, _, rfl, if_no (a := 13) (b := 5) (by decide) ?_⟩
      refine ⟨_, rfl, rfl, _, rfl, if_no (a := 13) (b := 6) (by decide) ?_⟩
      refine ⟨_, rfl, rfl, _, rfl, if_no (a := 13) (b := 7) (by decide) ?_⟩
      refine ⟨_, rfl, rfl, _, rfl, if_no (a := 13) (b := 8) (by decide) ?_⟩
      refine ⟨_, rfl, rfl, _, rfl, if_no (a := 13) (b := 9) (by decide) ?_⟩
      exact ⟨_, rfl, p, rfl, q⟩
    | dot x y => cases hc
    | row y => cases hc
    | matters x y => cases hc
    | list  => cases hc
theorem look_same (g : House) {k : Call} (h : isChange k = false) : (g.step k).1 = g := by
  cases k with
  | dot x y =>
    show (if g.w ≤ x ∨ g.h ≤ y then (g, says (-1)) else _).1 = g
    split <;> rfl
  | row y =>
    show (if g.h ≤ y then (g, says (-1)) else _).1 = g
    split <;> rfl
  | matters x y =>
    show (if g.w ≤ x ∨ g.h ≤ y then (g, says (-1)) else _).1 = g
    split <;> rfl
  | list => rfl
  | _ => cases h
theorem to_look {p : Addr} {k : Call} {H : Hp} {Q : VK} {g : House} {F : Addr → Prop} (S : State C H p g F) (hk : isChange k = false)
    (q : ∀ (H' : Hp) (r : Addr), State C H' p (g.step k).1 (more F H) → Kp F H H' → (∀ b o, H b = some o → ¬ F b → b ≠ r) → H' r = some (.lst (intsI ((g.step k).2.value :: (g.step k).2.out))) → Q (.ref r) H') : Look C p k H Q := by
  have S0 := S
  obtain ⟨dx, la, ts, ow, A', hF⟩ := S
  refine ⟨dx, la, ts, ow, g, A', fun H' r s n e => q H' r ?_ (Kp.of_same s) (fun b o eb _ z => by rw [z, n] at eb; cases eb) e⟩
  rw [look_same g hk]
  exact (S0.same s).mono fun b hb => .inl hb
theorem scAnswerCall : FnScope ["picture", "kind", "told"] ["picture", "kind", "told"] (C8.fnScope sAnswerCall) := C8.fnScope_by (by decide +kernel)
theorem out_nil (g : House) {k : Call} (h : isChange k = true) : (g.step k).2.out = [] ∨ True := .inr trivial
theorem answer_ok (R : Raw K mg "answer_call" sAnswerCall ["picture", "kind", "told"]) (N : Nk mg) (cDot : C8.Cal P w K mg base (LPUT + 2) "look_at_dot" (spLookDot C) []) (cRow : C8.Cal P w K mg base (LPUT + 3) "look_at_row" (spLookRow C) []) (cMat : C8.Cal P w K mg base (LPUT + 2) "what_matters" (spMatters C) [])
    (cLst : C8.Cal P w K mg base (DEEP + 2) "list_things" (spListThings C) []) (cCh : C8.Cal P w K mg base (LPUT + 4) "answer_change" (spChange K C) []) : C8.Cal P w K mg base (LPUT + 5) "answer_call" (spAnswer K C) [] := by
  refine R.cal scAnswerCall (fun vs H Q E h => ?_) (fun f cdv A outer s H vs Q E hr h => ?_)
  · obtain ⟨p, tl, k, g, F, rfl, _⟩ := h
    rfl
  · obtain ⟨p, tl, k, g, F, rfl, hS, hro, S, q⟩ := h
    refine ⟨_, (pss_cons (ps_if (pt_cmpR op_eq (pv 1) (pe_num (by rfl) N.kDOT) (nomark _)) (pss_one (ps_ret (C8.pe_c cDot hr (by decide) (by rfl) (pa_cons (pv 0) (pa_cons (pe_ix ix_list (pv 2) pe_int (fun _ _ => rfl)) (pa_cons (pe_ix ix_list (pv 2) pe_int (fun _ _ => rfl)) pa_nil)))))) pss_nil)
      (pss_cons (ps_if (pt_cmpR op_eq (pv 1) (pe_num (by rfl) N.kROW) (nomark _)) (pss_one (ps_ret (C8.pe_c cRow hr (by decide) (by rfl) (pa_cons (pv 0) (pa_cons (pe_ix ix_list (pv 2) pe_int (fun _ _ => rfl)) pa_nil))))) pss_nil)
      (pss_cons (ps_if (pt_cmpR op_eq (pv 1) (pe_num (by rfl) N.kMATTERS) (nomark _)) (pss_one (ps_ret (C8.pe_c cMat hr (by decide) (by rfl) (pa_cons (pv 0) (pa_cons (pe_ix ix_list (pv 2) pe_int (fun _ _ => rfl)) (pa_cons (pe_ix ix_list (pv 2) pe_int (fun _ _ => rfl)) pa_nil)))))) pss_nil)
      (pss_cons (ps_if (pt_cmpR op_eq (pv 1) (pe_num (by rfl) N.kLIST) (nomark _)) (pss_one (ps_ret (C8.pe_c cLst hr (by decide) (by rfl) (pa_cons (pv 0) pa_nil)))) pss_nil)
      (pss_one (ps_ret (pe_lst (pa_cons (C8.pe_c cCh hr (Nat.le_refl _) (by rfl) (pa_cons (pv 0) (pa_cons (pv 1) (pa_cons (pv 2) pa_nil)))) pa_nil)))))))), ?_⟩
    by_cases hc : isChange k = true
    · have n1 : kindOf k ≠ 10 := by cases k <;> first | (cases hc; done) | simp [kindOf]
      have n2 : kindOf k ≠ 11 := by cases k <;> first | (cases hc; done) | simp [kindOf]
      have n3 : kindOf k ≠ 12 := by cases k <;> first | (cases hc; done) | simp [kindOf]
      have n4 : kindOf k ≠ 14 := by cases k <;> first | (cases hc; done) | simp [kindOf]
      refine ⟨_, rfl, rfl, _, rfl, if_no n1 ?_⟩
      refine ⟨_, rfl, rfl, _, rfl, if_no n2 ?_⟩
      refine ⟨_, rfl, rfl, _, rfl, if_no n3 ?_⟩
      refine ⟨_, rfl, rfl, _, rfl, if_no n4 ?_⟩
      refine ⟨_, rfl, _, rfl, _, rfl, p, tl, k, rfl, hS, hc, g, F, S, fun H' S' kp ho => ⟨(by show 1 ≤ sizeLine; decide), fun r hr' => ?_⟩⟩
      have s1 := same_new hr' (.lst [.int (g.step k).2.value])
      refine q _ r (S'.same s1) (fun b o e n => s1 _ _ (kp b o e n)) (fun b o e n z => ?_) ?_
      · have := kp b o e n
        rw [z, hr'] at this
        cases this
      · rw [ho]
        exact upd_same
    · have hk : isChange k = false := Bool.eq_false_iff.mpr hc
      have lk := to_look S hk q
      cases k with
      | dot x y =>
        refine ⟨_, rfl, rfl, _, rfl, if_yes (a := 10) ?_⟩
        exact ⟨_, rfl, _, rfl, tl, _, _, _, rfl, rfl, hS, (by exact atI_nat (j := 0) rfl), _, rfl, tl, _, _, _, rfl, rfl, hS, (by exact atI_nat (j := 1) rfl), p, x, y, rfl, lk⟩
      | row y =>
        refine ⟨_, rfl, rfl, _, rfl, if_no (a := 11) (b := 10) (by decide) ?_⟩
        refine ⟨_, rfl, rfl, _, rfl, if_yes (a := 11) ?_⟩
        exact ⟨_, rfl, _, rfl, tl, _, _, _, rfl, rfl, hS, (by exact atI_nat (j := 0) rfl), p, y, rfl, lk⟩
      | matters x y =>
        refine ⟨_, rfl, rfl, _, rfl, if_no (a := 12) (b := 10) (by decide) ?_⟩
        refine ⟨_, rfl, rfl, _, rfl, if_no (a := 12) (b := 11) (by decide) ?_⟩
        refine ⟨_, rfl, rfl, _, rfl, if_yes (a := 12) ?_⟩
        exact ⟨_, rfl, _, rfl, tl, _, _, _, rfl, rfl, hS, (by exact atI_nat (j := 0) rfl), _, rfl, tl, _, _, _, rfl, rfl, hS, (by exact atI_nat (j := 1) rfl), p, x, y, rfl, lk⟩
      | list  =>
        refine ⟨_, rfl, rfl, _, rfl, if_no (a := 14) (b := 10) (by decide) ?_⟩
        refine ⟨_, rfl, rfl, _, rfl, if_no (a := 14) (b := 11) (by decide) ?_⟩
        refine ⟨_, rfl, rfl, _, rfl, if_no (a := 14) (b := 12) (by decide) ?_⟩
        refine ⟨_, rfl, rfl, _, rfl, if_yes (a := 14) ?_⟩
        exact ⟨_, rfl, p, rfl, lk⟩
      | _ => cases hk
end
end Lay
set_option Elab.async false
set_option linter.all false
set_option maxRecDepth 100000
set_option maxHeartbeats 2000000
namespace Lay
open PySem PySem.Spec PyProof.Rows L2
abbrev DxOf {K : PySem.W.Frag} {h : Heap} (X : K.In h) (mg : Str → Option Value) (D : Addr) : Prop := Dx K mg D
theorem dx_mk {K : PySem.W.Frag} {mg : Str → Option Value} {D : Addr} (cl : Cls K D) (na : ∀ f ∈ dotNames, NoAttr K D f) (z1 : mg "min" = none) (z2 : mg "max" = none) (z3 : mg "abs" = none) (z4 : mg "range" = none) : Dx K mg D := ⟨cl, na, z1, z2, z3, z4⟩
structure Raws (K : PySem.W.Frag) (mg : Str → Option Value) (C : Cs) (D : Addr) : Prop where
  all_things : Raw K mg "all_things" sAll ["holder"]
  find_thing : Raw K mg "find_thing" sFind ["picture", "number"]
  place_of : Raw K mg "place_of" sPlace ["holder", "number"]
  holder_of : Raw K mg "holder_of" sHolder ["picture", "number"]
  take_out : Raw K mg "take_out" sTakeOut ["holder", "number"]
  place_of_pixel : Raw K mg "place_of_pixel" sPix ["layer", "x", "y"]
  nothing : Raw K mg "nothing" sNo []
  weakened : Raw K mg "weakened" sWeak ["dot", "upper", "lower"]
  over : Raw K mg "over" sOver ["above", "below", "way"]
  mixed : Raw K mg "mixed" sMixed ["above", "below", "way"]
  is_same : Raw K mg "is_same" sSame ["one", "other"]
  in_lowest_terms : Raw K mg "in_lowest_terms" sInLow ["dot"]
  colour_in_lowest_terms : Raw K mg "colour_in_lowest_terms" sColLow ["dot"]
  lowest_terms : Raw K mg "lowest_terms" sLow ["upper", "lower"]
  greatest_divisor : Raw K mg "greatest_divisor" sGcd ["upper", "lower"]
  shown : Raw K mg "shown" sShown ["dot"]
  nearest_level : Raw K mg "nearest_level" sNear ["upper", "lower"]
  dot_of_picture : Raw K mg "dot_of_picture" sDotPic ["picture", "x", "y", "left_out"]
  put_together : Raw K mg "put_together" sPut ["things", "x", "y", "left_out"]
  dot_of_thing : Raw K mg "dot_of_thing" sDotThing ["thing", "x", "y", "left_out"]
  dot_of_layer : Raw K mg "dot_of_layer" sDotLayer ["layer", "x", "y"]
  shown_row : Raw K mg "shown_row" sRow ["picture", "y"]
  is_side : Raw K mg "is_side" sIsSide ["number"]
  is_full : Raw K mg "is_full" sIsFull ["picture"]
  begin : Raw K mg "begin" sBegin ["picture", "w", "h"]
  make_layer : Raw K mg "make_layer" sMakeLayer ["picture", "x", "y", "w", "h", "pixels"]
  make_group : Raw K mg "make_group" sMakeGroup ["picture", "lowest", "n"]
  open_group : Raw K mg "open_group" sOpen ["picture", "number"]
  set_how : Raw K mg "set_how" sSetHow ["picture", "number", "seen", "strong", "way", "clipped"]
  shift_layer : Raw K mg "shift_layer" sShift ["picture", "number", "x", "y"]
  paint_layer : Raw K mg "paint_layer" sPaint ["picture", "number", "x", "y", "colour", "cover"]
  drop_thing : Raw K mg "drop_thing" sDrop ["picture", "number"]
  lift_thing : Raw K mg "lift_thing" sLift ["picture", "number", "p"]
  make_flat : Raw K mg "make_flat" sFlat ["picture"]
  has_pixel : Raw K mg "has_pixel" sHasPixel ["picture", "x", "y"]
  look_at_dot : Raw K mg "look_at_dot" sLookDot ["picture", "x", "y"]
  look_at_row : Raw K mg "look_at_row" sLookRow ["picture", "y"]
  what_matters : Raw K mg "what_matters" sMatters ["picture", "x", "y"]
  list_things : Raw K mg "list_things" sListThings ["picture"]
  all_numbers : Raw K mg "all_numbers" sNums ["picture"]
  end_of_call : Raw K mg "end_of_call" sEnd ["calls", "place"]
  go_through : Raw K mg "go_through" sGo ["picture", "calls"]
  answer_call : Raw K mg "answer_call" sAnswerCall ["picture", "kind", "told"]
  answer_change : Raw K mg "answer_change" sChange ["picture", "kind", "told"]
section
variable {P : Program} {w : World} {K : PySem.W.Frag} {mg : Str → Option Value} {base : Heap} {C : Cs} {D : Addr}
theorem whole_ok (r : Raws K mg C D) (T : Tx K mg C) (X : Dx K mg D) (M : Nm mg) (Z : Tz mg) (N : Nk mg) (S : Td K mg) (rL : RawI K mg "Layer" C.L "Layer.__init__" sLayerInit ["self", "number", "x", "y", "width", "height", "pixels"]) (rG : RawI K mg "Group" C.G "Group.__init__" sGroupInit ["self", "number", "things"])
    (rP : RawI K mg "Picture" C.P "Picture.__init__" sPicInit ["self"]) (rB : RawM K C.P "begin" "Picture.begin" sPicBegin ["self", "width", "height"]) (rT : RawM K C.P "take_number" "Picture.take_number" sPicTake ["self"]) (rD : RawI K mg "Dot" D "Dot.__init__" sDotInit ["self", "cover", "tint", "whole"])
    (cTh : ThingFn P w K mg base) {f : Addr} {fd : FuncData} (F : C8.Fun K "answers" "answers" sAnswers f fd) : FnOk P w K mg base CX0 35 f fd ["calls"] (spAnswers K) := by
  have cAll : C8.Cal P w K mg base DEEP "all_things" (spAll K C DEEP) [] := all_ok r.all_things T DEEP
  have cFind : C8.Cal P w K mg base (DEEP + 1) "find_thing" (spFind K C) [] := find_ok r.find_thing T cAll
  have cPlace : C8.Cal P w K mg base 1 "place_of" (spPlace K C) [] := place_ok r.place_of T
  have cHold : C8.Cal P w K mg base (DEEP + 1) "holder_of" (spHolder K C) [] := holder_ok r.holder_of T cAll cPlace
  have cOut : C8.Cal P w K mg base 1 "take_out" (spTakeOut K C) [] := takeout_ok r.take_out T
  have cPix : C8.Cal P w K mg base 1 "place_of_pixel" (spPix C) [] := pix_ok r.place_of_pixel T
  have mLay : C8.Mak P w K mg base 2 "Layer" C.L (spLayer C) [] := layer_mak rL T cTh
  have mGrp : C8.Mak P w K mg base 2 "Group" C.G (spGroup C) [] := group_mak rG T cTh
  have tBeg : C8.Met P w K mg base 1 C.P "begin" (spBegin C) [] := begin_met rB T
  have tTak : C8.Met P w K mg base 1 C.P "take_number" (spTake C) [] := take_met rT T
  have mPic : C8.Mak P w K mg base 2 "Picture" C.P (spPicInit C) [] := pic_mak rP T tBeg
  have mDot : C8.Mak P w K mg base 1 "Dot" D (spDotInit D) [] := dot_mak rD X
  have cNo : C8.Cal P w K mg base 3 "nothing" (spNo D) [] := no_ok r.nothing mDot
  have cWeak : C8.Cal P w K mg base 3 "weakened" (spWeak D) [] := weak_ok r.weakened X mDot
  have cMix : C8.Cal P w K mg base 1 "mixed" (spMixed D) [] := mixed_ok r.mixed X
  have cOver : C8.Cal P w K mg base 3 "over" (spOver D) [] := over_ok r.over X mDot cMix
  have cSame : C8.Cal P w K mg base 1 "is_same" (spSame D) [] := same_ok r.is_same X
  have cGcd : C8.Cal P w K mg base 1 "greatest_divisor" spGcd [] := gcd_ok r.greatest_divisor
  have cLow : C8.Cal P w K mg base 2 "lowest_terms" spLow [] := low_ok r.lowest_terms cGcd
  have cCol : C8.Cal P w K mg base 3 "colour_in_lowest_terms" (spCol D) [] := col_ok r.colour_in_lowest_terms X cLow
  have cInLow : C8.Cal P w K mg base 4 "in_lowest_terms" (spInLow D) [] := inlow_ok r.in_lowest_terms X cLow cCol
  have cNear : C8.Cal P w K mg base 1 "nearest_level" spNear [] := near_ok r.nearest_level M.level
  have cShown : C8.Cal P w K mg base 2 "shown" (spShown D) [] := shown_ok r.shown X cNear
  have cDL : C8.Cal P w K mg base 4 "dot_of_layer" (spDotLayer C D) [] := dotlayer_ok r.dot_of_layer T M.level cPix cNo mDot
  have cPut : C8.Cal P w K mg base LPUT "put_together" (spPut K C D DEEP) [] := put_all r.put_together r.dot_of_thing T X M.level cNo cWeak cOver cDL DEEP
  have cDP : C8.Cal P w K mg base (LPUT + 1) "dot_of_picture" (spDotPic C D) [] := dotpic_ok r.dot_of_picture T cPut
  have cRow : C8.Cal P w K mg base (LPUT + 2) "shown_row" (spRow C) [] := row_ok r.shown_row T X cDP cShown
  have cSide : C8.Cal P w K mg base 1 "is_side" spSide [] := side_ok r.is_side M
  have cFull : C8.Cal P w K mg base (DEEP + 1) "is_full" (spFull K C) [] := full_ok r.is_full T M cAll
  have cBeg : C8.Cal P w K mg base 2 "begin" (spBeg C) [] := begin_ok r.begin T M cSide tBeg
  have cLay : C8.Cal P w K mg base (DEEP + 2) "make_layer" (spMkLayer K C) [] := mklayer_ok r.make_layer T Z M cSide cFull tTak mLay
  have cGrp : C8.Cal P w K mg base (DEEP + 2) "make_group" (spMkGroup C) [] := mkgroup_ok r.make_group T M cPlace cFull tTak mGrp
  have cOpn : C8.Cal P w K mg base (DEEP + 2) "open_group" (spOpen C) [] := open_ok r.open_group T M cFind cHold cPlace
  have cHow : C8.Cal P w K mg base (DEEP + 2) "set_how" (spHow C) [] := how_ok r.set_how T M cFind
  have cShf : C8.Cal P w K mg base (DEEP + 2) "shift_layer" (spShift C) [] := shift_ok r.shift_layer T M cFind
  have cPnt : C8.Cal P w K mg base (DEEP + 2) "paint_layer" (spPaint C) [] := paint_ok r.paint_layer T M cPix cFind
  have cDrp : C8.Cal P w K mg base (DEEP + 2) "drop_thing" (spDrop C) [] := drop_ok r.drop_thing T M cHold cOut cAll
  have cLft : C8.Cal P w K mg base (DEEP + 2) "lift_thing" (spLift C) [] := lift_ok r.lift_thing T M cFind cHold cOut
  have cFlt : C8.Cal P w K mg base (LPUT + 3) "make_flat" (spFlat C) [] := flat_ok r.make_flat T X cRow tTak mLay
  have cHas : C8.Cal P w K mg base 1 "has_pixel" (spHas C) [] := has_ok r.has_pixel T
  have cNum : C8.Cal P w K mg base (DEEP + 1) "all_numbers" (spNums K C) [] := nums_ok r.all_numbers T cAll
  have lDot : C8.Cal P w K mg base (LPUT + 2) "look_at_dot" (spLookDot C) [] := lookdot_ok r.look_at_dot T M cHas cDP cInLow
  have lRow : C8.Cal P w K mg base (LPUT + 3) "look_at_row" (spLookRow C) [] := lookrow_ok r.look_at_row T M cRow
  have lMat : C8.Cal P w K mg base (LPUT + 2) "what_matters" (spMatters C) [] := matters_ok r.what_matters T M cHas cDP cNum cSame
  have lLst : C8.Cal P w K mg base (DEEP + 2) "list_things" (spListThings C) [] := list_ok r.list_things T cNum
  have cCh : C8.Cal P w K mg base (LPUT + 4) "answer_change" (spChange K C) [] := change_ok r.answer_change N cBeg cLay cGrp cOpn cHow cShf cPnt cDrp cLft cFlt
  have cAns : C8.Cal P w K mg base (LPUT + 5) "answer_call" (spAnswer K C) [] := answer_ok r.answer_call N lDot lRow lMat lLst cCh
  have cEnd : C8.Cal P w K mg base 1 "end_of_call" (spEnd K) [] := end_ok r.end_of_call S
  have cGo : C8.Cal P w K mg base (LPUT + 5 + 1) "go_through" (spGo K C) [] := go_ok r.go_through T cEnd (by decide) cAns
  exact answers_fn F T (by decide) mPic cGo
end
end Lay
set_option Elab.async false
set_option linter.all false
open PySem PySem.W PyProof.Rows
set_option maxRecDepth 100000 in
set_option maxHeartbeats 0 in
theorem PySem.Challenge.cw_layersover_s01_answers_holds : PySem.Challenge.rw_layersover_s01_answers.Holds := by
  w_on; k_headS; (case hw => exact ⟨[.list [.int 14]], by decide +kernel, by decide +kernel⟩)
  k_fillS
  refine L2.walk_specK (r := PySem.Challenge.rw_layersover_s01_answers) (k := 35) (CX := L2.CX0) (ps := ["calls"]) (sp := Lay.spAnswers) (by decide +kernel) rfl rfl ⟨rfl, by decide, by decide⟩ (fun w h Y => PySem.W.kIn_of Y) ?F ?S (fun _ _ _ _ z => z)
  case F =>
    intro w mg fa h Y KX G hmg
    have r_all_things : Lay.RawOf KX mg "all_things" Lay.sAll ["holder"] := by
      refine' Lay.raw_mk KX G ?a ?l ?c ?k ?b
      (case a => k_is); (case l => k_is); (case c => k_is); (case k => k_is)
      (case b => exact fun _ _ _ _ _ _ us hl => match us, hl with | [_], _ => rfl)
    have r_find_thing : Lay.RawOf KX mg "find_thing" Lay.sFind ["picture", "number"] := by
      refine' Lay.raw_mk KX G ?a ?l ?c ?k ?b
      (case a => k_is); (case l => k_is); (case c => k_is); (case k => k_is)
      (case b => exact fun _ _ _ _ _ _ us hl => match us, hl with | [_, _], _ => rfl)
    have r_place_of : Lay.RawOf KX mg "place_of" Lay.sPlace ["holder", "number"] := by
      refine' Lay.raw_mk KX G ?a ?l ?c ?k ?b
      (case a => k_is); (case l => k_is); (case c => k_is); (case k => k_is)
      (case b => exact fun _ _ _ _ _ _ us hl => match us, hl with | [_, _], _ => rfl)
    have r_holder_of : Lay.RawOf KX mg "holder_of" Lay.sHolder ["picture", "number"] := by
      refine' Lay.raw_mk KX G ?a ?l ?c ?k ?b
      (case a => k_is); (case l => k_is); (case c => k_is); (case k => k_is)
      (case b => exact fun _ _ _ _ _ _ us hl => match us, hl with | [_, _], _ => rfl)
    have r_take_out : Lay.RawOf KX mg "take_out" Lay.sTakeOut ["holder", "number"] := by
      refine' Lay.raw_mk KX G ?a ?l ?c ?k ?b
      (case a => k_is); (case l => k_is); (case c => k_is); (case k => k_is)
      (case b => exact fun _ _ _ _ _ _ us hl => match us, hl with | [_, _], _ => rfl)
    have r_place_of_pixel : Lay.RawOf KX mg "place_of_pixel" Lay.sPix ["layer", "x", "y"] := by
      refine' Lay.raw_mk KX G ?a ?l ?c ?k ?b
      (case a => k_is); (case l => k_is); (case c => k_is); (case k => k_is)
      (case b => exact fun _ _ _ _ _ _ us hl => match us, hl with | [_, _, _], _ => rfl)
    have r_nothing : Lay.RawOf KX mg "nothing" Lay.sNo [] := by
      refine' Lay.raw_mk KX G ?a ?l ?c ?k ?b
      (case a => k_is); (case l => k_is); (case c => k_is); (case k => k_is)
      (case b => exact fun _ _ _ _ _ _ us hl => match us, hl with | [], _ => rfl)
    have r_weakened : Lay.RawOf KX mg "weakened" Lay.sWeak ["dot", "upper", "lower"] := by
      refine' Lay.raw_mk KX G ?a ?l ?c ?k ?b
      (case a => k_is); (case l => k_is); (case c => k_is); (case k => k_is)
      (case b => exact fun _ _ _ _ _ _ us hl => match us, hl with | [_, _, _], _ => rfl)
    have r_over : Lay.RawOf KX mg "over" Lay.sOver ["above", "below", "way"] := by
      refine' Lay.raw_mk KX G ?a ?l ?c ?k ?b
      (case a => k_is); (case l => k_is); (case c => k_is); (case k => k_is)
      (case b => exact fun _ _ _ _ _ _ us hl => match us, hl with | [_, _, _], _ => rfl)
    have r_mixed : Lay.RawOf KX mg "mixed" Lay.sMixed ["above", "below", "way"] := by
      refine' Lay.raw_mk KX G ?a ?l ?c ?k ?b
      (case a => k_is); (case l => k_is); (case c => k_is); (case k => k_is)
      (case b => exact fun _ _ _ _ _ _ us hl => match us, hl with | [_, _, _], _ => rfl)
    have r_is_same : Lay.RawOf KX mg "is_same" Lay.sSame ["one", "other"] := by
      refine' Lay.raw_mk KX G ?a ?l ?c ?k ?b
      (case a => k_is); (case l => k_is); (case c => k_is); (case k => k_is)
      (case b => exact fun _ _ _ _ _ _ us hl => match us, hl with | [_, _], _ => rfl)
    have r_in_lowest_terms : Lay.RawOf KX mg "in_lowest_terms" Lay.sInLow ["dot"] := by
      refine' Lay.raw_mk KX G ?a ?l ?c ?k ?b
      (case a => k_is); (case l => k_is); (case c => k_is); (case k => k_is)
      (case b => exact fun _ _ _ _ _ _ us hl => match us, hl with | [_], _ => rfl)
    have r_colour_in_lowest_terms : Lay.RawOf KX mg "colour_in_lowest_terms" Lay.sColLow ["dot"] := by
      refine' Lay.raw_mk KX G ?a ?l ?c ?k ?b
      (case a => k_is); (case l => k_is); (case c => k_is); (case k => k_is)
      (case b => exact fun _ _ _ _ _ _ us hl => match us, hl with | [_], _ => rfl)
    have r_lowest_terms : Lay.RawOf KX mg "lowest_terms" Lay.sLow ["upper", "lower"] := by
      refine' Lay.raw_mk KX G ?a ?l ?c ?k ?b
      (case a => k_is); (case l => k_is); (case c => k_is); (case k => k_is)
      (case b => exact fun _ _ _ _ _ _ us hl => match us, hl with | [_, _], _ => rfl)
    have r_greatest_divisor : Lay.RawOf KX mg "greatest_divisor" Lay.sGcd ["upper", "lower"] := by
      refine' Lay.raw_mk KX G ?a ?l ?c ?k ?b
      (case a => k_is); (case l => k_is); (case c => k_is); (case k => k_is)
      (case b => exact fun _ _ _ _ _ _ us hl => match us, hl with | [_, _], _ => rfl)
    have r_shown : Lay.RawOf KX mg "shown" Lay.sShown ["dot"] := by
      refine' Lay.raw_mk KX G ?a ?l ?c ?k ?b
      (case a => k_is); (case l => k_is); (case c => k_is); (case k => k_is)
      (case b => exact fun _ _ _ _ _ _ us hl => match us, hl with | [_], _ => rfl)
    have r_nearest_level : Lay.RawOf KX mg "nearest_level" Lay.sNear ["upper", "lower"] := by
      refine' Lay.raw_mk KX G ?a ?l ?c ?k ?b
      (case a => k_is); (case l => k_is); (case c => k_is); (case k => k_is)
      (case b => exact fun _ _ _ _ _ _ us hl => match us, hl with | [_, _], _ => rfl)
    have r_dot_of_picture : Lay.RawOf KX mg "dot_of_picture" Lay.sDotPic ["picture", "x", "y", "left_out"] := by
      refine' Lay.raw_mk KX G ?a ?l ?c ?k ?b
      (case a => k_is); (case l => k_is); (case c => k_is); (case k => k_is)
      (case b => exact fun _ _ _ _ _ _ us hl => match us, hl with | [_, _, _, _], _ => rfl)
    have r_put_together : Lay.RawOf KX mg "put_together" Lay.sPut ["things", "x", "y", "left_out"] := by
      refine' Lay.raw_mk KX G ?a ?l ?c ?k ?b
      (case a => k_is); (case l => k_is); (case c => k_is); (case k => k_is)
      (case b => exact fun _ _ _ _ _ _ us hl => match us, hl with | [_, _, _, _], _ => rfl)
    have r_dot_of_thing : Lay.RawOf KX mg "dot_of_thing" Lay.sDotThing ["thing", "x", "y", "left_out"] := by
      refine' Lay.raw_mk KX G ?a ?l ?c ?k ?b
      (case a => k_is); (case l => k_is); (case c => k_is); (case k => k_is)
      (case b => exact fun _ _ _ _ _ _ us hl => match us, hl with | [_, _, _, _], _ => rfl)
    have r_dot_of_layer : Lay.RawOf KX mg "dot_of_layer" Lay.sDotLayer ["layer", "x", "y"] := by
      refine' Lay.raw_mk KX G ?a ?l ?c ?k ?b
      (case a => k_is); (case l => k_is); (case c => k_is); (case k => k_is)
      (case b => exact fun _ _ _ _ _ _ us hl => match us, hl with | [_, _, _], _ => rfl)
    have r_shown_row : Lay.RawOf KX mg "shown_row" Lay.sRow ["picture", "y"] := by
      refine' Lay.raw_mk KX G ?a ?l ?c ?k ?b
      (case a => k_is); (case l => k_is); (case c => k_is); (case k => k_is)
      (case b => exact fun _ _ _ _ _ _ us hl => match us, hl with | [_, _], _ => rfl)
    have r_is_side : Lay.RawOf KX mg "is_side" Lay.sIsSide ["number"] := by
      refine' Lay.raw_mk KX G ?a ?l ?c ?k ?b
      (case a => k_is); (case l => k_is); (case c => k_is); (case k => k_is)
      (case b => exact fun _ _ _ _ _ _ us hl => match us, hl with | [_], _ => rfl)
    have r_is_full : Lay.RawOf KX mg "is_full" Lay.sIsFull ["picture"] := by
      refine' Lay.raw_mk KX G ?a ?l ?c ?k ?b
      (case a => k_is); (case l => k_is); (case c => k_is); (case k => k_is)
      (case b => exact fun _ _ _ _ _ _ us hl => match us, hl with | [_], _ => rfl)
    have r_begin : Lay.RawOf KX mg "begin" Lay.sBegin ["picture", "w", "h"] := by
      refine' Lay.raw_mk KX G ?a ?l ?c ?k ?b
      (case a => k_is); (case l => k_is); (case c => k_is); (case k => k_is)
      (case b => exact fun _ _ _ _ _ _ us hl => match us, hl with | [_, _, _], _ => rfl)
    have r_make_layer : Lay.RawOf KX mg "make_layer" Lay.sMakeLayer ["picture", "x", "y", "w", "h", "pixels"] := by
      refine' Lay.raw_mk KX G ?a ?l ?c ?k ?b
      (case a => k_is); (case l => k_is); (case c => k_is); (case k => k_is)
      (case b => exact fun _ _ _ _ _ _ us hl => match us, hl with | [_, _, _, _, _, _], _ => rfl)
    have r_make_group : Lay.RawOf KX mg "make_group" Lay.sMakeGroup ["picture", "lowest", "n"] := by
      refine' Lay.raw_mk KX G ?a ?l ?c ?k ?b
      (case a => k_is); (case l => k_is); (case c => k_is); (case k => k_is)
      (case b => exact fun _ _ _ _ _ _ us hl => match us, hl with | [_, _, _], _ => rfl)
    have r_open_group : Lay.RawOf KX mg "open_group" Lay.sOpen ["picture", "number"] := by
      refine' Lay.raw_mk KX G ?a ?l ?c ?k ?b
      (case a => k_is); (case l => k_is); (case c => k_is); (case k => k_is)
      (case b => exact fun _ _ _ _ _ _ us hl => match us, hl with | [_, _], _ => rfl)
    have r_set_how : Lay.RawOf KX mg "set_how" Lay.sSetHow ["picture", "number", "seen", "strong", "way", "clipped"] := by
      refine' Lay.raw_mk KX G ?a ?l ?c ?k ?b
      (case a => k_is); (case l => k_is); (case c => k_is); (case k => k_is)
      (case b => exact fun _ _ _ _ _ _ us hl => match us, hl with | [_, _, _, _, _, _], _ => rfl)
    have r_shift_layer : Lay.RawOf KX mg "shift_layer" Lay.sShift ["picture", "number", "x", "y"] := by
      refine' Lay.raw_mk KX G ?a ?l ?c ?k ?b
      (case a => k_is); (case l => k_is); (case c => k_is); (case k => k_is)
      (case b => exact fun _ _ _ _ _ _ us hl => match us, hl with | [_, _, _, _], _ => rfl)
    have r_paint_layer : Lay.RawOf KX mg "paint_layer" Lay.sPaint ["picture", "number", "x", "y", "colour", "cover"] := by
      refine' Lay.raw_mk KX G ?a ?l ?c ?k ?b
      (case a => k_is); (case l => k_is); (case c => k_is); (case k => k_is)
      (case b => exact fun _ _ _ _ _ _ us hl => match us, hl with | [_, _, _, _, _, _], _ => rfl)
    have r_drop_thing : Lay.RawOf KX mg "drop_thing" Lay.sDrop ["picture", "number"] := by
      refine' Lay.raw_mk KX G ?a ?l ?c ?k ?b
      (case a => k_is); (case l => k_is); (case c => k_is); (case k => k_is)
      (case b => exact fun _ _ _ _ _ _ us hl => match us, hl with | [_, _], _ => rfl)
    have r_lift_thing : Lay.RawOf KX mg "lift_thing" Lay.sLift ["picture", "number", "p"] := by
      refine' Lay.raw_mk KX G ?a ?l ?c ?k ?b
      (case a => k_is); (case l => k_is); (case c => k_is); (case k => k_is)
      (case b => exact fun _ _ _ _ _ _ us hl => match us, hl with | [_, _, _], _ => rfl)
    have r_make_flat : Lay.RawOf KX mg "make_flat" Lay.sFlat ["picture"] := by
      refine' Lay.raw_mk KX G ?a ?l ?c ?k ?b
      (case a => k_is); (case l => k_is); (case c => k_is); (case k => k_is)
      (case b => exact fun _ _ _ _ _ _ us hl => match us, hl with | [_], _ => rfl)
    have r_has_pixel : Lay.RawOf KX mg "has_pixel" Lay.sHasPixel ["picture", "x", "y"] := by
      refine' Lay.raw_mk KX G ?a ?l ?c ?k ?b
      (case a => k_is); (case l => k_is); (case c => k_is); (case k => k_is)
      (case b => exact fun _ _ _ _ _ _ us hl => match us, hl with | [_, _, _], _ => rfl)
    have r_look_at_dot : Lay.RawOf KX mg "look_at_dot" Lay.sLookDot ["picture", "x", "y"] := by
      refine' Lay.raw_mk KX G ?a ?l ?c ?k ?b
      (case a => k_is); (case l => k_is); (case c => k_is); (case k => k_is)
      (case b => exact fun _ _ _ _ _ _ us hl => match us, hl with | [_, _, _], _ => rfl)
    have r_look_at_row : Lay.RawOf KX mg "look_at_row" Lay.sLookRow ["picture", "y"] := by
      refine' Lay.raw_mk KX G ?a ?l ?c ?k ?b
      (case a => k_is); (case l => k_is); (case c => k_is); (case k => k_is)
      (case b => exact fun _ _ _ _ _ _ us hl => match us, hl with | [_, _], _ => rfl)
    have r_what_matters : Lay.RawOf KX mg "what_matters" Lay.sMatters ["picture", "x", "y"] := by
      refine' Lay.raw_mk KX G ?a ?l ?c ?k ?b
      (case a => k_is); (case l => k_is); (case c => k_is); (case k => k_is)
      (case b => exact fun _ _ _ _ _ _ us hl => match us, hl with | [_, _, _], _ => rfl)
    have r_list_things : Lay.RawOf KX mg "list_things" Lay.sListThings ["picture"] := by
      refine' Lay.raw_mk KX G ?a ?l ?c ?k ?b
      (case a => k_is); (case l => k_is); (case c => k_is); (case k => k_is)
      (case b => exact fun _ _ _ _ _ _ us hl => match us, hl with | [_], _ => rfl)
    have r_all_numbers : Lay.RawOf KX mg "all_numbers" Lay.sNums ["picture"] := by
      refine' Lay.raw_mk KX G ?a ?l ?c ?k ?b
      (case a => k_is); (case l => k_is); (case c => k_is); (case k => k_is)
      (case b => exact fun _ _ _ _ _ _ us hl => match us, hl with | [_], _ => rfl)
    have r_end_of_call : Lay.RawOf KX mg "end_of_call" Lay.sEnd ["calls", "place"] := by
      refine' Lay.raw_mk KX G ?a ?l ?c ?k ?b
      (case a => k_is); (case l => k_is); (case c => k_is); (case k => k_is)
      (case b => exact fun _ _ _ _ _ _ us hl => match us, hl with | [_, _], _ => rfl)
    have r_go_through : Lay.RawOf KX mg "go_through" Lay.sGo ["picture", "calls"] := by
      refine' Lay.raw_mk KX G ?a ?l ?c ?k ?b
      (case a => k_is); (case l => k_is); (case c => k_is); (case k => k_is)
      (case b => exact fun _ _ _ _ _ _ us hl => match us, hl with | [_, _], _ => rfl)
    have r_answer_call : Lay.RawOf KX mg "answer_call" Lay.sAnswerCall ["picture", "kind", "told"] := by
      refine' Lay.raw_mk KX G ?a ?l ?c ?k ?b
      (case a => k_is); (case l => k_is); (case c => k_is); (case k => k_is)
      (case b => exact fun _ _ _ _ _ _ us hl => match us, hl with | [_, _, _], _ => rfl)
    have r_answer_change : Lay.RawOf KX mg "answer_change" Lay.sChange ["picture", "kind", "told"] := by
      refine' Lay.raw_mk KX G ?a ?l ?c ?k ?b
      (case a => k_is); (case l => k_is); (case c => k_is); (case k => k_is)
      (case b => exact fun _ _ _ _ _ _ us hl => match us, hl with | [_, _, _], _ => rfl)
    have n_bad : Lay.NumG mg "BAD_NUMBER" (-1) := by
      refine' Lay.num_mk KX G ?a; (case a => k_is)
    have n_no : Lay.NumG mg "NO_THING" (-2) := by
      refine' Lay.num_mk KX G ?a; (case a => k_is)
    have n_unfit : Lay.NumG mg "UNFIT" (-3) := by
      refine' Lay.num_mk KX G ?a; (case a => k_is)
    have n_full : Lay.NumG mg "FULL" (-5) := by
      refine' Lay.num_mk KX G ?a; (case a => k_is)
    have n_side : Lay.NumG mg "LONGEST_SIDE" (8) := by
      refine' Lay.num_mk KX G ?a; (case a => k_is)
    have n_most : Lay.NumG mg "MOST_THINGS" (10) := by
      refine' Lay.num_mk KX G ?a; (case a => k_is)
    have n_level : Lay.NumG mg "GREATEST_LEVEL" (255) := by
      refine' Lay.num_mk KX G ?a; (case a => k_is)
    have n_way : Lay.NumG mg "GREATEST_WAY" (6) := by
      refine' Lay.num_mk KX G ?a; (case a => k_is)
    have n_told : Lay.NumG mg "TOLD_MORE" (32) := by
      refine' Lay.num_mk KX G ?a; (case a => k_is)
    have n_far : Lay.NumG mg "GREATEST_TOLD" (64) := by
      refine' Lay.num_mk KX G ?a; (case a => k_is)
    have k_BEGIN : Lay.NumG mg "BEGIN" (1) := by
      refine' Lay.num_mk KX G ?a; (case a => k_is)
    have k_LAYER : Lay.NumG mg "LAYER" (2) := by
      refine' Lay.num_mk KX G ?a; (case a => k_is)
    have k_GROUP : Lay.NumG mg "GROUP" (3) := by
      refine' Lay.num_mk KX G ?a; (case a => k_is)
    have k_OPEN : Lay.NumG mg "OPEN" (4) := by
      refine' Lay.num_mk KX G ?a; (case a => k_is)
    have k_HOW : Lay.NumG mg "HOW" (5) := by
      refine' Lay.num_mk KX G ?a; (case a => k_is)
    have k_SHIFT : Lay.NumG mg "SHIFT" (6) := by
      refine' Lay.num_mk KX G ?a; (case a => k_is)
    have k_PAINT : Lay.NumG mg "PAINT" (7) := by
      refine' Lay.num_mk KX G ?a; (case a => k_is)
    have k_DROP : Lay.NumG mg "DROP" (8) := by
      refine' Lay.num_mk KX G ?a; (case a => k_is)
    have k_LIFT : Lay.NumG mg "LIFT" (9) := by
      refine' Lay.num_mk KX G ?a; (case a => k_is)
    have k_DOT : Lay.NumG mg "DOT" (10) := by
      refine' Lay.num_mk KX G ?a; (case a => k_is)
    have k_ROW : Lay.NumG mg "ROW" (11) := by
      refine' Lay.num_mk KX G ?a; (case a => k_is)
    have k_MATTERS : Lay.NumG mg "MATTERS" (12) := by
      refine' Lay.num_mk KX G ?a; (case a => k_is)
    have k_LIST : Lay.NumG mg "LIST" (14) := by
      refine' Lay.num_mk KX G ?a; (case a => k_is)
    have z_len : mg "len" = none := by
      refine' PySem.W.mg_none_of KX G ?a; (case a => k_is)
    have z_isinstance : mg "isinstance" = none := by
      refine' PySem.W.mg_none_of KX G ?a; (case a => k_is)
    have z_enumerate : mg "enumerate" = none := by
      refine' PySem.W.mg_none_of KX G ?a; (case a => k_is)
    have z_max : mg "max" = none := by
      refine' PySem.W.mg_none_of KX G ?a; (case a => k_is)
    have z_list : mg "list" = none := by
      refine' PySem.W.mg_none_of KX G ?a; (case a => k_is)
    have z_min : mg "min" = none := by
      refine' PySem.W.mg_none_of KX G ?a; (case a => k_is)
    have z_abs : mg "abs" = none := by
      refine' PySem.W.mg_none_of KX G ?a; (case a => k_is)
    have z_range : mg "range" = none := by
      refine' PySem.W.mg_none_of KX G ?a; (case a => k_is)
    have cls : ∃ CL CG CP : Addr, Lay.TxOf KX mg ⟨CL, CG, CP⟩ ∧ Lay.RawIOf KX mg "Layer" CL "Layer.__init__" Lay.sLayerInit ["self", "number", "x", "y", "width", "height", "pixels"] ∧ Lay.RawIOf KX mg "Group" CG "Group.__init__" Lay.sGroupInit ["self", "number", "things"] ∧ Lay.RawIOf KX mg "Picture" CP "Picture.__init__" Lay.sPicInit ["self"] ∧ Lay.RawMOf KX CP "begin" "Picture.begin" Lay.sPicBegin ["self", "width", "height"] ∧ Lay.RawMOf KX CP "take_number" "Picture.take_number" Lay.sPicTake ["self"] := by
      refine' ⟨_, _, _, ?tx, ?cl, ?cg, ?cp, ?mb, ?mt⟩
      case cl =>
        refine' Lay.rawI_mk KX G ?aC ?mk ?kc ?a ?i ?l ?c ?b
        (case aC => k_is)
        (case mk => k_is)
        (case kc => k_is)
        (case a => k_is)
        (case i => k_is)
        (case l => k_is)
        (case c => k_is)
        (case b => exact fun _ _ _ _ _ _ us hl => match us, hl with | [_, _, _, _, _, _, _], _ => rfl)
      case cg =>
        refine' Lay.rawI_mk KX G ?aC ?mk ?kc ?a ?i ?l ?c ?b
        (case aC => k_is)
        (case mk => k_is)
        (case kc => k_is)
        (case a => k_is)
        (case i => k_is)
        (case l => k_is)
        (case c => k_is)
        (case b => exact fun _ _ _ _ _ _ us hl => match us, hl with | [_, _, _], _ => rfl)
      case cp =>
        refine' Lay.rawI_mk KX G ?aC ?mk ?kc ?a ?i ?l ?c ?b
        (case aC => k_is)
        (case mk => k_is)
        (case kc => k_is)
        (case a => k_is)
        (case i => k_is)
        (case l => k_is)
        (case c => k_is)
        (case b => exact fun _ _ _ _ _ _ us hl => match us, hl with | [_], _ => rfl)
      case mb =>
        refine' Lay.rawM_mk ?a ?i ?l ?c ?k ?b
        (case a => k_is)
        (case i => k_is)
        (case l => k_is)
        (case c => k_is)
        (case k => k_is)
        (case b => exact fun _ _ _ _ _ _ us hl => match us, hl with | [_, _, _], _ => rfl)
      case mt =>
        refine' Lay.rawM_mk ?a ?i ?l ?c ?k ?b
        (case a => k_is)
        (case i => k_is)
        (case l => k_is)
        (case c => k_is)
        (case k => k_is)
        (case b => exact fun _ _ _ _ _ _ us hl => match us, hl with | [_], _ => rfl)
      case tx =>
        refine' Lay.tx_mk KX G ?_ ?_ (Lay.insC_mk ?_ ?_ ?_ ?_ ?_ ?_ ?_ ?_ ?_) (Lay.insC_mk ?_ ?_ ?_ ?_ ?_ ?_ ?_ ?_ ?_) ⟨?_, ?_, ?_, ?_⟩ ?_ ?_ (Lay.na_cons ?_ (Lay.na_cons ?_ (Lay.na_cons ?_ (Lay.na_cons ?_ (Lay.na_cons ?_ (Lay.na_cons ?_ (Lay.na_cons ?_ (Lay.na_cons ?_ (Lay.na_cons ?_ (Lay.na_cons ?_ Lay.na_nil)))))))))) (Lay.na_cons ?_ (Lay.na_cons ?_ (Lay.na_cons ?_ (Lay.na_cons ?_ (Lay.na_cons ?_ (Lay.na_cons ?_ Lay.na_nil)))))) (Lay.na_cons ?_ (Lay.na_cons ?_ (Lay.na_cons ?_ (Lay.na_cons ?_ Lay.na_nil)))) z_len z_isinstance z_enumerate
        all_goals first | k_is | rfl | kernel_rfl
    obtain ⟨CL, CG, CP, T, rL, rG, rP, rB, rT⟩ := cls
    have clsD : ∃ CD : Addr, Lay.DxOf KX mg CD ∧ Lay.RawIOf KX mg "Dot" CD "Dot.__init__" Lay.sDotInit ["self", "cover", "tint", "whole"] := by
      refine' ⟨_, ?dx, ?cd⟩
      case cd =>
        refine' Lay.rawI_mk KX G ?aC ?mk ?kc ?a ?i ?l ?c ?b
        (case aC => k_is)
        (case mk => k_is)
        (case kc => k_is)
        (case a => k_is)
        (case i => k_is)
        (case l => k_is)
        (case c => k_is)
        (case b => exact fun _ _ _ _ _ _ us hl => match us, hl with | [_, _, _, _], _ => rfl)
      case dx =>
        refine' Lay.dx_mk ⟨?_, ?_, ?_, ?_⟩ (Lay.na_cons ?_ (Lay.na_cons ?_ (Lay.na_cons ?_ Lay.na_nil))) z_min z_max z_abs z_range
        all_goals first | k_is | rfl | kernel_rfl
    obtain ⟨CD, X, rD⟩ := clsD
    have cT : Lay.ClsFnOf KX PySem.Challenge.rw_layersover_s01_answers.prog w mg 1 "Thing" "__init__" Lay.spThing := by
      refine' Lay.clsfn_mk KX G ?a ?rd ?ga ?af ?l ?c ?k ?b (fun base f fd F => Lay.thing_fn n_level F)
      (case a => k_is)
      (case rd => k_is)
      (case ga => k_is)
      (case af => k_is)
      (case l => k_is)
      (case c => k_is)
      (case k => k_is)
      (case b => exact fun _ _ _ _ _ _ us hl => match us, hl with | [_, _], _ => rfl)
    have d_sizes : Lay.DictG KX mg "SIZES" Lay.sizesD := by
      refine' Lay.dict_mk KX G ?a ?l ?e; (case a => k_is); (case l => k_is); (case e => decide +kernel)
    refine' Lay.main_mk (st := Lay.sAnswers) KX G hmg ?a ?l ?c ?b (fun base fd F => ?ok)
    (case a => k_is); (case l => k_is); (case c => k_is)
    (case b => exact fun _ _ _ _ _ _ us hl => match us, hl with | [_], _ => rfl)
    case ok => exact Lay.whole_ok ⟨r_all_things, r_find_thing, r_place_of, r_holder_of, r_take_out, r_place_of_pixel, r_nothing, r_weakened, r_over, r_mixed, r_is_same, r_in_lowest_terms, r_colour_in_lowest_terms, r_lowest_terms, r_greatest_divisor, r_shown, r_nearest_level, r_dot_of_picture, r_put_together, r_dot_of_thing, r_dot_of_layer, r_shown_row, r_is_side, r_is_full, r_begin, r_make_layer, r_make_group, r_open_group, r_set_how, r_shift_layer, r_paint_layer, r_drop_thing, r_lift_thing, r_make_flat, r_has_pixel, r_look_at_dot, r_look_at_row, r_what_matters, r_list_things, r_all_numbers, r_end_of_call, r_go_through, r_answer_call, r_answer_change⟩ T X ⟨n_bad, n_no, n_unfit, n_full, n_side, n_most, n_level, n_way, n_told, n_far⟩ ⟨z_max, z_list⟩ ⟨k_BEGIN, k_LAYER, k_GROUP, k_OPEN, k_HOW, k_SHIFT, k_PAINT, k_DROP, k_LIFT, k_DOT, k_ROW, k_MATTERS, k_LIST⟩ ⟨d_sizes, k_LAYER⟩ rL rG rP rB rT rD (cT base) F
  case S =>
    intro K H xs a hO hwi hask hx
    cases hx with
    | cons h1 h2 =>
      cases h2
      cases h1 with
      | lst hs ha =>
        have e := L2.ints_dw a.1 _ ha
        subst e
        have as : PySq49.answers_asked a.1 = true := hask
        obtain ⟨ks, k1, k2, k3, k4, k5⟩ := LCalls.asked_calls as
        rw [k4] at k5
        refine ⟨_, ks, rfl, by rw [← k1]; exact hs, k3, k5, fun H' p hp => ?_⟩
        rw [← k4] at hp
        exact .lst (L2.SqL.of hp) (L2.dw_ints _)
