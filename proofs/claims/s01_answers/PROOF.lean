import PyProof.Rows.All
import Wide.All
import OpenK.AllK
import Wide.FinOn
import Open.SpecLaws
import KE.OsHead
import KE.OsGo
import HandS.ForSpec
import HandS.Codes
import HandS.Evl
import HandS.Walk
import HandS.Iter
import HandS.SortKw
import HandS.WordsDict
import KE.DataMinMax
import PySem.Challenge.RW_powerkept_s01_answers
set_option Elab.async false
set_option linter.all false
set_option maxRecDepth 100000
set_option maxHeartbeats 2000000
namespace Pk
open PySem PySem.Spec PyProof.Rows L2 Evl

/-! ### numbers and bytes as values -/
abbrev nv (n : Nat) : V := .int (n : Int)
def enc (w : List Nat) : List V := w.map nv
theorem enc_len (w : List Nat) : (enc w).length = w.length := List.length_map ..
theorem enc_app (a b : List Nat) : enc (a ++ b) = enc a ++ enc b := List.map_append ..
theorem enc_get (w : List Nat) (i : Nat) : (enc w)[i]? = (w[i]?).map nv := List.getElem?_map ..
theorem enc_ints (w : List Nat) : enc w = (w.map fun (n : Nat) => (n : Int)).map V.int := by
  unfold enc
  rw [List.map_map]
  rfl
theorem sum_ints : ∀ w : List Nat, (w.map fun (n : Nat) => (n : Int)).sum = ((w.sum : Nat) : Int)
  | [] => rfl
  | a :: r => by
    rw [List.map_cons, List.sum_cons, List.sum_cons, sum_ints r]
    rfl
theorem sum_spec_go : ∀ (w : List Nat) (s : Nat), w.foldl (fun s b => s + b) s = s + w.sum
  | [], s => rfl
  | a :: r, s => by
    rw [List.foldl_cons, sum_spec_go r, List.sum_cons]
    omega
theorem sum_spec (w : List Nat) : Ue12.sum w = w.sum := (sum_spec_go w 0).trans (Nat.zero_add _)
theorem nv_inj {a b : Nat} : (nv a = nv b) ↔ a = b := by
  constructor
  · intro h
    injection h with h
    omega
  · intro h
    rw [h]
theorem dec_nv (a b : Nat) : decide (nv a = nv b) = decide (a = b) := by
  by_cases h : a = b
  · rw [decide_eq_true h, decide_eq_true (nv_inj.mpr h)]
  · rw [decide_eq_false h, decide_eq_false fun q => h (nv_inj.mp q)]
theorem enc_inj : ∀ {a b : List Nat}, enc a = enc b → a = b
  | [], [], _ => rfl
  | [], _ :: _, h => by cases h
  | _ :: _, [], h => by cases h
  | x :: a, y :: b, h => by
    injection h with h1 h2
    rw [nv_inj.mp h1, enc_inj h2]

/-! ### cuts -/
theorem cut_to (w : List Nat) (n : Nat) : cutV (enc w) none (some (n : Int)) = enc (w.take n) := by
  unfold cutV
  rw [HT.sIx_nat, HT.sIx_none, List.drop_zero, Nat.sub_zero, enc_len]
  unfold enc
  rw [← List.map_take]
  congr 1
  rw [List.take_eq_take_iff] <;> omega
theorem cut_from (w : List Nat) (n : Nat) : cutV (enc w) (some (n : Int)) none = enc (w.drop n) := by
  unfold cutV
  rw [HT.sIx_nat, HT.sIx_none, enc_len]
  unfold enc
  rw [← List.map_drop, ← List.map_take]
  congr 1
  by_cases h : n ≤ w.length
  · rw [Nat.min_eq_left h, List.take_of_length_le (by rw [List.length_drop] <;> omega)]
  · rw [Nat.min_eq_right (by omega), List.drop_of_length_le (Nat.le_refl _), List.drop_of_length_le (by omega), List.take_nil]
theorem cut_both (w : List Nat) (n m : Nat) : cutV (enc w) (some (n : Int)) (some (m : Int)) = enc ((w.drop n).take (m - n)) := by
  unfold cutV
  rw [HT.sIx_nat, HT.sIx_nat, enc_len]
  unfold enc
  rw [← List.map_drop, ← List.map_take]
  congr 1
  by_cases h : n ≤ w.length
  · rw [Nat.min_eq_left h, List.take_eq_take_iff, List.length_drop]
    omega
  · rw [Nat.min_eq_right (a := n) (by omega), List.drop_of_length_le (Nat.le_refl _), List.drop_of_length_le (by omega)]
    rw [List.take_nil, List.take_nil]

/-! ### what an expression comes to -/
/-- a list of these, new or old -/
def EvR (te : TE) (σ : L2.St) (H : Hp) (xs : List V) : Prop := ∀ H1, Ex H H1 → ∀ Q : VK, (∀ p H2, Ex H1 H2 → H2 p = some (.lst xs) → Q (.ref p) H2) → te σ H1 Q
/-- something of which P holds -/
def Ep (te : TE) (σ : L2.St) (H : Hp) (P : V → Hp → Prop) : Prop := ∀ H1, Ex H H1 → ∀ Q : VK, (∀ v H2, Ex H1 H2 → P v H2 → Q v H2) → te σ H1 Q
def Ap (ta : TA) (σ : L2.St) (H : Hp) (P : List V → Hp → Prop) : Prop := ∀ H1, Ex H H1 → ∀ Q : List V → Hp → Prop, (∀ vs H2, Ex H1 H2 → P vs H2 → Q vs H2) → ta σ H1 Q
/-- stays so when the heap grows -/
def Mon (P : V → Hp → Prop) : Prop := ∀ v H H', Ex H H' → P v H → P v H'
def isV (x : V) : V → Hp → Prop := fun v _ => v = x
def isL (xs : List V) : V → Hp → Prop := fun v H => ∃ p, v = .ref p ∧ H p = some (.lst xs)
def isB (w : List Nat) : V → Hp → Prop := isL (enc w)
theorem mon_v {x : V} : Mon (isV x) := fun _ _ _ _ h => h
theorem mon_l {xs : List V} : Mon (isL xs) := fun _ _ _ e ⟨p, h, q⟩ => ⟨p, h, e _ _ q⟩
theorem mon_b {w : List Nat} : Mon (isB w) := mon_l
/-- arguments, each as told -/
def Fits : List (V → Hp → Prop) → List V → Hp → Prop
  | [], [], _ => True
  | p :: ps, v :: vs, H => p v H ∧ Fits ps vs H
  | _, _, _ => False
theorem fits_len : ∀ {ps : List (V → Hp → Prop)} {vs : List V} {H : Hp}, Fits ps vs H → vs.length = ps.length
  | [], [], _, _ => rfl
  | _ :: _, _ :: _, _, h => congrArg (· + 1) (fits_len h.2)
  | [], _ :: _, _, h => h.elim
  | _ :: _, [], _, h => h.elim
theorem fits1 {p : V → Hp → Prop} {vs : List V} {H : Hp} (h : Fits [p] vs H) : ∃ v, vs = [v] ∧ p v H := match vs, h with
  | [v], h => ⟨v, rfl, h.1⟩
theorem fits2 {p q : V → Hp → Prop} {vs : List V} {H : Hp} (h : Fits [p, q] vs H) : ∃ v u, vs = [v, u] ∧ p v H ∧ q u H := match vs, h with
  | [v, u], h => ⟨v, u, rfl, h.1, h.2.1⟩
theorem fits3 {p q r : V → Hp → Prop} {vs : List V} {H : Hp} (h : Fits [p, q, r] vs H) : ∃ v u x, vs = [v, u, x] ∧ p v H ∧ q u H ∧ r x H := match vs, h with
  | [v, u, x], h => ⟨v, u, x, rfl, h.1, h.2.1, h.2.2.1⟩
theorem fits4 {p q r s : V → Hp → Prop} {vs : List V} {H : Hp} (h : Fits [p, q, r, s] vs H) : ∃ v u x y, vs = [v, u, x, y] ∧ p v H ∧ q u H ∧ r x H ∧ s y H := match vs, h with
  | [v, u, x, y], h => ⟨v, u, x, y, rfl, h.1, h.2.1, h.2.2.1, h.2.2.2.1⟩
section
variable {K : PySem.W.Frag} {σ : L2.St} {H H' : Hp} {ta tb te : TE} {x y z v : V} {r : R2} {xs ys : List V} {w u : List Nat}
theorem elR (h : EvL te σ H xs) : EvR te σ H xs := fun H1 e Q q => h H1 e Q fun p H2 _ e2 h2 => q p H2 e2 h2
theorem erP (h : EvR te σ H xs) : Ep te σ H (isL xs) := fun H1 e Q q => h H1 e Q fun p H2 e2 h2 => q _ H2 e2 ⟨p, rfl, h2⟩
theorem elP (h : EvL te σ H xs) : Ep te σ H (isL xs) := erP (elR h)
theorem elB (h : EvL te σ H (enc w)) : Ep te σ H (isB w) := erP (elR h)
theorem erB (h : EvR te σ H (enc w)) : Ep te σ H (isB w) := erP h
theorem evV (h : Ev te σ H x) : Ep te σ H (isV x) := fun H1 e Q q => h H1 e Q fun H2 e2 => q _ H2 e2 rfl
theorem evR {p : Addr} (h : Ev te σ H (.ref p)) (hp : H p = some (.lst xs)) : EvR te σ H xs := fun H1 e Q q => h H1 e Q fun H2 e2 => q p H2 e2 (e2 _ _ (e _ _ hp))
theorem er_var {i : Nat} {p : Addr} (h : σ[i]? = some (some (.ref p))) (hp : H p = some (.lst xs)) : EvR (tVar i) σ H xs := evR (ev_var h) hp
theorem er_mono (e : Ex H H') (h : EvR te σ H xs) : EvR te σ H' xs := fun H1 a Q q => h H1 (e.trans a) Q q
theorem er_is (h : EvR te σ H xs) (e : xs = ys) : EvR te σ H ys := e ▸ h
theorem el_is (h : EvL te σ H xs) (e : xs = ys) : EvL te σ H ys := e ▸ h
theorem ap_nil : Ap tNil σ H (Fits []) := fun H1 _ _ q => q [] H1 (Ex.refl H1) trivial
theorem ap_cons {tr : TA} {P : V → Hp → Prop} {ps : List (V → Hp → Prop)} (h : Ep te σ H P) (m : Mon P) (hr : Ap tr σ H (Fits ps)) : Ap (tCons te tr) σ H (Fits (P :: ps)) := fun H1 e _ q =>
  h H1 e _ fun v H2 e2 hv => hr H2 (e.trans e2) _ fun vs H3 e3 hvs => q (v :: vs) H3 (e2.trans e3) ⟨m v H2 H3 e3 hv, hvs⟩
theorem ap_v {tr : TA} {ps : List (V → Hp → Prop)} (h : Ev te σ H x) (hr : Ap tr σ H (Fits ps)) : Ap (tCons te tr) σ H (Fits (isV x :: ps)) := ap_cons (evV h) mon_v hr
theorem ap_b {tr : TA} {ps : List (V → Hp → Prop)} (h : EvR te σ H (enc w)) (hr : Ap tr σ H (Fits ps)) : Ap (tCons te tr) σ H (Fits (isB w :: ps)) := ap_cons (erB h) mon_b hr
theorem el_cat (ha : EvR ta σ H xs) (hb : EvR tb σ H ys) (hl : xs.length + ys.length ≤ 100000) : EvL (tOp rCat ta tb) σ H (xs ++ ys) := fun H1 e _ q =>
  ha H1 e _ fun p H2 e2 h2 => hb H2 (e.trans e2) _ fun p' H3 e3 h3 =>
    ⟨p, p', xs, ys, rfl, rfl, e3 _ _ h2, h3, sz_of hl, fun l hl => q l _ (fresh_back (e2.trans e3) hl) ((e2.trans e3).trans (Ex.new hl)) upd_same⟩
theorem el_catB (ha : EvR ta σ H (enc w)) (hb : EvR tb σ H (enc u)) (hl : w.length + u.length ≤ 100000) : EvL (tOp rCat ta tb) σ H (enc (w ++ u)) := by
  rw [enc_app]
  exact el_cat ha hb (by rw [enc_len, enc_len]; exact hl)
theorem el_slR {tl th : TO} {lo hi : Option Int} (h : EvR te σ H xs) (h1 : EvO tl σ H lo) (h2 : EvO th σ H hi) : EvL (tSl (rSlL K) te tl th) σ H (cutV xs lo hi) := fun H1 e _ q =>
  h H1 e _ fun p H2 e2 hp => h1 H2 (e.trans e2) _ fun H3 e3 => h2 H3 ((e.trans e2).trans e3) _ fun H4 e4 =>
    ⟨p, xs, rfl, sq_of (e4 _ _ (e3 _ _ hp)), fun l hl => q l _ (fresh_back ((e2.trans e3).trans e4) hl) (((e2.trans e3).trans e4).trans (Ex.new hl)) upd_same⟩
theorem el_to {th : TO} {n : Nat} (h : EvR te σ H (enc w)) (h2 : EvO th σ H (some (n : Int))) : EvL (tSl (rSlL K) te tNoPart th) σ H (enc (w.take n)) := cut_to w n ▸ el_slR h eo_none h2
theorem el_from {tl : TO} {n : Nat} (h : EvR te σ H (enc w)) (h1 : EvO tl σ H (some (n : Int))) : EvL (tSl (rSlL K) te tl tNoPart) σ H (enc (w.drop n)) := cut_from w n ▸ el_slR h h1 eo_none
theorem el_both {tl th : TO} {n m : Nat} (h : EvR te σ H (enc w)) (h1 : EvO tl σ H (some (n : Int))) (h2 : EvO th σ H (some (m : Int))) : EvL (tSl (rSlL K) te tl th) σ H (enc ((w.drop n).take (m - n))) := cut_both w n m ▸ el_slR h h1 h2
/-! numbers -/
theorem en_add {a b : Nat} (ha : Ev ta σ H (nv a)) (hb : Ev tb σ H (nv b)) : Ev (tOp (rI0 fun i j => .int (i + j)) ta tb) σ H (nv (a + b)) := ev_op ha hb (rv_I0 (g := fun i j => .int (i + j)))
theorem en_sub {a b : Nat} (ha : Ev ta σ H (nv a)) (hb : Ev tb σ H (nv b)) (h : b ≤ a) : Ev (tOp (rI0 fun i j => .int (i - j)) ta tb) σ H (nv (a - b)) := by
  have e : nv (a - b) = .int ((a : Int) - (b : Int)) := by
    show V.int ((a - b : Nat) : Int) = _
    rw [Int.ofNat_sub h]
  rw [e]
  exact ev_op ha hb (rv_I0 (g := fun i j => .int (i - j)))
theorem en_mul {a b : Nat} (ha : Ev ta σ H (nv a)) (hb : Ev tb σ H (nv b)) (h : a < 2 ^ 64) {C : Int → Int → Prop} (hc : C a b) : Ev (tOp (rI C fun i j => .int (i * j)) ta tb) σ H (nv (a * b)) := ev_op ha hb (rv_I (g := fun i j => .int (i * j)) hc)
theorem en_mod {a b : Nat} (ha : Ev ta σ H (nv a)) (hb : Ev tb σ H (nv b)) (h : 0 < b) : Ev (tOp (rI (fun _ j => 0 < j) fun i j => .int (i % j)) ta tb) σ H (nv (a % b)) := ev_op ha hb (rv_I (g := fun i j => .int (i % j)) (by omega))
theorem en_div {a b : Nat} (ha : Ev ta σ H (nv a)) (hb : Ev tb σ H (nv b)) (h : 0 < b) (h2 : b < 1073741824) : Ev (tOp (rI CDiv fun i j => .int (i / j)) ta tb) σ H (nv (a / b)) := ev_op ha hb (rv_I (g := fun i j => .int (i / j)) (by constructor <;> omega))
theorem en_c {a : Nat} : Ev (tC (.int (a : Int))) σ H (nv a) := ev_c
theorem en_len (h : EvR te σ H xs) : Ev (tCB (rLenS K) (tCons te tNil)) σ H (nv xs.length) := fun H1 e Q q =>
  h H1 e _ fun p H2 e2 h2 => ⟨p, xs, rfl, Or.inl (sq_of h2), q H2 e2⟩
theorem en_lenB (h : EvR te σ H (enc w)) : Ev (tCB (rLenS K) (tCons te tNil)) σ H (nv w.length) := enc_len w ▸ en_len h
theorem en_sum (h : EvR te σ H (enc w)) : Ev (tCB (rSum K) (tCons te tNil)) σ H (nv w.sum) := fun H1 e Q q =>
  h H1 e _ fun p H2 e2 h2 => ⟨p, _, rfl, sq_of (by rw [h2, enc_ints]), by rw [sum_ints]; exact q H2 e2⟩
theorem at_enc {i n : Nat} (h : w[i]? = some n) : atI (enc w) (i : Int) = some (nv n) := atI_nat (by rw [enc_get, h]; rfl)
theorem en_ix {i n : Nat} (h : EvR te σ H (enc w)) (hi : Ev tb σ H (nv i)) (hn : w[i]? = some n) : Ev (tOp (rIxL K) te tb) σ H (nv n) := fun H1 e Q q =>
  h H1 e _ fun p H2 e2 h2 => hi H2 (e.trans e2) _ fun H3 e3 => ⟨p, enc w, (i : Int), nv n, rfl, rfl, sq_of (e3 _ _ h2), at_enc hn, q H3 (e2.trans e3)⟩
theorem ev_ixR {i : Nat} (h : EvR te σ H xs) (hi : Ev tb σ H (nv i)) (hn : xs[i]? = some v) : Ev (tOp (rIxL K) te tb) σ H v := fun H1 e Q q =>
  h H1 e _ fun p H2 e2 h2 => hi H2 (e.trans e2) _ fun H3 e3 => ⟨p, xs, (i : Int), v, rfl, rfl, sq_of (e3 _ _ h2), atI_nat hn, q H3 (e2.trans e3)⟩
theorem el_0 : EvL (tLst tNil) σ H (enc []) := el_lst ea_nil (by show 0 ≤ 100000; decide)
theorem el_1 {a : Nat} (ha : Ev ta σ H (nv a)) : EvL (tLst (tCons ta tNil)) σ H (enc [a]) := el_lst (ea_cons ha ea_nil) (by show 1 ≤ 100000; decide)
theorem el_2 {a b : Nat} (ha : Ev ta σ H (nv a)) (hb : Ev tb σ H (nv b)) : EvL (tLst (tCons ta (tCons tb tNil))) σ H (enc [a, b]) := el_lst (ea_cons ha (ea_cons hb ea_nil)) (by show 2 ≤ 100000; decide)
theorem el_3 {tc : TE} {a b c : Nat} (ha : Ev ta σ H (nv a)) (hb : Ev tb σ H (nv b)) (hc : Ev tc σ H (nv c)) : EvL (tLst (tCons ta (tCons tb (tCons tc tNil)))) σ H (enc [a, b, c]) := el_lst (ea_cons ha (ea_cons hb (ea_cons hc ea_nil))) (by show 3 ≤ 100000; decide)
/-! fields -/
theorem ev_fld {a C dx : Addr} {fs : List (Str × V)} {f : Str} (h : Ev te σ H (.ref a)) (ho : H a = some (.ins C dx fs)) (hc : Cls K C) (hn : NoAttr K C f) (hl : fs.lookup f = some v) : Ev (tFld K te f) σ H v := fun H1 e Q q =>
  h H1 e _ fun H2 e2 => ⟨a, C, dx, fs, v, rfl, e2 _ _ (e _ _ ho), hc, hn, hl, q H2 e2⟩
/-! tests -/
theorem eb_eq {a b : Nat} (ha : Ev ta σ H (nv a)) (hb : Ev tb σ H (nv b)) : Ev (tOp rEq ta tb) σ H (.bl (decide (a = b))) := dec_nv a b ▸ ev_op ha hb (rv_eq rfl)
theorem eb_ne {a b : Nat} (ha : Ev ta σ H (nv a)) (hb : Ev tb σ H (nv b)) : Ev (tOp rNe ta tb) σ H (.bl (!decide (a = b))) := dec_nv a b ▸ ev_op ha hb (rv_ne rfl)
theorem dec_lt (a b : Nat) : decide ((a : Int) < (b : Int)) = decide (a < b) := by by_cases h : a < b <;> simp [h]
theorem dec_le (a b : Nat) : decide ((a : Int) ≤ (b : Int)) = decide (a ≤ b) := by by_cases h : a ≤ b <;> simp [h]
theorem eb_lt {a b : Nat} (ha : Ev ta σ H (nv a)) (hb : Ev tb σ H (nv b)) : Ev (tOp (rI0 fun i j => .bl (decide (i < j))) ta tb) σ H (.bl (decide (a < b))) := dec_lt a b ▸ ev_op ha hb (rv_I0 (g := fun i j => .bl (decide (i < j))))
theorem eb_gt {a b : Nat} (ha : Ev ta σ H (nv a)) (hb : Ev tb σ H (nv b)) : Ev (tOp (rI0 fun i j => .bl (decide (j < i))) ta tb) σ H (.bl (decide (b < a))) := dec_lt b a ▸ ev_op ha hb (rv_I0 (g := fun i j => .bl (decide (j < i))))
theorem eb_le {a b : Nat} (ha : Ev ta σ H (nv a)) (hb : Ev tb σ H (nv b)) : Ev (tOp (rI0 fun i j => .bl (decide (i ≤ j))) ta tb) σ H (.bl (decide (a ≤ b))) := dec_le a b ▸ ev_op ha hb (rv_I0 (g := fun i j => .bl (decide (i ≤ j))))
theorem eb_ge {a b : Nat} (ha : Ev ta σ H (nv a)) (hb : Ev tb σ H (nv b)) : Ev (tOp (rI0 fun i j => .bl (decide (j ≤ i))) ta tb) σ H (.bl (decide (b ≤ a))) := dec_le b a ▸ ev_op ha hb (rv_I0 (g := fun i j => .bl (decide (j ≤ i))))
end
/-! ### promises of defs that change nothing -/
/-- a new list of bytes is handed back -/
def spL {I : Type} (A : I → List (V → Hp → Prop)) (pre : I → Prop) (R : I → List Nat) : Sp := fun vs H Q _ => ∃ i, Fits (A i) vs H ∧ pre i ∧ RetL (enc (R i)) H Q
/-- a value is handed back -/
def spV {I : Type} (A : I → List (V → Hp → Prop)) (pre : I → Prop) (R : I → V) : Sp := fun vs H Q _ => ∃ i, Fits (A i) vs H ∧ pre i ∧ RetV (R i) H Q
section
variable {K : PySem.W.Frag} {σ : L2.St} {H : Hp} {I : Type} {A : I → List (V → Hp → Prop)} {pre : I → Prop} {E : XK} {ta : TA}
theorem el_fn {R : I → List Nat} (i : I) (hp : pre i) (h : Ap ta σ H (Fits (A i))) : EvL (tCall (spL A pre R) [] E ta) σ H (enc (R i)) := fun H1 e Q q =>
  h H1 e _ fun vs H2 e2 hv => by
    rw [List.append_nil]
    exact ⟨i, hv, hp, fun p H3 n e3 h3 => q p H3 (fresh_back e2 n) (e2.trans e3) h3⟩
theorem ev_fn {R : I → V} (i : I) (hp : pre i) (h : Ap ta σ H (Fits (A i))) : Ev (tCall (spV A pre R) [] E ta) σ H (R i) := fun H1 e Q q =>
  h H1 e _ fun vs H2 e2 hv => by
    rw [List.append_nil]
    exact ⟨i, hv, hp, fun H3 e3 => q H3 (e2.trans e3)⟩
end
end Pk

set_option Elab.async false
set_option linter.all false
namespace Pk
/-! ### reading records: the mathematics -/
def knownB (b : List Nat) : Bool := (Ue12.recOf b).isSome
theorem known_nil : knownB [] = false := rfl
theorem known_one (r : List Nat) : knownB (1 :: r) = decide (3 ≤ r.length + 1) := by
  match r with
  | [] => rfl
  | [_] => rfl
  | _ :: _ :: w =>
    show true = _
    rw [decide_eq_true]
    simp
theorem known_two (r : List Nat) : knownB (2 :: r) = decide (r.length + 1 = 3) := by
  match r with
  | [] => rfl
  | [_] => rfl
  | [_, _] => rfl
  | _ :: _ :: _ :: w =>
    show false = _
    rw [decide_eq_false]
    simp
theorem known_three (r : List Nat) : knownB (3 :: r) = true := by
  match r with
  | [] => rfl
  | [_] => rfl
  | [_, _] => rfl
  | _ :: _ :: _ :: w => rfl
theorem known_else (x : Nat) (r : List Nat) (h1 : x ≠ 1) (h2 : x ≠ 2) (h3 : x ≠ 3) : knownB (x :: r) = false := by
  unfold knownB Ue12.recOf
  split <;> simp_all
theorem known_eq (x : Nat) (r : List Nat) : knownB (x :: r) = if x = 1 then decide (3 ≤ r.length + 1) else if x = 2 then decide (r.length + 1 = 3) else decide (x = 3) := by
  by_cases h1 : x = 1
  · subst h1
    rw [if_pos rfl, known_one]
  · rw [if_neg h1]
    by_cases h2 : x = 2
    · subst h2
      rw [if_pos rfl, known_two]
    · rw [if_neg h2]
      by_cases h3 : x = 3
      · subst h3
        rw [known_three]
        rfl
      · rw [known_else x r h1 h2 h3, decide_eq_false h3]
/-- the body of the record at a place -/
def bodyAt (row : List Nat) (p : Nat) : List Nat :=
  if row.length < p + 2 then [] else
  if row.getD p 0 = 0 ∨ row.getD p 0 + row.getD (p + 1) 0 ≠ 255 then [] else
  if row.length < p + 2 + row.getD p 0 + 2 then [] else
  if row.getD (p + 2 + row.getD p 0) 0 ≠ ((row.drop (p + 2)).take (row.getD p 0)).sum % 256 ∨ row.getD (p + 2 + row.getD p 0 + 1) 0 ≠ 255 then [] else
  if knownB ((row.drop (p + 2)).take (row.getD p 0)) = true then (row.drop (p + 2)).take (row.getD p 0) else []
theorem bodyAt_len {row : List Nat} {p : Nat} (h : bodyAt row p ≠ []) : p + (bodyAt row p).length + 4 ≤ row.length ∧ 0 < (bodyAt row p).length := by
  have hl := List.length_pos_iff.mpr h
  refine ⟨?_, hl⟩
  unfold bodyAt at *
  split at hl
  · simp at hl
  split at hl
  · simp at hl
  split at hl
  · simp at hl
  split at hl
  · simp at hl
  split at hl
  · rename_i h1 h2 h3 h4 h5
    rw [if_neg h1, if_neg h2, if_neg h3, if_neg h4, if_pos h5, List.length_take, List.length_drop]
    omega
  · simp at hl
theorem bodyAt_le {row : List Nat} {p : Nat} : (bodyAt row p).length ≤ row.length := by
  by_cases h : bodyAt row p = []
  · rw [h]; simp
  · have := bodyAt_len h
    omega
theorem bodyAt_known {row : List Nat} {p : Nat} (h : bodyAt row p ≠ []) : knownB (bodyAt row p) = true := by
  have hl := List.length_pos_iff.mpr h
  unfold bodyAt at *
  split at hl
  · simp at hl
  split at hl
  · simp at hl
  split at hl
  · simp at hl
  split at hl
  · simp at hl
  split at hl
  · rename_i h1 h2 h3 h4 h5
    rw [if_neg h1, if_neg h2, if_neg h3, if_neg h4, if_pos h5]
    exact h5
  · simp at hl
theorem sumSpec : ∀ (w : List Nat) (s : Nat), w.foldl (fun s b => s + b) s = s + w.sum
  | [], s => rfl
  | a :: r, s => by
    rw [List.foldl_cons, sumSpec r, List.sum_cons]
    omega
theorem sumU (w : List Nat) : Ue12.sum w = w.sum := (sumSpec w 0).trans (Nat.zero_add _)
theorem getD_drop' (row : List Nat) (p i : Nat) : (row.drop p).getD i 0 = row.getD (p + i) 0 := by
  simp [List.getD_eq_getElem?_getD, List.getElem?_drop]
theorem recordAt_eq (row : List Nat) (p : Nat) : Ue12.recordAt (row.drop p) = (Ue12.recOf (bodyAt row p)).map fun r => (r, (bodyAt row p).length + 4) := by
  unfold bodyAt
  split
  · rename_i h1
    have e : (row.drop p).length < 2 := by rw [List.length_drop]; omega
    match hd : row.drop p with
    | [] => rfl
    | [_] => rfl
    | _ :: _ :: v => rw [hd] at e; simp at e; omega
  · rename_i h1
    have e : 2 ≤ (row.drop p).length := by rw [List.length_drop]; omega
    match hd : row.drop p with
    | [] => rw [hd] at e; simp at e
    | [_] => rw [hd] at e; simp at e
    | n :: m :: v =>
      have hn : row.getD p 0 = n := by
        have := getD_drop' row p 0
        rw [hd] at this
        exact this.symm
      have hm : row.getD (p + 1) 0 = m := by
        have := getD_drop' row p 1
        rw [hd] at this
        exact this.symm
      have hv : row.drop (p + 2) = v := by
        rw [← List.drop_drop, hd]
        rfl
      have hlen : v.length = row.length - (p + 2) := by rw [← hv, List.length_drop]
      have g1 : ∀ i, v.getD i 0 = row.getD (p + 2 + i) 0 := fun i => by rw [← hv, getD_drop']
      rw [hn, hm, hv]
      unfold Ue12.recordAt
      dsimp only
      rw [sumU, g1 n, g1 (n + 1), show p + 2 + (n + 1) = p + 2 + n + 1 by omega]
      by_cases c1 : n = 0 ∨ n + m ≠ 255
      · rw [if_pos c1, if_neg (by omega)]
        rfl
      · rw [if_neg c1]
        by_cases c2 : row.length < p + 2 + n + 2
        · rw [if_pos c2, if_neg (by omega)]
          rfl
        · rw [if_neg c2]
          by_cases c3 : row.getD (p + 2 + n) 0 ≠ (v.take n).sum % 256 ∨ row.getD (p + 2 + n + 1) 0 ≠ 255
          · rw [if_pos c3, if_neg (fun q => c3.elim (fun c => c q.2.2.2.1) (fun c => c q.2.2.2.2))]
            rfl
          · have c3' : row.getD (p + 2 + n) 0 = (v.take n).sum % 256 ∧ row.getD (p + 2 + n + 1) 0 = 255 := by
              constructor
              · exact Decidable.byContradiction fun q => c3 (.inl q)
              · exact Decidable.byContradiction fun q => c3 (.inr q)
            rw [if_neg c3, if_pos ⟨by omega, by omega, by omega, c3'.1, c3'.2⟩]
            have lt : (v.take n).length = n := by rw [List.length_take]; omega
            by_cases c4 : knownB (v.take n) = true
            · rw [if_pos c4, lt]
            · rw [if_neg c4]
              unfold knownB at c4
              cases e : Ue12.recOf (v.take n) with
              | none => rfl
              | some r => rw [e] at c4; simp at c4
def bodiesFrom : Nat → List Nat → Nat → List (List Nat)
  | 0, _, _ => []
  | f + 1, row, p => if bodyAt row p = [] then [] else bodyAt row p :: bodiesFrom f row (p + (bodyAt row p).length + 4)
def bodies (row : List Nat) : List (List Nat) := bodiesFrom (row.length + 1) row 0
def recs (bs : List (List Nat)) : List Ue12.Rec := bs.filterMap Ue12.recOf
theorem recordsFrom_eq : ∀ (f : Nat) (row : List Nat) (p : Nat), Ue12.recordsFrom f (row.drop p) = recs (bodiesFrom f row p)
  | 0, _, _ => rfl
  | f + 1, row, p => by
    unfold Ue12.recordsFrom bodiesFrom
    rw [recordAt_eq]
    by_cases h : bodyAt row p = []
    · rw [if_pos h, h]
      rfl
    · rw [if_neg h]
      have hk := bodyAt_known h
      unfold knownB at hk
      cases e : Ue12.recOf (bodyAt row p) with
      | none => rw [e] at hk; cases hk
      | some r =>
        show r :: Ue12.recordsFrom f ((row.drop p).drop ((bodyAt row p).length + 4)) = recs (bodyAt row p :: _)
        rw [List.drop_drop, recordsFrom_eq f row]
        unfold recs
        rw [List.filterMap_cons, e, show p + ((bodyAt row p).length + 4) = p + (bodyAt row p).length + 4 by omega]
theorem records_eq (row : List Nat) : Ue12.records row = recs (bodies row) := by
  have := recordsFrom_eq (row.length + 1) row 0
  rw [List.drop_zero] at this
  exact this
def AllKnown (bs : List (List Nat)) : Prop := ∀ b ∈ bs, knownB b = true
theorem bodiesFrom_known : ∀ (f : Nat) (row : List Nat) (p : Nat), AllKnown (bodiesFrom f row p)
  | 0, _, _ => fun b hb => by cases hb
  | f + 1, row, p => by
    unfold bodiesFrom
    by_cases h : bodyAt row p = []
    · rw [if_pos h]
      intro b hb
      cases hb
    · rw [if_neg h]
      intro b hb
      rcases List.mem_cons.mp hb with rfl | hb
      · exact bodyAt_known h
      · exact bodiesFrom_known f row _ b hb
theorem bodies_known (row : List Nat) : AllKnown (bodies row) := bodiesFrom_known _ _ _
theorem bodiesFrom_le : ∀ (f : Nat) (row : List Nat) (p : Nat), (∀ b ∈ bodiesFrom f row p, b.length ≤ row.length) ∧ (p + (bodiesFrom f row p).length ≤ max p row.length)
  | 0, row, p => ⟨fun b hb => (List.not_mem_nil hb).elim, by show p + 0 ≤ _; omega⟩
  | f + 1, row, p => by
    unfold bodiesFrom
    by_cases h : bodyAt row p = []
    · rw [if_pos h]
      exact ⟨fun b hb => (List.not_mem_nil hb).elim, by show p + 0 ≤ _; omega⟩
    · rw [if_neg h]
      have hb := bodyAt_len h
      have ih := bodiesFrom_le f row (p + (bodyAt row p).length + 4)
      refine ⟨fun b q => ?_, ?_⟩
      · rcases List.mem_cons.mp q with rfl | q
        · omega
        · exact ih.1 b q
      · rw [List.length_cons]
        have := ih.2
        omega
theorem bodies_le (row : List Nat) : (∀ b ∈ bodies row, b.length ≤ row.length) ∧ (bodies row).length ≤ row.length := by
  have := bodiesFrom_le (row.length + 1) row 0
  refine ⟨this.1, ?_⟩
  have h := this.2
  unfold bodies
  omega
theorem recs_len {bs : List (List Nat)} (h : AllKnown bs) : (recs bs).length = bs.length := by
  induction bs with
  | nil => rfl
  | cons b bs ih =>
    have hb := h b (List.mem_cons_self ..)
    unfold knownB at hb
    unfold recs
    rw [List.filterMap_cons]
    cases e : Ue12.recOf b with
    | none => rw [e] at hb; cases hb
    | some r =>
      show (r :: recs bs).length = _
      rw [List.length_cons, List.length_cons, ih fun c hc => h c (List.mem_cons_of_mem _ hc)]
/-! ### what records bring about -/
/-- the text behind a change or a whole text, by its body -/
def behindB (t b : List Nat) : Option (List Nat) :=
  if b.getD 0 0 = 3 then (if (b.drop 1).length ≤ 200 then some (b.drop 1) else none)
  else if t.length < b.getD 1 0 + b.getD 2 0 then none
  else if (Ue12.changed t ⟨b.getD 1 0, b.getD 2 0, b.drop 3⟩).length ≤ 200 then some (Ue12.changed t ⟨b.getD 1 0, b.getD 2 0, b.drop 3⟩) else none
theorem known_cases {b : List Nat} (h : knownB b = true) : (∃ p o w, b = 1 :: p :: o :: w) ∨ (∃ x y, b = [2, x, y]) ∨ (∃ w, b = 3 :: w) := by
  match b, h with
  | x :: r, h =>
    rw [known_eq] at h
    by_cases h1 : x = 1
    · subst h1
      rw [if_pos rfl] at h
      have h := of_decide_eq_true h
      match r, h with
      | p :: o :: w, _ => exact .inl ⟨p, o, w, rfl⟩
      | [], h => exact absurd h (by decide)
      | [_], h => exact absurd h (by simp)
    · rw [if_neg h1] at h
      by_cases h2 : x = 2
      · subst h2
        rw [if_pos rfl] at h
        have h := of_decide_eq_true h
        match r, h with
        | [p, o], _ => exact .inr (.inl ⟨p, o, rfl⟩)
      · rw [if_neg h2] at h
        have h := of_decide_eq_true h
        subst h
        exact .inr (.inr ⟨r, rfl⟩)
theorem brought_mark (x : Ue12.Read) (a b : Nat) (bs : List (List Nat)) : Ue12.brought x (recs ([2, a, b] :: bs)) = Ue12.brought { x with kept := x.now, mark := a + 256 * b } (recs bs) := rfl
theorem brought_else (x : Ue12.Read) {b : List Nat} (bs : List (List Nat)) (h : knownB b = true) (h2 : b.getD 0 0 ≠ 2) : Ue12.brought x (recs (b :: bs)) = match behindB x.now b with
    | none => x
    | some u => Ue12.brought { x with now := u } (recs bs) := by
  rcases known_cases h with ⟨p, o, w, rfl⟩ | ⟨p, o, rfl⟩ | ⟨w, rfl⟩
  · show (if Ue12.fits x.now ⟨p, o, w⟩ = true ∧ (Ue12.changed x.now ⟨p, o, w⟩).length ≤ 200 then Ue12.brought { x with now := Ue12.changed x.now ⟨p, o, w⟩ } (recs bs) else x) = _
    have e : behindB x.now (1 :: p :: o :: w) = if x.now.length < p + o then none else if (Ue12.changed x.now ⟨p, o, w⟩).length ≤ 200 then some (Ue12.changed x.now ⟨p, o, w⟩) else none := rfl
    rw [e]
    by_cases c1 : x.now.length < p + o
    · rw [if_pos c1, if_neg]
      rintro ⟨q, _⟩
      have q := of_decide_eq_true q
      dsimp only at q
      omega
    · rw [if_neg c1]
      have f : Ue12.fits x.now ⟨p, o, w⟩ = true := decide_eq_true (by dsimp only; omega)
      by_cases c2 : (Ue12.changed x.now ⟨p, o, w⟩).length ≤ 200
      · rw [if_pos c2, if_pos ⟨f, c2⟩]
      · rw [if_neg c2, if_neg fun q => c2 q.2]
  · exact absurd rfl h2
  · show (if w.length ≤ 200 then Ue12.brought { x with now := w } (recs bs) else x) = _
    have e : behindB x.now (3 :: w) = if w.length ≤ 200 then some w else none := rfl
    rw [e]
    by_cases c : w.length ≤ 200
    · rw [if_pos c, if_pos c]
    · rw [if_neg c, if_neg c]
theorem behind_le {t b u : List Nat} (h : behindB t b = some u) : u.length ≤ 200 := by
  unfold behindB at h
  split at h
  · split at h
    · rw [← Option.some.inj h]; assumption
    · cases h
  · split at h
    · cases h
    · split at h
      · rw [← Option.some.inj h]; assumption
      · cases h
/-! ### files -/
def cnt (row : List Nat) : Bool := decide (3 ≤ row.length) && (decide (row.getD 2 0 = 255) && (decide (2 ≤ (bodies (row.drop 3)).length) && ((decide (((bodies (row.drop 3)).getD 0 []).getD 0 0 = 3) && decide (((bodies (row.drop 3)).getD 0 []).length - 1 ≤ 200)) && decide (((bodies (row.drop 3)).getD 1 []).getD 0 0 = 2))))
theorem fileRead_eq (row : List Nat) : Ue12.fileRead row = if cnt row = true then some (row.getD 0 0 + 256 * row.getD 1 0, Ue12.brought ⟨[], [], 0⟩ (recs (bodies (row.drop 3)))) else none := by
  match row with
  | [] => rfl
  | [_] => rfl
  | [_, _] => rfl
  | a :: b :: c :: v =>
    by_cases hc : c = 255
    · subst hc
      have e1 : Ue12.fileRead (a :: b :: 255 :: v) = match Ue12.records v with
        | .whole t :: .mark m :: l => if 200 < t.length then none else some (a + 256 * b, Ue12.brought ⟨[], [], 0⟩ (.whole t :: .mark m :: l))
        | _ => none := rfl
      have e2 : cnt (a :: b :: 255 :: v) = (decide (2 ≤ (bodies v).length) && ((decide (((bodies v).getD 0 []).getD 0 0 = 3) && decide (((bodies v).getD 0 []).length - 1 ≤ 200)) && decide (((bodies v).getD 1 []).getD 0 0 = 2))) := by
        unfold cnt
        rw [decide_eq_true (show 3 ≤ (a :: b :: 255 :: v).length by simp), decide_eq_true (show (a :: b :: 255 :: v).getD 2 0 = 255 from rfl), Bool.true_and, Bool.true_and]
        rfl
      rw [e1, e2, records_eq]
      show _ = if _ then some (a + 256 * b, Ue12.brought ⟨[], [], 0⟩ (recs (bodies v))) else none
      have hk := bodies_known v
      match hb : bodies v with
      | [] => rfl
      | [x] =>
        have kx := hk x (by rw [hb]; exact List.mem_cons_self ..)
        rcases known_cases kx with ⟨p, o, w, rfl⟩ | ⟨p, o, rfl⟩ | ⟨w, rfl⟩ <;> rfl
      | x :: y :: l =>
        have kx := hk x (by rw [hb]; exact List.mem_cons_self ..)
        have ky := hk y (by rw [hb]; exact List.mem_cons_of_mem _ (List.mem_cons_self ..))
        have e3 : decide (2 ≤ (x :: y :: l).length) = true := decide_eq_true (by simp)
        rw [e3, Bool.true_and]
        rcases known_cases kx with ⟨p, o, w, rfl⟩ | ⟨p, o, rfl⟩ | ⟨w, rfl⟩
        · rfl
        · rfl
        · rcases known_cases ky with ⟨p, o, w2, rfl⟩ | ⟨p, o, rfl⟩ | ⟨w2, rfl⟩
          · show none = if ((decide (3 = 3) && decide (w.length + 1 - 1 ≤ 200)) && decide (1 = 2)) = true then _ else _
            simp
          · show (if 200 < w.length then none else some (a + 256 * b, Ue12.brought ⟨[], [], 0⟩ (.whole w :: .mark (p + 256 * o) :: recs l))) = if ((decide (3 = 3) && decide (w.length + 1 - 1 ≤ 200)) && decide (2 = 2)) = true then _ else _
            by_cases h : 200 < w.length
            · rw [if_pos h, decide_eq_false (show ¬ (w.length + 1 - 1 ≤ 200) by omega)]
              rfl
            · rw [if_neg h, decide_eq_true (show w.length + 1 - 1 ≤ 200 by omega)]
              rfl
          · show none = if ((decide (3 = 3) && decide (w.length + 1 - 1 ≤ 200)) && decide (3 = 2)) = true then _ else _
            simp
    · have e1 : cnt (a :: b :: c :: v) = false := by
        unfold cnt
        rw [decide_eq_false (show ¬ (a :: b :: c :: v).getD 2 0 = 255 from hc), Bool.false_and, Bool.and_false]
      rw [e1]
      unfold Ue12.fileRead
      split
      · simp_all
      · rfl
end Pk

set_option Elab.async false
set_option linter.all false
set_option maxRecDepth 100000
set_option maxHeartbeats 2000000
namespace Pk
open PySem PySem.Spec PyProof.Rows L2 Evl
def maxOr (d : Int) : List Int → Int
  | [] => d
  | n :: r => r.foldl max n
theorem reads_ints {h : Heap} : ∀ {its : List Value} {ns : List Int}, IntsAre its ns → ReadsAll h its (ns.map PyData.int) []
  | _, _, .nil => .nil
  | _, _, .cons _ _ r => ReadsAll.cons (as := []) (bs := []) (.int _ _) (reads_ints r)
theorem depth_ints : ∀ ns : List Int, PyData.depthAll (ns.map PyData.int) ≤ 1
  | [] => by decide
  | n :: r => by
    have := depth_ints r
    show max (PyData.depth (.int n)) (PyData.depthAll (r.map PyData.int)) ≤ 1
    have e : PyData.depth (.int n) ≤ 1 := by
      first | decide | exact Nat.le_refl _ | exact Nat.zero_le _
    omega
def rMaxDf (K : PySem.W.Frag) : List V → List V → Hp → VK → Prop := fun vs zs H Q => ∃ (a : Addr) (ns : List Int) (d : Int), vs = [.ref a] ∧ zs = [.int d] ∧ SqL K H a (ns.map V.int) ∧ Q (.int (maxOr d ns)) H
theorem cr_maxDf {X : Cx} (hc : X.calm = true) (hu : X.A.units + 2 < cLine) : CallRK X (.builtin "max") [Str.ofString "default"] (rMaxDf X.K) := by
  intro pins s σ H vs zs us ws Q I r rz h
  obtain ⟨a, ns, d, rfl, rfl, hs, q⟩ := h
  obtain rfl := Vals.ref1 r
  obtain ⟨w1, rfl, e1⟩ := vals1 rz
  obtain ⟨t, rfl⟩ := e1
  obtain ⟨its, rv, hl, _⟩ := I.list hs
  have hi := rv.ints
  refine PySem.W.max_list_default (xs := ns.map PyData.int) (I.ok.hd hc) hl.isList (reads_ints hi) ⟨fun x hx y hy => ?_, fun x hx => ?_⟩ (by have := depth_ints ns; omega) (fun he h' tk hk => ?_) (fun y ys i v h' tk bs he hv hr hk => ?_)
  · obtain ⟨n, _, rfl⟩ := List.mem_map.mp hx
    obtain ⟨m, _, rfl⟩ := List.mem_map.mp hy
    rfl
  · obtain ⟨n, _, rfl⟩ := List.mem_map.mp hx
    intro z
    cases z
  · have : ns = [] := by simpa using he
    subst this
    exact ⟨.int d, H, I.kept hk, ⟨_, rfl⟩, q⟩
  · cases ns with
    | nil => cases he
    | cons n r =>
      injection he with e1 e2
      subst e1
      subst e2
      rw [PySem.W.maxD_ints] at hr
      cases hr
      exact ⟨.int _, H, I.kept hk, ⟨_, rfl⟩, q⟩
theorem hu2 {k : Nat} {A : Around} (hr : Room k A) : A.units + 2 < cLine := by have := hr.un; omega
end Pk

set_option Elab.async false
set_option linter.all false
set_option maxRecDepth 100000
set_option maxHeartbeats 2000000
namespace Pk
open PySem PySem.Spec PyProof.Rows L2 Evl
/-! ### the text by places -/
def top (i : Nat) : Stmt := PySem.Challenge.pw_powerkept_s01_answers.main.body.getD i (.Pass ⟨0, 0, 0, 0⟩)
abbrev s_low_and_high : Stmt := top 6
abbrev s_record : Stmt := top 7
abbrev s_change_record : Stmt := top 8
abbrev s_mark_record : Stmt := top 9
abbrev s_whole_record : Stmt := top 10
abbrev s_is_known : Stmt := top 11
abbrev s_body_at : Stmt := top 12
abbrev s_read_bodies : Stmt := top 13
abbrev s_goes_beyond : Stmt := top 14
abbrev s_changed : Stmt := top 15
abbrev s_text_behind : Stmt := top 16
abbrev s_bring_about : Stmt := top 18
abbrev s_head : Stmt := top 21
abbrev s_next_number : Stmt := top 22
abbrev s_first_records : Stmt := top 23
abbrev s_file_number : Stmt := top 24
abbrev s_file_bodies : Stmt := top 25
abbrev s_counts : Stmt := top 26
abbrev s_with_bytes : Stmt := top 27
abbrev s_above_bytes : Stmt := top 55
abbrev s_with_count : Stmt := top 56
abbrev s_read_answer : Stmt := top 58
abbrev s_call_end : Stmt := top 59
abbrev s_answer : Stmt := top 60
abbrev s_answers : Stmt := top 61
abbrev s_Brought___init__ : Stmt := inClass (top 17) 0
abbrev s_Write___init__ : Stmt := inClass (top 28) 0
abbrev s_Disk___init__ : Stmt := inClass (top 29) 0
abbrev s_Disk_send : Stmt := inClass (top 29) 1
abbrev s_Disk_put : Stmt := inClass (top 29) 2
abbrev s_Disk_arrive : Stmt := inClass (top 29) 3
abbrev s_Disk_arrive_all : Stmt := inClass (top 29) 4
abbrev s_Disk_arrive_some : Stmt := inClass (top 29) 5
abbrev s_Disk_found_file : Stmt := inClass (top 29) 6
abbrev s_Editor___init__ : Stmt := inClass (top 57) 0
abbrev s_Editor_begin_file : Stmt := inClass (top 57) 1
abbrev s_Editor_other_file : Stmt := inClass (top 57) 2
abbrev s_Editor_append_record : Stmt := inClass (top 57) 3
abbrev s_Editor_flush_all : Stmt := inClass (top 57) 4
abbrev s_Editor_make_mark : Stmt := inClass (top 57) 5
abbrev s_Editor_forget_behind : Stmt := inClass (top 57) 6
abbrev s_Editor_has_room : Stmt := inClass (top 57) 7
abbrev s_Editor_refused_making : Stmt := inClass (top 57) 8
abbrev s_Editor_change : Stmt := inClass (top 57) 9
abbrev s_Editor_mark : Stmt := inClass (top 57) 10
abbrev s_Editor_flush : Stmt := inClass (top 57) 11
abbrev s_Editor_make_copy : Stmt := inClass (top 57) 12
abbrev s_Editor_turn : Stmt := inClass (top 57) 13
abbrev s_Editor_power : Stmt := inClass (top 57) 14
abbrev s_Editor_start : Stmt := inClass (top 57) 15
abbrev s_Editor_shows : Stmt := inClass (top 57) 16
abbrev s_Editor_on_disk : Stmt := inClass (top 57) 17
abbrev s_Editor_spoil : Stmt := inClass (top 57) 18
abbrev s_Editor_state : Stmt := inClass (top 57) 19
abbrev s_Editor_was : Stmt := inClass (top 57) 20
theorem sc_low_and_high : FnScope ["number"] ["number"] (C8.fnScope s_low_and_high) := ⟨rfl, rfl, rfl, by decide +kernel, rfl, by decide +kernel, by decide +kernel⟩
theorem sc_record : FnScope ["body"] ["body"] (C8.fnScope s_record) := ⟨rfl, rfl, rfl, by decide +kernel, rfl, by decide +kernel, by decide +kernel⟩
theorem sc_change_record : FnScope ["place", "gone", "coming"] ["place", "gone", "coming"] (C8.fnScope s_change_record) := ⟨rfl, rfl, rfl, by decide +kernel, rfl, by decide +kernel, by decide +kernel⟩
theorem sc_mark_record : FnScope ["number"] ["number"] (C8.fnScope s_mark_record) := ⟨rfl, rfl, rfl, by decide +kernel, rfl, by decide +kernel, by decide +kernel⟩
theorem sc_whole_record : FnScope ["text"] ["text"] (C8.fnScope s_whole_record) := ⟨rfl, rfl, rfl, by decide +kernel, rfl, by decide +kernel, by decide +kernel⟩
theorem sc_is_known : FnScope ["body"] ["body"] (C8.fnScope s_is_known) := ⟨rfl, rfl, rfl, by decide +kernel, rfl, by decide +kernel, by decide +kernel⟩
theorem sc_body_at : FnScope ["row", "place", "size", "end", "body"] ["row", "place"] (C8.fnScope s_body_at) := ⟨rfl, rfl, rfl, by decide +kernel, rfl, by decide +kernel, by decide +kernel⟩
theorem sc_read_bodies : FnScope ["row", "bodies", "place", "body"] ["row"] (C8.fnScope s_read_bodies) := ⟨rfl, rfl, rfl, by decide +kernel, rfl, by decide +kernel, by decide +kernel⟩
theorem sc_goes_beyond : FnScope ["text", "place", "gone"] ["text", "place", "gone"] (C8.fnScope s_goes_beyond) := ⟨rfl, rfl, rfl, by decide +kernel, rfl, by decide +kernel, by decide +kernel⟩
theorem sc_changed : FnScope ["text", "place", "gone", "coming"] ["text", "place", "gone", "coming"] (C8.fnScope s_changed) := ⟨rfl, rfl, rfl, by decide +kernel, rfl, by decide +kernel, by decide +kernel⟩
theorem sc_text_behind : FnScope ["text", "body", "behind"] ["text", "body"] (C8.fnScope s_text_behind) := ⟨rfl, rfl, rfl, by decide +kernel, rfl, by decide +kernel, by decide +kernel⟩
theorem sc_bring_about : FnScope ["bodies", "brought", "body", "behind"] ["bodies"] (C8.fnScope s_bring_about) := ⟨rfl, rfl, rfl, by decide +kernel, rfl, by decide +kernel, by decide +kernel⟩
theorem sc_head : FnScope ["number"] ["number"] (C8.fnScope s_head) := ⟨rfl, rfl, rfl, by decide +kernel, rfl, by decide +kernel, by decide +kernel⟩
theorem sc_next_number : FnScope ["number"] ["number"] (C8.fnScope s_next_number) := ⟨rfl, rfl, rfl, by decide +kernel, rfl, by decide +kernel, by decide +kernel⟩
theorem sc_first_records : FnScope ["text", "mark"] ["text", "mark"] (C8.fnScope s_first_records) := ⟨rfl, rfl, rfl, by decide +kernel, rfl, by decide +kernel, by decide +kernel⟩
theorem sc_file_number : FnScope ["row"] ["row"] (C8.fnScope s_file_number) := ⟨rfl, rfl, rfl, by decide +kernel, rfl, by decide +kernel, by decide +kernel⟩
theorem sc_file_bodies : FnScope ["row"] ["row"] (C8.fnScope s_file_bodies) := ⟨rfl, rfl, rfl, by decide +kernel, rfl, by decide +kernel, by decide +kernel⟩
theorem sc_counts : FnScope ["row", "bodies", "whole"] ["row"] (C8.fnScope s_counts) := ⟨rfl, rfl, rfl, by decide +kernel, rfl, by decide +kernel, by decide +kernel⟩
theorem sc_with_bytes : FnScope ["row", "place", "coming", "gap"] ["row", "place", "coming"] (C8.fnScope s_with_bytes) := ⟨rfl, rfl, rfl, by decide +kernel, rfl, by decide +kernel, by decide +kernel⟩
theorem sc_above_bytes : FnScope ["numbers"] ["numbers"] (C8.fnScope s_above_bytes) := ⟨rfl, rfl, rfl, by decide +kernel, rfl, by decide +kernel, by decide +kernel⟩
theorem sc_with_count : FnScope ["row"] ["row"] (C8.fnScope s_with_count) := ⟨rfl, rfl, rfl, by decide +kernel, rfl, by decide +kernel, by decide +kernel⟩
theorem sc_read_answer : FnScope ["row", "bodies", "brought"] ["row"] (C8.fnScope s_read_answer) := ⟨rfl, rfl, rfl, by decide +kernel, rfl, by decide +kernel, by decide +kernel⟩
theorem sc_call_end : FnScope ["calls", "place"] ["calls", "place"] (C8.fnScope s_call_end) := ⟨rfl, rfl, rfl, by decide +kernel, rfl, by decide +kernel, by decide +kernel⟩
theorem sc_answer : FnScope ["editor", "call"] ["editor", "call"] (C8.fnScope s_answer) := ⟨rfl, rfl, rfl, by decide +kernel, rfl, by decide +kernel, by decide +kernel⟩
theorem sc_answers : FnScope ["calls", "editor", "given", "place", "end", "numbers"] ["calls"] (C8.fnScope s_answers) := ⟨rfl, rfl, rfl, by decide +kernel, rfl, by decide +kernel, by decide +kernel⟩
theorem sc_Brought___init__ : FnScope ["self"] ["self"] (C8.fnScope s_Brought___init__) := ⟨rfl, rfl, rfl, by decide +kernel, rfl, by decide +kernel, by decide +kernel⟩
theorem sc_Write___init__ : FnScope ["self", "file", "place", "coming"] ["self", "file", "place", "coming"] (C8.fnScope s_Write___init__) := ⟨rfl, rfl, rfl, by decide +kernel, rfl, by decide +kernel, by decide +kernel⟩
theorem sc_Disk___init__ : FnScope ["self"] ["self"] (C8.fnScope s_Disk___init__) := ⟨rfl, rfl, rfl, by decide +kernel, rfl, by decide +kernel, by decide +kernel⟩
theorem sc_Disk_send : FnScope ["self", "file", "place", "coming"] ["self", "file", "place", "coming"] (C8.fnScope s_Disk_send) := ⟨rfl, rfl, rfl, by decide +kernel, rfl, by decide +kernel, by decide +kernel⟩
theorem sc_Disk_put : FnScope ["self", "file", "row"] ["self", "file", "row"] (C8.fnScope s_Disk_put) := ⟨rfl, rfl, rfl, by decide +kernel, rfl, by decide +kernel, by decide +kernel⟩
theorem sc_Disk_arrive : FnScope ["self", "write", "amount"] ["self", "write", "amount"] (C8.fnScope s_Disk_arrive) := ⟨rfl, rfl, rfl, by decide +kernel, rfl, by decide +kernel, by decide +kernel⟩
theorem sc_Disk_arrive_all : FnScope ["self", "write"] ["self"] (C8.fnScope s_Disk_arrive_all) := ⟨rfl, rfl, rfl, by decide +kernel, rfl, by decide +kernel, by decide +kernel⟩
theorem sc_Disk_arrive_some : FnScope ["self", "numbers", "write", "number"] ["self", "numbers"] (C8.fnScope s_Disk_arrive_some) := ⟨rfl, rfl, rfl, by decide +kernel, rfl, by decide +kernel, by decide +kernel⟩
theorem sc_Disk_found_file : FnScope ["self", "found", "file", "row"] ["self"] (C8.fnScope s_Disk_found_file) := ⟨rfl, rfl, rfl, by decide +kernel, rfl, by decide +kernel, by decide +kernel⟩
theorem sc_Editor___init__ : FnScope ["self"] ["self"] (C8.fnScope s_Editor___init__) := ⟨rfl, rfl, rfl, by decide +kernel, rfl, by decide +kernel, by decide +kernel⟩
theorem sc_Editor_begin_file : FnScope ["self", "file", "number", "text", "mark", "row"] ["self", "file", "number", "text", "mark"] (C8.fnScope s_Editor_begin_file) := ⟨rfl, rfl, rfl, by decide +kernel, rfl, by decide +kernel, by decide +kernel⟩
theorem sc_Editor_other_file : FnScope ["self"] ["self"] (C8.fnScope s_Editor_other_file) := ⟨rfl, rfl, rfl, by decide +kernel, rfl, by decide +kernel, by decide +kernel⟩
theorem sc_Editor_append_record : FnScope ["self", "row"] ["self", "row"] (C8.fnScope s_Editor_append_record) := ⟨rfl, rfl, rfl, by decide +kernel, rfl, by decide +kernel, by decide +kernel⟩
theorem sc_Editor_flush_all : FnScope ["self"] ["self"] (C8.fnScope s_Editor_flush_all) := ⟨rfl, rfl, rfl, by decide +kernel, rfl, by decide +kernel, by decide +kernel⟩
theorem sc_Editor_make_mark : FnScope ["self"] ["self"] (C8.fnScope s_Editor_make_mark) := ⟨rfl, rfl, rfl, by decide +kernel, rfl, by decide +kernel, by decide +kernel⟩
theorem sc_Editor_forget_behind : FnScope ["self", "mark", "left", "number", "text"] ["self", "mark"] (C8.fnScope s_Editor_forget_behind) := ⟨rfl, rfl, rfl, by decide +kernel, rfl, by decide +kernel, by decide +kernel⟩
theorem sc_Editor_has_room : FnScope ["self", "row"] ["self", "row"] (C8.fnScope s_Editor_has_room) := ⟨rfl, rfl, rfl, by decide +kernel, rfl, by decide +kernel, by decide +kernel⟩
theorem sc_Editor_refused_making : FnScope ["self"] ["self"] (C8.fnScope s_Editor_refused_making) := ⟨rfl, rfl, rfl, by decide +kernel, rfl, by decide +kernel, by decide +kernel⟩
theorem sc_Editor_change : FnScope ["self", "place", "gone", "coming", "refusal", "text", "row"] ["self", "place", "gone", "coming"] (C8.fnScope s_Editor_change) := ⟨rfl, rfl, rfl, by decide +kernel, rfl, by decide +kernel, by decide +kernel⟩
theorem sc_Editor_mark : FnScope ["self", "refusal", "row"] ["self"] (C8.fnScope s_Editor_mark) := ⟨rfl, rfl, rfl, by decide +kernel, rfl, by decide +kernel, by decide +kernel⟩
theorem sc_Editor_flush : FnScope ["self", "amount"] ["self"] (C8.fnScope s_Editor_flush) := ⟨rfl, rfl, rfl, by decide +kernel, rfl, by decide +kernel, by decide +kernel⟩
theorem sc_Editor_make_copy : FnScope ["self", "refusal", "row"] ["self"] (C8.fnScope s_Editor_make_copy) := ⟨rfl, rfl, rfl, by decide +kernel, rfl, by decide +kernel, by decide +kernel⟩
theorem sc_Editor_turn : FnScope ["self"] ["self"] (C8.fnScope s_Editor_turn) := ⟨rfl, rfl, rfl, by decide +kernel, rfl, by decide +kernel, by decide +kernel⟩
theorem sc_Editor_power : FnScope ["self", "numbers", "amount"] ["self", "numbers"] (C8.fnScope s_Editor_power) := ⟨rfl, rfl, rfl, by decide +kernel, rfl, by decide +kernel, by decide +kernel⟩
theorem sc_Editor_start : FnScope ["self", "found", "row", "brought"] ["self"] (C8.fnScope s_Editor_start) := ⟨rfl, rfl, rfl, by decide +kernel, rfl, by decide +kernel, by decide +kernel⟩
theorem sc_Editor_shows : FnScope ["self"] ["self"] (C8.fnScope s_Editor_shows) := ⟨rfl, rfl, rfl, by decide +kernel, rfl, by decide +kernel, by decide +kernel⟩
theorem sc_Editor_on_disk : FnScope ["self", "file"] ["self", "file"] (C8.fnScope s_Editor_on_disk) := ⟨rfl, rfl, rfl, by decide +kernel, rfl, by decide +kernel, by decide +kernel⟩
theorem sc_Editor_spoil : FnScope ["self", "file", "place", "byte", "row"] ["self", "file", "place", "byte"] (C8.fnScope s_Editor_spoil) := ⟨rfl, rfl, rfl, by decide +kernel, rfl, by decide +kernel, by decide +kernel⟩
theorem sc_Editor_state : FnScope ["self", "powered", "copying"] ["self"] (C8.fnScope s_Editor_state) := ⟨rfl, rfl, rfl, by decide +kernel, rfl, by decide +kernel, by decide +kernel⟩
theorem sc_Editor_was : FnScope ["self", "mark"] ["self", "mark"] (C8.fnScope s_Editor_was) := ⟨rfl, rfl, rfl, by decide +kernel, rfl, by decide +kernel, by decide +kernel⟩

/-! ### what the top has left -/
structure Glob (mg : Str → Option Value) : Prop where
  b_len : mg "len" = none
  b_sum : mg "sum" = none
  b_max : mg "max" = none
  b_zip : mg "zip" = none
  b_enumerate : mg "enumerate" = none
  c_CHANGE : ∃ u, mg "CHANGE" = some u ∧ RelV (nv 1) u
  c_MARK : ∃ u, mg "MARK" = some u ∧ RelV (nv 2) u
  c_WHOLE : ∃ u, mg "WHOLE" = some u ∧ RelV (nv 3) u
  c_LONGEST_TEXT : ∃ u, mg "LONGEST_TEXT" = some u ∧ RelV (nv 200) u
  c_FRAME : ∃ u, mg "FRAME" = some u ∧ RelV (nv 4) u
  c_HEAD_SIZE : ∃ u, mg "HEAD_SIZE" = some u ∧ RelV (nv 3) u
  c_LARGEST_SIZE : ∃ u, mg "LARGEST_SIZE" = some u ∧ RelV (nv 600) u
  c_LAST_MARK : ∃ u, mg "LAST_MARK" = some u ∧ RelV (nv 200) u
  c_LONGEST_READ : ∃ u, mg "LONGEST_READ" = some u ∧ RelV (nv 400) u
  c_NOT_SUCH : ∃ u, mg "NOT_SUCH" = some u ∧ RelV (.int (-1)) u
  c_NO_MARK : ∃ u, mg "NO_MARK" = some u ∧ RelV (.int (-2)) u
  c_TOO_MUCH : ∃ u, mg "TOO_MUCH" = some u ∧ RelV (.int (-5)) u
  c_NO_ROOM : ∃ u, mg "NO_ROOM" = some u ∧ RelV (.int (-6)) u
  c_NO_FILE : ∃ u, mg "NO_FILE" = some u ∧ RelV (.int (-6)) u
  c_COPY_WRONG : ∃ u, mg "COPY_WRONG" = some u ∧ RelV (.int (-8)) u
  c_POWER_WRONG : ∃ u, mg "POWER_WRONG" = some u ∧ RelV (.int (-9)) u
  c_CALL_CHANGE : ∃ u, mg "CALL_CHANGE" = some u ∧ RelV (nv 0) u
  c_CALL_MARK : ∃ u, mg "CALL_MARK" = some u ∧ RelV (nv 1) u
  c_CALL_FLUSH : ∃ u, mg "CALL_FLUSH" = some u ∧ RelV (nv 2) u
  c_CALL_COPY : ∃ u, mg "CALL_COPY" = some u ∧ RelV (nv 3) u
  c_CALL_TURN : ∃ u, mg "CALL_TURN" = some u ∧ RelV (nv 4) u
  c_CALL_POWER : ∃ u, mg "CALL_POWER" = some u ∧ RelV (nv 5) u
  c_CALL_START : ∃ u, mg "CALL_START" = some u ∧ RelV (nv 6) u
  c_CALL_SHOWS : ∃ u, mg "CALL_SHOWS" = some u ∧ RelV (nv 7) u
  c_CALL_FILE : ∃ u, mg "CALL_FILE" = some u ∧ RelV (nv 8) u
  c_CALL_SPOIL : ∃ u, mg "CALL_SPOIL" = some u ∧ RelV (nv 9) u
  c_CALL_READ : ∃ u, mg "CALL_READ" = some u ∧ RelV (nv 10) u
  c_CALL_STATE : ∃ u, mg "CALL_STATE" = some u ∧ RelV (nv 11) u
  c_CALL_WAS : ∃ u, mg "CALL_WAS" = some u ∧ RelV (nv 12) u

def DefX (K : PySem.W.Frag) (mg : Str → Option Value) (x : Str) (st : Stmt) (ps : List Str) : Prop := ∃ (f : Addr) (fd : FuncData), C8.Def K mg x st f fd ∧ Binds K fd ps []
def MetX (K : PySem.W.Frag) (C : Addr) (m qual : Str) (st : Stmt) (ps : List Str) : Prop := ∃ (f : Addr) (fd : FuncData), Cls K C ∧ Meth K C m f ∧ C8.Fun K m qual st f fd ∧ Binds K fd ps []
def MakX (K : PySem.W.Frag) (mg : Str → Option Value) (x : Str) (C : Addr) (qual : Str) (st : Stmt) (ps : List Str) : Prop := ∃ (f : Addr) (fd : FuncData), Mk K C f ∧ mg x = some (.ref C) ∧ C8.Fun K "__init__" qual st f fd ∧ Binds K fd ps []
section
variable {P : Program} {w : World} {K : PySem.W.Frag} {mg : Str → Option Value} {base : Heap}
/-- the promise of a def by its body -/
theorem cal_mk {x : Str} {st : Stmt} {N ps : List Str} {k : Nat} {sp : Sp} (d : DefX K mg x st ps) (S : FnScope N ps (C8.fnScope st)) (len : ∀ vs H Q E, sp vs H Q E → vs.length = ps.length)
    (hbody : ∀ (f : Addr) (cdv : Value) (A : Around) (outer : List Env) (s : Shared) (H : Hp) (vs : List V) (Q : VK) (E : XK), Room k (A.deeper (envOfC x (C8.fnScope st) s.heap.objs.size f cdv)) → sp vs H Q E →
      ∃ t, PSs (cxOf C8.CX0 P w K mg base N x (C8.fnScope st) f cdv A outer s H E).nox (C8.fnBody st) t ∧ t { nx := fun _ H' => Q .non H', rt := Q } (start N vs) H) : C8.Cal P w K mg base (k + 1) x sp [] := by
  obtain ⟨f, fd, F, b⟩ := d
  exact C8.cal0 F b .nil S len (hbody f)
theorem met_mk {m qual : Str} {C : Addr} {st : Stmt} {N ps : List Str} {k : Nat} {sp : Sp} (d : MetX K C m qual st ps) (S : FnScope N ps (C8.fnScope st)) (len : ∀ vs H Q E, sp vs H Q E → vs.length = ps.length)
    (hbody : ∀ (f : Addr) (cdv : Value) (A : Around) (outer : List Env) (s : Shared) (H : Hp) (vs : List V) (Q : VK) (E : XK), Room k (A.deeper (envOfC qual (C8.fnScope st) s.heap.objs.size f cdv)) → sp vs H Q E →
      ∃ t, PSs (cxOf C8.CX0 P w K mg base N qual (C8.fnScope st) f cdv A outer s H E).nox (C8.fnBody st) t ∧ t { nx := fun _ H' => Q .non H', rt := Q } (start N vs) H) : C8.Met P w K mg base (k + 1) C m sp [] := by
  obtain ⟨f, fd, c, me, F, b⟩ := d
  exact C8.met0 c me F b S len (hbody f)
theorem mak_mk {x qual : Str} {C : Addr} {st : Stmt} {N ps : List Str} {k : Nat} {sp : Sp} (d : MakX K mg x C qual st ps) (S : FnScope N ps (C8.fnScope st)) (len : ∀ vs H Q E, sp vs H Q E → vs.length = ps.length)
    (hbody : ∀ (f : Addr) (cdv : Value) (A : Around) (outer : List Env) (s : Shared) (H : Hp) (vs : List V) (Q : VK) (E : XK), Room k (A.deeper (envOfC qual (C8.fnScope st) s.heap.objs.size f cdv)) → sp vs H Q E →
      ∃ t, PSs (cxOf C8.CX0 P w K mg base N qual (C8.fnScope st) f cdv A outer s H E).nox (C8.fnBody st) t ∧ t { nx := fun _ H' => Q .non H', rt := Q } (start N vs) H) : C8.Mak P w K mg base (k + 1) x C sp [] := by
  obtain ⟨f, fd, M, hm, F, b⟩ := d
  exact C8.mak0 M hm F b .nil S len (hbody f)
theorem pe_mk0 {X : Cx} {k j : Nat} {C : Addr} {x : Str} {sp : Sp} {dvs : List V} {p pos : Pos} (c : C8.Mak X.prog X.w X.K X.mg X.base k x C sp dvs) (hr : Room j X.A) (hk : k + 1 ≤ j) (hg : Gl X x) (hdb : (x == ("__debug__" : Str)) = false := by decide) :
    PE X (.Call (.Name x p) [] [] pos) (tMake C sp dvs C8.E0 tNil) := by
  obtain ⟨f, fd, ps, ds, M, F, hm, b, d⟩ := c.ex
  exact pe_make0 M F (hr.mono hk) hg hm b d C8.pass0 hdb
/-! ### records -/
def recB (w : List Nat) : List Nat := [w.length, 255 - w.length] ++ w ++ [w.sum % 256, 255]
theorem recB_len (w : List Nat) : (recB w).length = w.length + 4 := by
  unfold recB
  simp [List.length_append]
def sp_low : Sp := spL (fun n : Nat => [isV (nv n)]) (fun _ => True) fun n => [n % 256, n / 256]
theorem ok_low (d : DefX K mg "low_and_high" s_low_and_high ["number"]) : C8.Cal P w K mg base 1 "low_and_high" sp_low [] := by
  refine cal_mk d sc_low_and_high (fun vs H Q E ⟨i, hf, _⟩ => fits_len hf) (fun f cdv A outer s H vs Q E hr ⟨n, hf, _, k⟩ => ?_)
  obtain ⟨v, rfl, rfl⟩ := fits1 hf
  refine ⟨_, (pss_one (ps_ret (pe_lst (pa_cons (pe_op op_mod (pv 0) pe_int) (pa_cons (pe_op op_fdiv (pv 0) pe_int) pa_nil))))), ?_⟩
  exact s_retL (el_2 (en_mod (ev_var rfl) (en_c (a := 256)) (by decide)) (en_div (ev_var rfl) (en_c (a := 256)) (by decide) (by decide))) k
def sp_record : Sp := spL (fun w : List Nat => [isB w]) (fun w => w.length ≤ 255) recB
theorem ok_record (G : Glob mg) (d : DefX K mg "record" s_record ["body"]) : C8.Cal P w K mg base 1 "record" sp_record [] := by
  refine cal_mk d sc_record (fun vs H Q E ⟨i, hf, _⟩ => fits_len hf) (fun f cdv A outer s H vs Q E hr ⟨w, hf, hw, k⟩ => ?_)
  obtain ⟨v, rfl, a, rfl, ha⟩ := fits1 hf
  refine ⟨_, (pss_one (ps_ret (pe_op op_cat (pe_op op_cat (pe_lst (pa_cons (pe_callB call_len_seq (by rfl) G.b_len PySem.boot_len (pa_cons (pv 0) pa_nil)) (pa_cons (pe_op op_sub pe_int (pe_callB call_len_seq (by rfl) G.b_len PySem.boot_len (pa_cons (pv 0) pa_nil))) pa_nil))) (pv 0)) (pe_lst (pa_cons (pe_op op_mod (pe_callB (cr_sum rfl) (by rfl) G.b_sum (by decide +kernel) (pa_cons (pv 0) pa_nil)) pe_int) (pa_cons pe_int pa_nil)))))), ?_⟩
  refine s_retL (el_catB (elR (el_catB (elR (el_2 (en_lenB (er_var rfl ha)) (en_sub (en_c (a := 255)) (en_lenB (er_var rfl ha)) hw))) (er_var rfl ha) ?_))
    (elR (el_2 (en_mod (en_sum (er_var rfl ha)) (en_c (a := 256)) (by decide)) (en_c (a := 255)))) ?_) k
  · simp; omega
  · simp; omega

theorem get_getD {row : List Nat} {p : Nat} (h : p < row.length) : row[p]? = some (row.getD p 0) := by
  rw [List.getD_eq_getElem?_getD, List.getElem?_eq_getElem h]
  rfl
def sp_change_record : Sp := spL (fun i : Nat × Nat × List Nat => [isV (nv i.1), isV (nv i.2.1), isB i.2.2]) (fun i => i.2.2.length + 3 ≤ 255) fun i => recB (1 :: i.1 :: i.2.1 :: i.2.2)
theorem ok_change_record (G : Glob mg) (c_record : C8.Cal P w K mg base 1 "record" sp_record []) (d : DefX K mg "change_record" s_change_record ["place", "gone", "coming"]) : C8.Cal P w K mg base 2 "change_record" sp_change_record [] := by
  refine cal_mk d sc_change_record (fun vs H Q E ⟨i, hf, _⟩ => fits_len hf) (fun f cdv A outer s H vs Q E hr ⟨⟨p, o, w⟩, hf, hw, k⟩ => ?_)
  obtain ⟨v1, v2, v3, rfl, rfl, rfl, a, rfl, ha⟩ := fits3 hf
  refine ⟨_, (pss_one (ps_ret (C8.pe_c c_record hr (by decide) (by rfl) (pa_cons (pe_op op_cat (pe_lst (pa_cons (C8.pe_gc (by rfl) G.c_CHANGE) (pa_cons (pv 0) (pa_cons (pv 1) pa_nil)))) (pv 2)) pa_nil)))), ?_⟩
  dsimp only at hw k ha
  refine s_retL (el_fn (R := recB) (1 :: p :: o :: w) (by simp; omega) (ap_b (elR (el_catB (w := [1, p, o]) (elR (el_3 (en_c (a := 1)) (ev_var rfl) (ev_var rfl))) (er_var rfl ha) (by simp; omega))) ap_nil)) k
def sp_mark_record : Sp := spL (fun n : Nat => [isV (nv n)]) (fun _ => True) fun n => recB [2, n % 256, n / 256]
theorem ok_mark_record (G : Glob mg) (c_record : C8.Cal P w K mg base 1 "record" sp_record []) (c_low_and_high : C8.Cal P w K mg base 1 "low_and_high" sp_low []) (d : DefX K mg "mark_record" s_mark_record ["number"]) : C8.Cal P w K mg base 2 "mark_record" sp_mark_record [] := by
  refine cal_mk d sc_mark_record (fun vs H Q E ⟨i, hf, _⟩ => fits_len hf) (fun f cdv A outer s H vs Q E hr ⟨n, hf, hw, k⟩ => ?_)
  obtain ⟨v, rfl, rfl⟩ := fits1 hf
  refine ⟨_, (pss_one (ps_ret (C8.pe_c c_record hr (by decide) (by rfl) (pa_cons (pe_op op_cat (pe_lst (pa_cons (C8.pe_gc (by rfl) G.c_MARK) pa_nil)) (C8.pe_c c_low_and_high hr (by decide) (by rfl) (pa_cons (pv 0) pa_nil))) pa_nil)))), ?_⟩
  refine s_retL (el_fn (R := recB) [2, n % 256, n / 256] (by simp) (ap_b (elR (el_catB (w := [2]) (elR (el_1 (en_c (a := 2)))) (elR (el_fn (R := fun n => [n % 256, n / 256]) n trivial (ap_v (ev_var rfl) ap_nil))) (by simp))) ap_nil)) k
def sp_whole_record : Sp := spL (fun w : List Nat => [isB w]) (fun w => w.length + 1 ≤ 255) fun w => recB (3 :: w)
theorem ok_whole_record (G : Glob mg) (c_record : C8.Cal P w K mg base 1 "record" sp_record []) (d : DefX K mg "whole_record" s_whole_record ["text"]) : C8.Cal P w K mg base 2 "whole_record" sp_whole_record [] := by
  refine cal_mk d sc_whole_record (fun vs H Q E ⟨i, hf, _⟩ => fits_len hf) (fun f cdv A outer s H vs Q E hr ⟨w, hf, hw, k⟩ => ?_)
  obtain ⟨v, rfl, a, rfl, ha⟩ := fits1 hf
  refine ⟨_, (pss_one (ps_ret (C8.pe_c c_record hr (by decide) (by rfl) (pa_cons (pe_op op_cat (pe_lst (pa_cons (C8.pe_gc (by rfl) G.c_WHOLE) pa_nil)) (pv 0)) pa_nil)))), ?_⟩
  refine s_retL (el_fn (R := recB) (3 :: w) (by simp; omega) (ap_b (elR (el_catB (w := [3]) (elR (el_1 (en_c (a := 3)))) (er_var rfl ha) (by simp; omega))) ap_nil)) k
def sp_is_known : Sp := spV (fun b : List Nat => [isB b]) (fun b => b ≠ []) fun b => .bl (knownB b)
theorem ok_is_known (G : Glob mg) (d : DefX K mg "is_known" s_is_known ["body"]) : C8.Cal P w K mg base 1 "is_known" sp_is_known [] := by
  refine cal_mk d sc_is_known (fun vs H Q E ⟨i, hf, _⟩ => fits_len hf) (fun f cdv A outer s H vs Q E hr ⟨b, hf, hw, k⟩ => ?_)
  obtain ⟨v, rfl, a, rfl, ha⟩ := fits1 hf
  refine ⟨_, (pss_cons (ps_if (pt_cmpR op_eq (pe_ix ix_list (pv 0) pe_int (fun _ _ => rfl)) (C8.pe_gc (by rfl) G.c_CHANGE) (nomark _))
      (pss_one (ps_ret (pe_cmpR op_ge (pe_callB call_len_seq (by rfl) G.b_len PySem.boot_len (pa_cons (pv 0) pa_nil)) pe_int (nomark _))))
      pss_nil)
    (pss_cons (ps_if (pt_cmpR op_eq (pe_ix ix_list (pv 0) pe_int (fun _ _ => rfl)) (C8.pe_gc (by rfl) G.c_MARK) (nomark _))
      (pss_one (ps_ret (pe_cmpR op_eq (pe_callB call_len_seq (by rfl) G.b_len PySem.boot_len (pa_cons (pv 0) pa_nil)) pe_int (nomark _))))
      pss_nil)
    (pss_one (ps_ret (pe_cmpR op_eq (pe_ix ix_list (pv 0) pe_int (fun _ _ => rfl)) (C8.pe_gc (by rfl) G.c_WHOLE) (nomark _)))))), ?_⟩
  obtain ⟨x, r, rfl⟩ : ∃ x r, b = x :: r := by
    cases b with
    | nil => exact absurd rfl hw
    | cons x r => exact ⟨x, r, rfl⟩
  have k : RetV (.bl (knownB (x :: r))) H Q := k
  rw [known_eq] at k
  refine q_when (et_test (eb_eq (en_ix (er_var rfl ha) (en_c (a := 0)) (n := x) rfl) (en_c (a := 1)))) (fun hb H1 e1 => ?_) (fun hb H1 e1 => ?_)
  · rw [if_pos (of_decide_eq_true hb)] at k
    exact s_ret (eb_ge (en_lenB (er_var rfl (e1 _ _ ha))) (en_c (a := 3))) fun H2 e2 => k.go (e1.trans e2)
  rw [if_neg (of_decide_eq_false hb)] at k
  refine q_when (et_test (eb_eq (en_ix (er_var rfl (e1 _ _ ha)) (en_c (a := 0)) (n := x) rfl) (en_c (a := 2)))) (fun hb H2 e2 => ?_) (fun hb H2 e2 => ?_)
  · rw [if_pos (of_decide_eq_true hb)] at k
    exact s_ret (eb_eq (en_lenB (er_var rfl (e2 _ _ (e1 _ _ ha)))) (en_c (a := 3))) fun H3 e3 => k.go ((e1.trans e2).trans e3)
  rw [if_neg (of_decide_eq_false hb)] at k
  exact s_ret (eb_eq (en_ix (er_var rfl (e2 _ _ (e1 _ _ ha))) (en_c (a := 0)) (n := x) rfl) (en_c (a := 3))) fun H3 e3 => k.go ((e1.trans e2).trans e3)
def sp_body_at : Sp := spL (fun i : List Nat × Nat => [isB i.1, isV (nv i.2)]) (fun _ => True) fun i => bodyAt i.1 i.2
theorem ok_body_at (G : Glob mg) (c_is_known : C8.Cal P w K mg base 1 "is_known" sp_is_known []) (d : DefX K mg "body_at" s_body_at ["row", "place"]) : C8.Cal P w K mg base 2 "body_at" sp_body_at [] := by
  refine cal_mk d sc_body_at (fun vs H Q E ⟨i, hf, _⟩ => fits_len hf) (fun f cdv A outer s H vs Q E hr ⟨⟨row, p⟩, hf, hw, k⟩ => ?_)
  obtain ⟨v1, v2, rfl, ⟨a, rfl, ha⟩, rfl⟩ := fits2 hf
  refine ⟨_, (pss_cons (ps_if (pt_cmpR op_gt (pe_op op_add (pv 1) pe_int) (pe_callB call_len_seq (by rfl) G.b_len PySem.boot_len (pa_cons (pv 0) pa_nil)) (nomark _))
      (pss_one (ps_ret (pe_lst pa_nil)))
      pss_nil)
    (pss_cons (ps_set (i := 2) sc_body_at.nd rfl (.inl rfl) (pe_ix ix_list (pv 0) (pv 1) (fun _ _ => rfl)))
    (pss_cons (ps_if (PW.pt (pw_or (pt_cmpR op_eq (pv 2) pe_int (nomark _)) (pw_or1 (pt_cmpR op_ne (pe_op op_add (pv 2) (pe_ix ix_list (pv 0) (pe_op op_add (pv 1) pe_int) (fun _ _ => rfl))) pe_int (nomark _)))))
      (pss_one (ps_ret (pe_lst pa_nil)))
      pss_nil)
    (pss_cons (ps_set (i := 3) sc_body_at.nd rfl (.inl rfl) (pe_op op_add (pe_op op_add (pv 1) pe_int) (pv 2)))
    (pss_cons (ps_if (pt_cmpR op_gt (pe_op op_add (pv 3) pe_int) (pe_callB call_len_seq (by rfl) G.b_len PySem.boot_len (pa_cons (pv 0) pa_nil)) (nomark _))
      (pss_one (ps_ret (pe_lst pa_nil)))
      pss_nil)
    (pss_cons (ps_set (i := 4) sc_body_at.nd rfl (.inl rfl) (pe_slice sl_list (pv 0) (po_some (pe_op op_add (pv 1) pe_int)) (po_some (pv 3))))
    (pss_cons (ps_if (PW.pt (pw_or (pt_cmpR op_ne (pe_ix ix_list (pv 0) (pv 3) (fun _ _ => rfl)) (pe_op op_mod (pe_callB (cr_sum rfl) (by rfl) G.b_sum (by decide +kernel) (pa_cons (pv 4) pa_nil)) pe_int) (nomark _)) (pw_or1 (pt_cmpR op_ne (pe_ix ix_list (pv 0) (pe_op op_add (pv 3) pe_int) (fun _ _ => rfl)) pe_int (nomark _)))))
      (pss_one (ps_ret (pe_lst pa_nil)))
      pss_nil)
    (pss_one (ps_ret (pe_ifExp (pt_val (C8.pe_c c_is_known hr (by decide) (by rfl) (pa_cons (pv 4) pa_nil))) (pv 4) (pe_lst pa_nil))))))))))), ?_⟩
  have k : RetL (enc (bodyAt row p)) H Q := k
  have ha : H a = some (.lst (enc row)) := ha
  refine q_when (et_test (eb_gt (en_add (ev_var rfl) (en_c (a := 2))) (en_lenB (er_var rfl ha)))) (fun hb H1 e1 => ?_) (fun hb H1 e1 => ?_)
  · rw [show bodyAt row p = [] by unfold bodyAt; rw [if_pos (of_decide_eq_true hb)]] at k
    exact s_retL el_0 fun q H2 hq e2 h2 => k.go e1 hq e2 h2
  have c1 := of_decide_eq_false hb
  refine q_asg (en_ix (er_var rfl (e1 _ _ ha)) (ev_var rfl) (get_getD (by omega))) (fun H2 e2 => ?_)
  have a2 := e2 _ _ (e1 _ _ ha)
  have x2 := e1.trans e2
  refine q_when (et_or (et_test (eb_eq (ev_var rfl) (en_c (a := 0)))) (fun _ => et_test (eb_ne (en_add (ev_var rfl) (en_ix (er_var rfl a2) (en_add (ev_var rfl) (en_c (a := 1))) (get_getD (by omega)))) (en_c (a := 255))))) (fun hb H3 e3 => ?_) (fun hb H3 e3 => ?_)
  · have c2 : row.getD p 0 = 0 ∨ row.getD p 0 + row.getD (p + 1) 0 ≠ 255 := by simpa using hb
    rw [show bodyAt row p = [] by unfold bodyAt; rw [if_neg c1, if_pos c2]] at k
    exact s_retL el_0 fun q H4 hq e4 h4 => k.go (x2.trans e3) hq e4 h4
  have c2 : ¬ (row.getD p 0 = 0 ∨ row.getD p 0 + row.getD (p + 1) 0 ≠ 255) := by simpa using hb
  have x3 := x2.trans e3
  refine q_asg (en_add (en_add (ev_var rfl) (en_c (a := 2))) (ev_var rfl)) (fun H4 e4 => ?_)
  have x4 := x3.trans e4
  refine q_when (et_test (eb_gt (en_add (ev_var rfl) (en_c (a := 2))) (en_lenB (er_var rfl (x4 _ _ ha))))) (fun hb H5 e5 => ?_) (fun hb H5 e5 => ?_)
  · rw [show bodyAt row p = [] by unfold bodyAt; rw [if_neg c1, if_neg c2, if_pos (of_decide_eq_true hb)]] at k
    exact s_retL el_0 fun q H6 hq e6 h6 => k.go (x4.trans e5) hq e6 h6
  have c3 := of_decide_eq_false hb
  have x5 := x4.trans e5
  refine q_asgL (el_both (er_var rfl (x5 _ _ ha)) (eo_some (en_add (ev_var rfl) (en_c (a := 2)))) (eo_some (ev_var rfl))) (fun b H6 hb6 e6 h6 => ?_)
  rw [show p + 2 + row.getD p 0 - (p + 2) = row.getD p 0 by omega] at h6
  have x6 := x5.trans e6
  refine q_when (et_or (et_test (eb_ne (en_ix (er_var rfl (x6 _ _ ha)) (ev_var rfl) (get_getD (by omega))) (en_mod (en_sum (er_var rfl h6)) (en_c (a := 256)) (by decide))))
    (fun _ => et_test (eb_ne (en_ix (er_var rfl (x6 _ _ ha)) (en_add (ev_var rfl) (en_c (a := 1))) (get_getD (by omega))) (en_c (a := 255))))) (fun hb H7 e7 => ?_) (fun hb H7 e7 => ?_)
  · have c4 : row.getD (p + 2 + row.getD p 0) 0 ≠ ((row.drop (p + 2)).take (row.getD p 0)).sum % 256 ∨ row.getD (p + 2 + row.getD p 0 + 1) 0 ≠ 255 := by simpa using hb
    rw [show bodyAt row p = [] by unfold bodyAt; rw [if_neg c1, if_neg c2, if_neg c3, if_pos c4]] at k
    exact s_retL el_0 fun q H8 hq e8 h8 => k.go (x6.trans e7) hq e8 h8
  have c4 : ¬ (row.getD (p + 2 + row.getD p 0) 0 ≠ ((row.drop (p + 2)).take (row.getD p 0)).sum % 256 ∨ row.getD (p + 2 + row.getD p 0 + 1) 0 ≠ 255) := by simpa using hb
  have x7 := x6.trans e7
  have kb : bodyAt row p = if knownB ((row.drop (p + 2)).take (row.getD p 0)) = true then (row.drop (p + 2)).take (row.getD p 0) else [] := by
    unfold bodyAt; rw [if_neg c1, if_neg c2, if_neg c3, if_neg c4]
  rw [kb] at k
  have ne : (row.drop (p + 2)).take (row.getD p 0) ≠ [] := by
    intro q
    have := congrArg List.length q
    rw [List.length_take, List.length_drop, List.length_nil] at this
    omega
  -- return body if is_known(body) else []
  refine (et_B (ev_fn (A := fun b : List Nat => [isB b]) (pre := fun b => b ≠ []) (R := fun b => V.bl (knownB b)) ((row.drop (p + 2)).take (row.getD p 0)) ne (ap_b (er_var rfl (e7 _ _ h6)) ap_nil))) H7 (Ex.refl H7) _ fun H8 e8 => ?_
  cases hk : knownB ((row.drop (p + 2)).take (row.getD p 0)) with
  | true =>
    rw [if_pos rfl]
    rw [hk, if_pos rfl] at k
    exact ⟨_, rfl, k b H8 (fresh_back x5 hb6) (x7.trans e8) (e8 _ _ (e7 _ _ h6))⟩
  | false =>
    rw [if_neg Bool.false_ne_true]
    rw [hk, if_neg Bool.false_ne_true] at k
    exact el_0 H8 (Ex.refl H8) _ fun q H9 hq e9 h9 => k.go (x7.trans e8) hq e9 h9
def sp_goes_beyond : Sp := spV (fun i : List Nat × Nat × Nat => [isB i.1, isV (nv i.2.1), isV (nv i.2.2)]) (fun _ => True) fun i => .bl (decide (i.1.length < i.2.1 + i.2.2))
theorem ok_goes_beyond (G : Glob mg) (d : DefX K mg "goes_beyond" s_goes_beyond ["text", "place", "gone"]) : C8.Cal P w K mg base 1 "goes_beyond" sp_goes_beyond [] := by
  refine cal_mk d sc_goes_beyond (fun vs H Q E ⟨i, hf, _⟩ => fits_len hf) (fun f cdv A outer s H vs Q E hr ⟨⟨t, p, o⟩, hf, hw, k⟩ => ?_)
  obtain ⟨v1, v2, v3, rfl, ⟨a, rfl, ha⟩, rfl, rfl⟩ := fits3 hf
  refine ⟨_, (pss_one (ps_ret (pe_cmpR op_gt (pe_op op_add (pv 1) (pv 2)) (pe_callB call_len_seq (by rfl) G.b_len PySem.boot_len (pa_cons (pv 0) pa_nil)) (nomark _)))), ?_⟩
  exact s_ret (eb_gt (en_add (ev_var rfl) (ev_var rfl)) (en_lenB (er_var rfl ha))) k
def sp_changed : Sp := spL (fun i : List Nat × Nat × Nat × List Nat => [isB i.1, isV (nv i.2.1), isV (nv i.2.2.1), isB i.2.2.2]) (fun i => i.1.length ≤ 1000 ∧ i.2.2.2.length ≤ 1000) fun i => Ue12.changed i.1 ⟨i.2.1, i.2.2.1, i.2.2.2⟩
theorem ok_changed (G : Glob mg) (d : DefX K mg "changed" s_changed ["text", "place", "gone", "coming"]) : C8.Cal P w K mg base 1 "changed" sp_changed [] := by
  refine cal_mk d sc_changed (fun vs H Q E ⟨i, hf, _⟩ => fits_len hf) (fun f cdv A outer s H vs Q E hr ⟨⟨t, p, o, w⟩, hf, hw, k⟩ => ?_)
  obtain ⟨v1, v2, v3, v4, rfl, ⟨a, rfl, ha⟩, rfl, rfl, ⟨b, rfl, hb⟩⟩ := fits4 hf
  refine ⟨_, (pss_one (ps_ret (pe_op op_cat (pe_op op_cat (pe_slice sl_list (pv 0) po_none (po_some (pv 1))) (pv 3)) (pe_slice sl_list (pv 0) (po_some (pe_op op_add (pv 1) (pv 2))) po_none)))), ?_⟩
  have hw : t.length ≤ 1000 ∧ w.length ≤ 1000 := hw
  have e : Ue12.changed t ⟨p, o, w⟩ = (t.take p ++ w) ++ t.drop (p + o) := by
    unfold Ue12.changed
    rw [List.append_assoc]
  have k : RetL (enc (Ue12.changed t ⟨p, o, w⟩)) H Q := k
  rw [e] at k
  refine s_retL (el_catB (elR (el_catB (elR (el_to (er_var rfl ha) (eo_some (ev_var rfl)))) (er_var rfl hb) ?_)) (elR (el_from (er_var rfl ha) (eo_some (en_add (ev_var rfl) (ev_var rfl))))) ?_) k
  · rw [List.length_take]; omega
  · rw [List.length_append, List.length_take, List.length_drop]; omega
end
end Pk

set_option Elab.async false
set_option linter.all false
set_option maxRecDepth 100000
set_option maxHeartbeats 2000000
namespace Pk
open PySem PySem.Spec PyProof.Rows L2 Evl
theorem lk_here {k : Str} {v : V} {r : List (Str × V)} : List.lookup k ((k, v) :: r) = some v := by
  have e : (k == k) = true := beq_self_eq_true k
  simp only [List.lookup, e]
theorem lk_past {k g : Str} {v : V} {r : List (Str × V)} (h : (k == g) = false) : List.lookup k ((g, v) :: r) = List.lookup k r := by
  simp only [List.lookup, h]
theorem put_here {f : Str} {v x : V} {r : List (Str × V)} : putF f v ((f, x) :: r) = (f, v) :: r := if_pos rfl
theorem put_past {f g : Str} {v x : V} {r : List (Str × V)} (h : ¬ g = f) : putF f v ((g, x) :: r) = (g, x) :: putF f v r := if_neg h
def F_Brought (v0 v1 v2 : V) : List (Str × V) := [("text", v0), ("kept", v1), ("kept_mark", v2)]
theorem F_Brought_text {v0 v1 v2 : V} : (F_Brought v0 v1 v2).lookup ("text" : Str) = some v0 := lk_here
theorem P_Brought_text {v0 v1 v2 x : V} : putF "text" x (F_Brought v0 v1 v2) = F_Brought x v1 v2 := put_here
theorem F_Brought_kept {v0 v1 v2 : V} : (F_Brought v0 v1 v2).lookup ("kept" : Str) = some v1 := (lk_past (by decide +kernel)).trans (lk_here)
theorem P_Brought_kept {v0 v1 v2 x : V} : putF "kept" x (F_Brought v0 v1 v2) = F_Brought v0 x v2 := (put_past (by decide +kernel)).trans (congrArg _ (put_here))
theorem F_Brought_kept_mark {v0 v1 v2 : V} : (F_Brought v0 v1 v2).lookup ("kept_mark" : Str) = some v2 := (lk_past (by decide +kernel)).trans ((lk_past (by decide +kernel)).trans (lk_here))
theorem P_Brought_kept_mark {v0 v1 v2 x : V} : putF "kept_mark" x (F_Brought v0 v1 v2) = F_Brought v0 v1 x := (put_past (by decide +kernel)).trans (congrArg _ ((put_past (by decide +kernel)).trans (congrArg _ (put_here))))

/-! ### lists of rows -/
def Rows : List Addr → List (List Nat) → Hp → Prop
  | [], [], _ => True
  | a :: as, b :: bs, H => H a = some (.lst (enc b)) ∧ Rows as bs H
  | _, _, _ => False
theorem rows_len : ∀ {as : List Addr} {bs : List (List Nat)} {H : Hp}, Rows as bs H → as.length = bs.length
  | [], [], _, _ => rfl
  | _ :: _, _ :: _, _, h => congrArg (· + 1) (rows_len h.2)
  | [], _ :: _, _, h => h.elim
  | _ :: _, [], _, h => h.elim
theorem rows_mono : ∀ {as : List Addr} {bs : List (List Nat)} {H H' : Hp}, (∀ a ∈ as, ∀ o, H a = some o → H' a = some o) → Rows as bs H → Rows as bs H'
  | [], [], _, _, _, _ => trivial
  | a :: as, b :: bs, _, _, e, h => ⟨e a (List.mem_cons_self ..) _ h.1, rows_mono (fun c hc => e c (List.mem_cons_of_mem _ hc)) h.2⟩
  | [], _ :: _, _, _, _, h => h.elim
  | _ :: _, [], _, _, _, h => h.elim
theorem rows_ex {as : List Addr} {bs : List (List Nat)} {H H' : Hp} (e : Ex H H') (h : Rows as bs H) : Rows as bs H' := rows_mono (fun a _ o q => e a o q) h
theorem rows_snoc : ∀ {as : List Addr} {bs : List (List Nat)} {H : Hp} {a : Addr} {b : List Nat}, Rows as bs H → H a = some (.lst (enc b)) → Rows (as ++ [a]) (bs ++ [b]) H
  | [], [], _, _, _, _, h => ⟨h, trivial⟩
  | _ :: _, _ :: _, _, _, _, h, q => ⟨h.1, rows_snoc h.2 q⟩
  | [], _ :: _, _, _, _, h, _ => h.elim
  | _ :: _, [], _, _, _, h, _ => h.elim
theorem rows_get : ∀ {as : List Addr} {bs : List (List Nat)} {H : Hp} {i : Nat} {a : Addr}, Rows as bs H → as[i]? = some a → ∃ b, bs[i]? = some b ∧ H a = some (.lst (enc b))
  | a :: _, b :: _, _, 0, c, h, e => by
    have e : a = c := Option.some.inj e
    subst e
    exact ⟨b, rfl, h.1⟩
  | _ :: as, _ :: bs, _, i + 1, c, h, e => rows_get (as := as) (bs := bs) (i := i) h.2 e
  | [], [], _, i, c, _, e => by simp at e
  | [], _ :: _, _, _, _, h, _ => h.elim
  | _ :: _, [], _, _, _, h, _ => h.elim
def isLL (bs : List (List Nat)) : V → Hp → Prop := fun v H => ∃ p as, v = .ref p ∧ H p = some (.lst (as.map V.ref)) ∧ Rows as bs H
theorem mon_ll {bs : List (List Nat)} : Mon (isLL bs) := fun _ _ _ e ⟨p, as, h, q, r⟩ => ⟨p, as, h, e _ _ q, rows_ex e r⟩
/-- something of which R holds is handed back -/
def spP {I : Type} (A : I → List (V → Hp → Prop)) (pre : I → Prop) (R : I → V → Hp → Prop) : Sp := fun vs H Q _ => ∃ i, Fits (A i) vs H ∧ pre i ∧ ∀ v H2, Ex H H2 → R i v H2 → Q v H2
theorem ep_fn {σ : L2.St} {H : Hp} {I : Type} {A : I → List (V → Hp → Prop)} {pre : I → Prop} {E : XK} {ta : TA} {R : I → V → Hp → Prop} (i : I) (hp : pre i) (h : Ap ta σ H (Fits (A i))) : Ep (tCall (spP A pre R) [] E ta) σ H (R i) := fun H1 e Q q =>
  h H1 e _ fun vs H2 e2 hv => by
    rw [List.append_nil]
    exact ⟨i, hv, hp, fun v H3 e3 h3 => q v H3 (e2.trans e3) h3⟩
theorem q_asgP {σ : L2.St} {H : Hp} {te : TE} {D : Ends} {tz : TS} {i : Nat} {R : V → Hp → Prop} (h : Ep te σ H R) (k : ∀ v H1, Ex H H1 → R v H1 → tz D (σ.set i (some v)) H1) : tSeq (tAsg te (gName i)) tz D σ H := h H (Ex.refl H) _ fun v H1 e h1 => k v H1 e h1
theorem s_retP {σ : L2.St} {H : Hp} {te : TE} {D : Ends} {R : V → Hp → Prop} (h : Ep te σ H R) (k : ∀ v H1, Ex H H1 → R v H1 → D.rt v H1) : tRet te D σ H := h H (Ex.refl H) _ k
theorem er_LL {σ : L2.St} {H : Hp} {te : TE} {p : Addr} {as : List Addr} (h : Ev te σ H (.ref p)) (hp : H p = some (.lst (as.map V.ref))) : EvR te σ H (as.map V.ref) := evR h hp
section
variable {P : Program} {w : World} {K : PySem.W.Frag} {mg : Str → Option Value} {base : Heap}
def sp_read_bodies : Sp := spP (fun r : List Nat => [isB r]) (fun r => r.length ≤ 10000) fun r => isLL (bodies r)
theorem ok_read_bodies (G : Glob mg) (c_body_at : C8.Cal P w K mg base 2 "body_at" sp_body_at []) (d : DefX K mg "read_bodies" s_read_bodies ["row"]) : C8.Cal P w K mg base 3 "read_bodies" sp_read_bodies [] := by
  refine cal_mk d sc_read_bodies (fun vs H Q E ⟨i, hf, _⟩ => fits_len hf) (fun f cdv A outer s H vs Q E hr ⟨row, hf, hw, k⟩ => ?_)
  obtain ⟨v1, rfl, a, rfl, ha⟩ := fits1 hf
  refine ⟨_, (pss_cons (ps_set (i := 1) sc_read_bodies.nd rfl (.inl rfl) (pe_lst pa_nil))
    (pss_cons (ps_set (i := 2) sc_read_bodies.nd rfl (.inl rfl) pe_int)
    (pss_cons (ps_set (i := 3) sc_read_bodies.nd rfl (.inl rfl) (C8.pe_c c_body_at hr (by decide) (by rfl) (pa_cons (pv 0) (pa_cons (pv 2) pa_nil))))
    (pss_cons (ps_while PassesOwn.never (pt_cmpR op_gt (pe_callB call_len_seq (by rfl) G.b_len PySem.boot_len (pa_cons (pv 3) pa_nil)) pe_int (nomark _))
      (pss_cons (ps_expr (pe_bm PySem.F.plainAttrs_list PySem.F.slot_list_append PySem.F.type_list_append mt_append (pv 1) (pa_cons (pv 3) pa_nil)))
      (pss_cons (ps_set (i := 2) sc_read_bodies.nd rfl (.inl rfl) (pe_op op_add (pe_op op_add (pv 2) (pe_callB call_len_seq (by rfl) G.b_len PySem.boot_len (pa_cons (pv 3) pa_nil))) (C8.pe_gc (by rfl) G.c_FRAME)))
      (pss_one (ps_set (i := 3) sc_read_bodies.nd rfl (.inl rfl) (C8.pe_c c_body_at hr (by decide) (by rfl) (pa_cons (pv 0) (pa_cons (pv 2) pa_nil))))))))
    (pss_one (ps_ret (pv 1))))))), ?_⟩
  have k : ∀ v H2, Ex H H2 → isLL (bodies row) v H2 → Q v H2 := k
  refine q_asgL el_0 (fun l H1 hl e1 h1 => ?_)
  refine q_asg (en_c (a := 0)) (fun H2 e2 => ?_)
  have x2 := e1.trans e2
  refine q_asgL (el_fn (R := fun i : List Nat × Nat => bodyAt i.1 i.2) (row, 0) trivial (ap_b (er_var rfl (x2 _ _ ha)) (ap_v (ev_var rfl) ap_nil))) (fun b H3 hb e3 h3 => ?_)
  have x3 := x2.trans e3
  have hlb : H2 l = some (.lst []) := e2 _ _ h1
  refine q_while (fun m σ' H' => ∃ (pl : Nat) (b : Addr) (as : List Addr) (bs : List (List Nat)), σ' = [some (.ref a), some (.ref l), some (nv pl), some (.ref b)] ∧ Ex H H' ∧ H' l = some (.lst (as.map V.ref)) ∧ Rows as bs H' ∧ (∀ x ∈ as, x ≠ l) ∧
    H' b = some (.lst (enc (bodyAt row pl))) ∧ b ≠ l ∧ bodies row = bs ++ bodiesFrom m row pl ∧ row.length + 1 ≤ pl + m) (row.length + 1)
    ⟨0, b, [], [], rfl, x3, e3 _ _ hlb, trivial, fun x hx => (List.not_mem_nil hx).elim, h3, ?_, rfl, by omega⟩ ?_
  · intro q
    rw [q, hlb] at hb
    cases hb
  rintro m σ' H' ⟨pl, b, as, bs, rfl, ex, hl', hr', hne, hb', nbl, he, hm⟩
  refine ⟨_, et_test (eb_gt (en_lenB (er_var rfl hb')) (en_c (a := 0))), fun ht H4 e4 => ?_, fun ht H4 e4 => ?_⟩
  · have hpos := of_decide_eq_true ht
    have bne : bodyAt row pl ≠ [] := List.length_pos_iff.mp hpos
    have hbl := bodyAt_len bne
    have hlen : bs.length ≤ row.length := by
      have := (bodies_le row).2
      rw [he, List.length_append] at this
      omega
    obtain ⟨m, rfl⟩ : ∃ m', m = m' + 1 := ⟨m - 1, by omega⟩
    refine ⟨_, fun σ2 H2 h => h, ?_⟩
    refine q_app (l := l) (xs := as.map V.ref) (e4 _ _ hl') (ev_var rfl) (ev_var rfl) (by rw [List.length_map, rows_len hr']; omega) (fun H5 e5 => ?_)
    have ex5 : Ex H (upd H5 l (.lst (as.map V.ref ++ [.ref b]))) := Ex.mut ((ex.trans e4).trans e5) hl
    have b5 : (upd H5 l (.lst (as.map V.ref ++ [.ref b]))) b = some (.lst (enc (bodyAt row pl))) := by
      rw [upd_ne nbl]
      exact e5 _ _ (e4 _ _ hb')
    have r5 : Rows as bs (upd H5 l (.lst (as.map V.ref ++ [.ref b]))) := rows_mono (fun x hx o q => by rw [upd_ne (hne x hx)]; exact e5 _ _ (e4 _ _ q)) hr'
    refine q_asg (en_add (en_add (ev_var rfl) (en_lenB (er_var rfl b5))) (en_c (a := 4))) (fun H6 e6 => ?_)
    have l6 := e6 _ _ (upd_same : (upd H5 l (.lst (as.map V.ref ++ [.ref b]))) l = _)
    refine s_asgL (el_fn (R := fun i : List Nat × Nat => bodyAt i.1 i.2) (row, pl + (bodyAt row pl).length + 4) trivial (ap_b (er_var rfl ((ex5.trans e6) _ _ ha)) (ap_v (ev_var rfl) ap_nil))) (fun b' H7 hb7 e7 h7 => ?_)
    refine ⟨m, by omega, pl + (bodyAt row pl).length + 4, b', as ++ [b], bs ++ [bodyAt row pl], rfl, (ex5.trans e6).trans e7, ?_, rows_ex e7 (rows_ex e6 (rows_snoc r5 b5)), ?_, h7, ?_, ?_, by omega⟩
    · rw [e7 _ _ l6, List.map_append]
      rfl
    · intro x hx
      rcases List.mem_append.mp hx with hx | hx
      · exact hne x hx
      · rw [List.mem_singleton.mp hx]
        exact nbl
    · intro q
      rw [q, l6] at hb7
      cases hb7
    · rw [he]
      conv => lhs; unfold bodiesFrom
      rw [if_neg bne, List.append_assoc]
      rfl
  · have hz := of_decide_eq_false ht
    have bnil : bodyAt row pl = [] := List.length_eq_zero_iff.mp (by omega)
    have hend : bodies row = bs := by
      rw [he]
      cases m with
      | zero => exact List.append_nil _
      | succ m =>
        unfold bodiesFrom
        rw [if_pos bnil]
        exact List.append_nil _
    refine s_ret (ev_var rfl) (fun H5 e5 => ?_)
    exact k _ _ ((ex.trans e4).trans e5) ⟨l, as, rfl, e5 _ _ (e4 _ _ hl'), by rw [hend]; exact rows_ex e5 (rows_ex e4 hr')⟩
end
end Pk

set_option Elab.async false
set_option linter.all false
set_option maxRecDepth 100000
set_option maxHeartbeats 2000000
namespace Pk
open PySem PySem.Spec PyProof.Rows L2 Evl
/-! ### more words -/
section
variable {K : PySem.W.Frag} {σ : L2.St} {H : Hp} {ta tb te : TE} {t : TT} {v : V} {D : Ends} {tz : TS} {a C dx : Addr} {fs : List (Str × V)} {f : Str} {xs : List V}
theorem s_retIf {b : Bool} (h : EvT t σ H b) (h1 : b = true → ∀ H1, Ex H H1 → ta σ H1 D.rt) (h2 : b = false → ∀ H1, Ex H H1 → tb σ H1 D.rt) : tRet (tIf t ta tb) D σ H := h H (Ex.refl H) _ fun H1 e => by
  cases b with
  | true => exact h1 rfl H1 e
  | false => exact h2 rfl H1 e
theorem s_fldV (hv : Ev te σ H v) (ha : Ev ta σ H (.ref a)) (ho : H a = some (.ins C dx fs)) (hc : Cls K C) (hn : NoAttr K C f) (hl : fs.length < 1000) (k : ∀ H1, Ex H H1 → D.nx σ (upd H1 a (.ins C dx (putF f v fs)))) : sFld K ta te f D σ H :=
  hv H (Ex.refl H) _ fun H1 e1 => ha H1 e1 _ fun H2 e2 => ⟨a, C, dx, fs, rfl, e2 _ _ (e1 _ _ ho), hc, hn, hl, k H2 (e1.trans e2)⟩
theorem s_fldL (hv : EvL te σ H xs) (ha : Ev ta σ H (.ref a)) (ho : H a = some (.ins C dx fs)) (hc : Cls K C) (hn : NoAttr K C f) (hl : fs.length < 1000) (k : ∀ p H1, H p = none → Ex H H1 → H1 p = some (.lst xs) → D.nx σ (upd H1 a (.ins C dx (putF f (.ref p) fs)))) : sFld K ta te f D σ H :=
  hv H (Ex.refl H) _ fun p H1 hp e1 h1 => ha H1 e1 _ fun H2 e2 => ⟨a, C, dx, fs, rfl, e2 _ _ (e1 _ _ ho), hc, hn, hl, k p H2 hp (e1.trans e2) (e2 _ _ h1)⟩
theorem q_fldV (hv : Ev te σ H v) (ha : Ev ta σ H (.ref a)) (ho : H a = some (.ins C dx fs)) (hc : Cls K C) (hn : NoAttr K C f) (hl : fs.length < 1000) (k : ∀ H1, Ex H H1 → tz D σ (upd H1 a (.ins C dx (putF f v fs)))) : tSeq (sFld K ta te f) tz D σ H := s_fldV (D := { D with nx := tz D }) hv ha ho hc hn hl k
theorem q_fldL (hv : EvL te σ H xs) (ha : Ev ta σ H (.ref a)) (ho : H a = some (.ins C dx fs)) (hc : Cls K C) (hn : NoAttr K C f) (hl : fs.length < 1000) (k : ∀ p H1, H p = none → Ex H H1 → H1 p = some (.lst xs) → tz D σ (upd H1 a (.ins C dx (putF f (.ref p) fs)))) : tSeq (sFld K ta te f) tz D σ H := s_fldL (D := { D with nx := tz D }) hv ha ho hc hn hl k
/-- a new object, of which R holds -/
def EvN (te : TE) (σ : L2.St) (H : Hp) (R : Addr → Hp → Prop) : Prop := ∀ H1, Ex H H1 → ∀ Q : VK, (∀ p H2, H1 p = none → Ex H1 H2 → R p H2 → Q (.ref p) H2) → te σ H1 Q
/-- the promise of an __init__ -/
def spI (C : Addr) {I : Type} (A : I → List (V → Hp → Prop)) (pre : I → Prop) (R : I → Addr → Hp → Prop) : Sp := fun vs H Q _ => ∃ i p dx args, vs = .ref p :: args ∧ Fits (A i) args H ∧ pre i ∧ H p = some (.ins C dx []) ∧ ∀ H', (∀ b o, H b = some o → b ≠ p → H' b = some o) → R i p H' → Q .non H'
theorem spI_len {I : Type} {A : I → List (V → Hp → Prop)} {pre : I → Prop} {R : I → Addr → Hp → Prop} {n : Nat} (hn : ∀ i, (A i).length = n) (vs : List V) (H : Hp) (Q : VK) (E : XK) (h : spI C A pre R vs H Q E) : vs.length = n + 1 := by
  obtain ⟨i, p, dx, args, rfl, hf, _⟩ := h
  rw [List.length_cons, fits_len hf, hn]
theorem fits_ex : ∀ {ps : List (V → Hp → Prop)} {vs : List V} {H H' : Hp}, (∀ p ∈ ps, Mon p) → Ex H H' → Fits ps vs H → Fits ps vs H'
  | [], [], _, _, _, _, _ => trivial
  | p :: ps, v :: vs, H, H', m, e, h => ⟨m p (List.mem_cons_self ..) v H H' e h.1, fits_ex (fun q hq => m q (List.mem_cons_of_mem _ hq)) e h.2⟩
  | [], _ :: _, _, _, _, _, h => h.elim
  | _ :: _, [], _, _, _, _, h => h.elim
theorem en_make {I : Type} {A : I → List (V → Hp → Prop)} {pre : I → Prop} {R : I → Addr → Hp → Prop} {E : XK} {tr : TA} (i : I) (hm : ∀ p ∈ A i, Mon p) (hp : pre i) (h : Ap tr σ H (Fits (A i))) : EvN (tMake C (spI C A pre R) [] E tr) σ H (R i) := fun H1 e Q q =>
  h H1 e _ fun vs H2 e2 hv x dx nx nd ne => by
    rw [List.append_nil]
    have e3 : Ex H2 (upd (upd H2 dx (.own x)) x (.ins C dx [])) := fun b o hb => by
      rw [upd_ne (ne_of_none hb nx), upd_ne (ne_of_none hb nd)]
      exact hb
    exact ⟨i, x, dx, vs, rfl, fits_ex hm e3 hv, hp, upd_same, fun H' fr hr => ⟨rfl, q x H' (fresh_back e2 nx) (fun b o hb => fr b o (e3 b o (e2 b o hb)) (ne_of_none (e2 b o hb) nx)) hr⟩⟩
/-- an __init__ without arguments; R sees the heap that it began with -/
def spI2 (C : Addr) (R : Hp → Addr → Hp → Prop) : Sp := fun vs H Q _ => ∃ p dx, vs = [.ref p] ∧ H p = some (.ins C dx []) ∧ ∀ H', (∀ b o, H b = some o → b ≠ p → H' b = some o) → R H p H' → Q .non H'
theorem en_make2 {R : Hp → Addr → Hp → Prop} {E : XK} : EvN (tMake C (spI2 C R) [] E tNil) σ H (fun p H2 => ∃ Hm, Ex H Hm ∧ R Hm p H2) := fun H1 e Q q x dx nx nd ne => by
  have e3 : Ex H1 (upd (upd H1 dx (.own x)) x (.ins C dx [])) := fun b o hb => by
    rw [upd_ne (ne_of_none hb nx), upd_ne (ne_of_none hb nd)]
    exact hb
  exact ⟨x, dx, rfl, upd_same, fun H' fr hr => ⟨rfl, q x H' nx (fun b o hb => fr b o (e3 b o hb) (ne_of_none hb nx)) ⟨_, e.trans e3, hr⟩⟩⟩
theorem q_asgC {tr : TA} {sp : Sp} {E : XK} {i : Nat} {ps : List (V → Hp → Prop)} (h : Ap tr σ H (Fits ps)) (k : ∀ vs H1, Ex H H1 → Fits ps vs H1 → sp vs H1 (fun v H2 => tz D (σ.set i (some v)) H2) E) : tSeq (tAsg (tCall sp [] E tr) (gName i)) tz D σ H :=
  h H (Ex.refl H) _ fun vs H1 e1 hv => by
    rw [List.append_nil]
    exact k vs H1 e1 hv
theorem q_asgN {R : Addr → Hp → Prop} {i : Nat} (h : EvN te σ H R) (k : ∀ p H1, H p = none → Ex H H1 → R p H1 → tz D (σ.set i (some (.ref p))) H1) : tSeq (tAsg te (gName i)) tz D σ H := h H (Ex.refl H) _ fun p H1 hp e h1 => k p H1 hp e h1
end
theorem bytesOf_eq (r : Ue12.Rec) : Ue12.bytesOf r = recB (Ue12.body r) := by
  unfold Ue12.bytesOf recB
  rw [sumU]
section
variable {P : Program} {w : World} {K : PySem.W.Frag} {mg : Str → Option Value} {base : Heap}
/-! ### text_behind -/
def sp_text_behind : Sp := fun vs H Q _ => ∃ i : List Nat × List Nat, Fits [isB i.1, isB i.2] vs H ∧ (knownB i.2 = true ∧ i.2.getD 0 0 ≠ 2 ∧ i.1.length ≤ 1000 ∧ i.2.length ≤ 1000) ∧ match behindB i.1 i.2 with
  | none => RetV .non H Q
  | some u => RetL (enc u) H Q
theorem ok_text_behind (G : Glob mg) (c_goes_beyond : C8.Cal P w K mg base 1 "goes_beyond" sp_goes_beyond []) (c_changed : C8.Cal P w K mg base 1 "changed" sp_changed []) (d : DefX K mg "text_behind" s_text_behind ["text", "body"]) : C8.Cal P w K mg base 2 "text_behind" sp_text_behind [] := by
  refine cal_mk d sc_text_behind (fun vs H Q E ⟨i, hf, _⟩ => fits_len hf) (fun f cdv A outer s H vs Q E hr ⟨⟨t, b⟩, hf, ⟨hk, h2, hlt, hlb⟩, k⟩ => ?_)
  obtain ⟨v1, v2, rfl, ⟨ta, rfl, ha⟩, ⟨ba, rfl, hb⟩⟩ := fits2 hf
  dsimp only at hk h2 hlt hlb k ha hb
  refine ⟨_, (pss_cons (ps_if (pt_cmpR op_eq (pe_ix ix_list (pv 1) pe_int (fun _ _ => rfl)) (C8.pe_gc (by rfl) G.c_WHOLE) (nomark _))
      (pss_one (ps_set (i := 2) sc_text_behind.nd rfl (.inl rfl) (pe_slice sl_list (pv 1) (po_some pe_int) po_none)))
      (pss_one (ps_if (pt_val (C8.pe_c c_goes_beyond hr (by decide) (by rfl) (pa_cons (pv 0) (pa_cons (pe_ix ix_list (pv 1) pe_int (fun _ _ => rfl)) (pa_cons (pe_ix ix_list (pv 1) pe_int (fun _ _ => rfl)) pa_nil)))))
        (pss_one (ps_ret pe_non))
        (pss_one (ps_set (i := 2) sc_text_behind.nd rfl (.inl rfl) (C8.pe_c c_changed hr (by decide) (by rfl) (pa_cons (pv 0) (pa_cons (pe_ix ix_list (pv 1) pe_int (fun _ _ => rfl)) (pa_cons (pe_ix ix_list (pv 1) pe_int (fun _ _ => rfl)) (pa_cons (pe_slice sl_list (pv 1) (po_some pe_int) po_none) pa_nil))))))))))
    (pss_one (ps_ret (pe_ifExp (pt_cmpR op_le (pe_callB call_len_seq (by rfl) G.b_len PySem.boot_len (pa_cons (pv 2) pa_nil)) (C8.pe_gc (by rfl) G.c_LONGEST_TEXT) (nomark _)) (pv 2) pe_non)))), ?_⟩
  have hpos : 0 < b.length := by
    cases b with
    | nil => cases hk
    | cons x r => simp
  -- the last row: return behind if len(behind) <= LONGEST_TEXT else None
  have fin : ∀ (u : List Nat) (p : Addr) (H' : Hp), Ex H H' → H p = none → H' p = some (.lst (enc u)) → behindB t b = (if u.length ≤ 200 then some u else none) → tRet (tIf (tTest (tOp (rI0 fun i j => V.bl (decide (i ≤ j))) (tCB (rLenS K) (tCons (tVar 2) tNil)) (tC (nv 200)))) (tVar 2) (tC V.non)) { nx := fun _ H' => Q V.non H', rt := Q } [some (.ref ta), some (.ref ba), some (.ref p)] H' := by
    intro u p H' ex np hp he
    rw [he] at k
    refine s_retIf (et_test (eb_le (en_lenB (er_var rfl hp)) (en_c (a := 200)))) (fun hb H1 e1 => ?_) (fun hb H1 e1 => ?_)
    · rw [if_pos (of_decide_eq_true hb)] at k
      exact ⟨_, rfl, k p H1 np (ex.trans e1) (e1 _ _ hp)⟩
    · rw [if_neg (of_decide_eq_false hb)] at k
      exact k H1 (ex.trans e1)
  refine q_if (et_test (eb_eq (en_ix (er_var rfl hb) (en_c (a := 0)) (get_getD hpos)) (en_c (a := 3)))) (fun ht H1 e1 => ?_) (fun ht H1 e1 => ?_)
  · have h3 := of_decide_eq_true ht
    refine s_asgL (el_from (er_var rfl (e1 _ _ hb)) (eo_some (en_c (a := 1)))) (fun p H2 hp e2 h2 => ?_)
    exact fin _ p H2 (e1.trans e2) (fresh_back e1 hp) h2 (by unfold behindB; rw [if_pos h3])
  · have h3 := of_decide_eq_false ht
    obtain ⟨p, o, w, rfl⟩ : ∃ p o w, b = 1 :: p :: o :: w := by
      rcases known_cases hk with h | ⟨x, y, rfl⟩ | ⟨w, rfl⟩
      · exact h
      · exact absurd rfl h2
      · exact absurd rfl h3
    have hbe : behindB t (1 :: p :: o :: w) = if t.length < p + o then none else if (Ue12.changed t ⟨p, o, w⟩).length ≤ 200 then some (Ue12.changed t ⟨p, o, w⟩) else none := rfl
    refine s_if (et_B (ev_fn (A := fun i : List Nat × Nat × Nat => [isB i.1, isV (nv i.2.1), isV (nv i.2.2)]) (pre := fun _ => True) (R := fun i => V.bl (decide (i.1.length < i.2.1 + i.2.2))) (t, p, o) trivial
      (ap_b (er_var rfl (e1 _ _ ha)) (ap_v (en_ix (er_var rfl (e1 _ _ hb)) (en_c (a := 1)) rfl) (ap_v (en_ix (er_var rfl (e1 _ _ hb)) (en_c (a := 2)) rfl) ap_nil))))) (fun ht H2 e2 => ?_) (fun ht H2 e2 => ?_)
    · rw [hbe, if_pos (of_decide_eq_true ht)] at k
      exact s_ret ev_c fun H3 e3 => k H3 ((e1.trans e2).trans e3)
    · have hb2 := e2 _ _ (e1 _ _ hb)
      refine s_asgL (el_fn (A := fun i : List Nat × Nat × Nat × List Nat => [isB i.1, isV (nv i.2.1), isV (nv i.2.2.1), isB i.2.2.2]) (pre := fun i => i.1.length ≤ 1000 ∧ i.2.2.2.length ≤ 1000) (R := fun i => Ue12.changed i.1 ⟨i.2.1, i.2.2.1, i.2.2.2⟩) (t, p, o, w) ⟨hlt, by simp at hlb; dsimp only; omega⟩
        (ap_b (er_var rfl (e2 _ _ (e1 _ _ ha))) (ap_v (en_ix (er_var rfl hb2) (en_c (a := 1)) rfl) (ap_v (en_ix (er_var rfl hb2) (en_c (a := 2)) rfl) (ap_b (elR (el_from (er_var rfl hb2) (eo_some (en_c (a := 3))))) ap_nil))))) (fun q H3 hq e3 h3 => ?_)
      exact fin _ q H3 ((e1.trans e2).trans e3) (fresh_back (e1.trans e2) hq) h3 (by rw [hbe, if_neg (of_decide_eq_false ht)])
/-! ### Brought -/
structure TB (K : PySem.W.Frag) (C : Addr) : Prop where
  cl : Cls K C
  n_text : NoAttr K C "text"
  n_kept : NoAttr K C "kept"
  n_mark : NoAttr K C "kept_mark"
/-- what records have brought about stands at p -/
def BrAt (C : Addr) (H0 : Hp) (x : Ue12.Read) (p : Addr) (H : Hp) : Prop := ∃ dx t k, H p = some (.ins C dx (F_Brought (.ref t) (.ref k) (nv x.mark))) ∧ H t = some (.lst (enc x.now)) ∧ H k = some (.lst (enc x.kept)) ∧ H0 t = none ∧ H0 k = none
theorem BrAt.back {C : Addr} {H0 Hm H : Hp} {x : Ue12.Read} {p : Addr} (e : Ex H0 Hm) (h : BrAt C Hm x p H) : BrAt C H0 x p H := by
  obtain ⟨dx, t, k, h1, h2, h3, h4, h5⟩ := h
  exact ⟨dx, t, k, h1, h2, h3, fresh_back e h4, fresh_back e h5⟩
def sp_brought (C : Addr) : Sp := spI2 C fun H0 => BrAt C H0 ⟨[], [], 0⟩
theorem ok_brought {C : Addr} (T : TB K C) (d : MakX K mg "Brought" C "Brought.__init__" s_Brought___init__ ["self"]) : C8.Mak P w K mg base 1 "Brought" C (sp_brought C) [] := by
  refine mak_mk d sc_Brought___init__ (fun vs H Q E ⟨_, _, h, _⟩ => by rw [h]; rfl) (fun f cdv A outer s H vs Q E hr ⟨p, dx, hv, hp, k⟩ => ?_)
  subst hv
  refine ⟨_, (pss_cons (ps_fld (pv 0) (pe_lst pa_nil) rfl)
    (pss_cons (ps_fld (pv 0) (pe_lst pa_nil) rfl)
    (pss_one (ps_fld (pv 0) pe_int rfl)))), ?_⟩
  refine q_fldL el_0 (ev_var rfl) hp T.cl T.n_text (by show 0 < 1000; decide) (fun t H1 ht e1 h1 => ?_)
  have nt : t ≠ p := fun q => by rw [q, hp] at ht; cases ht
  refine q_fldL el_0 (ev_var rfl) upd_same T.cl T.n_kept (by show 1 < 1000; decide) (fun c H2 hc e2 h2 => ?_)
  have ncp : c ≠ p := fun q => by rw [q, upd_same] at hc; cases hc
  have ht2 : H2 t = some (.lst (enc [])) := e2 _ _ (by rw [upd_ne nt]; exact h1)
  refine s_fldV (en_c (a := 0)) (ev_var rfl) upd_same T.cl T.n_mark (by show 2 < 1000; decide) (fun H3 e3 => ?_)
  have hc0 : H c = none := by
    have := fresh_back (Ex.refl _) hc
    cases q : H c with
    | none => rfl
    | some o =>
      rw [upd_ne ncp, e1 _ _ q] at hc
      cases hc
  refine k _ (fun b o hb nb => ?_) ⟨dx, t, c, ?_, ?_, ?_, ht, hc0⟩
  · rw [upd_ne nb]
    refine e3 _ _ ?_
    rw [upd_ne nb]
    refine e2 _ _ ?_
    rw [upd_ne nb]
    exact e1 _ _ hb
  · rw [upd_same]
    refine congrArg (fun z => some (HO.ins C dx z)) ?_
    exact (put_past (by decide +kernel)).trans (congrArg _ ((put_past (by decide +kernel)).trans rfl))
  · rw [upd_ne nt]
    refine e3 _ _ ?_
    rw [upd_ne nt]
    exact ht2
  · rw [upd_ne ncp]
    refine e3 _ _ ?_
    rw [upd_ne ncp]
    exact h2
end
end Pk

set_option Elab.async false
set_option linter.all false
set_option maxRecDepth 100000
set_option maxHeartbeats 2000000
namespace Pk
open PySem PySem.Spec PyProof.Rows L2 Evl
theorem lift_map {α β : Type} {l : List α} {g : α → β} {i : Nat} {y : β} (h : (l.map g)[i]? = some y) : ∃ x, l[i]? = some x ∧ y = g x := by
  rw [List.getElem?_map] at h
  cases e : l[i]? with
  | none => rw [e] at h; cases h
  | some x => rw [e] at h; exact ⟨x, rfl, (Option.some.inj h).symm⟩
theorem drop_cons {α : Type} {l : List α} {i : Nat} {x : α} (h : l[i]? = some x) : l.drop i = x :: l.drop (i + 1) := by
  obtain ⟨hi, e⟩ := List.getElem?_eq_some_iff.mp h
  rw [List.drop_eq_getElem_cons hi, e]
section
variable {P : Program} {w : World} {K : PySem.W.Frag} {mg : Str → Option Value} {base : Heap}
/-! ### bring_about -/
def sp_bring_about (C : Addr) : Sp := fun vs H Q _ => ∃ bs : List (List Nat), Fits [isLL bs] vs H ∧ (AllKnown bs ∧ ∀ b ∈ bs, b.length ≤ 1000) ∧ ∀ p H2, Ex H H2 → BrAt C H (Ue12.brought ⟨[], [], 0⟩ (recs bs)) p H2 → Q (.ref p) H2
theorem ok_bring_about {C : Addr} (G : Glob mg) (T : TB K C) (m_Brought : C8.Mak P w K mg base 1 "Brought" C (sp_brought C) []) (c_text_behind : C8.Cal P w K mg base 2 "text_behind" sp_text_behind [])
    (d : DefX K mg "bring_about" s_bring_about ["bodies"]) : C8.Cal P w K mg base 3 "bring_about" (sp_bring_about C) [] := by
  refine cal_mk d sc_bring_about (fun vs H Q E ⟨i, hf, _⟩ => fits_len hf) (fun f cdv A outer s H vs Q E hr ⟨bs, hf, ⟨hk, hle⟩, k⟩ => ?_)
  obtain ⟨v1, rfl, a, as, rfl, ha, hrs⟩ := fits1 hf
  refine ⟨_, (pss_cons (ps_set (i := 1) sc_bring_about.nd rfl (.inl rfl) (pe_mk0 m_Brought hr (by decide) (by rfl)))
    (pss_cons (ps_for PassesOwn.never rfl (pi_list (pv 0)) (pg_name (i := 2) sc_bring_about.nd rfl (.inl rfl))
      (pss_one (ps_if (pt_cmpR op_eq (pe_ix ix_list (pv 2) pe_int (fun _ _ => rfl)) (C8.pe_gc (by rfl) G.c_MARK) (nomark _))
        (pss_cons (ps_fld (pv 1) (pe_fld (pv 1) rfl) rfl)
        (pss_one (ps_fld (pv 1) (pe_op op_add (pe_ix ix_list (pv 2) pe_int (fun _ _ => rfl)) (pe_op op_mul pe_int (pe_ix ix_list (pv 2) pe_int (fun _ _ => rfl)))) rfl)))
        (pss_cons (ps_set (i := 3) sc_bring_about.nd rfl (.inl rfl) (C8.pe_c c_text_behind hr (by decide) (by rfl) (pa_cons (pe_fld (pv 1) rfl) (pa_cons (pv 2) pa_nil))))
        (pss_cons (ps_if (pt_cmpR op_isN (pv 3) pe_non (nomark _))
          (pss_one (ps_ret (pv 1)))
          pss_nil)
        (pss_one (ps_fld (pv 1) (pv 3) rfl)))))))
    (pss_one (ps_ret (pv 1))))), ?_⟩
  refine q_asgN en_make2 (fun o H1 ho e1 ⟨Hm, em, B1⟩ => ?_)
  have B1 := BrAt.back em B1
  refine q_forLn (K := K) (a := a) (xs := as.map V.ref) (ev_var rfl) (sq_of (e1 _ _ ha)) (fun i σ' H' => ∃ (v2 v3 : Option V) (x : Ue12.Read), σ' = [some (.ref a), some (.ref o), v2, v3] ∧ Ex H H' ∧ BrAt C H x o H' ∧ x.now.length ≤ 200 ∧ Ue12.brought ⟨[], [], 0⟩ (recs bs) = Ue12.brought x (recs (bs.drop i)))
    (fun H2 e2 => ⟨none, none, ⟨[], [], 0⟩, rfl, e1.trans e2, ?_, Nat.zero_le _, rfl⟩) (fun i σ' H' _ ⟨_, _, _, _, ex, _⟩ => sq_of (ex _ _ ha)) ?_ ?_
  · obtain ⟨dx, t, c, h1, h2, h3, h4, h5⟩ := B1
    exact ⟨dx, t, c, e2 _ _ h1, e2 _ _ h2, e2 _ _ h3, h4, h5⟩
  · rintro i y σ' H' hi ⟨v2, v3, x, rfl, ex, ⟨dx, t, c, h1, h2, h3, n4, n5⟩, hn, he⟩
    obtain ⟨ba, hia, rfl⟩ := lift_map hi
    obtain ⟨b, hib, hb0⟩ := rows_get (rows_ex ex hrs) hia
    have kb : knownB b = true := hk b (List.mem_of_getElem? hib)
    have lb := hle b (List.mem_of_getElem? hib)
    have hpos : 0 < b.length := by
      cases b with
      | nil => cases kb
      | cons x r => simp
    rw [drop_cons hib] at he
    have nto : t ≠ o := ne_of h2 h1 (by intro z; cases z)
    have nco : c ≠ o := ne_of h3 h1 (by intro z; cases z)
    have nbo : ba ≠ o := ne_of hb0 h1 (by intro z; cases z)
    refine s_if (et_test (eb_eq (en_ix (er_var rfl hb0) (en_c (a := 0)) (get_getD hpos)) (en_c (a := 2)))) (fun ht H2 e2 => ?_) (fun ht H2 e2 => ?_)
    · have b2 := of_decide_eq_true ht
      obtain ⟨p, q, rfl⟩ : ∃ p q, b = [2, p, q] := by
        rcases known_cases kb with ⟨p, o, w, rfl⟩ | h | ⟨w, rfl⟩
        · exact absurd b2 (by simp)
        · exact h
        · exact absurd b2 (by simp)
      rw [brought_mark] at he
      refine q_fldV (ev_fld (ev_var rfl) (e2 _ _ h1) T.cl T.n_text F_Brought_text) (ev_var rfl) (e2 _ _ h1) T.cl T.n_kept (by show 3 < 1000; decide) (fun H3 e3 => ?_)
      rw [P_Brought_kept]
      have o3 : upd H3 o (.ins C dx (F_Brought (.ref t) (.ref t) (nv x.mark))) o = some (.ins C dx (F_Brought (.ref t) (.ref t) (nv x.mark))) := upd_same
      have b3 : upd H3 o (.ins C dx (F_Brought (.ref t) (.ref t) (nv x.mark))) ba = some (.lst (enc [2, p, q])) := by
        rw [upd_ne nbo]
        exact e3 _ _ (e2 _ _ hb0)
      refine s_fldV (en_add (en_ix (er_var rfl b3) (en_c (a := 1)) rfl) (en_mul (en_c (a := 256)) (en_ix (er_var rfl b3) (en_c (a := 2)) rfl) (by decide) ?_)) (ev_var rfl) o3 T.cl T.n_mark (by show 3 < 1000; decide) (fun H4 e4 => ?_)
      · exact .inl ⟨by decide, by decide⟩
      rw [P_Brought_kept_mark]
      have t3 : upd H3 o (.ins C dx (F_Brought (.ref t) (.ref t) (nv x.mark))) t = some (.lst (enc x.now)) := by
        rw [upd_ne nto]
        exact e3 _ _ (e2 _ _ h2)
      refine ⟨_, _, { x with kept := x.now, mark := p + 256 * q }, rfl, ?_, ⟨dx, t, t, upd_same, ?_, ?_, n4, n4⟩, hn, he⟩
      · exact Ex.mut (Ex.trans (Ex.mut ((ex.trans e2).trans e3) ho) e4) ho
      · rw [upd_ne nto]
        exact e4 _ _ t3
      · rw [upd_ne nto]
        exact e4 _ _ t3
    · have b2 := of_decide_eq_false ht
      rw [brought_else x _ kb b2] at he
      refine q_asgC (ap_b (evR (ev_fld (ev_var rfl) (e2 _ _ h1) T.cl T.n_text F_Brought_text) (e2 _ _ h2)) (ap_b (er_var rfl (e2 _ _ hb0)) ap_nil)) (fun vs H3 e3 hvs => ?_)
      refine ⟨(x.now, b), hvs, ⟨kb, b2, by dsimp only; omega, lb⟩, ?_⟩
      dsimp only
      have x3 := (ex.trans e2).trans e3
      cases hbe : behindB x.now b with
      | none =>
        rw [hbe] at he
        dsimp only at he ⊢
        intro H3' e3'
        refine q_when (et_test (ev_op (ev_var rfl) ev_c (fun H1 _ Q q => ⟨rfl, q H1 (Ex.refl H1)⟩))) (fun ht H4 e4 => ?_) (fun ht H4 e4 => ?_)
        · refine s_ret (ev_var rfl) (fun H5 e5 => ?_)
          refine k o H5 (((x3.trans e3').trans e4).trans e5) ⟨dx, t, c, ?_, ?_, ?_, n4, n5⟩
          · rw [he]; exact e5 _ _ (e4 _ _ (e3' _ _ (e3 _ _ (e2 _ _ h1))))
          · rw [he]; exact e5 _ _ (e4 _ _ (e3' _ _ (e3 _ _ (e2 _ _ h2))))
          · rw [he]; exact e5 _ _ (e4 _ _ (e3' _ _ (e3 _ _ (e2 _ _ h3))))
        · exact absurd ht (by decide)
      | some u =>
        rw [hbe] at he
        dsimp only at he ⊢
        intro up H3' nu e3' hu
        refine q_when (et_test (ev_op (ev_var rfl) ev_c (fun H1 _ Q q => ⟨rfl, q H1 (Ex.refl H1)⟩))) (fun ht H4 e4 => ?_) (fun ht H4 e4 => ?_)
        · exact absurd ht (by rw [decide_eq_false (fun z => by cases z)]; decide)
        · have o4 := e4 _ _ (e3' _ _ (e3 _ _ (e2 _ _ h1)))
          refine s_fldV (ev_var rfl) (ev_var rfl) o4 T.cl T.n_text (by show 3 < 1000; decide) (fun H5 e5 => ?_)
          rw [P_Brought_text]
          have u5 := e5 _ _ (e4 _ _ hu)
          have nuo : up ≠ o := ne_of u5 (e5 _ _ o4) (by intro z; cases z)
          refine ⟨_, _, { x with now := u }, rfl, Ex.mut (((x3.trans e3').trans e4).trans e5) ho, ⟨dx, up, c, upd_same, ?_, ?_, fresh_back x3 nu, n5⟩, behind_le hbe, he⟩
          · rw [upd_ne nuo]; exact u5
          · rw [upd_ne nco]; exact e5 _ _ (e4 _ _ (e3' _ _ (e3 _ _ (e2 _ _ h3))))
  · rintro σ' H' ⟨v2, v3, x, rfl, ex, ⟨dx, t, c, h1, h2, h3, n4, n5⟩, hn, he⟩
    rw [List.length_map, rows_len hrs, List.drop_length] at he
    have he : Ue12.brought ⟨[], [], 0⟩ (recs bs) = x := he
    refine s_ret (ev_var rfl) (fun H5 e5 => ?_)
    refine k o H5 (ex.trans e5) ⟨dx, t, c, ?_, ?_, ?_, n4, n5⟩
    · rw [he]; exact e5 _ _ h1
    · rw [he]; exact e5 _ _ h2
    · rw [he]; exact e5 _ _ h3
end
end Pk

set_option Elab.async false
set_option linter.all false
set_option maxRecDepth 100000
set_option maxHeartbeats 2000000
namespace Pk
open PySem PySem.Spec PyProof.Rows L2 Evl
section
variable {K : PySem.W.Frag} {σ : L2.St} {H : Hp} {ta tb te : TE}
theorem ei_sub {a b : Nat} (ha : Ev ta σ H (nv a)) (hb : Ev tb σ H (nv b)) : Ev (tOp (rI0 fun i j => .int (i - j)) ta tb) σ H (.int ((a : Int) - (b : Int))) := ev_op ha hb (rv_I0 (g := fun i j => .int (i - j)))
theorem en_max0 {a b : Nat} (h : Ev te σ H (.int ((a : Int) - (b : Int)))) : Ev (tCB rMax2 (tCons (tC (.int 0)) (tCons te tNil))) σ H (nv (a - b)) := by
  have e : (if ((a : Int) - (b : Int)) > 0 then ((a : Int) - (b : Int)) else 0) = ((a - b : Nat) : Int) := by
    by_cases h : ((a : Int) - (b : Int)) > 0
    · rw [if_pos h]; omega
    · rw [if_neg h]; omega
  show Ev _ σ H (V.int ((a - b : Nat) : Int))
  rw [← e]
  exact ev_max2 ev_c h
theorem el_rep {n : Nat} {xs : List V} (h : EvR te σ H xs) (hb : Ev tb σ H (nv n)) (hl : xs.length * n ≤ 100000) (hn : n ≤ 100000) : EvL (tOp rRep te tb) σ H (List.replicate n xs).flatten := fun H1 e _ q =>
  h H1 e _ fun p H2 e2 h2 => hb H2 (e.trans e2) _ fun H3 e3 =>
    ⟨p, (n : Int), xs, rfl, rfl, e3 _ _ h2, by omega, by omega, sz_of hl, fun l hl => q l _ (fresh_back (e2.trans e3) hl) ((e2.trans e3).trans (Ex.new hl)) upd_same⟩
theorem flat0 : ∀ n : Nat, (List.replicate n (enc [0])).flatten = enc (List.replicate n 0)
  | 0 => rfl
  | n + 1 => by
    rw [List.replicate_succ, List.replicate_succ, List.flatten_cons, flat0 n]
    rfl
end
theorem put_eq (row : List Nat) (p : Nat) (t : List Nat) (ht : t ≠ []) : Ue12.put row p t = ((row.take p ++ List.replicate (p - row.length) 0) ++ t) ++ row.drop (p + t.length) := by
  unfold Ue12.put
  have e : (row ++ List.replicate (p - row.length) 0).take p = row.take p ++ List.replicate (p - row.length) 0 := by
    rw [List.take_append, List.take_replicate, Nat.min_self]
  rw [if_neg (by simpa using ht), e, List.append_assoc, List.append_assoc, List.append_assoc]
section
variable {P : Program} {w : World} {K : PySem.W.Frag} {mg : Str → Option Value} {base : Heap}
def sp_head : Sp := spL (fun n : Nat => [isV (nv n)]) (fun _ => True) Ue12.head
theorem ok_head (c_low_and_high : C8.Cal P w K mg base 1 "low_and_high" sp_low []) (d : DefX K mg "head" s_head ["number"]) : C8.Cal P w K mg base 2 "head" sp_head [] := by
  refine cal_mk d sc_head (fun vs H Q E ⟨i, hf, _⟩ => fits_len hf) (fun f cdv A outer s H vs Q E hr ⟨n, hf, _, k⟩ => ?_)
  obtain ⟨v, rfl, rfl⟩ := fits1 hf
  refine ⟨_, (pss_one (ps_ret (pe_op op_cat (C8.pe_c c_low_and_high hr (by decide) (by rfl) (pa_cons (pv 0) pa_nil)) (pe_lst (pa_cons pe_int pa_nil))))), ?_⟩
  exact s_retL (el_catB (w := [n % 256, n / 256]) (elR (el_fn (R := fun n => [n % 256, n / 256]) n trivial (ap_v (ev_var rfl) ap_nil))) (elR (el_1 (en_c (a := 255)))) (by simp)) k
def sp_next_number : Sp := spV (fun n : Nat => [isV (nv n)]) (fun _ => True) fun n => nv (Ue12.more n)
theorem ok_next_number (d : DefX K mg "next_number" s_next_number ["number"]) : C8.Cal P w K mg base 1 "next_number" sp_next_number [] := by
  refine cal_mk d sc_next_number (fun vs H Q E ⟨i, hf, _⟩ => fits_len hf) (fun f cdv A outer s H vs Q E hr ⟨n, hf, _, k⟩ => ?_)
  obtain ⟨v, rfl, rfl⟩ := fits1 hf
  refine ⟨_, (pss_one (ps_ret (pe_op op_mod (pe_op op_add (pv 0) pe_int) pe_int))), ?_⟩
  exact s_ret (en_mod (en_add (ev_var rfl) (en_c (a := 1))) (en_c (a := 65536)) (by decide)) k
theorem start_eq (t : List Nat) (m : Nat) : Ue12.start_ t m = recB (3 :: t) ++ recB [2, m % 256, m / 256] := by
  unfold Ue12.start_
  rw [bytesOf_eq, bytesOf_eq]
  rfl
theorem start_len (t : List Nat) (m : Nat) : (Ue12.start_ t m).length = t.length + 12 := by
  rw [start_eq, List.length_append, recB_len, recB_len]
  simp
def sp_first_records : Sp := spL (fun i : List Nat × Nat => [isB i.1, isV (nv i.2)]) (fun i => i.1.length + 1 ≤ 255) fun i => Ue12.start_ i.1 i.2
theorem ok_first_records (c_whole_record : C8.Cal P w K mg base 2 "whole_record" sp_whole_record []) (c_mark_record : C8.Cal P w K mg base 2 "mark_record" sp_mark_record []) (d : DefX K mg "first_records" s_first_records ["text", "mark"]) : C8.Cal P w K mg base 3 "first_records" sp_first_records [] := by
  refine cal_mk d sc_first_records (fun vs H Q E ⟨i, hf, _⟩ => fits_len hf) (fun f cdv A outer s H vs Q E hr ⟨⟨t, m⟩, hf, hl, k⟩ => ?_)
  obtain ⟨v1, v2, rfl, ⟨a, rfl, ha⟩, rfl⟩ := fits2 hf
  have hl : t.length + 1 ≤ 255 := hl
  have k : RetL (enc (Ue12.start_ t m)) H Q := k
  rw [start_eq] at k
  refine ⟨_, (pss_one (ps_ret (pe_op op_cat (C8.pe_c c_whole_record hr (by decide) (by rfl) (pa_cons (pv 0) pa_nil)) (C8.pe_c c_mark_record hr (by decide) (by rfl) (pa_cons (pv 1) pa_nil))))), ?_⟩
  refine s_retL (el_catB (elR (el_fn (R := fun w => recB (3 :: w)) t hl (ap_b (er_var rfl ha) ap_nil))) (elR (el_fn (R := fun n => recB [2, n % 256, n / 256]) m trivial (ap_v (ev_var rfl) ap_nil))) ?_) k
  rw [recB_len, recB_len]
  simp
  omega
def sp_file_number : Sp := spV (fun r : List Nat => [isB r]) (fun r => 2 ≤ r.length) fun r => nv (r.getD 0 0 + 256 * r.getD 1 0)
theorem ok_file_number (d : DefX K mg "file_number" s_file_number ["row"]) : C8.Cal P w K mg base 1 "file_number" sp_file_number [] := by
  refine cal_mk d sc_file_number (fun vs H Q E ⟨i, hf, _⟩ => fits_len hf) (fun f cdv A outer s H vs Q E hr ⟨r, hf, hl, k⟩ => ?_)
  obtain ⟨v1, rfl, a, rfl, ha⟩ := fits1 hf
  refine ⟨_, (pss_one (ps_ret (pe_op op_add (pe_ix ix_list (pv 0) pe_int (fun _ _ => rfl)) (pe_op op_mul pe_int (pe_ix ix_list (pv 0) pe_int (fun _ _ => rfl)))))), ?_⟩
  exact s_ret (en_add (en_ix (er_var rfl ha) (en_c (a := 0)) (get_getD (by omega))) (en_mul (en_c (a := 256)) (en_ix (er_var rfl ha) (en_c (a := 1)) (get_getD (by omega))) (by decide) (.inl ⟨by decide, by decide⟩))) k
def sp_file_bodies : Sp := spP (fun r : List Nat => [isB r]) (fun r => r.length ≤ 1000) fun r => isLL (bodies (r.drop 3))
theorem ok_file_bodies (G : Glob mg) (c_read_bodies : C8.Cal P w K mg base 3 "read_bodies" sp_read_bodies []) (d : DefX K mg "file_bodies" s_file_bodies ["row"]) : C8.Cal P w K mg base 4 "file_bodies" sp_file_bodies [] := by
  refine cal_mk d sc_file_bodies (fun vs H Q E ⟨i, hf, _⟩ => fits_len hf) (fun f cdv A outer s H vs Q E hr ⟨r, hf, hl, k⟩ => ?_)
  obtain ⟨v1, rfl, a, rfl, ha⟩ := fits1 hf
  refine ⟨_, (pss_one (ps_ret (C8.pe_c c_read_bodies hr (by decide) (by rfl) (pa_cons (pe_slice sl_list (pv 0) (po_some (C8.pe_gc (by rfl) G.c_HEAD_SIZE)) po_none) pa_nil)))), ?_⟩
  exact s_retP (ep_fn (A := fun r : List Nat => [isB r]) (pre := fun r => r.length ≤ 10000) (R := fun r => isLL (bodies r)) (r.drop 3) (by rw [List.length_drop]; omega) (ap_b (elR (el_from (er_var rfl ha) (eo_some (en_c (a := 3))))) ap_nil)) k
def sp_counts : Sp := spV (fun r : List Nat => [isB r]) (fun r => r.length ≤ 1000) fun r => .bl (cnt r)
theorem ok_counts (G : Glob mg) (c_file_bodies : C8.Cal P w K mg base 4 "file_bodies" sp_file_bodies []) (d : DefX K mg "counts" s_counts ["row"]) : C8.Cal P w K mg base 5 "counts" sp_counts [] := by
  refine cal_mk d sc_counts (fun vs H Q E ⟨i, hf, _⟩ => fits_len hf) (fun f cdv A outer s H vs Q E hr ⟨r, hf, hl, k⟩ => ?_)
  obtain ⟨v1, rfl, a, rfl, ha⟩ := fits1 hf
  refine ⟨_, (pss_cons (ps_if (PW.pt (pw_or (pt_cmpR op_lt (pe_callB call_len_seq (by rfl) G.b_len PySem.boot_len (pa_cons (pv 0) pa_nil)) (C8.pe_gc (by rfl) G.c_HEAD_SIZE) (nomark _)) (pw_or1 (pt_cmpR op_ne (pe_ix ix_list (pv 0) pe_int (fun _ _ => rfl)) pe_int (nomark _)))))
      (pss_one (ps_ret pe_bl))
      pss_nil)
    (pss_cons (ps_set (i := 1) sc_counts.nd rfl (.inl rfl) (C8.pe_c c_file_bodies hr (by decide) (by rfl) (pa_cons (pv 0) pa_nil)))
    (pss_cons (ps_if (pt_cmpR op_lt (pe_callB call_len_seq (by rfl) G.b_len PySem.boot_len (pa_cons (pv 1) pa_nil)) pe_int (nomark _))
      (pss_one (ps_ret pe_bl))
      pss_nil)
    (pss_cons (ps_set (i := 2) sc_counts.nd rfl (.inl rfl) (pe_and (pe_cmpR op_eq (pe_ix ix_list (pe_ix ix_list (pv 1) pe_int (fun _ _ => rfl)) pe_int (fun _ _ => rfl)) (C8.pe_gc (by rfl) G.c_WHOLE) (nomark _)) (pe_one (pe_cmpR op_le (pe_op op_sub (pe_callB call_len_seq (by rfl) G.b_len PySem.boot_len (pa_cons (pe_ix ix_list (pv 1) pe_int (fun _ _ => rfl)) pa_nil)) pe_int) (C8.pe_gc (by rfl) G.c_LONGEST_TEXT) (nomark _)))))
    (pss_one (ps_ret (pe_and (pv 2) (pe_one (pe_cmpR op_eq (pe_ix ix_list (pe_ix ix_list (pv 1) pe_int (fun _ _ => rfl)) pe_int (fun _ _ => rfl)) (C8.pe_gc (by rfl) G.c_MARK) (nomark _)))))))))), ?_⟩
  have k : RetV (.bl (cnt r)) H Q := k
  refine q_when (et_or (et_test (eb_lt (en_lenB (er_var rfl ha)) (en_c (a := 3)))) (fun h => et_test (eb_ne (en_ix (er_var rfl ha) (en_c (a := 2)) (get_getD (by have := of_decide_eq_false h; omega))) (en_c (a := 255))))) (fun ht H1 e1 => ?_) (fun ht H1 e1 => ?_)
  · have e : cnt r = false := by
      unfold cnt
      rcases Bool.or_eq_true _ _ ▸ ht with h | h
      · rw [decide_eq_false (by have := of_decide_eq_true h; omega), Bool.false_and]
      · rw [decide_eq_false (show ¬ r.getD 2 0 = 255 by simpa using h), Bool.false_and, Bool.and_false]
    rw [e] at k
    exact s_ret ev_c fun H2 e2 => k.go (e1.trans e2)
  rw [Bool.or_eq_false_iff] at ht
  have c1 : 3 ≤ r.length := by have := of_decide_eq_false ht.1; omega
  have c2 : r.getD 2 0 = 255 := by simpa using ht.2
  have e0 : cnt r = (decide (2 ≤ (bodies (r.drop 3)).length) && ((decide (((bodies (r.drop 3)).getD 0 []).getD 0 0 = 3) && decide (((bodies (r.drop 3)).getD 0 []).length - 1 ≤ 200)) && decide (((bodies (r.drop 3)).getD 1 []).getD 0 0 = 2))) := by
    unfold cnt
    rw [decide_eq_true c1, decide_eq_true c2, Bool.true_and, Bool.true_and]
  rw [e0] at k
  refine q_asgP (ep_fn (A := fun r : List Nat => [isB r]) (pre := fun r => r.length ≤ 1000) (R := fun r => isLL (bodies (r.drop 3))) r hl (ap_b (er_var rfl (e1 _ _ ha)) ap_nil)) (fun v H2 e2 h2 => ?_)
  obtain ⟨p, as, rfl, hp, hrs⟩ := h2
  have x2 := e1.trans e2
  refine q_when (et_test (eb_lt (en_len (er_var rfl hp)) (en_c (a := 2)))) (fun ht H3 e3 => ?_) (fun ht H3 e3 => ?_)
  · have c3 := of_decide_eq_true ht
    rw [List.length_map, rows_len hrs] at c3
    rw [decide_eq_false (by omega), Bool.false_and] at k
    exact s_ret ev_c fun H4 e4 => k.go ((x2.trans e3).trans e4)
  have c3 := of_decide_eq_false ht
  rw [List.length_map, rows_len hrs] at c3
  have hkn := bodies_known (r.drop 3)
  have x3 := x2.trans e3
  match hb : bodies (r.drop 3), as, hrs, c3 with
  | b0 :: b1 :: bs, a0 :: a1 :: as, ⟨h0, h1, _⟩, _ =>
    rw [hb] at k hkn
    have p0 : 0 < b0.length := by
      have := hkn b0 (List.mem_cons_self ..)
      cases b0 with
      | nil => cases this
      | cons x r => simp
    have p1 : 0 < b1.length := by
      have := hkn b1 (List.mem_cons_of_mem _ (List.mem_cons_self ..))
      cases b1 with
      | nil => cases this
      | cons x r => simp
    have k : RetV (.bl (true && ((decide (b0.getD 0 0 = 3) && decide (b0.length - 1 ≤ 200)) && decide (b1.getD 0 0 = 2)))) H Q := by
      rw [decide_eq_true (by simp)] at k
      exact k
    rw [Bool.true_and] at k
    refine q_asg (ev_andV (eb_eq (en_ix (evR (ev_ixR (er_var rfl (e3 _ _ hp)) (en_c (a := 0)) rfl) (e3 _ _ h0)) (en_c (a := 0)) (get_getD p0)) (en_c (a := 3)))
      (fun _ => eb_le (en_sub (en_lenB (evR (ev_ixR (er_var rfl (e3 _ _ hp)) (en_c (a := 0)) rfl) (e3 _ _ h0))) (en_c (a := 1)) (by omega)) (en_c (a := 200)))) (fun H4 e4 => ?_)
    exact s_ret (ev_andV (ev_var rfl) (fun _ => eb_eq (en_ix (evR (ev_ixR (er_var rfl (e4 _ _ (e3 _ _ hp))) (en_c (a := 1)) rfl) (e4 _ _ (e3 _ _ h1))) (en_c (a := 0)) (get_getD p1)) (en_c (a := 2)))) fun H5 e5 => k.go ((x3.trans e4).trans e5)
  | [], _, _, c3 => simp at c3
  | [_], _, _, c3 => simp at c3
/-- with_bytes: the row itself if nothing comes, else a new one -/
def sp_with_bytes : Sp := fun vs H Q _ => ∃ (a c : Addr) (row : List Nat) (p : Nat) (t : List Nat), vs = [.ref a, nv p, .ref c] ∧ H a = some (.lst (enc row)) ∧ H c = some (.lst (enc t)) ∧ row.length ≤ 1000 ∧ p ≤ 1000 ∧ t.length ≤ 1000 ∧
  ∀ q H2, Ex H H2 → H2 q = some (.lst (enc (Ue12.put row p t))) → (q = a ∨ H q = none) → Q (.ref q) H2
theorem ok_with_bytes (G : Glob mg) (d : DefX K mg "with_bytes" s_with_bytes ["row", "place", "coming"]) : C8.Cal P w K mg base 1 "with_bytes" sp_with_bytes [] := by
  refine cal_mk d sc_with_bytes (fun vs H Q E ⟨_, _, _, _, _, h, _⟩ => by rw [h]; rfl) (fun f cdv A outer s H vs Q E hr ⟨a, c, row, p, t, hv, ha, hc, l1, l2, l3, k⟩ => ?_)
  subst hv
  refine ⟨_, (pss_cons (ps_if (pt_cmpR op_eq (pe_callB call_len_seq (by rfl) G.b_len PySem.boot_len (pa_cons (pv 2) pa_nil)) pe_int (nomark _))
      (pss_one (ps_ret (pv 0)))
      pss_nil)
    (pss_cons (ps_set (i := 3) sc_with_bytes.nd rfl (.inl rfl) (pe_op op_rep (pe_lst (pa_cons pe_int pa_nil)) (pe_callB (call_max2 rfl) (by rfl) G.b_max (by decide +kernel) (pa_cons pe_int (pa_cons (pe_op op_sub (pv 1) (pe_callB call_len_seq (by rfl) G.b_len PySem.boot_len (pa_cons (pv 0) pa_nil))) pa_nil)))))
    (pss_one (ps_ret (pe_op op_cat (pe_op op_cat (pe_op op_cat (pe_slice sl_list (pv 0) po_none (po_some (pv 1))) (pv 3)) (pv 2)) (pe_slice sl_list (pv 0) (po_some (pe_op op_add (pv 1) (pe_callB call_len_seq (by rfl) G.b_len PySem.boot_len (pa_cons (pv 2) pa_nil)))) po_none)))))), ?_⟩
  refine q_when (et_test (eb_eq (en_lenB (er_var rfl hc)) (en_c (a := 0)))) (fun ht H1 e1 => ?_) (fun ht H1 e1 => ?_)
  · have e : t = [] := List.length_eq_zero_iff.mp (of_decide_eq_true ht)
    subst e
    exact s_ret (ev_var rfl) fun H2 e2 => k a H2 (e1.trans e2) (e2 _ _ (e1 _ _ ha)) (.inl rfl)
  · have ne : t ≠ [] := fun q => of_decide_eq_false ht (by rw [q]; rfl)
    refine q_asgL (el_rep (elR (el_1 (en_c (a := 0)))) (en_max0 (ei_sub (ev_var rfl) (en_lenB (er_var rfl (e1 _ _ ha))))) (by show 1 * _ ≤ _; omega) (by omega)) (fun g H2 hg e2 h2 => ?_)
    rw [flat0] at h2
    have x2 := e1.trans e2
    rw [put_eq row p t ne] at k
    refine s_retL (el_catB (elR (el_catB (elR (el_catB (elR (el_to (er_var rfl (x2 _ _ ha)) (eo_some (ev_var rfl)))) (er_var rfl h2) ?_)) (er_var rfl (x2 _ _ hc)) ?_)) (elR (el_from (er_var rfl (x2 _ _ ha)) (eo_some (en_add (ev_var rfl) (en_lenB (er_var rfl (x2 _ _ hc))))))) ?_) (fun q H3 hq e3 h3 => k q H3 (x2.trans e3) h3 (.inr (fresh_back x2 hq)))
    · simp; omega
    · simp; omega
    · simp; omega
end
end Pk

set_option Elab.async false
set_option linter.all false
set_option maxRecDepth 100000
set_option maxHeartbeats 2000000
namespace Pk
open PySem PySem.Spec PyProof.Rows L2 Evl
def F_Write (v0 v1 v2 : V) : List (Str × V) := [("file", v0), ("place", v1), ("coming", v2)]
theorem F_Write_file {v0 v1 v2 : V} : (F_Write v0 v1 v2).lookup ("file" : Str) = some v0 := lk_here
theorem P_Write_file {v0 v1 v2 x : V} : putF "file" x (F_Write v0 v1 v2) = F_Write x v1 v2 := put_here
theorem F_Write_place {v0 v1 v2 : V} : (F_Write v0 v1 v2).lookup ("place" : Str) = some v1 := (lk_past (by decide +kernel)).trans (lk_here)
theorem P_Write_place {v0 v1 v2 x : V} : putF "place" x (F_Write v0 v1 v2) = F_Write v0 x v2 := (put_past (by decide +kernel)).trans (congrArg _ (put_here))
theorem F_Write_coming {v0 v1 v2 : V} : (F_Write v0 v1 v2).lookup ("coming" : Str) = some v2 := (lk_past (by decide +kernel)).trans ((lk_past (by decide +kernel)).trans (lk_here))
theorem P_Write_coming {v0 v1 v2 x : V} : putF "coming" x (F_Write v0 v1 v2) = F_Write v0 v1 x := (put_past (by decide +kernel)).trans (congrArg _ ((put_past (by decide +kernel)).trans (congrArg _ (put_here))))

def F_Disk (v0 v1 : V) : List (Str × V) := [("files", v0), ("writes", v1)]
theorem F_Disk_files {v0 v1 : V} : (F_Disk v0 v1).lookup ("files" : Str) = some v0 := lk_here
theorem P_Disk_files {v0 v1 x : V} : putF "files" x (F_Disk v0 v1) = F_Disk x v1 := put_here
theorem F_Disk_writes {v0 v1 : V} : (F_Disk v0 v1).lookup ("writes" : Str) = some v1 := (lk_past (by decide +kernel)).trans (lk_here)
theorem P_Disk_writes {v0 v1 x : V} : putF "writes" x (F_Disk v0 v1) = F_Disk v0 x := (put_past (by decide +kernel)).trans (congrArg _ (put_here))
theorem N_Disk_send {v0 v1 : V} : (F_Disk v0 v1).lookup ("send" : Str) = none := (lk_past (by decide +kernel)).trans ((lk_past (by decide +kernel)).trans (rfl))
theorem N_Disk_put {v0 v1 : V} : (F_Disk v0 v1).lookup ("put" : Str) = none := (lk_past (by decide +kernel)).trans ((lk_past (by decide +kernel)).trans (rfl))
theorem N_Disk_arrive {v0 v1 : V} : (F_Disk v0 v1).lookup ("arrive" : Str) = none := (lk_past (by decide +kernel)).trans ((lk_past (by decide +kernel)).trans (rfl))
theorem N_Disk_arrive_all {v0 v1 : V} : (F_Disk v0 v1).lookup ("arrive_all" : Str) = none := (lk_past (by decide +kernel)).trans ((lk_past (by decide +kernel)).trans (rfl))
theorem N_Disk_arrive_some {v0 v1 : V} : (F_Disk v0 v1).lookup ("arrive_some" : Str) = none := (lk_past (by decide +kernel)).trans ((lk_past (by decide +kernel)).trans (rfl))
theorem N_Disk_found_file {v0 v1 : V} : (F_Disk v0 v1).lookup ("found_file" : Str) = none := (lk_past (by decide +kernel)).trans ((lk_past (by decide +kernel)).trans (rfl))

/-! ### frames: all but these stays -/
def Fr (S : List Addr) (H H' : Hp) : Prop := ∀ b o, H b = some o → b ∉ S → H' b = some o
theorem Fr.refl (S : List Addr) (H : Hp) : Fr S H H := fun _ _ h _ => h
theorem Fr.ex {S : List Addr} {H H' : Hp} (e : Ex H H') : Fr S H H' := fun b o h _ => e b o h
theorem Fr.trans {S : List Addr} {H H1 H2 : Hp} (a : Fr S H H1) (b : Fr S H1 H2) : Fr S H H2 := fun c o h n => b c o (a c o h n) n
theorem Fr.mono {S S' : List Addr} {H H' : Hp} (a : Fr S H H') (h : ∀ x ∈ S, x ∈ S') : Fr S' H H' := fun c o q n => a c o q fun m => n (h c m)
theorem Fr.upd {S : List Addr} {H H' : Hp} {a : Addr} {o : HO} (f : Fr S H H') (h : a ∈ S) : Fr S H (upd H' a o) := fun b u q n => by
  rw [upd_ne fun z => n (by rw [z]; exact h)]
  exact f b u q n
/-! ### more words -/
section
variable {K : PySem.W.Frag} {σ : L2.St} {H : Hp} {ta tb te : TE} {v : V} {D : Ends} {tz : TS} {a C dx : Addr} {fs : List (Str × V)} {m : Str} {xs : List V} {t : TA} {sp : Sp} {E : XK} {Q : VK} {ps : List (V → Hp → Prop)}
theorem r_meth (ho : Ev ta σ H (.ref a)) (hi : H a = some (.ins C dx fs)) (hm : fs.lookup m = none) (h : Ap t σ H (Fits ps)) (k : ∀ vs H1, Ex H H1 → Fits ps vs H1 → sp (.ref a :: vs) H1 Q E) : tMeth C m sp [] E ta t σ H Q :=
  ho H (Ex.refl H) _ fun H1 e1 => ⟨a, dx, fs, rfl, e1 _ _ hi, hm, h H1 e1 _ fun vs H2 e2 hv => by
    rw [List.append_nil]
    exact k vs H2 (e1.trans e2) hv⟩
theorem s_appN {l : Addr} {R : Addr → Hp → Prop} (hl : H l = some (.lst xs)) (ha : Ev ta σ H (.ref l)) (h : EvN te σ H R) (hz : xs.length < 100000) (k : ∀ p H1, H p = none → Ex H H1 → R p H1 → D.nx σ (upd H1 l (.lst (xs ++ [.ref p])))) :
    tDrop (tBM K "list" rAppend ta (tCons te tNil)) D σ H := ha H (Ex.refl H) _ fun H1 e1 =>
  ⟨Or.inl ⟨rfl, xs, sq_of (e1 l _ hl)⟩, h H1 e1 _ fun p H2 hp e2 h2 => ⟨l, xs, .ref p, rfl, rfl, e2 l _ (e1 l _ hl), sz_lt hz, k p H2 (fresh_back e1 hp) (e1.trans e2) h2⟩⟩
theorem s_setQ {l : Addr} {j : Nat} {R : V → Hp → Prop} (hl : H l = some (.lst xs)) (h : ∀ Q : VK, (∀ v H2, Ex H H2 → R v H2 → Q v H2) → te σ H Q) (ho : Ev ta σ H (.ref l)) (hi : Ev tb σ H (.int (j : Int))) (hj : j < xs.length)
    (k : ∀ v H2 H3, Ex H H2 → R v H2 → Ex H2 H3 → D.nx σ (upd H3 l (.lst (xs.set j v)))) : tAsg te (gSub ta tb rSetL) D σ H :=
  h _ fun v H1 e1 hr => ho H1 e1 _ fun H2 e2 => hi H2 (e1.trans e2) _ fun H3 e3 => ⟨l, xs, (j : Int), j, rfl, rfl, ((e1.trans e2).trans e3) l _ hl, ixN_nat hj, k v H1 H3 e1 hr (e2.trans e3)⟩
end
/-! ### the disk as it lies in the heap -/
structure TW (K : PySem.W.Frag) (C : Addr) : Prop where
  cl : Cls K C
  n_file : NoAttr K C "file"
  n_place : NoAttr K C "place"
  n_coming : NoAttr K C "coming"
structure TD (K : PySem.W.Frag) (C : Addr) : Prop where
  cl : Cls K C
  n_files : NoAttr K C "files"
  n_writes : NoAttr K C "writes"
def WAt (CW : Addr) (N : List Addr) (x : Ue12.Write) (p : Addr) (H : Hp) : Prop := ∃ dw c, H p = some (.ins CW dw (F_Write (nv x.1.toNat) (nv x.2.1) (.ref c))) ∧ H c = some (.lst (enc x.2.2)) ∧ c ∉ N
def Ws (CW : Addr) (N : List Addr) : List Addr → List Ue12.Write → Hp → Prop
  | [], [], _ => True
  | p :: ws, x :: xs, H => WAt CW N x p H ∧ Ws CW N ws xs H
  | _, _, _ => False
theorem ws_mono {CW : Addr} {N N' : List Addr} {H H' : Hp} (f : ∀ b o, H b = some o → (∃ dx x y z, o = .ins CW dx (F_Write x y z)) ∨ b ∉ N → H' b = some o) (hn : ∀ c, H c ≠ none → c ∉ N → c ∉ N') : ∀ {ws : List Addr} {xs : List Ue12.Write}, Ws CW N ws xs H → Ws CW N' ws xs H'
  | [], [], _ => trivial
  | p :: ws, x :: xs, h => by
    obtain ⟨⟨dw, c, h1, h2, h3⟩, h4⟩ := h
    exact ⟨⟨dw, c, f _ _ h1 (.inl ⟨_, _, _, _, rfl⟩), f _ _ h2 (.inr h3), hn c (by rw [h2]; simp) h3⟩, ws_mono f hn h4⟩
  | [], _ :: _, h => h.elim
  | _ :: _, [], h => h.elim
theorem ws_len {CW : Addr} {N : List Addr} {H : Hp} : ∀ {ws : List Addr} {xs : List Ue12.Write}, Ws CW N ws xs H → ws.length = xs.length
  | [], [], _ => rfl
  | _ :: _, _ :: _, h => congrArg (· + 1) (ws_len h.2)
  | [], _ :: _, h => h.elim
  | _ :: _, [], h => h.elim
theorem ws_get {CW : Addr} {N : List Addr} {H : Hp} : ∀ {ws : List Addr} {xs : List Ue12.Write} {i : Nat} {p : Addr}, Ws CW N ws xs H → ws[i]? = some p → ∃ x, xs[i]? = some x ∧ WAt CW N x p H
  | q :: _, x :: _, 0, p, h, e => by
    have e : q = p := Option.some.inj e
    subst e
    exact ⟨x, rfl, h.1⟩
  | _ :: ws, _ :: xs, i + 1, p, h, e => ws_get (ws := ws) (xs := xs) (i := i) h.2 e
  | [], [], i, p, _, e => by simp at e
  | [], _ :: _, _, _, h, _ => h.elim
  | _ :: _, [], _, _, h, _ => h.elim
theorem ws_snoc {CW : Addr} {N : List Addr} {H : Hp} {p : Addr} {x : Ue12.Write} (q : WAt CW N x p H) : ∀ {ws : List Addr} {xs : List Ue12.Write}, Ws CW N ws xs H → Ws CW N (ws ++ [p]) (xs ++ [x]) H
  | [], [], _ => ⟨q, trivial⟩
  | _ :: _, _ :: _, h => ⟨h.1, ws_snoc q h.2⟩
  | [], _ :: _, h => h.elim
  | _ :: _, [], h => h.elim
/-- the disk at d: its files' list at fl, the writes' list at wl, the writes at ws -/
structure DkAt (X : List Addr) (CD CW d fl wl : Addr) (ws : List Addr) (F : Ue12.Files) (H : Hp) : Prop where
  obj : ∃ dd, H d = some (.ins CD dd (F_Disk (.ref fl) (.ref wl)))
  files : ∃ a0 a1, H fl = some (.lst [.ref a0, .ref a1]) ∧ H a0 = some (.lst (enc F.a)) ∧ H a1 = some (.lst (enc F.b)) ∧ a0 ∉ fl :: wl :: X ∧ a1 ∉ fl :: wl :: X
  wlist : H wl = some (.lst (ws.map V.ref))
  wrs : Ws CW (fl :: wl :: X) ws F.cache H
  ne : fl ≠ wl
  xs : ∀ x ∈ X, H x ≠ none
theorem not_mem2 {a b c : Addr} {X : List Addr} (h1 : a ≠ b) (h2 : a ≠ c) (h3 : a ∉ X) : a ∉ b :: c :: X := by simp [h1, h2, h3]
theorem nm1 {a b c : Addr} {X : List Addr} (h : a ∉ b :: c :: X) : a ≠ b := fun e => h (by simp [e])
theorem nm2 {a b c : Addr} {X : List Addr} (h : a ∉ b :: c :: X) : a ≠ c := fun e => h (by simp [e])
theorem nm3 {a b c : Addr} {X : List Addr} (h : a ∉ b :: c :: X) : a ∉ X := fun e => h (by simp [e])
theorem live_ex {X : List Addr} {H H' : Hp} (e : Ex H H') (h : ∀ x ∈ X, H x ≠ none) : ∀ x ∈ X, H' x ≠ none := fun x hx z => by
  cases q : H x with
  | none => exact h x hx q
  | some o => rw [e _ _ q] at z; cases z
theorem live_upd {X : List Addr} {H : Hp} {a : Addr} {o : HO} (h : ∀ x ∈ X, H x ≠ none) : ∀ x ∈ X, upd H a o x ≠ none := fun x hx z => by
  by_cases q : x = a
  · rw [q, upd_same] at z; cases z
  · rw [upd_ne q] at z; exact h x hx z
theorem not_live {X : List Addr} {H : Hp} {a : Addr} (h : ∀ x ∈ X, H x ≠ none) (ha : H a = none) : a ∉ X := fun z => h a z ha
theorem DkAt.grow {X : List Addr} {CD CW d fl wl : Addr} {ws : List Addr} {F : Ue12.Files} {H H' : Hp} (h : DkAt X CD CW d fl wl ws F H) (e : Ex H H') : DkAt X CD CW d fl wl ws F H' := by
  obtain ⟨⟨dd, h1⟩, ⟨a0, a1, h2, h3, h4, h5, h6⟩, h7, h8, h9, h10⟩ := h
  exact ⟨⟨dd, e _ _ h1⟩, ⟨a0, a1, e _ _ h2, e _ _ h3, e _ _ h4, h5, h6⟩, e _ _ h7, ws_mono (fun b o q _ => e b o q) (fun c _ q => q) h8, h9, live_ex e h10⟩
/-- something else changes: neither the disk's own objects nor a row -/
theorem DkAt.frame {X : List Addr} {CD CW d fl wl : Addr} {ws : List Addr} {F : Ue12.Files} {H H' : Hp} (h : DkAt X CD CW d fl wl ws F H) (e : ∀ b o, H b = some o → (∀ C dx fs, o = .ins C dx fs → C = CD ∧ (∃ x y, fs = F_Disk x y) ∨ C = CW ∧ (∃ x y z, fs = F_Write x y z)) → H' b = some o) (hx : ∀ x ∈ X, H' x ≠ none) : DkAt X CD CW d fl wl ws F H' := by
  obtain ⟨⟨dd, h1⟩, ⟨a0, a1, h2, h3, h4, h5, h6⟩, h7, h8, h9, h10⟩ := h
  have el : ∀ b xs, H b = some (.lst xs) → H' b = some (.lst xs) := fun b xs q => e b _ q fun _ _ _ z => by cases z
  refine ⟨⟨dd, e _ _ h1 fun C dx fs z => .inl ?_⟩, ⟨a0, a1, el _ _ h2, el _ _ h3, el _ _ h4, h5, h6⟩, el _ _ h7, ?_, h9, hx⟩
  · injection z with z1 z2 z3
    exact ⟨z1.symm, _, _, z3.symm⟩
  · clear h7
    revert h8
    generalize F.cache = xs
    intro h8
    induction ws generalizing xs with
    | nil =>
      cases xs with
      | nil => trivial
      | cons _ _ => exact h8.elim
    | cons p ws ih =>
      cases xs with
      | nil => exact h8.elim
      | cons x xs =>
        obtain ⟨⟨dw, c, q1, q2, q3⟩, q4⟩ := h8
        refine ⟨⟨dw, c, e _ _ q1 fun C dx fs z => .inr ?_, el _ _ q2, q3⟩, ih xs q4⟩
        injection z with z1 z2 z3
        exact ⟨z1.symm, _, _, _, z3.symm⟩
def setF (F : Ue12.Files) (b : Bool) (t : List Nat) : Ue12.Files := if b = true then { F with b := t } else { F with a := t }
theorem setF_cache (F : Ue12.Files) (b : Bool) (t : List Nat) : (setF F b t).cache = F.cache := by cases b <;> rfl
theorem written_setF (F : Ue12.Files) (x : Ue12.Write) : Ue12.written F x = setF F x.1 (Ue12.put (Ue12.fileOf F x.1) x.2.1 x.2.2) := by
  obtain ⟨b, p, t⟩ := x
  cases b <;> rfl
theorem wiped_setF (F : Ue12.Files) (b : Bool) : Ue12.wiped F b = setF F b [] := by cases b <;> rfl
theorem written_cache (F : Ue12.Files) (x : Ue12.Write) : (Ue12.written F x).cache = F.cache := by rw [written_setF, setF_cache]
theorem fold_cache : ∀ (l : List Ue12.Write) (F : Ue12.Files), (l.foldl Ue12.written F).cache = F.cache
  | [], _ => rfl
  | x :: l, F => by rw [List.foldl_cons, fold_cache l, written_cache]
/-- a file's row is put in -/
theorem DkAt.set {X : List Addr} {CD CW d fl wl : Addr} {ws : List Addr} {F : Ue12.Files} {H : Hp} {b : Bool} {q : Addr} {t : List Nat} {xs : List V} (h : DkAt X CD CW d fl wl ws F H) (hxs : H fl = some (.lst xs)) (hq : H q = some (.lst (enc t))) (hn : q ∉ fl :: wl :: X) : DkAt X CD CW d fl wl ws (setF F b t) (upd H fl (.lst (xs.set b.toNat (.ref q)))) := by
  obtain ⟨⟨dd, h1⟩, ⟨a0, a1, h2, h3, h4, h5, h6⟩, h7, h8, h9, h10⟩ := h
  rw [h2] at hxs
  injection hxs with hxs
  injection hxs with hxs
  subst hxs
  have ndf : d ≠ fl := ne_of h1 h2 (by intro z; cases z)
  refine ⟨⟨dd, by rw [upd_ne ndf]; exact h1⟩, ?_, by rw [upd_ne (Ne.symm h9)]; exact h7, ?_, h9, live_upd h10⟩
  · cases b with
    | true => exact ⟨a0, q, upd_same, by rw [upd_ne (nm1 h5)]; exact h3, by rw [upd_ne (nm1 hn)]; exact hq, h5, hn⟩
    | false => exact ⟨q, a1, upd_same, by rw [upd_ne (nm1 hn)]; exact hq, by rw [upd_ne (nm1 h6)]; exact h4, hn, h6⟩
  · rw [setF_cache]
    refine ws_mono (fun c o e r => ?_) (fun c _ r => r) h8
    rw [upd_ne]
    · exact e
    · rcases r with ⟨_, _, _, _, rfl⟩ | r
      · exact ne_of e h2 (by intro z; cases z)
      · exact nm1 r
end Pk

set_option Elab.async false
set_option linter.all false
set_option maxRecDepth 100000
set_option maxHeartbeats 2000000
namespace Pk
open PySem PySem.Spec PyProof.Rows L2 Evl
/-- bounds of what lies on the disk and is on its way -/
structure GoodD (F : Ue12.Files) : Prop where
  a : F.a.length ≤ 600
  b : F.b.length ≤ 600
  c : ∀ x ∈ F.cache, x.2.1 + x.2.2.length ≤ 600
theorem put_len (w : List Nat) (p : Nat) (t : List Nat) : (Ue12.put w p t).length ≤ max w.length (p + t.length) := by
  by_cases h : t = []
  · subst h
    show w.length ≤ _
    omega
  · rw [put_eq w p t h]
    simp
    omega
theorem GoodD.written {F : Ue12.Files} (g : GoodD F) {x : Ue12.Write} (hx : x.2.1 + x.2.2.length ≤ 600) : GoodD (Ue12.written F x) := by
  obtain ⟨b, p, t⟩ := x
  have e := put_len (Ue12.fileOf F b) p t
  dsimp only at hx
  cases b with
  | true => exact ⟨g.a, by have := g.b; show (Ue12.put F.b p t).length ≤ 600; have e : (Ue12.put F.b p t).length ≤ max F.b.length (p + t.length) := e; omega, g.c⟩
  | false => exact ⟨by have := g.a; show (Ue12.put F.a p t).length ≤ 600; have e : (Ue12.put F.a p t).length ≤ max F.a.length (p + t.length) := e; omega, g.b, g.c⟩
theorem GoodD.fold : ∀ (l : List Ue12.Write) {F : Ue12.Files}, GoodD F → (∀ x ∈ l, x.2.1 + x.2.2.length ≤ 600) → GoodD (l.foldl Ue12.written F)
  | [], _, g, _ => g
  | x :: l, _, g, h => GoodD.fold l (g.written (h x (List.mem_cons_self ..))) fun y hy => h y (List.mem_cons_of_mem _ hy)
theorem GoodD.seen {F : Ue12.Files} (g : GoodD F) : GoodD (Ue12.seen F) := by
  have := GoodD.fold F.cache g g.c
  exact ⟨this.a, this.b, fun x hx => (List.not_mem_nil hx).elim⟩
theorem take_snoc {α : Type} {l : List α} {i : Nat} {x : α} (h : l[i]? = some x) : l.take (i + 1) = l.take i ++ [x] := by
  rw [List.take_add_one, h]
  rfl
section
variable {P : Program} {w : World} {K : PySem.W.Frag} {mg : Str → Option Value} {base : Heap} {X : List Addr} {CD CW : Addr}
def sp_Write (C : Addr) : Sp := spI C (fun i : Nat × Nat × Addr => [isV (nv i.1), isV (nv i.2.1), isV (.ref i.2.2)]) (fun _ => True) fun i p H => ∃ dw, H p = some (.ins C dw (F_Write (nv i.1) (nv i.2.1) (.ref i.2.2)))
theorem ok_Write {C : Addr} (T : TW K C) (d : MakX K mg "Write" C "Write.__init__" s_Write___init__ ["self", "file", "place", "coming"]) : C8.Mak P w K mg base 1 "Write" C (sp_Write C) [] := by
  refine mak_mk d sc_Write___init__ (fun vs H Q E ⟨i, p, dx, args, hv, hf, _⟩ => by rw [hv, List.length_cons, fits_len hf]; rfl) (fun f cdv A outer s H vs Q E hr ⟨⟨b, pl, c⟩, p, dx, args, hv, hf, _, hp, k⟩ => ?_)
  obtain ⟨v1, v2, v3, rfl, rfl, rfl, rfl⟩ := fits3 hf
  subst hv
  refine ⟨_, (pss_cons (ps_fld (pv 0) (pv 1) rfl)
    (pss_cons (ps_fld (pv 0) (pv 2) rfl)
    (pss_one (ps_fld (pv 0) (pv 3) rfl)))), ?_⟩
  refine q_fldV (ev_var rfl) (ev_var rfl) hp T.cl T.n_file (by show 0 < 1000; decide) (fun H1 e1 => ?_)
  refine q_fldV (ev_var rfl) (ev_var rfl) upd_same T.cl T.n_place (by show 1 < 1000; decide) (fun H2 e2 => ?_)
  refine s_fldV (ev_var rfl) (ev_var rfl) upd_same T.cl T.n_coming (by show 2 < 1000; decide) (fun H3 e3 => ?_)
  refine k _ (fun b o hb nb => ?_) ⟨dx, ?_⟩
  · rw [upd_ne nb]
    refine e3 _ _ ?_
    rw [upd_ne nb]
    refine e2 _ _ ?_
    rw [upd_ne nb]
    exact e1 _ _ hb
  · rw [upd_same]
    refine congrArg (fun z => some (HO.ins C dx z)) ?_
    exact (put_past (by decide +kernel)).trans (congrArg _ ((put_past (by decide +kernel)).trans rfl))
theorem lt2 (b : Bool) : b.toNat < 2 := by cases b <;> decide
theorem en_00 {σ : L2.St} {H : Hp} : EvN (tLst (tCons (tLst tNil) (tCons (tLst tNil) tNil))) σ H (fun fl H2 => ∃ a0 a1, H2 fl = some (.lst [.ref a0, .ref a1]) ∧ H2 a0 = some (.lst (enc [])) ∧ H2 a1 = some (.lst (enc [])) ∧ a0 ≠ fl ∧ a1 ≠ fl ∧ H a0 = none ∧ H a1 = none) := fun H1 e Q q => by
  show tLst tNil σ H1 (fun x H2 => tLst tNil σ H2 (fun y H3 => ([x, y] : List V).length ≤ sizeLine ∧ ∀ p, H3 p = none → Q (.ref p) (upd H3 p (.lst [x, y]))))
  refine el_0 H1 (Ex.refl H1) _ fun a0 H2 n0 e2 h0 => ?_
  refine el_0 H2 (Ex.refl H2) _ fun a1 H3 n1 e3 h1 => ?_
  refine ⟨(by show 2 ≤ sizeLine; decide), fun fl nf => q fl _ (fresh_back (e2.trans e3) nf) ((e2.trans e3).trans (Ex.new nf)) ⟨a0, a1, upd_same, ?_, ?_, ne_of_none (e3 _ _ h0) nf, ne_of_none h1 nf, fresh_back e n0, fresh_back (e.trans e2) n1⟩⟩
  · rw [upd_ne (ne_of_none (e3 _ _ h0) nf)]; exact e3 _ _ h0
  · rw [upd_ne (ne_of_none h1 nf)]; exact h1
theorem q_fldN {K : PySem.W.Frag} {σ : L2.St} {H : Hp} {ta te : TE} {D : Ends} {tz : TS} {a C dx : Addr} {fs : List (Str × V)} {f : Str} {R : Addr → Hp → Prop} (hv : EvN te σ H R) (ha : Ev ta σ H (.ref a)) (ho : H a = some (.ins C dx fs)) (hc : Cls K C) (hn : NoAttr K C f) (hl : fs.length < 1000)
    (k : ∀ p H1 H2, H p = none → Ex H H1 → R p H1 → Ex H1 H2 → tz D σ (upd H2 a (.ins C dx (putF f (.ref p) fs)))) : tSeq (sFld K ta te f) tz D σ H :=
  hv H (Ex.refl H) _ fun p H1 hp e1 h1 => ha H1 e1 _ fun H2 e2 => ⟨a, C, dx, fs, rfl, e2 _ _ (e1 _ _ ho), hc, hn, hl, k p H1 H2 hp e1 h1 e2⟩
/-- Disk(): two files without bytes -/
def sp_Disk (CD CW : Addr) : Sp := spI2 CD fun H0 p H => ∃ fl wl, DkAt [] CD CW p fl wl [] ⟨[], [], []⟩ H ∧ H0 fl = none ∧ H0 wl = none
theorem ok_Disk (T : TD K CD) (d : MakX K mg "Disk" CD "Disk.__init__" s_Disk___init__ ["self"]) : C8.Mak P w K mg base 1 "Disk" CD (sp_Disk CD CW) [] := by
  refine mak_mk d sc_Disk___init__ (fun vs H Q E ⟨_, _, h, _⟩ => by rw [h]; rfl) (fun f cdv A outer s H vs Q E hr ⟨p, dx, hv, hp, k⟩ => ?_)
  subst hv
  refine ⟨_, (pss_cons (ps_fld (pv 0) (pe_lst (pa_cons (pe_lst pa_nil) (pa_cons (pe_lst pa_nil) pa_nil))) rfl)
    (pss_one (ps_fld (pv 0) (pe_lst pa_nil) rfl))), ?_⟩
  -- self.files = [[], []]
  refine q_fldN en_00 (ev_var rfl) hp T.cl T.n_files (by show 0 < 1000; decide) (fun fl H1 H2 nf e1 ⟨a0, a1, hf, h0, h1, n0f, n1f, n0, n1⟩ e2 => ?_)
  have np0 : a0 ≠ p := fun q => by rw [q, hp] at n0; cases n0
  have np1 : a1 ≠ p := fun q => by rw [q, hp] at n1; cases n1
  have npf : fl ≠ p := fun q => by rw [q, hp] at nf; cases nf
  -- self.writes = []
  refine s_fldL el_0 (ev_var rfl) upd_same T.cl T.n_writes (by show 1 < 1000; decide) (fun wl H4 nw e4 h4 => ?_)
  have g0 := (upd_ne (H := H2) (o := .ins CD dx (putF "files" (.ref fl) [])) np0).trans (e2 _ _ h0)
  have g1 := (upd_ne (H := H2) (o := .ins CD dx (putF "files" (.ref fl) [])) np1).trans (e2 _ _ h1)
  have gf := (upd_ne (H := H2) (o := .ins CD dx (putF "files" (.ref fl) [])) npf).trans (e2 _ _ hf)
  have npw : wl ≠ p := fun q => by rw [q, upd_same] at nw; cases nw
  have nw0 : H wl = none := by
    cases q : H wl with
    | none => rfl
    | some o =>
      rw [upd_ne npw, e2 _ _ (e1 _ _ q)] at nw
      cases nw
  refine k _ (fun b o hb nb => ?_) ⟨fl, wl, ⟨⟨dx, ?_⟩, ⟨a0, a1, ?_, ?_, ?_, not_mem2 n0f (ne_of_none g0 nw) (by simp), not_mem2 n1f (ne_of_none g1 nw) (by simp)⟩, ?_, trivial, ne_of_none gf nw, fun x hx => (List.not_mem_nil hx).elim⟩, nf, nw0⟩
  · rw [upd_ne nb]
    refine e4 _ _ ?_
    rw [upd_ne nb]
    exact e2 _ _ (e1 _ _ hb)
  · rw [upd_same]
    refine congrArg (fun z => some (HO.ins CD dx z)) ?_
    exact (put_past (by decide +kernel)).trans rfl
  · rw [upd_ne npf]; exact e4 _ _ gf
  · rw [upd_ne np0]; exact e4 _ _ g0
  · rw [upd_ne np1]; exact e4 _ _ g1
  · rw [upd_ne npw]; exact h4
/-- send: one write more on its way -/
def sp_send (X : List Addr) (CD CW : Addr) : Sp := fun vs H Q _ => ∃ (d fl wl : Addr) (ws : List Addr) (F : Ue12.Files) (b : Bool) (p : Nat) (c : Addr) (t : List Nat), vs = [.ref d, nv b.toNat, nv p, .ref c] ∧ DkAt X CD CW d fl wl ws F H ∧ H c = some (.lst (enc t)) ∧ c ∉ fl :: wl :: X ∧ F.cache.length ≤ 1000 ∧
  ∀ H' ws', DkAt X CD CW d fl wl ws' { F with cache := F.cache ++ [(b, p, t)] } H' → Fr [d, fl, wl] H H' → Q .non H'
theorem ok_send (T : TD K CD) (m_Write : C8.Mak P w K mg base 1 "Write" CW (sp_Write CW) []) (d : MetX K CD "send" "Disk.send" s_Disk_send ["self", "file", "place", "coming"]) : C8.Met P w K mg base 3 CD "send" (sp_send X CD CW) [] := by
  refine met_mk d sc_Disk_send (fun vs H Q E ⟨_, _, _, _, _, _, _, _, _, h, _⟩ => by rw [h]; rfl) (fun f cdv A outer s H vs Q E hr ⟨d, fl, wl, ws, F, b, p, c, t, hv, D, hc, hcn, hl, k⟩ => ?_)
  subst hv
  refine ⟨_, (pss_one (ps_expr (pe_bm PySem.F.plainAttrs_list PySem.F.slot_list_append PySem.F.type_list_append mt_append (pe_fld (pv 0) rfl) (pa_cons (C8.pe_mk m_Write hr (by decide) (by rfl) (pa_cons (pv 1) (pa_cons (pv 2) (pa_cons (pv 3) pa_nil)))) pa_nil)))), ?_⟩
  obtain ⟨dd, h1⟩ := D.obj
  refine s_appN D.wlist (ev_fld (ev_var rfl) h1 T.cl T.n_writes F_Disk_writes) (en_make (A := fun i : Nat × Nat × Addr => [isV (nv i.1), isV (nv i.2.1), isV (.ref i.2.2)]) (pre := fun _ => True) (R := fun i p H => ∃ dw, H p = some (.ins CW dw (F_Write (nv i.1) (nv i.2.1) (.ref i.2.2)))) (b.toNat, p, c) (fun q hq => ?_) trivial
    (ap_v (ev_var rfl) (ap_v (ev_var rfl) (ap_v (ev_var rfl) ap_nil)))) (by rw [List.length_map, ws_len D.wrs]; omega) (fun x H1 nx e1 h2 => ?_)
  · simp at hq
    rcases hq with rfl | rfl | rfl <;> exact mon_v
  obtain ⟨dw, h2⟩ := h2
  have D1 := D.grow e1
  obtain ⟨a0, a1, f1, f2, f3, f4, f5⟩ := D1.files
  have ndw : d ≠ wl := ne_of h1 D.wlist (by intro z; cases z)
  have nxw : x ≠ wl := fun q => by rw [q, D.wlist] at nx; cases nx
  refine k _ (ws ++ [x]) ⟨⟨dd, by rw [upd_ne ndw]; exact e1 _ _ h1⟩, ⟨a0, a1, by rw [upd_ne D.ne]; exact f1, by rw [upd_ne (nm2 f4)]; exact f2, by rw [upd_ne (nm2 f5)]; exact f3, f4, f5⟩, by rw [upd_same, List.map_append]; rfl, ?_, D.ne, live_upd D1.xs⟩ ((Fr.ex e1).upd (by simp))
  refine ws_snoc ⟨dw, c, by rw [upd_ne nxw]; exact h2, by rw [upd_ne (nm2 hcn)]; exact e1 _ _ hc, hcn⟩ (ws_mono (fun q o e r => ?_) (fun q _ r => r) D1.wrs)
  rw [upd_ne]
  · exact e
  · rcases r with ⟨_, _, _, _, rfl⟩ | r
    · exact ne_of e D1.wlist (by intro z; cases z)
    · exact nm2 r
/-- put: a file's row, at once -/
def sp_put (X : List Addr) (CD CW : Addr) : Sp := fun vs H Q _ => ∃ (d fl wl : Addr) (ws : List Addr) (F : Ue12.Files) (b : Bool) (c : Addr) (t : List Nat), vs = [.ref d, nv b.toNat, .ref c] ∧ DkAt X CD CW d fl wl ws F H ∧ H c = some (.lst (enc t)) ∧ c ∉ fl :: wl :: X ∧
  ∀ H', DkAt X CD CW d fl wl ws (setF F b t) H' → Fr [fl] H H' → Q .non H'
theorem ok_put (T : TD K CD) (d : MetX K CD "put" "Disk.put" s_Disk_put ["self", "file", "row"]) : C8.Met P w K mg base 1 CD "put" (sp_put X CD CW) [] := by
  refine met_mk d sc_Disk_put (fun vs H Q E ⟨_, _, _, _, _, _, _, _, h, _⟩ => by rw [h]; rfl) (fun f cdv A outer s H vs Q E hr ⟨d, fl, wl, ws, F, b, c, t, hv, D, hc, hcn, k⟩ => ?_)
  subst hv
  refine ⟨_, (pss_one (ps_asg (pv 2) (pg_sub (pe_fld (pv 0) rfl) (pv 1) set_list))), ?_⟩
  obtain ⟨dd, h1⟩ := D.obj
  obtain ⟨a0, a1, f1, _⟩ := D.files
  refine s_setL (j := b.toNat) f1 (ev_var rfl) (ev_fld (ev_var rfl) h1 T.cl T.n_files F_Disk_files) (ev_var rfl) (lt2 b) (fun H1 e1 => ?_)
  exact k _ ((D.grow e1).set (e1 _ _ f1) (e1 _ _ hc) hcn) ((Fr.ex e1).upd (by simp))
/-- arrive: of one write so many bytes -/
def sp_arrive (X : List Addr) (CD CW : Addr) : Sp := fun vs H Q _ => ∃ (d fl wl : Addr) (ws : List Addr) (F : Ue12.Files) (x : Ue12.Write) (p : Addr) (n : Nat), vs = [.ref d, .ref p, nv n] ∧ DkAt X CD CW d fl wl ws F H ∧ WAt CW (fl :: wl :: X) x p H ∧ GoodD F ∧ x.2.1 + x.2.2.length ≤ 600 ∧
  ∀ H', DkAt X CD CW d fl wl ws (Ue12.written F (x.1, x.2.1, x.2.2.take n)) H' → Fr [fl] H H' → Q .non H'
theorem ok_arrive (T : TD K CD) (TWr : TW K CW) (c_with_bytes : C8.Cal P w K mg base 1 "with_bytes" sp_with_bytes []) (d : MetX K CD "arrive" "Disk.arrive" s_Disk_arrive ["self", "write", "amount"]) : C8.Met P w K mg base 2 CD "arrive" (sp_arrive X CD CW) [] := by
  refine met_mk d sc_Disk_arrive (fun vs H Q E ⟨_, _, _, _, _, _, _, _, h, _⟩ => by rw [h]; rfl) (fun f cdv A outer s H vs Q E hr ⟨d, fl, wl, ws, F, x, p, n, hv, D, hw, g, hx, k⟩ => ?_)
  subst hv
  refine ⟨_, (pss_one (ps_asg (C8.pe_c c_with_bytes hr (by decide) (by rfl) (pa_cons (pe_ix ix_list (pe_fld (pv 0) rfl) (pe_fld (pv 1) rfl) (fun _ _ => rfl)) (pa_cons (pe_fld (pv 1) rfl) (pa_cons (pe_slice sl_list (pe_fld (pv 1) rfl) po_none (po_some (pv 2))) pa_nil)))) (pg_sub (pe_fld (pv 0) rfl) (pe_fld (pv 1) rfl) set_list))), ?_⟩
  obtain ⟨b, pl, t⟩ := x
  obtain ⟨dd, h1⟩ := D.obj
  obtain ⟨a0, a1, f1, f2, f3, f4, f5⟩ := D.files
  obtain ⟨dw, c, h2, h3, h4⟩ := hw
  dsimp only at h2 h3 hx k
  have hfile := ev_fld (K := K) (σ := start ["self", "write", "amount"] [V.ref d, V.ref p, nv n]) (te := tVar 1) (ev_var rfl) h2 TWr.cl TWr.n_file F_Write_file
  obtain ⟨ar, har, hrow, hlr, hnr⟩ : ∃ ar, ([.ref a0, .ref a1] : List V)[b.toNat]? = some (.ref ar) ∧ H ar = some (.lst (enc (Ue12.fileOf F b))) ∧ (Ue12.fileOf F b).length ≤ 1000 ∧ ar ∉ fl :: wl :: X := by
    cases b with
    | true => exact ⟨a1, rfl, f3, by have := g.b; show F.b.length ≤ 1000; omega, f5⟩
    | false => exact ⟨a0, rfl, f2, by have := g.a; show F.a.length ≤ 1000; omega, f4⟩
  refine s_setQ (R := fun v H2 => ∃ q, v = .ref q ∧ H2 q = some (.lst (enc (Ue12.put (Ue12.fileOf F b) pl (t.take n)))) ∧ q ∉ fl :: wl :: X) (j := b.toNat) f1 (fun Q' q' => ?_) (ev_fld (ev_var rfl) h1 T.cl T.n_files F_Disk_files) hfile (lt2 b) (fun v H2 H3 e2 hv e3 => ?_)
  · have ha := ap_v (ev_ixR (K := K) (evR (ev_fld (ev_var (i := 0) (σ := start ["self", "write", "amount"] [V.ref d, V.ref p, nv n]) rfl) h1 T.cl T.n_files F_Disk_files) f1) hfile har) (ap_v (ev_fld (ev_var (i := 1) rfl) h2 TWr.cl TWr.n_place F_Write_place)
      (ap_b (elR (el_to (K := K) (evR (ev_fld (ev_var (i := 1) rfl) h2 TWr.cl TWr.n_coming F_Write_coming) h3) (eo_some (ev_var (i := 2) rfl)))) ap_nil))
    refine ha H (Ex.refl H) _ fun vs H1 e1 hv => ?_
    obtain ⟨v1, v2, v3, rfl, rfl, rfl, c', rfl, hc'⟩ := fits3 hv
    refine ⟨ar, c', Ue12.fileOf F b, pl, t.take n, rfl, e1 _ _ hrow, hc', hlr, by omega, by rw [List.length_take]; omega, fun q H2 e2 hq hor => q' _ H2 (e1.trans e2) ⟨q, rfl, hq, ?_⟩⟩
    rcases hor with rfl | hor
    · exact hnr
    · exact not_mem2 (fun z => by rw [z, e1 _ _ f1] at hor; cases hor) (fun z => by rw [z, e1 _ _ D.wlist] at hor; cases hor) (not_live (D.grow e1).xs hor)
  · obtain ⟨q, rfl, hq, hqn⟩ := hv
    have D3 := D.grow (e2.trans e3)
    refine k _ ?_ ((Fr.ex (e2.trans e3)).upd (by simp))
    rw [written_setF]
    exact D3.set ((e2.trans e3) _ _ f1) (e3 _ _ hq) hqn
end
end Pk

set_option Elab.async false
set_option linter.all false
set_option maxRecDepth 100000
set_option maxHeartbeats 2000000
namespace Pk
open PySem PySem.Spec PyProof.Rows L2 Evl
/-! ### power: what arrives -/
def cutW (c : List Ue12.Write) (l : List Nat) : List Ue12.Write := c.zipIdx.map fun x => (x.1.1, x.1.2.1, x.1.2.2.take (l.getD x.2 0))
theorem gone_eq (F : Ue12.Files) (l : List Nat) : Ue12.gone F l = { ((cutW F.cache l).foldl Ue12.written F) with cache := [] } := rfl
theorem cutW_get {c : List Ue12.Write} {l : List Nat} {i : Nat} {x : Ue12.Write} (h : c[i]? = some x) : (cutW c l)[i]? = some (x.1, x.2.1, x.2.2.take (l.getD i 0)) := by
  unfold cutW
  rw [List.getElem?_map, List.getElem?_zipIdx, h]
  simp
theorem cutW_len (c : List Ue12.Write) (l : List Nat) : (cutW c l).length = c.length := by
  unfold cutW
  rw [List.length_map, List.length_zipIdx]
theorem written_nil (F : Ue12.Files) (b : Bool) (p : Nat) : Ue12.written F (b, p, []) = F := by cases b <;> rfl
theorem fold_nil : ∀ (l : List Ue12.Write) (F : Ue12.Files), (∀ x ∈ l, x.2.2 = []) → l.foldl Ue12.written F = F
  | [], _, _ => rfl
  | (b, p, t) :: l, F, h => by
    have e : t = [] := h (b, p, t) (List.mem_cons_self ..)
    subst e
    rw [List.foldl_cons, written_nil]
    exact fold_nil l F fun x hx => h x (List.mem_cons_of_mem _ hx)
theorem cutW_rest {c : List Ue12.Write} {l : List Nat} {n : Nat} (hn : n = min c.length l.length) (F : Ue12.Files) : ((cutW c l).take n).foldl Ue12.written F = (cutW c l).foldl Ue12.written F := by
  have e : (cutW c l).foldl Ue12.written F = ((cutW c l).drop n).foldl Ue12.written (((cutW c l).take n).foldl Ue12.written F) := by
    rw [← List.foldl_append, List.take_append_drop]
  rw [e]
  refine (fold_nil _ _ fun x hx => ?_).symm
  obtain ⟨i, hi⟩ := List.getElem?_of_mem hx
  rw [List.getElem?_drop] at hi
  by_cases h : n + i < c.length
  · rw [cutW_get (List.getElem?_eq_getElem h)] at hi
    rw [← Option.some.inj hi]
    have : l.getD (n + i) 0 = 0 := by
      rw [List.getD_eq_getElem?_getD, List.getElem?_eq_none (by omega)]
      rfl
    rw [this]
    rfl
  · rw [List.getElem?_eq_none (by rw [cutW_len]; omega)] at hi
    cases hi
theorem cutW_good {F : Ue12.Files} (g : GoodD F) (l : List Nat) : ∀ x ∈ cutW F.cache l, x.2.1 + x.2.2.length ≤ 600 := by
  intro x hx
  obtain ⟨i, hi⟩ := List.getElem?_of_mem hx
  by_cases h : i < F.cache.length
  · rw [cutW_get (List.getElem?_eq_getElem h)] at hi
    rw [← Option.some.inj hi]
    have := g.c _ (List.getElem_mem h)
    dsimp only
    rw [List.length_take]
    omega
  · rw [List.getElem?_eq_none (by rw [cutW_len]; omega)] at hi
    cases hi
theorem GoodD.gone {F : Ue12.Files} (g : GoodD F) (l : List Nat) : GoodD (Ue12.gone F l) := by
  have := GoodD.fold _ g (cutW_good g l)
  rw [gone_eq]
  exact ⟨this.a, this.b, fun x hx => (List.not_mem_nil hx).elim⟩
section
variable {K : PySem.W.Frag} {σ : L2.St} {H : Hp} {D : Ends} {tu tz : TS} {g : TG} {xs ys : List V} {a b : Addr} {ta : TA}
theorem q_forZip {n : Nat} (h : Ap ta σ H (Fits [isV (.ref a), isV (.ref b)])) (hx : SqL K H a xs) (hy : SqL K H b ys) (hn : n = min xs.length ys.length) (Pv : Nat → L2.St → Hp → Prop) (h0 : ∀ H1, Ex H H1 → Pv 0 σ H1) (hG : ∀ i σ H, i ≤ n → Pv i σ H → SqL K H a xs ∧ SqL K H b ys)
    (hs : ∀ i x σ H H', i < n → Pv i σ H → YPair (fun i => xs[i]?) (fun i => ys[i]?) i H x H' → g x σ H' fun σ2 H2 => tu { D with nx := Pv (i + 1), ct := Pv (i + 1), bk := tz D } σ2 H2) (hd : ∀ σ H, Pv n σ H → tz D σ H) : tSeq (tFor (iZip K ta) g tu) tz D σ H := by
  show ta σ H _
  refine h H (Ex.refl H) _ fun vs H1 e1 hvs => ?_
  obtain ⟨v1, v2, rfl, rfl, rfl⟩ := fits2 hvs
  exact ⟨a, b, xs, ys, rfl, ex_l e1 hx, ex_l e1 hy, for_it (walk_zip hn) (D := { D with nx := tz D }) Pv (h0 H1 e1) hG hs hd⟩
theorem q_forEnum (h : Ap ta σ H (Fits [isV (.ref a)])) (hx : SqL K H a xs) (Pv : Nat → L2.St → Hp → Prop) (h0 : ∀ H1, Ex H H1 → Pv 0 σ H1) (hG : ∀ i σ H, i ≤ xs.length → Pv i σ H → SqL K H a xs)
    (hs : ∀ i x σ H H', i < xs.length → Pv i σ H → YPair (fun i => some (.int (i : Nat))) (fun i => xs[i]?) i H x H' → g x σ H' fun σ2 H2 => tu { D with nx := Pv (i + 1), ct := Pv (i + 1), bk := tz D } σ2 H2) (hd : ∀ σ H, Pv xs.length σ H → tz D σ H) : tSeq (tFor (iEnum K ta) g tu) tz D σ H := by
  show ta σ H _
  refine h H (Ex.refl H) _ fun vs H1 e1 hvs => ?_
  obtain ⟨v1, rfl, rfl⟩ := fits1 hvs
  exact ⟨a, xs, rfl, ex_l e1 hx, for_it walk_enum (D := { D with nx := tz D }) Pv (h0 H1 e1) hG hs hd⟩
end
section
variable {P : Program} {w : World} {K : PySem.W.Frag} {mg : Str → Option Value} {base : Heap} {X : List Addr} {CD CW : Addr}
/-- self.writes = [] -/
theorem s_clear {σ : L2.St} {H : Hp} {D : Ends} {ta : TE} {d fl wl : Addr} {ws : List Addr} {F : Ue12.Files} (T : TD K CD) (ha : Ev ta σ H (.ref d)) (Dk : DkAt X CD CW d fl wl ws F H)
    (k : ∀ H' wl', DkAt X CD CW d fl wl' [] { F with cache := [] } H' → H wl' = none → Fr [d] H H' → D.nx σ H') : sFld K ta (tLst tNil) "writes" D σ H := by
  obtain ⟨dd, h1⟩ := Dk.obj
  obtain ⟨a0, a1, f1, f2, f3, f4, f5⟩ := Dk.files
  refine s_fldL el_0 ha h1 T.cl T.n_writes (by show 2 < 1000; decide) (fun q H1 hq e1 h2 => ?_)
  rw [P_Disk_writes]
  have nd : ∀ b o, H b = some o → (∀ C dx fs, o ≠ .ins C dx fs) → b ≠ d := fun b o hb n z => by
    rw [z, h1] at hb
    exact n _ _ _ (Option.some.inj hb).symm
  have nqd : q ≠ d := fun z => by rw [z, h1] at hq; cases hq
  refine k _ q ⟨⟨dd, upd_same⟩, ⟨a0, a1, ?_, ?_, ?_, not_mem2 (nm1 f4) (ne_of_none f2 hq) (nm3 f4), not_mem2 (nm1 f5) (ne_of_none f3 hq) (nm3 f5)⟩, ?_, trivial, ne_of_none f1 hq, live_upd (live_ex e1 Dk.xs)⟩ hq ((Fr.ex e1).upd (by simp))
  · rw [upd_ne (nd _ _ f1 (by intro _ _ _ z; cases z))]; exact e1 _ _ f1
  · rw [upd_ne (nd _ _ f2 (by intro _ _ _ z; cases z))]; exact e1 _ _ f2
  · rw [upd_ne (nd _ _ f3 (by intro _ _ _ z; cases z))]; exact e1 _ _ f3
  · rw [upd_ne nqd]; exact h2
/-- what becomes of the disk when what is on its way has arrived -/
def DkPost (X : List Addr) (CD CW d fl wl : Addr) (F : Ue12.Files) (H : Hp) (Q : VK) : Prop := ∀ H' wl', DkAt X CD CW d fl wl' [] F H' → H wl' = none → Fr [d, fl] H H' → Q .non H'
def sp_arrive_all (X : List Addr) (CD CW : Addr) : Sp := fun vs H Q _ => ∃ (d fl wl : Addr) (ws : List Addr) (F : Ue12.Files), vs = [.ref d] ∧ DkAt X CD CW d fl wl ws F H ∧ GoodD F ∧ DkPost X CD CW d fl wl (Ue12.seen F) H Q
theorem ok_arrive_all (G : Glob mg) (T : TD K CD) (TWr : TW K CW) (c_arrive : C8.Met P w K mg base 2 CD "arrive" (sp_arrive X CD CW) []) (d : MetX K CD "arrive_all" "Disk.arrive_all" s_Disk_arrive_all ["self"]) : C8.Met P w K mg base 3 CD "arrive_all" (sp_arrive_all X CD CW) [] := by
  refine met_mk d sc_Disk_arrive_all (fun vs H Q E ⟨_, _, _, _, _, h, _⟩ => by rw [h]; rfl) (fun f cdv A outer s H vs Q E hr ⟨d, fl, wl, ws, F, hv, D, g, k⟩ => ?_)
  subst hv
  refine ⟨_, (pss_cons (ps_for PassesOwn.never rfl (pi_list (pe_fld (pv 0) rfl)) (pg_name (i := 1) sc_Disk_arrive_all.nd rfl (.inl rfl))
      (pss_one (ps_expr (C8.pe_mt c_arrive hr (by decide) (pv 0) (pa_cons (pv 1) (pa_cons (pe_callB call_len_seq (by rfl) G.b_len PySem.boot_len (pa_cons (pe_fld (pv 1) rfl) pa_nil)) pa_nil))))))
    (pss_one (ps_fld (pv 0) (pe_lst pa_nil) rfl))), ?_⟩
  obtain ⟨dd, h1⟩ := D.obj
  refine q_forLn (K := K) (a := wl) (xs := ws.map V.ref) (ev_fld (ev_var rfl) h1 T.cl T.n_writes F_Disk_writes) (sq_of D.wlist) (fun i σ' H' => ∃ v, σ' = [some (.ref d), v] ∧ DkAt X CD CW d fl wl ws ((F.cache.take i).foldl Ue12.written F) H' ∧ Fr [fl] H H')
    (fun H1 e1 => ⟨none, rfl, D.grow e1, Fr.ex e1⟩) (fun i σ' H' _ ⟨_, _, D', _⟩ => sq_of D'.wlist) ?_ ?_
  · rintro i y σ' H' hi ⟨v, rfl, D', fr⟩
    obtain ⟨p, hp, rfl⟩ := lift_map hi
    have hc : ((F.cache.take i).foldl Ue12.written F).cache = F.cache := fold_cache _ _
    obtain ⟨x, hx, hw⟩ := ws_get D'.wrs hp
    rw [hc] at hx
    obtain ⟨dd', h1'⟩ := D'.obj
    have gx := g.c x (List.mem_of_getElem? hx)
    have gi := GoodD.fold (F.cache.take i) g fun z hz => g.c z (List.mem_of_mem_take hz)
    obtain ⟨dw, c, w1, w2, w3⟩ := hw
    refine r_meth (ev_var rfl) h1' N_Disk_arrive (ap_v (ev_var rfl) (ap_v (en_lenB (evR (ev_fld (ev_var rfl) w1 TWr.cl TWr.n_coming F_Write_coming) w2)) ap_nil)) (fun vs H1 e1 hvs => ?_)
    obtain ⟨v1, v2, rfl, rfl, rfl⟩ := fits2 hvs
    refine ⟨d, fl, wl, ws, _, x, p, x.2.2.length, rfl, D'.grow e1, ⟨dw, c, e1 _ _ w1, e1 _ _ w2, w3⟩, gi, gx, fun H2 D2 fr2 => ?_⟩
    refine ⟨_, rfl, ?_, (fr.trans (Fr.ex e1)).trans fr2⟩
    rw [take_snoc hx, List.foldl_append]
    rw [List.take_length] at D2
    exact D2
  · rintro σ' H' ⟨v, rfl, D', fr⟩
    rw [List.length_map, ws_len D.wrs, List.take_length] at D'
    refine s_clear (CW := CW) T (ev_var rfl) D' (fun H2 wl' D2 nw fr2 => ?_)
    refine k H2 wl' D2 ?_ ((fr.mono (by simp)).trans (fr2.mono (by simp)))
    cases e : H wl' with
    | none => rfl
    | some o =>
      by_cases z : wl' ∈ [fl]
      · rw [List.mem_singleton.mp z] at nw
        obtain ⟨_, _, f1, _⟩ := D'.files
        rw [f1] at nw
        cases nw
      · rw [fr _ _ e z] at nw
        cases nw
def sp_arrive_some (X : List Addr) (CD CW : Addr) : Sp := fun vs H Q _ => ∃ (d fl wl : Addr) (ws : List Addr) (F : Ue12.Files) (c : Addr) (l : List Nat), vs = [.ref d, .ref c] ∧ DkAt X CD CW d fl wl ws F H ∧ GoodD F ∧ H c = some (.lst (enc l)) ∧ c ≠ fl ∧ DkPost X CD CW d fl wl (Ue12.gone F l) H Q
theorem ok_arrive_some (G : Glob mg) (T : TD K CD) (c_arrive : C8.Met P w K mg base 2 CD "arrive" (sp_arrive X CD CW) []) (d : MetX K CD "arrive_some" "Disk.arrive_some" s_Disk_arrive_some ["self", "numbers"]) : C8.Met P w K mg base 3 CD "arrive_some" (sp_arrive_some X CD CW) [] := by
  refine met_mk d sc_Disk_arrive_some (fun vs H Q E ⟨_, _, _, _, _, _, _, h, _⟩ => by rw [h]; rfl) (fun f cdv A outer s H vs Q E hr ⟨d, fl, wl, ws, F, c, l, hv, D, g, hc, hcf, k⟩ => ?_)
  subst hv
  refine ⟨_, (pss_cons (ps_for PassesOwn.never rfl (pi_zip (by rfl) G.b_zip (pa_cons (pe_fld (pv 0) rfl) (pa_cons (pv 1) pa_nil))) (pg_tup rfl (pgs_cons (pg_name (i := 2) sc_Disk_arrive_some.nd rfl (.inl rfl)) (pgs_cons (pg_name (i := 3) sc_Disk_arrive_some.nd rfl (.inl rfl)) pgs_nil)))
      (pss_one (ps_expr (C8.pe_mt c_arrive hr (by decide) (pv 0) (pa_cons (pv 2) (pa_cons (pv 3) pa_nil))))))
    (pss_one (ps_fld (pv 0) (pe_lst pa_nil) rfl))), ?_⟩
  obtain ⟨dd, h1⟩ := D.obj
  have hn : min F.cache.length l.length = min (ws.map V.ref).length (enc l).length := by rw [List.length_map, ws_len D.wrs, enc_len]
  refine q_forZip (ap_v (ev_fld (ev_var rfl) h1 T.cl T.n_writes F_Disk_writes) (ap_v (ev_var rfl) ap_nil)) (sq_of D.wlist) (sq_of hc) hn (fun i σ' H' => ∃ v2 v3, σ' = [some (.ref d), some (.ref c), v2, v3] ∧ DkAt X CD CW d fl wl ws (((cutW F.cache l).take i).foldl Ue12.written F) H' ∧ Fr [fl] H H')
    (fun H1 e1 => ⟨none, none, rfl, D.grow e1, Fr.ex e1⟩) (fun i σ' H' _ ⟨_, _, _, D', fr⟩ => ⟨sq_of D'.wlist, sq_of (fr _ _ hc (by simpa using hcf))⟩) ?_ ?_
  · rintro i y σ' H' H2 hi ⟨v2, v3, rfl, D', fr⟩ ⟨Tp, x, z, rfl, hT, rfl, hx, hz⟩
    obtain ⟨p, hp, rfl⟩ := lift_map hx
    have hz : (enc l)[i]? = some z := hz
    rw [enc_get] at hz
    obtain ⟨n, hn', rfl⟩ : ∃ n, l[i]? = some n ∧ z = nv n := by
      cases e : l[i]? with
      | none => rw [e] at hz; cases hz
      | some n => rw [e] at hz; exact ⟨n, rfl, (Option.some.inj hz).symm⟩
    refine ⟨Tp, [.ref p, nv n], rfl, SqT.of upd_same, rfl, _, _, rfl, _, _, rfl, rfl, ?_⟩
    have eT : Ex H' (upd H' Tp (.tup [.ref p, nv n])) := Ex.new hT
    have D3 := D'.grow eT
    have hcc : (((cutW F.cache l).take i).foldl Ue12.written F).cache = F.cache := fold_cache _ _
    obtain ⟨x, hx', hw⟩ := ws_get D3.wrs hp
    rw [hcc] at hx'
    obtain ⟨dd', h1'⟩ := D3.obj
    have gx := g.c x (List.mem_of_getElem? hx')
    have gi := GoodD.fold ((cutW F.cache l).take i) g fun z hz => cutW_good g l z (List.mem_of_mem_take hz)
    show tDrop _ _ [some (.ref d), some (.ref c), some (.ref p), some (nv n)] _
    refine r_meth (ev_var rfl) h1' N_Disk_arrive (ap_v (ev_var rfl) (ap_v (ev_var rfl) ap_nil)) (fun vs H3 e3 hvs => ?_)
    obtain ⟨v1, v2, rfl, rfl, rfl⟩ := fits2 hvs
    obtain ⟨dw, cc, w1, w2, w3⟩ := hw
    refine ⟨d, fl, wl, ws, _, x, p, n, rfl, D3.grow e3, ⟨dw, cc, e3 _ _ w1, e3 _ _ w2, w3⟩, gi, gx, fun H4 D4 fr4 => ?_⟩
    refine ⟨_, _, rfl, ?_, ((fr.trans (Fr.ex eT)).trans (Fr.ex e3)).trans fr4⟩
    rw [take_snoc (cutW_get hx'), List.foldl_append]
    have e : l.getD i 0 = n := by rw [List.getD_eq_getElem?_getD, hn']; rfl
    rw [e]
    exact D4
  · rintro σ' H' ⟨v2, v3, rfl, D', fr⟩
    rw [cutW_rest rfl] at D'
    refine s_clear (CW := CW) T (ev_var rfl) D' (fun H2 wl' D2 nw fr2 => ?_)
    refine k H2 wl' D2 ?_ ((fr.mono (by simp)).trans (fr2.mono (by simp)))
    cases e : H wl' with
    | none => rfl
    | some o =>
      by_cases z : wl' ∈ [fl]
      · rw [List.mem_singleton.mp z] at nw
        obtain ⟨_, _, f1, _⟩ := D'.files
        rw [f1] at nw
        cases nw
      · rw [fr _ _ e z] at nw
        cases nw
/-- which file is found, as a value -/
def foundV (F : Ue12.Files) : V := match Ue12.found F with
  | none => .non
  | some (b, _) => nv b.toNat
def numB (r : List Nat) : Nat := r.getD 0 0 + 256 * r.getD 1 0
theorem found_eq (F : Ue12.Files) : foundV F = if cnt F.b = true ∧ (cnt F.a = false ∨ numB F.a < numB F.b) then nv 1 else if cnt F.a = true then nv 0 else .non := by
  have ea := fileRead_eq F.a
  have eb := fileRead_eq F.b
  have ea : Ue12.fileRead F.a = if cnt F.a = true then some (numB F.a, Ue12.brought ⟨[], [], 0⟩ (recs (bodies (F.a.drop 3)))) else none := ea
  have eb : Ue12.fileRead F.b = if cnt F.b = true then some (numB F.b, Ue12.brought ⟨[], [], 0⟩ (recs (bodies (F.b.drop 3)))) else none := eb
  revert ea eb
  generalize Ue12.brought ⟨[], [], 0⟩ (recs (bodies (F.a.drop 3))) = X
  generalize Ue12.brought ⟨[], [], 0⟩ (recs (bodies (F.b.drop 3))) = Y
  generalize numB F.a = n
  generalize numB F.b = m
  intro ea eb
  unfold foundV Ue12.found
  rw [ea, eb]
  cases cnt F.a <;> cases cnt F.b
  · simp
  · simp
  · simp
  · by_cases hc : n < m
    · simp [hc]
    · simp [hc]
def sp_found_file (X : List Addr) (CD CW : Addr) : Sp := fun vs H Q _ => ∃ (d fl wl : Addr) (ws : List Addr) (F : Ue12.Files), vs = [.ref d] ∧ DkAt X CD CW d fl wl ws F H ∧ GoodD F ∧ RetV (foundV F) H Q
theorem et_isN {σ : L2.St} {H : Hp} {te : TE} {v : V} (h : Ev te σ H v) : EvT (tTest (tOp (fun x y H Q => y = V.non ∧ Q (V.bl (decide (x = V.non))) H) te (tC .non))) σ H (decide (v = .non)) := et_test (ev_op h ev_c (fun H1 _ Q q => ⟨rfl, q H1 (Ex.refl H1)⟩))
theorem ok_found_file (G : Glob mg) (T : TD K CD) (c_counts : C8.Cal P w K mg base 5 "counts" sp_counts []) (c_file_number : C8.Cal P w K mg base 1 "file_number" sp_file_number []) (d : MetX K CD "found_file" "Disk.found_file" s_Disk_found_file ["self"]) : C8.Met P w K mg base 6 CD "found_file" (sp_found_file X CD CW) [] := by
  refine met_mk d sc_Disk_found_file (fun vs H Q E ⟨_, _, _, _, _, h, _⟩ => by rw [h]; rfl) (fun f cdv A outer s H vs Q E hr ⟨d, fl, wl, ws, F, hv, D, g, k⟩ => ?_)
  subst hv
  refine ⟨_, (pss_cons (ps_set (i := 1) sc_Disk_found_file.nd rfl (.inl rfl) pe_non)
    (pss_cons (ps_for PassesOwn.never rfl (pi_enum (by rfl) G.b_enumerate (pa_cons (pe_fld (pv 0) rfl) pa_nil)) (pg_tup rfl (pgs_cons (pg_name (i := 2) sc_Disk_found_file.nd rfl (.inl rfl)) (pgs_cons (pg_name (i := 3) sc_Disk_found_file.nd rfl (.inl rfl)) pgs_nil)))
      (pss_one (ps_if (PW.pt (pw_and (pt_val (C8.pe_c c_counts hr (by decide) (by rfl) (pa_cons (pv 3) pa_nil))) (pw_and1 (PW.pt (pw_or (pt_cmpR op_isN (pv 1) pe_non (nomark _)) (pw_or1 (pt_cmpR op_gt (C8.pe_c c_file_number hr (by decide) (by rfl) (pa_cons (pv 3) pa_nil)) (C8.pe_c c_file_number hr (by decide) (by rfl) (pa_cons (pe_ix ix_list (pe_fld (pv 0) rfl) (pv 1) (fun _ _ => rfl)) pa_nil)) (nomark _))))))))
        (pss_one (ps_set (i := 1) sc_Disk_found_file.nd rfl (.inl rfl) (pv 2)))
        pss_nil)))
    (pss_one (ps_ret (pv 1))))), ?_⟩
  obtain ⟨dd, h1⟩ := D.obj
  obtain ⟨a0, a1, f1, f2, f3, f4, f5⟩ := D.files
  refine q_asg ev_c (fun H1 e1 => ?_)
  have hcnt : ∀ {H' : Hp} {σ' : L2.St} {r : List Nat} {q : Addr} {E : XK}, r.length ≤ 1000 → σ'[3]? = some (some (.ref q)) → H' q = some (.lst (enc r)) → EvT (tB (tCall sp_counts [] E (tCons (tVar 3) tNil))) σ' H' (cnt r) := fun {H' σ' r q E} hr hs hq =>
    et_B (ev_fn (A := fun r : List Nat => [isB r]) (pre := fun r => r.length ≤ 1000) (R := fun r => V.bl (cnt r)) r hr (ap_b (er_var hs hq) ap_nil))
  have hnum : ∀ {H' : Hp} {σ' : L2.St} {te : TE} {r : List Nat} {E : XK}, 2 ≤ r.length → EvR te σ' H' (enc r) → Ev (tCall sp_file_number [] E (tCons te tNil)) σ' H' (nv (numB r)) := fun {H' σ' te r E} hr hq =>
    ev_fn (A := fun r : List Nat => [isB r]) (pre := fun r => 2 ≤ r.length) (R := fun r => nv (r.getD 0 0 + 256 * r.getD 1 0)) r hr (ap_b hq ap_nil)
  have c3 : ∀ r, cnt r = true → 2 ≤ r.length := fun r h => by
    unfold cnt at h
    rw [Bool.and_eq_true] at h
    have := of_decide_eq_true h.1
    omega
  refine q_forEnum (ap_v (ev_fld (ev_var rfl) (e1 _ _ h1) T.cl T.n_files F_Disk_files) ap_nil) (sq_of (e1 _ _ f1)) (fun i σ' H' => ∃ v1 v2 v3, σ' = [some (.ref d), some v1, v2, v3] ∧ Ex H H' ∧ v1 = (if i = 0 then V.non else if i = 1 then (if cnt F.a = true then nv 0 else .non) else foundV F))
    (fun H2 e2 => ⟨_, none, none, rfl, e1.trans e2, rfl⟩) (fun i σ' H' _ ⟨_, _, _, _, ex, _⟩ => sq_of (ex _ _ f1)) ?_ ?_
  · rintro i y σ' H' H2 hi ⟨v1, v2, v3, rfl, ex, hv1⟩ ⟨Tp, x, z, rfl, hT, rfl, hx, hz⟩
    injection hx with hx
    subst hx
    have eT : Ex H' (upd H' Tp (.tup [.int (i : Nat), z])) := Ex.new hT
    refine ⟨Tp, [.int (i : Nat), z], rfl, SqT.of upd_same, rfl, _, _, rfl, _, _, rfl, rfl, ?_⟩
    have ex2 := ex.trans eT
    have hi : i < 2 := hi
    obtain rfl | rfl : i = 0 ∨ i = 1 := by omega
    · injection hz with hz
      subst hz
      rw [if_pos rfl] at hv1
      subst hv1
      show tIfS _ _ _ _ [some (.ref d), some .non, some (nv 0), some (.ref a0)] _
      refine s_if (b := cnt F.a && (true || false)) (et_and (hcnt (by have := g.a; omega) rfl (ex2 _ _ f2)) (fun hc => et_or (et_is (et_isN (ev_var rfl)) (decide_eq_true rfl)) (fun z => absurd z (by decide)))) (fun ht H3 e3 => ?_) (fun ht H3 e3 => ?_)
      · refine s_asg (ev_var rfl) (fun H4 e4 => ⟨_, _, _, rfl, (ex2.trans e3).trans e4, ?_⟩)
        rw [if_neg (by decide), if_pos rfl, if_pos (by simpa using ht)]
      · refine ⟨_, _, _, rfl, ex2.trans e3, ?_⟩
        rw [if_neg (by decide), if_pos rfl, if_neg (by simpa using ht)]
    · injection hz with hz
      subst hz
      rw [if_neg (by decide), if_pos rfl] at hv1
      have fin : foundV F = if cnt F.b = true ∧ (cnt F.a = false ∨ numB F.a < numB F.b) then nv 1 else if cnt F.a = true then nv 0 else .non := found_eq F
      cases hca : cnt F.a with
      | false =>
        rw [hca, if_neg Bool.false_ne_true] at hv1
        subst hv1
        show tIfS _ _ _ _ [some (.ref d), some .non, some (nv 1), some (.ref a1)] _
        refine s_if (b := cnt F.b && (true || false)) (et_and (hcnt (by have := g.b; omega) rfl (ex2 _ _ f3)) (fun hc => et_or (et_is (et_isN (ev_var rfl)) (decide_eq_true rfl)) (fun z => absurd z (by decide)))) (fun ht H3 e3 => ?_) (fun ht H3 e3 => ?_)
        · refine s_asg (ev_var rfl) (fun H4 e4 => ⟨_, _, _, rfl, (ex2.trans e3).trans e4, ?_⟩)
          rw [if_neg (by decide), if_neg (by decide), fin, if_pos ⟨by simpa using ht, .inl hca⟩]
        · refine ⟨_, _, _, rfl, ex2.trans e3, ?_⟩
          have ht : cnt F.b = false := by simpa using ht
          rw [if_neg (by decide), if_neg (by decide), fin, if_neg (fun z => by rw [ht] at z; cases z.1), hca, if_neg Bool.false_ne_true]
      | true =>
        rw [hca, if_pos rfl] at hv1
        subst hv1
        show tIfS _ _ _ _ [some (.ref d), some (nv 0), some (nv 1), some (.ref a1)] _
        refine s_if (b := cnt F.b && (false || decide (numB F.a < numB F.b))) (et_and (hcnt (by have := g.b; omega) rfl (ex2 _ _ f3)) (fun hc => et_or (et_is (et_isN (ev_var rfl)) (decide_eq_false (fun z => nomatch z)))
          (fun z => et_test (eb_gt (hnum (c3 _ hc) (er_var rfl (ex2 _ _ f3))) (hnum (c3 _ hca) (evR (ev_ixR (evR (ev_fld (ev_var rfl) (ex2 _ _ h1) T.cl T.n_files F_Disk_files) (ex2 _ _ f1)) (ev_var rfl) (i := 0) rfl) (ex2 _ _ f2))))))) (fun ht H3 e3 => ?_) (fun ht H3 e3 => ?_)
        · refine s_asg (ev_var rfl) (fun H4 e4 => ⟨_, _, _, rfl, (ex2.trans e3).trans e4, ?_⟩)
          rw [Bool.and_eq_true, Bool.false_or] at ht
          rw [if_neg (by decide), if_neg (by decide), fin, if_pos ⟨ht.1, .inr (of_decide_eq_true ht.2)⟩]
        · refine ⟨_, _, _, rfl, ex2.trans e3, ?_⟩
          rw [Bool.and_eq_false_iff, Bool.false_or] at ht
          rw [if_neg (by decide), if_neg (by decide), fin, if_neg, if_pos hca]
          rintro ⟨z1, z2⟩
          rcases ht with ht | ht
          · rw [z1] at ht; cases ht
          · rcases z2 with z2 | z2
            · rw [hca] at z2; cases z2
            · exact of_decide_eq_false ht z2
  · rintro σ' H' ⟨v1, v2, v3, rfl, ex, hv1⟩
    have hv1 : v1 = foundV F := hv1
    subst hv1
    exact s_ret (ev_var rfl) fun H2 e2 => k.go (ex.trans e2)
end
end Pk

set_option Elab.async false
set_option linter.all false
set_option maxRecDepth 100000
set_option maxHeartbeats 2000000
namespace Pk
open PySem PySem.Spec PyProof.Rows L2 Evl
def F_Editor (v0 v1 v2 v3 v4 v5 v6 v7 v8 v9 : V) : List (Str × V) := [("disk", v0), ("powered", v1), ("remembered", v2), ("used", v3), ("number", v4), ("size", v5), ("text", v6), ("last", v7), ("safe", v8), ("copying", v9)]
theorem F_Editor_disk {v0 v1 v2 v3 v4 v5 v6 v7 v8 v9 : V} : (F_Editor v0 v1 v2 v3 v4 v5 v6 v7 v8 v9).lookup ("disk" : Str) = some v0 := lk_here
theorem P_Editor_disk {v0 v1 v2 v3 v4 v5 v6 v7 v8 v9 x : V} : putF "disk" x (F_Editor v0 v1 v2 v3 v4 v5 v6 v7 v8 v9) = F_Editor x v1 v2 v3 v4 v5 v6 v7 v8 v9 := put_here
theorem F_Editor_powered {v0 v1 v2 v3 v4 v5 v6 v7 v8 v9 : V} : (F_Editor v0 v1 v2 v3 v4 v5 v6 v7 v8 v9).lookup ("powered" : Str) = some v1 := (lk_past (by decide +kernel)).trans (lk_here)
theorem P_Editor_powered {v0 v1 v2 v3 v4 v5 v6 v7 v8 v9 x : V} : putF "powered" x (F_Editor v0 v1 v2 v3 v4 v5 v6 v7 v8 v9) = F_Editor v0 x v2 v3 v4 v5 v6 v7 v8 v9 := (put_past (by decide +kernel)).trans (congrArg _ (put_here))
theorem F_Editor_remembered {v0 v1 v2 v3 v4 v5 v6 v7 v8 v9 : V} : (F_Editor v0 v1 v2 v3 v4 v5 v6 v7 v8 v9).lookup ("remembered" : Str) = some v2 := (lk_past (by decide +kernel)).trans ((lk_past (by decide +kernel)).trans (lk_here))
theorem P_Editor_remembered {v0 v1 v2 v3 v4 v5 v6 v7 v8 v9 x : V} : putF "remembered" x (F_Editor v0 v1 v2 v3 v4 v5 v6 v7 v8 v9) = F_Editor v0 v1 x v3 v4 v5 v6 v7 v8 v9 := (put_past (by decide +kernel)).trans (congrArg _ ((put_past (by decide +kernel)).trans (congrArg _ (put_here))))
theorem F_Editor_used {v0 v1 v2 v3 v4 v5 v6 v7 v8 v9 : V} : (F_Editor v0 v1 v2 v3 v4 v5 v6 v7 v8 v9).lookup ("used" : Str) = some v3 := (lk_past (by decide +kernel)).trans ((lk_past (by decide +kernel)).trans ((lk_past (by decide +kernel)).trans (lk_here)))
theorem P_Editor_used {v0 v1 v2 v3 v4 v5 v6 v7 v8 v9 x : V} : putF "used" x (F_Editor v0 v1 v2 v3 v4 v5 v6 v7 v8 v9) = F_Editor v0 v1 v2 x v4 v5 v6 v7 v8 v9 := (put_past (by decide +kernel)).trans (congrArg _ ((put_past (by decide +kernel)).trans (congrArg _ ((put_past (by decide +kernel)).trans (congrArg _ (put_here))))))
theorem F_Editor_number {v0 v1 v2 v3 v4 v5 v6 v7 v8 v9 : V} : (F_Editor v0 v1 v2 v3 v4 v5 v6 v7 v8 v9).lookup ("number" : Str) = some v4 := (lk_past (by decide +kernel)).trans ((lk_past (by decide +kernel)).trans ((lk_past (by decide +kernel)).trans ((lk_past (by decide +kernel)).trans (lk_here))))
theorem P_Editor_number {v0 v1 v2 v3 v4 v5 v6 v7 v8 v9 x : V} : putF "number" x (F_Editor v0 v1 v2 v3 v4 v5 v6 v7 v8 v9) = F_Editor v0 v1 v2 v3 x v5 v6 v7 v8 v9 := (put_past (by decide +kernel)).trans (congrArg _ ((put_past (by decide +kernel)).trans (congrArg _ ((put_past (by decide +kernel)).trans (congrArg _ ((put_past (by decide +kernel)).trans (congrArg _ (put_here))))))))
theorem F_Editor_size {v0 v1 v2 v3 v4 v5 v6 v7 v8 v9 : V} : (F_Editor v0 v1 v2 v3 v4 v5 v6 v7 v8 v9).lookup ("size" : Str) = some v5 := (lk_past (by decide +kernel)).trans ((lk_past (by decide +kernel)).trans ((lk_past (by decide +kernel)).trans ((lk_past (by decide +kernel)).trans ((lk_past (by decide +kernel)).trans (lk_here)))))
theorem P_Editor_size {v0 v1 v2 v3 v4 v5 v6 v7 v8 v9 x : V} : putF "size" x (F_Editor v0 v1 v2 v3 v4 v5 v6 v7 v8 v9) = F_Editor v0 v1 v2 v3 v4 x v6 v7 v8 v9 := (put_past (by decide +kernel)).trans (congrArg _ ((put_past (by decide +kernel)).trans (congrArg _ ((put_past (by decide +kernel)).trans (congrArg _ ((put_past (by decide +kernel)).trans (congrArg _ ((put_past (by decide +kernel)).trans (congrArg _ (put_here))))))))))
theorem F_Editor_text {v0 v1 v2 v3 v4 v5 v6 v7 v8 v9 : V} : (F_Editor v0 v1 v2 v3 v4 v5 v6 v7 v8 v9).lookup ("text" : Str) = some v6 := (lk_past (by decide +kernel)).trans ((lk_past (by decide +kernel)).trans ((lk_past (by decide +kernel)).trans ((lk_past (by decide +kernel)).trans ((lk_past (by decide +kernel)).trans ((lk_past (by decide +kernel)).trans (lk_here))))))
theorem P_Editor_text {v0 v1 v2 v3 v4 v5 v6 v7 v8 v9 x : V} : putF "text" x (F_Editor v0 v1 v2 v3 v4 v5 v6 v7 v8 v9) = F_Editor v0 v1 v2 v3 v4 v5 x v7 v8 v9 := (put_past (by decide +kernel)).trans (congrArg _ ((put_past (by decide +kernel)).trans (congrArg _ ((put_past (by decide +kernel)).trans (congrArg _ ((put_past (by decide +kernel)).trans (congrArg _ ((put_past (by decide +kernel)).trans (congrArg _ ((put_past (by decide +kernel)).trans (congrArg _ (put_here))))))))))))
theorem F_Editor_last {v0 v1 v2 v3 v4 v5 v6 v7 v8 v9 : V} : (F_Editor v0 v1 v2 v3 v4 v5 v6 v7 v8 v9).lookup ("last" : Str) = some v7 := (lk_past (by decide +kernel)).trans ((lk_past (by decide +kernel)).trans ((lk_past (by decide +kernel)).trans ((lk_past (by decide +kernel)).trans ((lk_past (by decide +kernel)).trans ((lk_past (by decide +kernel)).trans ((lk_past (by decide +kernel)).trans (lk_here)))))))
theorem P_Editor_last {v0 v1 v2 v3 v4 v5 v6 v7 v8 v9 x : V} : putF "last" x (F_Editor v0 v1 v2 v3 v4 v5 v6 v7 v8 v9) = F_Editor v0 v1 v2 v3 v4 v5 v6 x v8 v9 := (put_past (by decide +kernel)).trans (congrArg _ ((put_past (by decide +kernel)).trans (congrArg _ ((put_past (by decide +kernel)).trans (congrArg _ ((put_past (by decide +kernel)).trans (congrArg _ ((put_past (by decide +kernel)).trans (congrArg _ ((put_past (by decide +kernel)).trans (congrArg _ ((put_past (by decide +kernel)).trans (congrArg _ (put_here))))))))))))))
theorem F_Editor_safe {v0 v1 v2 v3 v4 v5 v6 v7 v8 v9 : V} : (F_Editor v0 v1 v2 v3 v4 v5 v6 v7 v8 v9).lookup ("safe" : Str) = some v8 := (lk_past (by decide +kernel)).trans ((lk_past (by decide +kernel)).trans ((lk_past (by decide +kernel)).trans ((lk_past (by decide +kernel)).trans ((lk_past (by decide +kernel)).trans ((lk_past (by decide +kernel)).trans ((lk_past (by decide +kernel)).trans ((lk_past (by decide +kernel)).trans (lk_here))))))))
theorem P_Editor_safe {v0 v1 v2 v3 v4 v5 v6 v7 v8 v9 x : V} : putF "safe" x (F_Editor v0 v1 v2 v3 v4 v5 v6 v7 v8 v9) = F_Editor v0 v1 v2 v3 v4 v5 v6 v7 x v9 := (put_past (by decide +kernel)).trans (congrArg _ ((put_past (by decide +kernel)).trans (congrArg _ ((put_past (by decide +kernel)).trans (congrArg _ ((put_past (by decide +kernel)).trans (congrArg _ ((put_past (by decide +kernel)).trans (congrArg _ ((put_past (by decide +kernel)).trans (congrArg _ ((put_past (by decide +kernel)).trans (congrArg _ ((put_past (by decide +kernel)).trans (congrArg _ (put_here))))))))))))))))
theorem F_Editor_copying {v0 v1 v2 v3 v4 v5 v6 v7 v8 v9 : V} : (F_Editor v0 v1 v2 v3 v4 v5 v6 v7 v8 v9).lookup ("copying" : Str) = some v9 := (lk_past (by decide +kernel)).trans ((lk_past (by decide +kernel)).trans ((lk_past (by decide +kernel)).trans ((lk_past (by decide +kernel)).trans ((lk_past (by decide +kernel)).trans ((lk_past (by decide +kernel)).trans ((lk_past (by decide +kernel)).trans ((lk_past (by decide +kernel)).trans ((lk_past (by decide +kernel)).trans (lk_here)))))))))
theorem P_Editor_copying {v0 v1 v2 v3 v4 v5 v6 v7 v8 v9 x : V} : putF "copying" x (F_Editor v0 v1 v2 v3 v4 v5 v6 v7 v8 v9) = F_Editor v0 v1 v2 v3 v4 v5 v6 v7 v8 x := (put_past (by decide +kernel)).trans (congrArg _ ((put_past (by decide +kernel)).trans (congrArg _ ((put_past (by decide +kernel)).trans (congrArg _ ((put_past (by decide +kernel)).trans (congrArg _ ((put_past (by decide +kernel)).trans (congrArg _ ((put_past (by decide +kernel)).trans (congrArg _ ((put_past (by decide +kernel)).trans (congrArg _ ((put_past (by decide +kernel)).trans (congrArg _ ((put_past (by decide +kernel)).trans (congrArg _ (put_here))))))))))))))))))
theorem N_Editor_begin_file {v0 v1 v2 v3 v4 v5 v6 v7 v8 v9 : V} : (F_Editor v0 v1 v2 v3 v4 v5 v6 v7 v8 v9).lookup ("begin_file" : Str) = none := (lk_past (by decide +kernel)).trans ((lk_past (by decide +kernel)).trans ((lk_past (by decide +kernel)).trans ((lk_past (by decide +kernel)).trans ((lk_past (by decide +kernel)).trans ((lk_past (by decide +kernel)).trans ((lk_past (by decide +kernel)).trans ((lk_past (by decide +kernel)).trans ((lk_past (by decide +kernel)).trans ((lk_past (by decide +kernel)).trans (rfl))))))))))
theorem N_Editor_other_file {v0 v1 v2 v3 v4 v5 v6 v7 v8 v9 : V} : (F_Editor v0 v1 v2 v3 v4 v5 v6 v7 v8 v9).lookup ("other_file" : Str) = none := (lk_past (by decide +kernel)).trans ((lk_past (by decide +kernel)).trans ((lk_past (by decide +kernel)).trans ((lk_past (by decide +kernel)).trans ((lk_past (by decide +kernel)).trans ((lk_past (by decide +kernel)).trans ((lk_past (by decide +kernel)).trans ((lk_past (by decide +kernel)).trans ((lk_past (by decide +kernel)).trans ((lk_past (by decide +kernel)).trans (rfl))))))))))
theorem N_Editor_append_record {v0 v1 v2 v3 v4 v5 v6 v7 v8 v9 : V} : (F_Editor v0 v1 v2 v3 v4 v5 v6 v7 v8 v9).lookup ("append_record" : Str) = none := (lk_past (by decide +kernel)).trans ((lk_past (by decide +kernel)).trans ((lk_past (by decide +kernel)).trans ((lk_past (by decide +kernel)).trans ((lk_past (by decide +kernel)).trans ((lk_past (by decide +kernel)).trans ((lk_past (by decide +kernel)).trans ((lk_past (by decide +kernel)).trans ((lk_past (by decide +kernel)).trans ((lk_past (by decide +kernel)).trans (rfl))))))))))
theorem N_Editor_flush_all {v0 v1 v2 v3 v4 v5 v6 v7 v8 v9 : V} : (F_Editor v0 v1 v2 v3 v4 v5 v6 v7 v8 v9).lookup ("flush_all" : Str) = none := (lk_past (by decide +kernel)).trans ((lk_past (by decide +kernel)).trans ((lk_past (by decide +kernel)).trans ((lk_past (by decide +kernel)).trans ((lk_past (by decide +kernel)).trans ((lk_past (by decide +kernel)).trans ((lk_past (by decide +kernel)).trans ((lk_past (by decide +kernel)).trans ((lk_past (by decide +kernel)).trans ((lk_past (by decide +kernel)).trans (rfl))))))))))
theorem N_Editor_make_mark {v0 v1 v2 v3 v4 v5 v6 v7 v8 v9 : V} : (F_Editor v0 v1 v2 v3 v4 v5 v6 v7 v8 v9).lookup ("make_mark" : Str) = none := (lk_past (by decide +kernel)).trans ((lk_past (by decide +kernel)).trans ((lk_past (by decide +kernel)).trans ((lk_past (by decide +kernel)).trans ((lk_past (by decide +kernel)).trans ((lk_past (by decide +kernel)).trans ((lk_past (by decide +kernel)).trans ((lk_past (by decide +kernel)).trans ((lk_past (by decide +kernel)).trans ((lk_past (by decide +kernel)).trans (rfl))))))))))
theorem N_Editor_forget_behind {v0 v1 v2 v3 v4 v5 v6 v7 v8 v9 : V} : (F_Editor v0 v1 v2 v3 v4 v5 v6 v7 v8 v9).lookup ("forget_behind" : Str) = none := (lk_past (by decide +kernel)).trans ((lk_past (by decide +kernel)).trans ((lk_past (by decide +kernel)).trans ((lk_past (by decide +kernel)).trans ((lk_past (by decide +kernel)).trans ((lk_past (by decide +kernel)).trans ((lk_past (by decide +kernel)).trans ((lk_past (by decide +kernel)).trans ((lk_past (by decide +kernel)).trans ((lk_past (by decide +kernel)).trans (rfl))))))))))
theorem N_Editor_has_room {v0 v1 v2 v3 v4 v5 v6 v7 v8 v9 : V} : (F_Editor v0 v1 v2 v3 v4 v5 v6 v7 v8 v9).lookup ("has_room" : Str) = none := (lk_past (by decide +kernel)).trans ((lk_past (by decide +kernel)).trans ((lk_past (by decide +kernel)).trans ((lk_past (by decide +kernel)).trans ((lk_past (by decide +kernel)).trans ((lk_past (by decide +kernel)).trans ((lk_past (by decide +kernel)).trans ((lk_past (by decide +kernel)).trans ((lk_past (by decide +kernel)).trans ((lk_past (by decide +kernel)).trans (rfl))))))))))
theorem N_Editor_refused_making {v0 v1 v2 v3 v4 v5 v6 v7 v8 v9 : V} : (F_Editor v0 v1 v2 v3 v4 v5 v6 v7 v8 v9).lookup ("refused_making" : Str) = none := (lk_past (by decide +kernel)).trans ((lk_past (by decide +kernel)).trans ((lk_past (by decide +kernel)).trans ((lk_past (by decide +kernel)).trans ((lk_past (by decide +kernel)).trans ((lk_past (by decide +kernel)).trans ((lk_past (by decide +kernel)).trans ((lk_past (by decide +kernel)).trans ((lk_past (by decide +kernel)).trans ((lk_past (by decide +kernel)).trans (rfl))))))))))
theorem N_Editor_change {v0 v1 v2 v3 v4 v5 v6 v7 v8 v9 : V} : (F_Editor v0 v1 v2 v3 v4 v5 v6 v7 v8 v9).lookup ("change" : Str) = none := (lk_past (by decide +kernel)).trans ((lk_past (by decide +kernel)).trans ((lk_past (by decide +kernel)).trans ((lk_past (by decide +kernel)).trans ((lk_past (by decide +kernel)).trans ((lk_past (by decide +kernel)).trans ((lk_past (by decide +kernel)).trans ((lk_past (by decide +kernel)).trans ((lk_past (by decide +kernel)).trans ((lk_past (by decide +kernel)).trans (rfl))))))))))
theorem N_Editor_mark {v0 v1 v2 v3 v4 v5 v6 v7 v8 v9 : V} : (F_Editor v0 v1 v2 v3 v4 v5 v6 v7 v8 v9).lookup ("mark" : Str) = none := (lk_past (by decide +kernel)).trans ((lk_past (by decide +kernel)).trans ((lk_past (by decide +kernel)).trans ((lk_past (by decide +kernel)).trans ((lk_past (by decide +kernel)).trans ((lk_past (by decide +kernel)).trans ((lk_past (by decide +kernel)).trans ((lk_past (by decide +kernel)).trans ((lk_past (by decide +kernel)).trans ((lk_past (by decide +kernel)).trans (rfl))))))))))
theorem N_Editor_flush {v0 v1 v2 v3 v4 v5 v6 v7 v8 v9 : V} : (F_Editor v0 v1 v2 v3 v4 v5 v6 v7 v8 v9).lookup ("flush" : Str) = none := (lk_past (by decide +kernel)).trans ((lk_past (by decide +kernel)).trans ((lk_past (by decide +kernel)).trans ((lk_past (by decide +kernel)).trans ((lk_past (by decide +kernel)).trans ((lk_past (by decide +kernel)).trans ((lk_past (by decide +kernel)).trans ((lk_past (by decide +kernel)).trans ((lk_past (by decide +kernel)).trans ((lk_past (by decide +kernel)).trans (rfl))))))))))
theorem N_Editor_make_copy {v0 v1 v2 v3 v4 v5 v6 v7 v8 v9 : V} : (F_Editor v0 v1 v2 v3 v4 v5 v6 v7 v8 v9).lookup ("make_copy" : Str) = none := (lk_past (by decide +kernel)).trans ((lk_past (by decide +kernel)).trans ((lk_past (by decide +kernel)).trans ((lk_past (by decide +kernel)).trans ((lk_past (by decide +kernel)).trans ((lk_past (by decide +kernel)).trans ((lk_past (by decide +kernel)).trans ((lk_past (by decide +kernel)).trans ((lk_past (by decide +kernel)).trans ((lk_past (by decide +kernel)).trans (rfl))))))))))
theorem N_Editor_turn {v0 v1 v2 v3 v4 v5 v6 v7 v8 v9 : V} : (F_Editor v0 v1 v2 v3 v4 v5 v6 v7 v8 v9).lookup ("turn" : Str) = none := (lk_past (by decide +kernel)).trans ((lk_past (by decide +kernel)).trans ((lk_past (by decide +kernel)).trans ((lk_past (by decide +kernel)).trans ((lk_past (by decide +kernel)).trans ((lk_past (by decide +kernel)).trans ((lk_past (by decide +kernel)).trans ((lk_past (by decide +kernel)).trans ((lk_past (by decide +kernel)).trans ((lk_past (by decide +kernel)).trans (rfl))))))))))
theorem N_Editor_power {v0 v1 v2 v3 v4 v5 v6 v7 v8 v9 : V} : (F_Editor v0 v1 v2 v3 v4 v5 v6 v7 v8 v9).lookup ("power" : Str) = none := (lk_past (by decide +kernel)).trans ((lk_past (by decide +kernel)).trans ((lk_past (by decide +kernel)).trans ((lk_past (by decide +kernel)).trans ((lk_past (by decide +kernel)).trans ((lk_past (by decide +kernel)).trans ((lk_past (by decide +kernel)).trans ((lk_past (by decide +kernel)).trans ((lk_past (by decide +kernel)).trans ((lk_past (by decide +kernel)).trans (rfl))))))))))
theorem N_Editor_start {v0 v1 v2 v3 v4 v5 v6 v7 v8 v9 : V} : (F_Editor v0 v1 v2 v3 v4 v5 v6 v7 v8 v9).lookup ("start" : Str) = none := (lk_past (by decide +kernel)).trans ((lk_past (by decide +kernel)).trans ((lk_past (by decide +kernel)).trans ((lk_past (by decide +kernel)).trans ((lk_past (by decide +kernel)).trans ((lk_past (by decide +kernel)).trans ((lk_past (by decide +kernel)).trans ((lk_past (by decide +kernel)).trans ((lk_past (by decide +kernel)).trans ((lk_past (by decide +kernel)).trans (rfl))))))))))
theorem N_Editor_shows {v0 v1 v2 v3 v4 v5 v6 v7 v8 v9 : V} : (F_Editor v0 v1 v2 v3 v4 v5 v6 v7 v8 v9).lookup ("shows" : Str) = none := (lk_past (by decide +kernel)).trans ((lk_past (by decide +kernel)).trans ((lk_past (by decide +kernel)).trans ((lk_past (by decide +kernel)).trans ((lk_past (by decide +kernel)).trans ((lk_past (by decide +kernel)).trans ((lk_past (by decide +kernel)).trans ((lk_past (by decide +kernel)).trans ((lk_past (by decide +kernel)).trans ((lk_past (by decide +kernel)).trans (rfl))))))))))
theorem N_Editor_on_disk {v0 v1 v2 v3 v4 v5 v6 v7 v8 v9 : V} : (F_Editor v0 v1 v2 v3 v4 v5 v6 v7 v8 v9).lookup ("on_disk" : Str) = none := (lk_past (by decide +kernel)).trans ((lk_past (by decide +kernel)).trans ((lk_past (by decide +kernel)).trans ((lk_past (by decide +kernel)).trans ((lk_past (by decide +kernel)).trans ((lk_past (by decide +kernel)).trans ((lk_past (by decide +kernel)).trans ((lk_past (by decide +kernel)).trans ((lk_past (by decide +kernel)).trans ((lk_past (by decide +kernel)).trans (rfl))))))))))
theorem N_Editor_spoil {v0 v1 v2 v3 v4 v5 v6 v7 v8 v9 : V} : (F_Editor v0 v1 v2 v3 v4 v5 v6 v7 v8 v9).lookup ("spoil" : Str) = none := (lk_past (by decide +kernel)).trans ((lk_past (by decide +kernel)).trans ((lk_past (by decide +kernel)).trans ((lk_past (by decide +kernel)).trans ((lk_past (by decide +kernel)).trans ((lk_past (by decide +kernel)).trans ((lk_past (by decide +kernel)).trans ((lk_past (by decide +kernel)).trans ((lk_past (by decide +kernel)).trans ((lk_past (by decide +kernel)).trans (rfl))))))))))
theorem N_Editor_state {v0 v1 v2 v3 v4 v5 v6 v7 v8 v9 : V} : (F_Editor v0 v1 v2 v3 v4 v5 v6 v7 v8 v9).lookup ("state" : Str) = none := (lk_past (by decide +kernel)).trans ((lk_past (by decide +kernel)).trans ((lk_past (by decide +kernel)).trans ((lk_past (by decide +kernel)).trans ((lk_past (by decide +kernel)).trans ((lk_past (by decide +kernel)).trans ((lk_past (by decide +kernel)).trans ((lk_past (by decide +kernel)).trans ((lk_past (by decide +kernel)).trans ((lk_past (by decide +kernel)).trans (rfl))))))))))
theorem N_Editor_was {v0 v1 v2 v3 v4 v5 v6 v7 v8 v9 : V} : (F_Editor v0 v1 v2 v3 v4 v5 v6 v7 v8 v9).lookup ("was" : Str) = none := (lk_past (by decide +kernel)).trans ((lk_past (by decide +kernel)).trans ((lk_past (by decide +kernel)).trans ((lk_past (by decide +kernel)).trans ((lk_past (by decide +kernel)).trans ((lk_past (by decide +kernel)).trans ((lk_past (by decide +kernel)).trans ((lk_past (by decide +kernel)).trans ((lk_past (by decide +kernel)).trans ((lk_past (by decide +kernel)).trans (rfl))))))))))

structure TEd (K : PySem.W.Frag) (C : Addr) : Prop where
  cl : Cls K C
  n_disk : NoAttr K C "disk"
  n_powered : NoAttr K C "powered"
  n_remembered : NoAttr K C "remembered"
  n_used : NoAttr K C "used"
  n_number : NoAttr K C "number"
  n_size : NoAttr K C "size"
  n_text : NoAttr K C "text"
  n_last : NoAttr K C "last"
  n_safe : NoAttr K C "safe"
  n_copying : NoAttr K C "copying"
/-! ### the marks that are remembered -/
def MVal (N : List Addr) (H : Hp) (o : Option V) : Option (Nat × List Nat) → Prop
  | none => o = none
  | some x => ∃ a, o = some (.ref a) ∧ H a = some (.lst (enc x.2)) ∧ a ∉ N
structure MkAt (N : List Addr) (kvs : List (L2.Key × V)) (l : List (Nat × List Nat)) (H : Hp) : Prop where
  nd : (kvs.map (·.1)).Nodup
  keys : ∀ p ∈ kvs, ∃ k : Nat, p.1 = .inl (k : Int)
  val : ∀ k : Nat, MVal N H (valV kvs (.inl (k : Int))) (l.find? fun x => x.1 == k)
theorem MVal.mono {N N' : List Addr} {H H' : Hp} {o : Option V} {q : Option (Nat × List Nat)} (f : ∀ b xs, H b = some (.lst xs) → b ∉ N → H' b = some (.lst xs)) (hn : ∀ c xs, H c = some (.lst xs) → c ∉ N → c ∉ N') (h : MVal N H o q) : MVal N' H' o q := by
  cases q with
  | none => exact h
  | some x =>
    obtain ⟨a, h1, h2, h3⟩ := h
    exact ⟨a, h1, f _ _ h2 h3, hn _ _ h2 h3⟩
theorem MkAt.mono {N N' : List Addr} {H H' : Hp} {kvs : List (L2.Key × V)} {l : List (Nat × List Nat)} (f : ∀ b xs, H b = some (.lst xs) → b ∉ N → H' b = some (.lst xs)) (hn : ∀ c xs, H c = some (.lst xs) → c ∉ N → c ∉ N') (h : MkAt N kvs l H) : MkAt N' kvs l H' :=
  ⟨h.nd, h.keys, fun k => (h.val k).mono f hn⟩
theorem MkAt.grow {N : List Addr} {H H' : Hp} {kvs : List (L2.Key × V)} {l : List (Nat × List Nat)} (h : MkAt N kvs l H) (x : Ex H H') : MkAt N kvs l H' := h.mono (fun b xs q _ => x b _ q) (fun _ _ _ q => q)
theorem nd_le {α : Type} [DecidableEq α] : ∀ {a b : List α}, a.Nodup → (∀ x ∈ a, x ∈ b) → a.length ≤ b.length
  | [], _, _, _ => Nat.zero_le _
  | x :: r, b, h, s => by
    rw [List.nodup_cons] at h
    have hx : x ∈ b := s x (List.mem_cons_self ..)
    have ih := nd_le (a := r) (b := b.erase x) h.2 (fun y hy => (List.mem_erase_of_ne (fun z => h.1 (by rw [← z]; exact hy))).mpr (s y (List.mem_cons_of_mem _ hy)))
    rw [List.length_erase_of_mem hx] at ih
    have : 0 < b.length := List.length_pos_of_mem hx
    rw [List.length_cons]
    omega
theorem valV_of_mem {kvs : List (L2.Key × V)} {p : L2.Key × V} (h : p ∈ kvs) : valV kvs p.1 ≠ none := by
  intro z
  have e := valV_any p.1 kvs
  rw [z] at e
  have : (kvs.any fun kv => decide (kv.1 = p.1)) = true := List.any_eq_true.mpr ⟨p, h, by simp⟩
  rw [this] at e
  cases e
theorem MkAt.len {N : List Addr} {H : Hp} {kvs : List (L2.Key × V)} {l : List (Nat × List Nat)} (h : MkAt N kvs l H) : kvs.length ≤ l.length := by
  have := nd_le (b := l.map fun x => (Sum.inl (x.1 : Int) : L2.Key)) h.nd (fun k hk => ?_)
  · rw [List.length_map, List.length_map] at this
    exact this
  · obtain ⟨p, hp, rfl⟩ := List.mem_map.mp hk
    obtain ⟨n, hn⟩ := h.keys p hp
    have hv := h.val n
    rw [← hn] at hv
    cases q : l.find? fun x => x.1 == n with
    | none =>
      rw [q] at hv
      exact absurd hv (valV_of_mem hp)
    | some x =>
      have h1 := List.mem_of_find?_eq_some q
      have h2 : x.1 = n := by simpa using List.find?_some q
      exact List.mem_map.mpr ⟨x, h1, by rw [h2]; exact hn.symm⟩
/-- the editor's fields: its text's list at t, the dict of the marks at ma -/
def edF (d ma t : Addr) (g : Ue12.St) : List (Str × V) := F_Editor (.ref d) (.bl g.on) (.ref ma) (nv g.file.toNat) (nv g.number) (nv g.size) (.ref t) (nv g.mark) (nv g.safe) (.bl g.copy.isSome)
structure EdAt (X : List Addr) (CE CD CW e d fl wl ma : Addr) (ws : List Addr) (g : Ue12.St) (H : Hp) : Prop where
  obj : ∃ de t, H e = some (.ins CE de (edF d ma t g)) ∧ H t = some (.lst (enc g.text)) ∧ t ∉ fl :: wl :: X
  disk : DkAt X CD CW d fl wl ws g.disk H
  marks : ∃ kvs, H ma = some (.dK kvs) ∧ MkAt (fl :: wl :: X) kvs g.marks H
/-- what holds between two calls -/
structure GoodB (g : Ue12.St) : Prop where
  d : GoodD g.disk
  text : g.text.length ≤ 200
  size : g.size ≤ 600
  cache : g.disk.cache.length ≤ g.size
  pos : 1 ≤ g.size
  copy : ∀ n, g.copy = some n → n = 3 + (Ue12.start_ g.text (g.mark + 1)).length
  off : g.on = false → g.disk.cache = []
  mt : ∀ x ∈ g.marks, x.2.length ≤ 200
/-- and: not too many marks -/
structure Good (g : Ue12.St) : Prop extends GoodB g where
  marks : g.marks.length ≤ 1000
theorem edF_disk {fs : List (Str × V)} {d ma t : Addr} {g : Ue12.St} (h : fs = edF d ma t g) : ¬ ((∃ x y, fs = F_Disk x y) ∨ (∃ x y z, fs = F_Write x y z)) := by
  subst h
  rintro (⟨x, y, h⟩ | ⟨x, y, z, h⟩)
  · have := congrArg List.length h
    exact absurd this (by show ¬ (10 = 2); decide)
  · have := congrArg List.length h
    exact absurd this (by show ¬ (10 = 3); decide)
/-- the editor's own object changes: the disk stays -/
theorem DkAt.updE {X : List Addr} {CE CD CW e de d fl wl : Addr} {ws : List Addr} {F : Ue12.Files} {H : Hp} {fs : List (Str × V)} {o : HO} (h : DkAt X CD CW d fl wl ws F H) (he : H e = some (.ins CE de fs)) (hf : ¬ ((∃ x y, fs = F_Disk x y) ∨ (∃ x y z, fs = F_Write x y z))) : DkAt X CD CW d fl wl ws F (upd H e o) := by
  refine h.frame (fun b u hb q => ?_) (live_upd h.xs)
  rw [upd_ne]
  · exact hb
  · intro z
    rw [z, he] at hb
    rcases q CE de fs (Option.some.inj hb).symm with q | q
    · exact hf (.inl q.2)
    · exact hf (.inr q.2)
/-- the dict of the marks changes: the disk stays -/
theorem DkAt.updM {X : List Addr} {CD CW d fl wl ma : Addr} {ws : List Addr} {F : Ue12.Files} {H : Hp} {kvs : List (L2.Key × V)} {o : HO} (h : DkAt X CD CW d fl wl ws F H) (hm : H ma = some (.dK kvs)) : DkAt X CD CW d fl wl ws F (upd H ma o) := by
  obtain ⟨⟨dd, h1⟩, ⟨a0, a1, h2, h3, h4, h5, h6⟩, h7, h8, h9, h10⟩ := h
  have el : ∀ b xs, H b = some (.lst xs) → upd H ma o b = some (.lst xs) := fun b xs q => by rw [upd_ne (ne_of q hm (by intro z; cases z))]; exact q
  refine ⟨⟨dd, by rw [upd_ne (ne_of h1 hm (by intro z; cases z))]; exact h1⟩, ⟨a0, a1, el _ _ h2, el _ _ h3, el _ _ h4, h5, h6⟩, el _ _ h7, ?_, h9, live_upd h10⟩
  clear h7
  revert h8
  generalize F.cache = xs
  intro h8
  induction ws generalizing xs with
  | nil =>
    cases xs with
    | nil => trivial
    | cons _ _ => exact h8.elim
  | cons p ws ih =>
    cases xs with
    | nil => exact h8.elim
    | cons x xs =>
      obtain ⟨⟨dw, c, q1, q2, q3⟩, q4⟩ := h8
      exact ⟨⟨dw, c, by rw [upd_ne (ne_of q1 hm (by intro z; cases z))]; exact q1, el _ _ q2, q3⟩, ih xs q4⟩
theorem EdAt.grow {X : List Addr} {CE CD CW e d fl wl ma : Addr} {ws : List Addr} {g : Ue12.St} {H H' : Hp} (h : EdAt X CE CD CW e d fl wl ma ws g H) (x : Ex H H') : EdAt X CE CD CW e d fl wl ma ws g H' := by
  obtain ⟨⟨de, t, h1, h2, h3⟩, D, kvs, hm, M⟩ := h
  exact ⟨⟨de, t, x _ _ h1, x _ _ h2, h3⟩, D.grow x, kvs, x _ _ hm, M.grow x⟩
/-- a field of the editor changes (not the text, not the marks) -/
theorem EdAt.put {X : List Addr} {CE CD CW e d fl wl ma de t : Addr} {ws : List Addr} {g g' : Ue12.St} {H : Hp} (Ed : EdAt X CE CD CW e d fl wl ma ws g H) (h1 : H e = some (.ins CE de (edF d ma t g))) (h2 : H t = some (.lst (enc g.text))) (h3 : t ∉ fl :: wl :: X) {fs : List (Str × V)} (hfs : fs = edF d ma t g') (ht : g'.text = g.text) (hd : g'.disk = g.disk) (hm : g'.marks = g.marks) : EdAt X CE CD CW e d fl wl ma ws g' (upd H e (.ins CE de fs)) := by
  subst hfs
  have nte : t ≠ e := ne_of h2 h1 (by intro z; cases z)
  obtain ⟨kvs, m1, M⟩ := Ed.marks
  refine ⟨⟨de, t, upd_same, by rw [upd_ne nte, ht]; exact h2, h3⟩, ?_, kvs, by rw [upd_ne (ne_of m1 h1 (by intro z; cases z))]; exact m1, ?_⟩
  · rw [hd]
    exact Ed.disk.updE h1 (edF_disk rfl)
  · rw [hm]
    exact M.mono (fun b xs q _ => by rw [upd_ne (ne_of q h1 (by intro z; cases z))]; exact q) (fun _ _ _ q => q)
section
variable {P : Program} {w : World} {K : PySem.W.Frag} {mg : Str → Option Value} {base : Heap} {X : List Addr} {CE CD CW : Addr}
def sp_other_file (X : List Addr) (CE CD CW : Addr) : Sp := fun vs H Q _ => ∃ (e d fl wl ma : Addr) (ws : List Addr) (g : Ue12.St), vs = [.ref e] ∧ EdAt X CE CD CW e d fl wl ma ws g H ∧ RetV (nv (!g.file).toNat) H Q
theorem not_nat (b : Bool) : (!b).toNat = 1 - b.toNat := by cases b <;> rfl
theorem ok_other_file (T : TEd K CE) (d : MetX K CE "other_file" "Editor.other_file" s_Editor_other_file ["self"]) : C8.Met P w K mg base 1 CE "other_file" (sp_other_file X CE CD CW) [] := by
  refine met_mk d sc_Editor_other_file (fun vs H Q E ⟨_, _, _, _, _, _, _, h, _⟩ => by rw [h]; rfl) (fun f cdv A outer s H vs Q E hr ⟨e, d, fl, wl, ma, ws, g, hv, Ed, k⟩ => ?_)
  subst hv
  obtain ⟨de, t, h1, h2, h3⟩ := Ed.obj
  refine ⟨_, (pss_one (ps_ret (pe_op op_sub pe_int (pe_fld (pv 0) rfl)))), ?_⟩
  rw [not_nat] at k
  exact s_ret (en_sub (en_c (a := 1)) (ev_fld (ev_var rfl) h1 T.cl T.n_used F_Editor_used) (by cases g.file <;> decide)) k
def sp_has_room (X : List Addr) (CE CD CW : Addr) : Sp := fun vs H Q _ => ∃ (e d fl wl ma : Addr) (ws : List Addr) (g : Ue12.St) (c : Addr) (t : List Nat), vs = [.ref e, .ref c] ∧ EdAt X CE CD CW e d fl wl ma ws g H ∧ H c = some (.lst (enc t)) ∧ RetV (.bl (decide (g.size + t.length ≤ 600))) H Q
theorem ok_has_room (G : Glob mg) (T : TEd K CE) (d : MetX K CE "has_room" "Editor.has_room" s_Editor_has_room ["self", "row"]) : C8.Met P w K mg base 1 CE "has_room" (sp_has_room X CE CD CW) [] := by
  refine met_mk d sc_Editor_has_room (fun vs H Q E ⟨_, _, _, _, _, _, _, _, _, h, _⟩ => by rw [h]; rfl) (fun f cdv A outer s H vs Q E hr ⟨e, d, fl, wl, ma, ws, g, c, t, hv, Ed, hc, k⟩ => ?_)
  subst hv
  obtain ⟨de, t, h1, h2, h3⟩ := Ed.obj
  refine ⟨_, (pss_one (ps_ret (pe_cmpR op_le (pe_op op_add (pe_fld (pv 0) rfl) (pe_callB call_len_seq (by rfl) G.b_len PySem.boot_len (pa_cons (pv 1) pa_nil))) (C8.pe_gc (by rfl) G.c_LARGEST_SIZE) (nomark _)))), ?_⟩
  exact s_ret (eb_le (en_add (ev_fld (ev_var rfl) h1 T.cl T.n_size F_Editor_size) (en_lenB (er_var rfl hc))) (en_c (a := 600))) k
/-- the refusal that change, mark and copy share -/
def refusal (g : Ue12.St) : Int := if g.on = false then -9 else if g.copy.isSome = true then -8 else 0
def sp_refused (X : List Addr) (CE CD CW : Addr) : Sp := fun vs H Q _ => ∃ (e d fl wl ma : Addr) (ws : List Addr) (g : Ue12.St), vs = [.ref e] ∧ EdAt X CE CD CW e d fl wl ma ws g H ∧ RetV (.int (refusal g)) H Q
theorem ok_refused (G : Glob mg) (T : TEd K CE) (d : MetX K CE "refused_making" "Editor.refused_making" s_Editor_refused_making ["self"]) : C8.Met P w K mg base 1 CE "refused_making" (sp_refused X CE CD CW) [] := by
  refine met_mk d sc_Editor_refused_making (fun vs H Q E ⟨_, _, _, _, _, _, _, h, _⟩ => by rw [h]; rfl) (fun f cdv A outer s H vs Q E hr ⟨e, d, fl, wl, ma, ws, g, hv, Ed, k⟩ => ?_)
  subst hv
  obtain ⟨de, t, h1, h2, h3⟩ := Ed.obj
  refine ⟨_, (pss_cons (ps_if (pt_not (pt_val (pe_fld (pv 0) rfl)))
      (pss_one (ps_ret (C8.pe_gc (by rfl) G.c_POWER_WRONG)))
      pss_nil)
    (pss_one (ps_ret (pe_ifExp (pt_val (pe_fld (pv 0) rfl)) (C8.pe_gc (by rfl) G.c_COPY_WRONG) pe_int)))), ?_⟩
  refine q_when (et_not (et_B (ev_fld (ev_var rfl) h1 T.cl T.n_powered F_Editor_powered))) (fun hb H1 e1 => ?_) (fun hb H1 e1 => ?_)
  · have hb : g.on = false := by simpa using hb
    have er : refusal g = -9 := by unfold refusal; rw [if_pos hb]
    rw [er] at k
    exact s_ret ev_c fun H2 e2 => k.go (e1.trans e2)
  · have hb : g.on = true := by simpa using hb
    refine s_retIf (et_B (ev_fld (ev_var rfl) (e1 _ _ h1) T.cl T.n_copying F_Editor_copying)) (fun hc H2 e2 => ?_) (fun hc H2 e2 => ?_)
    · have er : refusal g = -8 := by unfold refusal; rw [if_neg (by rw [hb]; decide), if_pos hc]
      rw [er] at k
      exact k.go (e1.trans e2)
    · have er : refusal g = 0 := by unfold refusal; rw [if_neg (by rw [hb]; decide), if_neg (by rw [hc]; decide)]
      rw [er] at k
      exact k.go (e1.trans e2)
end
end Pk

set_option Elab.async false
set_option linter.all false
set_option maxRecDepth 100000
set_option maxHeartbeats 2000000
namespace Pk
open PySem PySem.Spec PyProof.Rows L2 Evl
/-! ### words for methods and for the editor's fields -/
section
variable {K : PySem.W.Frag} {σ : L2.St} {H : Hp} {ta tb te : TE} {v : V} {D : Ends} {tz : TS} {a C dx : Addr} {fs : List (Str × V)} {m : Str} {xs : List V} {t : TA} {sp : Sp} {E : XK} {Q : VK} {ps : List (V → Hp → Prop)}
theorem ev_methV (ho : Ev ta σ H (.ref a)) (hi : H a = some (.ins C dx fs)) (hm : fs.lookup m = none) (h : Ap t σ H (Fits ps)) (k : ∀ vs H1, Ex H H1 → Fits ps vs H1 → ∀ Q, RetV v H1 Q → sp (.ref a :: vs) H1 Q E) : Ev (tMeth C m sp [] E ta t) σ H v := fun H1 e1 Q q =>
  ho H1 e1 _ fun H2 e2 => ⟨a, dx, fs, rfl, e2 _ _ (e1 _ _ hi), hm, h H2 (e1.trans e2) _ fun vs H3 e3 hv => by
    rw [List.append_nil]
    exact k vs H3 ((e1.trans e2).trans e3) hv Q fun H4 e4 => q H4 ((e2.trans e3).trans e4)⟩
theorem fits0 {vs : List V} {H : Hp} (h : Fits [] vs H) : vs = [] := match vs, h with
  | [], _ => rfl
theorem q_methS (ho : Ev ta σ H (.ref a)) (hi : H a = some (.ins C dx fs)) (hm : fs.lookup m = none) (h : Ap t σ H (Fits ps)) (k : ∀ vs H1, Ex H H1 → Fits ps vs H1 → sp (.ref a :: vs) H1 (fun _ H2 => tz D σ H2) E) : tSeq (tDrop (tMeth C m sp [] E ta t)) tz D σ H := r_meth ho hi hm h k
end
section
variable {X : List Addr} {K : PySem.W.Frag} {CE CD CW e d fl wl ma wl' : Addr} {ws ws' : List Addr} {g g' : Ue12.St} {H H2 : Hp} {F' : Ue12.Files}
theorem EdAt.neD (Ed : EdAt X CE CD CW e d fl wl ma ws g H) : e ∉ [d, fl, wl] := by
  obtain ⟨de, t, h1, _⟩ := Ed.obj
  obtain ⟨dd, hd⟩ := Ed.disk.obj
  have n1 : e ≠ d := fun z => by
    rw [z, hd] at h1
    injection h1 with h1
    injection h1 with _ _ h1
    exact edF_disk h1 (.inl ⟨_, _, rfl⟩)
  obtain ⟨_, _, f1, _⟩ := Ed.disk.files
  have n2 : e ≠ fl := ne_of h1 f1 (by intro z; cases z)
  have n3 : e ≠ wl := ne_of h1 Ed.disk.wlist (by intro z; cases z)
  simp [n1, n2, n3]
theorem Fr.fresh {S : List Addr} {H H' : Hp} (fr : Fr S H H') (hS : ∀ x ∈ S, H' x ≠ none) {p : Addr} (hp : H' p = none) : H p = none := by
  cases hH : H p with
  | none => rfl
  | some o =>
    exfalso
    by_cases z : p ∈ S
    · exact hS p z hp
    · rw [fr _ _ hH z] at hp
      cases hp
theorem EdAt.live (Ed : EdAt X CE CD CW e d fl wl ma ws g H) : ∀ x ∈ [e, d, fl, wl, ma], H x ≠ none := by
  obtain ⟨_, _, h1, _⟩ := Ed.obj
  obtain ⟨_, _, f1, _⟩ := Ed.disk.files
  obtain ⟨_, hd⟩ := Ed.disk.obj
  obtain ⟨_, hm, _⟩ := Ed.marks
  intro x hx
  simp at hx
  rcases hx with rfl | rfl | rfl | rfl | rfl
  · rw [h1]; simp
  · rw [hd]; simp
  · rw [f1]; simp
  · rw [Ed.disk.wlist]; simp
  · rw [hm]; simp
theorem EdAt.live3 (Ed : EdAt X CE CD CW e d fl wl ma ws g H) : ∀ x ∈ [e, d, fl], H x ≠ none := fun x hx => Ed.live x (by simp at hx ⊢; rcases hx with h | h | h <;> simp [h])
theorem EdAt.neM (Ed : EdAt X CE CD CW e d fl wl ma ws g H) : ma ∉ [e, d, fl, wl] := by
  obtain ⟨_, _, h1, _⟩ := Ed.obj
  obtain ⟨_, _, f1, _⟩ := Ed.disk.files
  obtain ⟨_, hd⟩ := Ed.disk.obj
  obtain ⟨_, hm, _⟩ := Ed.marks
  have n1 : ma ≠ e := ne_of hm h1 (by intro z; cases z)
  have n2 : ma ≠ d := ne_of hm hd (by intro z; cases z)
  have n3 : ma ≠ fl := ne_of hm f1 (by intro z; cases z)
  have n4 : ma ≠ wl := ne_of hm Ed.disk.wlist (by intro z; cases z)
  simp [n1, n2, n3, n4]
/-- the disk has gone on: the editor with it -/
theorem EdAt.diskTo (Ed : EdAt X CE CD CW e d fl wl ma ws g H) (D2 : DkAt X CD CW d fl wl' ws' F' H2) (fr : Fr [d, fl, wl] H H2) (hw : wl' = wl ∨ H wl' = none) : EdAt X CE CD CW e d fl wl' ma ws' { g with disk := F' } H2 := by
  have ne := Ed.neD
  have nm := Ed.neM
  obtain ⟨de, t, h1, h2, h3⟩ := Ed.obj
  obtain ⟨dd, hd⟩ := Ed.disk.obj
  obtain ⟨kvs, hm, M⟩ := Ed.marks
  have row : ∀ b xs, H b = some (.lst xs) → b ∉ fl :: wl :: X → b ∉ [d, fl, wl] := fun b xs q n => by
    have n1 : b ≠ d := ne_of q hd (by intro z; cases z)
    simp [n1, nm1 n, nm2 n]
  have row' : ∀ b xs, H b = some (.lst xs) → b ∉ fl :: wl :: X → b ∉ fl :: wl' :: X := fun b xs q n => by
    rcases hw with rfl | hw
    · exact n
    · exact not_mem2 (nm1 n) (ne_of_none q hw) (nm3 n)
  refine ⟨⟨de, t, fr _ _ h1 ne, fr _ _ h2 (row _ _ h2 h3), row' _ _ h2 h3⟩, D2, kvs, fr _ _ hm (by simp at nm ⊢; simp [nm]), M.mono (fun b xs q n => fr _ _ q (row b xs q n)) row'⟩
/-- self.f = value -/
theorem s_ed {σ : L2.St} {ta te : TE} {v : V} {D : Ends} {f : Str} (T : TEd K CE) (Ed : EdAt X CE CD CW e d fl wl ma ws g H) (hv : Ev te σ H v) (ha : Ev ta σ H (.ref e)) (hn : NoAttr K CE f) (hput : ∀ t, putF f v (edF d ma t g) = edF d ma t g') (ht : g'.text = g.text) (hd : g'.disk = g.disk)
    (k : ∀ H', EdAt X CE CD CW e d fl wl ma ws g' H' → Fr [e] H H' → D.nx σ H') (hm : g'.marks = g.marks := by rfl) : sFld K ta te f D σ H := by
  obtain ⟨de, t, h1, h2, h3⟩ := Ed.obj
  refine s_fldV hv ha h1 T.cl hn (by show 10 < 1000; decide) (fun H1 e1 => ?_)
  exact k _ (EdAt.put (Ed.grow e1) (e1 _ _ h1) (e1 _ _ h2) h3 (hput t) ht hd hm) ((Fr.ex e1).upd (by simp))
theorem q_ed {σ : L2.St} {ta te : TE} {v : V} {D : Ends} {f : Str} {tz : TS} (T : TEd K CE) (Ed : EdAt X CE CD CW e d fl wl ma ws g H) (hv : Ev te σ H v) (ha : Ev ta σ H (.ref e)) (hn : NoAttr K CE f) (hput : ∀ t, putF f v (edF d ma t g) = edF d ma t g') (ht : g'.text = g.text) (hd : g'.disk = g.disk)
    (k : ∀ H', EdAt X CE CD CW e d fl wl ma ws g' H' → Fr [e] H H' → tz D σ H') (hm : g'.marks = g.marks := by rfl) : tSeq (sFld K ta te f) tz D σ H := s_ed (D := { D with nx := tz D }) T Ed hv ha hn hput ht hd k hm
end
section
variable {P : Program} {w : World} {K : PySem.W.Frag} {mg : Str → Option Value} {base : Heap} {X : List Addr} {CE CD CW : Addr}
/-- a record is appended -/
def appS (g : Ue12.St) (t : List Nat) : Ue12.St := { g with disk := { g.disk with cache := g.disk.cache ++ [(g.file, g.size, t)] }, size := g.size + t.length }
def sp_append (X : List Addr) (CE CD CW : Addr) : Sp := fun vs H Q _ => ∃ (e d fl wl ma : Addr) (ws : List Addr) (g : Ue12.St) (c : Addr) (t : List Nat), vs = [.ref e, .ref c] ∧ EdAt X CE CD CW e d fl wl ma ws g H ∧ H c = some (.lst (enc t)) ∧ c ∉ fl :: wl :: X ∧ g.disk.cache.length ≤ 1000 ∧
  ∀ H' ws', EdAt X CE CD CW e d fl wl ma ws' (appS g t) H' → Fr [e, d, fl, wl, ma] H H' → Q .non H'
theorem ok_append (G : Glob mg) (T : TEd K CE) (c_send : C8.Met P w K mg base 3 CD "send" (sp_send X CD CW) []) (d : MetX K CE "append_record" "Editor.append_record" s_Editor_append_record ["self", "row"]) : C8.Met P w K mg base 4 CE "append_record" (sp_append X CE CD CW) [] := by
  refine met_mk d sc_Editor_append_record (fun vs H Q E ⟨_, _, _, _, _, _, _, _, _, h, _⟩ => by rw [h]; rfl) (fun f cdv A outer s H vs Q E hr ⟨e, d, fl, wl, ma, ws, g, c, t, hv, Ed, hc, hcn, hl, k⟩ => ?_)
  subst hv
  obtain ⟨de, tx, h1, h2, h3⟩ := Ed.obj
  obtain ⟨dd, hd⟩ := Ed.disk.obj
  refine ⟨_, (pss_cons (ps_expr (C8.pe_mt c_send hr (by decide) (pe_fld (pv 0) rfl) (pa_cons (pe_fld (pv 0) rfl) (pa_cons (pe_fld (pv 0) rfl) (pa_cons (pv 1) pa_nil)))))
    (pss_one (ps_fld (pv 0) (pe_op op_add (pe_fld (pv 0) rfl) (pe_callB call_len_seq (by rfl) G.b_len PySem.boot_len (pa_cons (pv 1) pa_nil))) rfl))), ?_⟩
  refine (r_meth (ev_fld (ev_var rfl) h1 T.cl T.n_disk F_Editor_disk) hd N_Disk_send (ap_v (ev_fld (ev_var rfl) h1 T.cl T.n_used F_Editor_used) (ap_v (ev_fld (ev_var rfl) h1 T.cl T.n_size F_Editor_size) (ap_v (ev_var rfl) ap_nil))) (fun vs H1 e1 hvs => ?_))
  obtain ⟨v1, v2, v3, rfl, rfl, rfl, rfl⟩ := fits3 hvs
  refine ⟨d, fl, wl, ws, g.disk, g.file, g.size, c, t, rfl, Ed.disk.grow e1, e1 _ _ hc, hcn, hl, fun H2 ws' D2 fr2 => ?_⟩
  have nc : c ∉ [d, fl, wl] := by
    have n1 : c ≠ d := ne_of hc hd (by intro z; cases z)
    simp [n1, nm1 hcn, nm2 hcn]
  have hc' := fr2 _ _ (e1 _ _ hc) nc
  have Ed2 := (Ed.grow e1).diskTo D2 fr2 (.inl rfl)
  obtain ⟨de2, tx2, h12, _, _⟩ := Ed2.obj
  refine s_ed (g' := appS g t) T Ed2 (en_add (ev_fld (ev_var rfl) h12 T.cl T.n_size F_Editor_size) (en_lenB (er_var rfl hc'))) (ev_var rfl) T.n_size (fun t => P_Editor_size) rfl rfl (fun H3 Ed3 fr3 => ?_)
  exact k _ ws' Ed3 (((Fr.ex e1).trans (fr2.mono (by simp))).trans (fr3.mono (by simp)))
/-! ### a mark is remembered -/
theorem find_cons (k : Nat) (x : Nat × List Nat) (l : List (Nat × List Nat)) : ((x :: l).find? fun y => y.1 == k) = if x.1 = k then some x else l.find? fun y => y.1 == k := by
  by_cases h : x.1 = k
  · rw [List.find?_cons_of_pos (by simpa using h), if_pos h]
  · rw [List.find?_cons_of_neg (by simpa using h), if_neg h]
theorem nd_put {kvs : List (L2.Key × V)} {k : L2.Key} {v : V} (h : (kvs.map (·.1)).Nodup) : ((putK kvs k v).map (·.1)).Nodup := by
  cases q : valV kvs k with
  | none => exact nd_putK v h q
  | some x =>
    have e : (putK kvs k v).map (·.1) = kvs.map (·.1) := by
      unfold putK
      rw [if_pos (by rw [valV_any, q]; rfl), List.map_map]
      refine List.map_congr_left fun p _ => ?_
      show (if p.1 = k then (p.1, v) else p).1 = p.1
      split <;> rfl
    rw [e]
    exact h
theorem keys_put {kvs : List (L2.Key × V)} {k : L2.Key} {v : V} {p : L2.Key × V} (h : p ∈ putK kvs k v) : p.1 = k ∨ ∃ q ∈ kvs, q.1 = p.1 := by
  unfold putK at h
  split at h
  · obtain ⟨q, hq, rfl⟩ := List.mem_map.mp h
    refine .inr ⟨q, hq, ?_⟩
    split <;> rfl
  · rcases List.mem_append.mp h with h | h
    · exact .inr ⟨p, h, rfl⟩
    · rw [List.mem_singleton.mp h]
      exact .inl rfl
theorem inl_inj {a b : Nat} : (Sum.inl (a : Int) : L2.Key) = Sum.inl (b : Int) ↔ a = b := by
  constructor
  · intro h
    injection h with h
    omega
  · intro h
    rw [h]
theorem MkAt.add {N : List Addr} {H : Hp} {kvs : List (L2.Key × V)} {l : List (Nat × List Nat)} {n : Nat} {t : List Nat} {a : Addr} (M : MkAt N kvs l H) (ha : H a = some (.lst (enc t))) (hn : a ∉ N) : MkAt N (putK kvs (.inl (n : Int)) (.ref a)) ((n, t) :: l) H := by
  refine ⟨nd_put M.nd, fun p hp => ?_, fun k => ?_⟩
  · rcases keys_put hp with h | ⟨q, hq, h⟩
    · exact ⟨n, h⟩
    · rw [← h]
      exact M.keys q hq
  · rw [valV_put, find_cons]
    by_cases h : n = k
    · rw [if_pos h, if_pos (inl_inj.mpr h.symm)]
      exact ⟨a, rfl, ha, hn⟩
    · rw [if_neg h, if_neg fun z => h (inl_inj.mp z).symm]
      exact M.val k
/-- self.last + 1 is a mark of the text -/
def mkS (g : Ue12.St) : Ue12.St := { g with mark := g.mark + 1, marks := (g.mark + 1, g.text) :: g.marks }
def sp_make_mark (X : List Addr) (CE CD CW : Addr) : Sp := fun vs H Q _ => ∃ (e d fl wl ma : Addr) (ws : List Addr) (g : Ue12.St), vs = [.ref e] ∧ EdAt X CE CD CW e d fl wl ma ws g H ∧ g.marks.length ≤ 1000 ∧
  ∀ H', EdAt X CE CD CW e d fl wl ma ws (mkS g) H' → Fr [e, ma] H H' → Q .non H'
theorem s_dput {σ : L2.St} {H : Hp} {td ty tv : TE} {D : Ends} {a : Addr} {v : V} {k : L2.Key} {kvs : List (L2.Key × V)} (ha : H a = some (.dK kvs)) (hv : Ev tv σ H v) (hd : Ev td σ H (.ref a)) (hy : Ev ty σ H (kV k)) (hl : kvs.length ≤ 1000000) (q : ∀ H1, Ex H H1 → D.nx σ (upd H1 a (.dK (putK kvs k v)))) : sDPut td ty tv D σ H :=
  hv H (Ex.refl H) _ fun H1 e1 => hd H1 e1 _ fun H2 e2 => hy H2 (e1.trans e2) _ fun H3 e3 => ⟨a, _, rfl, DPut.k (k := k) (((e1.trans e2).trans e3) _ _ ha) (Nat.lt_of_le_of_lt hl (by decide)), q H3 ((e1.trans e2).trans e3)⟩
theorem ok_make_mark (G : Glob mg) (T : TEd K CE) (d : MetX K CE "make_mark" "Editor.make_mark" s_Editor_make_mark ["self"]) : C8.Met P w K mg base 1 CE "make_mark" (sp_make_mark X CE CD CW) [] := by
  refine met_mk d sc_Editor_make_mark (fun vs H Q E ⟨_, _, _, _, _, _, _, h, _⟩ => by rw [h]; rfl) (fun f cdv A outer s H vs Q E hr ⟨e, d, fl, wl, ma, ws, g, hv, Ed, hl, k⟩ => ?_)
  subst hv
  obtain ⟨de, tx, h1, h2, h3⟩ := Ed.obj
  refine ⟨_, (pss_cons (ps_fld (pv 0) (pe_op op_add (pe_fld (pv 0) rfl) pe_int) rfl)
    (pss_one (ps_dput (hu_of hr) (pe_fld (pv 0) rfl) (pe_fld (pv 0) rfl) (pe_fld (pv 0) rfl) rfl))), ?_⟩
  refine q_ed (g' := { g with mark := g.mark + 1 }) T Ed (en_add (ev_fld (ev_var rfl) h1 T.cl T.n_last F_Editor_last) (en_c (a := 1))) (ev_var rfl) T.n_last (fun t => P_Editor_last) rfl rfl (fun H1 Ed1 fr1 => ?_)
  obtain ⟨de1, tx1, h11, h12, h13⟩ := Ed1.obj
  obtain ⟨kvs, hm, M⟩ := Ed1.marks
  have hkl := M.len
  dsimp only at hkl
  refine s_dput (k := .inl ((g.mark + 1 : Nat) : Int)) hm (ev_fld (ev_var rfl) h11 T.cl T.n_text F_Editor_text) (ev_fld (ev_var rfl) h11 T.cl T.n_remembered F_Editor_remembered) (ev_fld (ev_var rfl) h11 T.cl T.n_last F_Editor_last) (by omega) (fun H2 e2 => ?_)
  have nm := Ed1.neM
  have ne1 : e ≠ ma := fun z => nm (by simp [z])
  have keep : ∀ b xs, H2 b = some (.lst xs) → upd H2 ma (.dK (putK kvs (.inl ((g.mark + 1 : Nat) : Int)) (.ref tx1))) b = some (.lst xs) := fun b xs q => by
    rw [upd_ne (ne_of q (e2 _ _ hm) (by intro z; cases z))]
    exact q
  refine k _ ⟨⟨de1, tx1, by rw [upd_ne ne1]; exact e2 _ _ h11, keep _ _ (e2 _ _ h12), h13⟩, (Ed1.disk.grow e2).updM (e2 _ _ hm), _, upd_same, ?_⟩ (((fr1.mono (by simp)).trans (Fr.ex e2)).upd (by simp))
  exact ((M.grow e2).add (e2 _ _ h12) h13).mono (fun b xs q _ => keep b xs q) (fun _ _ _ q => q)
end
/-! ### answers -/
theorem ints_enc (l : List Nat) : (Ue12.ints l).map V.int = enc l := by
  unfold Ue12.ints enc
  rw [List.map_map]
  rfl
/-- what follows an answered call -/
def EdPost (X : List Addr) (CE CD CW e d fl wl ma : Addr) (r : Ue12.St × List Int) (H : Hp) (Q : VK) : Prop := ∀ H' wl' ma' ws' p, EdAt X CE CD CW e d fl wl' ma' ws' r.1 H' → (wl' = wl ∨ H wl' = none) → (ma' = ma ∨ H ma' = none) → Fr [e, d, fl, wl, ma] H H' → H' p = some (.lst (r.2.map V.int)) → H p = none → Q (.ref p) H'
section
variable {P : Program} {w : World} {K : PySem.W.Frag} {mg : Str → Option Value} {base : Heap} {X : List Addr} {CE CD CW : Addr}
/-- return [a refusal] -/
theorem ret_no {e d fl wl ma : Addr} {ws : List Addr} {g : Ue12.St} {H H1 : Hp} {Q : VK} {σ : L2.St} {te : TE} {n : Int} {D : Ends} (Ed : EdAt X CE CD CW e d fl wl ma ws g H) (k : EdPost X CE CD CW e d fl wl ma (g, [n]) H Q) (x : Ex H H1) (h : Ev te σ H1 (.int n)) (hD : D.rt = Q) : tRet (tLst (tCons te tNil)) D σ H1 := by
  refine s_retL (el_lst (ea_cons h ea_nil) (by show 1 ≤ 100000; decide)) (fun p H2 hp e2 h2 => ?_)
  rw [hD]
  exact k H2 wl ma ws p (Ed.grow (x.trans e2)) (.inl rfl) (.inl rfl) (Fr.ex (x.trans e2)) h2 (fresh_back x hp)
def sp_flush_all (X : List Addr) (CE CD CW : Addr) : Sp := fun vs H Q _ => ∃ (e d fl wl ma : Addr) (ws : List Addr) (g : Ue12.St), vs = [.ref e] ∧ EdAt X CE CD CW e d fl wl ma ws g H ∧ GoodD g.disk ∧
  ∀ H' wl', EdAt X CE CD CW e d fl wl' ma [] { g with disk := Ue12.seen g.disk, safe := g.mark } H' → H wl' = none → Fr [e, d, fl] H H' → Q .non H'
theorem ok_flush_all (T : TEd K CE) (c_arrive_all : C8.Met P w K mg base 3 CD "arrive_all" (sp_arrive_all X CD CW) []) (d : MetX K CE "flush_all" "Editor.flush_all" s_Editor_flush_all ["self"]) : C8.Met P w K mg base 4 CE "flush_all" (sp_flush_all X CE CD CW) [] := by
  refine met_mk d sc_Editor_flush_all (fun vs H Q E ⟨_, _, _, _, _, _, _, h, _⟩ => by rw [h]; rfl) (fun f cdv A outer s H vs Q E hr ⟨e, d, fl, wl, ma, ws, g, hv, Ed, gd, k⟩ => ?_)
  subst hv
  obtain ⟨de, tx, h1, h2, h3⟩ := Ed.obj
  obtain ⟨dd, hd⟩ := Ed.disk.obj
  refine ⟨_, (pss_cons (ps_expr (C8.pe_mt0 c_arrive_all hr (by decide) (pe_fld (pv 0) rfl)))
    (pss_one (ps_fld (pv 0) (pe_fld (pv 0) rfl) rfl))), ?_⟩
  refine q_methS (ev_fld (ev_var rfl) h1 T.cl T.n_disk F_Editor_disk) hd N_Disk_arrive_all ap_nil (fun vs H1 e1 hvs => ?_)
  obtain rfl := fits0 hvs
  refine ⟨d, fl, wl, ws, g.disk, rfl, Ed.disk.grow e1, gd, fun H2 wl' D2 nw fr2 => ?_⟩
  have Ed2 := (Ed.grow e1).diskTo D2 (fr2.mono (by simp)) (.inr nw)
  obtain ⟨de', tx', h1', h2', h3'⟩ := Ed2.obj
  refine s_ed (g' := { g with disk := Ue12.seen g.disk, safe := g.mark }) T Ed2 (ev_fld (ev_var rfl) h1' T.cl T.n_last F_Editor_last) (ev_var rfl) T.n_safe (fun t => P_Editor_safe) rfl rfl (fun H3 Ed3 fr3 => ?_)
  exact k H3 wl' Ed3 (fresh_back e1 nw) (((Fr.ex e1).trans (fr2.mono (by simp))).trans (fr3.mono (by simp)))
/-! ### the calls -/
def spCall (X : List Addr) (CE CD CW : Addr) (args : List V) (H0 : Hp → List Addr → Prop) (k : Ue12.Call) : Sp := fun vs H Q _ => ∃ (e d fl wl ma : Addr) (ws : List Addr) (g : Ue12.St), vs = .ref e :: args ∧ EdAt X CE CD CW e d fl wl ma ws g H ∧ Good g ∧ H0 H (fl :: wl :: X) ∧ EdPost X CE CD CW e d fl wl ma (Ue12.step g k) H Q
/-- a call without arguments -/
def spK (X : List Addr) (CE CD CW : Addr) (k : Ue12.Call) : Sp := spCall X CE CD CW [] (fun _ _ => True) k
theorem alone_off {g : Ue12.St} {x : Ue12.St × List Int} (h : g.on = false) : Ue12.alone g x = (g, [-9]) := if_pos h
theorem alone_on {g : Ue12.St} {x : Ue12.St × List Int} (h : g.on = true) : Ue12.alone g x = x := if_neg (by rw [h]; decide)
theorem free_of {g : Ue12.St} {x : Ue12.St × List Int} (h : refusal g < 0) : Ue12.free g x = (g, [refusal g]) := by
  unfold Ue12.free refusal at *
  by_cases h1 : g.on = false
  · rw [if_pos h1, if_pos h1]
  · rw [if_neg h1, if_neg h1]
    rw [if_neg h1] at h
    by_cases h2 : g.copy.isSome = true
    · rw [if_pos h2, if_pos h2]
    · rw [if_neg h2] at h
      exact absurd h (by decide)
theorem free_on {g : Ue12.St} {x : Ue12.St × List Int} (h : ¬ refusal g < 0) : Ue12.free g x = x ∧ g.on = true ∧ g.copy = none := by
  unfold Ue12.free refusal at *
  by_cases h1 : g.on = false
  · rw [if_pos h1] at h
    exact absurd (by decide) h
  · rw [if_neg h1] at h ⊢
    by_cases h2 : g.copy.isSome = true
    · rw [if_pos h2] at h
      exact absurd (by decide) h
    · rw [if_neg h2]
      refine ⟨rfl, by simpa using h1, ?_⟩
      cases e : g.copy with
      | none => rfl
      | some n => rw [e] at h2; exact absurd rfl h2
theorem ei_lt0 {σ : L2.St} {H : Hp} {te : TE} {n : Int} (h : Ev te σ H (.int n)) : EvT (tTest (tOp (rI0 fun i j => .bl (decide (i < j))) te (tC (.int 0)))) σ H (decide (n < 0)) := et_test (ev_op h ev_c (rv_I0 (g := fun i j => .bl (decide (i < j)))))
theorem ok_flush (G : Glob mg) (T : TEd K CE) (TDk : TD K CD) (c_flush_all : C8.Met P w K mg base 4 CE "flush_all" (sp_flush_all X CE CD CW) []) (d : MetX K CE "flush" "Editor.flush" s_Editor_flush ["self"]) : C8.Met P w K mg base 5 CE "flush" (spK X CE CD CW .flush) [] := by
  refine met_mk d sc_Editor_flush (fun vs H Q E ⟨_, _, _, _, _, _, _, h, _⟩ => by rw [h]; rfl) (fun f cdv A outer s H vs Q E hr ⟨e, d, fl, wl, ma, ws, g, hv, Ed, gd, _, k⟩ => ?_)
  subst hv
  obtain ⟨de, tx, h1, h2, h3⟩ := Ed.obj
  obtain ⟨dd, hd⟩ := Ed.disk.obj
  refine ⟨_, (pss_cons (ps_if (pt_not (pt_val (pe_fld (pv 0) rfl)))
      (pss_one (ps_ret (pe_lst (pa_cons (C8.pe_gc (by rfl) G.c_POWER_WRONG) pa_nil))))
      pss_nil)
    (pss_cons (ps_set (i := 1) sc_Editor_flush.nd rfl (.inl rfl) (pe_callB call_len_seq (by rfl) G.b_len PySem.boot_len (pa_cons (pe_fld (pe_fld (pv 0) rfl) rfl) pa_nil)))
    (pss_cons (ps_expr (C8.pe_mt0 c_flush_all hr (by decide) (pv 0)))
    (pss_one (ps_ret (pe_lst (pa_cons (pv 1) (pa_cons (pe_fld (pv 0) rfl) pa_nil)))))))), ?_⟩
  refine q_when (et_not (et_B (ev_fld (ev_var rfl) h1 T.cl T.n_powered F_Editor_powered))) (fun hb H1 e1 => ?_) (fun hb H1 e1 => ?_)
  · have k : EdPost X CE CD CW e d fl wl ma (Ue12.alone g _) H Q := k
    rw [alone_off (by simpa using hb)] at k
    exact ret_no Ed k e1 ev_c rfl
  have k : EdPost X CE CD CW e d fl wl ma (Ue12.alone g _) H Q := k
  rw [alone_on (by simpa using hb)] at k
  refine q_asg (en_len (evR (ev_fld (ev_fld (ev_var rfl) (e1 _ _ h1) T.cl T.n_disk F_Editor_disk) (e1 _ _ hd) TDk.cl TDk.n_writes F_Disk_writes) (e1 _ _ Ed.disk.wlist))) (fun H2 e2 => ?_)
  rw [List.length_map, ws_len Ed.disk.wrs]
  have x2 := e1.trans e2
  have Ed2 := Ed.grow x2
  refine q_methS (ev_var rfl) (x2 _ _ h1) N_Editor_flush_all ap_nil (fun vs H3 e3 hvs => ?_)
  obtain rfl := fits0 hvs
  refine ⟨e, d, fl, wl, ma, ws, g, rfl, Ed2.grow e3, gd.d, fun H4 wl' Ed4 nw fr4 => ?_⟩
  obtain ⟨de', tx', h1', h2', h3'⟩ := Ed4.obj
  refine s_retL (el_2 (ev_var rfl) (ev_fld (ev_var rfl) h1' T.cl T.n_safe F_Editor_safe)) (fun p H5 hp e5 h5 => ?_)
  have x3 := x2.trans e3
  refine k H5 wl' ma [] p (Ed4.grow e5) (.inr (fresh_back x3 nw)) (.inl rfl) (((Fr.ex x3).trans (fr4.mono (by simp))).trans (Fr.ex e5)) (by rw [h5, ints_enc]) (fresh_back x3 (fr4.fresh Ed4.live3 hp))
end
end Pk

set_option Elab.async false
set_option linter.all false
set_option maxRecDepth 100000
set_option maxHeartbeats 2000000
namespace Pk
open PySem PySem.Spec PyProof.Rows L2 Evl
theorem mark_len (n : Nat) : (Ue12.bytesOf (.mark n)).length = 7 := by rw [bytesOf_eq, recB_len]; rfl
theorem change_len (c : Ue12.Change) : (Ue12.bytesOf (.change c)).length = c.in_.length + 7 := by
  rw [bytesOf_eq, recB_len]
  rfl
/-! ### bytes above 255 -/
theorem max_gt : ∀ (r : List Nat) (n : Nat), (255 < (r.map fun (n : Nat) => (n : Int)).foldl max (n : Int)) ↔ (255 < n ∨ ∃ x ∈ r, 255 < x)
  | [], n => by
    simp
    omega
  | a :: r, n => by
    have e : max (n : Int) (a : Int) = ((max n a : Nat) : Int) := by omega
    rw [List.map_cons, List.foldl_cons, e, max_gt r (max n a)]
    constructor
    · rintro (h | ⟨x, hx, h⟩)
      · by_cases q : 255 < n
        · exact .inl q
        · exact .inr ⟨a, List.mem_cons_self .., by omega⟩
      · exact .inr ⟨x, List.mem_cons_of_mem _ hx, h⟩
    · rintro (h | ⟨x, hx, h⟩)
      · exact .inl (by omega)
      · rcases List.mem_cons.mp hx with rfl | hx
        · exact .inl (by omega)
        · exact .inr ⟨x, hx, h⟩
theorem maxOr_gt (w : List Nat) : decide (255 < maxOr 0 (w.map fun (n : Nat) => (n : Int))) = !Ue12.isBytes w := by
  cases w with
  | nil => rfl
  | cons a r =>
    have h : (255 < maxOr 0 ((a :: r).map fun (n : Nat) => (n : Int))) ↔ (255 < a ∨ ∃ x ∈ r, 255 < x) := max_gt r a
    cases hb : Ue12.isBytes (a :: r) with
    | true =>
      rw [Ue12.isBytes, List.all_eq_true] at hb
      refine decide_eq_false fun q => ?_
      rcases h.mp q with q | ⟨x, hx, q⟩
      · have := of_decide_eq_true (hb a (List.mem_cons_self ..)); omega
      · have := of_decide_eq_true (hb x (List.mem_cons_of_mem _ hx)); omega
    | false =>
      refine decide_eq_true (h.mpr ?_)
      rw [Ue12.isBytes, List.all_eq_false] at hb
      obtain ⟨x, hx, q⟩ := hb
      have q : 255 < x := by simpa using q
      rcases List.mem_cons.mp hx with rfl | hx
      · exact .inl q
      · exact .inr ⟨x, hx, q⟩
theorem ev_maxD {K : PySem.W.Frag} {σ : L2.St} {H : Hp} {te : TE} {w : List Nat} (h : EvR te σ H (enc w)) : Ev (tCKw (rMaxDf K) (tCons te tNil) (tCons (tC (.int 0)) tNil)) σ H (.int (maxOr 0 (w.map fun (n : Nat) => (n : Int)))) := fun H1 e Q q =>
  h H1 e _ fun p H2 e2 h2 => ⟨p, _, 0, rfl, rfl, sq_of (by rw [h2, enc_ints]), q H2 e2⟩
section
variable {P : Program} {w : World} {K : PySem.W.Frag} {mg : Str → Option Value} {base : Heap} {X : List Addr} {CE CD CW : Addr}
def sp_above : Sp := spV (fun r : List Nat => [isB r]) (fun _ => True) fun r => .bl (!Ue12.isBytes r)
theorem ok_above (G : Glob mg) (d : DefX K mg "above_bytes" s_above_bytes ["numbers"]) : C8.Cal P w K mg base 1 "above_bytes" sp_above [] := by
  refine cal_mk d sc_above_bytes (fun vs H Q E ⟨i, hf, _⟩ => fits_len hf) (fun f cdv A outer s H vs Q E hr ⟨r, hf, hw, k⟩ => ?_)
  obtain ⟨v, rfl, a, rfl, ha⟩ := fits1 hf
  refine ⟨_, (pss_one (ps_ret (pe_cmpR op_gt (pe_callBK (cr_maxDf rfl (hu2 hr)) (by rfl) G.b_max (by decide +kernel) (pa_cons (pv 0) pa_nil) (pk_cons pe_int pk_nil)) pe_int (nomark _)))), ?_⟩
  have k : RetV (.bl (!Ue12.isBytes r)) H Q := k
  rw [← maxOr_gt] at k
  exact s_ret (ev_op (ev_maxD (er_var rfl ha)) ev_c (rv_I0 (g := fun i j => .bl (decide (j < i))))) k
def sp_with_count : Sp := spL (fun r : List Nat => [isB r]) (fun r => r.length ≤ 1000) fun r => r.length :: r
theorem ok_with_count (G : Glob mg) (d : DefX K mg "with_count" s_with_count ["row"]) : C8.Cal P w K mg base 1 "with_count" sp_with_count [] := by
  refine cal_mk d sc_with_count (fun vs H Q E ⟨i, hf, _⟩ => fits_len hf) (fun f cdv A outer s H vs Q E hr ⟨r, hf, hw, k⟩ => ?_)
  obtain ⟨v, rfl, a, rfl, ha⟩ := fits1 hf
  refine ⟨_, (pss_one (ps_ret (pe_op op_cat (pe_lst (pa_cons (pe_callB call_len_seq (by rfl) G.b_len PySem.boot_len (pa_cons (pv 0) pa_nil)) pa_nil)) (pv 0)))), ?_⟩
  have hw : r.length ≤ 1000 := hw
  exact s_retL (el_catB (w := [r.length]) (elR (el_1 (en_lenB (er_var rfl ha)))) (er_var rfl ha) (by simp; omega)) k
/-- refusal = self.refused_making() -/
theorem ev_refused {σ : L2.St} {H : Hp} {ta : TE} {e d fl wl ma : Addr} {ws : List Addr} {g : Ue12.St} {E : XK} (Ed : EdAt X CE CD CW e d fl wl ma ws g H) (ha : Ev ta σ H (.ref e)) : Ev (tMeth CE "refused_making" (sp_refused X CE CD CW) [] E ta tNil) σ H (.int (refusal g)) := by
  obtain ⟨de, tx, h1, h2, h3⟩ := Ed.obj
  refine ev_methV ha h1 N_Editor_refused_making ap_nil (fun vs H1 e1 hvs Q q => ?_)
  obtain rfl := fits0 hvs
  exact ⟨e, d, fl, wl, ma, ws, g, rfl, Ed.grow e1, q⟩
theorem ev_room {σ : L2.St} {H : Hp} {ta tb : TE} {e d fl wl ma c : Addr} {ws : List Addr} {g : Ue12.St} {t : List Nat} {E : XK} (Ed : EdAt X CE CD CW e d fl wl ma ws g H) (ha : Ev ta σ H (.ref e)) (hb : Ev tb σ H (.ref c)) (hc : H c = some (.lst (enc t))) :
    Ev (tMeth CE "has_room" (sp_has_room X CE CD CW) [] E ta (tCons tb tNil)) σ H (.bl (decide (g.size + t.length ≤ 600))) := by
  obtain ⟨de, tx, h1, h2, h3⟩ := Ed.obj
  refine ev_methV ha h1 N_Editor_has_room (ap_v hb ap_nil) (fun vs H1 e1 hvs Q q => ?_)
  obtain ⟨v, rfl, rfl⟩ := fits1 hvs
  exact ⟨e, d, fl, wl, ma, ws, g, c, t, rfl, Ed.grow e1, e1 _ _ hc, q⟩
theorem ev_other {σ : L2.St} {H : Hp} {ta : TE} {e d fl wl ma : Addr} {ws : List Addr} {g : Ue12.St} {E : XK} (Ed : EdAt X CE CD CW e d fl wl ma ws g H) (ha : Ev ta σ H (.ref e)) : Ev (tMeth CE "other_file" (sp_other_file X CE CD CW) [] E ta tNil) σ H (nv (!g.file).toNat) := by
  obtain ⟨de, tx, h1, h2, h3⟩ := Ed.obj
  refine ev_methV ha h1 N_Editor_other_file ap_nil (fun vs H1 e1 hvs Q q => ?_)
  obtain rfl := fits0 hvs
  exact ⟨e, d, fl, wl, ma, ws, g, rfl, Ed.grow e1, q⟩
theorem ok_mark (G : Glob mg) (T : TEd K CE) (c_refused_making : C8.Met P w K mg base 1 CE "refused_making" (sp_refused X CE CD CW) []) (c_mark_record : C8.Cal P w K mg base 2 "mark_record" sp_mark_record []) (c_has_room : C8.Met P w K mg base 1 CE "has_room" (sp_has_room X CE CD CW) [])
    (c_append_record : C8.Met P w K mg base 4 CE "append_record" (sp_append X CE CD CW) []) (c_make_mark : C8.Met P w K mg base 1 CE "make_mark" (sp_make_mark X CE CD CW) []) (d : MetX K CE "mark" "Editor.mark" s_Editor_mark ["self"]) : C8.Met P w K mg base 5 CE "mark" (spK X CE CD CW .mark) [] := by
  refine met_mk d sc_Editor_mark (fun vs H Q E ⟨_, _, _, _, _, _, _, h, _⟩ => by rw [h]; rfl) (fun f cdv A outer s H vs Q E hr ⟨e, d, fl, wl, ma, ws, g, hv, Ed, gd, _, k⟩ => ?_)
  subst hv
  obtain ⟨de, tx, h1, h2, h3⟩ := Ed.obj
  refine ⟨_, (pss_cons (ps_set (i := 1) sc_Editor_mark.nd rfl (.inl rfl) (C8.pe_mt0 c_refused_making hr (by decide) (pv 0)))
    (pss_cons (ps_if (pt_cmpR op_lt (pv 1) pe_int (nomark _))
      (pss_one (ps_ret (pe_lst (pa_cons (pv 1) pa_nil))))
      pss_nil)
    (pss_cons (ps_if (pt_cmpR op_ge (pe_fld (pv 0) rfl) (C8.pe_gc (by rfl) G.c_LAST_MARK) (nomark _))
      (pss_one (ps_ret (pe_lst (pa_cons (C8.pe_gc (by rfl) G.c_TOO_MUCH) pa_nil))))
      pss_nil)
    (pss_cons (ps_set (i := 2) sc_Editor_mark.nd rfl (.inl rfl) (C8.pe_c c_mark_record hr (by decide) (by rfl) (pa_cons (pe_op op_add (pe_fld (pv 0) rfl) pe_int) pa_nil)))
    (pss_cons (ps_if (pt_not (pt_val (C8.pe_mt c_has_room hr (by decide) (pv 0) (pa_cons (pv 2) pa_nil))))
      (pss_one (ps_ret (pe_lst (pa_cons (C8.pe_gc (by rfl) G.c_NO_ROOM) pa_nil))))
      pss_nil)
    (pss_cons (ps_expr (C8.pe_mt0 c_make_mark hr (by decide) (pv 0)))
    (pss_cons (ps_expr (C8.pe_mt c_append_record hr (by decide) (pv 0) (pa_cons (pv 2) pa_nil)))
    (pss_one (ps_ret (pe_lst (pa_cons (pe_fld (pv 0) rfl) (pa_cons (pe_fld (pv 0) rfl) pa_nil)))))))))))), ?_⟩
  have k : EdPost X CE CD CW e d fl wl ma (Ue12.free g _) H Q := k
  refine q_asg (ev_refused Ed (ev_var rfl)) (fun H1 e1 => ?_)
  refine q_when (ei_lt0 (ev_var rfl)) (fun hb H2 e2 => ?_) (fun hb H2 e2 => ?_)
  · rw [free_of (of_decide_eq_true hb)] at k
    exact ret_no Ed k (e1.trans e2) (ev_var rfl) rfl
  obtain ⟨q1, q2, q3⟩ := free_on (x := if 200 ≤ g.mark then (g, [-5]) else if 600 < g.size + 7 then (g, [-6]) else
      ({ Ue12.append g (.mark (g.mark + 1)) with mark := g.mark + 1, marks := (g.mark + 1, g.text) :: g.marks }, Ue12.ints [g.mark + 1, g.size + (Ue12.bytesOf (.mark (g.mark + 1))).length])) (of_decide_eq_false hb)
  have k := (congrArg (fun r => EdPost X CE CD CW e d fl wl ma r H Q) q1).mp k
  clear q1
  have x2 := e1.trans e2
  refine q_when (et_test (eb_ge (ev_fld (ev_var rfl) (x2 _ _ h1) T.cl T.n_last F_Editor_last) (en_c (a := 200)))) (fun hb H3 e3 => ?_) (fun hb H3 e3 => ?_)
  · rw [if_pos (of_decide_eq_true hb)] at k
    exact ret_no Ed k (x2.trans e3) ev_c rfl
  rw [if_neg (of_decide_eq_false hb)] at k
  have x3 := x2.trans e3
  refine q_asgL (el_fn (R := fun n => recB [2, n % 256, n / 256]) (g.mark + 1) trivial (ap_v (en_add (ev_fld (ev_var rfl) (x3 _ _ h1) T.cl T.n_last F_Editor_last) (en_c (a := 1))) ap_nil)) (fun c H4 hc e4 h4 => ?_)
  have x4 := x3.trans e4
  have hrow : recB [2, (g.mark + 1) % 256, (g.mark + 1) / 256] = Ue12.bytesOf (.mark (g.mark + 1)) := (bytesOf_eq (.mark (g.mark + 1))).symm
  rw [hrow] at h4
  have Ed4 := Ed.grow x4
  refine q_when (et_not (et_B (ev_room Ed4 (ev_var rfl) (ev_var rfl) h4))) (fun hb H5 e5 => ?_) (fun hb H5 e5 => ?_)
  · have hb : 600 < g.size + 7 := by
      rw [mark_len] at hb
      simp at hb
      omega
    rw [if_pos hb] at k
    exact ret_no Ed k (x4.trans e5) ev_c rfl
  have hb : ¬ 600 < g.size + 7 := by
    rw [mark_len] at hb
    simp at hb
    omega
  rw [if_neg hb] at k
  have x5 := x4.trans e5
  have Ed5 := Ed.grow x5
  obtain ⟨kvs, hm, _⟩ := Ed5.marks
  have nce : c ∉ [e, ma] := by
    have n1 : c ≠ e := ne_of h4 (x4 _ _ h1) (by intro z; cases z)
    have n2 : c ≠ ma := ne_of (e5 _ _ h4) hm (by intro z; cases z)
    simp [n1, n2]
  -- self.make_mark()
  refine q_methS (ev_var rfl) (x5 _ _ h1) N_Editor_make_mark ap_nil (fun vs H55 e55 hvs => ?_)
  obtain rfl := fits0 hvs
  have x55 := x5.trans e55
  refine ⟨e, d, fl, wl, ma, ws, g, rfl, Ed5.grow e55, gd.marks, fun H6 Ed6 fr6 => ?_⟩
  obtain ⟨de6, tx6, h61, h62, h63⟩ := Ed6.obj
  have hc6 : H6 c = some (.lst (enc (Ue12.bytesOf (.mark (g.mark + 1))))) := fr6 _ _ (e55 _ _ (e5 _ _ h4)) nce
  have ncf : c ∉ fl :: wl :: X := by
    obtain ⟨_, _, f1, _⟩ := Ed.disk.files
    exact not_mem2 (fun z => by rw [z, x3 _ _ f1] at hc; cases hc) (fun z => by rw [z, x3 _ _ Ed.disk.wlist] at hc; cases hc) (not_live (live_ex x3 Ed.disk.xs) hc)
  refine q_methS (ev_var rfl) h61 N_Editor_append_record (ap_v (ev_var rfl) ap_nil) (fun vs H7 e7 hvs => ?_)
  obtain ⟨v, rfl, rfl⟩ := fits1 hvs
  refine ⟨e, d, fl, wl, ma, ws, mkS g, c, Ue12.bytesOf (.mark (g.mark + 1)), rfl, Ed6.grow e7, e7 _ _ hc6, ncf, by have := gd.cache; have := gd.size; show g.disk.cache.length ≤ 1000; omega, fun H8 ws' Ed8 fr8 => ?_⟩
  obtain ⟨de8, tx8, h81, h82, h83⟩ := Ed8.obj
  refine s_retL (el_2 (ev_fld (ev_var rfl) h81 T.cl T.n_last F_Editor_last) (ev_fld (ev_var rfl) h81 T.cl T.n_size F_Editor_size)) (fun p H9 hp e9 h9 => ?_)
  have fr : Fr [e, d, fl, wl, ma] H H8 := (((Fr.ex x55).trans (fr6.mono (by simp))).trans (Fr.ex e7)).trans fr8
  exact k H9 wl ma ws' p (Ed8.grow e9) (.inl rfl) (.inl rfl) (fr.trans (Fr.ex e9)) (by rw [h9, ints_enc]; rfl) (fr.fresh Ed8.live hp)
theorem ok_change (G : Glob mg) (T : TEd K CE) (c_refused_making : C8.Met P w K mg base 1 CE "refused_making" (sp_refused X CE CD CW) []) (c_goes_beyond : C8.Cal P w K mg base 1 "goes_beyond" sp_goes_beyond []) (c_changed : C8.Cal P w K mg base 1 "changed" sp_changed []) (c_above_bytes : C8.Cal P w K mg base 1 "above_bytes" sp_above [])
    (c_change_record : C8.Cal P w K mg base 2 "change_record" sp_change_record []) (c_has_room : C8.Met P w K mg base 1 CE "has_room" (sp_has_room X CE CD CW) []) (c_append_record : C8.Met P w K mg base 4 CE "append_record" (sp_append X CE CD CW) [])
    (d : MetX K CE "change" "Editor.change" s_Editor_change ["self", "place", "gone", "coming"]) : C8.Met P w K mg base 5 CE "change" (fun vs H Q E => ∃ (pl o : Nat) (c : Addr) (u : List Nat), spCall X CE CD CW [nv pl, nv o, .ref c] (fun H N => H c = some (.lst (enc u)) ∧ c ∉ N ∧ u.length ≤ 260) (.change ⟨pl, o, u⟩) vs H Q E) [] := by
  refine met_mk d sc_Editor_change (fun vs H Q E ⟨_, _, _, _, _, _, _, _, _, _, _, h, _⟩ => by rw [h]; rfl) (fun f cdv A outer s H vs Q E hr ⟨pl, o, c, u, e, d, fl, wl, ma, ws, g, hv, Ed, gd, ⟨hc, hcn, hul⟩, k⟩ => ?_)
  subst hv
  obtain ⟨de, tx, h1, h2, h3⟩ := Ed.obj
  refine ⟨_, (pss_cons (ps_set (i := 4) sc_Editor_change.nd rfl (.inl rfl) (C8.pe_mt0 c_refused_making hr (by decide) (pv 0)))
    (pss_cons (ps_if (pt_cmpR op_lt (pv 4) pe_int (nomark _))
      (pss_one (ps_ret (pe_lst (pa_cons (pv 4) pa_nil))))
      pss_nil)
    (pss_cons (ps_if (PW.pt (pw_or (pt_val (C8.pe_c c_goes_beyond hr (by decide) (by rfl) (pa_cons (pe_fld (pv 0) rfl) (pa_cons (pv 1) (pa_cons (pv 2) pa_nil))))) (pw_or1 (pt_val (C8.pe_c c_above_bytes hr (by decide) (by rfl) (pa_cons (pv 3) pa_nil))))))
      (pss_one (ps_ret (pe_lst (pa_cons (C8.pe_gc (by rfl) G.c_NOT_SUCH) pa_nil))))
      pss_nil)
    (pss_cons (ps_set (i := 5) sc_Editor_change.nd rfl (.inl rfl) (C8.pe_c c_changed hr (by decide) (by rfl) (pa_cons (pe_fld (pv 0) rfl) (pa_cons (pv 1) (pa_cons (pv 2) (pa_cons (pv 3) pa_nil))))))
    (pss_cons (ps_if (pt_cmpR op_gt (pe_callB call_len_seq (by rfl) G.b_len PySem.boot_len (pa_cons (pv 5) pa_nil)) (C8.pe_gc (by rfl) G.c_LONGEST_TEXT) (nomark _))
      (pss_one (ps_ret (pe_lst (pa_cons (C8.pe_gc (by rfl) G.c_TOO_MUCH) pa_nil))))
      pss_nil)
    (pss_cons (ps_set (i := 6) sc_Editor_change.nd rfl (.inl rfl) (C8.pe_c c_change_record hr (by decide) (by rfl) (pa_cons (pv 1) (pa_cons (pv 2) (pa_cons (pv 3) pa_nil)))))
    (pss_cons (ps_if (pt_not (pt_val (C8.pe_mt c_has_room hr (by decide) (pv 0) (pa_cons (pv 6) pa_nil))))
      (pss_one (ps_ret (pe_lst (pa_cons (C8.pe_gc (by rfl) G.c_NO_ROOM) pa_nil))))
      pss_nil)
    (pss_cons (ps_fld (pv 0) (pv 5) rfl)
    (pss_cons (ps_expr (C8.pe_mt c_append_record hr (by decide) (pv 0) (pa_cons (pv 6) pa_nil)))
    (pss_one (ps_ret (pe_lst (pa_cons (pe_callB call_len_seq (by rfl) G.b_len PySem.boot_len (pa_cons (pe_fld (pv 0) rfl) pa_nil)) (pa_cons (pe_fld (pv 0) rfl) pa_nil)))))))))))))), ?_⟩
  have k : EdPost X CE CD CW e d fl wl ma (Ue12.free g _) H Q := k
  refine q_asg (ev_refused Ed (ev_var rfl)) (fun H1 e1 => ?_)
  refine q_when (ei_lt0 (ev_var rfl)) (fun hb H2 e2 => ?_) (fun hb H2 e2 => ?_)
  · rw [free_of (of_decide_eq_true hb)] at k
    exact ret_no Ed k (e1.trans e2) (ev_var rfl) rfl
  obtain ⟨q1, q2, q3⟩ := free_on (x := if Ue12.fits g.text ⟨pl, o, u⟩ = false ∨ Ue12.isBytes u = false then (g, [-1]) else if 200 < (Ue12.changed g.text ⟨pl, o, u⟩).length then (g, [-5]) else if 600 < g.size + (Ue12.bytesOf (.change ⟨pl, o, u⟩)).length then (g, [-6]) else
      ({ Ue12.append g (.change ⟨pl, o, u⟩) with text := Ue12.changed g.text ⟨pl, o, u⟩ }, Ue12.ints [(Ue12.changed g.text ⟨pl, o, u⟩).length, g.size + (Ue12.bytesOf (.change ⟨pl, o, u⟩)).length])) (of_decide_eq_false hb)
  have k := (congrArg (fun r => EdPost X CE CD CW e d fl wl ma r H Q) q1).mp k
  clear q1
  have x2 := e1.trans e2
  have tl := gd.text
  refine q_when (et_or (et_B (ev_fn (A := fun i : List Nat × Nat × Nat => [isB i.1, isV (nv i.2.1), isV (nv i.2.2)]) (pre := fun _ => True) (R := fun i => V.bl (decide (i.1.length < i.2.1 + i.2.2))) (g.text, pl, o) trivial
    (ap_b (evR (ev_fld (ev_var rfl) (x2 _ _ h1) T.cl T.n_text F_Editor_text) (x2 _ _ h2)) (ap_v (ev_var rfl) (ap_v (ev_var rfl) ap_nil))))) (fun _ => et_B (ev_fn (A := fun r : List Nat => [isB r]) (pre := fun _ => True) (R := fun r => V.bl (!Ue12.isBytes r)) u trivial (ap_b (er_var rfl (x2 _ _ hc)) ap_nil)))) (fun hb H3 e3 => ?_) (fun hb H3 e3 => ?_)
  · have hb : Ue12.fits g.text ⟨pl, o, u⟩ = false ∨ Ue12.isBytes u = false := by
      rw [Bool.or_eq_true] at hb
      rcases hb with hb | hb
      · refine .inl (decide_eq_false ?_)
        have := of_decide_eq_true hb
        dsimp only at this ⊢
        omega
      · exact .inr (by simpa using hb)
    rw [if_pos hb] at k
    exact ret_no Ed k (x2.trans e3) ev_c rfl
  have hb : ¬ (Ue12.fits g.text ⟨pl, o, u⟩ = false ∨ Ue12.isBytes u = false) := by
    rw [Bool.or_eq_false_iff] at hb
    rintro (z | z)
    · have h1 := of_decide_eq_false hb.1
      have h2 := of_decide_eq_false z
      dsimp only at h1 h2
      omega
    · rw [z] at hb
      exact absurd hb.2 (by decide)
  rw [if_neg hb] at k
  have x3 := x2.trans e3
  refine q_asgL (el_fn (A := fun i : List Nat × Nat × Nat × List Nat => [isB i.1, isV (nv i.2.1), isV (nv i.2.2.1), isB i.2.2.2]) (pre := fun i => i.1.length ≤ 1000 ∧ i.2.2.2.length ≤ 1000) (R := fun i => Ue12.changed i.1 ⟨i.2.1, i.2.2.1, i.2.2.2⟩) (g.text, pl, o, u) ⟨by dsimp only; omega, by dsimp only; omega⟩
    (ap_b (evR (ev_fld (ev_var rfl) (x3 _ _ h1) T.cl T.n_text F_Editor_text) (x3 _ _ h2)) (ap_v (ev_var rfl) (ap_v (ev_var rfl) (ap_b (er_var rfl (x3 _ _ hc)) ap_nil))))) (fun n H4 hn e4 h4 => ?_)
  dsimp only at h4
  have x4 := x3.trans e4
  refine q_when (et_test (eb_gt (en_lenB (er_var rfl h4)) (en_c (a := 200)))) (fun hb H5 e5 => ?_) (fun hb H5 e5 => ?_)
  · rw [if_pos (of_decide_eq_true hb)] at k
    exact ret_no Ed k (x4.trans e5) ev_c rfl
  have h200 := of_decide_eq_false hb
  rw [if_neg h200] at k
  have x5 := x4.trans e5
  have hu200 : u.length ≤ 200 := by
    have : (Ue12.changed g.text ⟨pl, o, u⟩).length ≤ 200 := by omega
    unfold Ue12.changed at this
    rw [List.length_append, List.length_append] at this
    dsimp only at this
    omega
  refine q_asgL (el_fn (A := fun i : Nat × Nat × List Nat => [isV (nv i.1), isV (nv i.2.1), isB i.2.2]) (pre := fun i => i.2.2.length + 3 ≤ 255) (R := fun i => recB (1 :: i.1 :: i.2.1 :: i.2.2)) (pl, o, u) (by dsimp only; omega) (ap_v (ev_var rfl) (ap_v (ev_var rfl) (ap_b (er_var rfl (x5 _ _ hc)) ap_nil)))) (fun r H6 hr6 e6 h6 => ?_)
  have x6 := x5.trans e6
  have hrow : recB (1 :: pl :: o :: u) = Ue12.bytesOf (.change ⟨pl, o, u⟩) := (bytesOf_eq (.change ⟨pl, o, u⟩)).symm
  dsimp only at h6
  rw [hrow] at h6
  have Ed6 := Ed.grow x6
  refine q_when (et_not (et_B (ev_room Ed6 (ev_var rfl) (ev_var rfl) h6))) (fun hb H7 e7 => ?_) (fun hb H7 e7 => ?_)
  · have hb : 600 < g.size + (Ue12.bytesOf (.change ⟨pl, o, u⟩)).length := by simpa using hb
    rw [if_pos hb] at k
    exact ret_no Ed k (x6.trans e7) ev_c rfl
  have hb : ¬ 600 < g.size + (Ue12.bytesOf (.change ⟨pl, o, u⟩)).length := by simpa using hb
  rw [if_neg hb] at k
  have x7 := x6.trans e7
  have Ed7 := Ed.grow x7
  have n7 : H7 n = some (.lst (enc (Ue12.changed g.text ⟨pl, o, u⟩))) := e7 _ _ (e6 _ _ (e5 _ _ h4))
  obtain ⟨_, _, f1, _⟩ := Ed.disk.files
  have nne : n ≠ e := ne_of n7 (x7 _ _ h1) (by intro z; cases z)
  have nnf : n ∉ fl :: wl :: X := not_mem2 (fun z => by rw [z, x3 _ _ f1] at hn; cases hn) (fun z => by rw [z, x3 _ _ Ed.disk.wlist] at hn; cases hn) (not_live (live_ex x3 Ed.disk.xs) hn)
  have nrf : r ∉ fl :: wl :: X := not_mem2 (fun z => by rw [z, x5 _ _ f1] at hr6; cases hr6) (fun z => by rw [z, x5 _ _ Ed.disk.wlist] at hr6; cases hr6) (not_live (live_ex x5 Ed.disk.xs) hr6)
  have nre : r ≠ e := ne_of h6 (x6 _ _ h1) (by intro z; cases z)
  -- self.text = text
  refine q_fldV (ev_var rfl) (ev_var rfl) (x7 _ _ h1) T.cl T.n_text (by show 10 < 1000; decide) (fun H8 e8 => ?_)
  obtain ⟨kvs, hm, M⟩ := (Ed7.grow e8).marks
  have Ed8 : EdAt X CE CD CW e d fl wl ma ws { g with text := Ue12.changed g.text ⟨pl, o, u⟩ } (upd H8 e (.ins CE de (putF "text" (.ref n) (edF d ma tx g)))) :=
    ⟨⟨de, n, Eq.trans upd_same (congrArg (fun z => some (HO.ins CE de z)) P_Editor_text), by rw [upd_ne nne]; exact e8 _ _ n7, nnf⟩, (Ed7.disk.grow e8).updE (e8 _ _ (x7 _ _ h1)) (edF_disk rfl), kvs, by rw [upd_ne (ne_of hm (e8 _ _ (x7 _ _ h1)) (by intro z; cases z))]; exact hm,
      M.mono (fun b xs q _ => by rw [upd_ne (ne_of q (e8 _ _ (x7 _ _ h1)) (by intro z; cases z))]; exact q) (fun _ _ _ q => q)⟩
  have r8 : (upd H8 e (.ins CE de (putF "text" (.ref n) (edF d ma tx g)))) r = some (.lst (enc (Ue12.bytesOf (.change ⟨pl, o, u⟩)))) := by
    rw [upd_ne nre]
    exact e8 _ _ (e7 _ _ h6)
  have fr8 : Fr [e, d, fl, wl, ma] H (upd H8 e (.ins CE de (putF "text" (.ref n) (edF d ma tx g)))) := (Fr.ex (x7.trans e8)).upd (by simp)
  obtain ⟨de8, tx8, h81, h82, h83⟩ := Ed8.obj
  refine q_methS (ev_var rfl) h81 N_Editor_append_record (ap_v (ev_var rfl) ap_nil) (fun vs H9 e9 hvs => ?_)
  obtain ⟨v, rfl, rfl⟩ := fits1 hvs
  refine ⟨e, d, fl, wl, ma, ws, _, r, Ue12.bytesOf (.change ⟨pl, o, u⟩), rfl, Ed8.grow e9, e9 _ _ r8, nrf, by have := gd.cache; have := gd.size; dsimp only; omega, fun H10 ws' Ed10 fr10 => ?_⟩
  obtain ⟨de10, tx10, h101, h102, h103⟩ := Ed10.obj
  refine s_retL (el_2 (en_lenB (evR (ev_fld (ev_var rfl) h101 T.cl T.n_text F_Editor_text) h102)) (ev_fld (ev_var rfl) h101 T.cl T.n_size F_Editor_size)) (fun p H11 hp e11 h11 => ?_)
  have fr : Fr [e, d, fl, wl, ma] H H10 := (fr8.trans (Fr.ex e9)).trans fr10
  exact k H11 wl ma ws' p (Ed10.grow e11) (.inl rfl) (.inl rfl) (fr.trans (Fr.ex e11)) (by rw [h11, ints_enc]; rfl) (fr.fresh Ed10.live hp)
end
end Pk

set_option Elab.async false
set_option linter.all false
set_option maxRecDepth 100000
set_option maxHeartbeats 2000000
namespace Pk
open PySem PySem.Spec PyProof.Rows L2 Evl
theorem DkAt.nfresh {X : List Addr} {CD CW d fl wl c : Addr} {ws : List Addr} {F : Ue12.Files} {H : Hp} (D : DkAt X CD CW d fl wl ws F H) (hc : H c = none) : c ∉ fl :: wl :: X := by
  obtain ⟨_, _, f1, _⟩ := D.files
  exact not_mem2 (fun z => by rw [z, f1] at hc; cases hc) (fun z => by rw [z, D.wlist] at hc; cases hc) (not_live D.xs hc)
section
variable {P : Program} {w : World} {K : PySem.W.Frag} {mg : Str → Option Value} {base : Heap} {X : List Addr} {CE CD CW CB : Addr}
theorem ok_power (G : Glob mg) (T : TEd K CE) (TDk : TD K CD) (c_arrive_some : C8.Met P w K mg base 3 CD "arrive_some" (sp_arrive_some X CD CW) []) (d : MetX K CE "power" "Editor.power" s_Editor_power ["self", "numbers"]) :
    C8.Met P w K mg base 4 CE "power" (fun vs H Q E => ∃ (c : Addr) (l : List Nat), spCall X CE CD CW [.ref c] (fun H N => H c = some (.lst (enc l)) ∧ c ∉ N) (.power l) vs H Q E) [] := by
  refine met_mk d sc_Editor_power (fun vs H Q E ⟨_, _, _, _, _, _, _, _, _, h, _⟩ => by rw [h]; rfl) (fun f cdv A outer s H vs Q E hr ⟨c, l, e, d, fl, wl, ma, ws, g, hv, Ed, gd, ⟨hc, hcn⟩, k⟩ => ?_)
  subst hv
  obtain ⟨de, tx, h1, h2, h3⟩ := Ed.obj
  obtain ⟨dd, hd⟩ := Ed.disk.obj
  refine ⟨_, (pss_cons (ps_if (pt_not (pt_val (pe_fld (pv 0) rfl)))
      (pss_one (ps_ret (pe_lst (pa_cons (C8.pe_gc (by rfl) G.c_POWER_WRONG) pa_nil))))
      pss_nil)
    (pss_cons (ps_set (i := 2) sc_Editor_power.nd rfl (.inl rfl) (pe_callB call_len_seq (by rfl) G.b_len PySem.boot_len (pa_cons (pe_fld (pe_fld (pv 0) rfl) rfl) pa_nil)))
    (pss_cons (ps_expr (C8.pe_mt c_arrive_some hr (by decide) (pe_fld (pv 0) rfl) (pa_cons (pv 1) pa_nil)))
    (pss_cons (ps_fld (pv 0) pe_bl rfl)
    (pss_one (ps_ret (pe_lst (pa_cons (pv 2) pa_nil)))))))), ?_⟩
  have k : EdPost X CE CD CW e d fl wl ma (Ue12.alone g _) H Q := k
  refine q_when (et_not (et_B (ev_fld (ev_var rfl) h1 T.cl T.n_powered F_Editor_powered))) (fun hb H1 e1 => ?_) (fun hb H1 e1 => ?_)
  · rw [alone_off (by simpa using hb)] at k
    exact ret_no Ed k e1 ev_c rfl
  rw [alone_on (by simpa using hb)] at k
  refine q_asg (en_len (evR (ev_fld (ev_fld (ev_var rfl) (e1 _ _ h1) T.cl T.n_disk F_Editor_disk) (e1 _ _ hd) TDk.cl TDk.n_writes F_Disk_writes) (e1 _ _ Ed.disk.wlist))) (fun H2 e2 => ?_)
  rw [List.length_map, ws_len Ed.disk.wrs]
  have x2 := e1.trans e2
  refine q_methS (ev_fld (ev_var rfl) (x2 _ _ h1) T.cl T.n_disk F_Editor_disk) (x2 _ _ hd) N_Disk_arrive_some (ap_v (ev_var rfl) ap_nil) (fun vs H3 e3 hvs => ?_)
  obtain ⟨v, rfl, rfl⟩ := fits1 hvs
  have x3 := x2.trans e3
  refine ⟨d, fl, wl, ws, g.disk, c, l, rfl, Ed.disk.grow x3, gd.d, x3 _ _ hc, nm1 hcn, fun H4 wl' D4 nw fr4 => ?_⟩
  have Ed4 := (Ed.grow x3).diskTo D4 (fr4.mono (by simp)) (.inr nw)
  refine q_ed (g' := { g with disk := Ue12.gone g.disk l, on := false }) T Ed4 ev_c (ev_var rfl) T.n_powered (fun t => P_Editor_powered) rfl rfl (fun H5 Ed5 fr5 => ?_)
  refine s_retL (el_1 (ev_var rfl)) (fun p H6 hp e6 h6 => ?_)
  have fr : Fr [e, d, fl] H H5 := ((Fr.ex x3).trans (fr4.mono (by simp))).trans (fr5.mono (by simp))
  exact k H6 wl' ma [] p (Ed5.grow e6) (.inr (fresh_back x3 nw)) (.inl rfl) ((fr.mono (by simp)).trans (Fr.ex e6)) (by rw [h6, ints_enc]) (fr.fresh Ed5.live3 hp)
theorem ok_copy (G : Glob mg) (T : TEd K CE) (c_refused_making : C8.Met P w K mg base 1 CE "refused_making" (sp_refused X CE CD CW) []) (c_flush_all : C8.Met P w K mg base 4 CE "flush_all" (sp_flush_all X CE CD CW) []) (c_first_records : C8.Cal P w K mg base 3 "first_records" sp_first_records [])
    (c_put : C8.Met P w K mg base 1 CD "put" (sp_put X CD CW) []) (c_send : C8.Met P w K mg base 3 CD "send" (sp_send X CD CW) []) (c_other_file : C8.Met P w K mg base 1 CE "other_file" (sp_other_file X CE CD CW) [])
    (d : MetX K CE "make_copy" "Editor.make_copy" s_Editor_make_copy ["self"]) : C8.Met P w K mg base 5 CE "make_copy" (spK X CE CD CW .copy) [] := by
  refine met_mk d sc_Editor_make_copy (fun vs H Q E ⟨_, _, _, _, _, _, _, h, _⟩ => by rw [h]; rfl) (fun f cdv A outer s H vs Q E hr ⟨e, d, fl, wl, ma, ws, g, hv, Ed, gd, _, k⟩ => ?_)
  subst hv
  obtain ⟨de, tx, h1, h2, h3⟩ := Ed.obj
  refine ⟨_, (pss_cons (ps_set (i := 1) sc_Editor_make_copy.nd rfl (.inl rfl) (C8.pe_mt0 c_refused_making hr (by decide) (pv 0)))
    (pss_cons (ps_if (pt_cmpR op_lt (pv 1) pe_int (nomark _))
      (pss_one (ps_ret (pe_lst (pa_cons (pv 1) pa_nil))))
      pss_nil)
    (pss_cons (ps_if (pt_cmpR op_ge (pe_fld (pv 0) rfl) (C8.pe_gc (by rfl) G.c_LAST_MARK) (nomark _))
      (pss_one (ps_ret (pe_lst (pa_cons (C8.pe_gc (by rfl) G.c_TOO_MUCH) pa_nil))))
      pss_nil)
    (pss_cons (ps_expr (C8.pe_mt0 c_flush_all hr (by decide) (pv 0)))
    (pss_cons (ps_set (i := 2) sc_Editor_make_copy.nd rfl (.inl rfl) (C8.pe_c c_first_records hr (by decide) (by rfl) (pa_cons (pe_fld (pv 0) rfl) (pa_cons (pe_op op_add (pe_fld (pv 0) rfl) pe_int) pa_nil))))
    (pss_cons (ps_expr (C8.pe_mt c_put hr (by decide) (pe_fld (pv 0) rfl) (pa_cons (C8.pe_mt0 c_other_file hr (by decide) (pv 0)) (pa_cons (pe_lst pa_nil) pa_nil))))
    (pss_cons (ps_expr (C8.pe_mt c_send hr (by decide) (pe_fld (pv 0) rfl) (pa_cons (C8.pe_mt0 c_other_file hr (by decide) (pv 0)) (pa_cons (C8.pe_gc (by rfl) G.c_HEAD_SIZE) (pa_cons (pv 2) pa_nil)))))
    (pss_cons (ps_fld (pv 0) pe_bl rfl)
    (pss_one (ps_ret (pe_lst (pa_cons (pe_op op_add (C8.pe_gc (by rfl) G.c_HEAD_SIZE) (pe_callB call_len_seq (by rfl) G.b_len PySem.boot_len (pa_cons (pv 2) pa_nil))) pa_nil)))))))))))), ?_⟩
  have k : EdPost X CE CD CW e d fl wl ma (Ue12.free g _) H Q := k
  refine q_asg (ev_refused Ed (ev_var rfl)) (fun H1 e1 => ?_)
  refine q_when (ei_lt0 (ev_var rfl)) (fun hb H2 e2 => ?_) (fun hb H2 e2 => ?_)
  · rw [free_of (of_decide_eq_true hb)] at k
    exact ret_no Ed k (e1.trans e2) (ev_var rfl) rfl
  obtain ⟨q1, q2, q3⟩ := free_on (x := if 200 ≤ g.mark then (g, [-5]) else
      ({ g with disk := { Ue12.wiped (Ue12.seen g.disk) (!g.file) with cache := [(!g.file, 3, Ue12.start_ g.text (g.mark + 1))] }, safe := g.mark, copy := some (3 + (Ue12.start_ g.text (g.mark + 1)).length) }, Ue12.ints [3 + (Ue12.start_ g.text (g.mark + 1)).length])) (of_decide_eq_false hb)
  have k := (congrArg (fun r => EdPost X CE CD CW e d fl wl ma r H Q) q1).mp k
  clear q1
  have x2 := e1.trans e2
  refine q_when (et_test (eb_ge (ev_fld (ev_var rfl) (x2 _ _ h1) T.cl T.n_last F_Editor_last) (en_c (a := 200)))) (fun hb H3 e3 => ?_) (fun hb H3 e3 => ?_)
  · rw [if_pos (of_decide_eq_true hb)] at k
    exact ret_no Ed k (x2.trans e3) ev_c rfl
  rw [if_neg (of_decide_eq_false hb)] at k
  have x3 := x2.trans e3
  -- self.flush_all()
  refine q_methS (ev_var rfl) (x3 _ _ h1) N_Editor_flush_all ap_nil (fun vs H4 e4 hvs => ?_)
  obtain rfl := fits0 hvs
  have x4 := x3.trans e4
  refine ⟨e, d, fl, wl, ma, ws, g, rfl, Ed.grow x4, gd.d, fun H5 wl' Ed5 nw fr5 => ?_⟩
  obtain ⟨de5, tx5, h51, h52, h53⟩ := Ed5.obj
  have fr5' : Fr [e, d, fl] H H5 := (Fr.ex x4).trans fr5
  -- row = first_records(self.text, self.last + 1)
  refine q_asgL (el_fn (A := fun i : List Nat × Nat => [isB i.1, isV (nv i.2)]) (pre := fun i => i.1.length + 1 ≤ 255) (R := fun i => Ue12.start_ i.1 i.2) (g.text, g.mark + 1) (by have := gd.text; dsimp only; omega)
    (ap_b (evR (ev_fld (ev_var rfl) h51 T.cl T.n_text F_Editor_text) h52) (ap_v (en_add (ev_fld (ev_var rfl) h51 T.cl T.n_last F_Editor_last) (en_c (a := 1))) ap_nil))) (fun r H6 hr6 e6 h6 => ?_)
  dsimp only at h6
  have Ed6 := Ed5.grow e6
  obtain ⟨dd6, hd6⟩ := Ed6.disk.obj
  have nr := Ed5.disk.nfresh hr6
  -- self.disk.put(self.other_file(), [])
  refine q_methS (ev_fld (ev_var rfl) (e6 _ _ h51) T.cl T.n_disk F_Editor_disk) hd6 N_Disk_put (ap_cons (P := fun v H' => ∃ c, v = .ref c ∧ H' c = some (.lst (enc [])) ∧ c ∉ fl :: wl' :: X) (ps := []) (te := tLst tNil) ?_ ?_ ap_nil |> ap_v (ev_other Ed6 (ev_var rfl))) (fun vs H7 e7 hvs => ?_)
  · exact fun Ha ea Qa qa => el_0 Ha (Ex.refl Ha) _ fun c Hb nc eb hb => qa _ Hb eb ⟨c, rfl, hb, (Ed6.disk.grow ea).nfresh nc⟩
  · exact fun v Ha Hb eab ⟨c, h, h', h''⟩ => ⟨c, h, eab _ _ h', h''⟩
  obtain ⟨v1, v2, rfl, rfl, c, rfl, hc, ncf⟩ := fits2 hvs
  refine ⟨d, fl, wl', [], _, !g.file, c, [], rfl, Ed6.disk.grow e7, hc, ncf, fun H8 D8 fr8 => ?_⟩
  have Ed8 := (Ed6.grow e7).diskTo D8 (fr8.mono (by simp)) (.inl rfl)
  obtain ⟨de8, tx8, h81, h82, h83⟩ := Ed8.obj
  obtain ⟨dd8, hd8⟩ := Ed8.disk.obj
  have r8 : H8 r = some (.lst (enc (Ue12.start_ g.text (g.mark + 1)))) := fr8 _ _ (e7 _ _ h6) (by simpa using nm1 nr)
  -- self.disk.send(self.other_file(), HEAD_SIZE, row)
  refine q_methS (ev_fld (ev_var rfl) h81 T.cl T.n_disk F_Editor_disk) hd8 N_Disk_send (ap_v (ev_other Ed8 (ev_var rfl)) (ap_v (en_c (a := 3)) (ap_v (ev_var rfl) ap_nil))) (fun vs H9 e9 hvs => ?_)
  obtain ⟨v1, v2, v3, rfl, rfl, rfl, rfl⟩ := fits3 hvs
  refine ⟨d, fl, wl', [], _, !g.file, 3, r, _, rfl, Ed8.disk.grow e9, e9 _ _ r8, nr, ?_, fun H10 ws10 D10 fr10 => ?_⟩
  · rw [setF_cache]
    exact Nat.zero_le _
  have Ed10 := (Ed8.grow e9).diskTo D10 fr10 (.inl rfl)
  have hr10 : H10 r = some (.lst (enc (Ue12.start_ g.text (g.mark + 1)))) := by
    have nrd : r ≠ d := ne_of r8 hd8 (by intro z; cases z)
    exact fr10 _ _ (e9 _ _ r8) (by simp [nrd, nm1 nr, nm2 nr])
  have hgoal : ({ setF (Ue12.seen g.disk) (!g.file) [] with cache := (setF (Ue12.seen g.disk) (!g.file) []).cache ++ [(!g.file, 3, Ue12.start_ g.text (g.mark + 1))] } : Ue12.Files) = { Ue12.wiped (Ue12.seen g.disk) (!g.file) with cache := [(!g.file, 3, Ue12.start_ g.text (g.mark + 1))] } := by
    rw [setF_cache, wiped_setF]
    rfl
  -- self.copying = True
  refine q_ed (g' := { g with disk := { Ue12.wiped (Ue12.seen g.disk) (!g.file) with cache := [(!g.file, 3, Ue12.start_ g.text (g.mark + 1))] }, safe := g.mark, copy := some (3 + (Ue12.start_ g.text (g.mark + 1)).length) }) T Ed10 ev_c (ev_var rfl) T.n_copying (fun t => P_Editor_copying) rfl hgoal.symm (fun H11 Ed11 fr11 => ?_)
  have nre : r ≠ e := by
    obtain ⟨_, _, h101, _⟩ := Ed10.obj
    exact ne_of hr10 h101 (by intro z; cases z)
  have r11 : H11 r = some (.lst (enc (Ue12.start_ g.text (g.mark + 1)))) := fr11 _ _ hr10 (by simpa using nre)
  refine s_retL (el_1 (en_add (en_c (a := 3)) (en_lenB (er_var rfl r11)))) (fun p H12 hp e12 h12 => ?_)
  have fra : Fr [e, d, fl] H H8 := ((fr5'.trans (Fr.ex e6)).trans (Fr.ex e7)).trans (fr8.mono (by simp))
  have frb : Fr [e, d, fl, wl'] H8 H11 := ((Fr.ex e9).trans (fr10.mono (by simp))).trans (fr11.mono (by simp))
  have nw' : H wl' = none := fresh_back x4 nw
  have fr : Fr [e, d, fl] H H11 := fun b o hb nb => frb _ _ (fra _ _ hb nb) (by
    have : b ≠ wl' := fun z => by rw [z, nw'] at hb; cases hb
    simp at nb ⊢
    simp [nb, this])
  exact k H12 wl' ma ws10 p (Ed11.grow e12) (.inr nw') (.inl rfl) ((fr.mono (by simp)).trans (Fr.ex e12)) (by rw [h12, ints_enc]) (fr.fresh Ed11.live3 hp)
end
end Pk

set_option Elab.async false
set_option linter.all false
set_option maxRecDepth 100000
set_option maxHeartbeats 2000000
namespace Pk
open PySem PySem.Spec PyProof.Rows L2 Evl
section
variable {P : Program} {w : World} {K : PySem.W.Frag} {mg : Str → Option Value} {base : Heap} {X : List Addr} {CE CD CW CB : Addr}
theorem ok_turn (G : Glob mg) (T : TEd K CE) (c_arrive_all : C8.Met P w K mg base 3 CD "arrive_all" (sp_arrive_all X CD CW) []) (c_first_records : C8.Cal P w K mg base 3 "first_records" sp_first_records []) (c_next_number : C8.Cal P w K mg base 1 "next_number" sp_next_number [])
    (c_head : C8.Cal P w K mg base 2 "head" sp_head []) (c_send : C8.Met P w K mg base 3 CD "send" (sp_send X CD CW) []) (c_other_file : C8.Met P w K mg base 1 CE "other_file" (sp_other_file X CE CD CW) [])
    (c_make_mark : C8.Met P w K mg base 1 CE "make_mark" (sp_make_mark X CE CD CW) []) (d : MetX K CE "turn" "Editor.turn" s_Editor_turn ["self"]) : C8.Met P w K mg base 4 CE "turn" (spK X CE CD CW .turn) [] := by
  refine met_mk d sc_Editor_turn (fun vs H Q E ⟨_, _, _, _, _, _, _, h, _⟩ => by rw [h]; rfl) (fun f cdv A outer s H vs Q E hr ⟨e, d, fl, wl, ma, ws, g, hv, Ed, gd, _, k⟩ => ?_)
  subst hv
  obtain ⟨de, tx, h1, h2, h3⟩ := Ed.obj
  obtain ⟨dd, hd⟩ := Ed.disk.obj
  refine ⟨_, (pss_cons (ps_if (pt_not (pt_val (pe_fld (pv 0) rfl)))
      (pss_one (ps_ret (pe_lst (pa_cons (C8.pe_gc (by rfl) G.c_POWER_WRONG) pa_nil))))
      pss_nil)
    (pss_cons (ps_if (pt_not (pt_val (pe_fld (pv 0) rfl)))
      (pss_one (ps_ret (pe_lst (pa_cons (C8.pe_gc (by rfl) G.c_COPY_WRONG) pa_nil))))
      pss_nil)
    (pss_cons (ps_expr (C8.pe_mt0 c_arrive_all hr (by decide) (pe_fld (pv 0) rfl)))
    (pss_cons (ps_fld (pv 0) (C8.pe_mt0 c_other_file hr (by decide) (pv 0)) rfl)
    (pss_cons (ps_fld (pv 0) (C8.pe_c c_next_number hr (by decide) (by rfl) (pa_cons (pe_fld (pv 0) rfl) pa_nil)) rfl)
    (pss_cons (ps_expr (C8.pe_mt0 c_make_mark hr (by decide) (pv 0)))
    (pss_cons (ps_fld (pv 0) (pe_op op_add (C8.pe_gc (by rfl) G.c_HEAD_SIZE) (pe_callB call_len_seq (by rfl) G.b_len PySem.boot_len (pa_cons (C8.pe_c c_first_records hr (by decide) (by rfl) (pa_cons (pe_fld (pv 0) rfl) (pa_cons (pe_fld (pv 0) rfl) pa_nil))) pa_nil))) rfl)
    (pss_cons (ps_fld (pv 0) pe_bl rfl)
    (pss_cons (ps_expr (C8.pe_mt c_send hr (by decide) (pe_fld (pv 0) rfl) (pa_cons (pe_fld (pv 0) rfl) (pa_cons pe_int (pa_cons (C8.pe_c c_head hr (by decide) (by rfl) (pa_cons (pe_fld (pv 0) rfl) pa_nil)) pa_nil)))))
    (pss_one (ps_ret (pe_lst (pa_cons (pe_fld (pv 0) rfl) (pa_cons (pe_fld (pv 0) rfl) pa_nil)))))))))))))), ?_⟩
  have k : EdPost X CE CD CW e d fl wl ma (Ue12.alone g _) H Q := k
  refine q_when (et_not (et_B (ev_fld (ev_var rfl) h1 T.cl T.n_powered F_Editor_powered))) (fun hb H1 e1 => ?_) (fun hb H1 e1 => ?_)
  · rw [alone_off (by simpa using hb)] at k
    exact ret_no Ed k e1 ev_c rfl
  rw [alone_on (by simpa using hb)] at k
  refine q_when (et_not (et_B (ev_fld (ev_var rfl) (e1 _ _ h1) T.cl T.n_copying F_Editor_copying))) (fun hb H2 e2 => ?_) (fun hb H2 e2 => ?_)
  · have hb : g.copy = none := by simpa using hb
    rw [hb] at k
    exact ret_no Ed k (e1.trans e2) ev_c rfl
  obtain ⟨n, hn⟩ : ∃ n, g.copy = some n := by
    cases q : g.copy with
    | none => rw [q] at hb; exact absurd hb (by decide)
    | some n => exact ⟨n, rfl⟩
  rw [hn] at k
  have hnn := gd.copy n hn
  have k : EdPost X CE CD CW e d fl wl ma ({ g with disk := { Ue12.seen g.disk with cache := [(!g.file, 0, Ue12.head (Ue12.more g.number))] }, mark := g.mark + 1, marks := (g.mark + 1, g.text) :: g.marks, file := !g.file, number := Ue12.more g.number, size := n, copy := none }, Ue12.ints [g.mark + 1, n]) H Q := k
  have x2 := e1.trans e2
  -- self.disk.arrive_all()
  refine q_methS (ev_fld (ev_var rfl) (x2 _ _ h1) T.cl T.n_disk F_Editor_disk) (x2 _ _ hd) N_Disk_arrive_all ap_nil (fun vs H3 e3 hvs => ?_)
  obtain rfl := fits0 hvs
  have x3 := x2.trans e3
  refine ⟨d, fl, wl, ws, g.disk, rfl, Ed.disk.grow x3, gd.d, fun H4 wl' D4 nw fr4 => ?_⟩
  have Ed4 := (Ed.grow x3).diskTo D4 (fr4.mono (by simp)) (.inr nw)
  have fr4' : Fr [e, d, fl] H H4 := (Fr.ex x3).trans (fr4.mono (by simp))
  -- self.used = self.other_file()
  refine q_ed (g' := { g with disk := Ue12.seen g.disk, file := !g.file }) T Ed4 (ev_other Ed4 (ev_var rfl)) (ev_var rfl) T.n_used (fun t => P_Editor_used) rfl rfl (fun H5 Ed5 fr5 => ?_)
  obtain ⟨de5, tx5, h51, h52, h53⟩ := Ed5.obj
  -- self.number = next_number(self.number)
  refine q_ed (g' := { g with disk := Ue12.seen g.disk, file := !g.file, number := Ue12.more g.number }) T Ed5 (ev_fn (A := fun n : Nat => [isV (nv n)]) (pre := fun _ => True) (R := fun n => nv (Ue12.more n)) g.number trivial (ap_v (ev_fld (ev_var rfl) h51 T.cl T.n_number F_Editor_number) ap_nil)) (ev_var rfl) T.n_number (fun t => P_Editor_number) rfl rfl (fun H6 Ed6 fr6 => ?_)
  obtain ⟨de6, tx6, h61, h62, h63⟩ := Ed6.obj
  -- self.make_mark()
  refine q_methS (ev_var rfl) h61 N_Editor_make_mark ap_nil (fun vs H65 e65 hvs => ?_)
  obtain rfl := fits0 hvs
  refine ⟨e, d, fl, wl', ma, [], { g with disk := Ue12.seen g.disk, file := !g.file, number := Ue12.more g.number }, rfl, Ed6.grow e65, gd.marks, fun H7 Ed7 fr7' => ?_⟩
  have fr7 : Fr [e, ma] H6 H7 := (Fr.ex e65).trans fr7'
  obtain ⟨de7, tx7, h71, h72, h73⟩ := Ed7.obj
  -- self.size = HEAD_SIZE + len(first_records(self.text, self.last))
  refine q_ed (g' := { g with disk := Ue12.seen g.disk, file := !g.file, number := Ue12.more g.number, mark := g.mark + 1, marks := (g.mark + 1, g.text) :: g.marks, size := n }) T Ed7 (v := nv n) ?_ (ev_var rfl) T.n_size (fun t => P_Editor_size) rfl rfl (fun H8 Ed8 fr8 => ?_)
  · rw [hnn]
    exact en_add (en_c (a := 3)) (en_lenB (elR (el_fn (A := fun i : List Nat × Nat => [isB i.1, isV (nv i.2)]) (pre := fun i => i.1.length + 1 ≤ 255) (R := fun i => Ue12.start_ i.1 i.2) (g.text, g.mark + 1) (by have := gd.text; dsimp only; omega)
      (ap_b (evR (ev_fld (ev_var rfl) h71 T.cl T.n_text F_Editor_text) h72) (ap_v (ev_fld (ev_var rfl) h71 T.cl T.n_last F_Editor_last) ap_nil)))))
  -- self.copying = False
  refine q_ed (g' := { g with disk := Ue12.seen g.disk, file := !g.file, number := Ue12.more g.number, mark := g.mark + 1, marks := (g.mark + 1, g.text) :: g.marks, size := n, copy := none }) T Ed8 ev_c (ev_var rfl) T.n_copying (fun t => P_Editor_copying) rfl rfl (fun H9 Ed9 fr9 => ?_)
  obtain ⟨de9, tx9, h91, h92, h93⟩ := Ed9.obj
  obtain ⟨dd9, hd9⟩ := Ed9.disk.obj
  -- self.disk.send(self.used, 0, head(self.number))
  refine q_methS (ev_fld (ev_var rfl) h91 T.cl T.n_disk F_Editor_disk) hd9 N_Disk_send (ap_v (ev_fld (ev_var rfl) h91 T.cl T.n_used F_Editor_used) (ap_v (en_c (a := 0)) (ap_cons (P := fun v H' => ∃ c, v = .ref c ∧ H' c = some (.lst (enc (Ue12.head (Ue12.more g.number)))) ∧ c ∉ fl :: wl' :: X) ?_ ?_ ap_nil))) (fun vs H10 e10 hvs => ?_)
  · refine fun Ha ea Qa qa => (el_fn (A := fun n : Nat => [isV (nv n)]) (pre := fun _ => True) (R := Ue12.head) (Ue12.more g.number) trivial (ap_v (ev_fld (ev_var rfl) (ea _ _ h91) T.cl T.n_number F_Editor_number) ap_nil)) Ha (Ex.refl Ha) _ fun c Hb nc eb hb => qa _ Hb eb ⟨c, rfl, hb, (Ed9.disk.grow ea).nfresh nc⟩
  · exact fun v Ha Hb eab ⟨c, h, h', h''⟩ => ⟨c, h, eab _ _ h', h''⟩
  obtain ⟨v1, v2, v3, rfl, rfl, rfl, c, rfl, hc, ncf⟩ := fits3 hvs
  refine ⟨d, fl, wl', [], _, !g.file, 0, c, _, rfl, Ed9.disk.grow e10, hc, ncf, Nat.zero_le _, fun H11 ws11 D11 fr11 => ?_⟩
  have Ed11 := (Ed9.grow e10).diskTo D11 fr11 (.inl rfl)
  obtain ⟨de11, tx11, h111, h112, h113⟩ := Ed11.obj
  refine s_retL (el_2 (ev_fld (ev_var rfl) h111 T.cl T.n_last F_Editor_last) (ev_fld (ev_var rfl) h111 T.cl T.n_size F_Editor_size)) (fun p H12 hp e12 h12 => ?_)
  have fra : Fr [e, d, fl, ma] H H9 := (fr4'.mono (by simp)).trans (((((fr5.mono (by simp)).trans (fr6.mono (by simp))).trans (fr7.mono (by simp))).trans (fr8.mono (by simp))).trans (fr9.mono (by simp)))
  have frb : Fr [e, d, fl, wl'] H9 H11 := (Fr.ex e10).trans (fr11.mono (by simp))
  have nw' : H wl' = none := fresh_back x3 nw
  have fr : Fr [e, d, fl, ma] H H11 := fun b o hb nb => frb _ _ (fra _ _ hb nb) (by
    have : b ≠ wl' := fun z => by rw [z, nw'] at hb; cases hb
    simp at nb ⊢
    simp [nb, this])
  have lv : ∀ x ∈ [e, d, fl, ma], H11 x ≠ none := fun x hx => Ed11.live x (by simp at hx ⊢; rcases hx with h | h | h | h <;> simp [h])
  exact k H12 wl' ma ws11 p (Ed11.grow e12) (.inr nw') (.inl rfl) ((fr.mono (by simp)).trans (Fr.ex e12)) (by rw [h12, ints_enc]) (fr.fresh lv hp)
/-! ### begin_file -/
def chain (b n sz : Nat) (t : Addr) (m : Nat) (fs : List (Str × V)) : List (Str × V) := putF "copying" (.bl false) (putF "safe" (nv m) (putF "last" (nv m) (putF "text" (.ref t) (putF "size" (nv sz) (putF "number" (nv n) (putF "used" (nv b) fs))))))
theorem chain_full {v0 v1 v2 v3 v4 v5 v6 v7 v8 v9 : V} {b n sz m : Nat} {t : Addr} : chain b n sz t m (F_Editor v0 v1 v2 v3 v4 v5 v6 v7 v8 v9) = F_Editor v0 v1 v2 (nv b) (nv n) (nv sz) (.ref t) (nv m) (nv m) (.bl false) := by
  unfold chain
  rw [P_Editor_used, P_Editor_number, P_Editor_size, P_Editor_text, P_Editor_last, P_Editor_safe, P_Editor_copying]
theorem putF_nil {f : Str} {v : V} : putF f v [] = [(f, v)] := rfl
theorem chain_two {v0 v1 v2 : V} {b n sz m : Nat} {t : Addr} : chain b n sz t m [("disk", v0), ("powered", v1), ("remembered", v2)] = F_Editor v0 v1 v2 (nv b) (nv n) (nv sz) (.ref t) (nv m) (nv m) (.bl false) := by
  have p : ∀ {f g : Str} {v x : V} {r : List (Str × V)}, ¬ g = f → putF f v ((g, x) :: r) = (g, x) :: putF f v r := fun h => put_past h
  unfold chain F_Editor
  repeat (first | rw [putF_nil] | rw [p (by decide +kernel)])
theorem putF_len (f : Str) (v : V) : ∀ fs : List (Str × V), (putF f v fs).length ≤ fs.length + 1
  | [] => by simp [putF]
  | (g, x) :: r => by
    have := putF_len f v r
    unfold putF
    split <;> simp <;> omega
def sp_begin_file (X : List Addr) (CE CD CW : Addr) : Sp := fun vs H Q _ => ∃ (e de d fl wl : Addr) (ws : List Addr) (F : Ue12.Files) (fs : List (Str × V)) (b : Bool) (n : Nat) (tx : Addr) (t : List Nat) (m : Nat), vs = [.ref e, nv b.toNat, nv n, .ref tx, nv m] ∧ H e = some (.ins CE de fs) ∧ fs.lookup ("disk" : Str) = some (.ref d) ∧ fs.length ≤ 100 ∧
  ¬ ((∃ x y, fs = F_Disk x y) ∨ (∃ x y z, fs = F_Write x y z)) ∧ DkAt X CD CW d fl wl ws F H ∧ H tx = some (.lst (enc t)) ∧ tx ∉ fl :: wl :: X ∧ t.length ≤ 200 ∧
  ∀ H', H' e = some (.ins CE de (chain b.toNat n (Ue12.head n ++ Ue12.start_ t m).length tx m fs)) → DkAt X CD CW d fl wl ws (setF F b (Ue12.head n ++ Ue12.start_ t m)) H' → H' tx = some (.lst (enc t)) → Fr [e, fl] H H' → Q .non H'
theorem ok_begin_file (G : Glob mg) (T : TEd K CE) (c_head : C8.Cal P w K mg base 2 "head" sp_head []) (c_first_records : C8.Cal P w K mg base 3 "first_records" sp_first_records []) (c_put : C8.Met P w K mg base 1 CD "put" (sp_put X CD CW) [])
    (d : MetX K CE "begin_file" "Editor.begin_file" s_Editor_begin_file ["self", "file", "number", "text", "mark"]) : C8.Met P w K mg base 4 CE "begin_file" (sp_begin_file X CE CD CW) [] := by
  refine met_mk d sc_Editor_begin_file (fun vs H Q E ⟨_, _, _, _, _, _, _, _, _, _, _, _, _, h, _⟩ => by rw [h]; rfl) (fun f cdv A outer s H vs Q E hr ⟨e, de, d, fl, wl, ws, F, fs, b, n, tx, t, m, hv, he, hlk, hlen, hnd, D, ht, htn, htl, k⟩ => ?_)
  subst hv
  refine ⟨_, (pss_cons (ps_set (i := 5) sc_Editor_begin_file.nd rfl (.inl rfl) (pe_op op_cat (C8.pe_c c_head hr (by decide) (by rfl) (pa_cons (pv 2) pa_nil)) (C8.pe_c c_first_records hr (by decide) (by rfl) (pa_cons (pv 3) (pa_cons (pv 4) pa_nil)))))
    (pss_cons (ps_expr (C8.pe_mt c_put hr (by decide) (pe_fld (pv 0) rfl) (pa_cons (pv 1) (pa_cons (pv 5) pa_nil))))
    (pss_cons (ps_fld (pv 0) (pv 1) rfl)
    (pss_cons (ps_fld (pv 0) (pv 2) rfl)
    (pss_cons (ps_fld (pv 0) (pe_callB call_len_seq (by rfl) G.b_len PySem.boot_len (pa_cons (pv 5) pa_nil)) rfl)
    (pss_cons (ps_fld (pv 0) (pv 3) rfl)
    (pss_cons (ps_fld (pv 0) (pv 4) rfl)
    (pss_cons (ps_fld (pv 0) (pv 4) rfl)
    (pss_one (ps_fld (pv 0) pe_bl rfl)))))))))), ?_⟩
  refine q_asgL (el_catB (elR (el_fn (A := fun n : Nat => [isV (nv n)]) (pre := fun _ => True) (R := Ue12.head) n trivial (ap_v (ev_var rfl) ap_nil))) (elR (el_fn (A := fun i : List Nat × Nat => [isB i.1, isV (nv i.2)]) (pre := fun i => i.1.length + 1 ≤ 255) (R := fun i => Ue12.start_ i.1 i.2) (t, m) (by dsimp only; omega) (ap_b (er_var rfl ht) (ap_v (ev_var rfl) ap_nil)))) ?_) (fun r H1 hr1 e1 h1 => ?_)
  · rw [start_len]
    show 3 + (t.length + 12) ≤ 100000
    omega
  have D1 := D.grow e1
  have nr := D.nfresh hr1
  obtain ⟨dd, hd⟩ := D1.obj
  refine q_methS (ev_fld (ev_var rfl) (e1 _ _ he) T.cl T.n_disk hlk) hd N_Disk_put (ap_v (ev_var rfl) (ap_v (ev_var rfl) ap_nil)) (fun vs H2 e2 hvs => ?_)
  obtain ⟨v1, v2, rfl, rfl, rfl⟩ := fits2 hvs
  refine ⟨d, fl, wl, ws, F, b, r, _, rfl, D1.grow e2, e2 _ _ h1, nr, fun H3 D3 fr3 => ?_⟩
  obtain ⟨_, _, f1, _⟩ := D.files
  have nef : e ≠ fl := ne_of he f1 (by intro z; cases z)
  have he3 : H3 e = some (.ins CE de fs) := fr3 _ _ (e2 _ _ (e1 _ _ he)) (by simpa using nef)
  have ht3 : H3 tx = some (.lst (enc t)) := fr3 _ _ (e2 _ _ (e1 _ _ ht)) (by simpa using nm1 htn)
  have hr3 : H3 r = some (.lst (enc (Ue12.head n ++ Ue12.start_ t m))) := fr3 _ _ (e2 _ _ h1) (by simpa using nm1 nr)
  have nre : r ≠ e := ne_of hr3 he3 (by intro z; cases z)
  have nte : tx ≠ e := ne_of ht3 he3 (by intro z; cases z)
  have l1 := putF_len "used" (nv b.toNat) fs
  refine q_fldV (ev_var rfl) (ev_var rfl) he3 T.cl T.n_used (by omega) (fun H4 e4 => ?_)
  have l2 := putF_len "number" (nv n) (putF "used" (nv b.toNat) fs)
  refine q_fldV (ev_var rfl) (ev_var rfl) upd_same T.cl T.n_number (by omega) (fun H5 e5 => ?_)
  have r5 : (upd H5 e (.ins CE de (putF "number" (nv n) (putF "used" (nv b.toNat) fs)))) r = some (.lst (enc (Ue12.head n ++ Ue12.start_ t m))) := by
    rw [upd_ne nre]
    refine e5 _ _ ?_
    rw [upd_ne nre]
    exact e4 _ _ hr3
  have l3 := putF_len "size" (nv (Ue12.head n ++ Ue12.start_ t m).length) (putF "number" (nv n) (putF "used" (nv b.toNat) fs))
  refine q_fldV (en_lenB (er_var rfl r5)) (ev_var rfl) upd_same T.cl T.n_size (by omega) (fun H6 e6 => ?_)
  have l4 := putF_len "text" (.ref tx) (putF "size" (nv (Ue12.head n ++ Ue12.start_ t m).length) (putF "number" (nv n) (putF "used" (nv b.toNat) fs)))
  refine q_fldV (ev_var rfl) (ev_var rfl) upd_same T.cl T.n_text (by omega) (fun H7 e7 => ?_)
  have l5 := putF_len "last" (nv m) (putF "text" (.ref tx) (putF "size" (nv (Ue12.head n ++ Ue12.start_ t m).length) (putF "number" (nv n) (putF "used" (nv b.toNat) fs))))
  refine q_fldV (ev_var rfl) (ev_var rfl) upd_same T.cl T.n_last (by omega) (fun H8 e8 => ?_)
  have l6 := putF_len "safe" (nv m) (putF "last" (nv m) (putF "text" (.ref tx) (putF "size" (nv (Ue12.head n ++ Ue12.start_ t m).length) (putF "number" (nv n) (putF "used" (nv b.toNat) fs)))))
  refine q_fldV (ev_var rfl) (ev_var rfl) upd_same T.cl T.n_safe (by omega) (fun H9 e9 => ?_)
  refine s_fldV ev_c (ev_var rfl) upd_same T.cl T.n_copying (by omega) (fun H10 e10 => ?_)
  have fe : Fr [e] H3 (upd H10 e (.ins CE de (chain b.toNat n (Ue12.head n ++ Ue12.start_ t m).length tx m fs))) := by
    have a4 : Fr [e] H3 (upd H4 e (.ins CE de (putF "used" (nv b.toNat) fs))) := (Fr.ex e4).upd (by simp)
    have a5 := (a4.trans (Fr.ex e5)).upd (o := .ins CE de (putF "number" (nv n) (putF "used" (nv b.toNat) fs))) (a := e) (by simp)
    have a6 := (a5.trans (Fr.ex e6)).upd (o := .ins CE de (putF "size" (nv (Ue12.head n ++ Ue12.start_ t m).length) (putF "number" (nv n) (putF "used" (nv b.toNat) fs)))) (a := e) (by simp)
    have a7 := (a6.trans (Fr.ex e7)).upd (o := .ins CE de (putF "text" (.ref tx) (putF "size" (nv (Ue12.head n ++ Ue12.start_ t m).length) (putF "number" (nv n) (putF "used" (nv b.toNat) fs))))) (a := e) (by simp)
    have a8 := (a7.trans (Fr.ex e8)).upd (o := .ins CE de (putF "last" (nv m) (putF "text" (.ref tx) (putF "size" (nv (Ue12.head n ++ Ue12.start_ t m).length) (putF "number" (nv n) (putF "used" (nv b.toNat) fs)))))) (a := e) (by simp)
    have a9 := (a8.trans (Fr.ex e9)).upd (o := .ins CE de (putF "safe" (nv m) (putF "last" (nv m) (putF "text" (.ref tx) (putF "size" (nv (Ue12.head n ++ Ue12.start_ t m).length) (putF "number" (nv n) (putF "used" (nv b.toNat) fs))))))) (a := e) (by simp)
    exact (a9.trans (Fr.ex e10)).upd (by simp)
  refine k _ upd_same ?_ (fe _ _ ht3 (by simpa using nte)) (((Fr.ex (e1.trans e2)).trans (fr3.mono (by simp))).trans (fe.mono (by simp)))
  have live : ∀ x ∈ X, upd H10 e (.ins CE de (chain b.toNat n (Ue12.head n ++ Ue12.start_ t m).length tx m fs)) x ≠ none := fun x hx z => by
    by_cases q : x = e
    · rw [q, upd_same] at z; cases z
    · cases q2 : H3 x with
      | none => exact D3.xs x hx q2
      | some o => rw [fe x o q2 (by simpa using q)] at z; cases z
  refine D3.frame (fun c o hc q => fe c o hc ?_) live
  rw [List.mem_singleton]
  intro z
  rw [z, he3] at hc
  rcases q CE de fs (Option.some.inj hc).symm with q | q
  · exact hnd (.inl q.2)
  · exact hnd (.inr q.2)
end
end Pk

set_option Elab.async false
set_option linter.all false
set_option maxRecDepth 100000
set_option maxHeartbeats 2000000
namespace Pk
open PySem PySem.Spec PyProof.Rows L2 Evl
theorem find_filter (m k : Nat) : ∀ l : List (Nat × List Nat), ((l.filter fun x => decide (x.1 ≤ m)).find? fun x => x.1 == k) = if k ≤ m then l.find? fun x => x.1 == k else none
  | [] => by simp
  | x :: l => by
    have ih := find_filter m k l
    rw [List.filter_cons, find_cons]
    by_cases h : x.1 ≤ m
    · rw [if_pos (by simpa using h), find_cons, ih]
      by_cases q : x.1 = k
      · rw [if_pos q, if_pos q, if_pos (by omega)]
      · rw [if_neg q, if_neg q]
    · rw [if_neg (by simpa using h), ih]
      by_cases q : k ≤ m
      · rw [if_pos q, if_pos q, if_neg (by omega)]
      · rw [if_neg q, if_neg q]
/-- what is left of the dict's first entries -/
structure FK (m : Nat) (kl kvs : List (L2.Key × V)) (i : Nat) : Prop where
  nd : (kl.map (·.1)).Nodup
  keys : ∀ p ∈ kl, ∃ k : Nat, p.1 = .inl (k : Int)
  len : kl.length ≤ i
  val : ∀ k : Nat, valV kl (.inl (k : Int)) = if k ≤ m then valV (kvs.take i) (.inl (k : Int)) else none
theorem valV_take {kvs : List (L2.Key × V)} {i : Nat} {p : L2.Key × V} (hn : (kvs.map (·.1)).Nodup) (h : kvs[i]? = some p) (j : L2.Key) : valV (kvs.take (i + 1)) j = if j = p.1 then some p.2 else valV (kvs.take i) j := by
  rw [take_snoc h]
  refine valV_snoc p.1 j p.2 _ ?_
  cases q : valV (kvs.take i) p.1 with
  | none => rfl
  | some y =>
    exfalso
    have h1 := valV_in q
    have e : kvs.map (·.1) = (kvs.take i).map (·.1) ++ (kvs.drop i).map (·.1) := by rw [← List.map_append, List.take_append_drop]
    rw [e, List.nodup_append] at hn
    refine hn.2.2 p.1 h1 p.1 (List.mem_map.mpr ⟨p, ?_, rfl⟩) rfl
    have : (kvs.drop i)[0]? = some p := by rw [List.getElem?_drop]; exact h
    exact List.mem_of_getElem? this
theorem FK.step {m i n : Nat} {kl kvs : List (L2.Key × V)} {v : V} (f : FK m kl kvs i) (hn : (kvs.map (·.1)).Nodup) (h : kvs[i]? = some (.inl (n : Int), v)) : FK m (if n ≤ m then putK kl (.inl (n : Int)) v else kl) kvs (i + 1) := by
  by_cases c : n ≤ m
  · rw [if_pos c]
    refine ⟨nd_put f.nd, fun p hp => ?_, ?_, fun k => ?_⟩
    · rcases keys_put hp with q | ⟨q, hq, e⟩
      · exact ⟨n, q⟩
      · rw [← e]
        exact f.keys q hq
    · have := length_putK kl (.inl (n : Int)) v
      have := f.len
      omega
    · rw [valV_put, f.val k, valV_take hn h]
      by_cases q : k = n
      · subst q
        rw [if_pos rfl, if_pos rfl, if_pos c]
      · rw [if_neg fun z => q (inl_inj.mp z), if_neg fun z => q (inl_inj.mp z)]
  · rw [if_neg c]
    refine ⟨f.nd, f.keys, by have := f.len; omega, fun k => ?_⟩
    rw [f.val k, valV_take hn h]
    by_cases q : k ≤ m
    · rw [if_pos q, if_pos q, if_neg fun z => by have := inl_inj.mp z; omega]
    · rw [if_neg q, if_neg q]
theorem en_dnew {σ : L2.St} {H : Hp} : EvN tDNewK σ H (fun p H2 => H2 p = some (.dK [])) := fun H1 _ Q q => fun p hp => q p _ hp (Ex.new hp) upd_same
theorem s_forItems {σ : L2.St} {H : Hp} {td : TE} {g : TG} {tu : TS} {D : Ends} {d : Addr} {o : Obj} {kvs : List (L2.Key × V)} (h : Ev td σ H (.ref d)) (hd : H d = some (.frz o (.dK kvs))) (Pv : Nat → L2.St → Hp → Prop) (h0 : ∀ H1, Ex H H1 → Pv 0 σ H1) (hG : ∀ i σ H, i ≤ kvs.length → Pv i σ H → H d = some (.frz o (.dK kvs)))
    (hs : ∀ i x σ H H', i < kvs.length → Pv i σ H → YPair (fun i => kvs[i]?.map fun kv => kV kv.1) (fun i => kvs[i]?.map Prod.snd) i H x H' → g x σ H' fun σ2 H2 => tu { D with nx := Pv (i + 1), ct := Pv (i + 1), bk := D.nx } σ2 H2) (he : ∀ σ H, Pv kvs.length σ H → D.nx σ H) : tFor (iItems td) g tu D σ H :=
  h H (Ex.refl H) _ fun H1 e => ⟨d, o, kvs, rfl, e _ _ hd, for_it walk_items Pv (h0 H1 e) hG hs he⟩
section
variable {P : Program} {w : World} {K : PySem.W.Frag} {mg : Str → Option Value} {base : Heap} {X : List Addr} {CE CD CW : Addr}
def sp_forget (X : List Addr) (CE CD CW : Addr) : Sp := fun vs H Q _ => ∃ (e d fl wl ma : Addr) (ws : List Addr) (g : Ue12.St) (m : Nat), vs = [.ref e, nv m] ∧ EdAt X CE CD CW e d fl wl ma ws g H ∧ g.marks.length ≤ 1000 ∧
  ∀ H' ma', EdAt X CE CD CW e d fl wl ma' ws { g with marks := g.marks.filter fun x => decide (x.1 ≤ m) } H' → H ma' = none → Fr [e] H H' → Q .non H'
theorem ok_forget (G : Glob mg) (T : TEd K CE) (d : MetX K CE "forget_behind" "Editor.forget_behind" s_Editor_forget_behind ["self", "mark"]) : C8.Met P w K mg base 1 CE "forget_behind" (sp_forget X CE CD CW) [] := by
  refine met_mk d sc_Editor_forget_behind (fun vs H Q E ⟨_, _, _, _, _, _, _, _, h, _⟩ => by rw [h]; rfl) (fun f cdv A outer s H vs Q E hr ⟨e, d, fl, wl, ma, ws, g, m, hv, Ed, hl, k⟩ => ?_)
  subst hv
  obtain ⟨de, tx, h1, h2, h3⟩ := Ed.obj
  obtain ⟨kvs, hm, M⟩ := Ed.marks
  have hkl := M.len
  refine ⟨_, (pss_cons (ps_set (i := 2) sc_Editor_forget_behind.nd rfl (.inl rfl) pe_dnewK)
    (pss_cons (ps_lock (ps_for PassesOwn.never rfl (pi_items (pe_fld (pv 0) rfl)) (pg_tup rfl (pgs_cons (pg_name (i := 3) sc_Editor_forget_behind.nd rfl (.inl rfl)) (pgs_cons (pg_name (i := 4) sc_Editor_forget_behind.nd rfl (.inl rfl)) pgs_nil)))
      (pss_one (ps_if (pt_cmpR op_le (pv 3) (pv 1) (nomark _))
        (pss_one (ps_dput (hu_of hr) (pv 2) (pv 3) (pv 4) rfl))
        pss_nil))))
    (pss_one (ps_fld (pv 0) (pv 2) rfl)))), ?_⟩
  refine q_asgN en_dnew (fun lf H1 nl e1 hlf => ?_)
  have nlm : lf ≠ ma := fun z => by rw [z, hm] at nl; cases nl
  have nem : e ≠ ma := ne_of h1 hm (by intro z; cases z)
  refine ⟨ma, .dK kvs, e1 _ _ hm, trivial, fun od => ?_⟩
  have he0 : (upd H1 ma (.frz od (.dK kvs))) e = some (.ins CE de (edF d ma tx g)) := by
    rw [upd_ne nem]
    exact e1 _ _ h1
  refine s_forItems (ev_fld (ev_var rfl) he0 T.cl T.n_remembered F_Editor_remembered) upd_same (fun i σ' H' => ∃ v3 v4 kl, σ' = [some (.ref e), some (nv m), some (.ref lf), v3, v4] ∧ H' ma = some (.frz od (.dK kvs)) ∧ H' lf = some (.dK kl) ∧ FK m kl kvs i ∧ ∀ b o, H b = some o → b ≠ ma → H' b = some o)
    (fun H2 e2 => ⟨none, none, [], rfl, e2 _ _ upd_same, e2 _ _ (by rw [upd_ne nlm]; exact hlf), ⟨List.nodup_nil, fun p hp => (List.not_mem_nil hp).elim, Nat.le_refl _, fun k => by rw [List.take_zero, valV_nil]; split <;> rfl⟩, fun b o hb nb => e2 _ _ (by rw [upd_ne nb]; exact e1 _ _ hb)⟩)
    (fun i σ' H' _ ⟨_, _, _, _, h, _⟩ => h) ?_ ?_
  · rintro i y σ' H' H3 hi ⟨v3, v4, kl, rfl, i1, i2, i3, i4⟩ ⟨Tp, x, z, rfl, hT, rfl, hx, hz⟩
    obtain ⟨p, hp⟩ : ∃ p, kvs[i]? = some p := ⟨kvs[i], List.getElem?_eq_getElem hi⟩
    have hx : (kvs[i]?).map (fun kv => kV kv.1) = some x := hx
    have hz : (kvs[i]?).map Prod.snd = some z := hz
    rw [hp] at hx hz
    have hx : kV p.1 = x := Option.some.inj hx
    have hz : p.2 = z := Option.some.inj hz
    obtain ⟨n, hn⟩ := M.keys p (List.mem_of_getElem? hp)
    have hp' : kvs[i]? = some (.inl (n : Int), z) := by rw [hp, ← hn, ← hz]
    have hx : x = nv n := by rw [← hx, hn]; rfl
    subst hx
    refine ⟨Tp, [nv n, z], rfl, SqT.of upd_same, rfl, _, _, rfl, _, _, rfl, rfl, ?_⟩
    have eT : Ex H' (upd H' Tp (.tup [nv n, z])) := Ex.new hT
    show tIfS _ _ _ _ [some (.ref e), some (nv m), some (.ref lf), some (nv n), some z] _
    have st := i3.step M.nd hp'
    refine s_if (et_test (eb_le (ev_var rfl) (ev_var rfl))) (fun hb H4 e4 => ?_) (fun hb H4 e4 => ?_)
    · rw [if_pos (of_decide_eq_true hb)] at st
      have x4 := eT.trans e4
      refine s_dput (k := .inl (n : Int)) (x4 _ _ i2) (ev_var rfl) (ev_var rfl) (ev_var rfl) (by have := i3.len; omega) (fun H5 e5 => ?_)
      have x5 := x4.trans e5
      refine ⟨_, _, _, rfl, by rw [upd_ne (Ne.symm nlm)]; exact x5 _ _ i1, upd_same, st, fun b o hb nb => ?_⟩
      rw [upd_ne (ne_of_none hb nl)]
      exact x5 _ _ (i4 b o hb nb)
    · rw [if_neg (of_decide_eq_false hb)] at st
      have x4 := eT.trans e4
      exact ⟨_, _, _, rfl, x4 _ _ i1, x4 _ _ i2, st, fun b o hb nb => x4 _ _ (i4 b o hb nb)⟩
  · rintro σ' H' ⟨v3, v4, kl, rfl, i1, i2, i3, i4⟩
    refine ⟨i1, ?_⟩
    have eH : Ex H (upd H' ma (.dK kvs)) := fun b o hb => by
      by_cases z : b = ma
      · rw [z, hm] at hb
        rw [z, upd_same]
        exact hb
      · rw [upd_ne z]
        exact i4 b o hb z
    have hlf' : (upd H' ma (.dK kvs)) lf = some (.dK kl) := by rw [upd_ne nlm]; exact i2
    refine s_fldV (ev_var rfl) (ev_var rfl) (eH _ _ h1) T.cl T.n_remembered (by show 10 < 1000; decide) (fun H4 e4 => ?_)
    have x4 := eH.trans e4
    have ne1 : lf ≠ e := ne_of hlf' (eH _ _ h1) (by intro z; cases z)
    have keep : ∀ b xs, H4 b = some (.lst xs) → (upd H4 e (.ins CE de (putF "remembered" (.ref lf) (edF d ma tx g)))) b = some (.lst xs) := fun b xs q => by
      rw [upd_ne (ne_of q (x4 _ _ h1) (by intro z; cases z))]
      exact q
    refine k _ lf ⟨⟨de, tx, Eq.trans upd_same (congrArg (fun z => some (HO.ins CE de z)) P_Editor_remembered), keep _ _ (x4 _ _ h2), h3⟩, (Ed.disk.grow x4).updE (x4 _ _ h1) (edF_disk rfl), kl, by rw [upd_ne ne1]; exact e4 _ _ hlf', ⟨i3.nd, i3.keys, fun k => ?_⟩⟩ nl ((Fr.ex x4).upd (by simp))
    have hv := i3.val k
    rw [List.take_length] at hv
    rw [hv, find_filter]
    by_cases q : k ≤ m
    · rw [if_pos q, if_pos q]
      exact ((M.grow x4).val k).mono (fun b xs q _ => keep b xs q) (fun _ _ _ q => q)
    · rw [if_neg q, if_neg q]
      rfl
end
end Pk

set_option Elab.async false
set_option linter.all false
set_option maxRecDepth 100000
set_option maxHeartbeats 2000000
namespace Pk
open PySem PySem.Spec PyProof.Rows L2 Evl
theorem brought_le : ∀ (l : List Ue12.Rec) (x : Ue12.Read), x.now.length ≤ 200 → x.kept.length ≤ 200 → (Ue12.brought x l).kept.length ≤ 200 ∧ (Ue12.brought x l).now.length ≤ 200
  | [], _, h1, h2 => ⟨h2, h1⟩
  | .change c :: l, x, h1, h2 => by
    unfold Ue12.brought
    split
    · exact brought_le l _ (by rename_i h; exact h.2) h2
    · exact ⟨h2, h1⟩
  | .mark n :: l, x, h1, h2 => brought_le l _ h1 h1
  | .whole t :: l, x, h1, h2 => by
    unfold Ue12.brought
    split
    · exact brought_le l _ (by assumption) h2
    · exact ⟨h2, h1⟩
theorem found_some {F : Ue12.Files} {b : Bool} {n : Nat} {r : Ue12.Read} (h : Ue12.found F = some (b, n, r)) : cnt (Ue12.fileOf F b) = true ∧ n = numB (Ue12.fileOf F b) ∧ r = Ue12.brought ⟨[], [], 0⟩ (recs (bodies ((Ue12.fileOf F b).drop 3))) := by
  have ea := fileRead_eq F.a
  have eb := fileRead_eq F.b
  unfold Ue12.found at h
  rw [ea, eb] at h
  cases ca : cnt F.a <;> cases cb : cnt F.b <;> rw [ca, cb] at h
  · cases h
  · injection h with h
    injection h with h1 h2
    injection h2 with h2 h3
    subst h1
    exact ⟨cb, h2.symm, h3.symm⟩
  · injection h with h
    injection h with h1 h2
    injection h2 with h2 h3
    subst h1
    exact ⟨ca, h2.symm, h3.symm⟩
  · have h : (if numB F.a < numB F.b then some (true, numB F.b, Ue12.brought ⟨[], [], 0⟩ (recs (bodies (F.b.drop 3)))) else some (false, numB F.a, Ue12.brought ⟨[], [], 0⟩ (recs (bodies (F.a.drop 3))))) = some (b, n, r) := h
    by_cases c : numB F.a < numB F.b
    · rw [if_pos c] at h
      injection h with h
      injection h with h1 h2
      injection h2 with h2 h3
      subst h1
      exact ⟨cb, h2.symm, h3.symm⟩
    · rw [if_neg c] at h
      injection h with h
      injection h with h1 h2
      injection h2 with h2 h3
      subst h1
      exact ⟨ca, h2.symm, h3.symm⟩
theorem written_start (F : Ue12.Files) (b : Bool) (t : List Nat) (h : t ≠ []) : Ue12.written (Ue12.wiped F b) (b, 0, t) = setF F b t := by
  have e : Ue12.put [] 0 t = t := by
    rw [put_eq _ _ _ h]
    simp
  cases b with
  | true =>
    show ({ Ue12.wiped F true with b := Ue12.put [] 0 t } : Ue12.Files) = _
    rw [e]
    rfl
  | false =>
    show ({ Ue12.wiped F false with a := Ue12.put [] 0 t } : Ue12.Files) = _
    rw [e]
    rfl
section
variable {P : Program} {w : World} {K : PySem.W.Frag} {mg : Str → Option Value} {base : Heap} {X : List Addr} {CE CD CW CB : Addr}
theorem ok_start (G : Glob mg) (T : TEd K CE) (TDk : TD K CD) (TBr : TB K CB) (c_found_file : C8.Met P w K mg base 6 CD "found_file" (sp_found_file X CD CW) []) (c_bring_about : C8.Cal P w K mg base 3 "bring_about" (sp_bring_about CB) []) (c_file_bodies : C8.Cal P w K mg base 4 "file_bodies" sp_file_bodies [])
    (c_next_number : C8.Cal P w K mg base 1 "next_number" sp_next_number []) (c_file_number : C8.Cal P w K mg base 1 "file_number" sp_file_number []) (c_begin_file : C8.Met P w K mg base 4 CE "begin_file" (sp_begin_file X CE CD CW) [])
    (c_forget_behind : C8.Met P w K mg base 1 CE "forget_behind" (sp_forget X CE CD CW) []) (d : MetX K CE "start" "Editor.start" s_Editor_start ["self"]) : C8.Met P w K mg base 7 CE "start" (spK X CE CD CW .start) [] := by
  refine met_mk d sc_Editor_start (fun vs H Q E ⟨_, _, _, _, _, _, _, h, _⟩ => by rw [h]; rfl) (fun f cdv A outer s H vs Q E hr ⟨e, d, fl, wl, ma, ws, g, hv, Ed, gd, _, k⟩ => ?_)
  subst hv
  obtain ⟨de, tx, h1, h2, h3⟩ := Ed.obj
  obtain ⟨dd, hd⟩ := Ed.disk.obj
  obtain ⟨a0, a1, f1, f2, f3, f4, f5⟩ := Ed.disk.files
  refine ⟨_, (pss_cons (ps_if (pt_val (pe_fld (pv 0) rfl))
      (pss_one (ps_ret (pe_lst (pa_cons (C8.pe_gc (by rfl) G.c_POWER_WRONG) pa_nil))))
      pss_nil)
    (pss_cons (ps_set (i := 1) sc_Editor_start.nd rfl (.inl rfl) (C8.pe_mt0 c_found_file hr (by decide) (pe_fld (pv 0) rfl)))
    (pss_cons (ps_if (pt_cmpR op_isN (pv 1) pe_non (nomark _))
      (pss_one (ps_ret (pe_lst (pa_cons (C8.pe_gc (by rfl) G.c_NO_FILE) pa_nil))))
      pss_nil)
    (pss_cons (ps_set (i := 2) sc_Editor_start.nd rfl (.inl rfl) (pe_ix ix_list (pe_fld (pe_fld (pv 0) rfl) rfl) (pv 1) (fun _ _ => rfl)))
    (pss_cons (ps_set (i := 3) sc_Editor_start.nd rfl (.inl rfl) (C8.pe_c c_bring_about hr (by decide) (by rfl) (pa_cons (C8.pe_c c_file_bodies hr (by decide) (by rfl) (pa_cons (pv 2) pa_nil)) pa_nil)))
    (pss_cons (ps_expr (C8.pe_mt c_begin_file hr (by decide) (pv 0) (pa_cons (pe_op op_sub pe_int (pv 1)) (pa_cons (C8.pe_c c_next_number hr (by decide) (by rfl) (pa_cons (C8.pe_c c_file_number hr (by decide) (by rfl) (pa_cons (pv 2) pa_nil)) pa_nil)) (pa_cons (pe_fld (pv 3) rfl) (pa_cons (pe_fld (pv 3) rfl) pa_nil))))))
    (pss_cons (ps_expr (C8.pe_mt c_forget_behind hr (by decide) (pv 0) (pa_cons (pe_fld (pv 0) rfl) pa_nil)))
    (pss_cons (ps_fld (pv 0) pe_bl rfl)
    (pss_one (ps_ret (pe_lst (pa_cons (pe_fld (pv 0) rfl) (pa_cons (pe_callB call_len_seq (by rfl) G.b_len PySem.boot_len (pa_cons (pe_fld (pv 0) rfl) pa_nil)) (pa_cons (pv 1) pa_nil)))))))))))))), ?_⟩
  have k : EdPost X CE CD CW e d fl wl ma (if g.on = true then (g, [-9]) else (match Ue12.found g.disk with
    | none => (g, [-6])
    | some (b, n, r) =>
      (⟨Ue12.written (Ue12.wiped g.disk (!b)) (!b, 0, Ue12.head (Ue12.more n) ++ Ue12.start_ r.kept r.mark), r.kept, r.mark, r.mark, g.marks.filter fun x => decide (x.1 ≤ r.mark), !b, Ue12.more n, (Ue12.head (Ue12.more n) ++ Ue12.start_ r.kept r.mark).length, none, true⟩, Ue12.ints [r.mark, r.kept.length, if b = true then 1 else 0]))) H Q := k
  refine q_when (et_B (ev_fld (ev_var rfl) h1 T.cl T.n_powered F_Editor_powered)) (fun hb H1 e1 => ?_) (fun hb H1 e1 => ?_)
  · rw [if_pos hb] at k
    exact ret_no Ed k e1 ev_c rfl
  rw [if_neg (by rw [hb]; decide)] at k
  refine q_asg (v := foundV g.disk) (ev_methV (ev_fld (ev_var rfl) (e1 _ _ h1) T.cl T.n_disk F_Editor_disk) (e1 _ _ hd) N_Disk_found_file ap_nil (fun vs H2 e2 hvs Q' q' => ?_)) (fun H2 e2 => ?_)
  · obtain rfl := fits0 hvs
    exact ⟨d, fl, wl, ws, g.disk, rfl, Ed.disk.grow (e1.trans e2), gd.d, q'⟩
  have x2 := e1.trans e2
  refine q_when (et_isN (ev_var rfl)) (fun hb H3 e3 => ?_) (fun hb H3 e3 => ?_)
  · have hf : Ue12.found g.disk = none := by
      have hb := of_decide_eq_true hb
      unfold foundV at hb
      cases q : Ue12.found g.disk with
      | none => rfl
      | some y => rw [q] at hb; cases hb
    rw [hf] at k
    exact ret_no Ed k (x2.trans e3) ev_c rfl
  obtain ⟨b, n, r, hf⟩ : ∃ b n r, Ue12.found g.disk = some (b, n, r) := by
    cases q : Ue12.found g.disk with
    | none =>
      have hb := of_decide_eq_false hb
      unfold foundV at hb
      rw [q] at hb
      exact absurd rfl hb
    | some y => exact ⟨y.1, y.2.1, y.2.2, rfl⟩
  have hfv : foundV g.disk = nv b.toNat := by unfold foundV; rw [hf]
  rw [hf] at k
  rw [hfv]
  dsimp only at k
  obtain ⟨hcnt, hn, hr'⟩ := found_some hf
  have hkept := (brought_le (recs (bodies ((Ue12.fileOf g.disk b).drop 3))) ⟨[], [], 0⟩ (Nat.zero_le _) (Nat.zero_le _)).1
  rw [← hr'] at hkept
  have x3 := x2.trans e3
  obtain ⟨ar, har, hrow, hlr⟩ : ∃ ar, ([.ref a0, .ref a1] : List V)[b.toNat]? = some (.ref ar) ∧ H ar = some (.lst (enc (Ue12.fileOf g.disk b))) ∧ (Ue12.fileOf g.disk b).length ≤ 600 := by
    cases b with
    | true => exact ⟨a1, rfl, f3, gd.d.b⟩
    | false => exact ⟨a0, rfl, f2, gd.d.a⟩
  -- row = self.disk.files[found]
  refine q_asg (ev_ixR (evR (ev_fld (ev_fld (ev_var rfl) (x3 _ _ h1) T.cl T.n_disk F_Editor_disk) (x3 _ _ hd) TDk.cl TDk.n_files F_Disk_files) (x3 _ _ f1)) (ev_var rfl) har) (fun H4 e4 => ?_)
  have x4 := x3.trans e4
  -- brought = bring_about(file_bodies(row))
  refine q_asgC (ap_cons (P := isLL (bodies ((Ue12.fileOf g.disk b).drop 3))) (ep_fn (A := fun r : List Nat => [isB r]) (pre := fun r => r.length ≤ 1000) (R := fun r => isLL (bodies (r.drop 3))) (Ue12.fileOf g.disk b) (by omega) (ap_b (er_var rfl (x4 _ _ hrow)) ap_nil)) mon_ll ap_nil) (fun vs H5 e5 hvs => ?_)
  have hle := (bodies_le ((Ue12.fileOf g.disk b).drop 3)).1
  refine ⟨_, hvs, ⟨bodies_known _, fun z hz => by have := hle z hz; rw [List.length_drop] at this; omega⟩, fun o H6 e6 B6 => ?_⟩
  rw [← hr'] at B6
  obtain ⟨dx, bt, bk, b1, b2, b3, b4, b5⟩ := B6
  have x5 := x4.trans e5
  have x6 := x5.trans e6
  have nk : bk ∉ fl :: wl :: X := (Ed.disk.grow x5).nfresh b5
  -- self.begin_file(1 - found, next_number(file_number(row)), brought.kept, brought.kept_mark)
  have c2 : 2 ≤ (Ue12.fileOf g.disk b).length := by
    unfold cnt at hcnt
    rw [Bool.and_eq_true] at hcnt
    have := of_decide_eq_true hcnt.1
    omega
  refine q_methS (ev_var rfl) (x6 _ _ h1) N_Editor_begin_file (ap_v (x := nv (!b).toNat) ?_ (ap_v (x := nv (Ue12.more n)) ?_ (ap_v (ev_fld (ev_var rfl) b1 TBr.cl TBr.n_kept F_Brought_kept) (ap_v (ev_fld (ev_var rfl) b1 TBr.cl TBr.n_mark F_Brought_kept_mark) ap_nil)))) (fun vs H7 e7 hvs => ?_)
  · rw [not_nat]
    exact en_sub (en_c (a := 1)) (ev_var rfl) (by cases b <;> decide)
  · refine ev_fn (A := fun n : Nat => [isV (nv n)]) (pre := fun _ => True) (R := fun n => nv (Ue12.more n)) n trivial (ap_v ?_ ap_nil)
    rw [hn]
    exact ev_fn (A := fun r : List Nat => [isB r]) (pre := fun r => 2 ≤ r.length) (R := fun r => nv (r.getD 0 0 + 256 * r.getD 1 0)) (Ue12.fileOf g.disk b) c2 (ap_b (er_var rfl (x6 _ _ hrow)) ap_nil)
  obtain ⟨v1, v2, v3, v4, rfl, rfl, rfl, rfl, rfl⟩ := fits4 hvs
  have x7 := x6.trans e7
  refine ⟨e, de, d, fl, wl, ws, g.disk, edF d ma tx g, !b, Ue12.more n, bk, r.kept, r.mark, rfl, x7 _ _ h1, F_Editor_disk, by show 10 ≤ 100; decide, edF_disk rfl, Ed.disk.grow x7, e7 _ _ b3, nk, hkept, fun H8 o8 D8 t8 fr8 => ?_⟩
  have hc : chain (!b).toNat (Ue12.more n) (Ue12.head (Ue12.more n) ++ Ue12.start_ r.kept r.mark).length bk r.mark (edF d ma tx g) = edF d ma bk { g with disk := setF g.disk (!b) (Ue12.head (Ue12.more n) ++ Ue12.start_ r.kept r.mark), text := r.kept, mark := r.mark, safe := r.mark, file := !b, number := Ue12.more n, size := (Ue12.head (Ue12.more n) ++ Ue12.start_ r.kept r.mark).length, copy := none } := chain_full
  rw [hc] at o8
  obtain ⟨kvs, hm, M⟩ := (Ed.grow x7).marks
  have row : ∀ b xs, H7 b = some (.lst xs) → b ∉ fl :: wl :: X → b ∉ [e, fl] := fun b xs q n => by
    have n1 : b ≠ e := ne_of q (x7 _ _ h1) (by intro z; cases z)
    simp [n1, nm1 n]
  have nme : ma ∉ [e, fl] := by
    have n1 : ma ≠ e := ne_of hm (x7 _ _ h1) (by intro z; cases z)
    have n2 : ma ≠ fl := ne_of hm (x7 _ _ f1) (by intro z; cases z)
    simp [n1, n2]
  have Ed8 : EdAt X CE CD CW e d fl wl ma ws { g with disk := setF g.disk (!b) (Ue12.head (Ue12.more n) ++ Ue12.start_ r.kept r.mark), text := r.kept, mark := r.mark, safe := r.mark, file := !b, number := Ue12.more n, size := (Ue12.head (Ue12.more n) ++ Ue12.start_ r.kept r.mark).length, copy := none } H8 := ⟨⟨de, bk, o8, t8, nk⟩, D8, kvs, fr8 _ _ hm nme, M.mono (fun b xs q n => fr8 _ _ q (row b xs q n)) (fun _ _ _ q => q)⟩
  have frA : Fr [e, d, fl] H H8 := (Fr.ex x7).trans (fr8.mono (by simp))
  -- self.forget_behind(self.last)
  refine q_methS (ev_var rfl) o8 N_Editor_forget_behind (ap_v (ev_fld (ev_var rfl) o8 T.cl T.n_last F_Editor_last) ap_nil) (fun vs H85 e85 hvs => ?_)
  obtain ⟨v, rfl, rfl⟩ := fits1 hvs
  refine ⟨e, d, fl, wl, ma, ws, _, r.mark, rfl, Ed8.grow e85, gd.marks, fun H86 ma' Ed86 nma fr86 => ?_⟩
  have nma' : H ma' = none := frA.fresh Ed8.live3 (fresh_back e85 nma)
  -- self.powered = True
  have hw : Ue12.written (Ue12.wiped g.disk (!b)) (!b, 0, Ue12.head (Ue12.more n) ++ Ue12.start_ r.kept r.mark) = setF g.disk (!b) (Ue12.head (Ue12.more n) ++ Ue12.start_ r.kept r.mark) := written_start _ _ _ (by intro z; cases z)
  rw [hw] at k
  refine q_ed (g' := ⟨setF g.disk (!b) (Ue12.head (Ue12.more n) ++ Ue12.start_ r.kept r.mark), r.kept, r.mark, r.mark, g.marks.filter fun x => decide (x.1 ≤ r.mark), !b, Ue12.more n, (Ue12.head (Ue12.more n) ++ Ue12.start_ r.kept r.mark).length, none, true⟩) T Ed86 ev_c (ev_var rfl) T.n_powered (fun t => P_Editor_powered) rfl rfl (fun H9 Ed9 fr9 => ?_)
  obtain ⟨de9, tx9, h91, h92, h93⟩ := Ed9.obj
  refine s_retL (el_3 (ev_fld (ev_var rfl) h91 T.cl T.n_last F_Editor_last) (en_lenB (evR (ev_fld (ev_var rfl) h91 T.cl T.n_text F_Editor_text) h92)) (ev_var rfl)) (fun p H10 hp e10 h10 => ?_)
  have fr : Fr [e, d, fl] H H9 := ((frA.trans (Fr.ex e85)).trans (fr86.mono (by simp))).trans (fr9.mono (by simp))
  have hbn : (if b = true then 1 else 0) = b.toNat := by cases b <;> rfl
  exact k H10 wl ma' ws p (Ed9.grow e10) (.inl rfl) (.inr nma') ((fr.mono (by simp)).trans (Fr.ex e10)) (by rw [h10, ints_enc, hbn]) (fr.fresh Ed9.live3 hp)
/-! ### Editor() -/
theorem en_disp0 {σ : L2.St} {H : Hp} : EvN (tDisp [(tC (.int 0), tLst tNil)]) σ H (fun p H2 => ∃ a, H2 p = some (.dK [(.inl 0, .ref a)]) ∧ H2 a = some (.lst (enc [])) ∧ H a = none) := fun H1 e Q q p hp => by
  show tLst tNil σ (upd H1 p (.dK [])) (fun y H2 => (H2 p = some (.dK []) ∧ ∃ kvs : List (L2.Key × V), [(V.int 0, y)] = kvs.map (fun kv => (kV kv.1, kv.2)) ∧ kvs.length ≤ 15 ∧ Q (.ref p) (upd H2 p (.dK (mergeK [] kvs)))))
  refine el_0 (upd H1 p (.dK [])) (Ex.refl _) _ fun a H2 na e2 h2 => ?_
  have nap : a ≠ p := fun z => by rw [z, upd_same] at na; cases na
  refine ⟨e2 _ _ upd_same, [(.inl 0, .ref a)], rfl, (by show 1 ≤ 15; decide), q p _ hp (Ex.mut ((Ex.new hp).trans e2) hp) ⟨a, upd_same, ?_, fresh_back e (fresh_back (Ex.new hp) na)⟩⟩
  rw [upd_ne nap]
  exact h2
def sp_Editor (CE CD CW : Addr) : Sp := spI2 CE fun H0 e H => ∃ d fl wl ma ws, EdAt [] CE CD CW e d fl wl ma ws Ue12.init H ∧ H0 d = none ∧ H0 fl = none ∧ H0 wl = none ∧ H0 ma = none
theorem ok_Editor (G : Glob mg) (T : TEd K CE) (m_Disk : C8.Mak P w K mg base 1 "Disk" CD (sp_Disk CD CW) []) (c_begin_file : C8.Met P w K mg base 4 CE "begin_file" (sp_begin_file [] CE CD CW) [])
    (d : MakX K mg "Editor" CE "Editor.__init__" s_Editor___init__ ["self"]) : C8.Mak P w K mg base 5 "Editor" CE (sp_Editor CE CD CW) [] := by
  refine mak_mk d sc_Editor___init__ (fun vs H Q E ⟨_, _, h, _⟩ => by rw [h]; rfl) (fun f cdv A outer s H vs Q E hr ⟨e, dx, hv, he, k⟩ => ?_)
  subst hv
  refine ⟨_, (pss_cons (ps_fld (pv 0) (pe_mk0 m_Disk hr (by decide) (by rfl)) rfl)
    (pss_cons (ps_fld (pv 0) pe_bl rfl)
    (pss_cons (ps_fld (pv 0) (pe_disp (pps_cons pe_int (pe_lst pa_nil) pps_nil) (by rfl) (by rfl) (fun z => by cases z) (by decide)) rfl)
    (pss_one (ps_expr (C8.pe_mt c_begin_file hr (by decide) (pv 0) (pa_cons pe_int (pa_cons pe_int (pa_cons (pe_lst pa_nil) (pa_cons pe_int pa_nil)))))))))), ?_⟩
  refine q_fldN en_make2 (ev_var rfl) he T.cl T.n_disk (by show 0 < 1000; decide) (fun d H1 H2 nd e1 ⟨Hm, em, fl, wl, D, nf, nw⟩ e2 => ?_)
  have nf := fresh_back em nf
  have nw := fresh_back em nw
  have D2 := D.grow e2
  have x2 := e1.trans e2
  have hp1 : putF "disk" (.ref d) ([] : List (Str × V)) = [(("disk" : Str), V.ref d)] := rfl
  rw [hp1]
  refine q_fldV ev_c (ev_var rfl) upd_same T.cl T.n_powered (by show 1 < 1000; decide) (fun H3 e3 => ?_)
  have hp2 : putF "powered" (.bl true) [(("disk" : Str), V.ref d)] = [(("disk" : Str), V.ref d), (("powered" : Str), V.bl true)] := put_past (by decide +kernel)
  rw [hp2]
  have D3 : DkAt [] CD CW d fl wl [] ⟨[], [], []⟩ (upd H3 e (.ins CE dx [("disk", .ref d), ("powered", .bl true)])) := by
    have a : DkAt [] CD CW d fl wl [] ⟨[], [], []⟩ (upd H2 e (.ins CE dx [("disk", .ref d)])) := D2.updE (x2 _ _ he) (by
      rintro (⟨x, y, h⟩ | ⟨x, y, z, h⟩)
      · cases h
      · cases h)
    refine (a.grow e3).updE (e3 _ _ upd_same) ?_
    rintro (⟨x, y, h⟩ | ⟨x, y, z, h⟩)
    · exact absurd (congrArg List.length h) (by show ¬ (1 = 2); decide)
    · exact absurd (congrArg List.length h) (by show ¬ (1 = 3); decide)
  -- self.remembered = {0: []}
  refine q_fldN en_disp0 (ev_var rfl) upd_same T.cl T.n_remembered (by show 2 < 1000; decide) (fun ma H35 H36 nma e35 ⟨ra, m1, m2, nra⟩ e36 => ?_)
  have x36 := e35.trans e36
  have hp3 : putF "remembered" (.ref ma) [(("disk" : Str), V.ref d), (("powered" : Str), V.bl true)] = [(("disk" : Str), V.ref d), (("powered" : Str), V.bl true), (("remembered" : Str), V.ref ma)] := (put_past (by decide +kernel)).trans (congrArg _ (put_past (by decide +kernel)))
  rw [hp3]
  have D36 := D3.grow x36
  have D4 : DkAt [] CD CW d fl wl [] ⟨[], [], []⟩ (upd H36 e (.ins CE dx [("disk", .ref d), ("powered", .bl true), ("remembered", .ref ma)])) := by
    refine D36.updE (x36 _ _ upd_same) ?_
    rintro (⟨x, y, h⟩ | ⟨x, y, z, h⟩)
    · injection h with h
      injection h with h
      exact absurd h (by decide +kernel)
    · exact absurd (congrArg List.length h) (by show ¬ (2 = 3); decide)
  have nme : ma ≠ e := fun z => by rw [z, upd_same] at nma; cases nma
  have nre : ra ≠ e := fun z => by rw [z, upd_same] at nra; cases nra
  have hm4 : (upd H36 e (.ins CE dx [("disk", .ref d), ("powered", .bl true), ("remembered", .ref ma)])) ma = some (.dK [(.inl 0, .ref ra)]) := by rw [upd_ne nme]; exact e36 _ _ m1
  have hr4 : (upd H36 e (.ins CE dx [("disk", .ref d), ("powered", .bl true), ("remembered", .ref ma)])) ra = some (.lst (enc [])) := by rw [upd_ne nre]; exact e36 _ _ m2
  have nrf : ra ∉ [fl, wl] := by
    obtain ⟨_, _, f1, _⟩ := D3.files
    have q1 : ra ≠ fl := fun z => by rw [z, f1] at nra; cases nra
    have q2 : ra ≠ wl := fun z => by rw [z, D3.wlist] at nra; cases nra
    simp [q1, q2]
  have nma0 : H ma = none := by
    cases q : H ma with
    | none => rfl
    | some o =>
      rw [upd_ne nme, e3 _ _ (by rw [upd_ne nme]; exact x2 _ _ q)] at nma
      cases nma
  have hlk : List.lookup ("begin_file" : Str) [(("disk" : Str), V.ref d), ("powered", .bl true), ("remembered", .ref ma)] = none := (lk_past (by decide +kernel)).trans ((lk_past (by decide +kernel)).trans ((lk_past (by decide +kernel)).trans rfl))
  refine r_meth (ev_var rfl) upd_same hlk (ap_v (en_c (a := 0)) (ap_v (en_c (a := 1)) (ap_cons (P := fun v H' => ∃ c, v = .ref c ∧ H' c = some (.lst (enc [])) ∧ c ∉ [fl, wl]) ?_ ?_ (ap_v (en_c (a := 0)) ap_nil)))) (fun vs H4 e4 hvs => ?_)
  · exact fun Ha ea Qa qa => el_0 Ha (Ex.refl Ha) _ fun c Hb nc eb hb => qa _ Hb eb ⟨c, rfl, hb, (D4.grow ea).nfresh nc⟩
  · exact fun v Ha Hb eab ⟨c, h, h', h''⟩ => ⟨c, h, eab _ _ h', h''⟩
  obtain ⟨v1, v2, v3, v4, rfl, rfl, rfl, ⟨c, rfl, hc, ncf⟩, rfl⟩ := fits4 hvs
  refine ⟨e, dx, d, fl, wl, [], ⟨[], [], []⟩, _, false, 1, c, [], 0, rfl, e4 _ _ upd_same, lk_here, by show 3 ≤ 100; decide, ?_, D4.grow e4, hc, ncf, by decide, fun H5 o5 D5 t5 fr5 => ?_⟩
  · rintro (⟨x, y, h⟩ | ⟨x, y, z, h⟩)
    · exact absurd (congrArg List.length h) (by show ¬ (3 = 2); decide)
    · injection h with h
      injection h with h
      exact absurd h (by decide +kernel)
  rw [chain_two] at o5
  obtain ⟨_, _, f1, _⟩ := D4.files
  have nmf : ma ∉ [e, fl] := by
    have q : ma ≠ fl := ne_of hm4 f1 (by intro z; cases z)
    simp [nme, q]
  have nrf' : ra ∉ [e, fl] := by
    simp at nrf
    simp [nre, nrf]
  refine k H5 (fun b o hb nb => ?_) ⟨d, fl, wl, ma, [], ⟨⟨dx, c, o5, t5, ncf⟩, D5, _, fr5 _ _ (e4 _ _ hm4) nmf, ⟨by simp, fun p hp => ⟨0, by rw [List.mem_singleton.mp hp]; rfl⟩, fun k => ?_⟩⟩, nd, nf, nw, nma0⟩
  · have nbf : b ≠ fl := fun z => by rw [z, nf] at hb; cases hb
    refine fr5 _ _ (e4 _ _ ?_) (by simp [nb, nbf])
    rw [upd_ne nb]
    refine x36 _ _ ?_
    rw [upd_ne nb]
    refine e3 _ _ ?_
    rw [upd_ne nb]
    exact x2 _ _ hb
  · show MVal _ _ _ ([((0 : Nat), ([] : List Nat))].find? fun y => y.1 == k)
    rw [find_cons]
    by_cases q : 0 = k
    · subst q
      rw [if_pos rfl]
      exact ⟨ra, valV_pos rfl, fr5 _ _ (e4 _ _ hr4) nrf', nrf⟩
    · rw [if_neg q]
      exact (valV_neg (p := ((Sum.inl 0 : L2.Key), V.ref ra)) (fun z => q (inl_inj.mp z))).trans valV_nil
end
end Pk

set_option Elab.async false
set_option linter.all false
set_option maxRecDepth 100000
set_option maxHeartbeats 2000000
namespace Pk
theorem GoodD.setF {F : Ue12.Files} (g : GoodD F) {b : Bool} {t : List Nat} (h : t.length ≤ 600) : GoodD (setF F b t) := by
  cases b with
  | true => exact ⟨g.a, h, g.c⟩
  | false => exact ⟨h, g.b, g.c⟩
theorem good_init : GoodB Ue12.init := by
  refine ⟨⟨by decide, by decide, fun x hx => (List.not_mem_nil hx).elim⟩, by decide, by decide, by decide, by decide, fun n h => (by cases h), fun _ => rfl, fun x hx => by rw [List.mem_singleton.mp hx]; exact Nat.zero_le _⟩
theorem good_free {g : Ue12.St} {x : Ue12.St × List Int} (h : GoodB g) (hx : g.on = true → g.copy = none → GoodB x.1) : GoodB (Ue12.free g x).1 := by
  by_cases c : refusal g < 0
  · rw [free_of c]
    exact h
  · obtain ⟨e, h1, h2⟩ := free_on (x := x) c
    rw [e]
    exact hx h1 h2
theorem good_alone {g : Ue12.St} {x : Ue12.St × List Int} (h : GoodB g) (hx : g.on = true → GoodB x.1) : GoodB (Ue12.alone g x).1 := by
  cases c : g.on with
  | false =>
    rw [alone_off c]
    exact h
  | true =>
    rw [alone_on c]
    exact hx c
theorem good_app {g : Ue12.St} (h : GoodB g) (on : g.on = true) (hc : g.copy = none) (r : Ue12.Rec) (h6 : g.size + (Ue12.bytesOf r).length ≤ 600) (h1 : 1 ≤ (Ue12.bytesOf r).length) {t : List Nat} (ht : t.length ≤ 200) (m : Nat) (ms : List (Nat × List Nat)) (hms : ∀ x ∈ ms, x.2.length ≤ 200) : GoodB { Ue12.append g r with text := t, mark := m, marks := ms } := by
  refine ⟨⟨h.d.a, h.d.b, fun x hx => ?_⟩, ht, h6, ?_, ?_, fun n q => ?_, fun q => ?_, hms⟩
  · have hx : x ∈ g.disk.cache ++ [(g.file, g.size, Ue12.bytesOf r)] := hx
    rcases List.mem_append.mp hx with hx | hx
    · exact h.d.c x hx
    · rw [List.mem_singleton.mp hx]
      exact h6
  · show (g.disk.cache ++ [(g.file, g.size, Ue12.bytesOf r)]).length ≤ g.size + (Ue12.bytesOf r).length
    have := h.cache
    rw [List.length_append]
    show g.disk.cache.length + 1 ≤ _
    omega
  · show 1 ≤ g.size + (Ue12.bytesOf r).length
    omega
  · have q : g.copy = some n := q
    rw [hc] at q
    cases q
  · have q : g.on = false := q
    rw [on] at q
    cases q
theorem mt_cons {g : Ue12.St} (h : GoodB g) {n : Nat} : ∀ x ∈ (n, g.text) :: g.marks, x.2.length ≤ 200 := fun x hx => by
  rcases List.mem_cons.mp hx with rfl | hx
  · exact h.text
  · exact h.mt x hx
theorem good_step {g : Ue12.St} (h : GoodB g) (k : Ue12.Call) : GoodB (Ue12.step g k).1 := by
  cases k with
  | change c =>
    refine good_free h fun on hc => ?_
    split
    · exact h
    split
    · exact h
    split
    · exact h
    · rename_i h1 h2 h3
      refine good_app h on hc (.change c) (Nat.le_of_not_lt h3) ?_ (Nat.le_of_not_lt h2) g.mark g.marks h.mt
      rw [change_len]
      omega
  | mark =>
    refine good_free h fun on hc => ?_
    split
    · exact h
    split
    · exact h
    · rename_i h1 h2
      refine good_app h on hc (.mark (g.mark + 1)) ?_ ?_ h.text (g.mark + 1) ((g.mark + 1, g.text) :: g.marks) (mt_cons h)
      · rw [mark_len]
        exact Nat.le_of_not_lt h2
      · rw [mark_len]
        decide
  | flush =>
    refine good_alone h fun on => ?_
    exact ⟨h.d.seen, h.text, h.size, Nat.zero_le _, h.pos, h.copy, fun _ => rfl, h.mt⟩
  | copy =>
    refine good_free h fun on hc => ?_
    split
    · exact h
    · have hs := start_len g.text (g.mark + 1)
      have ht := h.text
      have gd := h.d.seen.setF (b := !g.file) (t := []) (Nat.zero_le _)
      rw [← wiped_setF] at gd
      refine ⟨⟨gd.a, gd.b, fun x hx => ?_⟩, h.text, h.size, h.pos, h.pos, fun n q => ?_, fun q => ?_, h.mt⟩
      · rw [List.mem_singleton.mp hx]
        show 3 + (Ue12.start_ g.text (g.mark + 1)).length ≤ 600
        omega
      · have q : some (3 + (Ue12.start_ g.text (g.mark + 1)).length) = some n := q
        exact (Option.some.inj q).symm
      · have q : g.on = false := q
        rw [on] at q
        cases q
  | turn =>
    refine good_alone h fun on => ?_
    cases hc : g.copy with
    | none => exact h
    | some n =>
      have hn := h.copy n hc
      have hs := start_len g.text (g.mark + 1)
      have ht := h.text
      have gd := h.d.seen
      refine ⟨⟨gd.a, gd.b, fun x hx => ?_⟩, h.text, ?_, ?_, ?_, fun n q => (by cases q), fun q => ?_, mt_cons h⟩
      · rw [List.mem_singleton.mp hx]
        show 0 + 3 ≤ 600
        decide
      · show n ≤ 600
        omega
      · show 1 ≤ n
        omega
      · show 1 ≤ n
        omega
      · have q : g.on = false := q
        rw [on] at q
        cases q
  | power l =>
    refine good_alone h fun on => ?_
    exact ⟨h.d.gone l, h.text, h.size, Nat.zero_le _, h.pos, h.copy, fun _ => rfl, h.mt⟩
  | start =>
    show GoodB (if g.on = true then (g, [-9]) else (match Ue12.found g.disk with
    | none => (g, [-6])
    | some (b, n, r) =>
      (⟨Ue12.written (Ue12.wiped g.disk (!b)) (!b, 0, Ue12.head (Ue12.more n) ++ Ue12.start_ r.kept r.mark), r.kept, r.mark, r.mark, g.marks.filter fun x => decide (x.1 ≤ r.mark), !b, Ue12.more n, (Ue12.head (Ue12.more n) ++ Ue12.start_ r.kept r.mark).length, none, true⟩, Ue12.ints [r.mark, r.kept.length, if b = true then 1 else 0]))).1
    split
    · exact h
    · rename_i hon
      cases hf : Ue12.found g.disk with
      | none => exact h
      | some y =>
        obtain ⟨b, n, r⟩ := y
        obtain ⟨_, _, hr'⟩ := found_some hf
        have hkept := (brought_le (recs (bodies ((Ue12.fileOf g.disk b).drop 3))) ⟨[], [], 0⟩ (Nat.zero_le _) (Nat.zero_le _)).1
        rw [← hr'] at hkept
        have hl : (Ue12.head (Ue12.more n) ++ Ue12.start_ r.kept r.mark).length = r.kept.length + 15 := by
          rw [List.length_append, start_len]
          show 3 + _ = _
          omega
        have hcache : g.disk.cache = [] := h.off (by simpa using hon)
        dsimp only
        rw [written_start _ _ _ (by intro z; cases z)]
        have gd := h.d.setF (b := !b) (t := Ue12.head (Ue12.more n) ++ Ue12.start_ r.kept r.mark) (by omega)
        refine ⟨gd, hkept, ?_, ?_, ?_, fun n q => (by cases q), fun q => (by cases q), fun x hx => h.mt x (List.mem_filter.mp hx).1⟩
        · show (Ue12.head (Ue12.more n) ++ Ue12.start_ r.kept r.mark).length ≤ 600
          omega
        · show (setF g.disk (!b) (Ue12.head (Ue12.more n) ++ Ue12.start_ r.kept r.mark)).cache.length ≤ _
          rw [setF_cache, hcache]
          exact Nat.zero_le _
        · show 1 ≤ (Ue12.head (Ue12.more n) ++ Ue12.start_ r.kept r.mark).length
          omega
  | shows => exact good_alone h fun _ => h
  | file b => exact h
  | spoil b p x =>
    show GoodB (if g.on = true then (g, [-9]) else if (Ue12.fileOf g.disk b).length ≤ p ∨ 255 < x then (g, [-1]) else ({ g with disk := Ue12.written g.disk (b, p, [x]) }, Ue12.ints [(Ue12.fileOf g.disk b).getD p 0])).1
    split
    · exact h
    split
    · exact h
    · rename_i h1 h2
      have hp : p < (Ue12.fileOf g.disk b).length := by omega
      have hl : (Ue12.fileOf g.disk b).length ≤ 600 := by
        cases b with
        | true => exact h.d.b
        | false => exact h.d.a
      refine ⟨h.d.written (x := (b, p, [x])) (by show p + 1 ≤ 600; omega), h.text, h.size, ?_, h.pos, h.copy, fun q => ?_, h.mt⟩
      · show (Ue12.written g.disk (b, p, [x])).cache.length ≤ g.size
        rw [written_cache]
        exact h.cache
      · show (Ue12.written g.disk (b, p, [x])).cache = []
        rw [written_cache]
        exact h.off q
  | read w => exact h
  | state => exact h
  | was m => exact h
theorem marks_free {g : Ue12.St} {x : Ue12.St × List Int} (hx : x.1.marks.length ≤ g.marks.length + 1) : (Ue12.free g x).1.marks.length ≤ g.marks.length + 1 := by
  unfold Ue12.free
  split
  · exact Nat.le_succ _
  split
  · exact Nat.le_succ _
  · exact hx
theorem marks_alone {g : Ue12.St} {x : Ue12.St × List Int} (hx : x.1.marks.length ≤ g.marks.length + 1) : (Ue12.alone g x).1.marks.length ≤ g.marks.length + 1 := by
  unfold Ue12.alone
  split
  · exact Nat.le_succ _
  · exact hx
theorem marks_step (g : Ue12.St) (k : Ue12.Call) : (Ue12.step g k).1.marks.length ≤ g.marks.length + 1 := by
  cases k with
  | change c =>
    refine marks_free ?_
    split
    · exact Nat.le_succ _
    split
    · exact Nat.le_succ _
    split
    · exact Nat.le_succ _
    · exact Nat.le_succ _
  | mark =>
    refine marks_free ?_
    split
    · exact Nat.le_succ _
    split
    · exact Nat.le_succ _
    · exact Nat.le_refl _
  | flush => exact marks_alone (Nat.le_succ _)
  | copy =>
    refine marks_free ?_
    split
    · exact Nat.le_succ _
    · exact Nat.le_succ _
  | turn =>
    refine marks_alone ?_
    cases g.copy with
    | none => exact Nat.le_succ _
    | some n => exact Nat.le_refl _
  | power l => exact marks_alone (Nat.le_succ _)
  | start =>
    show (if g.on = true then (g, [-9]) else (match Ue12.found g.disk with
    | none => (g, [-6])
    | some (b, n, r) =>
      (⟨Ue12.written (Ue12.wiped g.disk (!b)) (!b, 0, Ue12.head (Ue12.more n) ++ Ue12.start_ r.kept r.mark), r.kept, r.mark, r.mark, g.marks.filter fun x => decide (x.1 ≤ r.mark), !b, Ue12.more n, (Ue12.head (Ue12.more n) ++ Ue12.start_ r.kept r.mark).length, none, true⟩, Ue12.ints [r.mark, r.kept.length, if b = true then 1 else 0]))).1.marks.length ≤ _
    split
    · exact Nat.le_succ _
    · cases Ue12.found g.disk with
      | none => exact Nat.le_succ _
      | some y => exact Nat.le_succ_of_le (List.length_filter_le _ _)
  | shows => exact marks_alone (Nat.le_succ _)
  | file b => exact Nat.le_succ _
  | spoil b p x =>
    show (if g.on = true then (g, [-9]) else if (Ue12.fileOf g.disk b).length ≤ p ∨ 255 < x then (g, [-1]) else ({ g with disk := Ue12.written g.disk (b, p, [x]) }, Ue12.ints [(Ue12.fileOf g.disk b).getD p 0])).1.marks.length ≤ _
    split
    · exact Nat.le_succ _
    split
    · exact Nat.le_succ _
    · exact Nat.le_succ _
  | read w => exact Nat.le_succ _
  | state => exact Nat.le_succ _
  | was m => exact Nat.le_succ _
end Pk

set_option Elab.async false
set_option linter.all false
set_option maxRecDepth 100000
set_option maxHeartbeats 2000000
namespace Pk
open PySem PySem.Spec PyProof.Rows L2 Evl
theorem cons_enc (w : List Nat) : ((w.length : Int) :: Ue12.ints w).map V.int = enc (w.length :: w) := by
  rw [List.map_cons, ints_enc]
  rfl
theorem ev_dnotin {σ : L2.St} {H : Hp} {ty td : TE} {a : Addr} {k : L2.Key} {kvs : List (L2.Key × V)} (hy : Ev ty σ H (kV k)) (hd : Ev td σ H (.ref a)) (ha : H a = some (.dK kvs)) : Ev (tDNotIn ty td) σ H (.bl (!(valV kvs k).isSome)) := fun H1 e Q q =>
  hy H1 e _ fun H2 e2 => hd H2 (e.trans e2) _ fun H3 e3 => ⟨a, _, rfl, DGet.k (k := k) (((e.trans e2).trans e3) _ _ ha), q H3 (e2.trans e3)⟩
theorem ev_dget {σ : L2.St} {H : Hp} {ty td : TE} {a : Addr} {k : L2.Key} {kvs : List (L2.Key × V)} {v : V} (hd : Ev td σ H (.ref a)) (hy : Ev ty σ H (kV k)) (ha : H a = some (.dK kvs)) (hv : valV kvs k = some v) : Ev (tDGet td ty) σ H v := fun H1 e Q q =>
  hd H1 e _ fun H2 e2 => hy H2 (e.trans e2) _ fun H3 e3 => ⟨a, v, rfl, hv ▸ DGet.k (k := k) (((e.trans e2).trans e3) _ _ ha), q H3 (e2.trans e3)⟩
section
variable {P : Program} {w : World} {K : PySem.W.Frag} {mg : Str → Option Value} {base : Heap} {X : List Addr} {CE CD CW CB : Addr}
/-- a new list is handed back, all else as it was -/
theorem ret_new {e d fl wl ma : Addr} {ws : List Addr} {g : Ue12.St} {H H1 : Hp} {Q : VK} {σ : L2.St} {te : TE} {is : List Int} {D : Ends} (Ed : EdAt X CE CD CW e d fl wl ma ws g H) (k : EdPost X CE CD CW e d fl wl ma (g, is) H Q) (x : Ex H H1) (h : EvL te σ H1 (is.map V.int)) (hD : D.rt = Q) : tRet te D σ H1 := by
  refine s_retL h (fun p H2 hp e2 h2 => ?_)
  rw [hD]
  exact k H2 wl ma ws p (Ed.grow (x.trans e2)) (.inl rfl) (.inl rfl) (Fr.ex (x.trans e2)) h2 (fresh_back x hp)
theorem el_count {σ : L2.St} {H : Hp} {te : TE} {E : XK} {r : List Nat} (h : EvR te σ H (enc r)) (hl : r.length ≤ 1000) : EvL (tCall sp_with_count [] E (tCons te tNil)) σ H (((r.length : Int) :: Ue12.ints r).map V.int) := by
  rw [cons_enc]
  exact el_fn (A := fun r : List Nat => [isB r]) (pre := fun r => r.length ≤ 1000) (R := fun r => r.length :: r) r hl (ap_b h ap_nil)
theorem ok_shows (G : Glob mg) (T : TEd K CE) (c_with_count : C8.Cal P w K mg base 1 "with_count" sp_with_count []) (d : MetX K CE "shows" "Editor.shows" s_Editor_shows ["self"]) : C8.Met P w K mg base 2 CE "shows" (spK X CE CD CW .shows) [] := by
  refine met_mk d sc_Editor_shows (fun vs H Q E ⟨_, _, _, _, _, _, _, h, _⟩ => by rw [h]; rfl) (fun f cdv A outer s H vs Q E hr ⟨e, d, fl, wl, ma, ws, g, hv, Ed, gd, _, k⟩ => ?_)
  subst hv
  obtain ⟨de, tx, h1, h2, h3⟩ := Ed.obj
  refine ⟨_, (pss_cons (ps_if (pt_not (pt_val (pe_fld (pv 0) rfl)))
      (pss_one (ps_ret (pe_lst (pa_cons (C8.pe_gc (by rfl) G.c_POWER_WRONG) pa_nil))))
      pss_nil)
    (pss_one (ps_ret (C8.pe_c c_with_count hr (by decide) (by rfl) (pa_cons (pe_fld (pv 0) rfl) pa_nil))))), ?_⟩
  have k : EdPost X CE CD CW e d fl wl ma (Ue12.alone g (g, (g.text.length : Int) :: Ue12.ints g.text)) H Q := k
  refine q_when (et_not (et_B (ev_fld (ev_var rfl) h1 T.cl T.n_powered F_Editor_powered))) (fun hb H1 e1 => ?_) (fun hb H1 e1 => ?_)
  · rw [alone_off (by simpa using hb)] at k
    exact ret_no Ed k e1 ev_c rfl
  rw [alone_on (by simpa using hb)] at k
  exact ret_new Ed k e1 (el_count (evR (ev_fld (ev_var rfl) (e1 _ _ h1) T.cl T.n_text F_Editor_text) (e1 _ _ h2)) (by have := gd.text; omega)) rfl
/-- a file's row -/
theorem file_row {d fl wl : Addr} {ws : List Addr} {F : Ue12.Files} {H : Hp} (D : DkAt X CD CW d fl wl ws F H) (gd : GoodD F) (b : Bool) : ∃ (xs : List V) (ar : Addr), H fl = some (.lst xs) ∧ xs[b.toNat]? = some (.ref ar) ∧ H ar = some (.lst (enc (Ue12.fileOf F b))) ∧ (Ue12.fileOf F b).length ≤ 600 ∧ ar ∉ fl :: wl :: X := by
  obtain ⟨a0, a1, f1, f2, f3, f4, f5⟩ := D.files
  refine ⟨_, if b = true then a1 else a0, f1, ?_⟩
  cases b with
  | true => exact ⟨rfl, f3, gd.b, f5⟩
  | false => exact ⟨rfl, f2, gd.a, f4⟩
theorem ok_on_disk (G : Glob mg) (T : TEd K CE) (TDk : TD K CD) (c_with_count : C8.Cal P w K mg base 1 "with_count" sp_with_count []) (d : MetX K CE "on_disk" "Editor.on_disk" s_Editor_on_disk ["self", "file"]) :
    C8.Met P w K mg base 2 CE "on_disk" (fun vs H Q E => ∃ b : Bool, spCall X CE CD CW [nv b.toNat] (fun _ _ => True) (.file b) vs H Q E) [] := by
  refine met_mk d sc_Editor_on_disk (fun vs H Q E ⟨_, _, _, _, _, _, _, _, h, _⟩ => by rw [h]; rfl) (fun f cdv A outer s H vs Q E hr ⟨b, e, d, fl, wl, ma, ws, g, hv, Ed, gd, _, k⟩ => ?_)
  subst hv
  obtain ⟨de, tx, h1, h2, h3⟩ := Ed.obj
  obtain ⟨dd, hd⟩ := Ed.disk.obj
  obtain ⟨xs, ar, f1, f2, f3, f4, f5⟩ := file_row Ed.disk gd.d b
  refine ⟨_, (pss_one (ps_ret (C8.pe_c c_with_count hr (by decide) (by rfl) (pa_cons (pe_ix ix_list (pe_fld (pe_fld (pv 0) rfl) rfl) (pv 1) (fun _ _ => rfl)) pa_nil)))), ?_⟩
  have k : EdPost X CE CD CW e d fl wl ma (g, ((Ue12.fileOf g.disk b).length : Int) :: Ue12.ints (Ue12.fileOf g.disk b)) H Q := k
  exact ret_new Ed k (Ex.refl H) (el_count (evR (ev_ixR (evR (ev_fld (ev_fld (ev_var rfl) h1 T.cl T.n_disk F_Editor_disk) hd TDk.cl TDk.n_files F_Disk_files) f1) (ev_var rfl) f2) f3) (by omega)) rfl
theorem isBytes_one (x : Nat) : Ue12.isBytes [x] = decide (x ≤ 255) := by
  show (decide (x ≤ 255) && true) = _
  rw [Bool.and_true]
theorem ok_spoil (G : Glob mg) (T : TEd K CE) (TDk : TD K CD) (c_above_bytes : C8.Cal P w K mg base 1 "above_bytes" sp_above []) (c_with_bytes : C8.Cal P w K mg base 1 "with_bytes" sp_with_bytes []) (c_put : C8.Met P w K mg base 1 CD "put" (sp_put X CD CW) [])
    (d : MetX K CE "spoil" "Editor.spoil" s_Editor_spoil ["self", "file", "place", "byte"]) : C8.Met P w K mg base 2 CE "spoil" (fun vs H Q E => ∃ (b : Bool) (p x : Nat), spCall X CE CD CW [nv b.toNat, nv p, nv x] (fun _ _ => True) (.spoil b p x) vs H Q E) [] := by
  refine met_mk d sc_Editor_spoil (fun vs H Q E ⟨_, _, _, _, _, _, _, _, _, _, h, _⟩ => by rw [h]; rfl) (fun f cdv A outer s H vs Q E hr ⟨b, pl, xx, e, d, fl, wl, ma, ws, g, hv, Ed, gd, _, k⟩ => ?_)
  subst hv
  obtain ⟨de, tx, h1, h2, h3⟩ := Ed.obj
  obtain ⟨dd, hd⟩ := Ed.disk.obj
  obtain ⟨xs, ar, f1, f2, f3, f4, f5⟩ := file_row Ed.disk gd.d b
  refine ⟨_, (pss_cons (ps_if (pt_val (pe_fld (pv 0) rfl))
      (pss_one (ps_ret (pe_lst (pa_cons (C8.pe_gc (by rfl) G.c_POWER_WRONG) pa_nil))))
      pss_nil)
    (pss_cons (ps_set (i := 4) sc_Editor_spoil.nd rfl (.inl rfl) (pe_ix ix_list (pe_fld (pe_fld (pv 0) rfl) rfl) (pv 1) (fun _ _ => rfl)))
    (pss_cons (ps_if (PW.pt (pw_or (pt_cmpR op_ge (pv 2) (pe_callB call_len_seq (by rfl) G.b_len PySem.boot_len (pa_cons (pv 4) pa_nil)) (nomark _)) (pw_or1 (pt_val (C8.pe_c c_above_bytes hr (by decide) (by rfl) (pa_cons (pe_lst (pa_cons (pv 3) pa_nil)) pa_nil))))))
      (pss_one (ps_ret (pe_lst (pa_cons (C8.pe_gc (by rfl) G.c_NOT_SUCH) pa_nil))))
      pss_nil)
    (pss_cons (ps_expr (C8.pe_mt c_put hr (by decide) (pe_fld (pv 0) rfl) (pa_cons (pv 1) (pa_cons (C8.pe_c c_with_bytes hr (by decide) (by rfl) (pa_cons (pv 4) (pa_cons (pv 2) (pa_cons (pe_lst (pa_cons (pv 3) pa_nil)) pa_nil)))) pa_nil))))
    (pss_one (ps_ret (pe_lst (pa_cons (pe_ix ix_list (pv 4) (pv 2) (fun _ _ => rfl)) pa_nil)))))))), ?_⟩
  have k : EdPost X CE CD CW e d fl wl ma (if g.on = true then (g, [-9]) else if (Ue12.fileOf g.disk b).length ≤ pl ∨ 255 < xx then (g, [-1]) else ({ g with disk := Ue12.written g.disk (b, pl, [xx]) }, Ue12.ints [(Ue12.fileOf g.disk b).getD pl 0])) H Q := k
  refine q_when (et_B (ev_fld (ev_var rfl) h1 T.cl T.n_powered F_Editor_powered)) (fun hb H1 e1 => ?_) (fun hb H1 e1 => ?_)
  · rw [if_pos hb] at k
    exact ret_no Ed k e1 ev_c rfl
  rw [if_neg (by rw [hb]; decide)] at k
  -- row = self.disk.files[file]
  refine q_asg (ev_ixR (evR (ev_fld (ev_fld (ev_var rfl) (e1 _ _ h1) T.cl T.n_disk F_Editor_disk) (e1 _ _ hd) TDk.cl TDk.n_files F_Disk_files) (e1 _ _ f1)) (ev_var rfl) f2) (fun H2 e2 => ?_)
  have x2 := e1.trans e2
  refine q_when (et_or (et_test (eb_ge (ev_var rfl) (en_lenB (er_var rfl (x2 _ _ f3))))) (fun _ => et_B (ev_fn (A := fun r : List Nat => [isB r]) (pre := fun _ => True) (R := fun r => V.bl (!Ue12.isBytes r)) [xx] trivial (ap_b (elR (el_1 (ev_var rfl))) ap_nil)))) (fun hb H3 e3 => ?_) (fun hb H3 e3 => ?_)
  · have hb : (Ue12.fileOf g.disk b).length ≤ pl ∨ 255 < xx := by
      rw [Bool.or_eq_true, isBytes_one] at hb
      rcases hb with hb | hb
      · exact .inl (of_decide_eq_true hb)
      · exact .inr (by simpa using hb)
    rw [if_pos hb] at k
    exact ret_no Ed k (x2.trans e3) ev_c rfl
  have hb : ¬ ((Ue12.fileOf g.disk b).length ≤ pl ∨ 255 < xx) := by
    rw [Bool.or_eq_false_iff, isBytes_one] at hb
    rintro (z | z)
    · exact of_decide_eq_false hb.1 z
    · have := hb.2
      simp at this
      omega
  rw [if_neg hb] at k
  have x3 := x2.trans e3
  have hpl : pl < (Ue12.fileOf g.disk b).length := by omega
  have D3 := Ed.disk.grow x3
  -- self.disk.put(file, with_bytes(row, place, [byte]))
  refine q_methS (ev_fld (ev_var rfl) (x3 _ _ h1) T.cl T.n_disk F_Editor_disk) (x3 _ _ hd) N_Disk_put (ap_v (ev_var rfl) (ap_cons (P := fun v H' => ∃ c, v = .ref c ∧ H' c = some (.lst (enc (Ue12.put (Ue12.fileOf g.disk b) pl [xx]))) ∧ c ∉ fl :: wl :: X) ?_ ?_ ap_nil)) (fun vs H4 e4 hvs => ?_)
  · refine fun Ha ea Qa qa => (ap_v (ev_var rfl) (ap_v (ev_var rfl) (ap_b (elR (el_1 (ev_var rfl))) ap_nil))) Ha (Ex.refl Ha) _ fun vs Hb eb hv => ?_
    obtain ⟨v1, v2, v3, rfl, rfl, rfl, c', rfl, hc'⟩ := fits3 hv
    refine ⟨ar, c', Ue12.fileOf g.disk b, pl, [xx], rfl, eb _ _ (ea _ _ (x3 _ _ f3)), hc', by omega, by omega, by show 1 ≤ 1000; decide, fun q Hc ec hq hor => qa _ Hc (eb.trans ec) ⟨q, rfl, hq, ?_⟩⟩
    rcases hor with rfl | hor
    · exact f5
    · exact ((D3.grow ea).grow eb).nfresh hor
  · exact fun v Ha Hb eab ⟨c, h, h', h''⟩ => ⟨c, h, eab _ _ h', h''⟩
  obtain ⟨v1, v2, rfl, rfl, c, rfl, hc, ncf⟩ := fits2 hvs
  have x4 := x3.trans e4
  refine ⟨d, fl, wl, ws, g.disk, b, c, _, rfl, Ed.disk.grow x4, hc, ncf, fun H5 D5 fr5 => ?_⟩
  have Ed5 := (Ed.grow x4).diskTo D5 (fr5.mono (by simp)) (.inl rfl)
  have hw : setF g.disk b (Ue12.put (Ue12.fileOf g.disk b) pl [xx]) = Ue12.written g.disk (b, pl, [xx]) := (written_setF g.disk (b, pl, [xx])).symm
  rw [hw] at Ed5
  have r5 : H5 ar = some (.lst (enc (Ue12.fileOf g.disk b))) := fr5 _ _ (x4 _ _ f3) (by simpa using nm1 f5)
  refine s_retL (el_1 (en_ix (er_var rfl r5) (ev_var rfl) (get_getD hpl))) (fun p H6 hp e6 h6 => ?_)
  have fr : Fr [e, d, fl] H H5 := (Fr.ex x4).trans (fr5.mono (by simp))
  exact k H6 wl ma ws p (Ed5.grow e6) (.inl rfl) (.inl rfl) ((fr.mono (by simp)).trans (Fr.ex e6)) (by rw [h6, ints_enc]) (fr.fresh Ed5.live3 hp)
theorem en_bit {σ : L2.St} {H : Hp} {t : TT} {b : Bool} (h : EvT t σ H b) : Ev (tIf t (tC (.int 1)) (tC (.int 0))) σ H (nv (if b = true then 1 else 0)) := ev_if h (fun q => by rw [if_pos q]; exact ev_c) (fun q => by rw [if_neg (by rw [q]; decide)]; exact ev_c)
theorem bit_nat (b : Bool) : (if b = true then 1 else 0) = b.toNat := by cases b <;> rfl
theorem ok_state (G : Glob mg) (T : TEd K CE) (TDk : TD K CD) (d : MetX K CE "state" "Editor.state" s_Editor_state ["self"]) : C8.Met P w K mg base 1 CE "state" (spK X CE CD CW .state) [] := by
  refine met_mk d sc_Editor_state (fun vs H Q E ⟨_, _, _, _, _, _, _, h, _⟩ => by rw [h]; rfl) (fun f cdv A outer s H vs Q E hr ⟨e, d, fl, wl, ma, ws, g, hv, Ed, gd, _, k⟩ => ?_)
  subst hv
  obtain ⟨de, tx, h1, h2, h3⟩ := Ed.obj
  obtain ⟨dd, hd⟩ := Ed.disk.obj
  refine ⟨_, (pss_cons (ps_set (i := 1) sc_Editor_state.nd rfl (.inl rfl) (pe_ifExp (pt_val (pe_fld (pv 0) rfl)) pe_int pe_int))
    (pss_cons (ps_set (i := 2) sc_Editor_state.nd rfl (.inl rfl) (pe_ifExp (pt_val (pe_fld (pv 0) rfl)) pe_int pe_int))
    (pss_one (ps_ret (pe_lst (pa_cons (pv 1) (pa_cons (pe_fld (pv 0) rfl) (pa_cons (pe_fld (pv 0) rfl) (pa_cons (pe_callB call_len_seq (by rfl) G.b_len PySem.boot_len (pa_cons (pe_fld (pe_fld (pv 0) rfl) rfl) pa_nil)) (pa_cons (pe_fld (pv 0) rfl) (pa_cons (pe_fld (pv 0) rfl) (pa_cons (pe_fld (pv 0) rfl) (pa_cons (pv 2) pa_nil))))))))))))), ?_⟩
  have k : EdPost X CE CD CW e d fl wl ma (g, Ue12.ints [if g.on = true then 1 else 0, g.mark, g.safe, g.disk.cache.length, if g.file = true then 1 else 0, g.number, g.size, if g.copy.isSome = true then 1 else 0]) H Q := k
  refine q_asg (en_bit (et_B (ev_fld (ev_var rfl) h1 T.cl T.n_powered F_Editor_powered))) (fun H1 e1 => ?_)
  refine q_asg (en_bit (et_B (ev_fld (ev_var rfl) (e1 _ _ h1) T.cl T.n_copying F_Editor_copying))) (fun H2 e2 => ?_)
  have x2 := e1.trans e2
  have hf := fun (n : Str) => x2 _ _ h1
  refine ret_new Ed k x2 ?_ rfl
  rw [ints_enc, bit_nat g.file]
  have hl : nv g.disk.cache.length = nv (ws.map V.ref).length := by rw [List.length_map, ws_len Ed.disk.wrs]
  refine el_lst (ea_cons (ev_var rfl) (ea_cons (ev_fld (ev_var rfl) (x2 _ _ h1) T.cl T.n_last F_Editor_last) (ea_cons (ev_fld (ev_var rfl) (x2 _ _ h1) T.cl T.n_safe F_Editor_safe) (ea_cons (ev_is (en_len (evR (ev_fld (ev_fld (ev_var rfl) (x2 _ _ h1) T.cl T.n_disk F_Editor_disk) (x2 _ _ hd) TDk.cl TDk.n_writes F_Disk_writes) (x2 _ _ Ed.disk.wlist))) hl.symm)
    (ea_cons (ev_fld (ev_var rfl) (x2 _ _ h1) T.cl T.n_used F_Editor_used) (ea_cons (ev_fld (ev_var rfl) (x2 _ _ h1) T.cl T.n_number F_Editor_number) (ea_cons (ev_fld (ev_var rfl) (x2 _ _ h1) T.cl T.n_size F_Editor_size) (ea_cons (ev_var rfl) ea_nil)))))))) (by show 8 ≤ 100000; decide)
theorem ok_was (G : Glob mg) (T : TEd K CE) (c_with_count : C8.Cal P w K mg base 1 "with_count" sp_with_count []) (d : MetX K CE "was" "Editor.was" s_Editor_was ["self", "mark"]) :
    C8.Met P w K mg base 2 CE "was" (fun vs H Q E => ∃ m : Nat, spCall X CE CD CW [nv m] (fun _ _ => True) (.was m) vs H Q E) [] := by
  refine met_mk d sc_Editor_was (fun vs H Q E ⟨_, _, _, _, _, _, _, _, h, _⟩ => by rw [h]; rfl) (fun f cdv A outer s H vs Q E hr ⟨m, e, d, fl, wl, ma, ws, g, hv, Ed, gd, _, k⟩ => ?_)
  subst hv
  obtain ⟨de, tx, h1, h2, h3⟩ := Ed.obj
  obtain ⟨kvs, hm, M⟩ := Ed.marks
  refine ⟨_, (pss_cons (ps_if (pt_cmp (pc_dnotin (hu_of hr) (pv 1) (pe_fld (pv 0) rfl)) rfl)
      (pss_one (ps_ret (pe_lst (pa_cons (C8.pe_gc (by rfl) G.c_NO_MARK) pa_nil))))
      pss_nil)
    (pss_one (ps_ret (C8.pe_c c_with_count hr (by decide) (by rfl) (pa_cons (pe_dget (hu_of hr) (pe_fld (pv 0) rfl) (pv 1) (fun _ _ => rfl)) pa_nil))))), ?_⟩
  have k : EdPost X CE CD CW e d fl wl ma (g, match g.marks.find? fun x => x.1 == m with
    | none => [-2]
    | some x => (x.2.length : Int) :: Ue12.ints x.2) H Q := k
  have hv := M.val m
  refine q_when (et_B (ev_dnotin (k := .inl (m : Int)) (ev_var rfl) (ev_fld (ev_var rfl) h1 T.cl T.n_remembered F_Editor_remembered) hm)) (fun hb H1 e1 => ?_) (fun hb H1 e1 => ?_)
  · cases q : g.marks.find? fun x => x.1 == m with
    | none =>
      rw [q] at k
      exact ret_no Ed k e1 ev_c rfl
    | some x =>
      rw [q] at hv
      obtain ⟨a, ha, _⟩ := hv
      rw [ha] at hb
      exact absurd hb (by simp)
  · cases q : g.marks.find? fun x => x.1 == m with
    | none =>
      rw [q] at hv
      have hv : valV kvs (.inl (m : Int)) = none := hv
      rw [hv] at hb
      exact absurd hb (by decide)
    | some x =>
      rw [q] at hv k
      obtain ⟨a, ha, ha', _⟩ := hv
      exact ret_new Ed k e1 (el_count (evR (ev_dget (k := .inl (m : Int)) (ev_fld (ev_var rfl) (e1 _ _ h1) T.cl T.n_remembered F_Editor_remembered) (ev_var rfl) (e1 _ _ hm) ha) (e1 _ _ ha')) (by have := gd.mt x (List.mem_of_find?_eq_some q); omega)) rfl
/-! ### read -/
def readAns (w : List Nat) : List Int := if Ue12.isBytes w = false ∨ 400 < w.length then [-1] else
  Ue12.ints ([(Ue12.records w).length, (Ue12.brought ⟨[], [], 0⟩ (Ue12.records w)).mark, (Ue12.brought ⟨[], [], 0⟩ (Ue12.records w)).kept.length] ++ (Ue12.brought ⟨[], [], 0⟩ (Ue12.records w)).kept ++ ((Ue12.brought ⟨[], [], 0⟩ (Ue12.records w)).now.length :: (Ue12.brought ⟨[], [], 0⟩ (Ue12.records w)).now))
theorem step_read (g : Ue12.St) (w : List Nat) : Ue12.step g (.read w) = (g, readAns w) := rfl
def sp_read : Sp := fun vs H Q _ => ∃ w : List Nat, Fits [isB w] vs H ∧ w.length ≤ 410 ∧ RetL ((readAns w).map V.int) H Q
theorem ok_read (G : Glob mg) (TBr : TB K CB) (c_above_bytes : C8.Cal P w K mg base 1 "above_bytes" sp_above []) (c_read_bodies : C8.Cal P w K mg base 3 "read_bodies" sp_read_bodies []) (c_bring_about : C8.Cal P w K mg base 3 "bring_about" (sp_bring_about CB) []) (c_with_count : C8.Cal P w K mg base 1 "with_count" sp_with_count [])
    (d : DefX K mg "read_answer" s_read_answer ["row"]) : C8.Cal P w K mg base 4 "read_answer" sp_read [] := by
  refine cal_mk d sc_read_answer (fun vs H Q E ⟨i, hf, _⟩ => fits_len hf) (fun f cdv A outer s H vs Q E hr ⟨w, hf, hw, k⟩ => ?_)
  obtain ⟨v1, rfl, a, rfl, ha⟩ := fits1 hf
  refine ⟨_, (pss_cons (ps_if (PW.pt (pw_or (pt_cmpR op_gt (pe_callB call_len_seq (by rfl) G.b_len PySem.boot_len (pa_cons (pv 0) pa_nil)) (C8.pe_gc (by rfl) G.c_LONGEST_READ) (nomark _)) (pw_or1 (pt_val (C8.pe_c c_above_bytes hr (by decide) (by rfl) (pa_cons (pv 0) pa_nil))))))
      (pss_one (ps_ret (pe_lst (pa_cons (C8.pe_gc (by rfl) G.c_NOT_SUCH) pa_nil))))
      pss_nil)
    (pss_cons (ps_set (i := 1) sc_read_answer.nd rfl (.inl rfl) (C8.pe_c c_read_bodies hr (by decide) (by rfl) (pa_cons (pv 0) pa_nil)))
    (pss_cons (ps_set (i := 2) sc_read_answer.nd rfl (.inl rfl) (C8.pe_c c_bring_about hr (by decide) (by rfl) (pa_cons (pv 1) pa_nil)))
    (pss_one (ps_ret (pe_op op_cat (pe_op op_cat (pe_lst (pa_cons (pe_callB call_len_seq (by rfl) G.b_len PySem.boot_len (pa_cons (pv 1) pa_nil)) (pa_cons (pe_fld (pv 2) rfl) pa_nil))) (C8.pe_c c_with_count hr (by decide) (by rfl) (pa_cons (pe_fld (pv 2) rfl) pa_nil))) (C8.pe_c c_with_count hr (by decide) (by rfl) (pa_cons (pe_fld (pv 2) rfl) pa_nil)))))))), ?_⟩
  unfold readAns at k
  refine q_when (et_or (et_test (eb_gt (en_lenB (er_var rfl ha)) (en_c (a := 400)))) (fun _ => et_B (ev_fn (A := fun r : List Nat => [isB r]) (pre := fun _ => True) (R := fun r => V.bl (!Ue12.isBytes r)) w trivial (ap_b (er_var rfl ha) ap_nil)))) (fun hb H1 e1 => ?_) (fun hb H1 e1 => ?_)
  · have hb : Ue12.isBytes w = false ∨ 400 < w.length := by
      rw [Bool.or_eq_true] at hb
      rcases hb with hb | hb
      · exact .inr (of_decide_eq_true hb)
      · exact .inl (by simpa using hb)
    rw [if_pos hb] at k
    exact s_retL (el_lst (ea_cons ev_c ea_nil) (by show 1 ≤ 100000; decide)) fun q H2 hq e2 h2 => k.go e1 hq e2 h2
  have hb : ¬ (Ue12.isBytes w = false ∨ 400 < w.length) := by
    rw [Bool.or_eq_false_iff] at hb
    rintro (z | z)
    · rw [z] at hb
      exact absurd hb.2 (by decide)
    · exact of_decide_eq_false hb.1 z
  rw [if_neg hb, ints_enc] at k
  have hrec := records_eq w
  rw [hrec, recs_len (bodies_known w)] at k
  -- bodies = read_bodies(row)
  refine q_asgP (ep_fn (A := fun r : List Nat => [isB r]) (pre := fun r => r.length ≤ 10000) (R := fun r => isLL (bodies r)) w (by omega) (ap_b (er_var rfl (e1 _ _ ha)) ap_nil)) (fun v H2 e2 hv => ?_)
  obtain ⟨bl, as, rfl, hbl, hrs⟩ := hv
  have x2 := e1.trans e2
  -- brought = bring_about(bodies)
  refine q_asgC (ap_cons (P := isLL (bodies w)) (fun Ha ea Qa qa => (ev_var rfl) Ha ea _ fun Hb eb => qa _ Hb eb ⟨bl, as, rfl, (ea.trans eb) _ _ hbl, rows_ex (ea.trans eb) hrs⟩) mon_ll ap_nil) (fun vs H3 e3 hvs => ?_)
  have hle := (bodies_le w).1
  refine ⟨_, hvs, ⟨bodies_known _, fun z hz => by have := hle z hz; omega⟩, fun o H4 e4 B4 => ?_⟩
  obtain ⟨dx, bt, bk, b1, b2, b3, b4, b5⟩ := B4
  have hbr := brought_le (recs (bodies w)) ⟨[], [], 0⟩ (Nat.zero_le _) (Nat.zero_le _)
  have hbl4 := (e3.trans e4) _ _ hbl
  have hcat : ∀ (a b c d : Nat) (k n : List Nat), [a, b, c] ++ k ++ (d :: n) = ([a, b] ++ (c :: k)) ++ (d :: n) := fun a b c d k n => rfl
  rw [hcat] at k
  have hlen : as.length = (bodies w).length := rows_len hrs
  have el : ∀ {σ : L2.St} {te : TE} {E : XK} {r : List Nat}, EvR te σ H4 (enc r) → r.length ≤ 1000 → EvL (tCall sp_with_count [] E (tCons te tNil)) σ H4 (enc (r.length :: r)) := fun h hl => cons_enc _ ▸ el_count h hl
  refine s_retL (el_catB (elR (el_catB (elR (el_2 (ev_is (en_len (evR (ev_var rfl) hbl4)) (by rw [List.length_map, hlen])) (ev_fld (ev_var rfl) b1 TBr.cl TBr.n_mark F_Brought_kept_mark))) (elR (el (evR (ev_fld (ev_var rfl) b1 TBr.cl TBr.n_kept F_Brought_kept) b3) (by omega))) ?_)) (elR (el (evR (ev_fld (ev_var rfl) b1 TBr.cl TBr.n_text F_Brought_text) b2) (by omega))) ?_) fun q H5 hq e5 h5 => k.go ((x2.trans e3).trans e4) hq e5 h5
  · simp
    omega
  · simp
    omega
end
end Pk

set_option Elab.async false
set_option linter.all false
set_option maxRecDepth 10000
set_option maxHeartbeats 1000000
namespace Pk
/-! ### a list of calls, spelled -/
def spell : Ue12.Call → List Nat
  | .change c => 0 :: c.at_ :: c.out :: c.in_.length :: c.in_
  | .mark => [1]
  | .flush => [2]
  | .copy => [3]
  | .turn => [4]
  | .power l => 5 :: l.length :: l
  | .start => [6]
  | .shows => [7]
  | .file b => [8, b.toNat]
  | .spoil b p x => [9, b.toNat, p, x]
  | .read w => 10 :: w.length :: w
  | .state => [11]
  | .was m => [12, m]
/-- what the document says of a call's numbers -/
def OkCall : Ue12.Call → Prop
  | .change c => c.in_.length ≤ 260
  | .power l => l.length ≤ 60
  | .read w => w.length ≤ 410
  | _ => True
def li (w : List Nat) : List Int := w.map fun (n : Nat) => (n : Int)
theorem li_app (a b : List Nat) : li (a ++ b) = li a ++ li b := List.map_append ..
theorem li_len (a : List Nat) : (li a).length = a.length := List.length_map ..
def plays : Ue12.St → List Ue12.Call → List (List Int)
  | _, [] => []
  | s, k :: ks => (Ue12.step s k).2 :: plays (Ue12.step s k).1 ks
theorem li_of : ∀ {l : List Int}, (∀ x ∈ l, 0 ≤ x) → li (l.map Int.toNat) = l
  | [], _ => rfl
  | a :: r, h => by
    show ((a.toNat : Nat) : Int) :: li (r.map Int.toNat) = a :: r
    rw [Int.toNat_of_nonneg (h a (List.mem_cons_self ..)), li_of fun x hx => h x (List.mem_cons_of_mem _ hx)]
theorem within_iff {lo hi z : Int} : PyInside.within lo hi z = true ↔ lo ≤ z ∧ z ≤ hi := by
  unfold PyInside.within
  rw [Bool.and_eq_true, decide_eq_true_eq, decide_eq_true_eq]
theorem nat_of {z : Int} (h : 0 ≤ z ∧ z ≤ 4294967295) : Ue12Neutral.nat z = true := by
  unfold Ue12Neutral.nat
  rw [Bool.and_eq_true, decide_eq_true_eq, decide_eq_true_eq]
  omega
theorem step_of {s : Ue12.St} {l : List Int} {k : Ue12.Call} (hn : ∀ x ∈ l, 0 ≤ x ∧ x ≤ 4294967295) (hk : Ue12Neutral.callIn (l.map Int.toNat) = some k) : Ue12Neutral.step s l = Ue12.step s k := by
  unfold Ue12Neutral.step Ue12Neutral.callOf
  rw [if_neg, hk]
  rw [Bool.not_eq_false, List.all_eq_true]
  exact fun x hx => nat_of (hn x hx)
theorem row_one {q : List Int} {xs : List (List Int)} {t : List Int} (h : PyFlat.rows 1 q = some (xs, t)) : ∃ row, xs = [row] ∧ q = (row.length : Int) :: (row ++ t) := by
  cases q with
  | nil => cases h
  | cons n q =>
    by_cases c : 0 ≤ n ∧ n.toNat ≤ q.length
    · have h : (match (if 0 ≤ n ∧ n.toNat ≤ q.length then some (q.take n.toNat, q.drop n.toNat) else none) with
        | none => none
        | some (x, s) => match PyFlat.rows 0 s with
          | none => none
          | some (xs, t) => some (x :: xs, t)) = some (xs, t) := h
      rw [if_pos c] at h
      have h : some ([q.take n.toNat], q.drop n.toNat) = some (xs, t) := h
      injection h with h
      injection h with h1 h2
      subst h1
      subst h2
      refine ⟨_, rfl, ?_⟩
      rw [List.take_append_drop, List.length_take, Nat.min_eq_left c.2, Int.toNat_of_nonneg c.1]
    · have h : (match (if 0 ≤ n ∧ n.toNat ≤ q.length then some (q.take n.toNat, q.drop n.toNat) else none) with
        | none => none
        | some (x, s) => match PyFlat.rows 0 s with
          | none => none
          | some (xs, t) => some (x :: xs, t)) = some (xs, t) := h
      rw [if_neg c] at h
      cases h
/-- one call read from the flat list -/
theorem call_read {p : Int} {r : List Int} {c : List (List Int)} {t : List Int} (h : PyFlat.call PyUe12.shape (p :: r) = some (c, t)) (hb : PyInside.call PyUe12.bound c = true) :
    ∃ k, p :: r = li (spell k) ++ t ∧ OkCall k ∧ ∀ s, Ue12Neutral.step s ((PyUe12.whole c).headD []) = Ue12.step s k := by
  have sh : ∀ n m, PyUe12.shape p = some (n, m) → n ≤ r.length ∧ ∃ xs, PyFlat.rows m (r.drop n) = some (xs, t) ∧ c = (p :: r.take n) :: xs := by
    intro n m e
    have h : (match PyUe12.shape p with
      | none => none
      | some (n, k) => if r.length < n then none else match PyFlat.rows k (r.drop n) with
        | none => none
        | some (xs, t) => some ((p :: r.take n) :: xs, t)) = some (c, t) := h
    rw [e] at h
    have h : (if r.length < n then none else match PyFlat.rows m (r.drop n) with
        | none => none
        | some (xs, t) => some ((p :: r.take n) :: xs, t)) = some (c, t) := h
    by_cases q : r.length < n
    · rw [if_pos q] at h; cases h
    · rw [if_neg q] at h
      cases e2 : PyFlat.rows m (r.drop n) with
      | none => rw [e2] at h; cases h
      | some y =>
        rw [e2] at h
        obtain ⟨xs, t'⟩ := y
        have h : some ((p :: r.take n) :: xs, t') = some (c, t) := h
        injection h with h
        injection h with h1 h2
        subst h1
        subst h2
        exact ⟨by omega, xs, rfl, rfl⟩
  -- a call without anything
  have plain : ∀ k : Ue12.Call, PyUe12.shape p = some (0, 0) → li (spell k) = [p] → OkCall k → (∀ s, Ue12Neutral.step s ((PyUe12.whole [[p]]).headD []) = Ue12.step s k) → ∃ k, p :: r = li (spell k) ++ t ∧ OkCall k ∧ ∀ s, Ue12Neutral.step s ((PyUe12.whole c).headD []) = Ue12.step s k := by
    intro k e1 e2 e3 e4
    obtain ⟨_, xs, h1, rfl⟩ := sh 0 0 e1
    have h1 : some (([] : List (List Int)), r) = some (xs, t) := h1
    injection h1 with h1
    injection h1 with h2 h3
    subst h2
    subst h3
    exact ⟨k, by rw [e2]; rfl, e3, e4⟩
  have fin : PyUe12.shape p ≠ none := by
    intro e
    have h : (match PyUe12.shape p with
      | none => none
      | some (n, k) => if r.length < n then none else match PyFlat.rows k (r.drop n) with
        | none => none
        | some (xs, t) => some ((p :: r.take n) :: xs, t)) = some (c, t) := h
    rw [e] at h
    cases h
  by_cases h0 : p = 0
  · subst h0
    obtain ⟨hl, xs, h1, rfl⟩ := sh 2 1 rfl
    match r, hl, h1, hb with
    | x0 :: x1 :: q, _, h1, hb =>
      obtain ⟨row, rfl, hq⟩ := row_one h1
      have hq : q = (row.length : Int) :: (row ++ t) := hq
      subst hq
      have hb : (PyInside.within 0 4294967295 x0 && (PyInside.within 0 4294967295 x1 && true) && (decide (0 ≤ row.length) && decide (row.length ≤ 260) && row.all (PyInside.within 0 4294967295) && true)) = true := hb
      simp only [Bool.and_eq_true, Bool.and_true, decide_eq_true_eq, List.all_eq_true, within_iff] at hb
      obtain ⟨⟨b0, b1⟩, ⟨_, b2⟩, b3⟩ := hb
      refine ⟨.change ⟨x0.toNat, x1.toNat, row.map Int.toNat⟩, ?_, ?_, fun s => step_of (fun x hx => ?_) rfl⟩
      · show (0 : Int) :: x0 :: x1 :: (row.length : Int) :: (row ++ t) = ((0 : Nat) : Int) :: ((x0.toNat : Nat) : Int) :: ((x1.toNat : Nat) : Int) :: (((row.map Int.toNat).length : Nat) : Int) :: (li (row.map Int.toNat) ++ t)
        rw [Int.toNat_of_nonneg b0.1, Int.toNat_of_nonneg b1.1, List.length_map, li_of fun x hx => (b3 x hx).1]
        rfl
      · show (row.map Int.toNat).length ≤ 260
        rw [List.length_map]
        exact b2
      · have hx : x ∈ (0 : Int) :: x0 :: x1 :: row := hx
        rcases List.mem_cons.mp hx with rfl | hx
        · decide
        rcases List.mem_cons.mp hx with rfl | hx
        · exact b0
        rcases List.mem_cons.mp hx with rfl | hx
        · exact b1
        · exact b3 x hx
  by_cases h5 : p = 5
  · subst h5
    obtain ⟨hl, xs, h1, rfl⟩ := sh 0 1 rfl
    obtain ⟨row, rfl, hq⟩ := row_one h1
    have hq : r = (row.length : Int) :: (row ++ t) := hq
    subst hq
    have hb : (true && (decide (0 ≤ row.length) && decide (row.length ≤ 60) && row.all (PyInside.within 0 4294967295) && true)) = true := hb
    simp only [Bool.and_eq_true, Bool.and_true, Bool.true_and, decide_eq_true_eq, List.all_eq_true, within_iff] at hb
    obtain ⟨⟨_, b2⟩, b3⟩ := hb
    refine ⟨.power (row.map Int.toNat), ?_, ?_, fun s => step_of (fun x hx => ?_) rfl⟩
    · show (5 : Int) :: (row.length : Int) :: (row ++ t) = ((5 : Nat) : Int) :: (((row.map Int.toNat).length : Nat) : Int) :: (li (row.map Int.toNat) ++ t)
      rw [List.length_map, li_of fun x hx => (b3 x hx).1]
      rfl
    · show (row.map Int.toNat).length ≤ 60
      rw [List.length_map]
      exact b2
    · have hx : x ∈ (5 : Int) :: row := hx
      rcases List.mem_cons.mp hx with rfl | hx
      · decide
      · exact b3 x hx
  by_cases h10 : p = 10
  · subst h10
    obtain ⟨hl, xs, h1, rfl⟩ := sh 0 1 rfl
    obtain ⟨row, rfl, hq⟩ := row_one h1
    have hq : r = (row.length : Int) :: (row ++ t) := hq
    subst hq
    have hb : (true && (decide (0 ≤ row.length) && decide (row.length ≤ 410) && row.all (PyInside.within 0 4294967295) && true)) = true := hb
    simp only [Bool.and_eq_true, Bool.and_true, Bool.true_and, decide_eq_true_eq, List.all_eq_true, within_iff] at hb
    obtain ⟨⟨_, b2⟩, b3⟩ := hb
    refine ⟨.read (row.map Int.toNat), ?_, ?_, fun s => step_of (fun x hx => ?_) rfl⟩
    · show (10 : Int) :: (row.length : Int) :: (row ++ t) = ((10 : Nat) : Int) :: (((row.map Int.toNat).length : Nat) : Int) :: (li (row.map Int.toNat) ++ t)
      rw [List.length_map, li_of fun x hx => (b3 x hx).1]
      rfl
    · show (row.map Int.toNat).length ≤ 410
      rw [List.length_map]
      exact b2
    · have hx : x ∈ (10 : Int) :: row := hx
      rcases List.mem_cons.mp hx with rfl | hx
      · decide
      · exact b3 x hx
  by_cases h8 : p = 8
  · subst h8
    obtain ⟨hl, xs, h1, rfl⟩ := sh 1 0 rfl
    match r, hl, h1, hb with
    | x0 :: q, _, h1, hb =>
      have h1 : some (([] : List (List Int)), q) = some (xs, t) := h1
      injection h1 with h1
      injection h1 with h2 h3
      subst h2
      subst h3
      have hb : ((PyInside.within 0 1 x0 && true) && true) = true := hb
      simp only [Bool.and_true, within_iff] at hb
      obtain rfl | rfl : x0 = 0 ∨ x0 = 1 := by omega
      · exact ⟨.file false, rfl, trivial, fun s => step_of (l := [8, 0]) (by decide) rfl⟩
      · exact ⟨.file true, rfl, trivial, fun s => step_of (l := [8, 1]) (by decide) rfl⟩
  by_cases h9 : p = 9
  · subst h9
    obtain ⟨hl, xs, h1, rfl⟩ := sh 3 0 rfl
    match r, hl, h1, hb with
    | x0 :: x1 :: x2 :: q, _, h1, hb =>
      have h1 : some (([] : List (List Int)), q) = some (xs, t) := h1
      injection h1 with h1
      injection h1 with h2 h3
      subst h2
      subst h3
      have hb : ((PyInside.within 0 1 x0 && (PyInside.within 0 4294967295 x1 && (PyInside.within 0 4294967295 x2 && true))) && true) = true := hb
      simp only [Bool.and_eq_true, Bool.and_true, within_iff] at hb
      obtain ⟨b0, b1, b2⟩ := hb
      have hn : ∀ z : Int, 0 ≤ z ∧ z ≤ 1 → ∀ x ∈ [(9 : Int), z, x1, x2], 0 ≤ x ∧ x ≤ 4294967295 := by
        intro z hz x hx
        simp only [List.mem_cons, List.not_mem_nil, or_false] at hx
        rcases hx with rfl | rfl | rfl | rfl
        · decide
        · omega
        · exact b1
        · exact b2
      have e : ∀ b : Bool, (9 : Int) :: ((b.toNat : Nat) : Int) :: x1 :: x2 :: q = li (spell (.spoil b x1.toNat x2.toNat)) ++ q := by
        intro b
        show _ = ((9 : Nat) : Int) :: ((b.toNat : Nat) : Int) :: ((x1.toNat : Nat) : Int) :: ((x2.toNat : Nat) : Int) :: q
        rw [Int.toNat_of_nonneg b1.1, Int.toNat_of_nonneg b2.1]
        rfl
      obtain rfl | rfl : x0 = 0 ∨ x0 = 1 := by omega
      · exact ⟨.spoil false x1.toNat x2.toNat, e false, trivial, fun s => step_of (hn 0 (by decide)) rfl⟩
      · exact ⟨.spoil true x1.toNat x2.toNat, e true, trivial, fun s => step_of (hn 1 (by decide)) rfl⟩
  by_cases h12 : p = 12
  · subst h12
    obtain ⟨hl, xs, h1, rfl⟩ := sh 1 0 rfl
    match r, hl, h1, hb with
    | x0 :: q, _, h1, hb =>
      have h1 : some (([] : List (List Int)), q) = some (xs, t) := h1
      injection h1 with h1
      injection h1 with h2 h3
      subst h2
      subst h3
      have hb : ((PyInside.within 0 4294967295 x0 && true) && true) = true := hb
      simp only [Bool.and_true, within_iff] at hb
      refine ⟨.was x0.toNat, ?_, trivial, fun s => step_of (fun x hx => ?_) rfl⟩
      · show (12 : Int) :: x0 :: q = ((12 : Nat) : Int) :: ((x0.toNat : Nat) : Int) :: q
        rw [Int.toNat_of_nonneg hb.1]
        rfl
      · have hx : x ∈ [(12 : Int), x0] := hx
        simp only [List.mem_cons, List.not_mem_nil, or_false] at hx
        rcases hx with rfl | rfl
        · decide
        · exact hb
  by_cases h1 : p = 1
  · subst h1; exact plain .mark rfl rfl trivial fun s => step_of (by decide) rfl
  by_cases h2 : p = 2
  · subst h2; exact plain .flush rfl rfl trivial fun s => step_of (by decide) rfl
  by_cases h3 : p = 3
  · subst h3; exact plain .copy rfl rfl trivial fun s => step_of (by decide) rfl
  by_cases h4 : p = 4
  · subst h4; exact plain .turn rfl rfl trivial fun s => step_of (by decide) rfl
  by_cases h6 : p = 6
  · subst h6; exact plain .start rfl rfl trivial fun s => step_of (by decide) rfl
  by_cases h7 : p = 7
  · subst h7; exact plain .shows rfl rfl trivial fun s => step_of (by decide) rfl
  by_cases h11 : p = 11
  · subst h11; exact plain .state rfl rfl trivial fun s => step_of (by decide) rfl
  exfalso
  apply fin
  unfold PyUe12.shape
  rw [if_neg h0, if_neg h1, if_neg h2, if_neg h3, if_neg h4, if_neg h5, if_neg h6, if_neg h7, if_neg h8, if_neg h9, if_neg h10, if_neg h11, if_neg h12]
theorem calls_read : ∀ (f : Nat) (l : List Int) (cs : List (List (List Int))), PyFlat.calls PyUe12.shape f l = some cs → PyInside.calls PyUe12.bound cs = true →
    ∃ ks : List Ue12.Call, l = li (ks.flatMap spell) ∧ ks.length = cs.length ∧ (∀ k ∈ ks, OkCall k) ∧ ∀ s, PyFlat.played (fun s c => Ue12Neutral.step s (c.headD [])) s (cs.map PyUe12.whole) = plays s ks
  | f, [], cs, h, _ => by
    have h : some [] = some cs := by cases f <;> exact h
    injection h with h
    subst h
    exact ⟨[], rfl, rfl, fun k hk => (List.not_mem_nil hk).elim, fun s => rfl⟩
  | 0, p :: r, cs, h, _ => by cases h
  | f + 1, p :: r, cs, h, hb => by
    have h : (match PyFlat.call PyUe12.shape (p :: r) with
      | none => none
      | some (c, t) => match PyFlat.calls PyUe12.shape f t with
        | none => none
        | some cs => some (c :: cs)) = some cs := h
    cases e1 : PyFlat.call PyUe12.shape (p :: r) with
    | none => rw [e1] at h; cases h
    | some y =>
      obtain ⟨c, t⟩ := y
      rw [e1] at h
      have h : (match PyFlat.calls PyUe12.shape f t with
        | none => none
        | some cs => some (c :: cs)) = some cs := h
      cases e2 : PyFlat.calls PyUe12.shape f t with
      | none => rw [e2] at h; cases h
      | some cs' =>
        rw [e2] at h
        have h : some (c :: cs') = some cs := h
        injection h with h
        subst h
        have hb : (PyInside.call PyUe12.bound c && PyInside.calls PyUe12.bound cs') = true := hb
        rw [Bool.and_eq_true] at hb
        obtain ⟨k, k1, k2, k3⟩ := call_read e1 hb.1
        obtain ⟨ks, q1, q2, q3, q4⟩ := calls_read f t cs' e2 hb.2
        refine ⟨k :: ks, ?_, by rw [List.length_cons, List.length_cons, q2], fun z hz => ?_, fun s => ?_⟩
        · rw [k1, List.flatMap_cons, li_app, q1]
        · rcases List.mem_cons.mp hz with rfl | hz
          · exact k2
          · exact q3 z hz
        · show (Ue12Neutral.step s ((PyUe12.whole c).headD [])).2 :: PyFlat.played _ (Ue12Neutral.step s ((PyUe12.whole c).headD [])).1 (cs'.map PyUe12.whole) = (Ue12.step s k).2 :: plays (Ue12.step s k).1 ks
          rw [k3, q4]
/-- what is asked, in calls -/
theorem asked_read {l : List Int} (h : PyUe12.answers_asked l = true) : ∃ ks : List Ue12.Call, l = li (ks.flatMap spell) ∧ ks.length ≤ 50 ∧ (∀ k ∈ ks, OkCall k) ∧ PyUe12.answers l = PyFlat.told (plays Ue12.init ks) ∧ (PyUe12.answers l).length ≤ 10000000 := by
  unfold PyUe12.answers_asked at h
  cases e : PyFlat.calls PyUe12.shape l.length l with
  | none => rw [e] at h; cases h
  | some cs =>
    rw [e] at h
    dsimp only at h
    rw [Bool.and_eq_true, Bool.and_eq_true, Bool.and_eq_true, Bool.and_eq_true] at h
    obtain ⟨⟨⟨⟨_, h2⟩, h3⟩, _⟩, h5⟩ := h
    obtain ⟨ks, q1, q2, q3, q4⟩ := calls_read _ _ _ e h3
    refine ⟨ks, q1, by rw [q2]; exact of_decide_eq_true h2, q3, ?_, of_decide_eq_true h5⟩
    unfold PyUe12.answers PyUe12.calls
    rw [e]
    show PyFlat.told (PyFlat.played _ _ (cs.map PyUe12.whole)) = _
    rw [q4]
    rfl
end Pk

set_option Elab.async false
set_option linter.all false
set_option maxRecDepth 100000
set_option maxHeartbeats 2000000
namespace Pk
open PySem PySem.Spec PyProof.Rows L2 Evl
/-! ### which call -/
def kind : Ue12.Call → Nat
  | .change _ => 0
  | .mark => 1
  | .flush => 2
  | .copy => 3
  | .turn => 4
  | .power _ => 5
  | .start => 6
  | .shows => 7
  | .file _ => 8
  | .spoil _ _ _ => 9
  | .read _ => 10
  | .state => 11
  | .was _ => 12
theorem spell_get0 (k : Ue12.Call) : (spell k)[0]? = some (kind k) := by cases k <;> rfl
theorem kind_le (k : Ue12.Call) : kind k ≤ 12 := by cases k <;> simp [kind]
theorem kind_change {k : Ue12.Call} (h : kind k = 0) : ∃ pl o u, k = .change ⟨pl, o, u⟩ := by cases k <;> first | exact ⟨_, _, _, rfl⟩ | simp [kind] at h
theorem kind_power {k : Ue12.Call} (h : kind k = 5) : ∃ l, k = .power l := by cases k <;> first | exact ⟨_, rfl⟩ | simp [kind] at h
theorem kind_on_disk {k : Ue12.Call} (h : kind k = 8) : ∃ b, k = .file b := by cases k <;> first | exact ⟨_, rfl⟩ | simp [kind] at h
theorem kind_spoil {k : Ue12.Call} (h : kind k = 9) : ∃ b p x, k = .spoil b p x := by cases k <;> first | exact ⟨_, _, _, rfl⟩ | simp [kind] at h
theorem kind_read {k : Ue12.Call} (h : kind k = 10) : ∃ w, k = .read w := by cases k <;> first | exact ⟨_, rfl⟩ | simp [kind] at h
theorem kind_was {k : Ue12.Call} (h : kind k = 12) : ∃ m, k = .was m := by cases k <;> first | exact ⟨_, rfl⟩ | simp [kind] at h
theorem kind_mark {k : Ue12.Call} (h : kind k = 1) : k = .mark := by cases k <;> first | rfl | simp [kind] at h
theorem kind_flush {k : Ue12.Call} (h : kind k = 2) : k = .flush := by cases k <;> first | rfl | simp [kind] at h
theorem kind_make_copy {k : Ue12.Call} (h : kind k = 3) : k = .copy := by cases k <;> first | rfl | simp [kind] at h
theorem kind_turn {k : Ue12.Call} (h : kind k = 4) : k = .turn := by cases k <;> first | rfl | simp [kind] at h
theorem kind_start {k : Ue12.Call} (h : kind k = 6) : k = .start := by cases k <;> first | rfl | simp [kind] at h
theorem kind_shows {k : Ue12.Call} (h : kind k = 7) : k = .shows := by cases k <;> first | rfl | simp [kind] at h
theorem kind_state {k : Ue12.Call} (h : kind k = 11) : k = .state := by cases k <;> first | rfl | simp [kind] at h
theorem get_at (pre l : List Nat) (i : Nat) : (pre ++ l)[pre.length + i]? = l[i]? := by rw [List.getElem?_append_right (Nat.le_add_right _ _), Nat.add_sub_cancel_left]
theorem in2 (n a b : Nat) : inV (nv n) [nv a, nv b] = (decide (n = a) || decide (n = b)) := by
  have e : ∀ x : Nat, eqV (nv x) (nv n) = decide (n = x) := fun x => by
    show ((x : Int) == (n : Int)) = decide (n = x)
    by_cases h : n = x
    · rw [h]
      simp
    · rw [decide_eq_false h]
      have : ¬ (x : Int) = (n : Int) := by omega
      simpa using this
  show (eqV (nv a) (nv n) || (eqV (nv b) (nv n) || false)) = _
  rw [e, e, Bool.or_false]
section
variable {K : PySem.W.Frag} {σ : L2.St} {H : Hp} {ta tb te : TE}
theorem en_ixS {a : Addr} {w : List Nat} {i n : Nat} (h : Ev te σ H (.ref a)) (hs : SqL K H a (enc w)) (hi : Ev tb σ H (nv i)) (hn : w[i]? = some n) : Ev (tOp (rIxL K) te tb) σ H (nv n) := ev_op h hi (rv_ixL hs (at_enc hn))
theorem et_in2 {n a b : Nat} (h : Ev te σ H (nv n)) (ha : Ev ta σ H (nv a)) (hb : Ev tb σ H (nv b)) : EvT (tTest (tOp (rIn K false) te (tTup (tCons ta (tCons tb tNil))))) σ H (decide (n = a) || decide (n = b)) :=
  et_is (et_test (ev_inU h (eu_tup (ea_cons ha (ea_cons hb ea_nil)) (by show 2 ≤ 100000; decide)) rfl rfl)) (in2 n a b)
end
section
variable {P : Program} {w : World} {K : PySem.W.Frag} {mg : Str → Option Value} {base : Heap} {X : List Addr} {CE CD CW : Addr}
/-- where a call ends -/
def sp_call_end (K : PySem.W.Frag) : Sp := fun vs H Q _ => ∃ (a : Addr) (pre post : List Nat) (k : Ue12.Call), vs = [.ref a, nv pre.length] ∧ SqL K H a (enc (pre ++ (spell k ++ post))) ∧ RetV (nv (pre.length + (spell k).length)) H Q
theorem ok_call_end (G : Glob mg) (d : DefX K mg "call_end" s_call_end ["calls", "place"]) : C8.Cal P w K mg base 1 "call_end" (sp_call_end K) [] := by
  refine cal_mk d sc_call_end (fun vs H Q E ⟨_, _, _, _, h, _⟩ => by rw [h]; rfl) (fun f cdv A outer s H vs Q E hr ⟨a, pre, post, k, hv, hs, q⟩ => ?_)
  subst hv
  refine ⟨_, (pss_cons (ps_if (pt_cmpR op_eq (pe_ix ix_list (pv 0) (pv 1) (fun _ _ => rfl)) (C8.pe_gc (by rfl) G.c_CALL_CHANGE) (nomark _))
      (pss_one (ps_ret (pe_op op_add (pe_op op_add (pv 1) pe_int) (pe_ix ix_list (pv 0) (pe_op op_add (pv 1) pe_int) (fun _ _ => rfl)))))
      pss_nil)
    (pss_cons (ps_if (pt_cmpR op_in_seq (pe_ix ix_list (pv 0) (pv 1) (fun _ _ => rfl)) (pe_tup (pa_cons (C8.pe_gc (by rfl) G.c_CALL_POWER) (pa_cons (C8.pe_gc (by rfl) G.c_CALL_READ) pa_nil))) rfl)
      (pss_one (ps_ret (pe_op op_add (pe_op op_add (pv 1) pe_int) (pe_ix ix_list (pv 0) (pe_op op_add (pv 1) pe_int) (fun _ _ => rfl)))))
      pss_nil)
    (pss_cons (ps_if (pt_cmpR op_eq (pe_ix ix_list (pv 0) (pv 1) (fun _ _ => rfl)) (C8.pe_gc (by rfl) G.c_CALL_SPOIL) (nomark _))
      (pss_one (ps_ret (pe_op op_add (pv 1) pe_int)))
      pss_nil)
    (pss_cons (ps_if (pt_cmpR op_in_seq (pe_ix ix_list (pv 0) (pv 1) (fun _ _ => rfl)) (pe_tup (pa_cons (C8.pe_gc (by rfl) G.c_CALL_FILE) (pa_cons (C8.pe_gc (by rfl) G.c_CALL_WAS) pa_nil))) rfl)
      (pss_one (ps_ret (pe_op op_add (pv 1) pe_int)))
      pss_nil)
    (pss_one (ps_ret (pe_op op_add (pv 1) pe_int))))))), ?_⟩
  have h0 : (pre ++ (spell k ++ post))[pre.length]? = some (kind k) := by
    have := get_at pre (spell k ++ post) 0
    rw [Nat.add_zero] at this
    rw [this]
    cases k <;> rfl
  refine q_when (et_test (eb_eq (en_ixS (ev_var rfl) hs (ev_var rfl) h0) (en_c (a := 0)))) (fun hb H1 e1 => ?_) (fun hb0 H1 e1 => ?_)
  · obtain ⟨pl, o, u, rfl⟩ := kind_change (of_decide_eq_true hb)
    have h3 : (pre ++ (spell (.change ⟨pl, o, u⟩) ++ post))[pre.length + 3]? = some u.length := (get_at _ _ 3).trans rfl
    have hl : pre.length + (spell (.change ⟨pl, o, u⟩)).length = pre.length + 4 + u.length := by simp [spell]; omega
    rw [hl] at q
    exact s_ret (en_add (en_add (ev_var rfl) (en_c (a := 4))) (en_ixS (ev_var rfl) (ex_l e1 hs) (en_add (ev_var rfl) (en_c (a := 3))) h3)) fun H2 e2 => q.go (e1.trans e2)
  refine q_when (et_in2 (en_ixS (ev_var rfl) (ex_l e1 hs) (ev_var rfl) h0) (en_c (a := 5)) (en_c (a := 10))) (fun hb H2 e2 => ?_) (fun hb1 H2 e2 => ?_)
  · have x2 := e1.trans e2
    rw [Bool.or_eq_true] at hb
    rcases hb with hb | hb
    · obtain ⟨l, rfl⟩ := kind_power (of_decide_eq_true hb)
      have h3 : (pre ++ (spell (.power l) ++ post))[pre.length + 1]? = some l.length := (get_at _ _ 1).trans rfl
      have hl : pre.length + (spell (.power l)).length = pre.length + 2 + l.length := by simp [spell]; omega
      rw [hl] at q
      exact s_ret (en_add (en_add (ev_var rfl) (en_c (a := 2))) (en_ixS (ev_var rfl) (ex_l x2 hs) (en_add (ev_var rfl) (en_c (a := 1))) h3)) fun H3 e3 => q.go (x2.trans e3)
    · obtain ⟨l, rfl⟩ := kind_read (of_decide_eq_true hb)
      have h3 : (pre ++ (spell (.read l) ++ post))[pre.length + 1]? = some l.length := (get_at _ _ 1).trans rfl
      have hl : pre.length + (spell (.read l)).length = pre.length + 2 + l.length := by simp [spell]; omega
      rw [hl] at q
      exact s_ret (en_add (en_add (ev_var rfl) (en_c (a := 2))) (en_ixS (ev_var rfl) (ex_l x2 hs) (en_add (ev_var rfl) (en_c (a := 1))) h3)) fun H3 e3 => q.go (x2.trans e3)
  have x2 := e1.trans e2
  refine q_when (et_test (eb_eq (en_ixS (ev_var rfl) (ex_l x2 hs) (ev_var rfl) h0) (en_c (a := 9)))) (fun hb H3 e3 => ?_) (fun hb2 H3 e3 => ?_)
  · obtain ⟨b, p, x, rfl⟩ := kind_spoil (of_decide_eq_true hb)
    exact s_ret (en_add (ev_var rfl) (en_c (a := 4))) fun H4 e4 => q.go ((x2.trans e3).trans e4)
  have x3 := x2.trans e3
  refine q_when (et_in2 (en_ixS (ev_var rfl) (ex_l x3 hs) (ev_var rfl) h0) (en_c (a := 8)) (en_c (a := 12))) (fun hb H4 e4 => ?_) (fun hb3 H4 e4 => ?_)
  · rw [Bool.or_eq_true] at hb
    rcases hb with hb | hb
    · obtain ⟨b, rfl⟩ := kind_on_disk (of_decide_eq_true hb)
      exact s_ret (en_add (ev_var rfl) (en_c (a := 2))) fun H5 e5 => q.go ((x3.trans e4).trans e5)
    · obtain ⟨m, rfl⟩ := kind_was (of_decide_eq_true hb)
      exact s_ret (en_add (ev_var rfl) (en_c (a := 2))) fun H5 e5 => q.go ((x3.trans e4).trans e5)
  have hl : (spell k).length = 1 := by
    rw [Bool.or_eq_false_iff] at hb1 hb3
    have n0 := of_decide_eq_false hb0
    have n1 := of_decide_eq_false hb1.1
    have n2 := of_decide_eq_false hb1.2
    have n3 := of_decide_eq_false hb2
    have n4 := of_decide_eq_false hb3.1
    have n5 := of_decide_eq_false hb3.2
    cases k <;> first | rfl | (exfalso; simp [kind] at n0 n1 n2 n3 n4 n5)
  rw [hl] at q
  exact s_ret (en_add (ev_var rfl) (en_c (a := 1))) fun H5 e5 => q.go ((x3.trans e4).trans e5)
theorem EdPost.mono {e d fl wl ma : Addr} {r : Ue12.St × List Int} {H H1 : Hp} {Q : VK} (k : EdPost X CE CD CW e d fl wl ma r H Q) (x : Ex H H1) : EdPost X CE CD CW e d fl wl ma r H1 Q := fun H' wl' ma' ws' p Ed hw hm fr hp np =>
  k H' wl' ma' ws' p Ed (hw.imp id (fresh_back x)) (hm.imp id (fresh_back x)) ((Fr.ex x).trans fr) hp (fresh_back x np)
/-- a new row, which is none that is changed -/
def isN (N : List Addr) (u : List Nat) : V → Hp → Prop := fun v H' => ∃ c, v = .ref c ∧ H' c = some (.lst (enc u)) ∧ c ∉ N
theorem mon_n {N : List Addr} {u : List Nat} : Mon (isN N u) := fun v Ha Hb eab ⟨c, h, h', h''⟩ => ⟨c, h, eab _ _ h', h''⟩
theorem ep_n {d fl wl : Addr} {ws : List Addr} {F : Ue12.Files} {H : Hp} {σ : L2.St} {te : TE} {u : List Nat} (D : DkAt X CD CW d fl wl ws F H) (h : EvL te σ H (enc u)) : Ep te σ H (isN (fl :: wl :: X) u) := fun Ha ea Qa qa => h Ha ea _ fun c Hb nc eb hb => qa _ Hb eb ⟨c, rfl, hb, (D.grow ea).nfresh nc⟩
theorem r_call {σ : L2.St} {H : Hp} {t : TA} {sp : Sp} {E : XK} {Q : VK} {ps : List (V → Hp → Prop)} (h : Ap t σ H (Fits ps)) (k : ∀ vs H1, Ex H H1 → Fits ps vs H1 → sp vs H1 Q E) : tCall sp [] E t σ H Q := h H (Ex.refl H) _ fun vs H1 e1 hv => by
  rw [List.append_nil]
  exact k vs H1 e1 hv
/-- a call answered -/
def sp_answer (CE CD CW : Addr) : Sp := fun vs H Q _ => ∃ (X : List Addr) (e d fl wl ma : Addr) (ws : List Addr) (g : Ue12.St) (c : Addr) (k : Ue12.Call), vs = [.ref e, .ref c] ∧ EdAt X CE CD CW e d fl wl ma ws g H ∧ Good g ∧ H c = some (.lst (enc (spell k))) ∧ OkCall k ∧ EdPost X CE CD CW e d fl wl ma (Ue12.step g k) H Q
theorem ok_answer (G : Glob mg)
    (k_change : ∀ X, C8.Met P w K mg base 5 CE "change" (fun vs H Q E => ∃ (pl o : Nat) (c : Addr) (u : List Nat), spCall X CE CD CW [nv pl, nv o, .ref c] (fun H N => H c = some (.lst (enc u)) ∧ c ∉ N ∧ u.length ≤ 260) (.change ⟨pl, o, u⟩) vs H Q E) [])
    (k_mark : ∀ X, C8.Met P w K mg base 5 CE "mark" (spK X CE CD CW .mark) [])
    (k_flush : ∀ X, C8.Met P w K mg base 5 CE "flush" (spK X CE CD CW .flush) [])
    (k_make_copy : ∀ X, C8.Met P w K mg base 5 CE "make_copy" (spK X CE CD CW .copy) [])
    (k_turn : ∀ X, C8.Met P w K mg base 4 CE "turn" (spK X CE CD CW .turn) [])
    (k_power : ∀ X, C8.Met P w K mg base 4 CE "power" (fun vs H Q E => ∃ (c : Addr) (l : List Nat), spCall X CE CD CW [.ref c] (fun H N => H c = some (.lst (enc l)) ∧ c ∉ N) (.power l) vs H Q E) [])
    (k_start : ∀ X, C8.Met P w K mg base 7 CE "start" (spK X CE CD CW .start) [])
    (k_shows : ∀ X, C8.Met P w K mg base 2 CE "shows" (spK X CE CD CW .shows) [])
    (k_on_disk : ∀ X, C8.Met P w K mg base 2 CE "on_disk" (fun vs H Q E => ∃ b : Bool, spCall X CE CD CW [nv b.toNat] (fun _ _ => True) (.file b) vs H Q E) [])
    (k_spoil : ∀ X, C8.Met P w K mg base 2 CE "spoil" (fun vs H Q E => ∃ (b : Bool) (p x : Nat), spCall X CE CD CW [nv b.toNat, nv p, nv x] (fun _ _ => True) (.spoil b p x) vs H Q E) [])
    (c_read_answer : C8.Cal P w K mg base 4 "read_answer" sp_read [])
    (k_state : ∀ X, C8.Met P w K mg base 1 CE "state" (spK X CE CD CW .state) [])
    (k_was : ∀ X, C8.Met P w K mg base 2 CE "was" (fun vs H Q E => ∃ m : Nat, spCall X CE CD CW [nv m] (fun _ _ => True) (.was m) vs H Q E) [])
    (d : DefX K mg "answer" s_answer ["editor", "call"]) : C8.Cal P w K mg base 8 "answer" (sp_answer CE CD CW) [] := by
  refine cal_mk d sc_answer (fun vs H Q E ⟨_, _, _, _, _, _, _, _, _, _, h, _⟩ => by rw [h]; rfl) (fun f cdv A outer s H vs Q E hr ⟨X, e, d, fl, wl, ma, ws, g, c, k, hv, Ed, gd, hc, hok, q⟩ => ?_)
  subst hv
  obtain ⟨de, tx, h1, h2, h3⟩ := Ed.obj
  have c_change := k_change X
  have c_mark := k_mark X
  have c_flush := k_flush X
  have c_make_copy := k_make_copy X
  have c_turn := k_turn X
  have c_power := k_power X
  have c_start := k_start X
  have c_shows := k_shows X
  have c_on_disk := k_on_disk X
  have c_spoil := k_spoil X
  have c_state := k_state X
  have c_was := k_was X
  refine ⟨_, (pss_cons (ps_if (pt_cmpR op_eq (pe_ix ix_list (pv 1) pe_int (fun _ _ => rfl)) (C8.pe_gc (by rfl) G.c_CALL_CHANGE) (nomark _))
      (pss_one (ps_ret (C8.pe_mt c_change hr (by decide) (pv 0) (pa_cons (pe_ix ix_list (pv 1) pe_int (fun _ _ => rfl)) (pa_cons (pe_ix ix_list (pv 1) pe_int (fun _ _ => rfl)) (pa_cons (pe_slice sl_list (pv 1) (po_some pe_int) po_none) pa_nil))))))
      pss_nil)
    (pss_cons (ps_if (pt_cmpR op_eq (pe_ix ix_list (pv 1) pe_int (fun _ _ => rfl)) (C8.pe_gc (by rfl) G.c_CALL_MARK) (nomark _))
      (pss_one (ps_ret (C8.pe_mt0 c_mark hr (by decide) (pv 0))))
      pss_nil)
    (pss_cons (ps_if (pt_cmpR op_eq (pe_ix ix_list (pv 1) pe_int (fun _ _ => rfl)) (C8.pe_gc (by rfl) G.c_CALL_FLUSH) (nomark _))
      (pss_one (ps_ret (C8.pe_mt0 c_flush hr (by decide) (pv 0))))
      pss_nil)
    (pss_cons (ps_if (pt_cmpR op_eq (pe_ix ix_list (pv 1) pe_int (fun _ _ => rfl)) (C8.pe_gc (by rfl) G.c_CALL_COPY) (nomark _))
      (pss_one (ps_ret (C8.pe_mt0 c_make_copy hr (by decide) (pv 0))))
      pss_nil)
    (pss_cons (ps_if (pt_cmpR op_eq (pe_ix ix_list (pv 1) pe_int (fun _ _ => rfl)) (C8.pe_gc (by rfl) G.c_CALL_TURN) (nomark _))
      (pss_one (ps_ret (C8.pe_mt0 c_turn hr (by decide) (pv 0))))
      pss_nil)
    (pss_cons (ps_if (pt_cmpR op_eq (pe_ix ix_list (pv 1) pe_int (fun _ _ => rfl)) (C8.pe_gc (by rfl) G.c_CALL_POWER) (nomark _))
      (pss_one (ps_ret (C8.pe_mt c_power hr (by decide) (pv 0) (pa_cons (pe_slice sl_list (pv 1) (po_some pe_int) po_none) pa_nil))))
      pss_nil)
    (pss_cons (ps_if (pt_cmpR op_eq (pe_ix ix_list (pv 1) pe_int (fun _ _ => rfl)) (C8.pe_gc (by rfl) G.c_CALL_START) (nomark _))
      (pss_one (ps_ret (C8.pe_mt0 c_start hr (by decide) (pv 0))))
      pss_nil)
    (pss_cons (ps_if (pt_cmpR op_eq (pe_ix ix_list (pv 1) pe_int (fun _ _ => rfl)) (C8.pe_gc (by rfl) G.c_CALL_SHOWS) (nomark _))
      (pss_one (ps_ret (C8.pe_mt0 c_shows hr (by decide) (pv 0))))
      pss_nil)
    (pss_cons (ps_if (pt_cmpR op_eq (pe_ix ix_list (pv 1) pe_int (fun _ _ => rfl)) (C8.pe_gc (by rfl) G.c_CALL_FILE) (nomark _))
      (pss_one (ps_ret (C8.pe_mt c_on_disk hr (by decide) (pv 0) (pa_cons (pe_ix ix_list (pv 1) pe_int (fun _ _ => rfl)) pa_nil))))
      pss_nil)
    (pss_cons (ps_if (pt_cmpR op_eq (pe_ix ix_list (pv 1) pe_int (fun _ _ => rfl)) (C8.pe_gc (by rfl) G.c_CALL_SPOIL) (nomark _))
      (pss_one (ps_ret (C8.pe_mt c_spoil hr (by decide) (pv 0) (pa_cons (pe_ix ix_list (pv 1) pe_int (fun _ _ => rfl)) (pa_cons (pe_ix ix_list (pv 1) pe_int (fun _ _ => rfl)) (pa_cons (pe_ix ix_list (pv 1) pe_int (fun _ _ => rfl)) pa_nil))))))
      pss_nil)
    (pss_cons (ps_if (pt_cmpR op_eq (pe_ix ix_list (pv 1) pe_int (fun _ _ => rfl)) (C8.pe_gc (by rfl) G.c_CALL_READ) (nomark _))
      (pss_one (ps_ret (C8.pe_c c_read_answer hr (by decide) (by rfl) (pa_cons (pe_slice sl_list (pv 1) (po_some pe_int) po_none) pa_nil))))
      pss_nil)
    (pss_cons (ps_if (pt_cmpR op_eq (pe_ix ix_list (pv 1) pe_int (fun _ _ => rfl)) (C8.pe_gc (by rfl) G.c_CALL_STATE) (nomark _))
      (pss_one (ps_ret (C8.pe_mt0 c_state hr (by decide) (pv 0))))
      pss_nil)
    (pss_cons (ps_if (pt_cmpR op_eq (pe_ix ix_list (pv 1) pe_int (fun _ _ => rfl)) (C8.pe_gc (by rfl) G.c_CALL_WAS) (nomark _))
      (pss_one (ps_ret (C8.pe_mt c_was hr (by decide) (pv 0) (pa_cons (pe_ix ix_list (pv 1) pe_int (fun _ _ => rfl)) pa_nil))))
      pss_nil)
    (pss_one ps_never)))))))))))))), ?_⟩
  have x0 : Ex H H := Ex.refl H
  refine q_when (et_test (eb_eq (en_ix (er_var rfl (x0 _ _ hc)) (en_c (a := 0)) (spell_get0 k)) (en_c (a := 0)))) (fun hb Ha ea => ?_) (fun n0 H1 e1 => ?_)
  · have xa := x0.trans ea
    obtain ⟨pl, o, u, rfl⟩ := kind_change (of_decide_eq_true hb)
    refine r_meth (ev_var rfl) (xa _ _ h1) N_Editor_change (ap_v (en_ix (er_var rfl (xa _ _ hc)) (en_c (a := 1)) (n := pl) rfl) (ap_v (en_ix (er_var rfl (xa _ _ hc)) (en_c (a := 2)) (n := o) rfl) (ap_cons (ep_n (u := u) (Ed.disk.grow xa) (el_from (er_var rfl (xa _ _ hc)) (eo_some (en_c (a := 4))))) mon_n ap_nil))) (fun vs Hb eb hvs => ?_)
    obtain ⟨v1, v2, v3, rfl, rfl, rfl, c', rfl, hc', nc'⟩ := fits3 hvs
    exact ⟨pl, o, c', u, e, d, fl, wl, ma, ws, g, rfl, Ed.grow (xa.trans eb), gd, ⟨hc', nc', hok⟩, q.mono (xa.trans eb)⟩
  have x1 := x0.trans e1
  refine q_when (et_test (eb_eq (en_ix (er_var rfl (x1 _ _ hc)) (en_c (a := 0)) (spell_get0 k)) (en_c (a := 1)))) (fun hb Ha ea => ?_) (fun n1 H2 e2 => ?_)
  · have xa := x1.trans ea
    obtain rfl := kind_mark (of_decide_eq_true hb)
    refine r_meth (ev_var rfl) (xa _ _ h1) N_Editor_mark ap_nil (fun vs Hb eb hvs => ?_)
    obtain rfl := fits0 hvs
    exact ⟨e, d, fl, wl, ma, ws, g, rfl, Ed.grow (xa.trans eb), gd, trivial, q.mono (xa.trans eb)⟩
  have x2 := x1.trans e2
  refine q_when (et_test (eb_eq (en_ix (er_var rfl (x2 _ _ hc)) (en_c (a := 0)) (spell_get0 k)) (en_c (a := 2)))) (fun hb Ha ea => ?_) (fun n2 H3 e3 => ?_)
  · have xa := x2.trans ea
    obtain rfl := kind_flush (of_decide_eq_true hb)
    refine r_meth (ev_var rfl) (xa _ _ h1) N_Editor_flush ap_nil (fun vs Hb eb hvs => ?_)
    obtain rfl := fits0 hvs
    exact ⟨e, d, fl, wl, ma, ws, g, rfl, Ed.grow (xa.trans eb), gd, trivial, q.mono (xa.trans eb)⟩
  have x3 := x2.trans e3
  refine q_when (et_test (eb_eq (en_ix (er_var rfl (x3 _ _ hc)) (en_c (a := 0)) (spell_get0 k)) (en_c (a := 3)))) (fun hb Ha ea => ?_) (fun n3 H4 e4 => ?_)
  · have xa := x3.trans ea
    obtain rfl := kind_make_copy (of_decide_eq_true hb)
    refine r_meth (ev_var rfl) (xa _ _ h1) N_Editor_make_copy ap_nil (fun vs Hb eb hvs => ?_)
    obtain rfl := fits0 hvs
    exact ⟨e, d, fl, wl, ma, ws, g, rfl, Ed.grow (xa.trans eb), gd, trivial, q.mono (xa.trans eb)⟩
  have x4 := x3.trans e4
  refine q_when (et_test (eb_eq (en_ix (er_var rfl (x4 _ _ hc)) (en_c (a := 0)) (spell_get0 k)) (en_c (a := 4)))) (fun hb Ha ea => ?_) (fun n4 H5 e5 => ?_)
  · have xa := x4.trans ea
    obtain rfl := kind_turn (of_decide_eq_true hb)
    refine r_meth (ev_var rfl) (xa _ _ h1) N_Editor_turn ap_nil (fun vs Hb eb hvs => ?_)
    obtain rfl := fits0 hvs
    exact ⟨e, d, fl, wl, ma, ws, g, rfl, Ed.grow (xa.trans eb), gd, trivial, q.mono (xa.trans eb)⟩
  have x5 := x4.trans e5
  refine q_when (et_test (eb_eq (en_ix (er_var rfl (x5 _ _ hc)) (en_c (a := 0)) (spell_get0 k)) (en_c (a := 5)))) (fun hb Ha ea => ?_) (fun n5 H6 e6 => ?_)
  · have xa := x5.trans ea
    obtain ⟨l, rfl⟩ := kind_power (of_decide_eq_true hb)
    refine r_meth (ev_var rfl) (xa _ _ h1) N_Editor_power (ap_cons (ep_n (u := l) (Ed.disk.grow xa) (el_from (er_var rfl (xa _ _ hc)) (eo_some (en_c (a := 2))))) mon_n ap_nil) (fun vs Hb eb hvs => ?_)
    obtain ⟨v1, rfl, c', rfl, hc', nc'⟩ := fits1 hvs
    exact ⟨c', l, e, d, fl, wl, ma, ws, g, rfl, Ed.grow (xa.trans eb), gd, ⟨hc', nc'⟩, q.mono (xa.trans eb)⟩
  have x6 := x5.trans e6
  refine q_when (et_test (eb_eq (en_ix (er_var rfl (x6 _ _ hc)) (en_c (a := 0)) (spell_get0 k)) (en_c (a := 6)))) (fun hb Ha ea => ?_) (fun n6 H7 e7 => ?_)
  · have xa := x6.trans ea
    obtain rfl := kind_start (of_decide_eq_true hb)
    refine r_meth (ev_var rfl) (xa _ _ h1) N_Editor_start ap_nil (fun vs Hb eb hvs => ?_)
    obtain rfl := fits0 hvs
    exact ⟨e, d, fl, wl, ma, ws, g, rfl, Ed.grow (xa.trans eb), gd, trivial, q.mono (xa.trans eb)⟩
  have x7 := x6.trans e7
  refine q_when (et_test (eb_eq (en_ix (er_var rfl (x7 _ _ hc)) (en_c (a := 0)) (spell_get0 k)) (en_c (a := 7)))) (fun hb Ha ea => ?_) (fun n7 H8 e8 => ?_)
  · have xa := x7.trans ea
    obtain rfl := kind_shows (of_decide_eq_true hb)
    refine r_meth (ev_var rfl) (xa _ _ h1) N_Editor_shows ap_nil (fun vs Hb eb hvs => ?_)
    obtain rfl := fits0 hvs
    exact ⟨e, d, fl, wl, ma, ws, g, rfl, Ed.grow (xa.trans eb), gd, trivial, q.mono (xa.trans eb)⟩
  have x8 := x7.trans e8
  refine q_when (et_test (eb_eq (en_ix (er_var rfl (x8 _ _ hc)) (en_c (a := 0)) (spell_get0 k)) (en_c (a := 8)))) (fun hb Ha ea => ?_) (fun n8 H9 e9 => ?_)
  · have xa := x8.trans ea
    obtain ⟨b, rfl⟩ := kind_on_disk (of_decide_eq_true hb)
    refine r_meth (ev_var rfl) (xa _ _ h1) N_Editor_on_disk (ap_v (en_ix (er_var rfl (xa _ _ hc)) (en_c (a := 1)) (n := b.toNat) rfl) ap_nil) (fun vs Hb eb hvs => ?_)
    obtain ⟨v1, rfl, rfl⟩ := fits1 hvs
    exact ⟨b, e, d, fl, wl, ma, ws, g, rfl, Ed.grow (xa.trans eb), gd, trivial, q.mono (xa.trans eb)⟩
  have x9 := x8.trans e9
  refine q_when (et_test (eb_eq (en_ix (er_var rfl (x9 _ _ hc)) (en_c (a := 0)) (spell_get0 k)) (en_c (a := 9)))) (fun hb Ha ea => ?_) (fun n9 H10 e10 => ?_)
  · have xa := x9.trans ea
    obtain ⟨b, p, xx, rfl⟩ := kind_spoil (of_decide_eq_true hb)
    refine r_meth (ev_var rfl) (xa _ _ h1) N_Editor_spoil (ap_v (en_ix (er_var rfl (xa _ _ hc)) (en_c (a := 1)) (n := b.toNat) rfl) (ap_v (en_ix (er_var rfl (xa _ _ hc)) (en_c (a := 2)) (n := p) rfl) (ap_v (en_ix (er_var rfl (xa _ _ hc)) (en_c (a := 3)) (n := xx) rfl) ap_nil))) (fun vs Hb eb hvs => ?_)
    obtain ⟨v1, v2, v3, rfl, rfl, rfl, rfl⟩ := fits3 hvs
    exact ⟨b, p, xx, e, d, fl, wl, ma, ws, g, rfl, Ed.grow (xa.trans eb), gd, trivial, q.mono (xa.trans eb)⟩
  have x10 := x9.trans e10
  refine q_when (et_test (eb_eq (en_ix (er_var rfl (x10 _ _ hc)) (en_c (a := 0)) (spell_get0 k)) (en_c (a := 10)))) (fun hb Ha ea => ?_) (fun n10 H11 e11 => ?_)
  · have xa := x10.trans ea
    obtain ⟨w, rfl⟩ := kind_read (of_decide_eq_true hb)
    refine r_call (ap_b (w := w) (elR (el_from (er_var rfl (xa _ _ hc)) (eo_some (en_c (a := 2))))) ap_nil) (fun vs Hb eb hvs => ?_)
    have xb := xa.trans eb
    exact ⟨w, hvs, hok, fun p H3 np e3 h3 => q H3 wl ma ws p (Ed.grow (xb.trans e3)) (.inl rfl) (.inl rfl) (Fr.ex (xb.trans e3)) h3 (fresh_back xb np)⟩
  have x11 := x10.trans e11
  refine q_when (et_test (eb_eq (en_ix (er_var rfl (x11 _ _ hc)) (en_c (a := 0)) (spell_get0 k)) (en_c (a := 11)))) (fun hb Ha ea => ?_) (fun n11 H12 e12 => ?_)
  · have xa := x11.trans ea
    obtain rfl := kind_state (of_decide_eq_true hb)
    refine r_meth (ev_var rfl) (xa _ _ h1) N_Editor_state ap_nil (fun vs Hb eb hvs => ?_)
    obtain rfl := fits0 hvs
    exact ⟨e, d, fl, wl, ma, ws, g, rfl, Ed.grow (xa.trans eb), gd, trivial, q.mono (xa.trans eb)⟩
  have x12 := x11.trans e12
  refine q_when (et_test (eb_eq (en_ix (er_var rfl (x12 _ _ hc)) (en_c (a := 0)) (spell_get0 k)) (en_c (a := 12)))) (fun hb Ha ea => ?_) (fun n12 H13 e13 => ?_)
  · have xa := x12.trans ea
    obtain ⟨m, rfl⟩ := kind_was (of_decide_eq_true hb)
    refine r_meth (ev_var rfl) (xa _ _ h1) N_Editor_was (ap_v (en_ix (er_var rfl (xa _ _ hc)) (en_c (a := 1)) (n := m) rfl) ap_nil) (fun vs Hb eb hvs => ?_)
    obtain ⟨v1, rfl, rfl⟩ := fits1 hvs
    exact ⟨m, e, d, fl, wl, ma, ws, g, rfl, Ed.grow (xa.trans eb), gd, trivial, q.mono (xa.trans eb)⟩
  have x13 := x12.trans e13
  have hle := kind_le k
  have m0 := of_decide_eq_false n0
  have m1 := of_decide_eq_false n1
  have m2 := of_decide_eq_false n2
  have m3 := of_decide_eq_false n3
  have m4 := of_decide_eq_false n4
  have m5 := of_decide_eq_false n5
  have m6 := of_decide_eq_false n6
  have m7 := of_decide_eq_false n7
  have m8 := of_decide_eq_false n8
  have m9 := of_decide_eq_false n9
  have m10 := of_decide_eq_false n10
  have m11 := of_decide_eq_false n11
  have m12 := of_decide_eq_false n12
  exfalso
  omega
end
end Pk

set_option Elab.async false
set_option linter.all false
set_option maxRecDepth 100000
set_option maxHeartbeats 2000000
namespace Pk
open PySem PySem.Spec PyProof.Rows L2 Evl
theorem li_enc (w : List Nat) : (li w).map V.int = enc w := by
  unfold li enc
  rw [List.map_map]
  rfl
def after : Ue12.St → List Ue12.Call → Ue12.St
  | s, [] => s
  | s, k :: ks => after (Ue12.step s k).1 ks
theorem plays_snoc : ∀ (ks : List Ue12.Call) (s : Ue12.St) (k : Ue12.Call), plays s (ks ++ [k]) = plays s ks ++ [(Ue12.step (after s ks) k).2]
  | [], _, _ => rfl
  | j :: ks, s, k => by
    show (Ue12.step s j).2 :: plays (Ue12.step s j).1 (ks ++ [k]) = _
    rw [plays_snoc ks]
    rfl
theorem after_snoc : ∀ (ks : List Ue12.Call) (s : Ue12.St) (k : Ue12.Call), after s (ks ++ [k]) = (Ue12.step (after s ks) k).1
  | [], _, _ => rfl
  | j :: ks, s, k => after_snoc ks _ k
theorem plays_app : ∀ (ks js : List Ue12.Call) (s : Ue12.St), plays s (ks ++ js) = plays s ks ++ plays (after s ks) js
  | [], _, _ => rfl
  | j :: ks, js, s => by
    show (Ue12.step s j).2 :: plays (Ue12.step s j).1 (ks ++ js) = _
    rw [plays_app ks]
    rfl
theorem told_app (a b : List (List Int)) : PyFlat.told (a ++ b) = PyFlat.told a ++ PyFlat.told b := List.flatMap_append ..
theorem told_one (a : List Int) : PyFlat.told [a] = (a.length : Int) :: a := by
  show ((a.length : Int) :: a) ++ [] = _
  rw [List.append_nil]
theorem goodB_after : ∀ (ks : List Ue12.Call) (s : Ue12.St), GoodB s → GoodB (after s ks)
  | [], _, h => h
  | k :: ks, s, h => goodB_after ks _ (good_step h k)
theorem marks_after : ∀ (ks : List Ue12.Call) (s : Ue12.St), (after s ks).marks.length ≤ s.marks.length + ks.length
  | [], _ => Nat.le_refl _
  | k :: ks, s => by
    have h1 := marks_after ks (Ue12.step s k).1
    have h2 := marks_step s k
    show (after (Ue12.step s k).1 ks).marks.length ≤ s.marks.length + (ks.length + 1)
    omega
theorem good_after (ks : List Ue12.Call) (h : ks.length ≤ 50) : Good (after Ue12.init ks) := by
  have h1 := marks_after ks Ue12.init
  have h2 : Ue12.init.marks.length = 1 := rfl
  exact ⟨goodB_after ks _ good_init, by omega⟩
theorem sq_keep {K : PySem.W.Frag} {H H' : Hp} {a : Addr} {xs : List V} (e : ∀ o, H a = some o → H' a = some o) (h : SqL K H a xs) : SqL K H' a xs := by
  rcases h with (h | ⟨o, h⟩) | h
  · exact .inl (.inl (e _ h))
  · exact .inl (.inr ⟨o, e _ h⟩)
  · exact .inr h
section
variable {K : PySem.W.Frag} {σ : L2.St} {H : Hp} {ta te : TE} {D : Ends} {tz : TS} {xs zs : List V}
theorem q_appZ {l : Addr} {v : V} (hl : H l = some (.lst xs)) (ha : Ev ta σ H (.ref l)) (h : Ev te σ H v) (hz : xs.length < sizeLine) (k : ∀ H1, Ex H H1 → tz D σ (upd H1 l (.lst (xs ++ [v])))) :
    tSeq (tDrop (tBM K "list" rAppend ta (tCons te tNil))) tz D σ H := ha H (Ex.refl H) _ fun H1 e1 =>
  ⟨Or.inl ⟨rfl, xs, sq_of (e1 l _ hl)⟩, h H1 e1 _ fun H2 e2 => ⟨l, xs, v, rfl, rfl, e2 l _ (e1 l _ hl), hz, k H2 (e1.trans e2)⟩⟩
theorem q_extZ {l b : Addr} (hl : H l = some (.lst xs)) (ha : Ev ta σ H (.ref l)) (h : Ev te σ H (.ref b)) (hb : H b = some (.lst zs)) (hz : xs.length + zs.length ≤ sizeLine) (k : ∀ H1, Ex H H1 → tz D σ (upd H1 l (.lst (xs ++ zs)))) :
    tSeq (tDrop (tBM K "list" rExtend ta (tCons te tNil))) tz D σ H := ha H (Ex.refl H) _ fun H1 e1 =>
  ⟨Or.inl ⟨rfl, xs, sq_of (e1 l _ hl)⟩, h H1 e1 _ fun H2 e2 => ⟨l, b, xs, zs, rfl, rfl, e2 l _ (e1 l _ hl), e2 _ _ (e1 _ _ hb), hz, k H2 (e1.trans e2)⟩⟩
theorem en_lenS {a : Addr} {n : Nat} (h : Ev te σ H (.ref a)) (hs : SqL K H a xs) (hn : xs.length = n) : Ev (tCB (rLenS K) (tCons te tNil)) σ H (nv n) := hn ▸ ev_len h hs
end
section
variable {P : Program} {w : World} {K : PySem.W.Frag} {mg : Str → Option Value} {base : Heap} {X : List Addr} {CE CD CW : Addr}
/-- one object more that is none of the editor's -/
theorem EdAt.avoid {e d fl wl ma gv : Addr} {ws : List Addr} {g : Ue12.St} {H H' : Hp} (Ed : EdAt X CE CD CW e d fl wl ma ws g H) (x : Ex H H') (hn : H gv = none) (hl : H' gv ≠ none) : EdAt (gv :: X) CE CD CW e d fl wl ma ws g H' := by
  have Ed' := Ed.grow x
  obtain ⟨⟨de, t, h1, h2, h3⟩, ⟨hd, ⟨a0, a1, f1, f2, f3, f4, f5⟩, hw, hws, hne, hxs⟩, kvs, hm, M⟩ := Ed
  have add : ∀ c : Addr, H c ≠ none → c ∉ fl :: wl :: X → c ∉ fl :: wl :: gv :: X := fun c hc q => by
    have : c ≠ gv := fun z => hc (by rw [z]; exact hn)
    simp at q ⊢
    simp [q, this]
  refine ⟨⟨de, t, x _ _ h1, x _ _ h2, add t (by rw [h2]; simp) h3⟩, ⟨Ed'.disk.obj, ⟨a0, a1, x _ _ f1, x _ _ f2, x _ _ f3, add a0 (by rw [f2]; simp) f4, add a1 (by rw [f3]; simp) f5⟩, x _ _ hw, ws_mono (fun b o q _ => x b o q) add hws, hne, fun y hy => ?_⟩, kvs, x _ _ hm, M.mono (fun b xs q _ => x _ _ q) (fun c xs q n => add c (by rw [q]; simp) n)⟩
  rcases List.mem_cons.mp hy with rfl | hy
  · exact hl
  · exact Ed'.disk.xs y hy
/-- such an object changes -/
theorem EdAt.poke {e d fl wl ma gv : Addr} {ws : List Addr} {g : Ue12.St} {H : Hp} {o : HO} {xs : List V} (Ed : EdAt X CE CD CW e d fl wl ma ws g H) (hx : gv ∈ X) (hg : H gv = some (.lst xs)) (hn : gv ∉ [e, d, fl, wl, ma]) : EdAt X CE CD CW e d fl wl ma ws g (upd H gv o) := by
  obtain ⟨⟨de, t, h1, h2, h3⟩, ⟨⟨dd, hd⟩, ⟨a0, a1, f1, f2, f3, f4, f5⟩, hw, hws, hne, hxs⟩, kvs, hm, M⟩ := Ed
  have n1 : e ≠ gv := fun z => hn (by simp [z])
  have n2 : d ≠ gv := fun z => hn (by simp [z])
  have n3 : fl ≠ gv := fun z => hn (by simp [z])
  have n4 : wl ≠ gv := fun z => hn (by simp [z])
  have n5 : ma ≠ gv := fun z => hn (by simp [z])
  have row : ∀ c : Addr, c ∉ fl :: wl :: X → c ≠ gv := fun c q z => nm3 q (by rw [z]; exact hx)
  refine ⟨⟨de, t, by rw [upd_ne n1]; exact h1, by rw [upd_ne (row t h3)]; exact h2, h3⟩, ⟨⟨dd, by rw [upd_ne n2]; exact hd⟩, ⟨a0, a1, by rw [upd_ne n3]; exact f1, by rw [upd_ne (row _ f4)]; exact f2, by rw [upd_ne (row _ f5)]; exact f3, f4, f5⟩, by rw [upd_ne n4]; exact hw, ws_mono (fun b u q r => ?_) (fun c _ q => q) hws, hne, live_upd hxs⟩, kvs, by rw [upd_ne n5]; exact hm, M.mono (fun b xs q n => by rw [upd_ne (row b n)]; exact q) (fun _ _ _ q => q)⟩
  rw [upd_ne]
  · exact q
  · rcases r with ⟨_, _, _, _, rfl⟩ | r
    · exact ne_of q hg (by intro z; cases z)
    · exact row _ r
def spAns (K : PySem.W.Frag) : Sp := fun vs H Q _ => ∃ (a : Addr) (ns : List Int), vs = [.ref a] ∧ SqL K H a (ns.map V.int) ∧ PyUe12.answers_asked ns = true ∧ ∀ (H' : Hp) (p : Addr), H' p = some (.lst ((PyUe12.answers ns).map V.int)) → Q (.ref p) H'
theorem ok_answers (G : Glob mg) (m_Editor : C8.Mak P w K mg base 5 "Editor" CE (sp_Editor CE CD CW) []) (c_call_end : C8.Cal P w K mg base 1 "call_end" (sp_call_end K) []) (c_answer : C8.Cal P w K mg base 8 "answer" (sp_answer CE CD CW) [])
    {f0 : Addr} {fd0 : FuncData} (d : C8.Def K mg "answers" s_answers f0 fd0) : FnOk P w K mg base C8.CX0 9 f0 fd0 ["calls"] (spAns K) := by
  refine C8.fn0 d.fn sc_answers (fun vs H Q E ⟨_, _, h, _⟩ => by rw [h]; rfl) (fun cdv A outer s H vs Q E hr ⟨a, ns, hv, hs, hask, k⟩ => ?_)
  subst hv
  obtain ⟨ks, hns, h50, hok, hans, hlen⟩ := asked_read hask
  rw [hns, li_enc] at hs
  rw [hans] at k hlen
  refine ⟨_, (pss_cons (ps_set (i := 1) sc_answers.nd rfl (.inl rfl) (pe_mk0 m_Editor hr (by decide) (by rfl)))
    (pss_cons (ps_set (i := 2) sc_answers.nd rfl (.inl rfl) (pe_lst pa_nil))
    (pss_cons (ps_set (i := 3) sc_answers.nd rfl (.inl rfl) pe_int)
    (pss_cons (ps_while PassesOwn.never (pt_cmpR op_lt (pv 3) (pe_callB call_len_seq (by rfl) G.b_len PySem.boot_len (pa_cons (pv 0) pa_nil)) (nomark _))
      (pss_cons (ps_set (i := 4) sc_answers.nd rfl (.inl rfl) (C8.pe_c c_call_end hr (by decide) (by rfl) (pa_cons (pv 0) (pa_cons (pv 3) pa_nil))))
      (pss_cons (ps_set (i := 5) sc_answers.nd rfl (.inl rfl) (C8.pe_c c_answer hr (by decide) (by rfl) (pa_cons (pv 1) (pa_cons (pe_slice sl_list (pv 0) (po_some (pv 3)) (po_some (pv 4))) pa_nil))))
      (pss_cons (ps_expr (pe_bm PySem.F.plainAttrs_list PySem.F.slot_list_append PySem.F.type_list_append mt_append (pv 2) (pa_cons (pe_callB call_len_seq (by rfl) G.b_len PySem.boot_len (pa_cons (pv 5) pa_nil)) pa_nil)))
      (pss_cons (ps_expr (pe_bm PySem.F.plainAttrs_list PySem.F.slot_list_extend PySem.F.type_list_extend mt_extend (pv 2) (pa_cons (pv 5) pa_nil)))
      (pss_one (ps_set (i := 3) sc_answers.nd rfl (.inl rfl) (pv 4))))))))
    (pss_one (ps_ret (pv 2))))))), ?_⟩
  refine q_asgN en_make2 (fun e H1 ne e1 ⟨Hm, em, d, fl, wl, ma, ws, Ed, nd, nf, nw, nm⟩ => ?_)
  have nd := fresh_back em nd
  have nf := fresh_back em nf
  have nw := fresh_back em nw
  have nm := fresh_back em nm
  refine q_asgL el_0 (fun gv H2 ng e2 h2 => ?_)
  refine q_asg (en_c (a := 0)) (fun H3 e3 => ?_)
  have x3 := (e1.trans e2).trans e3
  have hgv : gv ∉ [e, d, fl, wl, ma] := fun z => Ed.live gv z ng
  refine q_while (fun m σ' H' => ∃ (k1 k2 : List Ue12.Call) (wl ma : Addr) (ws : List Addr) (v4 v5 : Option V), ks = k1 ++ k2 ∧ m = k2.length ∧ σ' = [some (.ref a), some (.ref e), some (.ref gv), some (nv (k1.flatMap spell).length), v4, v5] ∧
      EdAt [gv] CE CD CW e d fl wl ma ws (after Ue12.init k1) H' ∧ H' gv = some (.lst ((PyFlat.told (plays Ue12.init k1)).map V.int)) ∧ gv ∉ [e, d, fl, wl, ma] ∧ (∀ o, H a = some o → H' a = some o) ∧ (∀ o, H a = some o → a ∉ [e, d, fl, wl, ma]) ∧ (∀ o, H a = some o → a ≠ gv)) ks.length
    ⟨[], ks, wl, ma, ws, none, none, rfl, rfl, rfl, Ed.avoid (e2.trans e3) ng (by rw [e3 _ _ h2]; simp), e3 _ _ h2, hgv, fun o h => x3 _ _ h, fun o h => ?_, fun o h => ?_⟩ ?_
  · have n1 : a ≠ e := ne_of_none h ne
    have n2 : a ≠ d := ne_of_none h nd
    have n3 : a ≠ fl := ne_of_none h nf
    have n4 : a ≠ wl := ne_of_none h nw
    have n5 : a ≠ ma := ne_of_none h nm
    simp [n1, n2, n3, n4, n5]
  · exact ne_of_none (e1 _ _ h) ng
  rintro m σ' H' ⟨k1, k2, wl, ma, ws, v4, v5, hk, rfl, rfl, Ed', hg, hgn, ha, han, hag⟩
  have hs' : SqL K H' a (enc (ks.flatMap spell)) := sq_keep ha hs
  have hsplit : ks.flatMap spell = k1.flatMap spell ++ k2.flatMap spell := by rw [hk, List.flatMap_append]
  refine ⟨_, et_test (eb_lt (ev_var rfl) (en_lenS (ev_var rfl) hs' (enc_len _))), fun ht H4 e4 => ?_, fun ht H4 e4 => ?_⟩
  · have hlt := of_decide_eq_true ht
    rw [hsplit, List.length_append] at hlt
    cases k2 with
    | nil => exact absurd hlt (by simp)
    | cons kc k2 =>
    have hsp : ks.flatMap spell = k1.flatMap spell ++ (spell kc ++ k2.flatMap spell) := by rw [hsplit, List.flatMap_cons]
    have hs4 : SqL K H4 a (enc (k1.flatMap spell ++ (spell kc ++ k2.flatMap spell))) := by
      rw [← hsp]
      exact ex_l e4 hs'
    refine ⟨_, fun σ2 H2 h => h, ?_⟩
    -- end = call_end(calls, place)
    refine q_asgC (i := 4) (ap_v (ev_var (v := .ref a) rfl) (ap_v (ev_var rfl) ap_nil)) (fun vs H5 e5 hvs => ?_)
    obtain ⟨v1, v2, rfl, rfl, rfl⟩ := fits2 hvs
    refine ⟨a, k1.flatMap spell, k2.flatMap spell, kc, rfl, ex_l e5 hs4, fun H6 e6 => ?_⟩
    have x6 := (e4.trans e5).trans e6
    have hs6 : SqL K H6 a (enc (k1.flatMap spell ++ (spell kc ++ k2.flatMap spell))) := ex_l (e5.trans e6) hs4
    -- numbers = answer(editor, calls[place:end])
    refine q_asgC (i := 5) (ap_v (ev_var (v := .ref e) rfl) (ap_b (w := spell kc) (elR ?_) ap_nil)) (fun vs H7 e7 hvs => ?_)
    · have := el_sl (K := K) (ev_var (i := 0) (σ := [some (.ref a), some (.ref e), some (.ref gv), some (nv (k1.flatMap spell).length), some (nv ((k1.flatMap spell).length + (spell kc).length)), v5]) rfl) (eo_some (ev_var (i := 3) rfl)) (eo_some (ev_var (i := 4) rfl)) hs6
      rw [cut_both, List.drop_left, Nat.add_sub_cancel_left, List.take_left] at this
      exact this
    obtain ⟨v1, v2, rfl, rfl, c, rfl, hc⟩ := fits2 hvs
    have x7 := x6.trans e7
    have hkc : OkCall kc := hok kc (by rw [hk]; simp)
    refine ⟨[gv], e, d, fl, wl, ma, ws, after Ue12.init k1, c, kc, rfl, Ed'.grow x7, good_after k1 (by rw [hk, List.length_append] at h50; omega), hc, hkc, fun H8 wl8 ma8 ws8 p Ed8 hw8 hm8 fr8 hp8 np8 => ?_⟩
    have hg8 : H8 gv = some (.lst ((PyFlat.told (plays Ue12.init k1)).map V.int)) := fr8 _ _ (x7 _ _ hg) hgn
    have npg : p ≠ gv := fun z => by rw [z, x7 _ _ hg] at np8; cases np8
    have ha8 : ∀ o, H a = some o → H8 a = some o := fun o h => fr8 _ _ (x7 _ _ (ha o h)) (han o h)
    have htot : (PyFlat.told (plays Ue12.init k1)).length + (1 + ((Ue12.step (after Ue12.init k1) kc).2).length) ≤ 10000000 := by
      have e : ks = (k1 ++ [kc]) ++ k2 := by rw [hk, List.append_assoc]; rfl
      have : (PyFlat.told (plays Ue12.init ks)).length = (PyFlat.told (plays Ue12.init k1)).length + (1 + ((Ue12.step (after Ue12.init k1) kc).2).length) + (PyFlat.told (plays (after Ue12.init (k1 ++ [kc])) k2)).length := by
        rw [e, plays_app, told_app, plays_snoc, told_app, told_one, List.length_append, List.length_append, List.length_cons]
        omega
      omega
    have hsz : sizeLine = 16777216 := sizeLine_eq
    -- given.append(len(numbers))
    refine q_appZ (l := gv) hg8 (ev_var rfl) (en_len (er_var rfl hp8)) (by rw [List.length_map]; omega) (fun H9 e9 => ?_)
    have p9 : (upd H9 gv (.lst ((PyFlat.told (plays Ue12.init k1)).map V.int ++ [nv ((Ue12.step (after Ue12.init k1) kc).2.map V.int).length]))) p = some (.lst ((Ue12.step (after Ue12.init k1) kc).2.map V.int)) := by
      rw [upd_ne npg]
      exact e9 _ _ hp8
    -- given.extend(numbers)
    refine q_extZ (l := gv) (b := p) upd_same (ev_var rfl) (ev_var rfl) p9 (by rw [List.length_append, List.length_map, List.length_map]; simp only [List.length_singleton]; omega) (fun H10 e10 => ?_)
    -- place = end
    refine s_asg (ev_var rfl) (fun H11 e11 => ?_)
    have fe : Fr [gv] H8 (upd H10 gv (.lst ((PyFlat.told (plays Ue12.init k1)).map V.int ++ [nv ((Ue12.step (after Ue12.init k1) kc).2.map V.int).length] ++ (Ue12.step (after Ue12.init k1) kc).2.map V.int))) :=
      (((Fr.ex e9).upd (by simp)).trans (Fr.ex e10)).upd (by simp)
    have out8 : ∀ b o, H7 b = some o → b ∉ [e, d, fl, wl, ma] → b ∉ [e, d, fl, wl8, ma8] := fun b o hb n => by
      have q1 : b ≠ wl8 := by
        rcases hw8 with rfl | hw8
        · exact fun z => n (by simp [z])
        · exact ne_of_none hb hw8
      have q2 : b ≠ ma8 := by
        rcases hm8 with rfl | hm8
        · exact fun z => n (by simp [z])
        · exact ne_of_none hb hm8
      simp at n ⊢
      simp [n, q1, q2]
    have hg8n : gv ∉ [e, d, fl, wl8, ma8] := out8 _ _ (x7 _ _ hg) hgn
    refine ⟨k2.length, by simp, k1 ++ [kc], k2, wl8, ma8, ws8, some (nv ((k1.flatMap spell).length + (spell kc).length)), some (.ref p), by rw [hk, List.append_assoc]; rfl, rfl, ?_, ?_, ?_, hg8n, fun o h => ?_, fun o h => ?_, hag⟩
    · rw [List.flatMap_append, List.flatMap_cons, List.flatMap_nil, List.append_nil, List.length_append]
      rfl
    · rw [after_snoc]
      exact ((((Ed8.grow e9).poke (by simp) (e9 _ _ hg8) hg8n).grow e10).poke (by simp) (e10 _ _ upd_same) hg8n).grow e11
    · rw [plays_snoc, told_app, told_one, List.map_append]
      refine e11 _ _ (Eq.trans upd_same ?_)
      rw [List.append_assoc, List.length_map]
      rfl
    · exact e11 _ _ (fe _ _ (ha8 o h) (by simpa using hag o h))
    · exact out8 _ _ (x7 _ _ (ha o h)) (han o h)
  · have hge := of_decide_eq_false ht
    rw [hsplit, List.length_append] at hge
    have k2n : k2 = [] := by
      cases k2 with
      | nil => rfl
      | cons kc k2 =>
        exfalso
        apply hge
        rw [List.flatMap_cons, List.length_append]
        have : 0 < (spell kc).length := by cases kc <;> simp [spell]
        omega
    subst k2n
    rw [List.append_nil] at hk
    subst hk
    exact s_ret (ev_var rfl) fun H5 e5 => k H5 gv (e5 _ _ (e4 _ _ hg))
end
end Pk

set_option Elab.async false
set_option linter.all false
set_option maxRecDepth 100000
set_option maxHeartbeats 2000000
namespace Pk
open PySem PySem.Spec PyProof.Rows L2 Evl
theorem defx_mk {K : PySem.W.Frag} {h : Heap} {mg : Str → Option Value} {x : Str} {st : Stmt} {ps : List Str} {f : Addr} {od an : Option Addr} {sl : Array (Option Value)} {oc kV dc pm cd ct : Value} (X : K.In h) (G : h.Ns mainGlobals mg) (a : PySem.W.nsIn K mainGlobals x = some (some (.ref f)))
    (l : K.lookup f = some ⟨oc, od, .func (PySem.W.fnOf x x (C8.fnArgs st) (C8.fnBody st) (C8.fnScope st) .none kV dc pm an cd ct), sl⟩) (c : PySem.W.codeIn K cd x = true) (k : PySem.W.keepIn K (.ref f) = true)
    (hb : ∀ (kV doc pm : Value) (an : Option Addr) (cdv ct : Value) (us : List Value), us.length = ps.length → bindArgs (PySem.W.fnOf x x (C8.fnArgs st) (C8.fnBody st) (C8.fnScope st) .none kV doc pm an cdv ct) ⟨us, []⟩ = pure (ps.zip us)) : DefX K mg x st ps :=
  ⟨f, _, ⟨⟨oc, od, .none, kV, dc, pm, an, cd, ct, sl, rfl, l, c⟩, PySem.W.mg_of X G a, k⟩, C8.Fun.binds ⟨oc, od, .none, kV, dc, pm, an, cd, ct, sl, rfl, l, c⟩ rfl hb⟩
theorem constx_mk {K : PySem.W.Frag} {h : Heap} {mg : Str → Option Value} {x : Str} {n : Int} {t : Tok} (X : K.In h) (G : h.Ns mainGlobals mg) (a : PySem.W.nsIn K mainGlobals x = some (some (.int n t))) : ∃ u, mg x = some u ∧ RelV (.int n) u := ⟨_, PySem.W.mg_of X G a, t, rfl⟩
theorem metx_mk {K : PySem.W.Frag} {C : Addr} {m qual : Str} {st : Stmt} {ps : List Str} {f : Addr} {od an : Option Addr} {sl : Array (Option Value)} {oc kV dc pm cd ct : Value} (cl : Cls K C) (a : PySem.W.findIn K (.ref C) m = some (some (.ref f))) (i : PySem.W.isFn K (.ref f) = true)
    (l : K.lookup f = some ⟨oc, od, .func (PySem.W.fnOf m qual (C8.fnArgs st) (C8.fnBody st) (C8.fnScope st) .none kV dc pm an cd ct), sl⟩) (c : PySem.W.codeIn K cd qual = true) (k : PySem.W.keepIn K (.ref f) = true)
    (hb : ∀ (kV doc pm : Value) (an : Option Addr) (cdv ct : Value) (us : List Value), us.length = ps.length → bindArgs (PySem.W.fnOf m qual (C8.fnArgs st) (C8.fnBody st) (C8.fnScope st) .none kV doc pm an cdv ct) ⟨us, []⟩ = pure (ps.zip us)) : MetX K C m qual st ps :=
  ⟨f, _, cl, ⟨a, i, k⟩, ⟨oc, od, .none, kV, dc, pm, an, cd, ct, sl, rfl, l, c⟩, C8.Fun.binds ⟨oc, od, .none, kV, dc, pm, an, cd, ct, sl, rfl, l, c⟩ rfl hb⟩
theorem makx_mk {K : PySem.W.Frag} {h : Heap} {mg : Str → Option Value} {C : Addr} {x qual : Str} {st : Stmt} {ps : List Str} {f : Addr} {od an : Option Addr} {sl : Array (Option Value)} {oc kV dc pm cd ct : Value} (X : K.In h) (G : h.Ns mainGlobals mg) (aC : PySem.W.nsIn K mainGlobals x = some (some (.ref C))) (mk : PySem.W.makesIn K C = true) (kc : PySem.W.keepIn K (.ref C) = true)
    (a : PySem.W.findIn K (.ref C) "__init__" = some (some (.ref f))) (i : PySem.W.isFn K (.ref f) = true) (l : K.lookup f = some ⟨oc, od, .func (PySem.W.fnOf "__init__" qual (C8.fnArgs st) (C8.fnBody st) (C8.fnScope st) .none kV dc pm an cd ct), sl⟩) (c : PySem.W.codeIn K cd qual = true)
    (hb : ∀ (kV doc pm : Value) (an : Option Addr) (cdv ct : Value) (us : List Value), us.length = ps.length → bindArgs (PySem.W.fnOf "__init__" qual (C8.fnArgs st) (C8.fnBody st) (C8.fnScope st) .none kV doc pm an cdv ct) ⟨us, []⟩ = pure (ps.zip us)) : MakX K mg x C qual st ps :=
  ⟨f, _, ⟨mk, a, i, kc⟩, PySem.W.mg_of X G aC, ⟨oc, od, .none, kV, dc, pm, an, cd, ct, sl, rfl, l, c⟩, C8.Fun.binds ⟨oc, od, .none, kV, dc, pm, an, cd, ct, sl, rfl, l, c⟩ rfl hb⟩
theorem hb_low_and_high (kV doc pm : Value) (an : Option Addr) (cdv ct : Value) (us : List Value) (hl : us.length = (["number"] : List Str).length) : bindArgs (PySem.W.fnOf "low_and_high" "low_and_high" (C8.fnArgs s_low_and_high) (C8.fnBody s_low_and_high) (C8.fnScope s_low_and_high) .none kV doc pm an cdv ct) ⟨us, []⟩ = pure ((["number"] : List Str).zip us) := match us, hl with | [_], _ => rfl
theorem hb_record (kV doc pm : Value) (an : Option Addr) (cdv ct : Value) (us : List Value) (hl : us.length = (["body"] : List Str).length) : bindArgs (PySem.W.fnOf "record" "record" (C8.fnArgs s_record) (C8.fnBody s_record) (C8.fnScope s_record) .none kV doc pm an cdv ct) ⟨us, []⟩ = pure ((["body"] : List Str).zip us) := match us, hl with | [_], _ => rfl
theorem hb_change_record (kV doc pm : Value) (an : Option Addr) (cdv ct : Value) (us : List Value) (hl : us.length = (["place", "gone", "coming"] : List Str).length) : bindArgs (PySem.W.fnOf "change_record" "change_record" (C8.fnArgs s_change_record) (C8.fnBody s_change_record) (C8.fnScope s_change_record) .none kV doc pm an cdv ct) ⟨us, []⟩ = pure ((["place", "gone", "coming"] : List Str).zip us) := match us, hl with | [_, _, _], _ => rfl
theorem hb_mark_record (kV doc pm : Value) (an : Option Addr) (cdv ct : Value) (us : List Value) (hl : us.length = (["number"] : List Str).length) : bindArgs (PySem.W.fnOf "mark_record" "mark_record" (C8.fnArgs s_mark_record) (C8.fnBody s_mark_record) (C8.fnScope s_mark_record) .none kV doc pm an cdv ct) ⟨us, []⟩ = pure ((["number"] : List Str).zip us) := match us, hl with | [_], _ => rfl
theorem hb_whole_record (kV doc pm : Value) (an : Option Addr) (cdv ct : Value) (us : List Value) (hl : us.length = (["text"] : List Str).length) : bindArgs (PySem.W.fnOf "whole_record" "whole_record" (C8.fnArgs s_whole_record) (C8.fnBody s_whole_record) (C8.fnScope s_whole_record) .none kV doc pm an cdv ct) ⟨us, []⟩ = pure ((["text"] : List Str).zip us) := match us, hl with | [_], _ => rfl
theorem hb_is_known (kV doc pm : Value) (an : Option Addr) (cdv ct : Value) (us : List Value) (hl : us.length = (["body"] : List Str).length) : bindArgs (PySem.W.fnOf "is_known" "is_known" (C8.fnArgs s_is_known) (C8.fnBody s_is_known) (C8.fnScope s_is_known) .none kV doc pm an cdv ct) ⟨us, []⟩ = pure ((["body"] : List Str).zip us) := match us, hl with | [_], _ => rfl
theorem hb_body_at (kV doc pm : Value) (an : Option Addr) (cdv ct : Value) (us : List Value) (hl : us.length = (["row", "place"] : List Str).length) : bindArgs (PySem.W.fnOf "body_at" "body_at" (C8.fnArgs s_body_at) (C8.fnBody s_body_at) (C8.fnScope s_body_at) .none kV doc pm an cdv ct) ⟨us, []⟩ = pure ((["row", "place"] : List Str).zip us) := match us, hl with | [_, _], _ => rfl
theorem hb_read_bodies (kV doc pm : Value) (an : Option Addr) (cdv ct : Value) (us : List Value) (hl : us.length = (["row"] : List Str).length) : bindArgs (PySem.W.fnOf "read_bodies" "read_bodies" (C8.fnArgs s_read_bodies) (C8.fnBody s_read_bodies) (C8.fnScope s_read_bodies) .none kV doc pm an cdv ct) ⟨us, []⟩ = pure ((["row"] : List Str).zip us) := match us, hl with | [_], _ => rfl
theorem hb_goes_beyond (kV doc pm : Value) (an : Option Addr) (cdv ct : Value) (us : List Value) (hl : us.length = (["text", "place", "gone"] : List Str).length) : bindArgs (PySem.W.fnOf "goes_beyond" "goes_beyond" (C8.fnArgs s_goes_beyond) (C8.fnBody s_goes_beyond) (C8.fnScope s_goes_beyond) .none kV doc pm an cdv ct) ⟨us, []⟩ = pure ((["text", "place", "gone"] : List Str).zip us) := match us, hl with | [_, _, _], _ => rfl
theorem hb_changed (kV doc pm : Value) (an : Option Addr) (cdv ct : Value) (us : List Value) (hl : us.length = (["text", "place", "gone", "coming"] : List Str).length) : bindArgs (PySem.W.fnOf "changed" "changed" (C8.fnArgs s_changed) (C8.fnBody s_changed) (C8.fnScope s_changed) .none kV doc pm an cdv ct) ⟨us, []⟩ = pure ((["text", "place", "gone", "coming"] : List Str).zip us) := match us, hl with | [_, _, _, _], _ => rfl
theorem hb_text_behind (kV doc pm : Value) (an : Option Addr) (cdv ct : Value) (us : List Value) (hl : us.length = (["text", "body"] : List Str).length) : bindArgs (PySem.W.fnOf "text_behind" "text_behind" (C8.fnArgs s_text_behind) (C8.fnBody s_text_behind) (C8.fnScope s_text_behind) .none kV doc pm an cdv ct) ⟨us, []⟩ = pure ((["text", "body"] : List Str).zip us) := match us, hl with | [_, _], _ => rfl
theorem hb_bring_about (kV doc pm : Value) (an : Option Addr) (cdv ct : Value) (us : List Value) (hl : us.length = (["bodies"] : List Str).length) : bindArgs (PySem.W.fnOf "bring_about" "bring_about" (C8.fnArgs s_bring_about) (C8.fnBody s_bring_about) (C8.fnScope s_bring_about) .none kV doc pm an cdv ct) ⟨us, []⟩ = pure ((["bodies"] : List Str).zip us) := match us, hl with | [_], _ => rfl
theorem hb_head (kV doc pm : Value) (an : Option Addr) (cdv ct : Value) (us : List Value) (hl : us.length = (["number"] : List Str).length) : bindArgs (PySem.W.fnOf "head" "head" (C8.fnArgs s_head) (C8.fnBody s_head) (C8.fnScope s_head) .none kV doc pm an cdv ct) ⟨us, []⟩ = pure ((["number"] : List Str).zip us) := match us, hl with | [_], _ => rfl
theorem hb_next_number (kV doc pm : Value) (an : Option Addr) (cdv ct : Value) (us : List Value) (hl : us.length = (["number"] : List Str).length) : bindArgs (PySem.W.fnOf "next_number" "next_number" (C8.fnArgs s_next_number) (C8.fnBody s_next_number) (C8.fnScope s_next_number) .none kV doc pm an cdv ct) ⟨us, []⟩ = pure ((["number"] : List Str).zip us) := match us, hl with | [_], _ => rfl
theorem hb_first_records (kV doc pm : Value) (an : Option Addr) (cdv ct : Value) (us : List Value) (hl : us.length = (["text", "mark"] : List Str).length) : bindArgs (PySem.W.fnOf "first_records" "first_records" (C8.fnArgs s_first_records) (C8.fnBody s_first_records) (C8.fnScope s_first_records) .none kV doc pm an cdv ct) ⟨us, []⟩ = pure ((["text", "mark"] : List Str).zip us) := match us, hl with | [_, _], _ => rfl
theorem hb_file_number (kV doc pm : Value) (an : Option Addr) (cdv ct : Value) (us : List Value) (hl : us.length = (["row"] : List Str).length) : bindArgs (PySem.W.fnOf "file_number" "file_number" (C8.fnArgs s_file_number) (C8.fnBody s_file_number) (C8.fnScope s_file_number) .none kV doc pm an cdv ct) ⟨us, []⟩ = pure ((["row"] : List Str).zip us) := match us, hl with | [_], _ => rfl
theorem hb_file_bodies (kV doc pm : Value) (an : Option Addr) (cdv ct : Value) (us : List Value) (hl : us.length = (["row"] : List Str).length) : bindArgs (PySem.W.fnOf "file_bodies" "file_bodies" (C8.fnArgs s_file_bodies) (C8.fnBody s_file_bodies) (C8.fnScope s_file_bodies) .none kV doc pm an cdv ct) ⟨us, []⟩ = pure ((["row"] : List Str).zip us) := match us, hl with | [_], _ => rfl
theorem hb_counts (kV doc pm : Value) (an : Option Addr) (cdv ct : Value) (us : List Value) (hl : us.length = (["row"] : List Str).length) : bindArgs (PySem.W.fnOf "counts" "counts" (C8.fnArgs s_counts) (C8.fnBody s_counts) (C8.fnScope s_counts) .none kV doc pm an cdv ct) ⟨us, []⟩ = pure ((["row"] : List Str).zip us) := match us, hl with | [_], _ => rfl
theorem hb_with_bytes (kV doc pm : Value) (an : Option Addr) (cdv ct : Value) (us : List Value) (hl : us.length = (["row", "place", "coming"] : List Str).length) : bindArgs (PySem.W.fnOf "with_bytes" "with_bytes" (C8.fnArgs s_with_bytes) (C8.fnBody s_with_bytes) (C8.fnScope s_with_bytes) .none kV doc pm an cdv ct) ⟨us, []⟩ = pure ((["row", "place", "coming"] : List Str).zip us) := match us, hl with | [_, _, _], _ => rfl
theorem hb_above_bytes (kV doc pm : Value) (an : Option Addr) (cdv ct : Value) (us : List Value) (hl : us.length = (["numbers"] : List Str).length) : bindArgs (PySem.W.fnOf "above_bytes" "above_bytes" (C8.fnArgs s_above_bytes) (C8.fnBody s_above_bytes) (C8.fnScope s_above_bytes) .none kV doc pm an cdv ct) ⟨us, []⟩ = pure ((["numbers"] : List Str).zip us) := match us, hl with | [_], _ => rfl
theorem hb_with_count (kV doc pm : Value) (an : Option Addr) (cdv ct : Value) (us : List Value) (hl : us.length = (["row"] : List Str).length) : bindArgs (PySem.W.fnOf "with_count" "with_count" (C8.fnArgs s_with_count) (C8.fnBody s_with_count) (C8.fnScope s_with_count) .none kV doc pm an cdv ct) ⟨us, []⟩ = pure ((["row"] : List Str).zip us) := match us, hl with | [_], _ => rfl
theorem hb_read_answer (kV doc pm : Value) (an : Option Addr) (cdv ct : Value) (us : List Value) (hl : us.length = (["row"] : List Str).length) : bindArgs (PySem.W.fnOf "read_answer" "read_answer" (C8.fnArgs s_read_answer) (C8.fnBody s_read_answer) (C8.fnScope s_read_answer) .none kV doc pm an cdv ct) ⟨us, []⟩ = pure ((["row"] : List Str).zip us) := match us, hl with | [_], _ => rfl
theorem hb_call_end (kV doc pm : Value) (an : Option Addr) (cdv ct : Value) (us : List Value) (hl : us.length = (["calls", "place"] : List Str).length) : bindArgs (PySem.W.fnOf "call_end" "call_end" (C8.fnArgs s_call_end) (C8.fnBody s_call_end) (C8.fnScope s_call_end) .none kV doc pm an cdv ct) ⟨us, []⟩ = pure ((["calls", "place"] : List Str).zip us) := match us, hl with | [_, _], _ => rfl
theorem hb_answer (kV doc pm : Value) (an : Option Addr) (cdv ct : Value) (us : List Value) (hl : us.length = (["editor", "call"] : List Str).length) : bindArgs (PySem.W.fnOf "answer" "answer" (C8.fnArgs s_answer) (C8.fnBody s_answer) (C8.fnScope s_answer) .none kV doc pm an cdv ct) ⟨us, []⟩ = pure ((["editor", "call"] : List Str).zip us) := match us, hl with | [_, _], _ => rfl
theorem hb_answers (kV doc pm : Value) (an : Option Addr) (cdv ct : Value) (us : List Value) (hl : us.length = (["calls"] : List Str).length) : bindArgs (PySem.W.fnOf "answers" "answers" (C8.fnArgs s_answers) (C8.fnBody s_answers) (C8.fnScope s_answers) .none kV doc pm an cdv ct) ⟨us, []⟩ = pure ((["calls"] : List Str).zip us) := match us, hl with | [_], _ => rfl
theorem hb_Brought___init__ (kV doc pm : Value) (an : Option Addr) (cdv ct : Value) (us : List Value) (hl : us.length = (["self"] : List Str).length) : bindArgs (PySem.W.fnOf "__init__" "Brought.__init__" (C8.fnArgs s_Brought___init__) (C8.fnBody s_Brought___init__) (C8.fnScope s_Brought___init__) .none kV doc pm an cdv ct) ⟨us, []⟩ = pure ((["self"] : List Str).zip us) := match us, hl with | [_], _ => rfl
structure CX_Brought (K : PySem.W.Frag) (mg : Str → Option Value) (C : Addr) : Prop where
  cl : Cls K C
  n_text : NoAttr K C "text"
  n_kept : NoAttr K C "kept"
  n_kept_mark : NoAttr K C "kept_mark"
  made : MakX K mg "Brought" C "Brought.__init__" s_Brought___init__ ["self"]
theorem cx_Brought {K : PySem.W.Frag} {h : Heap} {mg : Str → Option Value} {C : Addr} {f0 : Addr} {od0 an0 : Option Addr} {sl0 : Array (Option Value)} {oc0 kV0 dc0 pm0 cd0 ct0 : Value} (X : K.In h) (G : h.Ns mainGlobals mg) (aC : PySem.W.nsIn K mainGlobals "Brought" = some (some (.ref C))) (pg : PySem.W.plainGet K C Str.empty = true) (hd : PySem.W.hasDictIn K C = true) (po : PySem.W.plainOver K C = true) (sa : PySem.W.findIn K (.ref C) "__setattr__" = some (some (.builtin "object.__setattr__"))) (mk : PySem.W.makesIn K C = true) (kc : PySem.W.keepIn K (.ref C) = true)
    (n_text : PySem.W.findIn K (.ref C) "text" = some none)
    (n_kept : PySem.W.findIn K (.ref C) "kept" = some none)
    (n_kept_mark : PySem.W.findIn K (.ref C) "kept_mark" = some none)
    (a0 : PySem.W.findIn K (.ref C) "__init__" = some (some (.ref f0))) (i0 : PySem.W.isFn K (.ref f0) = true) (l0 : K.lookup f0 = some ⟨oc0, od0, .func (PySem.W.fnOf "__init__" "Brought.__init__" (C8.fnArgs s_Brought___init__) (C8.fnBody s_Brought___init__) (C8.fnScope s_Brought___init__) .none kV0 dc0 pm0 an0 cd0 ct0), sl0⟩) (c0 : PySem.W.codeIn K cd0 "Brought.__init__" = true) (k0 : PySem.W.keepIn K (.ref f0) = true) : CX_Brought K mg C :=
  ⟨⟨pg, hd, po, sa⟩, n_text, n_kept, n_kept_mark, makx_mk X G aC mk kc a0 i0 l0 c0 hb_Brought___init__⟩
theorem hb_Write___init__ (kV doc pm : Value) (an : Option Addr) (cdv ct : Value) (us : List Value) (hl : us.length = (["self", "file", "place", "coming"] : List Str).length) : bindArgs (PySem.W.fnOf "__init__" "Write.__init__" (C8.fnArgs s_Write___init__) (C8.fnBody s_Write___init__) (C8.fnScope s_Write___init__) .none kV doc pm an cdv ct) ⟨us, []⟩ = pure ((["self", "file", "place", "coming"] : List Str).zip us) := match us, hl with | [_, _, _, _], _ => rfl
structure CX_Write (K : PySem.W.Frag) (mg : Str → Option Value) (C : Addr) : Prop where
  cl : Cls K C
  n_file : NoAttr K C "file"
  n_place : NoAttr K C "place"
  n_coming : NoAttr K C "coming"
  made : MakX K mg "Write" C "Write.__init__" s_Write___init__ ["self", "file", "place", "coming"]
theorem cx_Write {K : PySem.W.Frag} {h : Heap} {mg : Str → Option Value} {C : Addr} {f0 : Addr} {od0 an0 : Option Addr} {sl0 : Array (Option Value)} {oc0 kV0 dc0 pm0 cd0 ct0 : Value} (X : K.In h) (G : h.Ns mainGlobals mg) (aC : PySem.W.nsIn K mainGlobals "Write" = some (some (.ref C))) (pg : PySem.W.plainGet K C Str.empty = true) (hd : PySem.W.hasDictIn K C = true) (po : PySem.W.plainOver K C = true) (sa : PySem.W.findIn K (.ref C) "__setattr__" = some (some (.builtin "object.__setattr__"))) (mk : PySem.W.makesIn K C = true) (kc : PySem.W.keepIn K (.ref C) = true)
    (n_file : PySem.W.findIn K (.ref C) "file" = some none)
    (n_place : PySem.W.findIn K (.ref C) "place" = some none)
    (n_coming : PySem.W.findIn K (.ref C) "coming" = some none)
    (a0 : PySem.W.findIn K (.ref C) "__init__" = some (some (.ref f0))) (i0 : PySem.W.isFn K (.ref f0) = true) (l0 : K.lookup f0 = some ⟨oc0, od0, .func (PySem.W.fnOf "__init__" "Write.__init__" (C8.fnArgs s_Write___init__) (C8.fnBody s_Write___init__) (C8.fnScope s_Write___init__) .none kV0 dc0 pm0 an0 cd0 ct0), sl0⟩) (c0 : PySem.W.codeIn K cd0 "Write.__init__" = true) (k0 : PySem.W.keepIn K (.ref f0) = true) : CX_Write K mg C :=
  ⟨⟨pg, hd, po, sa⟩, n_file, n_place, n_coming, makx_mk X G aC mk kc a0 i0 l0 c0 hb_Write___init__⟩
theorem hb_Disk___init__ (kV doc pm : Value) (an : Option Addr) (cdv ct : Value) (us : List Value) (hl : us.length = (["self"] : List Str).length) : bindArgs (PySem.W.fnOf "__init__" "Disk.__init__" (C8.fnArgs s_Disk___init__) (C8.fnBody s_Disk___init__) (C8.fnScope s_Disk___init__) .none kV doc pm an cdv ct) ⟨us, []⟩ = pure ((["self"] : List Str).zip us) := match us, hl with | [_], _ => rfl
theorem hb_Disk_send (kV doc pm : Value) (an : Option Addr) (cdv ct : Value) (us : List Value) (hl : us.length = (["self", "file", "place", "coming"] : List Str).length) : bindArgs (PySem.W.fnOf "send" "Disk.send" (C8.fnArgs s_Disk_send) (C8.fnBody s_Disk_send) (C8.fnScope s_Disk_send) .none kV doc pm an cdv ct) ⟨us, []⟩ = pure ((["self", "file", "place", "coming"] : List Str).zip us) := match us, hl with | [_, _, _, _], _ => rfl
theorem hb_Disk_put (kV doc pm : Value) (an : Option Addr) (cdv ct : Value) (us : List Value) (hl : us.length = (["self", "file", "row"] : List Str).length) : bindArgs (PySem.W.fnOf "put" "Disk.put" (C8.fnArgs s_Disk_put) (C8.fnBody s_Disk_put) (C8.fnScope s_Disk_put) .none kV doc pm an cdv ct) ⟨us, []⟩ = pure ((["self", "file", "row"] : List Str).zip us) := match us, hl with | [_, _, _], _ => rfl
theorem hb_Disk_arrive (kV doc pm : Value) (an : Option Addr) (cdv ct : Value) (us : List Value) (hl : us.length = (["self", "write", "amount"] : List Str).length) : bindArgs (PySem.W.fnOf "arrive" "Disk.arrive" (C8.fnArgs s_Disk_arrive) (C8.fnBody s_Disk_arrive) (C8.fnScope s_Disk_arrive) .none kV doc pm an cdv ct) ⟨us, []⟩ = pure ((["self", "write", "amount"] : List Str).zip us) := match us, hl with | [_, _, _], _ => rfl
theorem hb_Disk_arrive_all (kV doc pm : Value) (an : Option Addr) (cdv ct : Value) (us : List Value) (hl : us.length = (["self"] : List Str).length) : bindArgs (PySem.W.fnOf "arrive_all" "Disk.arrive_all" (C8.fnArgs s_Disk_arrive_all) (C8.fnBody s_Disk_arrive_all) (C8.fnScope s_Disk_arrive_all) .none kV doc pm an cdv ct) ⟨us, []⟩ = pure ((["self"] : List Str).zip us) := match us, hl with | [_], _ => rfl
theorem hb_Disk_arrive_some (kV doc pm : Value) (an : Option Addr) (cdv ct : Value) (us : List Value) (hl : us.length = (["self", "numbers"] : List Str).length) : bindArgs (PySem.W.fnOf "arrive_some" "Disk.arrive_some" (C8.fnArgs s_Disk_arrive_some) (C8.fnBody s_Disk_arrive_some) (C8.fnScope s_Disk_arrive_some) .none kV doc pm an cdv ct) ⟨us, []⟩ = pure ((["self", "numbers"] : List Str).zip us) := match us, hl with | [_, _], _ => rfl
theorem hb_Disk_found_file (kV doc pm : Value) (an : Option Addr) (cdv ct : Value) (us : List Value) (hl : us.length = (["self"] : List Str).length) : bindArgs (PySem.W.fnOf "found_file" "Disk.found_file" (C8.fnArgs s_Disk_found_file) (C8.fnBody s_Disk_found_file) (C8.fnScope s_Disk_found_file) .none kV doc pm an cdv ct) ⟨us, []⟩ = pure ((["self"] : List Str).zip us) := match us, hl with | [_], _ => rfl
structure CX_Disk (K : PySem.W.Frag) (mg : Str → Option Value) (C : Addr) : Prop where
  cl : Cls K C
  n_files : NoAttr K C "files"
  n_writes : NoAttr K C "writes"
  made : MakX K mg "Disk" C "Disk.__init__" s_Disk___init__ ["self"]
  m_send : MetX K C "send" "Disk.send" s_Disk_send ["self", "file", "place", "coming"]
  m_put : MetX K C "put" "Disk.put" s_Disk_put ["self", "file", "row"]
  m_arrive : MetX K C "arrive" "Disk.arrive" s_Disk_arrive ["self", "write", "amount"]
  m_arrive_all : MetX K C "arrive_all" "Disk.arrive_all" s_Disk_arrive_all ["self"]
  m_arrive_some : MetX K C "arrive_some" "Disk.arrive_some" s_Disk_arrive_some ["self", "numbers"]
  m_found_file : MetX K C "found_file" "Disk.found_file" s_Disk_found_file ["self"]
theorem cx_Disk {K : PySem.W.Frag} {h : Heap} {mg : Str → Option Value} {C : Addr} {f0 : Addr} {od0 an0 : Option Addr} {sl0 : Array (Option Value)} {oc0 kV0 dc0 pm0 cd0 ct0 : Value} {f1 : Addr} {od1 an1 : Option Addr} {sl1 : Array (Option Value)} {oc1 kV1 dc1 pm1 cd1 ct1 : Value} {f2 : Addr} {od2 an2 : Option Addr} {sl2 : Array (Option Value)} {oc2 kV2 dc2 pm2 cd2 ct2 : Value} {f3 : Addr} {od3 an3 : Option Addr} {sl3 : Array (Option Value)} {oc3 kV3 dc3 pm3 cd3 ct3 : Value} {f4 : Addr} {od4 an4 : Option Addr} {sl4 : Array (Option Value)} {oc4 kV4 dc4 pm4 cd4 ct4 : Value} {f5 : Addr} {od5 an5 : Option Addr} {sl5 : Array (Option Value)} {oc5 kV5 dc5 pm5 cd5 ct5 : Value} {f6 : Addr} {od6 an6 : Option Addr} {sl6 : Array (Option Value)} {oc6 kV6 dc6 pm6 cd6 ct6 : Value} (X : K.In h) (G : h.Ns mainGlobals mg) (aC : PySem.W.nsIn K mainGlobals "Disk" = some (some (.ref C))) (pg : PySem.W.plainGet K C Str.empty = true) (hd : PySem.W.hasDictIn K C = true) (po : PySem.W.plainOver K C = true) (sa : PySem.W.findIn K (.ref C) "__setattr__" = some (some (.builtin "object.__setattr__"))) (mk : PySem.W.makesIn K C = true) (kc : PySem.W.keepIn K (.ref C) = true)
    (n_files : PySem.W.findIn K (.ref C) "files" = some none)
    (n_writes : PySem.W.findIn K (.ref C) "writes" = some none)
    (a0 : PySem.W.findIn K (.ref C) "__init__" = some (some (.ref f0))) (i0 : PySem.W.isFn K (.ref f0) = true) (l0 : K.lookup f0 = some ⟨oc0, od0, .func (PySem.W.fnOf "__init__" "Disk.__init__" (C8.fnArgs s_Disk___init__) (C8.fnBody s_Disk___init__) (C8.fnScope s_Disk___init__) .none kV0 dc0 pm0 an0 cd0 ct0), sl0⟩) (c0 : PySem.W.codeIn K cd0 "Disk.__init__" = true) (k0 : PySem.W.keepIn K (.ref f0) = true)
    (a1 : PySem.W.findIn K (.ref C) "send" = some (some (.ref f1))) (i1 : PySem.W.isFn K (.ref f1) = true) (l1 : K.lookup f1 = some ⟨oc1, od1, .func (PySem.W.fnOf "send" "Disk.send" (C8.fnArgs s_Disk_send) (C8.fnBody s_Disk_send) (C8.fnScope s_Disk_send) .none kV1 dc1 pm1 an1 cd1 ct1), sl1⟩) (c1 : PySem.W.codeIn K cd1 "Disk.send" = true) (k1 : PySem.W.keepIn K (.ref f1) = true)
    (a2 : PySem.W.findIn K (.ref C) "put" = some (some (.ref f2))) (i2 : PySem.W.isFn K (.ref f2) = true) (l2 : K.lookup f2 = some ⟨oc2, od2, .func (PySem.W.fnOf "put" "Disk.put" (C8.fnArgs s_Disk_put) (C8.fnBody s_Disk_put) (C8.fnScope s_Disk_put) .none kV2 dc2 pm2 an2 cd2 ct2), sl2⟩) (c2 : PySem.W.codeIn K cd2 "Disk.put" = true) (k2 : PySem.W.keepIn K (.ref f2) = true)
    (a3 : PySem.W.findIn K (.ref C) "arrive" = some (some (.ref f3))) (i3 : PySem.W.isFn K (.ref f3) = true) (l3 : K.lookup f3 = some ⟨oc3, od3, .func (PySem.W.fnOf "arrive" "Disk.arrive" (C8.fnArgs s_Disk_arrive) (C8.fnBody s_Disk_arrive) (C8.fnScope s_Disk_arrive) .none kV3 dc3 pm3 an3 cd3 ct3), sl3⟩) (c3 : PySem.W.codeIn K cd3 "Disk.arrive" = true) (k3 : PySem.W.keepIn K (.ref f3) = true)
    (a4 : PySem.W.findIn K (.ref C) "arrive_all" = some (some (.ref f4))) (i4 : PySem.W.isFn K (.ref f4) = true) (l4 : K.lookup f4 = some ⟨oc4, od4, .func (PySem.W.fnOf "arrive_all" "Disk.arrive_all" (C8.fnArgs s_Disk_arrive_all) (C8.fnBody s_Disk_arrive_all) (C8.fnScope s_Disk_arrive_all) .none kV4 dc4 pm4 an4 cd4 ct4), sl4⟩) (c4 : PySem.W.codeIn K cd4 "Disk.arrive_all" = true) (k4 : PySem.W.keepIn K (.ref f4) = true)
    (a5 : PySem.W.findIn K (.ref C) "arrive_some" = some (some (.ref f5))) (i5 : PySem.W.isFn K (.ref f5) = true) (l5 : K.lookup f5 = some ⟨oc5, od5, .func (PySem.W.fnOf "arrive_some" "Disk.arrive_some" (C8.fnArgs s_Disk_arrive_some) (C8.fnBody s_Disk_arrive_some) (C8.fnScope s_Disk_arrive_some) .none kV5 dc5 pm5 an5 cd5 ct5), sl5⟩) (c5 : PySem.W.codeIn K cd5 "Disk.arrive_some" = true) (k5 : PySem.W.keepIn K (.ref f5) = true)
    (a6 : PySem.W.findIn K (.ref C) "found_file" = some (some (.ref f6))) (i6 : PySem.W.isFn K (.ref f6) = true) (l6 : K.lookup f6 = some ⟨oc6, od6, .func (PySem.W.fnOf "found_file" "Disk.found_file" (C8.fnArgs s_Disk_found_file) (C8.fnBody s_Disk_found_file) (C8.fnScope s_Disk_found_file) .none kV6 dc6 pm6 an6 cd6 ct6), sl6⟩) (c6 : PySem.W.codeIn K cd6 "Disk.found_file" = true) (k6 : PySem.W.keepIn K (.ref f6) = true) : CX_Disk K mg C :=
  ⟨⟨pg, hd, po, sa⟩, n_files, n_writes, makx_mk X G aC mk kc a0 i0 l0 c0 hb_Disk___init__, metx_mk ⟨pg, hd, po, sa⟩ a1 i1 l1 c1 k1 hb_Disk_send, metx_mk ⟨pg, hd, po, sa⟩ a2 i2 l2 c2 k2 hb_Disk_put, metx_mk ⟨pg, hd, po, sa⟩ a3 i3 l3 c3 k3 hb_Disk_arrive, metx_mk ⟨pg, hd, po, sa⟩ a4 i4 l4 c4 k4 hb_Disk_arrive_all, metx_mk ⟨pg, hd, po, sa⟩ a5 i5 l5 c5 k5 hb_Disk_arrive_some, metx_mk ⟨pg, hd, po, sa⟩ a6 i6 l6 c6 k6 hb_Disk_found_file⟩
theorem hb_Editor___init__ (kV doc pm : Value) (an : Option Addr) (cdv ct : Value) (us : List Value) (hl : us.length = (["self"] : List Str).length) : bindArgs (PySem.W.fnOf "__init__" "Editor.__init__" (C8.fnArgs s_Editor___init__) (C8.fnBody s_Editor___init__) (C8.fnScope s_Editor___init__) .none kV doc pm an cdv ct) ⟨us, []⟩ = pure ((["self"] : List Str).zip us) := match us, hl with | [_], _ => rfl
theorem hb_Editor_begin_file (kV doc pm : Value) (an : Option Addr) (cdv ct : Value) (us : List Value) (hl : us.length = (["self", "file", "number", "text", "mark"] : List Str).length) : bindArgs (PySem.W.fnOf "begin_file" "Editor.begin_file" (C8.fnArgs s_Editor_begin_file) (C8.fnBody s_Editor_begin_file) (C8.fnScope s_Editor_begin_file) .none kV doc pm an cdv ct) ⟨us, []⟩ = pure ((["self", "file", "number", "text", "mark"] : List Str).zip us) := match us, hl with | [_, _, _, _, _], _ => rfl
theorem hb_Editor_other_file (kV doc pm : Value) (an : Option Addr) (cdv ct : Value) (us : List Value) (hl : us.length = (["self"] : List Str).length) : bindArgs (PySem.W.fnOf "other_file" "Editor.other_file" (C8.fnArgs s_Editor_other_file) (C8.fnBody s_Editor_other_file) (C8.fnScope s_Editor_other_file) .none kV doc pm an cdv ct) ⟨us, []⟩ = pure ((["self"] : List Str).zip us) := match us, hl with | [_], _ => rfl
theorem hb_Editor_append_record (kV doc pm : Value) (an : Option Addr) (cdv ct : Value) (us : List Value) (hl : us.length = (["self", "row"] : List Str).length) : bindArgs (PySem.W.fnOf "append_record" "Editor.append_record" (C8.fnArgs s_Editor_append_record) (C8.fnBody s_Editor_append_record) (C8.fnScope s_Editor_append_record) .none kV doc pm an cdv ct) ⟨us, []⟩ = pure ((["self", "row"] : List Str).zip us) := match us, hl with | [_, _], _ => rfl
theorem hb_Editor_flush_all (kV doc pm : Value) (an : Option Addr) (cdv ct : Value) (us : List Value) (hl : us.length = (["self"] : List Str).length) : bindArgs (PySem.W.fnOf "flush_all" "Editor.flush_all" (C8.fnArgs s_Editor_flush_all) (C8.fnBody s_Editor_flush_all) (C8.fnScope s_Editor_flush_all) .none kV doc pm an cdv ct) ⟨us, []⟩ = pure ((["self"] : List Str).zip us) := match us, hl with | [_], _ => rfl
theorem hb_Editor_make_mark (kV doc pm : Value) (an : Option Addr) (cdv ct : Value) (us : List Value) (hl : us.length = (["self"] : List Str).length) : bindArgs (PySem.W.fnOf "make_mark" "Editor.make_mark" (C8.fnArgs s_Editor_make_mark) (C8.fnBody s_Editor_make_mark) (C8.fnScope s_Editor_make_mark) .none kV doc pm an cdv ct) ⟨us, []⟩ = pure ((["self"] : List Str).zip us) := match us, hl with | [_], _ => rfl
theorem hb_Editor_forget_behind (kV doc pm : Value) (an : Option Addr) (cdv ct : Value) (us : List Value) (hl : us.length = (["self", "mark"] : List Str).length) : bindArgs (PySem.W.fnOf "forget_behind" "Editor.forget_behind" (C8.fnArgs s_Editor_forget_behind) (C8.fnBody s_Editor_forget_behind) (C8.fnScope s_Editor_forget_behind) .none kV doc pm an cdv ct) ⟨us, []⟩ = pure ((["self", "mark"] : List Str).zip us) := match us, hl with | [_, _], _ => rfl
theorem hb_Editor_has_room (kV doc pm : Value) (an : Option Addr) (cdv ct : Value) (us : List Value) (hl : us.length = (["self", "row"] : List Str).length) : bindArgs (PySem.W.fnOf "has_room" "Editor.has_room" (C8.fnArgs s_Editor_has_room) (C8.fnBody s_Editor_has_room) (C8.fnScope s_Editor_has_room) .none kV doc pm an cdv ct) ⟨us, []⟩ = pure ((["self", "row"] : List Str).zip us) := match us, hl with | [_, _], _ => rfl
theorem hb_Editor_refused_making (kV doc pm : Value) (an : Option Addr) (cdv ct : Value) (us : List Value) (hl : us.length = (["self"] : List Str).length) : bindArgs (PySem.W.fnOf "refused_making" "Editor.refused_making" (C8.fnArgs s_Editor_refused_making) (C8.fnBody s_Editor_refused_making) (C8.fnScope s_Editor_refused_making) .none kV doc pm an cdv ct) ⟨us, []⟩ = pure ((["self"] : List Str).zip us) := match us, hl with | [_], _ => rfl
theorem hb_Editor_change (kV doc pm : Value) (an : Option Addr) (cdv ct : Value) (us : List Value) (hl : us.length = (["self", "place", "gone", "coming"] : List Str).length) : bindArgs (PySem.W.fnOf "change" "Editor.change" (C8.fnArgs s_Editor_change) (C8.fnBody s_Editor_change) (C8.fnScope s_Editor_change) .none kV doc pm an cdv ct) ⟨us, []⟩ = pure ((["self", "place", "gone", "coming"] : List Str).zip us) := match us, hl with | [_, _, _, _], _ => rfl
theorem hb_Editor_mark (kV doc pm : Value) (an : Option Addr) (cdv ct : Value) (us : List Value) (hl : us.length = (["self"] : List Str).length) : bindArgs (PySem.W.fnOf "mark" "Editor.mark" (C8.fnArgs s_Editor_mark) (C8.fnBody s_Editor_mark) (C8.fnScope s_Editor_mark) .none kV doc pm an cdv ct) ⟨us, []⟩ = pure ((["self"] : List Str).zip us) := match us, hl with | [_], _ => rfl
theorem hb_Editor_flush (kV doc pm : Value) (an : Option Addr) (cdv ct : Value) (us : List Value) (hl : us.length = (["self"] : List Str).length) : bindArgs (PySem.W.fnOf "flush" "Editor.flush" (C8.fnArgs s_Editor_flush) (C8.fnBody s_Editor_flush) (C8.fnScope s_Editor_flush) .none kV doc pm an cdv ct) ⟨us, []⟩ = pure ((["self"] : List Str).zip us) := match us, hl with | [_], _ => rfl
theorem hb_Editor_make_copy (kV doc pm : Value) (an : Option Addr) (cdv ct : Value) (us : List Value) (hl : us.length = (["self"] : List Str).length) : bindArgs (PySem.W.fnOf "make_copy" "Editor.make_copy" (C8.fnArgs s_Editor_make_copy) (C8.fnBody s_Editor_make_copy) (C8.fnScope s_Editor_make_copy) .none kV doc pm an cdv ct) ⟨us, []⟩ = pure ((["self"] : List Str).zip us) := match us, hl with | [_], _ => rfl
theorem hb_Editor_turn (kV doc pm : Value) (an : Option Addr) (cdv ct : Value) (us : List Value) (hl : us.length = (["self"] : List Str).length) : bindArgs (PySem.W.fnOf "turn" "Editor.turn" (C8.fnArgs s_Editor_turn) (C8.fnBody s_Editor_turn) (C8.fnScope s_Editor_turn) .none kV doc pm an cdv ct) ⟨us, []⟩ = pure ((["self"] : List Str).zip us) := match us, hl with | [_], _ => rfl
theorem hb_Editor_power (kV doc pm : Value) (an : Option Addr) (cdv ct : Value) (us : List Value) (hl : us.length = (["self", "numbers"] : List Str).length) : bindArgs (PySem.W.fnOf "power" "Editor.power" (C8.fnArgs s_Editor_power) (C8.fnBody s_Editor_power) (C8.fnScope s_Editor_power) .none kV doc pm an cdv ct) ⟨us, []⟩ = pure ((["self", "numbers"] : List Str).zip us) := match us, hl with | [_, _], _ => rfl
theorem hb_Editor_start (kV doc pm : Value) (an : Option Addr) (cdv ct : Value) (us : List Value) (hl : us.length = (["self"] : List Str).length) : bindArgs (PySem.W.fnOf "start" "Editor.start" (C8.fnArgs s_Editor_start) (C8.fnBody s_Editor_start) (C8.fnScope s_Editor_start) .none kV doc pm an cdv ct) ⟨us, []⟩ = pure ((["self"] : List Str).zip us) := match us, hl with | [_], _ => rfl
theorem hb_Editor_shows (kV doc pm : Value) (an : Option Addr) (cdv ct : Value) (us : List Value) (hl : us.length = (["self"] : List Str).length) : bindArgs (PySem.W.fnOf "shows" "Editor.shows" (C8.fnArgs s_Editor_shows) (C8.fnBody s_Editor_shows) (C8.fnScope s_Editor_shows) .none kV doc pm an cdv ct) ⟨us, []⟩ = pure ((["self"] : List Str).zip us) := match us, hl with | [_], _ => rfl
theorem hb_Editor_on_disk (kV doc pm : Value) (an : Option Addr) (cdv ct : Value) (us : List Value) (hl : us.length = (["self", "file"] : List Str).length) : bindArgs (PySem.W.fnOf "on_disk" "Editor.on_disk" (C8.fnArgs s_Editor_on_disk) (C8.fnBody s_Editor_on_disk) (C8.fnScope s_Editor_on_disk) .none kV doc pm an cdv ct) ⟨us, []⟩ = pure ((["self", "file"] : List Str).zip us) := match us, hl with | [_, _], _ => rfl
theorem hb_Editor_spoil (kV doc pm : Value) (an : Option Addr) (cdv ct : Value) (us : List Value) (hl : us.length = (["self", "file", "place", "byte"] : List Str).length) : bindArgs (PySem.W.fnOf "spoil" "Editor.spoil" (C8.fnArgs s_Editor_spoil) (C8.fnBody s_Editor_spoil) (C8.fnScope s_Editor_spoil) .none kV doc pm an cdv ct) ⟨us, []⟩ = pure ((["self", "file", "place", "byte"] : List Str).zip us) := match us, hl with | [_, _, _, _], _ => rfl
theorem hb_Editor_state (kV doc pm : Value) (an : Option Addr) (cdv ct : Value) (us : List Value) (hl : us.length = (["self"] : List Str).length) : bindArgs (PySem.W.fnOf "state" "Editor.state" (C8.fnArgs s_Editor_state) (C8.fnBody s_Editor_state) (C8.fnScope s_Editor_state) .none kV doc pm an cdv ct) ⟨us, []⟩ = pure ((["self"] : List Str).zip us) := match us, hl with | [_], _ => rfl
theorem hb_Editor_was (kV doc pm : Value) (an : Option Addr) (cdv ct : Value) (us : List Value) (hl : us.length = (["self", "mark"] : List Str).length) : bindArgs (PySem.W.fnOf "was" "Editor.was" (C8.fnArgs s_Editor_was) (C8.fnBody s_Editor_was) (C8.fnScope s_Editor_was) .none kV doc pm an cdv ct) ⟨us, []⟩ = pure ((["self", "mark"] : List Str).zip us) := match us, hl with | [_, _], _ => rfl
structure CX_Editor (K : PySem.W.Frag) (mg : Str → Option Value) (C : Addr) : Prop where
  cl : Cls K C
  n_disk : NoAttr K C "disk"
  n_powered : NoAttr K C "powered"
  n_remembered : NoAttr K C "remembered"
  n_used : NoAttr K C "used"
  n_number : NoAttr K C "number"
  n_size : NoAttr K C "size"
  n_text : NoAttr K C "text"
  n_last : NoAttr K C "last"
  n_safe : NoAttr K C "safe"
  n_copying : NoAttr K C "copying"
  made : MakX K mg "Editor" C "Editor.__init__" s_Editor___init__ ["self"]
  m_begin_file : MetX K C "begin_file" "Editor.begin_file" s_Editor_begin_file ["self", "file", "number", "text", "mark"]
  m_other_file : MetX K C "other_file" "Editor.other_file" s_Editor_other_file ["self"]
  m_append_record : MetX K C "append_record" "Editor.append_record" s_Editor_append_record ["self", "row"]
  m_flush_all : MetX K C "flush_all" "Editor.flush_all" s_Editor_flush_all ["self"]
  m_make_mark : MetX K C "make_mark" "Editor.make_mark" s_Editor_make_mark ["self"]
  m_forget_behind : MetX K C "forget_behind" "Editor.forget_behind" s_Editor_forget_behind ["self", "mark"]
  m_has_room : MetX K C "has_room" "Editor.has_room" s_Editor_has_room ["self", "row"]
  m_refused_making : MetX K C "refused_making" "Editor.refused_making" s_Editor_refused_making ["self"]
  m_change : MetX K C "change" "Editor.change" s_Editor_change ["self", "place", "gone", "coming"]
  m_mark : MetX K C "mark" "Editor.mark" s_Editor_mark ["self"]
  m_flush : MetX K C "flush" "Editor.flush" s_Editor_flush ["self"]
  m_make_copy : MetX K C "make_copy" "Editor.make_copy" s_Editor_make_copy ["self"]
  m_turn : MetX K C "turn" "Editor.turn" s_Editor_turn ["self"]
  m_power : MetX K C "power" "Editor.power" s_Editor_power ["self", "numbers"]
  m_start : MetX K C "start" "Editor.start" s_Editor_start ["self"]
  m_shows : MetX K C "shows" "Editor.shows" s_Editor_shows ["self"]
  m_on_disk : MetX K C "on_disk" "Editor.on_disk" s_Editor_on_disk ["self", "file"]
  m_spoil : MetX K C "spoil" "Editor.spoil" s_Editor_spoil ["self", "file", "place", "byte"]
  m_state : MetX K C "state" "Editor.state" s_Editor_state ["self"]
  m_was : MetX K C "was" "Editor.was" s_Editor_was ["self", "mark"]
theorem cx_Editor {K : PySem.W.Frag} {h : Heap} {mg : Str → Option Value} {C : Addr} {f0 : Addr} {od0 an0 : Option Addr} {sl0 : Array (Option Value)} {oc0 kV0 dc0 pm0 cd0 ct0 : Value} {f1 : Addr} {od1 an1 : Option Addr} {sl1 : Array (Option Value)} {oc1 kV1 dc1 pm1 cd1 ct1 : Value} {f2 : Addr} {od2 an2 : Option Addr} {sl2 : Array (Option Value)} {oc2 kV2 dc2 pm2 cd2 ct2 : Value} {f3 : Addr} {od3 an3 : Option Addr} {sl3 : Array (Option Value)} {oc3 kV3 dc3 pm3 cd3 ct3 : Value} {f4 : Addr} {od4 an4 : Option Addr} {sl4 : Array (Option Value)} {oc4 kV4 dc4 pm4 cd4 ct4 : Value} {f5 : Addr} {od5 an5 : Option Addr} {sl5 : Array (Option Value)} {oc5 kV5 dc5 pm5 cd5 ct5 : Value} {f6 : Addr} {od6 an6 : Option Addr} {sl6 : Array (Option Value)} {oc6 kV6 dc6 pm6 cd6 ct6 : Value} {f7 : Addr} {od7 an7 : Option Addr} {sl7 : Array (Option Value)} {oc7 kV7 dc7 pm7 cd7 ct7 : Value} {f8 : Addr} {od8 an8 : Option Addr} {sl8 : Array (Option Value)} {oc8 kV8 dc8 pm8 cd8 ct8 : Value} {f9 : Addr} {od9 an9 : Option Addr} {sl9 : Array (Option Value)} {oc9 kV9 dc9 pm9 cd9 ct9 : Value} {f10 : Addr} {od10 an10 : Option Addr} {sl10 : Array (Option Value)} {oc10 kV10 dc10 pm10 cd10 ct10 : Value} {f11 : Addr} {od11 an11 : Option Addr} {sl11 : Array (Option Value)} {oc11 kV11 dc11 pm11 cd11 ct11 : Value} {f12 : Addr} {od12 an12 : Option Addr} {sl12 : Array (Option Value)} {oc12 kV12 dc12 pm12 cd12 ct12 : Value} {f13 : Addr} {od13 an13 : Option Addr} {sl13 : Array (Option Value)} {oc13 kV13 dc13 pm13 cd13 ct13 : Value} {f14 : Addr} {od14 an14 : Option Addr} {sl14 : Array (Option Value)} {oc14 kV14 dc14 pm14 cd14 ct14 : Value} {f15 : Addr} {od15 an15 : Option Addr} {sl15 : Array (Option Value)} {oc15 kV15 dc15 pm15 cd15 ct15 : Value} {f16 : Addr} {od16 an16 : Option Addr} {sl16 : Array (Option Value)} {oc16 kV16 dc16 pm16 cd16 ct16 : Value} {f17 : Addr} {od17 an17 : Option Addr} {sl17 : Array (Option Value)} {oc17 kV17 dc17 pm17 cd17 ct17 : Value} {f18 : Addr} {od18 an18 : Option Addr} {sl18 : Array (Option Value)} {oc18 kV18 dc18 pm18 cd18 ct18 : Value} {f19 : Addr} {od19 an19 : Option Addr} {sl19 : Array (Option Value)} {oc19 kV19 dc19 pm19 cd19 ct19 : Value} {f20 : Addr} {od20 an20 : Option Addr} {sl20 : Array (Option Value)} {oc20 kV20 dc20 pm20 cd20 ct20 : Value} (X : K.In h) (G : h.Ns mainGlobals mg) (aC : PySem.W.nsIn K mainGlobals "Editor" = some (some (.ref C))) (pg : PySem.W.plainGet K C Str.empty = true) (hd : PySem.W.hasDictIn K C = true) (po : PySem.W.plainOver K C = true) (sa : PySem.W.findIn K (.ref C) "__setattr__" = some (some (.builtin "object.__setattr__"))) (mk : PySem.W.makesIn K C = true) (kc : PySem.W.keepIn K (.ref C) = true)
    (n_disk : PySem.W.findIn K (.ref C) "disk" = some none)
    (n_powered : PySem.W.findIn K (.ref C) "powered" = some none)
    (n_remembered : PySem.W.findIn K (.ref C) "remembered" = some none)
    (n_used : PySem.W.findIn K (.ref C) "used" = some none)
    (n_number : PySem.W.findIn K (.ref C) "number" = some none)
    (n_size : PySem.W.findIn K (.ref C) "size" = some none)
    (n_text : PySem.W.findIn K (.ref C) "text" = some none)
    (n_last : PySem.W.findIn K (.ref C) "last" = some none)
    (n_safe : PySem.W.findIn K (.ref C) "safe" = some none)
    (n_copying : PySem.W.findIn K (.ref C) "copying" = some none)
    (a0 : PySem.W.findIn K (.ref C) "__init__" = some (some (.ref f0))) (i0 : PySem.W.isFn K (.ref f0) = true) (l0 : K.lookup f0 = some ⟨oc0, od0, .func (PySem.W.fnOf "__init__" "Editor.__init__" (C8.fnArgs s_Editor___init__) (C8.fnBody s_Editor___init__) (C8.fnScope s_Editor___init__) .none kV0 dc0 pm0 an0 cd0 ct0), sl0⟩) (c0 : PySem.W.codeIn K cd0 "Editor.__init__" = true) (k0 : PySem.W.keepIn K (.ref f0) = true)
    (a1 : PySem.W.findIn K (.ref C) "begin_file" = some (some (.ref f1))) (i1 : PySem.W.isFn K (.ref f1) = true) (l1 : K.lookup f1 = some ⟨oc1, od1, .func (PySem.W.fnOf "begin_file" "Editor.begin_file" (C8.fnArgs s_Editor_begin_file) (C8.fnBody s_Editor_begin_file) (C8.fnScope s_Editor_begin_file) .none kV1 dc1 pm1 an1 cd1 ct1), sl1⟩) (c1 : PySem.W.codeIn K cd1 "Editor.begin_file" = true) (k1 : PySem.W.keepIn K (.ref f1) = true)
    (a2 : PySem.W.findIn K (.ref C) "other_file" = some (some (.ref f2))) (i2 : PySem.W.isFn K (.ref f2) = true) (l2 : K.lookup f2 = some ⟨oc2, od2, .func (PySem.W.fnOf "other_file" "Editor.other_file" (C8.fnArgs s_Editor_other_file) (C8.fnBody s_Editor_other_file) (C8.fnScope s_Editor_other_file) .none kV2 dc2 pm2 an2 cd2 ct2), sl2⟩) (c2 : PySem.W.codeIn K cd2 "Editor.other_file" = true) (k2 : PySem.W.keepIn K (.ref f2) = true)
    (a3 : PySem.W.findIn K (.ref C) "append_record" = some (some (.ref f3))) (i3 : PySem.W.isFn K (.ref f3) = true) (l3 : K.lookup f3 = some ⟨oc3, od3, .func (PySem.W.fnOf "append_record" "Editor.append_record" (C8.fnArgs s_Editor_append_record) (C8.fnBody s_Editor_append_record) (C8.fnScope s_Editor_append_record) .none kV3 dc3 pm3 an3 cd3 ct3), sl3⟩) (c3 : PySem.W.codeIn K cd3 "Editor.append_record" = true) (k3 : PySem.W.keepIn K (.ref f3) = true)
    (a4 : PySem.W.findIn K (.ref C) "flush_all" = some (some (.ref f4))) (i4 : PySem.W.isFn K (.ref f4) = true) (l4 : K.lookup f4 = some ⟨oc4, od4, .func (PySem.W.fnOf "flush_all" "Editor.flush_all" (C8.fnArgs s_Editor_flush_all) (C8.fnBody s_Editor_flush_all) (C8.fnScope s_Editor_flush_all) .none kV4 dc4 pm4 an4 cd4 ct4), sl4⟩) (c4 : PySem.W.codeIn K cd4 "Editor.flush_all" = true) (k4 : PySem.W.keepIn K (.ref f4) = true)
    (a5 : PySem.W.findIn K (.ref C) "make_mark" = some (some (.ref f5))) (i5 : PySem.W.isFn K (.ref f5) = true) (l5 : K.lookup f5 = some ⟨oc5, od5, .func (PySem.W.fnOf "make_mark" "Editor.make_mark" (C8.fnArgs s_Editor_make_mark) (C8.fnBody s_Editor_make_mark) (C8.fnScope s_Editor_make_mark) .none kV5 dc5 pm5 an5 cd5 ct5), sl5⟩) (c5 : PySem.W.codeIn K cd5 "Editor.make_mark" = true) (k5 : PySem.W.keepIn K (.ref f5) = true)
    (a6 : PySem.W.findIn K (.ref C) "forget_behind" = some (some (.ref f6))) (i6 : PySem.W.isFn K (.ref f6) = true) (l6 : K.lookup f6 = some ⟨oc6, od6, .func (PySem.W.fnOf "forget_behind" "Editor.forget_behind" (C8.fnArgs s_Editor_forget_behind) (C8.fnBody s_Editor_forget_behind) (C8.fnScope s_Editor_forget_behind) .none kV6 dc6 pm6 an6 cd6 ct6), sl6⟩) (c6 : PySem.W.codeIn K cd6 "Editor.forget_behind" = true) (k6 : PySem.W.keepIn K (.ref f6) = true)
    (a7 : PySem.W.findIn K (.ref C) "has_room" = some (some (.ref f7))) (i7 : PySem.W.isFn K (.ref f7) = true) (l7 : K.lookup f7 = some ⟨oc7, od7, .func (PySem.W.fnOf "has_room" "Editor.has_room" (C8.fnArgs s_Editor_has_room) (C8.fnBody s_Editor_has_room) (C8.fnScope s_Editor_has_room) .none kV7 dc7 pm7 an7 cd7 ct7), sl7⟩) (c7 : PySem.W.codeIn K cd7 "Editor.has_room" = true) (k7 : PySem.W.keepIn K (.ref f7) = true)
    (a8 : PySem.W.findIn K (.ref C) "refused_making" = some (some (.ref f8))) (i8 : PySem.W.isFn K (.ref f8) = true) (l8 : K.lookup f8 = some ⟨oc8, od8, .func (PySem.W.fnOf "refused_making" "Editor.refused_making" (C8.fnArgs s_Editor_refused_making) (C8.fnBody s_Editor_refused_making) (C8.fnScope s_Editor_refused_making) .none kV8 dc8 pm8 an8 cd8 ct8), sl8⟩) (c8 : PySem.W.codeIn K cd8 "Editor.refused_making" = true) (k8 : PySem.W.keepIn K (.ref f8) = true)
    (a9 : PySem.W.findIn K (.ref C) "change" = some (some (.ref f9))) (i9 : PySem.W.isFn K (.ref f9) = true) (l9 : K.lookup f9 = some ⟨oc9, od9, .func (PySem.W.fnOf "change" "Editor.change" (C8.fnArgs s_Editor_change) (C8.fnBody s_Editor_change) (C8.fnScope s_Editor_change) .none kV9 dc9 pm9 an9 cd9 ct9), sl9⟩) (c9 : PySem.W.codeIn K cd9 "Editor.change" = true) (k9 : PySem.W.keepIn K (.ref f9) = true)
    (a10 : PySem.W.findIn K (.ref C) "mark" = some (some (.ref f10))) (i10 : PySem.W.isFn K (.ref f10) = true) (l10 : K.lookup f10 = some ⟨oc10, od10, .func (PySem.W.fnOf "mark" "Editor.mark" (C8.fnArgs s_Editor_mark) (C8.fnBody s_Editor_mark) (C8.fnScope s_Editor_mark) .none kV10 dc10 pm10 an10 cd10 ct10), sl10⟩) (c10 : PySem.W.codeIn K cd10 "Editor.mark" = true) (k10 : PySem.W.keepIn K (.ref f10) = true)
    (a11 : PySem.W.findIn K (.ref C) "flush" = some (some (.ref f11))) (i11 : PySem.W.isFn K (.ref f11) = true) (l11 : K.lookup f11 = some ⟨oc11, od11, .func (PySem.W.fnOf "flush" "Editor.flush" (C8.fnArgs s_Editor_flush) (C8.fnBody s_Editor_flush) (C8.fnScope s_Editor_flush) .none kV11 dc11 pm11 an11 cd11 ct11), sl11⟩) (c11 : PySem.W.codeIn K cd11 "Editor.flush" = true) (k11 : PySem.W.keepIn K (.ref f11) = true)
    (a12 : PySem.W.findIn K (.ref C) "make_copy" = some (some (.ref f12))) (i12 : PySem.W.isFn K (.ref f12) = true) (l12 : K.lookup f12 = some ⟨oc12, od12, .func (PySem.W.fnOf "make_copy" "Editor.make_copy" (C8.fnArgs s_Editor_make_copy) (C8.fnBody s_Editor_make_copy) (C8.fnScope s_Editor_make_copy) .none kV12 dc12 pm12 an12 cd12 ct12), sl12⟩) (c12 : PySem.W.codeIn K cd12 "Editor.make_copy" = true) (k12 : PySem.W.keepIn K (.ref f12) = true)
    (a13 : PySem.W.findIn K (.ref C) "turn" = some (some (.ref f13))) (i13 : PySem.W.isFn K (.ref f13) = true) (l13 : K.lookup f13 = some ⟨oc13, od13, .func (PySem.W.fnOf "turn" "Editor.turn" (C8.fnArgs s_Editor_turn) (C8.fnBody s_Editor_turn) (C8.fnScope s_Editor_turn) .none kV13 dc13 pm13 an13 cd13 ct13), sl13⟩) (c13 : PySem.W.codeIn K cd13 "Editor.turn" = true) (k13 : PySem.W.keepIn K (.ref f13) = true)
    (a14 : PySem.W.findIn K (.ref C) "power" = some (some (.ref f14))) (i14 : PySem.W.isFn K (.ref f14) = true) (l14 : K.lookup f14 = some ⟨oc14, od14, .func (PySem.W.fnOf "power" "Editor.power" (C8.fnArgs s_Editor_power) (C8.fnBody s_Editor_power) (C8.fnScope s_Editor_power) .none kV14 dc14 pm14 an14 cd14 ct14), sl14⟩) (c14 : PySem.W.codeIn K cd14 "Editor.power" = true) (k14 : PySem.W.keepIn K (.ref f14) = true)
    (a15 : PySem.W.findIn K (.ref C) "start" = some (some (.ref f15))) (i15 : PySem.W.isFn K (.ref f15) = true) (l15 : K.lookup f15 = some ⟨oc15, od15, .func (PySem.W.fnOf "start" "Editor.start" (C8.fnArgs s_Editor_start) (C8.fnBody s_Editor_start) (C8.fnScope s_Editor_start) .none kV15 dc15 pm15 an15 cd15 ct15), sl15⟩) (c15 : PySem.W.codeIn K cd15 "Editor.start" = true) (k15 : PySem.W.keepIn K (.ref f15) = true)
    (a16 : PySem.W.findIn K (.ref C) "shows" = some (some (.ref f16))) (i16 : PySem.W.isFn K (.ref f16) = true) (l16 : K.lookup f16 = some ⟨oc16, od16, .func (PySem.W.fnOf "shows" "Editor.shows" (C8.fnArgs s_Editor_shows) (C8.fnBody s_Editor_shows) (C8.fnScope s_Editor_shows) .none kV16 dc16 pm16 an16 cd16 ct16), sl16⟩) (c16 : PySem.W.codeIn K cd16 "Editor.shows" = true) (k16 : PySem.W.keepIn K (.ref f16) = true)
    (a17 : PySem.W.findIn K (.ref C) "on_disk" = some (some (.ref f17))) (i17 : PySem.W.isFn K (.ref f17) = true) (l17 : K.lookup f17 = some ⟨oc17, od17, .func (PySem.W.fnOf "on_disk" "Editor.on_disk" (C8.fnArgs s_Editor_on_disk) (C8.fnBody s_Editor_on_disk) (C8.fnScope s_Editor_on_disk) .none kV17 dc17 pm17 an17 cd17 ct17), sl17⟩) (c17 : PySem.W.codeIn K cd17 "Editor.on_disk" = true) (k17 : PySem.W.keepIn K (.ref f17) = true)
    (a18 : PySem.W.findIn K (.ref C) "spoil" = some (some (.ref f18))) (i18 : PySem.W.isFn K (.ref f18) = true) (l18 : K.lookup f18 = some ⟨oc18, od18, .func (PySem.W.fnOf "spoil" "Editor.spoil" (C8.fnArgs s_Editor_spoil) (C8.fnBody s_Editor_spoil) (C8.fnScope s_Editor_spoil) .none kV18 dc18 pm18 an18 cd18 ct18), sl18⟩) (c18 : PySem.W.codeIn K cd18 "Editor.spoil" = true) (k18 : PySem.W.keepIn K (.ref f18) = true)
    (a19 : PySem.W.findIn K (.ref C) "state" = some (some (.ref f19))) (i19 : PySem.W.isFn K (.ref f19) = true) (l19 : K.lookup f19 = some ⟨oc19, od19, .func (PySem.W.fnOf "state" "Editor.state" (C8.fnArgs s_Editor_state) (C8.fnBody s_Editor_state) (C8.fnScope s_Editor_state) .none kV19 dc19 pm19 an19 cd19 ct19), sl19⟩) (c19 : PySem.W.codeIn K cd19 "Editor.state" = true) (k19 : PySem.W.keepIn K (.ref f19) = true)
    (a20 : PySem.W.findIn K (.ref C) "was" = some (some (.ref f20))) (i20 : PySem.W.isFn K (.ref f20) = true) (l20 : K.lookup f20 = some ⟨oc20, od20, .func (PySem.W.fnOf "was" "Editor.was" (C8.fnArgs s_Editor_was) (C8.fnBody s_Editor_was) (C8.fnScope s_Editor_was) .none kV20 dc20 pm20 an20 cd20 ct20), sl20⟩) (c20 : PySem.W.codeIn K cd20 "Editor.was" = true) (k20 : PySem.W.keepIn K (.ref f20) = true) : CX_Editor K mg C :=
  ⟨⟨pg, hd, po, sa⟩, n_disk, n_powered, n_remembered, n_used, n_number, n_size, n_text, n_last, n_safe, n_copying, makx_mk X G aC mk kc a0 i0 l0 c0 hb_Editor___init__, metx_mk ⟨pg, hd, po, sa⟩ a1 i1 l1 c1 k1 hb_Editor_begin_file, metx_mk ⟨pg, hd, po, sa⟩ a2 i2 l2 c2 k2 hb_Editor_other_file, metx_mk ⟨pg, hd, po, sa⟩ a3 i3 l3 c3 k3 hb_Editor_append_record, metx_mk ⟨pg, hd, po, sa⟩ a4 i4 l4 c4 k4 hb_Editor_flush_all, metx_mk ⟨pg, hd, po, sa⟩ a5 i5 l5 c5 k5 hb_Editor_make_mark, metx_mk ⟨pg, hd, po, sa⟩ a6 i6 l6 c6 k6 hb_Editor_forget_behind, metx_mk ⟨pg, hd, po, sa⟩ a7 i7 l7 c7 k7 hb_Editor_has_room, metx_mk ⟨pg, hd, po, sa⟩ a8 i8 l8 c8 k8 hb_Editor_refused_making, metx_mk ⟨pg, hd, po, sa⟩ a9 i9 l9 c9 k9 hb_Editor_change, metx_mk ⟨pg, hd, po, sa⟩ a10 i10 l10 c10 k10 hb_Editor_mark, metx_mk ⟨pg, hd, po, sa⟩ a11 i11 l11 c11 k11 hb_Editor_flush, metx_mk ⟨pg, hd, po, sa⟩ a12 i12 l12 c12 k12 hb_Editor_make_copy, metx_mk ⟨pg, hd, po, sa⟩ a13 i13 l13 c13 k13 hb_Editor_turn, metx_mk ⟨pg, hd, po, sa⟩ a14 i14 l14 c14 k14 hb_Editor_power, metx_mk ⟨pg, hd, po, sa⟩ a15 i15 l15 c15 k15 hb_Editor_start, metx_mk ⟨pg, hd, po, sa⟩ a16 i16 l16 c16 k16 hb_Editor_shows, metx_mk ⟨pg, hd, po, sa⟩ a17 i17 l17 c17 k17 hb_Editor_on_disk, metx_mk ⟨pg, hd, po, sa⟩ a18 i18 l18 c18 k18 hb_Editor_spoil, metx_mk ⟨pg, hd, po, sa⟩ a19 i19 l19 c19 k19 hb_Editor_state, metx_mk ⟨pg, hd, po, sa⟩ a20 i20 l20 c20 k20 hb_Editor_was⟩
end Pk

set_option Elab.async false
set_option linter.all false
set_option maxRecDepth 100000
set_option maxHeartbeats 2000000
namespace Pk
open PySem PySem.Spec PyProof.Rows L2 Evl
theorem all_ok {P : Program} {w : World} {K : PySem.W.Frag} {mg : Str → Option Value} {base : Heap} {CB CW CD CE f0 : Addr} {fd0 : FuncData} (G : Glob mg)
    (d_low_and_high : DefX K mg "low_and_high" s_low_and_high ["number"])
    (d_record : DefX K mg "record" s_record ["body"])
    (d_change_record : DefX K mg "change_record" s_change_record ["place", "gone", "coming"])
    (d_mark_record : DefX K mg "mark_record" s_mark_record ["number"])
    (d_whole_record : DefX K mg "whole_record" s_whole_record ["text"])
    (d_is_known : DefX K mg "is_known" s_is_known ["body"])
    (d_body_at : DefX K mg "body_at" s_body_at ["row", "place"])
    (d_read_bodies : DefX K mg "read_bodies" s_read_bodies ["row"])
    (d_goes_beyond : DefX K mg "goes_beyond" s_goes_beyond ["text", "place", "gone"])
    (d_changed : DefX K mg "changed" s_changed ["text", "place", "gone", "coming"])
    (d_text_behind : DefX K mg "text_behind" s_text_behind ["text", "body"])
    (d_bring_about : DefX K mg "bring_about" s_bring_about ["bodies"])
    (d_head : DefX K mg "head" s_head ["number"])
    (d_next_number : DefX K mg "next_number" s_next_number ["number"])
    (d_first_records : DefX K mg "first_records" s_first_records ["text", "mark"])
    (d_file_number : DefX K mg "file_number" s_file_number ["row"])
    (d_file_bodies : DefX K mg "file_bodies" s_file_bodies ["row"])
    (d_counts : DefX K mg "counts" s_counts ["row"])
    (d_with_bytes : DefX K mg "with_bytes" s_with_bytes ["row", "place", "coming"])
    (d_above_bytes : DefX K mg "above_bytes" s_above_bytes ["numbers"])
    (d_with_count : DefX K mg "with_count" s_with_count ["row"])
    (d_read_answer : DefX K mg "read_answer" s_read_answer ["row"])
    (d_call_end : DefX K mg "call_end" s_call_end ["calls", "place"])
    (d_answer : DefX K mg "answer" s_answer ["editor", "call"])
    (xB : CX_Brought K mg CB) (xW : CX_Write K mg CW) (xD : CX_Disk K mg CD) (xE : CX_Editor K mg CE) (d_answers : C8.Def K mg "answers" s_answers f0 fd0) : FnOk P w K mg base C8.CX0 9 f0 fd0 ["calls"] (spAns K) := by
  have TBr : TB K CB := ⟨xB.cl, xB.n_text, xB.n_kept, xB.n_kept_mark⟩
  have TWr : TW K CW := ⟨xW.cl, xW.n_file, xW.n_place, xW.n_coming⟩
  have TDk : TD K CD := ⟨xD.cl, xD.n_files, xD.n_writes⟩
  have T : TEd K CE := ⟨xE.cl, xE.n_disk, xE.n_powered, xE.n_remembered, xE.n_used, xE.n_number, xE.n_size, xE.n_text, xE.n_last, xE.n_safe, xE.n_copying⟩
  have c_low := ok_low (P := P) (w := w) (base := base) d_low_and_high
  have c_record := ok_record (P := P) (w := w) (base := base) G d_record
  have c_change_record := ok_change_record G c_record d_change_record
  have c_mark_record := ok_mark_record G c_record c_low d_mark_record
  have c_whole_record := ok_whole_record G c_record d_whole_record
  have c_is_known := ok_is_known (P := P) (w := w) (base := base) G d_is_known
  have c_body_at := ok_body_at G c_is_known d_body_at
  have c_goes_beyond := ok_goes_beyond (P := P) (w := w) (base := base) G d_goes_beyond
  have c_changed := ok_changed (P := P) (w := w) (base := base) G d_changed
  have c_read_bodies := ok_read_bodies G c_body_at d_read_bodies
  have c_text_behind := ok_text_behind G c_goes_beyond c_changed d_text_behind
  have m_Brought := ok_brought (P := P) (w := w) (base := base) TBr xB.made
  have c_bring_about := ok_bring_about G TBr m_Brought c_text_behind d_bring_about
  have c_head := ok_head c_low d_head
  have c_next_number := ok_next_number (P := P) (w := w) (base := base) d_next_number
  have c_first_records := ok_first_records c_whole_record c_mark_record d_first_records
  have c_file_number := ok_file_number (P := P) (w := w) (base := base) d_file_number
  have c_file_bodies := ok_file_bodies G c_read_bodies d_file_bodies
  have c_counts := ok_counts G c_file_bodies d_counts
  have c_with_bytes := ok_with_bytes (P := P) (w := w) (base := base) G d_with_bytes
  have c_above := ok_above (P := P) (w := w) (base := base) G d_above_bytes
  have c_with_count := ok_with_count (P := P) (w := w) (base := base) G d_with_count
  have c_read := ok_read G TBr c_above c_read_bodies c_bring_about c_with_count d_read_answer
  have c_call_end := ok_call_end (P := P) (w := w) (base := base) G d_call_end
  have m_Write := ok_Write (P := P) (w := w) (base := base) TWr xW.made
  have m_Disk := ok_Disk (P := P) (w := w) (base := base) (CW := CW) TDk xD.made
  have k_send := fun X => ok_send (X := X) TDk m_Write xD.m_send
  have k_put := fun X => ok_put (P := P) (w := w) (mg := mg) (base := base) (X := X) (CW := CW) TDk xD.m_put
  have k_arrive := fun X => ok_arrive (X := X) TDk TWr c_with_bytes xD.m_arrive
  have k_arrive_all := fun X => ok_arrive_all G TDk TWr (k_arrive X) xD.m_arrive_all
  have k_arrive_some := fun X => ok_arrive_some G TDk (k_arrive X) xD.m_arrive_some
  have k_found_file := fun X => ok_found_file (X := X) (CW := CW) G TDk c_counts c_file_number xD.m_found_file
  have k_other_file := fun X => ok_other_file (P := P) (w := w) (mg := mg) (base := base) (X := X) (CD := CD) (CW := CW) T xE.m_other_file
  have k_has_room := fun X => ok_has_room (P := P) (w := w) (base := base) (X := X) (CD := CD) (CW := CW) G T xE.m_has_room
  have k_refused := fun X => ok_refused (P := P) (w := w) (base := base) (X := X) (CD := CD) (CW := CW) G T xE.m_refused_making
  have k_append := fun X => ok_append G T (k_send X) xE.m_append_record
  have k_make_mark := fun X => ok_make_mark (P := P) (w := w) (base := base) (X := X) (CD := CD) (CW := CW) G T xE.m_make_mark
  have k_flush_all := fun X => ok_flush_all T (k_arrive_all X) xE.m_flush_all
  have k_begin_file := fun X => ok_begin_file G T c_head c_first_records (k_put X) xE.m_begin_file
  have k_forget := fun X => ok_forget (P := P) (w := w) (base := base) (X := X) (CD := CD) (CW := CW) G T xE.m_forget_behind
  have m_Editor := ok_Editor G T m_Disk (k_begin_file []) xE.made
  have c_answer := ok_answer (CE := CE) (CD := CD) (CW := CW) G
    (fun X => ok_change G T (k_refused X) c_goes_beyond c_changed c_above c_change_record (k_has_room X) (k_append X) xE.m_change)
    (fun X => ok_mark G T (k_refused X) c_mark_record (k_has_room X) (k_append X) (k_make_mark X) xE.m_mark)
    (fun X => ok_flush G T TDk (k_flush_all X) xE.m_flush)
    (fun X => ok_copy G T (k_refused X) (k_flush_all X) c_first_records (k_put X) (k_send X) (k_other_file X) xE.m_make_copy)
    (fun X => ok_turn G T (k_arrive_all X) c_first_records c_next_number c_head (k_send X) (k_other_file X) (k_make_mark X) xE.m_turn)
    (fun X => ok_power G T TDk (k_arrive_some X) xE.m_power)
    (fun X => ok_start G T TDk TBr (k_found_file X) c_bring_about c_file_bodies c_next_number c_file_number (k_begin_file X) (k_forget X) xE.m_start)
    (fun X => ok_shows G T c_with_count xE.m_shows)
    (fun X => ok_on_disk G T TDk c_with_count xE.m_on_disk)
    (fun X => ok_spoil G T TDk c_above c_with_bytes (k_put X) xE.m_spoil)
    c_read
    (fun X => ok_state G T TDk xE.m_state)
    (fun X => ok_was G T c_with_count xE.m_was)
    d_answer
  exact ok_answers G m_Editor c_call_end c_answer d_answers
/-- where answers stands, and how it takes its argument -/
theorem defy_mk {K : PySem.W.Frag} {h : Heap} {mg : Str → Option Value} {x : Str} {st : Stmt} {ps : List Str} {f : Addr} {od an : Option Addr} {sl : Array (Option Value)} {oc kV dc pm cd ct : Value} (X : K.In h) (G : h.Ns mainGlobals mg) (a : PySem.W.nsIn K mainGlobals x = some (some (.ref f)))
    (l : K.lookup f = some ⟨oc, od, .func (PySem.W.fnOf x x (C8.fnArgs st) (C8.fnBody st) (C8.fnScope st) .none kV dc pm an cd ct), sl⟩) (c : PySem.W.codeIn K cd x = true) (k : PySem.W.keepIn K (.ref f) = true)
    (hb : ∀ (kV doc pm : Value) (an : Option Addr) (cdv ct : Value) (us : List Value), us.length = ps.length → bindArgs (PySem.W.fnOf x x (C8.fnArgs st) (C8.fnBody st) (C8.fnScope st) .none kV doc pm an cdv ct) ⟨us, []⟩ = pure (ps.zip us)) : ∃ (f : Addr) (fd : FuncData), C8.Def K mg x st f fd ∧ ∀ us : List Value, us.length = ps.length → bindArgs fd ⟨us, []⟩ = pure (ps.zip us) :=
  ⟨f, _, ⟨⟨oc, od, .none, kV, dc, pm, an, cd, ct, sl, rfl, l, c⟩, PySem.W.mg_of X G a, k⟩, fun us hl => hb kV dc pm an cd ct us hl⟩
end Pk

set_option Elab.async false
set_option linter.all false
open PySem PySem.W PyProof.Rows
set_option maxRecDepth 100000 in
set_option maxHeartbeats 0 in
theorem PySem.Challenge.cw_powerkept_s01_answers_holds : PySem.Challenge.rw_powerkept_s01_answers.Holds := by
  w_on; k_headS; (case hw => exact ⟨[.list [.int 1]], by decide +kernel, by decide +kernel⟩)
  k_fillS
  refine L2.walk_specK (r := PySem.Challenge.rw_powerkept_s01_answers) (k := 9) (CX := C8.CX0) (ps := ["calls"]) (sp := Pk.spAns) (by decide +kernel) rfl rfl ⟨rfl, by decide, by decide⟩ (fun w h Y => PySem.W.kIn_of Y) ?F ?S (fun _ _ _ _ z => z)
  case F =>
    intro w mg fa h Y KX G hmg
    have d_low_and_high : Pk.DefX (PySem.Challenge.cw_powerkept_s01_answers_holds.heap_1 w.params) mg "low_and_high" Pk.s_low_and_high ["number"] := by
      refine' Pk.defx_mk KX G ?a ?l ?c ?k (Pk.hb_low_and_high)
      (case a => k_is); (case l => k_is); (case c => k_is); (case k => k_is)
    have d_record : Pk.DefX (PySem.Challenge.cw_powerkept_s01_answers_holds.heap_1 w.params) mg "record" Pk.s_record ["body"] := by
      refine' Pk.defx_mk KX G ?a ?l ?c ?k (Pk.hb_record)
      (case a => k_is); (case l => k_is); (case c => k_is); (case k => k_is)
    have d_change_record : Pk.DefX (PySem.Challenge.cw_powerkept_s01_answers_holds.heap_1 w.params) mg "change_record" Pk.s_change_record ["place", "gone", "coming"] := by
      refine' Pk.defx_mk KX G ?a ?l ?c ?k (Pk.hb_change_record)
      (case a => k_is); (case l => k_is); (case c => k_is); (case k => k_is)
    have d_mark_record : Pk.DefX (PySem.Challenge.cw_powerkept_s01_answers_holds.heap_1 w.params) mg "mark_record" Pk.s_mark_record ["number"] := by
      refine' Pk.defx_mk KX G ?a ?l ?c ?k (Pk.hb_mark_record)
      (case a => k_is); (case l => k_is); (case c => k_is); (case k => k_is)
    have d_whole_record : Pk.DefX (PySem.Challenge.cw_powerkept_s01_answers_holds.heap_1 w.params) mg "whole_record" Pk.s_whole_record ["text"] := by
      refine' Pk.defx_mk KX G ?a ?l ?c ?k (Pk.hb_whole_record)
      (case a => k_is); (case l => k_is); (case c => k_is); (case k => k_is)
    have d_is_known : Pk.DefX (PySem.Challenge.cw_powerkept_s01_answers_holds.heap_1 w.params) mg "is_known" Pk.s_is_known ["body"] := by
      refine' Pk.defx_mk KX G ?a ?l ?c ?k (Pk.hb_is_known)
      (case a => k_is); (case l => k_is); (case c => k_is); (case k => k_is)
    have d_body_at : Pk.DefX (PySem.Challenge.cw_powerkept_s01_answers_holds.heap_1 w.params) mg "body_at" Pk.s_body_at ["row", "place"] := by
      refine' Pk.defx_mk KX G ?a ?l ?c ?k (Pk.hb_body_at)
      (case a => k_is); (case l => k_is); (case c => k_is); (case k => k_is)
    have d_read_bodies : Pk.DefX (PySem.Challenge.cw_powerkept_s01_answers_holds.heap_1 w.params) mg "read_bodies" Pk.s_read_bodies ["row"] := by
      refine' Pk.defx_mk KX G ?a ?l ?c ?k (Pk.hb_read_bodies)
      (case a => k_is); (case l => k_is); (case c => k_is); (case k => k_is)
    have d_goes_beyond : Pk.DefX (PySem.Challenge.cw_powerkept_s01_answers_holds.heap_1 w.params) mg "goes_beyond" Pk.s_goes_beyond ["text", "place", "gone"] := by
      refine' Pk.defx_mk KX G ?a ?l ?c ?k (Pk.hb_goes_beyond)
      (case a => k_is); (case l => k_is); (case c => k_is); (case k => k_is)
    have d_changed : Pk.DefX (PySem.Challenge.cw_powerkept_s01_answers_holds.heap_1 w.params) mg "changed" Pk.s_changed ["text", "place", "gone", "coming"] := by
      refine' Pk.defx_mk KX G ?a ?l ?c ?k (Pk.hb_changed)
      (case a => k_is); (case l => k_is); (case c => k_is); (case k => k_is)
    have d_text_behind : Pk.DefX (PySem.Challenge.cw_powerkept_s01_answers_holds.heap_1 w.params) mg "text_behind" Pk.s_text_behind ["text", "body"] := by
      refine' Pk.defx_mk KX G ?a ?l ?c ?k (Pk.hb_text_behind)
      (case a => k_is); (case l => k_is); (case c => k_is); (case k => k_is)
    have d_bring_about : Pk.DefX (PySem.Challenge.cw_powerkept_s01_answers_holds.heap_1 w.params) mg "bring_about" Pk.s_bring_about ["bodies"] := by
      refine' Pk.defx_mk KX G ?a ?l ?c ?k (Pk.hb_bring_about)
      (case a => k_is); (case l => k_is); (case c => k_is); (case k => k_is)
    have d_head : Pk.DefX (PySem.Challenge.cw_powerkept_s01_answers_holds.heap_1 w.params) mg "head" Pk.s_head ["number"] := by
      refine' Pk.defx_mk KX G ?a ?l ?c ?k (Pk.hb_head)
      (case a => k_is); (case l => k_is); (case c => k_is); (case k => k_is)
    have d_next_number : Pk.DefX (PySem.Challenge.cw_powerkept_s01_answers_holds.heap_1 w.params) mg "next_number" Pk.s_next_number ["number"] := by
      refine' Pk.defx_mk KX G ?a ?l ?c ?k (Pk.hb_next_number)
      (case a => k_is); (case l => k_is); (case c => k_is); (case k => k_is)
    have d_first_records : Pk.DefX (PySem.Challenge.cw_powerkept_s01_answers_holds.heap_1 w.params) mg "first_records" Pk.s_first_records ["text", "mark"] := by
      refine' Pk.defx_mk KX G ?a ?l ?c ?k (Pk.hb_first_records)
      (case a => k_is); (case l => k_is); (case c => k_is); (case k => k_is)
    have d_file_number : Pk.DefX (PySem.Challenge.cw_powerkept_s01_answers_holds.heap_1 w.params) mg "file_number" Pk.s_file_number ["row"] := by
      refine' Pk.defx_mk KX G ?a ?l ?c ?k (Pk.hb_file_number)
      (case a => k_is); (case l => k_is); (case c => k_is); (case k => k_is)
    have d_file_bodies : Pk.DefX (PySem.Challenge.cw_powerkept_s01_answers_holds.heap_1 w.params) mg "file_bodies" Pk.s_file_bodies ["row"] := by
      refine' Pk.defx_mk KX G ?a ?l ?c ?k (Pk.hb_file_bodies)
      (case a => k_is); (case l => k_is); (case c => k_is); (case k => k_is)
    have d_counts : Pk.DefX (PySem.Challenge.cw_powerkept_s01_answers_holds.heap_1 w.params) mg "counts" Pk.s_counts ["row"] := by
      refine' Pk.defx_mk KX G ?a ?l ?c ?k (Pk.hb_counts)
      (case a => k_is); (case l => k_is); (case c => k_is); (case k => k_is)
    have d_with_bytes : Pk.DefX (PySem.Challenge.cw_powerkept_s01_answers_holds.heap_1 w.params) mg "with_bytes" Pk.s_with_bytes ["row", "place", "coming"] := by
      refine' Pk.defx_mk KX G ?a ?l ?c ?k (Pk.hb_with_bytes)
      (case a => k_is); (case l => k_is); (case c => k_is); (case k => k_is)
    have d_above_bytes : Pk.DefX (PySem.Challenge.cw_powerkept_s01_answers_holds.heap_1 w.params) mg "above_bytes" Pk.s_above_bytes ["numbers"] := by
      refine' Pk.defx_mk KX G ?a ?l ?c ?k (Pk.hb_above_bytes)
      (case a => k_is); (case l => k_is); (case c => k_is); (case k => k_is)
    have d_with_count : Pk.DefX (PySem.Challenge.cw_powerkept_s01_answers_holds.heap_1 w.params) mg "with_count" Pk.s_with_count ["row"] := by
      refine' Pk.defx_mk KX G ?a ?l ?c ?k (Pk.hb_with_count)
      (case a => k_is); (case l => k_is); (case c => k_is); (case k => k_is)
    have d_read_answer : Pk.DefX (PySem.Challenge.cw_powerkept_s01_answers_holds.heap_1 w.params) mg "read_answer" Pk.s_read_answer ["row"] := by
      refine' Pk.defx_mk KX G ?a ?l ?c ?k (Pk.hb_read_answer)
      (case a => k_is); (case l => k_is); (case c => k_is); (case k => k_is)
    have d_call_end : Pk.DefX (PySem.Challenge.cw_powerkept_s01_answers_holds.heap_1 w.params) mg "call_end" Pk.s_call_end ["calls", "place"] := by
      refine' Pk.defx_mk KX G ?a ?l ?c ?k (Pk.hb_call_end)
      (case a => k_is); (case l => k_is); (case c => k_is); (case k => k_is)
    have d_answer : Pk.DefX (PySem.Challenge.cw_powerkept_s01_answers_holds.heap_1 w.params) mg "answer" Pk.s_answer ["editor", "call"] := by
      refine' Pk.defx_mk KX G ?a ?l ?c ?k (Pk.hb_answer)
      (case a => k_is); (case l => k_is); (case c => k_is); (case k => k_is)
    have d_answers : ∃ (f : Addr) (fd : FuncData), C8.Def (PySem.Challenge.cw_powerkept_s01_answers_holds.heap_1 w.params) mg "answers" Pk.s_answers f fd ∧ ∀ us : List Value, us.length = ([("calls" : Str)]).length → bindArgs fd ⟨us, []⟩ = pure ((["calls"] : List Str).zip us) := by
      refine' Pk.defy_mk KX G ?a ?l ?c ?k (Pk.hb_answers)
      (case a => k_is); (case l => k_is); (case c => k_is); (case k => k_is)
    have x_Brought : ∃ C, Pk.CX_Brought (PySem.Challenge.cw_powerkept_s01_answers_holds.heap_1 w.params) mg C := by
      refine' ⟨_, Pk.cx_Brought KX G ?aC ?pg ?hd ?po ?sa ?mk ?kc ?n_text ?n_kept ?n_kept_mark ?a0 ?i0 ?l0 ?c0 ?k0⟩
      (case aC => k_is)
      (case pg => k_is)
      (case hd => k_is)
      (case po => k_is)
      (case sa => k_is)
      (case mk => k_is)
      (case kc => k_is)
      (case n_text => k_is)
      (case n_kept => k_is)
      (case n_kept_mark => k_is)
      (case a0 => k_is)
      (case i0 => k_is)
      (case l0 => k_is)
      (case c0 => k_is)
      (case k0 => k_is)
    have x_Write : ∃ C, Pk.CX_Write (PySem.Challenge.cw_powerkept_s01_answers_holds.heap_1 w.params) mg C := by
      refine' ⟨_, Pk.cx_Write KX G ?aC ?pg ?hd ?po ?sa ?mk ?kc ?n_file ?n_place ?n_coming ?a0 ?i0 ?l0 ?c0 ?k0⟩
      (case aC => k_is)
      (case pg => k_is)
      (case hd => k_is)
      (case po => k_is)
      (case sa => k_is)
      (case mk => k_is)
      (case kc => k_is)
      (case n_file => k_is)
      (case n_place => k_is)
      (case n_coming => k_is)
      (case a0 => k_is)
      (case i0 => k_is)
      (case l0 => k_is)
      (case c0 => k_is)
      (case k0 => k_is)
    have x_Disk : ∃ C, Pk.CX_Disk (PySem.Challenge.cw_powerkept_s01_answers_holds.heap_1 w.params) mg C := by
      refine' ⟨_, Pk.cx_Disk KX G ?aC ?pg ?hd ?po ?sa ?mk ?kc ?n_files ?n_writes ?a0 ?i0 ?l0 ?c0 ?k0 ?a1 ?i1 ?l1 ?c1 ?k1 ?a2 ?i2 ?l2 ?c2 ?k2 ?a3 ?i3 ?l3 ?c3 ?k3 ?a4 ?i4 ?l4 ?c4 ?k4 ?a5 ?i5 ?l5 ?c5 ?k5 ?a6 ?i6 ?l6 ?c6 ?k6⟩
      (case aC => k_is)
      (case pg => k_is)
      (case hd => k_is)
      (case po => k_is)
      (case sa => k_is)
      (case mk => k_is)
      (case kc => k_is)
      (case n_files => k_is)
      (case n_writes => k_is)
      (case a0 => k_is)
      (case i0 => k_is)
      (case l0 => k_is)
      (case c0 => k_is)
      (case k0 => k_is)
      (case a1 => k_is)
      (case i1 => k_is)
      (case l1 => k_is)
      (case c1 => k_is)
      (case k1 => k_is)
      (case a2 => k_is)
      (case i2 => k_is)
      (case l2 => k_is)
      (case c2 => k_is)
      (case k2 => k_is)
      (case a3 => k_is)
      (case i3 => k_is)
      (case l3 => k_is)
      (case c3 => k_is)
      (case k3 => k_is)
      (case a4 => k_is)
      (case i4 => k_is)
      (case l4 => k_is)
      (case c4 => k_is)
      (case k4 => k_is)
      (case a5 => k_is)
      (case i5 => k_is)
      (case l5 => k_is)
      (case c5 => k_is)
      (case k5 => k_is)
      (case a6 => k_is)
      (case i6 => k_is)
      (case l6 => k_is)
      (case c6 => k_is)
      (case k6 => k_is)
    have x_Editor : ∃ C, Pk.CX_Editor (PySem.Challenge.cw_powerkept_s01_answers_holds.heap_1 w.params) mg C := by
      refine' ⟨_, Pk.cx_Editor KX G ?aC ?pg ?hd ?po ?sa ?mk ?kc ?n_disk ?n_powered ?n_remembered ?n_used ?n_number ?n_size ?n_text ?n_last ?n_safe ?n_copying ?a0 ?i0 ?l0 ?c0 ?k0 ?a1 ?i1 ?l1 ?c1 ?k1 ?a2 ?i2 ?l2 ?c2 ?k2 ?a3 ?i3 ?l3 ?c3 ?k3 ?a4 ?i4 ?l4 ?c4 ?k4 ?a5 ?i5 ?l5 ?c5 ?k5 ?a6 ?i6 ?l6 ?c6 ?k6 ?a7 ?i7 ?l7 ?c7 ?k7 ?a8 ?i8 ?l8 ?c8 ?k8 ?a9 ?i9 ?l9 ?c9 ?k9 ?a10 ?i10 ?l10 ?c10 ?k10 ?a11 ?i11 ?l11 ?c11 ?k11 ?a12 ?i12 ?l12 ?c12 ?k12 ?a13 ?i13 ?l13 ?c13 ?k13 ?a14 ?i14 ?l14 ?c14 ?k14 ?a15 ?i15 ?l15 ?c15 ?k15 ?a16 ?i16 ?l16 ?c16 ?k16 ?a17 ?i17 ?l17 ?c17 ?k17 ?a18 ?i18 ?l18 ?c18 ?k18 ?a19 ?i19 ?l19 ?c19 ?k19 ?a20 ?i20 ?l20 ?c20 ?k20⟩
      (case aC => k_is)
      (case pg => k_is)
      (case hd => k_is)
      (case po => k_is)
      (case sa => k_is)
      (case mk => k_is)
      (case kc => k_is)
      (case n_disk => k_is)
      (case n_powered => k_is)
      (case n_remembered => k_is)
      (case n_used => k_is)
      (case n_number => k_is)
      (case n_size => k_is)
      (case n_text => k_is)
      (case n_last => k_is)
      (case n_safe => k_is)
      (case n_copying => k_is)
      (case a0 => k_is)
      (case i0 => k_is)
      (case l0 => k_is)
      (case c0 => k_is)
      (case k0 => k_is)
      (case a1 => k_is)
      (case i1 => k_is)
      (case l1 => k_is)
      (case c1 => k_is)
      (case k1 => k_is)
      (case a2 => k_is)
      (case i2 => k_is)
      (case l2 => k_is)
      (case c2 => k_is)
      (case k2 => k_is)
      (case a3 => k_is)
      (case i3 => k_is)
      (case l3 => k_is)
      (case c3 => k_is)
      (case k3 => k_is)
      (case a4 => k_is)
      (case i4 => k_is)
      (case l4 => k_is)
      (case c4 => k_is)
      (case k4 => k_is)
      (case a5 => k_is)
      (case i5 => k_is)
      (case l5 => k_is)
      (case c5 => k_is)
      (case k5 => k_is)
      (case a6 => k_is)
      (case i6 => k_is)
      (case l6 => k_is)
      (case c6 => k_is)
      (case k6 => k_is)
      (case a7 => k_is)
      (case i7 => k_is)
      (case l7 => k_is)
      (case c7 => k_is)
      (case k7 => k_is)
      (case a8 => k_is)
      (case i8 => k_is)
      (case l8 => k_is)
      (case c8 => k_is)
      (case k8 => k_is)
      (case a9 => k_is)
      (case i9 => k_is)
      (case l9 => k_is)
      (case c9 => k_is)
      (case k9 => k_is)
      (case a10 => k_is)
      (case i10 => k_is)
      (case l10 => k_is)
      (case c10 => k_is)
      (case k10 => k_is)
      (case a11 => k_is)
      (case i11 => k_is)
      (case l11 => k_is)
      (case c11 => k_is)
      (case k11 => k_is)
      (case a12 => k_is)
      (case i12 => k_is)
      (case l12 => k_is)
      (case c12 => k_is)
      (case k12 => k_is)
      (case a13 => k_is)
      (case i13 => k_is)
      (case l13 => k_is)
      (case c13 => k_is)
      (case k13 => k_is)
      (case a14 => k_is)
      (case i14 => k_is)
      (case l14 => k_is)
      (case c14 => k_is)
      (case k14 => k_is)
      (case a15 => k_is)
      (case i15 => k_is)
      (case l15 => k_is)
      (case c15 => k_is)
      (case k15 => k_is)
      (case a16 => k_is)
      (case i16 => k_is)
      (case l16 => k_is)
      (case c16 => k_is)
      (case k16 => k_is)
      (case a17 => k_is)
      (case i17 => k_is)
      (case l17 => k_is)
      (case c17 => k_is)
      (case k17 => k_is)
      (case a18 => k_is)
      (case i18 => k_is)
      (case l18 => k_is)
      (case c18 => k_is)
      (case k18 => k_is)
      (case a19 => k_is)
      (case i19 => k_is)
      (case l19 => k_is)
      (case c19 => k_is)
      (case k19 => k_is)
      (case a20 => k_is)
      (case i20 => k_is)
      (case l20 => k_is)
      (case c20 => k_is)
      (case k20 => k_is)
    have hG : Pk.Glob mg := by
      refine' ⟨PySem.W.mg_none_of KX G ?b_len, PySem.W.mg_none_of KX G ?b_sum, PySem.W.mg_none_of KX G ?b_max, PySem.W.mg_none_of KX G ?b_zip, PySem.W.mg_none_of KX G ?b_enumerate, Pk.constx_mk KX G ?c_CHANGE, Pk.constx_mk KX G ?c_MARK, Pk.constx_mk KX G ?c_WHOLE, Pk.constx_mk KX G ?c_LONGEST_TEXT, Pk.constx_mk KX G ?c_FRAME, Pk.constx_mk KX G ?c_HEAD_SIZE, Pk.constx_mk KX G ?c_LARGEST_SIZE, Pk.constx_mk KX G ?c_LAST_MARK, Pk.constx_mk KX G ?c_LONGEST_READ, Pk.constx_mk KX G ?c_NOT_SUCH, Pk.constx_mk KX G ?c_NO_MARK, Pk.constx_mk KX G ?c_TOO_MUCH, Pk.constx_mk KX G ?c_NO_ROOM, Pk.constx_mk KX G ?c_NO_FILE, Pk.constx_mk KX G ?c_COPY_WRONG, Pk.constx_mk KX G ?c_POWER_WRONG, Pk.constx_mk KX G ?c_CALL_CHANGE, Pk.constx_mk KX G ?c_CALL_MARK, Pk.constx_mk KX G ?c_CALL_FLUSH, Pk.constx_mk KX G ?c_CALL_COPY, Pk.constx_mk KX G ?c_CALL_TURN, Pk.constx_mk KX G ?c_CALL_POWER, Pk.constx_mk KX G ?c_CALL_START, Pk.constx_mk KX G ?c_CALL_SHOWS, Pk.constx_mk KX G ?c_CALL_FILE, Pk.constx_mk KX G ?c_CALL_SPOIL, Pk.constx_mk KX G ?c_CALL_READ, Pk.constx_mk KX G ?c_CALL_STATE, Pk.constx_mk KX G ?c_CALL_WAS⟩
      (case b_len => k_is)
      (case b_sum => k_is)
      (case b_max => k_is)
      (case b_zip => k_is)
      (case b_enumerate => k_is)
      (case c_CHANGE => k_is)
      (case c_MARK => k_is)
      (case c_WHOLE => k_is)
      (case c_LONGEST_TEXT => k_is)
      (case c_FRAME => k_is)
      (case c_HEAD_SIZE => k_is)
      (case c_LARGEST_SIZE => k_is)
      (case c_LAST_MARK => k_is)
      (case c_LONGEST_READ => k_is)
      (case c_NOT_SUCH => k_is)
      (case c_NO_MARK => k_is)
      (case c_TOO_MUCH => k_is)
      (case c_NO_ROOM => k_is)
      (case c_NO_FILE => k_is)
      (case c_COPY_WRONG => k_is)
      (case c_POWER_WRONG => k_is)
      (case c_CALL_CHANGE => k_is)
      (case c_CALL_MARK => k_is)
      (case c_CALL_FLUSH => k_is)
      (case c_CALL_COPY => k_is)
      (case c_CALL_TURN => k_is)
      (case c_CALL_POWER => k_is)
      (case c_CALL_START => k_is)
      (case c_CALL_SHOWS => k_is)
      (case c_CALL_FILE => k_is)
      (case c_CALL_SPOIL => k_is)
      (case c_CALL_READ => k_is)
      (case c_CALL_STATE => k_is)
      (case c_CALL_WAS => k_is)

    obtain ⟨CB, xB⟩ := x_Brought
    obtain ⟨CW, xW⟩ := x_Write
    obtain ⟨CD, xD⟩ := x_Disk
    obtain ⟨CE, xE⟩ := x_Editor
    obtain ⟨f0, fd0, F0, hb0⟩ := d_answers
    have e0 : f0 = fa := by
      have e1 := F0.mgf.symm.trans hmg
      injection e1 with e1
      injection e1 with e1
    subst e0
    exact ⟨fd0, fun s us hl => PySem.BindsTo.of_eq (hb0 us hl), fun base _ _ => Pk.all_ok hG d_low_and_high d_record d_change_record d_mark_record d_whole_record d_is_known d_body_at d_read_bodies d_goes_beyond d_changed d_text_behind d_bring_about d_head d_next_number d_first_records d_file_number d_file_bodies d_counts d_with_bytes d_above_bytes d_with_count d_read_answer d_call_end d_answer xB xW xD xE F0⟩
  case S =>
    intro K H xs a hO hwi hask hx
    cases hx with
    | cons h1 h2 =>
      cases h2
      cases h1 with
      | lst hs ha =>
        have e := L2.ints_dw a.1 _ ha
        subst e
        exact ⟨_, a.1, rfl, hs, hask, fun H' p hp => .lst (L2.SqL.of hp) (L2.dw_ints _)⟩
