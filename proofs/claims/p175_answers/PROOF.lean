import PyProof.Rows.All
import Wide.All
import OpenK.AllK
import Wide.FinOn
import Open.SpecLaws
import KE.OsGo
import HandS.ForSpec
import HandS.ForMost
import HandS.Codes
import HandS.Evl
import HandS.CallLocal
import HandS.Walk
import PySem.Challenge.RW_chipcard_s01_answers
set_option Elab.async false
set_option linter.all false
set_option maxRecDepth 100000
set_option maxHeartbeats 8000000
section
namespace Cc
open PySem PySem.Spec PyProof.Rows L2 Evl
open C8 (pe_c pe_mk pe_mt pe_mt0 pe_gc)

/-- a list of bytes, as values -/
def bl (l : List Nat) : List V := l.map fun (n : Nat) => V.int (n : Int)
theorem bl_len (l : List Nat) : (bl l).length = l.length := List.length_map ..
theorem bl_get (l : List Nat) (i : Nat) : (bl l)[i]? = l[i]?.map fun (n : Nat) => V.int (n : Int) := List.getElem?_map ..
theorem bl_app (l m : List Nat) : bl l ++ bl m = bl (l ++ m) := (List.map_append ..).symm

section
variable {K : PySem.W.Frag} {σ : L2.St} {H H' : Hp} {ta tb tc te tx : TE} {t u : TT} {x y z v : V} {r : R2} {D : Ends} {tu tz : TS} {xs ys : List V}

/-! ### expressions: fields -/
theorem ev_fld {a C dx : Addr} {fs : List (Str × V)} {f : Str} (ha : Ev ta σ H (.ref a)) (ho : H a = some (.ins C dx fs)) (hc : Cls K C) (hn : NoAttr K C f) (hl : fs.lookup f = some v) : Ev (tFld K ta f) σ H v := fun H1 e _ q =>
  ha H1 e _ fun H2 e2 => ⟨a, C, dx, fs, v, rfl, e2 _ _ (e _ _ ho), hc, hn, hl, q H2 e2⟩
/-! ### an expression that gives a list, old or new -/
def EvR (te : TE) (σ : L2.St) (H : Hp) (xs : List V) : Prop := ∀ H1, Ex H H1 → ∀ Q : VK, (∀ p H2, Ex H1 H2 → H2 p = some (.lst xs) → Q (.ref p) H2) → te σ H1 Q
theorem er_new (h : EvL te σ H xs) : EvR te σ H xs := fun H1 e Q q => h H1 e Q fun p H2 _ e2 h2 => q p H2 e2 h2
theorem er_old {a : Addr} (h : Ev te σ H (.ref a)) (ho : H a = some (.lst xs)) : EvR te σ H xs := fun H1 e Q q => h H1 e Q fun H2 e2 => q a H2 e2 (e2 _ _ (e _ _ ho))
theorem EvR.mono (e : Ex H H') (h : EvR te σ H xs) : EvR te σ H' xs := fun H1 a Q q => h H1 (e.trans a) Q q
theorem el_cat (ha : EvR ta σ H xs) (hb : EvR tb σ H ys) (hl : xs.length + ys.length ≤ sizeLine) : EvL (tOp rCat ta tb) σ H (xs ++ ys) := fun H1 e Q q =>
  ha H1 e _ fun p H2 e2 hp => hb H2 (e.trans e2) _ fun p2 H3 e3 hp2 => ⟨p, p2, xs, ys, rfl, rfl, e3 _ _ hp, hp2, hl, fun n hn => q n _ (fresh_back (e2.trans e3) hn) ((e2.trans e3).trans (Ex.new hn)) upd_same⟩
theorem el_slR {tl th : TO} {lo hi : Option Int} (h : EvR te σ H xs) (h1 : EvO tl σ H lo) (h2 : EvO th σ H hi) : EvL (tSl (rSlL K) te tl th) σ H (cutV xs lo hi) := fun H1 e _ q =>
  h H1 e _ fun a H2 e2 ha => h1 H2 (e.trans e2) _ fun H3 e3 => h2 H3 ((e.trans e2).trans e3) _ fun H4 e4 =>
    ⟨a, xs, rfl, sq_of ((e3.trans e4) _ _ ha), fun p hp => q p _ (fresh_back ((e2.trans e3).trans e4) hp) (((e2.trans e3).trans e4).trans (Ex.new hp)) upd_same⟩
theorem el_rep {k : Int} (ha : EvR ta σ H xs) (hb : Ev tb σ H (.int k)) (h1 : -(2 ^ 63) ≤ k) (h2 : k < 2 ^ 63) (hz : xs.length * k.toNat ≤ sizeLine) : EvL (tOp rRep ta tb) σ H (List.replicate k.toNat xs).flatten := fun H1 e Q q =>
  ha H1 e _ fun p H2 e2 hp => hb H2 (e.trans e2) _ fun H3 e3 => ⟨p, k, xs, rfl, rfl, e3 _ _ hp, h1, h2, hz, fun n hn => q n _ (fresh_back (e2.trans e3) hn) ((e2.trans e3).trans (Ex.new hn)) upd_same⟩
theorem ev_lenR (ha : EvR ta σ H xs) : Ev (tCB (rLenS K) (tCons ta tNil)) σ H (.int (xs.length : Int)) := fun H1 e Q q =>
  ha H1 e _ fun p H2 e2 h2 => ⟨p, xs, rfl, Or.inl (sq_of h2), q H2 e2⟩
theorem ev_ixR {i : Int} (ha : EvR ta σ H xs) (hb : Ev tb σ H (.int i)) (hi : atI xs i = some v) : Ev (tOp (rIxL K) ta tb) σ H v := fun H1 e Q q =>
  ha H1 e _ fun p H2 e2 h2 => hb H2 (e.trans e2) _ fun H3 e3 => ⟨p, xs, i, v, rfl, rfl, sq_of (e3 _ _ h2), hi, q H3 (e2.trans e3)⟩
theorem ev_ixN {i : Nat} (ha : EvR ta σ H xs) (hb : Ev tb σ H (.int (i : Int))) (hi : xs[i]? = some v) : Ev (tOp (rIxL K) ta tb) σ H v := ev_ixR ha hb (atI_nat hi)
/-! ### arguments, some of them new lists -/
def EvP (ta : TA) (σ : L2.St) (H : Hp) (P : List V → Hp → Prop) : Prop := ∀ H1, Ex H H1 → ∀ Q : List V → Hp → Prop, (∀ vs H2, Ex H1 H2 → P vs H2 → Q vs H2) → ta σ H1 Q
theorem ep_nil : EvP tNil σ H (fun vs _ => vs = []) := fun H1 _ _ q => q [] H1 (Ex.refl H1) rfl
theorem ep_cons {tr : TA} {P : List V → Hp → Prop} (h : Ev ta σ H x) (hr : EvP tr σ H P) : EvP (tCons ta tr) σ H (fun vs H2 => ∃ r, vs = x :: r ∧ P r H2) := fun H1 e _ q =>
  h H1 e _ fun H2 e2 => hr H2 (e.trans e2) _ fun vs H3 e3 p => q _ H3 (e2.trans e3) ⟨vs, rfl, p⟩
theorem ep_consR {tr : TA} {P : List V → Hp → Prop} (h : EvR ta σ H xs) (hr : EvP tr σ H P) : EvP (tCons ta tr) σ H (fun vs H2 => ∃ p r, vs = .ref p :: r ∧ H2 p = some (.lst xs) ∧ P r H2) := fun H1 e _ q =>
  h H1 e _ fun p H2 e2 hp => hr H2 (e.trans e2) _ fun vs H3 e3 hP => q _ H3 (e2.trans e3) ⟨p, vs, rfl, e3 _ _ hp, hP⟩
theorem ep_consL {tr : TA} {P : List V → Hp → Prop} (h : EvL ta σ H xs) (hr : EvP tr σ H P) : EvP (tCons ta tr) σ H (fun vs H2 => ∃ p r, vs = .ref p :: r ∧ H p = none ∧ H2 p = some (.lst xs) ∧ P r H2) := fun H1 e _ q =>
  h H1 e _ fun p H2 hn e2 hp => hr H2 (e.trans e2) _ fun vs H3 e3 hP => q _ H3 (e2.trans e3) ⟨p, vs, rfl, fresh_back e hn, e3 _ _ hp, hP⟩
theorem ep_consU {tr : TA} {P : List V → Hp → Prop} (h : EvU ta σ H xs) (hr : EvP tr σ H P) : EvP (tCons ta tr) σ H (fun vs H2 => ∃ p r, vs = .ref p :: r ∧ H2 p = some (.tup xs) ∧ P r H2) := fun H1 e _ q =>
  h H1 e _ fun p H2 _ e2 hp => hr H2 (e.trans e2) _ fun vs H3 e3 hP => q _ H3 (e2.trans e3) ⟨p, vs, rfl, e3 _ _ hp, hP⟩
/-! ### calls -/
section
variable {sp : Sp} {E : XK} {tr : TA} {P : List V → Hp → Prop} {C a dx : Addr} {m : Str} {fs : List (Str × V)} {Q : VK}
/-- a call at the heap as it stands -/
theorem do_call (h : EvP tr σ H P) (hs : ∀ vs H1, Ex H H1 → P vs H1 → sp vs H1 Q E) : tCall sp [] E tr σ H Q := h H (Ex.refl H) _ fun vs H2 e2 p => by
  rw [List.append_nil]
  exact hs vs H2 e2 p
theorem do_meth (ha : Ev ta σ H (.ref a)) (ho : H a = some (.ins C dx fs)) (hm : fs.lookup m = none) (h : EvP tr σ H P) (hs : ∀ vs H1, Ex H H1 → P vs H1 → sp (.ref a :: vs) H1 Q E) : tMeth C m sp [] E ta tr σ H Q :=
  ha H (Ex.refl H) _ fun H2 e2 => ⟨a, dx, fs, rfl, e2 _ _ ho, hm, h H2 e2 _ fun vs H3 e3 p => by
    rw [List.append_nil]
    exact hs vs H3 (e2.trans e3) p⟩
theorem ev_callP (h : EvP tr σ H P) (hs : ∀ vs H1, Ex H H1 → P vs H1 → ∀ Q : VK, RetV v H1 Q → sp vs H1 Q E) : Ev (tCall sp [] E tr) σ H v := fun H1 e Q q =>
  h H1 e _ fun vs H2 e2 p => by
    rw [List.append_nil]
    exact hs vs H2 (e.trans e2) p Q fun H3 e3 => q H3 (e2.trans e3)
theorem el_callP (h : EvP tr σ H P) (hs : ∀ vs H1, Ex H H1 → P vs H1 → ∀ Q : VK, RetL xs H1 Q → sp vs H1 Q E) : EvL (tCall sp [] E tr) σ H xs := fun H1 e Q q =>
  h H1 e _ fun vs H2 e2 p => by
    rw [List.append_nil]
    exact hs vs H2 (e.trans e2) p Q fun n H3 hn e3 h3 => q n H3 (fresh_back e2 hn) (e2.trans e3) h3
theorem ev_methP (ha : Ev ta σ H (.ref a)) (ho : H a = some (.ins C dx fs)) (hm : fs.lookup m = none) (h : EvP tr σ H P) (hs : ∀ vs H1, Ex H H1 → P vs H1 → ∀ Q : VK, RetV v H1 Q → sp (.ref a :: vs) H1 Q E) : Ev (tMeth C m sp [] E ta tr) σ H v := fun H1 e Q q =>
  ha H1 e _ fun H2 e2 => ⟨a, dx, fs, rfl, e2 _ _ (e _ _ ho), hm, h H2 (e.trans e2) _ fun vs H3 e3 p => by
    rw [List.append_nil]
    exact hs vs H3 ((e.trans e2).trans e3) p Q fun H4 e4 => q H4 ((e2.trans e3).trans e4)⟩
theorem el_methP (ha : Ev ta σ H (.ref a)) (ho : H a = some (.ins C dx fs)) (hm : fs.lookup m = none) (h : EvP tr σ H P) (hs : ∀ vs H1, Ex H H1 → P vs H1 → ∀ Q : VK, RetL xs H1 Q → sp (.ref a :: vs) H1 Q E) : EvL (tMeth C m sp [] E ta tr) σ H xs := fun H1 e Q q =>
  ha H1 e _ fun H2 e2 => ⟨a, dx, fs, rfl, e2 _ _ (e _ _ ho), hm, h H2 (e.trans e2) _ fun vs H3 e3 p => by
    rw [List.append_nil]
    exact hs vs H3 ((e.trans e2).trans e3) p Q fun n H4 hn e4 h4 => q n H4 (fresh_back (e2.trans e3) hn) ((e2.trans e3).trans e4) h4⟩
end
/-! ### operators on numbers that are not below 0 -/
theorem rv_add {m n : Nat} : RV (rI0 fun i j => .int (i + j)) (.int (m : Int)) (.int (n : Int)) H (.int ((m + n : Nat) : Int)) := fun H1 _ Q q => ⟨m, n, rfl, rfl, by
  show Q (.int ((m : Int) + (n : Int))) H1
  rw [← Int.natCast_add]
  exact q H1 (Ex.refl H1)⟩
theorem rv_sub {m n : Nat} (h : n ≤ m) : RV (rI0 fun i j => .int (i - j)) (.int (m : Int)) (.int (n : Int)) H (.int ((m - n : Nat) : Int)) := fun H1 _ Q q => ⟨m, n, rfl, rfl, by
  show Q (.int ((m : Int) - (n : Int))) H1
  rw [← Int.natCast_sub h]
  exact q H1 (Ex.refl H1)⟩
theorem rv_mul {m n : Nat} (h : m < 2 ^ 64) : RV (rI CMul fun i j => .int (i * j)) (.int (m : Int)) (.int (n : Int)) H (.int ((m * n : Nat) : Int)) := fun H1 _ Q q => ⟨m, n, rfl, rfl, Or.inl ⟨by omega, by omega⟩, by
  show Q (.int ((m : Int) * (n : Int))) H1
  rw [← Int.natCast_mul]
  exact q H1 (Ex.refl H1)⟩
theorem rv_lt {m n : Nat} : RV (rI0 fun i j => .bl (decide (i < j))) (.int (m : Int)) (.int (n : Int)) H (.bl (decide (m < n))) := fun H1 _ Q q => ⟨m, n, rfl, rfl, by
  show Q (.bl (decide ((m : Int) < (n : Int)))) H1
  rw [show decide ((m : Int) < (n : Int)) = decide (m < n) from decide_eq_decide.mpr Int.ofNat_lt]
  exact q H1 (Ex.refl H1)⟩
theorem rv_gt {m n : Nat} : RV (rI0 fun i j => .bl (decide (j < i))) (.int (m : Int)) (.int (n : Int)) H (.bl (decide (n < m))) := fun H1 _ Q q => ⟨m, n, rfl, rfl, by
  show Q (.bl (decide ((n : Int) < (m : Int)))) H1
  rw [show decide ((n : Int) < (m : Int)) = decide (n < m) from decide_eq_decide.mpr Int.ofNat_lt]
  exact q H1 (Ex.refl H1)⟩
theorem rv_le {m n : Nat} : RV (rI0 fun i j => .bl (decide (i ≤ j))) (.int (m : Int)) (.int (n : Int)) H (.bl (decide (m ≤ n))) := fun H1 _ Q q => ⟨m, n, rfl, rfl, by
  show Q (.bl (decide ((m : Int) ≤ (n : Int)))) H1
  rw [show decide ((m : Int) ≤ (n : Int)) = decide (m ≤ n) from decide_eq_decide.mpr Int.ofNat_le]
  exact q H1 (Ex.refl H1)⟩
theorem rv_ge {m n : Nat} : RV (rI0 fun i j => .bl (decide (j ≤ i))) (.int (m : Int)) (.int (n : Int)) H (.bl (decide (n ≤ m))) := fun H1 _ Q q => ⟨m, n, rfl, rfl, by
  show Q (.bl (decide ((n : Int) ≤ (m : Int)))) H1
  rw [show decide ((n : Int) ≤ (m : Int)) = decide (n ≤ m) from decide_eq_decide.mpr Int.ofNat_le]
  exact q H1 (Ex.refl H1)⟩
theorem rv_eqN {m n : Nat} : RV rEq (.int (m : Int)) (.int (n : Int)) H (.bl (decide (m = n))) := fun H1 _ Q q => ⟨rfl, by
  rw [show decide (V.int (m : Int) = V.int (n : Int)) = decide (m = n) from decide_eq_decide.mpr ⟨fun h => by injection h with h; exact Int.ofNat.inj h, fun h => by rw [h]⟩]
  exact q H1 (Ex.refl H1)⟩
theorem rv_neN {m n : Nat} : RV rNe (.int (m : Int)) (.int (n : Int)) H (.bl (decide (m ≠ n))) := fun H1 _ Q q => ⟨rfl, by
  rw [show (!decide (V.int (m : Int) = V.int (n : Int))) = decide (m ≠ n) from by
    rw [show decide (V.int (m : Int) = V.int (n : Int)) = decide (m = n) from decide_eq_decide.mpr ⟨fun h => by injection h with h; exact Int.ofNat.inj h, fun h => by rw [h]⟩]
    by_cases h : m = n <;> simp [h]]
  exact q H1 (Ex.refl H1)⟩
theorem rv_isN : RV (fun x y H Q => y = .non ∧ Q (.bl (decide (x = .non))) H) x .non H (.bl (decide (x = .non))) := fun H1 _ _ q => ⟨rfl, q H1 (Ex.refl H1)⟩
theorem rv_notN : RV (fun x y H Q => y = .non ∧ Q (.bl (!decide (x = .non))) H) x .non H (.bl (!decide (x = .non))) := fun H1 _ _ q => ⟨rfl, q H1 (Ex.refl H1)⟩

abbrev rNN : R2 := fun x y H Q => y = .non ∧ Q (.bl (!decide (x = .non))) H
abbrev rIN : R2 := fun x y H Q => y = .non ∧ Q (.bl (decide (x = .non))) H
/-! ### tests -/
theorem et_not1 {a : Bool} (h : EvT t σ H (!a)) : EvT t σ H (!a) := h
theorem et_chain {r r' : R2} {b c : Bool} (h1 : Ev ta σ H x) (h2 : Ev tb σ H y) (h3 : Ev tc σ H z) (hr : RV r x y H (.bl b)) (hr' : RV r' y z H (.bl c)) : EvT (tTest (tChain r r' ta tb tc)) σ H (b && c) := fun H1 e Q q =>
  h1 H1 e _ fun H2 e2 => h2 H2 (e.trans e2) _ fun H3 e3 => hr H3 ((e.trans e2).trans e3) _ fun H4 e4 => ⟨b, rfl, by
    cases b with
    | true =>
      show tc σ H4 _
      exact h3 H4 (((e.trans e2).trans e3).trans e4) _ fun H5 e5 => hr' H5 ((((e.trans e2).trans e3).trans e4).trans e5) _ fun H6 e6 => ⟨c, rfl, q H6 (((((e2.trans e3).trans e4)).trans e5).trans e6)⟩
    | false => exact ⟨false, rfl, q H4 ((e2.trans e3).trans e4)⟩⟩
theorem ev_chain {r r' : R2} {b c : Bool} (h1 : Ev ta σ H x) (h2 : Ev tb σ H y) (h3 : Ev tc σ H z) (hr : RV r x y H (.bl b)) (hr' : RV r' y z H (.bl c)) : Ev (tChain r r' ta tb tc) σ H (.bl (b && c)) := fun H1 e Q q =>
  h1 H1 e _ fun H2 e2 => h2 H2 (e.trans e2) _ fun H3 e3 => hr H3 ((e.trans e2).trans e3) _ fun H4 e4 => ⟨b, rfl, by
    cases b with
    | true =>
      show tc σ H4 _
      exact h3 H4 (((e.trans e2).trans e3).trans e4) _ fun H5 e5 => hr' H5 ((((e.trans e2).trans e3).trans e4).trans e5) _ fun H6 e6 => q H6 (((((e2.trans e3).trans e4)).trans e5).trans e6)
    | false => exact q H4 ((e2.trans e3).trans e4)⟩
/-! ### dicts -/
theorem dget_of {d : Addr} {kvs : List (Key × V)} {k : Nat} {H1 : Hp} (h : H1 d = some (.dK kvs)) : DGet H1 d (.int (k : Int)) (valV kvs (Sum.inl (k : Int))) := DGet.k (k := Sum.inl (k : Int)) h
theorem ev_din {d : Addr} {kvs : List (Key × V)} {k : Nat} (hk : Ev ta σ H (.int (k : Int))) (hd : Ev tb σ H (.ref d)) (h : H d = some (.dK kvs)) : Ev (tDIn ta tb) σ H (.bl (valV kvs (Sum.inl (k : Int))).isSome) := fun H1 e Q q =>
  hk H1 e _ fun H2 e2 => hd H2 (e.trans e2) _ fun H3 e3 => ⟨d, _, rfl, dget_of (((e.trans e2).trans e3) _ _ h), q H3 (e2.trans e3)⟩
theorem ev_dnotin {d : Addr} {kvs : List (Key × V)} {k : Nat} (hk : Ev ta σ H (.int (k : Int))) (hd : Ev tb σ H (.ref d)) (h : H d = some (.dK kvs)) : Ev (tDNotIn ta tb) σ H (.bl (!(valV kvs (Sum.inl (k : Int))).isSome)) := fun H1 e Q q =>
  hk H1 e _ fun H2 e2 => hd H2 (e.trans e2) _ fun H3 e3 => ⟨d, _, rfl, dget_of (((e.trans e2).trans e3) _ _ h), q H3 (e2.trans e3)⟩
theorem ev_dget {d : Addr} {kvs : List (Key × V)} {k : Nat} (hd : Ev ta σ H (.ref d)) (hk : Ev tb σ H (.int (k : Int))) (h : H d = some (.dK kvs)) (hv : valV kvs (Sum.inl (k : Int)) = some v) : Ev (tDGet ta tb) σ H v := fun H1 e Q q =>
  hd H1 e _ fun H2 e2 => hk H2 (e.trans e2) _ fun H3 e3 => ⟨d, v, rfl, by
    rw [← hv]
    exact dget_of (((e.trans e2).trans e3) _ _ h), q H3 (e2.trans e3)⟩

/-! ### statements, over whatever stands behind -/
def Sat (ts : TS) (D : Ends) (σ : L2.St) (H : Hp) : Prop := ∀ H1, Ex H H1 → ts D σ H1
theorem Sat.mono (e : Ex H H') (h : Sat tu D σ H) : Sat tu D σ H' := fun H1 a => h H1 (e.trans a)
theorem Sat.go (h : Sat tu D σ H) : tu D σ H := h H (Ex.refl H)
theorem sa_seq (h : Sat tu { D with nx := tz D } σ H) : Sat (tSeq tu tz) D σ H := h
theorem sa_set {i : Nat} (h : Ev te σ H v) (k : Sat tz D (σ.set i (some v)) H) : Sat (tSeq (tAsg te (gName i)) tz) D σ H := fun H1 e => q_asg (h.mono e) fun H2 e2 => k H2 (e.trans e2)
theorem sa_setL {i : Nat} (h : EvL te σ H xs) (k : ∀ p H2, H p = none → Ex H H2 → H2 p = some (.lst xs) → Sat tz D (σ.set i (some (.ref p))) H2) : Sat (tSeq (tAsg te (gName i)) tz) D σ H := fun H1 e =>
  q_asgL (h.mono e) fun p H2 hp e2 h2 => k p H2 (fresh_back e hp) (e.trans e2) h2 H2 (Ex.refl H2)
theorem sa_setU {i : Nat} (h : EvU te σ H xs) (k : ∀ p H2, H p = none → Ex H H2 → H2 p = some (.tup xs) → Sat tz D (σ.set i (some (.ref p))) H2) : Sat (tSeq (tAsg te (gName i)) tz) D σ H := fun H1 e =>
  q_asgU (fun H0 a Q q => h H0 (e.trans a) Q q) fun p H2 hp e2 h2 => k p H2 (fresh_back e hp) (e.trans e2) h2 H2 (Ex.refl H2)
theorem sa_ret (h : Ev te σ H v) (k : RetV v H D.rt) : Sat (tRet te) D σ H := fun _ e => s_ret (h.mono e) fun H2 e2 => k H2 (e.trans e2)
theorem sa_retL (h : EvL te σ H xs) (k : RetL xs H D.rt) : Sat (tRet te) D σ H := fun _ e => s_retL (h.mono e) fun p H2 hp e2 h2 => k p H2 (fresh_back e hp) (e.trans e2) h2
theorem sa_if {b : Bool} {tw : TS} (h : EvT t σ H b) (h1 : b = true → Sat tu D σ H) (h2 : b = false → Sat tw D σ H) : Sat (tIfS t tu tw) D σ H := fun H1 e =>
  s_if (h.mono e) (fun hb H2 e2 => h1 hb H2 (e.trans e2)) fun hb H2 e2 => h2 hb H2 (e.trans e2)
theorem sa_when {b : Bool} {tw : TS} (h : EvT t σ H b) (h1 : b = true → Sat tu { D with nx := tz D } σ H) (h2 : b = false → Sat tw { D with nx := tz D } σ H) : Sat (tSeq (tIfS t tu tw) tz) D σ H := sa_if (D := { D with nx := tz D }) h h1 h2
theorem sa_next (h : Sat tz D σ H) : Sat tNext { D with nx := tz D } σ H := h
theorem sa_nx (h : ∀ H1, Ex H H1 → D.nx σ H1) : Sat tNext D σ H := h
theorem sa_set1 {i : Nat} (h : Ev te σ H v) (k : ∀ H1, Ex H H1 → D.nx (σ.set i (some v)) H1) : Sat (tAsg te (gName i)) D σ H := fun H1 e => s_asg (h.mono e) fun H2 e2 => k H2 (e.trans e2)
end
end Cc
namespace Cc
open PySem PySem.Spec PyProof.Rows L2 Evl
section
variable {H : Hp}
theorem rv_div {m n : Nat} (h0 : 0 < n) (h : n < 1073741824) : RV (rI CDiv fun i j => .int (i / j)) (.int (m : Int)) (.int (n : Int)) H (.int ((m / n : Nat) : Int)) := fun H1 _ Q q => ⟨m, n, rfl, rfl, ⟨by omega, by omega⟩, by
  show Q (.int ((m : Int) / (n : Int))) H1
  rw [← Int.natCast_ediv]
  exact q H1 (Ex.refl H1)⟩
theorem rv_mod {m n : Nat} (h0 : 0 < n) : RV (rI (fun _ j => 0 < j) fun i j => .int (i % j)) (.int (m : Int)) (.int (n : Int)) H (.int ((m % n : Nat) : Int)) := fun H1 _ Q q => ⟨m, n, rfl, rfl, by omega, by
  show Q (.int ((m : Int) % (n : Int))) H1
  rw [← Int.natCast_emod]
  exact q H1 (Ex.refl H1)⟩
theorem pe_mk0 {X : Cx} {k j : Nat} {C : Addr} {x : Str} {sp : Sp} {p pos : Pos} (c : C8.Mak X.prog X.w X.K X.mg X.base k x C sp []) (hr : Room j X.A) (hk : k + 1 ≤ j) (hg : Gl X x) (hdb : (x == ("__debug__" : Str)) = false := by decide) :
    PE X (.Call (.Name x p) [] [] pos) (tMake C sp [] C8.E0 tNil) := by
  obtain ⟨f, fd, ps, ds, M, F, hm, b, d⟩ := c.ex
  exact pe_make0 M F (hr.mono hk) hg hm b d C8.pass0 hdb
end
end Cc
namespace Cc
open PySem PySem.Spec PyProof.Rows L2 Evl
section
variable {σ : L2.St} {H : Hp}
theorem ev_n (n : Nat) {k : Int} (h : k = (n : Int) := by rfl) : Ev (tC (.int k)) σ H (.int (n : Int)) := by
  subst h
  exact ev_c
theorem rv_mulR {m n : Nat} (h : n < 2 ^ 64) : RV (rI CMul fun i j => .int (i * j)) (.int (m : Int)) (.int (n : Int)) H (.int ((m * n : Nat) : Int)) := fun H1 _ Q q => ⟨m, n, rfl, rfl, Or.inr ⟨by omega, by omega⟩, by
  show Q (.int ((m : Int) * (n : Int))) H1
  rw [← Int.natCast_mul]
  exact q H1 (Ex.refl H1)⟩
end
end Cc
namespace Cc
open PySem PySem.Spec PyProof.Rows L2 Evl
section
variable {K : PySem.W.Frag} {σ : L2.St} {H0 H : Hp} {ta te : TE} {t : TT} {D : Ends} {tz : TS} {l : Addr} {xs ys : List V} {v : V}
/-- a list of one's own, made behind H0: xs.extend(ys), xs.append(y) -/
theorem ext_one (e : Ex H0 H) (hn : H0 l = none) (hl : H l = some (.lst xs)) (ha : Ev ta σ H (.ref l)) (h : EvR te σ H ys) (hz : xs.length + ys.length ≤ 100000) (k : ∀ H2, Ex H0 H2 → H2 l = some (.lst (xs ++ ys)) → D.nx σ H2) :
    Sat (tDrop (tBM K "list" rExtend ta (tCons te tNil))) D σ H := fun H1 e1 => ha H1 e1 _ fun H2 e2 => ⟨Or.inl ⟨rfl, xs, sq_of (e2 _ _ (e1 _ _ hl))⟩, h H2 (e1.trans e2) _ fun p H3 e3 hp =>
      ⟨l, p, xs, ys, rfl, rfl, e3 _ _ (e2 _ _ (e1 _ _ hl)), hp, sz_of hz, k _ (Ex.mut (((e.trans e1).trans e2).trans e3) hn) upd_same⟩⟩
theorem app_one (e : Ex H0 H) (hn : H0 l = none) (hl : H l = some (.lst xs)) (ha : Ev ta σ H (.ref l)) (h : Ev te σ H v) (hz : xs.length < 100000) (k : ∀ H2, Ex H0 H2 → H2 l = some (.lst (xs ++ [v])) → D.nx σ H2) :
    Sat (tDrop (tBM K "list" rAppend ta (tCons te tNil))) D σ H := fun H1 e1 => ha H1 e1 _ fun H2 e2 => ⟨Or.inl ⟨rfl, xs, sq_of (e2 _ _ (e1 _ _ hl))⟩, h H2 (e1.trans e2) _ fun H3 e3 =>
      ⟨l, xs, v, rfl, rfl, e3 _ _ (e2 _ _ (e1 _ _ hl)), sz_lt hz, k _ (Ex.mut (((e.trans e1).trans e2).trans e3) hn) upd_same⟩⟩
theorem sa_ext (e : Ex H0 H) (hn : H0 l = none) (hl : H l = some (.lst xs)) (ha : Ev ta σ H (.ref l)) (h : EvR te σ H ys) (hz : xs.length + ys.length ≤ 100000) (k : ∀ H2, Ex H0 H2 → H2 l = some (.lst (xs ++ ys)) → Sat tz D σ H2) :
    Sat (tSeq (tDrop (tBM K "list" rExtend ta (tCons te tNil))) tz) D σ H := ext_one (D := { D with nx := tz D }) e hn hl ha h hz fun H2 e2 h2 => (k H2 e2 h2).go
theorem sa_app (e : Ex H0 H) (hn : H0 l = none) (hl : H l = some (.lst xs)) (ha : Ev ta σ H (.ref l)) (h : Ev te σ H v) (hz : xs.length < 100000) (k : ∀ H2, Ex H0 H2 → H2 l = some (.lst (xs ++ [v])) → Sat tz D σ H2) :
    Sat (tSeq (tDrop (tBM K "list" rAppend ta (tCons te tNil))) tz) D σ H := app_one (D := { D with nx := tz D }) e hn hl ha h hz fun H2 e2 h2 => (k H2 e2 h2).go
theorem sa_whenExt {b : Bool} (e : Ex H0 H) (hn : H0 l = none) (hl : H l = some (.lst xs)) (ht : EvT t σ H b) (ha : Ev ta σ H (.ref l)) (h : b = true → EvR te σ H ys) (hz : xs.length + ys.length ≤ 100000)
    (k : ∀ H2, Ex H0 H2 → H2 l = some (.lst (xs ++ if b = true then ys else [])) → Sat tz D σ H2) : Sat (tSeq (tIfS t (tDrop (tBM K "list" rExtend ta (tCons te tNil))) tNext) tz) D σ H :=
  sa_when ht (fun hb => ext_one (D := { D with nx := tz D }) e hn hl ha (h hb) hz fun H2 e2 h2 => (k H2 e2 (by rw [if_pos hb]; exact h2)).go)
    (fun hb => fun H1 e1 => (k H1 (e.trans e1) (by rw [if_neg (by rw [hb]; decide), List.append_nil]; exact e1 _ _ hl)).go)
theorem sa_whenApp {b : Bool} (e : Ex H0 H) (hn : H0 l = none) (hl : H l = some (.lst xs)) (ht : EvT t σ H b) (ha : Ev ta σ H (.ref l)) (h : b = true → Ev te σ H v) (hz : xs.length < 100000)
    (k : ∀ H2, Ex H0 H2 → H2 l = some (.lst (xs ++ if b = true then [v] else [])) → Sat tz D σ H2) : Sat (tSeq (tIfS t (tDrop (tBM K "list" rAppend ta (tCons te tNil))) tNext) tz) D σ H :=
  sa_when ht (fun hb => app_one (D := { D with nx := tz D }) e hn hl ha (h hb) hz fun H2 e2 h2 => (k H2 e2 (by rw [if_pos hb]; exact h2)).go)
    (fun hb => fun H1 e1 => (k H1 (e.trans e1) (by rw [if_neg (by rw [hb]; decide), List.append_nil]; exact e1 _ _ hl)).go)
/-- if c: x = e, told by the value that x has behind it -/
theorem sa_ifSet {b : Bool} {i : Nat} (h : EvT t σ H b) (h1 : b = true → Ev te σ H v) (h2 : b = false → σ.set i (some v) = σ) (k : Sat tz D (σ.set i (some v)) H) : Sat (tSeq (tIfS t (tAsg te (gName i)) tNext) tz) D σ H :=
  sa_when h (fun hb => sa_set1 (h1 hb) fun H1 e1 => k H1 e1) (fun hb => by
    rw [h2 hb] at k
    exact k)
end
end Cc
namespace Cc
open PySem PySem.Spec PyProof.Rows L2 Evl
section
variable {K : PySem.W.Frag} {σ : L2.St} {H0 H H' : Hp} {ta tv te : TE} {t : TT} {D : Ends} {tz : TS} {p C dx : Addr} {fs : List (Str × V)} {f : Str} {xs ys : List V} {v y : V}
/-- all but the object at p stands -/
def Keep (p : Addr) (H H' : Hp) : Prop := ∀ b o, H b = some o → b ≠ p → H' b = some o
theorem Keep.of (e : Ex H H') : Keep p H H' := fun b o h _ => e b o h
theorem Keep.trans {H2 : Hp} (a : Keep p H H') (b : Keep p H' H2) : Keep p H H2 := fun x o h n => b x o (a x o h n) n
theorem Keep.fresh (k : Keep p H H') {u : HO} (hp : H' p = some u) {q : Addr} (h : H' q = none) : H q = none := by
  cases e : H q with
  | none => rfl
  | some o =>
    by_cases z : q = p
    · rw [z, hp] at h
      cases h
    · rw [k q o e z] at h
      cases h
theorem fld_one (hp : H p = some (.ins C dx fs)) (hv : Ev tv σ H y) (ha : Ev ta σ H (.ref p)) (hc : Cls K C) (hn : NoAttr K C f) (hl : fs.length < 1000) (k : ∀ H2, Keep p H H2 → H2 p = some (.ins C dx (putF f y fs)) → D.nx σ H2) : Sat (sFld K ta tv f) D σ H := fun H1 e =>
  hv H1 e _ fun H2 e2 => ha H2 (e.trans e2) _ fun H3 e3 => ⟨p, C, dx, fs, rfl, e3 _ _ (e2 _ _ (e _ _ hp)), hc, hn, hl, k _ (fun b o h z => by
    rw [upd_ne z]
    exact e3 _ _ (e2 _ _ (e _ _ h))) upd_same⟩
theorem sa_fld (hp : H p = some (.ins C dx fs)) (hv : Ev tv σ H y) (ha : Ev ta σ H (.ref p)) (hc : Cls K C) (hn : NoAttr K C f) (hl : fs.length < 1000) (k : ∀ H2, Keep p H H2 → H2 p = some (.ins C dx (putF f y fs)) → Sat tz D σ H2) : Sat (tSeq (sFld K ta tv f) tz) D σ H :=
  fld_one (D := { D with nx := tz D }) hp hv ha hc hn hl fun H2 k2 h2 => (k H2 k2 h2).go
theorem sa_fldL (hp : H p = some (.ins C dx fs)) (hv : EvL tv σ H xs) (ha : Ev ta σ H (.ref p)) (hc : Cls K C) (hn : NoAttr K C f) (hl : fs.length < 1000)
    (k : ∀ q H2, H q = none → Keep p H H2 → H2 q = some (.lst xs) → H2 p = some (.ins C dx (putF f (.ref q) fs)) → Sat tz D σ H2) : Sat (tSeq (sFld K ta tv f) tz) D σ H := fun H1 e =>
  hv H1 e _ fun q H2 hq e2 h2 => ha H2 (e.trans e2) _ fun H3 e3 => by
    have qp : q ≠ p := fun z => by rw [z, e _ _ hp] at hq; cases hq
    exact ⟨p, C, dx, fs, rfl, e3 _ _ (e2 _ _ (e _ _ hp)), hc, hn, hl, (k q _ (fresh_back e hq) (fun b o h z => by
    rw [upd_ne z]
    exact e3 _ _ (e2 _ _ (e _ _ h))) ((upd_ne qp).trans (e3 _ _ h2)) upd_same).go⟩
/-- an expression by what is true of its value -/
def EvG (te : TE) (σ : L2.St) (H : Hp) (P : V → Hp → Prop) : Prop := ∀ H1, Ex H H1 → ∀ Q : VK, (∀ v H2, Ex H1 H2 → P v H2 → Q v H2) → te σ H1 Q
theorem sa_setG {i : Nat} {P : V → Hp → Prop} (h : EvG te σ H P) (k : ∀ v H2, Ex H H2 → P v H2 → Sat tz D (σ.set i (some v)) H2) : Sat (tSeq (tAsg te (gName i)) tz) D σ H := fun H1 e =>
  h H1 e _ fun v H2 e2 p => (k v H2 (e.trans e2) p).go
theorem sa_retG {P : V → Hp → Prop} (h : EvG te σ H P) (k : ∀ v H2, Ex H H2 → P v H2 → D.rt v H2) : Sat (tRet te) D σ H := fun H1 e =>
  h H1 e _ fun v H2 e2 p => k v H2 (e.trans e2) p
/-- C(..) as such an expression -/
theorem eg_make {sp : Sp} {E : XK} {tr : TA} {P : List V → Hp → Prop} {G : V → Hp → Prop} (h : EvP tr σ H P)
    (hs : ∀ vs H1 x dx, Ex H H1 → P vs H1 → H1 x = none → H1 dx = none → dx ≠ x → ∀ Q : VK, (∀ H2, (∀ b o, H1 b = some o → H2 b = some o) → G (.ref x) H2 → Q .non H2) → sp (.ref x :: vs) (upd (upd H1 dx (.own x)) x (.ins C dx [])) Q E) :
    EvG (tMake C sp [] E tr) σ H G := fun H1 e Q q => h H1 e _ fun vs H2 e2 p x dx hx hd hne => by
  rw [List.append_nil]
  exact hs vs H2 x dx (e.trans e2) p hx hd hne _ fun H3 e3 g => ⟨rfl, q _ _ (e2.trans e3) g⟩
end
end Cc
namespace Cc
open PySem PySem.Spec PyProof.Rows L2 Evl
/-! ### lists of numbers, compared -/
def pyl (l : List Nat) : List PyData := l.map fun (n : Nat) => PyData.int (n : Int)
theorem dp_ints {K : PySem.W.Frag} {H : Hp} : ∀ l : List Nat, DpAll K H (bl l) (pyl l)
  | [] => .nil
  | n :: r => .cons (.int _) (dp_ints r)
theorem shaped_ints (l : List Nat) : SeqAt.shaped (.list (pyl l)) = true := by
  have h1 : ∀ l : List Nat, PyData.canLayAll0 (pyl l) = true := fun l => by
    induction l with
    | nil => simp [pyl, PyData.canLayAll0]
    | cons a r ih =>
      show PyData.canLayAll0 (PyData.int (a : Int) :: pyl r) = true
      simp [PyData.canLayAll0, PyData.canLay0, ih]
  have h2 : ∀ l : List Nat, PyData.depthAll (pyl l) = 0 := fun l => by
    induction l with
    | nil => simp [pyl, PyData.depthAll]
    | cons a r ih =>
      show PyData.depthAll (PyData.int (a : Int) :: pyl r) = 0
      simp [PyData.depthAll, PyData.depth, ih]
  unfold SeqAt.shaped
  simp [PyData.canLay0, PyData.depth, h1, h2]
theorem eqv_ints (l m : List Nat) : PyData.eqv (.list (pyl l)) (.list (pyl m)) = decide (l = m) := by
  have h : ∀ l m : List Nat, PyData.eqvAll (pyl l) (pyl m) = decide (l = m) := fun l => by
    induction l with
    | nil =>
      intro m
      cases m with
      | nil => simp [pyl, PyData.eqvAll]
      | cons b s =>
        show PyData.eqvAll [] (PyData.int (b : Int) :: pyl s) = _
        simp [PyData.eqvAll]
    | cons a r ih =>
      intro m
      cases m with
      | nil =>
        show PyData.eqvAll (PyData.int (a : Int) :: pyl r) [] = _
        simp [PyData.eqvAll]
      | cons b s =>
        show PyData.eqvAll (PyData.int (a : Int) :: pyl r) (PyData.int (b : Int) :: pyl s) = _
        simp only [PyData.eqvAll, PyData.eqv, ih s]
        by_cases e : a = b
        · subst e
          simp
        · have e2 : ¬ (a : Int) = (b : Int) := fun z => e (Int.ofNat.inj z)
          simp [e, e2]
  simp only [PyData.eqv, h]
section
variable {K : PySem.W.Frag} {σ : L2.St} {H : Hp} {ta tb : TE} {l m : List Nat}
theorem rv_eqL {a b : Addr} (ha : H a = some (.lst (bl l))) (hb : H b = some (.lst (bl m))) : RV (rEqD K) (.ref a) (.ref b) H (.bl (decide (l = m))) := fun H1 e Q q =>
  ⟨.list (pyl l), .list (pyl m), .lst (sq_of (e _ _ ha)) (dp_ints l), .lst (sq_of (e _ _ hb)) (dp_ints m), shaped_ints l, shaped_ints m, by
    rw [eqv_ints]
    exact q H1 (Ex.refl H1)⟩
theorem ev_eqR (ha : EvR ta σ H (bl l)) (hb : EvR tb σ H (bl m)) : Ev (tOp (rEqD K) ta tb) σ H (.bl (decide (l = m))) := fun H1 e Q q =>
  ha H1 e _ fun p H2 e2 h2 => hb H2 (e.trans e2) _ fun p3 H3 e3 h3 => ⟨.list (pyl l), .list (pyl m), .lst (sq_of (e3 _ _ h2)) (dp_ints l), .lst (sq_of h3) (dp_ints m), shaped_ints l, shaped_ints m, by
    rw [eqv_ints]
    exact q H3 (e2.trans e3)⟩
theorem ev_neR (ha : EvR ta σ H (bl l)) (hb : EvR tb σ H (bl m)) : Ev (tOp (rNeD K) ta tb) σ H (.bl (!decide (l = m))) := fun H1 e Q q =>
  ha H1 e _ fun p H2 e2 h2 => hb H2 (e.trans e2) _ fun p3 H3 e3 h3 => ⟨.list (pyl l), .list (pyl m), .lst (sq_of (e3 _ _ h2)) (dp_ints l), .lst (sq_of h3) (dp_ints m), shaped_ints l, shaped_ints m, by
    rw [eqv_ints]
    exact q H3 (e2.trans e3)⟩
end
end Cc
namespace Cc
open PySem PySem.Spec PyProof.Rows L2 Evl
section
variable {K : PySem.W.Frag} {σ : L2.St} {H : Hp} {tl : TE} {D : Ends} {tz tu : TS} {g : TG} {s : Nat} {vs : List V} {a : Addr}
theorem sa_forL (h : Ev tl σ H (.ref a)) (hx : H a = some (.lst vs)) (Pv : Nat → L2.St → Hp → Prop) (h0 : ∀ H1, Ex H H1 → Pv 0 σ H1) (hl : ∀ i σ' H', i ≤ vs.length → Pv i σ' H' → H' a = some (.lst vs))
    (hs : ∀ (i : Nat) x σ' H', vs[i]? = some x → Pv i σ' H' → Sat tu { D with nx := Pv (i + 1), ct := Pv (i + 1), bk := tz D } (σ'.set s (some x)) H') (hd : ∀ σ' H', Pv vs.length σ' H' → tz D σ' H') :
    Sat (tSeq (tFor (iList K tl) (gName s) tu) tz) D σ H := fun H0 e0 =>
  q_forLn (h.mono e0) (sq_of (e0 _ _ hx)) Pv (fun H1 e1 => h0 H1 (e0.trans e1)) (fun i σ' H' hi p => sq_of (hl i σ' H' hi p)) (fun i x σ' H' hx p => (hs i x σ' H' hx p).go) hd
/-- over a list made on the way -/
theorem sa_forN (h : EvL tl σ H vs) (Pv : Addr → Nat → L2.St → Hp → Prop) (h0 : ∀ p H1, H p = none → Ex H H1 → H1 p = some (.lst vs) → Pv p 0 σ H1) (hl : ∀ p i σ' H', i ≤ vs.length → Pv p i σ' H' → H' p = some (.lst vs))
    (hs : ∀ p (i : Nat) x σ' H', vs[i]? = some x → Pv p i σ' H' → Sat tu { D with nx := Pv p (i + 1), ct := Pv p (i + 1), bk := tz D } (σ'.set s (some x)) H') (hd : ∀ p σ' H', Pv p vs.length σ' H' → tz D σ' H') :
    Sat (tSeq (tFor (iList K tl) (gName s) tu) tz) D σ H := fun H0 e0 =>
  q_forNLn (h.mono e0) Pv (fun p H1 hp e1 h1 => h0 p H1 (fresh_back e0 hp) (e0.trans e1) h1) (fun p i σ' H' hi q => sq_of (hl p i σ' H' hi q)) (fun p i x σ' H' hx q => (hs p i x σ' H' hx q).go) hd
end
end Cc
namespace Cc
open PySem PySem.Spec PyProof.Rows L2 Evl
theorem cut_nat (xs : List V) (m n : Nat) : cutV xs (some (m : Int)) (some (n : Int)) = (xs.drop m).take (n - m) := by
  unfold cutV
  rw [HT.sIx_nat, HT.sIx_nat]
  by_cases h : m ≤ xs.length
  · rw [Nat.min_eq_left h]
    by_cases h2 : n ≤ xs.length
    · rw [Nat.min_eq_left h2]
    · rw [Nat.min_eq_right (by omega), List.take_of_length_le (by rw [List.length_drop]; omega), List.take_of_length_le (by rw [List.length_drop]; omega)]
  · have e : min m xs.length = xs.length := Nat.min_eq_right (by omega)
    rw [e, List.drop_of_length_le (Nat.le_refl xs.length), List.drop_of_length_le (show xs.length ≤ m by omega), List.take_nil, List.take_nil]
theorem cut_to (xs : List V) (n : Nat) : cutV xs none (some (n : Int)) = xs.take n := by
  unfold cutV
  rw [HT.sIx_nat, HT.sIx_none, List.drop_zero, Nat.sub_zero]
  by_cases h2 : n ≤ xs.length
  · rw [Nat.min_eq_left h2]
  · rw [Nat.min_eq_right (by omega), List.take_of_length_le (Nat.le_refl _), List.take_of_length_le (by omega)]
theorem cut_from (xs : List V) (m : Nat) : cutV xs (some (m : Int)) none = xs.drop m := by
  unfold cutV
  rw [HT.sIx_nat, HT.sIx_none]
  by_cases h : m ≤ xs.length
  · rw [Nat.min_eq_left h, List.take_of_length_le (by rw [List.length_drop]; omega)]
  · have e : min m xs.length = xs.length := Nat.min_eq_right (by omega)
    rw [e, List.drop_of_length_le (Nat.le_refl xs.length), List.drop_of_length_le (show xs.length ≤ m by omega), List.take_nil]
theorem bl_drop (l : List Nat) (n : Nat) : (bl l).drop n = bl (l.drop n) := (List.map_drop ..).symm
theorem bl_take (l : List Nat) (n : Nat) : (bl l).take n = bl (l.take n) := (List.map_take ..).symm
section
variable {K : PySem.W.Frag} {σ : L2.St} {H : Hp} {te ta tb : TE} {l : List Nat}
theorem el_cut {m n : Nat} (h : EvR te σ H (bl l)) (h1 : Ev ta σ H (.int (m : Int))) (h2 : Ev tb σ H (.int (n : Int))) : EvL (tSl (rSlL K) te (tPart ta) (tPart tb)) σ H (bl ((l.drop m).take (n - m))) := by
  have z := el_slR (K := K) h (eo_some h1) (eo_some h2)
  rw [cut_nat, bl_drop, bl_take] at z
  exact z
theorem el_to {n : Nat} (h : EvR te σ H (bl l)) (h2 : Ev tb σ H (.int (n : Int))) : EvL (tSl (rSlL K) te tNoPart (tPart tb)) σ H (bl (l.take n)) := by
  have z := el_slR (K := K) h eo_none (eo_some h2)
  rw [cut_to, bl_take] at z
  exact z
theorem el_from {m : Nat} (h : EvR te σ H (bl l)) (h1 : Ev ta σ H (.int (m : Int))) : EvL (tSl (rSlL K) te (tPart ta) tNoPart) σ H (bl (l.drop m)) := by
  have z := el_slR (K := K) h (eo_some h1) eo_none
  rw [cut_from, bl_drop] at z
  exact z
theorem flat_bl : ∀ l : List Nat, (bl l).all flatV = true
  | [] => rfl
  | _ :: r => by
    show (true && (bl r).all flatV) = true
    rw [Bool.true_and]
    exact flat_bl r
theorem inV_bl (k : Nat) : ∀ l : List Nat, inV (.int (k : Int)) (bl l) = decide (k ∈ l)
  | [] => by simp [inV, bl]
  | a :: r => by
    have ih := inV_bl k r
    show ((a : Int) == (k : Int) || inV (.int (k : Int)) (bl r)) = _
    rw [ih]
    by_cases h : k = a
    · subst h
      simp
    · have q : ¬ (a : Int) = (k : Int) := fun z => h (Int.ofNat.inj z).symm
      simp [h, q]
theorem rv_inB {t : Addr} {k : Nat} (h : SqT K H t (bl l)) : RV (rIn K false) (.int (k : Int)) (.ref t) H (.bl (decide (k ∈ l))) := by
  have z := rv_isT (x := .int (k : Int)) h rfl (flat_bl l)
  rw [inV_bl] at z
  exact z
theorem rv_niB {t : Addr} {k : Nat} (h : SqT K H t (bl l)) : RV (rIn K true) (.int (k : Int)) (.ref t) H (.bl (!decide (k ∈ l))) := by
  have z := rv_niT (x := .int (k : Int)) h rfl (flat_bl l)
  rw [inV_bl] at z
  exact z
theorem ev_lenB (ha : EvR ta σ H (bl l)) : Ev (tCB (rLenS K) (tCons ta tNil)) σ H (.int (l.length : Int)) := ev_is (ev_lenR ha) (by rw [bl_len])
theorem ev_ixB {i n : Nat} (ha : EvR ta σ H (bl l)) (hb : Ev tb σ H (.int (i : Int))) (hi : l[i]? = some n) : Ev (tOp (rIxL K) ta tb) σ H (.int (n : Int)) := ev_ixN ha hb (by rw [bl_get, hi]; rfl)
end
end Cc
end
section
namespace Cc
open Sd27 (Card File Secret Kind Cmd isFolder)

/-! # The card as the program holds it, told in the specification's words -/
/-- a file of the program, field by field -/
structure PF where
  kind : Nat
  number : Nat
  short : Nat
  name : List Nat
  reading : Nat
  writing : Nat
  size : Nat
  content : List Nat
  length : Nat
  most : Nat
  records : List (List Nat)
  folder : Int
def kKind : Kind → Nat
  | .folder _ => 56
  | .plain _ => 1
  | .rows _ _ _ => 2
  | .round _ _ _ => 6
def kName : Kind → List Nat
  | .folder n => n
  | _ => []
def kSize : Kind → Nat
  | .plain b => b.length
  | _ => 0
def kBytes : Kind → List Nat
  | .plain b => b
  | _ => []
def kLen : Kind → Nat
  | .rows n _ _ => n
  | .round n _ _ => n
  | _ => 0
def kMost : Kind → Nat
  | .rows _ m _ => m
  | .round _ m _ => m
  | _ => 0
def kRecs : Kind → List (List Nat)
  | .rows _ _ l => l
  | .round _ _ l => l
  | _ => []
def upOf (i : Nat) (f : File) : Int := if i = 0 then -1 else (f.up : Int)
def pfOf (i : Nat) (f : File) : PF := ⟨kKind f.kind, f.id, f.short, kName f.kind, f.read, f.write, kSize f.kind, kBytes f.kind, kLen f.kind, kMost f.kind, kRecs f.kind, upOf i f⟩
theorem kKind_folder {f : File} : kKind f.kind = 56 ↔ isFolder f = true := by
  unfold isFolder kKind
  cases f.kind <;> simp
def bytes (l : List Nat) : Prop := ∀ x ∈ l, x < 256
/-- what is always so of a file -/
structure FOk (f : File) : Prop where
  id : f.id < 65536
  short : f.short ≤ 30
  dir : isFolder f = true → f.short = 0
  read : f.read ≤ 15
  write : f.write ≤ 15
  name : (kName f.kind).length ≤ 16
  size : kSize f.kind ≤ 16384
  len : kLen f.kind ≤ 255
  most : kMost f.kind ≤ 255
  recs : (kRecs f.kind).length ≤ kMost f.kind
  rlen : ∀ r ∈ kRecs f.kind, r.length = kLen f.kind
  pos : (kKind f.kind = 2 ∨ kKind f.kind = 6) → 1 ≤ kLen f.kind ∧ 1 ≤ kMost f.kind
structure SOk (s : Secret) : Prop where
  left : s.left ≤ s.most
  most : s.most ≤ 15
  free : s.freeLeft ≤ 15
  word : s.word.length = 8
  freer : s.free.length = 8
def topF : File := ⟨Sd27.TOP, 0, 0, .folder [], 0, 0⟩
/-- what is always so of a card -/
structure Good (c : Card) : Prop where
  len : c.files.length ≤ 64
  top : c.at_ 0 = some topF
  ok : ∀ i f, c.at_ i = some f → FOk f
  up : ∀ i f, c.at_ i = some f → ∃ g, c.at_ f.up = some g ∧ isFolder g = true
  dir : ∃ g, c.at_ c.folder = some g ∧ isFolder g = true
  file : ∀ i, c.file = some i → ∃ f, c.at_ i = some f ∧ isFolder f = false ∧ f.up = c.folder
  sec : c.secrets.length = 8
  sok : ∀ (k : Nat) s, c.secrets[k]? = some (some s) → SOk s
  told : ∀ k ∈ c.told, 1 ≤ k ∧ k ≤ 8 ∧ ∃ s, c.secrets[k - 1]? = some (some s)
theorem at_lt {c : Card} (g : Good c) {i : Nat} {f : File} (h : c.at_ i = some f) : i < 64 := by
  have hl := g.len
  unfold Card.at_ at h
  cases e : c.files[i]? with
  | none =>
    rw [e] at h
    cases h
  | some x => exact Nat.lt_of_lt_of_le (List.getElem?_eq_some_iff.mp e).1 hl

/-! ## the helpers' answers -/
def isIn (c : Card) (d i : Nat) : Bool := match c.at_ i with
  | some f => decide (i ≠ 0 ∧ f.up = d)
  | none => false
def insIx (c : Card) (d : Nat) : List Nat := (List.range 64).filter (isIn c d)
theorem ins_at {c : Card} {d i : Nat} (h : i ∈ insIx c d) : ∃ f, c.at_ i = some f ∧ i < 64 := by
  obtain ⟨h1, h2⟩ := List.mem_filter.mp h
  unfold isIn at h2
  cases e : c.at_ i with
  | none =>
    rw [e] at h2
    cases h2
  | some f => exact ⟨f, rfl, List.mem_range.mp h1⟩
def numAt (c : Card) (i : Nat) : Nat := ((c.at_ i).map (·.id)).getD 0
def shortAt (c : Card) (i : Nat) : Nat := ((c.at_ i).map (·.short)).getD 0
def findNum (c : Card) (d n : Nat) : Option Nat := (insIx c d).find? fun i => decide (numAt c i = n)
def findShort (c : Card) (s : Nat) : Option Nat := (insIx c c.folder).find? fun i => decide (shortAt c i = s)
def hasName (c : Card) (nm : List Nat) (i : Nat) : Bool := match c.at_ i with
  | some f => decide (0 < (kName f.kind).length) && decide (kName f.kind = nm)
  | none => false
def findName (c : Card) (nm : List Nat) : Option Nat := (List.range 64).find? (hasName c nm)
def freeIx (c : Card) : Option Nat := (List.range 64).find? fun i => (c.at_ i).isNone
def pfRoom (f : PF) : Nat := 32 + f.name.length + f.size + f.length * f.most
def roomAt (c : Card) (i : Nat) : Nat := match c.at_ i with
  | some f => pfRoom (pfOf i f)
  | none => 0
def allRoom (c : Card) : Nat := ((List.range 64).map (roomAt c)).sum
def clash (c : Card) (g : PF) : Bool := ((findNum c c.folder g.number).isSome || (findName c g.name).isSome) || (decide (g.short ≠ 0) && (findShort c g.short).isSome)
def hasRoom (c : Card) (g : PF) : Bool := decide (pfRoom g + allRoom c ≤ 16384) && (freeIx c).isSome
def chooseIx (c : Card) (i : Nat) : Card := match c.at_ i with
  | some f => if isFolder f = true then { c with folder := i, file := none } else { c with folder := f.up, file := some i }
  | none => c
def oi : Option Nat → Int
  | none => -1
  | some n => n
theorem oi_inj {a b : Option Nat} (h : oi a = oi b) : a = b := by
  cases a <;> cases b <;> simp [oi] at h ⊢ <;> omega
def findNear (c : Card) (n : Nat) : Option Nat :=
  if n = 16128 then some 0 else match findNum c c.folder n with
    | some i => some i
    | none => if c.folder = 0 then none else match c.at_ c.folder with
      | some f => if numAt c f.up = n then some f.up else none
      | none => none
def findPath (c : Card) : Nat → List Nat → Option Nat
  | i, x :: y :: r => match findNum c i (x * 256 + y) with
    | some j => findPath c j r
    | none => none
  | i, _ => some i
def choiceStatus (k : Cmd) : Nat :=
  if ¬ (k.p2 = 0 ∨ k.p2 = 12) then 0x6A86
  else if k.p1 = 0 then (if k.data.length = 2 then 0x9000 else 0x6700)
  else if k.p1 = 4 then (if 1 ≤ k.data.length ∧ k.data.length ≤ 16 then 0x9000 else 0x6700)
  else if k.p1 = 8 then (if 0 < k.data.length ∧ k.data.length % 2 = 0 then 0x9000 else 0x6700)
  else 0x6A86
def num2 : List Nat → Nat
  | x :: y :: _ => x * 256 + y
  | _ => 0
def findChoice (c : Card) (k : Cmd) : Option Nat :=
  if k.p1 = 0 then findNear c (num2 k.data) else if k.p1 = 4 then findName c k.data else findPath c 0 k.data
/-- what a file's field list says of it -/
def saidK (g : PF) : List Nat := 130 :: (if g.kind = 2 ∨ g.kind = 6 then [5, g.kind, 33, 0, g.length, g.records.length] else [1, g.kind])
def said (g : PF) : List Nat :=
  let l := saidK g ++ [131, 2, g.number / 256, g.number % 256] ++ (if g.kind = 1 then [128, 2, g.size / 256, g.size % 256] else []) ++ (if 0 < g.name.length then 132 :: g.name.length :: g.name else []) ++
    (if g.short ≠ 0 then [136, 1, g.short] else []) ++ [140, 2, g.reading, g.writing]
  98 :: l.length :: l
/-- choosing, as the program goes -/
def mChoose (c : Card) (k : Cmd) : Card × (List Nat × Nat) :=
  if choiceStatus k ≠ 0x9000 then (c, ([], choiceStatus k)) else match findChoice c k with
    | none => (c, ([], 0x6A82))
    | some i => match c.at_ i with
      | none => (c, ([], 0))
      | some f => if k.p2 = 0 ∧ k.want ≠ none then
          (if k.want.getD 0 < (said (pfOf i f)).length then (c, ([], 0x6C00 + (said (pfOf i f)).length)) else (chooseIx c i, (said (pfOf i f), 0x9000)))
        else (chooseIx c i, ([], 0x9000))
/-- the file that is aimed at: the card behind it, the status -/
def tailAim (d : Card) (kinds : List Nat) (writes : Bool) : Nat := match d.file with
  | none => 0x6986
  | some i => match d.at_ i with
    | none => 0x6986
    | some f => if kKind f.kind ∈ kinds then (if d.may (if writes = true then f.write else f.read) = true then 0x9000 else 0x6982) else 0x6981
def aimed (c : Card) (short : Nat) : Option Card := if short = 0 then some c else (findShort c short).map (chooseIx c)
def mAim (c : Card) (short : Nat) (kinds : List Nat) (writes : Bool) : Card × Nat := match aimed c short with
  | none => (c, 0x6A82)
  | some d => (d, tailAim d kinds writes)
def wantI : Option Nat → Nat
  | none => 0
  | some n => n
/-! ## the commands, as the program goes -/
abbrev Out := Card × (List Nat × Nat)
def out (c : Card) (w : Nat) : Out := (c, ([], w))
def theFile (c : Card) : Option (Nat × File) := c.file.bind fun i => (c.at_ i).map fun f => (i, f)
def mAimB (c : Card) (k : Cmd) (w : Bool) : Card × Nat := if k.p1 = 128 ∨ 159 < k.p1 then (c, 0x6A86) else mAim c (if 128 < k.p1 then k.p1 - 128 else 0) [1] w
def placeOf (k : Cmd) : Nat := if 128 < k.p1 then k.p2 else k.p1 * 256 + k.p2
/-- whether a place is behind the end -/
def behind (size place : Nat) : Bool := decide (size < place)
def mReadB (c : Card) (k : Cmd) : Out :=
  let s := mAimB c k false
  if s.2 ≠ 0x9000 then out s.1 s.2 else if 0 < k.data.length ∨ wantI k.want = 0 then out s.1 0x6700 else match theFile s.1 with
    | none => out s.1 0
    | some x => if behind (kSize x.2.kind) (placeOf k) = true then out s.1 0x6B00 else
      let t := ((kBytes x.2.kind).drop (placeOf k)).take (wantI k.want)
      (s.1, (t, if t.length < wantI k.want ∧ wantI k.want ≠ 256 then 0x6282 else 0x9000))
def mWriteB (c : Card) (k : Cmd) : Out :=
  let s := mAimB c k true
  if s.2 ≠ 0x9000 then out s.1 s.2 else if k.data.length = 0 ∨ wantI k.want ≠ 0 then out s.1 0x6700 else match theFile s.1 with
    | none => out s.1 0
    | some x => if behind (kSize x.2.kind) (placeOf k) = true then out s.1 0x6B00 else if kSize x.2.kind < placeOf k + k.data.length then out s.1 0x6A84 else
      out (s.1.put x.1 (some { x.2 with kind := .plain ((kBytes x.2.kind).take (placeOf k) ++ k.data ++ (kBytes x.2.kind).drop (placeOf k + k.data.length)) })) 0x9000
def mAimR (c : Card) (k : Cmd) (low : Nat) (w : Bool) : Card × Nat := if k.p2 % 8 ≠ low ∨ k.p2 / 8 = 31 then (c, 0x6A86) else mAim c (k.p2 / 8) [2, 6] w
def isThere (f : File) (n : Nat) : Bool := decide (1 ≤ n) && decide (n ≤ (kRecs f.kind).length)
def brings (k : Cmd) (n : Nat) : Bool := decide (wantI k.want = 0) && decide (k.data.length = n)
def mReadR (c : Card) (k : Cmd) : Out :=
  let s := mAimR c k 4 false
  if s.2 ≠ 0x9000 then out s.1 s.2 else if 0 < k.data.length then out s.1 0x6700 else match theFile s.1 with
    | none => out s.1 0
    | some x => if isThere x.2 k.p1 = false then out s.1 0x6A83 else if wantI k.want = 0 then out s.1 0x6700
      else if ¬ (wantI k.want = 256 ∨ wantI k.want = kLen x.2.kind) then out s.1 (0x6C00 + kLen x.2.kind)
      else (s.1, ((kRecs x.2.kind).getD (k.p1 - 1) [], 0x9000))
def mWriteR (c : Card) (k : Cmd) : Out :=
  let s := mAimR c k 4 true
  if s.2 ≠ 0x9000 then out s.1 s.2 else match theFile s.1 with
    | none => out s.1 0
    | some x => if kKind x.2.kind = 6 then out s.1 0x6981 else if brings k (kLen x.2.kind) = false then out s.1 0x6700 else if isThere x.2 k.p1 = false then out s.1 0x6A83
      else out (s.1.put x.1 (some (Sd27.withRecords x.2 ((kRecs x.2.kind).set (k.p1 - 1) k.data)))) 0x9000
def mAddR (c : Card) (k : Cmd) : Out :=
  if k.p1 ≠ 0 then out c 0x6A86 else
  let s := mAimR c k 0 true
  if s.2 ≠ 0x9000 then out s.1 s.2 else match theFile s.1 with
    | none => out s.1 0
    | some x => if brings k (kLen x.2.kind) = false then out s.1 0x6700
      else if kKind x.2.kind = 6 then out (s.1.put x.1 (some (Sd27.withRecords x.2 ((k.data :: kRecs x.2.kind).take (kMost x.2.kind))))) 0x9000
      else if (kRecs x.2.kind).length = kMost x.2.kind then out s.1 0x6A84
      else out (s.1.put x.1 (some (Sd27.withRecords x.2 (kRecs x.2.kind ++ [k.data])))) 0x9000
/-! ## secrets -/
def aimS (k : Cmd) (first : Nat) (lens : List Nat) : Nat :=
  if k.p1 ≠ first ∨ ¬ (1 ≤ k.p2 ∧ k.p2 ≤ 8) then 0x6A86 else if wantI k.want ≠ 0 ∨ ¬ k.data.length ∈ lens then 0x6700 else 0x9000
def secOf (c : Card) (k : Nat) : Option Secret := c.secrets.getD (k - 1) none
def aimK (c : Card) (k : Cmd) (lens : List Nat) : Nat := if aimS k 0 lens = 0x9000 ∧ secOf c k.p2 = none then 0x6A88 else aimS k 0 lens
def mTell (c : Card) (k : Cmd) : Out :=
  if aimK c k [0, 8] ≠ 0x9000 then out c (aimK c k [0, 8]) else match secOf c k.p2 with
    | none => out c 0
    | some s =>
      if k.data.length = 0 then (if c.told.contains k.p2 = true then out c 0x9000 else if s.left = 0 then out c 0x6983 else out c (0x63C0 + s.left))
      else if s.left = 0 then out c 0x6983
      else if k.data ≠ s.word then out ((c.forget k.p2).keep k.p2 { s with left := s.left - 1 }) (0x63C0 + (s.left - 1))
      else out { (c.keep k.p2 { s with left := s.most }) with told := if c.told.contains k.p2 = true then c.told else c.told ++ [k.p2] } 0x9000
def renewed (c : Card) (k : Cmd) (s : Secret) : Out := out ((c.forget k.p2).keep k.p2 { s with word := k.data.drop 8, left := s.most }) 0x9000
def mChange (c : Card) (k : Cmd) : Out :=
  if aimK c k [16] ≠ 0x9000 then out c (aimK c k [16]) else match secOf c k.p2 with
    | none => out c 0
    | some s => if s.left = 0 then out c 0x6983
      else if k.data.take 8 ≠ s.word then out ((c.forget k.p2).keep k.p2 { s with left := s.left - 1 }) (0x63C0 + (s.left - 1))
      else renewed c k s
def mFree (c : Card) (k : Cmd) : Out :=
  if aimK c k [16] ≠ 0x9000 then out c (aimK c k [16]) else match secOf c k.p2 with
    | none => out c 0
    | some s => if s.freeLeft = 0 then out c 0x6983
      else if k.data.take 8 ≠ s.free then out (c.keep k.p2 { s with freeLeft := s.freeLeft - 1 }) (0x63C0 + (s.freeLeft - 1))
      else renewed c k s
def okTries (n : Nat) : Bool := decide (1 ≤ n) && decide (n ≤ 15)
def mSecret (c : Card) (k : Cmd) : Out :=
  if aimS k 1 [18] ≠ 0x9000 then out c (aimS k 1 [18]) else if c.active = true then out c 0x6985
  else if (k.data.drop 16).all okTries = false then out c 0x6A80
  else out (c.keep k.p2 ⟨k.data.take 8, k.data.getD 16 0, k.data.getD 16 0, (k.data.drop 8).take 8, k.data.getD 17 0⟩) 0x9000
/-! ## making and taking away -/
def mayMake (c : Card) : Bool := match c.at_ c.folder with
  | some f => c.may f.read
  | none => false
def mActivate (c : Card) (k : Cmd) : Out :=
  if (decide (k.p1 = 0) && decide (k.p2 = 0)) = false then out c 0x6A86 else if brings k 0 = false then out c 0x6700 else if c.active = true then out c 0x6985
  else out { c with active := true, told := [], folder := 0, file := none } 0x9000
def taken (c : Card) (i : Nat) : Card := { (c.put i none) with file := if c.file = some i then none else c.file }
def mTake (c : Card) (k : Cmd) : Out :=
  if (decide (k.p1 = 0) && decide (k.p2 = 0)) = false then out c 0x6A86 else if brings k 2 = false then out c 0x6700 else if mayMake c = false then out c 0x6982
  else match findNum c c.folder (num2 k.data) with
    | none => out c 0x6A82
    | some i => if 0 < (insIx c i).length then out c 0x6985 else out (taken c i) 0x9000
/-! ## what's wanted -/
def fieldsAux : Nat → List Nat → Option (List (Nat × List Nat))
  | _, [] => some []
  | _, [_] => none
  | 0, _ :: _ :: _ => none
  | n + 1, t :: l :: r => if r.length < l then none else (fieldsAux n (r.drop l)).map fun q => (t, r.take l) :: q
theorem fieldsAux_fuel : ∀ (n : Nat) (l : List Nat) (f : Nat), l.length ≤ n → l.length ≤ f → fieldsAux f l = fieldsAux l.length l
  | _, [], f, _, _ => by cases f <;> rfl
  | _, [_], f, _, _ => by cases f <;> rfl
  | 0, _ :: _ :: _, _, h, _ => absurd h (by simp)
  | n + 1, t :: k :: r, f, h, hf => by
    obtain ⟨f, rfl⟩ : ∃ g, f = g + 1 := ⟨f - 1, by simp at hf; omega⟩
    show (if r.length < k then none else (fieldsAux f (r.drop k)).map fun q => (t, r.take k) :: q) = (if r.length < k then none else (fieldsAux (r.length + 1) (r.drop k)).map fun q => (t, r.take k) :: q)
    simp only [List.length_cons] at h hf
    have hd : (r.drop k).length ≤ r.length := by rw [List.length_drop]; omega
    rw [fieldsAux_fuel n (r.drop k) f (by omega) (by omega), fieldsAux_fuel n (r.drop k) (r.length + 1) (by omega) (by omega)]
/-- one step -/
theorem fieldsAux_step (t k : Nat) (r : List Nat) : fieldsAux (t :: k :: r).length (t :: k :: r) = if r.length < k then none else (fieldsAux (r.drop k).length (r.drop k)).map fun q => (t, r.take k) :: q := by
  show (if r.length < k then none else (fieldsAux (r.length + 1) (r.drop k)).map fun q => (t, r.take k) :: q) = _
  rw [fieldsAux_fuel (r.drop k).length (r.drop k) (r.length + 1) (Nat.le_refl _) (by rw [List.length_drop]; omega)]
def fieldsOf (b : List Nat) : List (Nat × List Nat) := (fieldsAux b.length b).getD []
def innerFields (b : List Nat) : List (Nat × List Nat) := match fieldsOf b with
  | [(m, d)] => if m = 98 then fieldsOf d else []
  | _ => []
def recKind (k : Nat) : Bool := decide (k = 2) || decide (k = 6)
def kindRight (d : List Nat) : Bool :=
  if d.length = 1 then decide (d.getD 0 0 = 56) || decide (d.getD 0 0 = 1)
  else if d.length ≠ 5 ∨ recKind (d.getD 0 0) = false then false
  else decide (d.getD 1 0 = 33) && (decide (d.getD 2 0 = 0) && (decide (0 < d.getD 3 0) && decide (0 < d.getD 4 0)))
def rightRight (r : Nat) : Bool := decide (r ≤ 8) || decide (r = 15)
def contentRight (m : Nat) (d : List Nat) : Bool :=
  if m = 130 then kindRight d
  else if m = 132 then decide (1 ≤ d.length) && decide (d.length ≤ 16)
  else if m = 136 then decide (d.length = 1) && (decide (1 ≤ d.getD 0 0) && decide (d.getD 0 0 ≤ 30))
  else if d.length ≠ 2 then false
  else if m = 131 then !(decide (num2 d = 16128) || decide (num2 d = 65535))
  else if m = 140 then rightRight (d.getD 0 0) && rightRight (d.getD 1 0)
  else decide (m = 128)
/-- what is held behind some fields: the last one of a mark counts -/
def heldOf (l : List (Nat × List Nat)) (m : Nat) : Option (List Nat) := (l.reverse.find? fun x => decide (x.1 = m)).map (·.2)
theorem heldOf_snoc (l : List (Nat × List Nat)) (x : Nat × List Nat) (m : Nat) : heldOf (l ++ [x]) m = if x.1 = m then some x.2 else heldOf l m := by
  unfold heldOf
  rw [List.reverse_append]
  show (List.find? (fun y => decide (y.1 = m)) (x :: l.reverse)).map (·.2) = _
  rw [List.find?_cons]
  by_cases h : x.1 = m
  · rw [decide_eq_true h, if_pos h]
    rfl
  · rw [decide_eq_false h, if_neg h]
theorem heldOf_mem {l : List (Nat × List Nat)} {m : Nat} {d : List Nat} (h : heldOf l m = some d) : (m, d) ∈ l := by
  unfold heldOf at h
  cases e : l.reverse.find? (fun x => decide (x.1 = m)) with
  | none =>
    rw [e] at h
    cases h
  | some x =>
    rw [e] at h
    have h1 := List.find?_some e
    have h2 := List.mem_of_find?_eq_some e
    have h3 : x.1 = m := of_decide_eq_true h1
    have h4 : x.2 = d := Option.some.inj h
    rw [← h3, ← h4]
    exact List.mem_reverse.mp h2
theorem heldOf_some {l : List (Nat × List Nat)} {m : Nat} (h : m ∈ l.map (·.1)) : ∃ d, heldOf l m = some d := by
  obtain ⟨x, hx, hm⟩ := List.mem_map.mp h
  unfold heldOf
  cases e : l.reverse.find? (fun x => decide (x.1 = m)) with
  | none =>
    have z := List.find?_eq_none.mp e x (List.mem_reverse.mpr hx)
    simp [hm] at z
  | some y => exact ⟨y.2, rfl⟩
theorem right_kind {d : List Nat} (h : kindRight d = true) : 1 ≤ d.length ∧ (recKind (d.getD 0 0) = true → 5 ≤ d.length) := by
  unfold kindRight at h
  by_cases h1 : d.length = 1
  · rw [if_pos h1] at h
    refine ⟨by omega, fun z => ?_⟩
    unfold recKind at z
    simp only [Bool.or_eq_true, decide_eq_true_eq] at h z
    omega
  · rw [if_neg h1] at h
    by_cases h5 : d.length ≠ 5 ∨ recKind (d.getD 0 0) = false
    · rw [if_pos h5] at h
      cases h
    · have z : d.length = 5 := by
        by_cases y : d.length = 5
        · exact y
        · exact absurd (Or.inl y) h5
      omega
theorem right_two {m : Nat} {d : List Nat} (h : contentRight m d = true) (h1 : m ≠ 130) (h2 : m ≠ 132) (h3 : m ≠ 136) : d.length = 2 := by
  unfold contentRight at h
  rw [if_neg h1, if_neg h2, if_neg h3] at h
  by_cases z : d.length = 2
  · exact z
  · rw [if_pos z] at h
    cases h
theorem right_short {d : List Nat} (h : contentRight 136 d = true) : d.length = 1 := by
  unfold contentRight at h
  rw [if_neg (by decide), if_neg (by decide), if_pos rfl] at h
  simp at h
  exact h.1
def marksOrder (kind : Nat) (has : Nat → Bool) : List Nat :=
  [130, 131] ++ (if kind = 1 then [128] else []) ++ (if has (if kind = 56 then 132 else 136) = true then [if kind = 56 then 132 else 136] else []) ++ [140]
def fileOf (h : Nat → Option (List Nat)) : PF :=
  let kd := (h 130).getD []
  let rt := (h 140).getD []
  ⟨kd.getD 0 0, num2 ((h 131).getD []), (match h 136 with | some d => d.getD 0 0 | none => 0), (h 132).getD [], rt.getD 0 0, rt.getD 1 0, (match h 128 with | some d => num2 d | none => 0), [],
    if recKind (kd.getD 0 0) = true then kd.getD 3 0 else 0, if recKind (kd.getD 0 0) = true then kd.getD 4 0 else 0, [], -1⟩
def wantedOf (l : List (Nat × List Nat)) : Option PF :=
  if l.all (fun x => contentRight x.1 x.2) = false then none
  else match heldOf l 130 with
    | none => none
    | some kd => if l.map (·.1) ≠ marksOrder (kd.getD 0 0) (fun m => (heldOf l m).isSome) then none else some (fileOf (heldOf l))
def wantedPF (b : List Nat) : Option PF := wantedOf (innerFields b)
/-- the file that such a thing becomes in a folder -/
def kindOf (g : PF) : Kind := if g.kind = 56 then .folder g.name else if g.kind = 1 then .plain (List.replicate g.size 0) else if g.kind = 2 then .rows g.length g.most [] else .round g.length g.most []
def toFile (g : PF) (up : Nat) : File := ⟨g.number, up, g.short, kindOf g, g.reading, g.writing⟩
def putFile (c : Card) (j : Nat) (f : File) : Card := { c with files := if j < c.files.length then c.files.set j (some f) else c.files ++ [some f] }
def mMake (c : Card) (k : Cmd) : Out :=
  if (decide (k.p1 = 0) && decide (k.p2 = 0)) = false then out c 0x6A86 else if k.data.length = 0 ∨ wantI k.want ≠ 0 then out c 0x6700 else if mayMake c = false then out c 0x6982
  else match wantedPF k.data with
    | none => out c 0x6A80
    | some g => if clash c g = true then out c 0x6A89 else if hasRoom c g = false then out c 0x6A84
      else match freeIx c with
        | none => out c 0
        | some j => out (chooseIx (putFile c j (toFile g c.folder)) j) 0x9000
/-! ## the whole -/
def readCmd (b : List Nat) : Option Cmd := Sd27.cmd b
def mObey (c : Card) (b : List Nat) : Out := match Sd27.cmd b with
  | none => out c 0x6700
  | some k => if k.cla ≠ 0 then out c 0x6E00
    else if k.ins = 0xA4 then mChoose c k else if k.ins = 0xB0 then mReadB c k else if k.ins = 0xD6 then mWriteB c k
    else if k.ins = 0xB2 then mReadR c k else if k.ins = 0xDC then mWriteR c k else if k.ins = 0xE2 then mAddR c k
    else if k.ins = 0x20 then mTell c k else if k.ins = 0x24 then mChange c k else if k.ins = 0x2C then mFree c k else if k.ins = 0xDA then mSecret c k
    else if k.ins = 0xE0 then mMake c k else if k.ins = 0xE4 then mTake c k else if k.ins = 0x44 then mActivate c k
    else out c 0x6D00
end Cc
end
section
namespace Cc
open Sd27 (Card File Secret Kind Cmd isFolder)
theorem good_blank : Good Sd27.blank := by
  refine ⟨by decide, rfl, fun i f h => ?_, fun i f h => ?_, ⟨topF, rfl, rfl⟩, fun i h => (by cases h), rfl, fun k s h => ?_, fun k h => (by cases h)⟩
  · have z : i = 0 ∧ f = topF := by
      match i, h with
      | 0, h => exact ⟨rfl, (Option.some.inj h).symm⟩
      | n + 1, h => cases h
    rw [z.2]
    exact ⟨by decide, by decide, fun _ => rfl, by decide, by decide, by decide, by decide, by decide, by decide, by decide, fun r hr => (by cases hr), fun z => by rcases z with z | z <;> cases z⟩
  · have z : i = 0 ∧ f = topF := by
      match i, h with
      | 0, h => exact ⟨rfl, (Option.some.inj h).symm⟩
      | n + 1, h => cases h
    rw [z.2]
    exact ⟨topF, rfl, rfl⟩
  · have : (List.replicate 8 (none : Option Secret))[k]? = some (some s) := h
    rw [List.getElem?_replicate] at this
    split at this <;> cases this
theorem good_choose {c : Card} {i : Nat} {f : File} (g : Good c) (h : c.at_ i = some f) : Good (chooseIx c i) := by
  unfold chooseIx
  rw [h]
  show Good (if isFolder f = true then { c with folder := i, file := none } else { c with folder := f.up, file := some i })
  by_cases hd : isFolder f = true
  · rw [if_pos hd]
    exact ⟨g.len, g.top, g.ok, g.up, ⟨f, h, hd⟩, fun j hj => (by cases hj), g.sec, g.sok, g.told⟩
  · rw [if_neg hd]
    refine ⟨g.len, g.top, g.ok, g.up, g.up i f h, fun j hj => ?_, g.sec, g.sok, g.told⟩
    cases hj
    exact ⟨f, h, by simpa using hd, rfl⟩
theorem findNum_at {c : Card} {d n i : Nat} (h : findNum c d n = some i) : ∃ f, c.at_ i = some f ∧ i < 64 :=
  ins_at (List.mem_of_find?_eq_some h)
theorem findShort_at {c : Card} {s i : Nat} (h : findShort c s = some i) : ∃ f, c.at_ i = some f ∧ i < 64 :=
  ins_at (List.mem_of_find?_eq_some h)
theorem findName_at {c : Card} {nm : List Nat} {i : Nat} (h : findName c nm = some i) : ∃ f, c.at_ i = some f ∧ i < 64 := by
  have h1 := List.find?_some h
  have h2 := List.mem_of_find?_eq_some h
  unfold hasName at h1
  cases e : c.at_ i with
  | none =>
    rw [e] at h1
    cases h1
  | some f => exact ⟨f, rfl, List.mem_range.mp h2⟩
theorem findNear_at {c : Card} {n i : Nat} (g : Good c) (h : findNear c n = some i) : ∃ f, c.at_ i = some f ∧ i < 64 := by
  unfold findNear at h
  by_cases h1 : n = 16128
  · rw [if_pos h1] at h
    cases h
    exact ⟨topF, g.top, by decide⟩
  · rw [if_neg h1] at h
    cases e : findNum c c.folder n with
    | some j =>
      rw [e] at h
      cases h
      exact findNum_at e
    | none =>
      rw [e] at h
      have h : (if c.folder = 0 then none else match c.at_ c.folder with
        | some f => if numAt c f.up = n then some f.up else none
        | none => none) = some i := h
      by_cases h2 : c.folder = 0
      · rw [if_pos h2] at h
        cases h
      · rw [if_neg h2] at h
        obtain ⟨fo, hf, _⟩ := g.dir
        rw [hf] at h
        have h : (if numAt c fo.up = n then some fo.up else none) = some i := h
        by_cases h3 : numAt c fo.up = n
        · rw [if_pos h3] at h
          cases h
          obtain ⟨u, hu, _⟩ := g.up _ _ hf
          exact ⟨u, hu, at_lt g hu⟩
        · rw [if_neg h3] at h
          cases h
theorem findPath_at {c : Card} : ∀ (n : Nat) (l : List Nat) (i j : Nat), l.length ≤ n → (∃ f, c.at_ i = some f ∧ i < 64) → findPath c i l = some j → ∃ f, c.at_ j = some f ∧ j < 64
  | _, [], i, j, _, hi, h => by
    have h : some i = some j := h
    cases h
    exact hi
  | _, [_], i, j, _, hi, h => by
    have h : some i = some j := h
    cases h
    exact hi
  | 0, _ :: _ :: _, _, _, hn, _, _ => absurd hn (by simp)
  | n + 1, x :: y :: r, i, j, hn, hi, h => by
    rw [findPath] at h
    cases e : findNum c i (x * 256 + y) with
    | none =>
      rw [e] at h
      cases h
    | some q =>
      rw [e] at h
      exact findPath_at n r q j (by simp at hn; omega) (findNum_at e) h
theorem findChoice_at {c : Card} {k : Cmd} {i : Nat} (g : Good c) (h : findChoice c k = some i) : ∃ f, c.at_ i = some f ∧ i < 64 := by
  unfold findChoice at h
  split at h
  · exact findNear_at g h
  · split at h
    · exact findName_at h
    · exact findPath_at _ _ 0 i (Nat.le_refl _) ⟨topF, g.top, by decide⟩ h
theorem top_folder {c : Card} (g : Good c) {i : Nat} {f : File} (h : c.at_ i = some f) (h0 : i = 0) : isFolder f = true := by
  subst h0
  rw [g.top] at h
  cases h
  rfl
theorem good_aimed {c d : Card} {s : Nat} (g : Good c) (h : aimed c s = some d) : Good d := by
  unfold aimed at h
  split at h
  · cases h
    exact g
  · cases e : findShort c s with
    | none =>
      rw [e] at h
      cases h
    | some i =>
      rw [e] at h
      cases h
      obtain ⟨f, hf, _⟩ := findShort_at e
      exact good_choose g hf
theorem good_mAim {c : Card} {s : Nat} {ks : List Nat} {w : Bool} (g : Good c) : Good (mAim c s ks w).1 := by
  unfold mAim
  cases e : aimed c s with
  | none => exact g
  | some d => exact good_aimed g e
/-- behind an aim that went well there is a file -/
theorem tail_file {d : Card} {ks : List Nat} {w : Bool} (h : tailAim d ks w = 0x9000) : ∃ i f, d.file = some i ∧ d.at_ i = some f ∧ kKind f.kind ∈ ks ∧ theFile d = some (i, f) := by
  unfold tailAim at h
  cases e : d.file with
  | none =>
    rw [e] at h
    cases h
  | some i =>
    rw [e] at h
    have h : (match d.at_ i with
      | none => 0x6986
      | some f => if kKind f.kind ∈ ks then (if d.may (if w = true then f.write else f.read) = true then 0x9000 else 0x6982) else 0x6981) = 0x9000 := h
    cases e2 : d.at_ i with
    | none =>
      rw [e2] at h
      cases h
    | some f =>
      rw [e2] at h
      have h : (if kKind f.kind ∈ ks then (if d.may (if w = true then f.write else f.read) = true then 0x9000 else 0x6982) else 0x6981) = 0x9000 := h
      refine ⟨i, f, rfl, e2, ?_, ?_⟩
      · by_cases z : kKind f.kind ∈ ks
        · exact z
        · rw [if_neg z] at h
          cases h
      · unfold theFile
        rw [e]
        show (d.at_ i).map _ = _
        rw [e2]
        rfl
theorem mAim_file {c : Card} {s : Nat} {ks : List Nat} {w : Bool} (h : (mAim c s ks w).2 = 0x9000) : ∃ i f, (mAim c s ks w).1.file = some i ∧ (mAim c s ks w).1.at_ i = some f ∧ kKind f.kind ∈ ks ∧ theFile (mAim c s ks w).1 = some (i, f) := by
  unfold mAim at h ⊢
  cases e : aimed c s with
  | none =>
    rw [e] at h
    cases h
  | some d =>
    rw [e] at h
    exact tail_file h
theorem said_len {g : PF} (h : g.name.length ≤ 16) : (said g).length ≤ 100 := by
  unfold said saidK
  simp only [List.length_append, List.length_cons, List.length_nil]
  split <;> split <;> split <;> split <;> simp only [List.length_cons, List.length_nil] <;> omega
end Cc
namespace Cc
open Sd27 (Card File Secret Kind Cmd isFolder)
/-- what is known of a file that's wanted -/
structure PFOk (g : PF) : Prop where
  kind : g.kind = 56 ∨ g.kind = 1 ∨ g.kind = 2 ∨ g.kind = 6
  number : g.number < 65536
  short : g.short ≤ 30
  dir : g.kind = 56 → g.short = 0
  read : g.reading ≤ 15
  write : g.writing ≤ 15
  nlen : g.name.length ≤ 16
  name : g.kind ≠ 56 → g.name = []
  size : g.kind ≠ 1 → g.size = 0
  len : g.length ≤ 255
  most : g.most ≤ 255
  rec0 : g.kind ≠ 2 → g.kind ≠ 6 → g.length = 0 ∧ g.most = 0
  rec1 : g.kind = 2 ∨ g.kind = 6 → 1 ≤ g.length ∧ 1 ≤ g.most
  recs : g.records = []
theorem pf_toFile {g : PF} {up : Nat} (o : PFOk g) : pfOf 1 (toFile g up) = { g with folder := (up : Int), content := List.replicate g.size 0 } := by
  obtain ⟨kind, number, short, name, reading, writing, size, content, length, most, records, folder⟩ := g
  have h1 := o.name
  have h2 := o.size
  have h3 := o.rec0
  have h4 := o.recs
  have h5 := o.kind
  simp only at h1 h2 h3 h4 h5
  subst h4
  rcases h5 with rfl | rfl | rfl | rfl
  · have a := h2 (by decide)
    obtain ⟨b, c⟩ := h3 (by decide) (by decide)
    subst a b c
    rfl
  · have a := h1 (by decide)
    obtain ⟨b, c⟩ := h3 (by decide) (by decide)
    subst a b c
    show PF.mk 1 number short [] reading writing (List.replicate size 0).length (List.replicate size 0) 0 0 [] (up : Int) = PF.mk 1 number short [] reading writing size (List.replicate size 0) 0 0 [] (up : Int)
    rw [List.length_replicate]
  · have a := h1 (by decide)
    have b := h2 (by decide)
    subst a b
    rfl
  · have a := h1 (by decide)
    have b := h2 (by decide)
    subst a b
    rfl
theorem heldOf_none {l : List (Nat × List Nat)} {m : Nat} (h : ¬ m ∈ l.map (·.1)) : heldOf l m = none := by
  cases e : heldOf l m with
  | none => rfl
  | some d => exact absurd (List.mem_map.mpr ⟨_, heldOf_mem e, rfl⟩) h
theorem fieldsAux_mem : ∀ (n : Nat) (q : List Nat) (r : List (Nat × List Nat)), fieldsAux n q = some r → ∀ x ∈ r, ∀ y ∈ x.2, y ∈ q
  | _, [], r, h, x, hx => by
    have h : some [] = some r := by cases ‹Nat› <;> exact h
    cases h
    cases hx
  | 0, [_], _, h, _, _ => by cases h
  | _ + 1, [_], _, h, _, _ => by cases h
  | 0, _ :: _ :: _, _, h, _, _ => by cases h
  | n + 1, t :: k :: s, r, h, x, hx => by
    have h : (if s.length < k then none else (fieldsAux n (s.drop k)).map fun q => (t, s.take k) :: q) = some r := h
    by_cases z : s.length < k
    · rw [if_pos z] at h
      cases h
    · rw [if_neg z] at h
      cases e : fieldsAux n (s.drop k) with
      | none =>
        rw [e] at h
        cases h
      | some r2 =>
        rw [e] at h
        have h : (t, s.take k) :: r2 = r := Option.some.inj h
        subst h
        intro y hy
        rcases List.mem_cons.mp hx with rfl | hx
        · exact List.mem_cons_of_mem _ (List.mem_cons_of_mem _ (List.mem_of_mem_take hy))
        · exact List.mem_cons_of_mem _ (List.mem_cons_of_mem _ (List.mem_of_mem_drop (fieldsAux_mem n _ r2 e x hx y hy)))
theorem fieldsOf_mem {q : List Nat} {x : Nat × List Nat} (hx : x ∈ fieldsOf q) : ∀ y ∈ x.2, y ∈ q := by
  unfold fieldsOf at hx
  cases e : fieldsAux q.length q with
  | none =>
    rw [e] at hx
    cases hx
  | some r =>
    rw [e] at hx
    exact fieldsAux_mem _ _ _ e x hx
theorem innerFields_mem {q : List Nat} {x : Nat × List Nat} (hx : x ∈ innerFields q) : ∀ y ∈ x.2, y ∈ q := by
  unfold innerFields at hx
  match hf : fieldsOf q, hx with
  | [(m, d)], hx =>
    have hx : x ∈ (if m = 98 then fieldsOf d else []) := hx
    by_cases z : m = 98
    · rw [if_pos z] at hx
      intro y hy
      have h1 := fieldsOf_mem hx y hy
      exact fieldsOf_mem (x := (m, d)) (by rw [hf]; exact List.mem_singleton.mpr rfl) y h1
    · rw [if_neg z] at hx
      cases hx
  | [], hx => cases hx
  | _ :: _ :: _, hx => cases hx
theorem getD_lt {l : List Nat} (h : ∀ x ∈ l, x < 256) (i : Nat) : l.getD i 0 < 256 := by
  rw [List.getD_eq_getElem?_getD]
  cases e : l[i]? with
  | none => exact Nat.zero_lt_succ _
  | some x => exact h x (List.mem_of_getElem? e)
theorem num2_lt {l : List Nat} (h : ∀ x ∈ l, x < 256) : num2 l < 65536 := by
  match l, h with
  | [], _ => decide
  | [_], _ => show 0 < 65536; decide
  | x :: y :: r, h =>
    have h1 := h x (List.mem_cons_self ..)
    have h2 := h y (List.mem_cons_of_mem _ (List.mem_cons_self ..))
    show x * 256 + y < 65536
    omega
theorem wanted_ok {b : List Nat} {g : PF} (h : wantedPF b = some g) (hb : ∀ x ∈ b, x < 256) : PFOk g := by
  unfold wantedPF at h
  have hm : ∀ x ∈ innerFields b, ∀ y ∈ x.2, y < 256 := fun x hx y hy => hb y (innerFields_mem hx y hy)
  generalize innerFields b = L at h hm
  unfold wantedOf at h
  by_cases h1 : (L.all fun x => contentRight x.1 x.2) = false
  · rw [if_pos h1] at h
    cases h
  · rw [if_neg h1] at h
    have hall : ∀ x ∈ L, contentRight x.1 x.2 = true := by
      rw [Bool.not_eq_false] at h1
      exact List.all_eq_true.mp h1
    cases hk : heldOf L 130 with
    | none =>
      rw [hk] at h
      cases h
    | some kd =>
      rw [hk] at h
      have h : (if L.map (·.1) ≠ marksOrder (kd.getD 0 0) (fun m => (heldOf L m).isSome) then none else some (fileOf (heldOf L))) = some g := h
      by_cases h2 : L.map (·.1) ≠ marksOrder (kd.getD 0 0) (fun m => (heldOf L m).isSome)
      · rw [if_pos h2] at h
        cases h
      · rw [if_neg h2] at h
        have h2 : L.map (·.1) = marksOrder (kd.getD 0 0) (fun m => (heldOf L m).isSome) := Decidable.byContradiction h2
        have hg : fileOf (heldOf L) = g := Option.some.inj h
        have rt : ∀ {m d}, heldOf L m = some d → contentRight m d = true := fun e => hall _ (heldOf_mem e)
        have by_ : ∀ {m d}, heldOf L m = some d → ∀ y ∈ d, y < 256 := fun e => hm _ (heldOf_mem e)
        have kr : kindRight kd = true := rt hk
        have gk : g.kind = kd.getD 0 0 := by
          rw [← hg]
          show ((heldOf L 130).getD []).getD 0 0 = _
          rw [hk]
          rfl
        have in132 : kd.getD 0 0 ≠ 56 → heldOf L 132 = none := fun z => heldOf_none (by rw [h2]; unfold marksOrder; rw [if_neg z]; split <;> split <;> simp)
        have in128 : kd.getD 0 0 ≠ 1 → heldOf L 128 = none := fun z => heldOf_none (by rw [h2]; unfold marksOrder; rw [if_neg z]; split <;> split <;> simp)
        have in136 : kd.getD 0 0 = 56 → heldOf L 136 = none := fun z => heldOf_none (by rw [h2, z]; unfold marksOrder; split <;> simp)
        obtain ⟨d131, e131⟩ := heldOf_some (l := L) (m := 131) (by rw [h2]; simp [marksOrder])
        obtain ⟨d140, e140⟩ := heldOf_some (l := L) (m := 140) (by rw [h2]; simp [marksOrder])
        have r140 : (rightRight (d140.getD 0 0) && rightRight (d140.getD 1 0)) = true := by
          have z := rt e140
          have z2 : d140.length = 2 := right_two z (by decide) (by decide) (by decide)
          unfold contentRight at z
          rw [if_neg (by decide), if_neg (by decide), if_neg (by decide), if_neg (by omega), if_neg (by decide), if_pos rfl] at z
          exact z
        rw [Bool.and_eq_true] at r140
        have rr : ∀ {n : Nat}, rightRight n = true → n ≤ 15 := fun {n} z => by
          unfold rightRight at z
          simp only [Bool.or_eq_true, decide_eq_true_eq] at z
          omega
        have kinds : kd.getD 0 0 = 56 ∨ kd.getD 0 0 = 1 ∨ kd.getD 0 0 = 2 ∨ kd.getD 0 0 = 6 := by
          unfold kindRight at kr
          by_cases z : kd.length = 1
          · rw [if_pos z] at kr
            simp only [Bool.or_eq_true, decide_eq_true_eq] at kr
            omega
          · rw [if_neg z] at kr
            by_cases y : kd.length ≠ 5 ∨ recKind (kd.getD 0 0) = false
            · rw [if_pos y] at kr
              cases kr
            · have q : recKind (kd.getD 0 0) = true := by
                rw [← Bool.not_eq_false]
                exact fun w => y (Or.inr w)
              unfold recKind at q
              simp only [Bool.or_eq_true, decide_eq_true_eq] at q
              omega
        have recs : recKind (kd.getD 0 0) = true → 0 < kd.getD 3 0 ∧ 0 < kd.getD 4 0 := fun q => by
          have l5 := (right_kind kr).2 q
          unfold kindRight at kr
          rw [if_neg (by omega)] at kr
          by_cases y : kd.length ≠ 5 ∨ recKind (kd.getD 0 0) = false
          · rw [if_pos y] at kr
            cases kr
          · rw [if_neg y] at kr
            simp only [Bool.and_eq_true, decide_eq_true_eq] at kr
            exact kr.2.2
        have glen : g.length = if recKind (kd.getD 0 0) = true then kd.getD 3 0 else 0 := by
          rw [← hg]
          show (if recKind (((heldOf L 130).getD []).getD 0 0) = true then ((heldOf L 130).getD []).getD 3 0 else 0) = _
          rw [hk]
          rfl
        have gmost : g.most = if recKind (kd.getD 0 0) = true then kd.getD 4 0 else 0 := by
          rw [← hg]
          show (if recKind (((heldOf L 130).getD []).getD 0 0) = true then ((heldOf L 130).getD []).getD 4 0 else 0) = _
          rw [hk]
          rfl
        have gshort : g.short = match heldOf L 136 with | some d => d.getD 0 0 | none => 0 := by rw [← hg]; rfl
        have gsize : g.size = match heldOf L 128 with | some d => num2 d | none => 0 := by rw [← hg]; rfl
        have gname : g.name = (heldOf L 132).getD [] := by rw [← hg]; rfl
        have kb := by_ hk
        refine ⟨by rw [gk]; exact kinds, ?_, ?_, fun z => ?_, ?_, ?_, ?_, fun z => ?_, fun z => ?_, ?_, ?_, fun z1 z2 => ?_, fun z => ?_, by rw [← hg]; rfl⟩
        · rw [← hg]
          show num2 ((heldOf L 131).getD []) < 65536
          rw [e131]
          exact num2_lt (by_ e131)
        · rw [gshort]
          cases e : heldOf L 136 with
          | none => exact Nat.zero_le _
          | some d =>
            have z := rt e
            unfold contentRight at z
            rw [if_neg (by decide), if_neg (by decide), if_pos rfl] at z
            simp only [Bool.and_eq_true, decide_eq_true_eq] at z
            exact z.2.2
        · rw [gshort, in136 (by rw [← gk]; exact z)]
        · rw [← hg]
          show ((heldOf L 140).getD []).getD 0 0 ≤ 15
          rw [e140]
          exact rr r140.1
        · rw [← hg]
          show ((heldOf L 140).getD []).getD 1 0 ≤ 15
          rw [e140]
          exact rr r140.2
        · rw [gname]
          cases e : heldOf L 132 with
          | none => exact Nat.zero_le _
          | some d =>
            have z := rt e
            unfold contentRight at z
            rw [if_neg (by decide), if_pos rfl] at z
            simp only [Bool.and_eq_true, decide_eq_true_eq] at z
            exact z.2
        · rw [gname, in132 (by rw [← gk]; exact z)]
          rfl
        · rw [gsize, in128 (by rw [← gk]; exact z)]
        · rw [glen]
          split
          · have := getD_lt kb 3
            omega
          · exact Nat.zero_le _
        · rw [gmost]
          split
          · have := getD_lt kb 4
            omega
          · exact Nat.zero_le _
        · rw [gk] at z1 z2
          have q : ¬ recKind (kd.getD 0 0) = true := by
            unfold recKind
            simp only [Bool.or_eq_true, decide_eq_true_eq]
            omega
          rw [glen, gmost, if_neg q, if_neg q]
          exact ⟨rfl, rfl⟩
        · rw [gk] at z
          have q : recKind (kd.getD 0 0) = true := by
            unfold recKind
            simp only [Bool.or_eq_true, decide_eq_true_eq]
            exact z
          rw [glen, gmost, if_pos q, if_pos q]
          exact recs q
end Cc
end
section
namespace Cc
open PySem PySem.Spec PyProof.Rows L2 Evl
/-! ### the program's text, by places -/
def top (i : Nat) : Stmt := PySem.Challenge.pw_chipcard_s01_answers.main.body.getD i (.Pass ⟨0, 0, 0, 0⟩)
abbrev s_two_bytes : Stmt := top 21
abbrev s_number_of : Stmt := top 22
abbrev s_reply : Stmt := top 23
abbrev s_only : Stmt := top 24
abbrev s_File_init : Stmt := inClass (top 40) 0
abbrev s_holds_records : Stmt := top 41
abbrev s_room_of : Stmt := top 42
abbrev s_field : Stmt := top 43
abbrev s_kind_field : Stmt := top 44
abbrev s_said_of : Stmt := top 45
abbrev s_Secret_init : Stmt := inClass (top 53) 0
abbrev s_Card_init : Stmt := inClass (top 54) 0
abbrev s_Card_begin_anew : Stmt := inClass (top 54) 1
abbrev s_Card_chosen_file : Stmt := inClass (top 54) 2
abbrev s_Card_chosen_folder : Stmt := inClass (top 54) 3
abbrev s_Card_choose_inner : Stmt := inClass (top 54) 4
abbrev s_Card_allows : Stmt := inClass (top 54) 5
abbrev s_Card_inside : Stmt := inClass (top 54) 6
abbrev s_Card_find_number : Stmt := inClass (top 54) 7
abbrev s_Card_find_short : Stmt := inClass (top 54) 8
abbrev s_Card_find_name : Stmt := inClass (top 54) 9
abbrev s_Card_clashes : Stmt := inClass (top 54) 10
abbrev s_Card_free_inner : Stmt := inClass (top 54) 11
abbrev s_Card_has_room_for : Stmt := inClass (top 54) 12
abbrev s_Card_put_in : Stmt := inClass (top 54) 13
abbrev s_Card_take_out : Stmt := inClass (top 54) 14
abbrev s_Request_init : Stmt := inClass (top 59) 0
abbrev s_Request_is_plain : Stmt := inClass (top 59) 1
abbrev s_Request_brings : Stmt := inClass (top 59) 2
abbrev s_amount : Stmt := top 60
abbrev s_read_request : Stmt := top 61
abbrev s_fields_of : Stmt := top 68
abbrev s_inner_fields : Stmt := top 69
abbrev s_kind_is_right : Stmt := top 70
abbrev s_right_is_right : Stmt := top 71
abbrev s_content_is_right : Stmt := top 72
abbrev s_marks_in_order : Stmt := top 73
abbrev s_file_of : Stmt := top 74
abbrev s_wanted_file : Stmt := top 75
abbrev s_find_near : Stmt := top 82
abbrev s_find_path : Stmt := top 83
abbrev s_choice_status : Stmt := top 84
abbrev s_find_choice : Stmt := top 85
abbrev s_choose : Stmt := top 86
abbrev s_aim : Stmt := top 87
abbrev s_aim_at_bytes : Stmt := top 91
abbrev s_place_of : Stmt := top 92
abbrev s_is_behind_end : Stmt := top 93
abbrev s_read_bytes : Stmt := top 94
abbrev s_write_bytes : Stmt := top 95
abbrev s_may_make : Stmt := top 97
abbrev s_make_file : Stmt := top 98
abbrev s_take_away : Stmt := top 99
abbrev s_activate : Stmt := top 100
abbrev s_aim_at_records : Stmt := top 105
abbrev s_is_there : Stmt := top 106
abbrev s_read_record : Stmt := top 107
abbrev s_write_record : Stmt := top 108
abbrev s_add_record : Stmt := top 109
abbrev s_aim_at_secret : Stmt := top 115
abbrev s_aim_at_known : Stmt := top 116
abbrev s_told_wrong : Stmt := top 117
abbrev s_renew : Stmt := top 118
abbrev s_standing : Stmt := top 119
abbrev s_tell_secret : Stmt := top 120
abbrev s_change_secret : Stmt := top 121
abbrev s_free_secret : Stmt := top 122
abbrev s_make_secret : Stmt := top 123
abbrev s_obey : Stmt := top 125
abbrev s_command : Stmt := top 130
abbrev s_reset : Stmt := top 131
abbrev s_answers : Stmt := top 132
theorem sc_two_bytes : FnScope ["number"] ["number"] (C8.fnScope s_two_bytes) := ⟨rfl, rfl, rfl, by decide +kernel, rfl, by decide +kernel, by decide +kernel⟩
theorem sc_number_of : FnScope ["pair"] ["pair"] (C8.fnScope s_number_of) := ⟨rfl, rfl, rfl, by decide +kernel, rfl, by decide +kernel, by decide +kernel⟩
theorem sc_reply : FnScope ["told", "status"] ["told", "status"] (C8.fnScope s_reply) := ⟨rfl, rfl, rfl, by decide +kernel, rfl, by decide +kernel, by decide +kernel⟩
theorem sc_only : FnScope ["status"] ["status"] (C8.fnScope s_only) := ⟨rfl, rfl, rfl, by decide +kernel, rfl, by decide +kernel, by decide +kernel⟩
theorem sc_File_init : FnScope ["self", "kind", "number"] ["self", "kind", "number"] (C8.fnScope s_File_init) := ⟨rfl, rfl, rfl, by decide +kernel, rfl, by decide +kernel, by decide +kernel⟩
theorem sc_holds_records : FnScope ["kind"] ["kind"] (C8.fnScope s_holds_records) := ⟨rfl, rfl, rfl, by decide +kernel, rfl, by decide +kernel, by decide +kernel⟩
theorem sc_room_of : FnScope ["file"] ["file"] (C8.fnScope s_room_of) := ⟨rfl, rfl, rfl, by decide +kernel, rfl, by decide +kernel, by decide +kernel⟩
theorem sc_field : FnScope ["mark", "content"] ["mark", "content"] (C8.fnScope s_field) := ⟨rfl, rfl, rfl, by decide +kernel, rfl, by decide +kernel, by decide +kernel⟩
theorem sc_kind_field : FnScope ["file", "content"] ["file"] (C8.fnScope s_kind_field) := ⟨rfl, rfl, rfl, by decide +kernel, rfl, by decide +kernel, by decide +kernel⟩
theorem sc_said_of : FnScope ["file", "fields"] ["file"] (C8.fnScope s_said_of) := ⟨rfl, rfl, rfl, by decide +kernel, rfl, by decide +kernel, by decide +kernel⟩
theorem sc_Secret_init : FnScope ["self", "word", "freer", "tries", "freer_tries"] ["self", "word", "freer", "tries", "freer_tries"] (C8.fnScope s_Secret_init) := ⟨rfl, rfl, rfl, by decide +kernel, rfl, by decide +kernel, by decide +kernel⟩
theorem sc_Card_init : FnScope ["self"] ["self"] (C8.fnScope s_Card_init) := ⟨rfl, rfl, rfl, by decide +kernel, rfl, by decide +kernel, by decide +kernel⟩
theorem sc_Card_begin_anew : FnScope ["self", "secret"] ["self"] (C8.fnScope s_Card_begin_anew) := ⟨rfl, rfl, rfl, by decide +kernel, rfl, by decide +kernel, by decide +kernel⟩
theorem sc_Card_chosen_file : FnScope ["self"] ["self"] (C8.fnScope s_Card_chosen_file) := ⟨rfl, rfl, rfl, by decide +kernel, rfl, by decide +kernel, by decide +kernel⟩
theorem sc_Card_chosen_folder : FnScope ["self"] ["self"] (C8.fnScope s_Card_chosen_folder) := ⟨rfl, rfl, rfl, by decide +kernel, rfl, by decide +kernel, by decide +kernel⟩
theorem sc_Card_choose_inner : FnScope ["self", "inner", "found"] ["self", "inner"] (C8.fnScope s_Card_choose_inner) := ⟨rfl, rfl, rfl, by decide +kernel, rfl, by decide +kernel, by decide +kernel⟩
theorem sc_Card_allows : FnScope ["self", "right"] ["self", "right"] (C8.fnScope s_Card_allows) := ⟨rfl, rfl, rfl, by decide +kernel, rfl, by decide +kernel, by decide +kernel⟩
theorem sc_Card_inside : FnScope ["self", "folder", "found", "inner", "file"] ["self", "folder"] (C8.fnScope s_Card_inside) := ⟨rfl, rfl, rfl, by decide +kernel, rfl, by decide +kernel, by decide +kernel⟩
theorem sc_Card_find_number : FnScope ["self", "folder", "number", "inner"] ["self", "folder", "number"] (C8.fnScope s_Card_find_number) := ⟨rfl, rfl, rfl, by decide +kernel, rfl, by decide +kernel, by decide +kernel⟩
theorem sc_Card_find_short : FnScope ["self", "short", "inner"] ["self", "short"] (C8.fnScope s_Card_find_short) := ⟨rfl, rfl, rfl, by decide +kernel, rfl, by decide +kernel, by decide +kernel⟩
theorem sc_Card_find_name : FnScope ["self", "name", "inner", "file"] ["self", "name"] (C8.fnScope s_Card_find_name) := ⟨rfl, rfl, rfl, by decide +kernel, rfl, by decide +kernel, by decide +kernel⟩
theorem sc_Card_clashes : FnScope ["self", "file"] ["self", "file"] (C8.fnScope s_Card_clashes) := ⟨rfl, rfl, rfl, by decide +kernel, rfl, by decide +kernel, by decide +kernel⟩
theorem sc_Card_free_inner : FnScope ["self", "inner", "file"] ["self"] (C8.fnScope s_Card_free_inner) := ⟨rfl, rfl, rfl, by decide +kernel, rfl, by decide +kernel, by decide +kernel⟩
theorem sc_Card_has_room_for : FnScope ["self", "file", "room", "other"] ["self", "file"] (C8.fnScope s_Card_has_room_for) := ⟨rfl, rfl, rfl, by decide +kernel, rfl, by decide +kernel, by decide +kernel⟩
theorem sc_Card_put_in : FnScope ["self", "file", "inner"] ["self", "file"] (C8.fnScope s_Card_put_in) := ⟨rfl, rfl, rfl, by decide +kernel, rfl, by decide +kernel, by decide +kernel⟩
theorem sc_Card_take_out : FnScope ["self", "inner"] ["self", "inner"] (C8.fnScope s_Card_take_out) := ⟨rfl, rfl, rfl, by decide +kernel, rfl, by decide +kernel, by decide +kernel⟩
theorem sc_Request_init : FnScope ["self", "header", "data", "asked"] ["self", "header", "data", "asked"] (C8.fnScope s_Request_init) := ⟨rfl, rfl, rfl, by decide +kernel, rfl, by decide +kernel, by decide +kernel⟩
theorem sc_Request_is_plain : FnScope ["self"] ["self"] (C8.fnScope s_Request_is_plain) := ⟨rfl, rfl, rfl, by decide +kernel, rfl, by decide +kernel, by decide +kernel⟩
theorem sc_Request_brings : FnScope ["self", "length"] ["self", "length"] (C8.fnScope s_Request_brings) := ⟨rfl, rfl, rfl, by decide +kernel, rfl, by decide +kernel, by decide +kernel⟩
theorem sc_amount : FnScope ["byte"] ["byte"] (C8.fnScope s_amount) := ⟨rfl, rfl, rfl, by decide +kernel, rfl, by decide +kernel, by decide +kernel⟩
theorem sc_read_request : FnScope ["given", "header", "body", "length", "data", "behind"] ["given"] (C8.fnScope s_read_request) := ⟨rfl, rfl, rfl, by decide +kernel, rfl, by decide +kernel, by decide +kernel⟩
theorem sc_fields_of : FnScope ["given", "fields", "place", "start", "end"] ["given"] (C8.fnScope s_fields_of) := ⟨rfl, rfl, rfl, by decide +kernel, rfl, by decide +kernel, by decide +kernel⟩
theorem sc_inner_fields : FnScope ["given", "outer"] ["given"] (C8.fnScope s_inner_fields) := ⟨rfl, rfl, rfl, by decide +kernel, rfl, by decide +kernel, by decide +kernel⟩
theorem sc_kind_is_right : FnScope ["content"] ["content"] (C8.fnScope s_kind_is_right) := ⟨rfl, rfl, rfl, by decide +kernel, rfl, by decide +kernel, by decide +kernel⟩
theorem sc_right_is_right : FnScope ["right"] ["right"] (C8.fnScope s_right_is_right) := ⟨rfl, rfl, rfl, by decide +kernel, rfl, by decide +kernel, by decide +kernel⟩
theorem sc_content_is_right : FnScope ["mark", "content"] ["mark", "content"] (C8.fnScope s_content_is_right) := ⟨rfl, rfl, rfl, by decide +kernel, rfl, by decide +kernel, by decide +kernel⟩
theorem sc_marks_in_order : FnScope ["kind", "held", "marks", "choice"] ["kind", "held"] (C8.fnScope s_marks_in_order) := ⟨rfl, rfl, rfl, by decide +kernel, rfl, by decide +kernel, by decide +kernel⟩
theorem sc_file_of : FnScope ["held", "kind", "file"] ["held"] (C8.fnScope s_file_of) := ⟨rfl, rfl, rfl, by decide +kernel, rfl, by decide +kernel, by decide +kernel⟩
theorem sc_wanted_file : FnScope ["given", "marks", "held", "mark", "content"] ["given"] (C8.fnScope s_wanted_file) := ⟨rfl, rfl, rfl, by decide +kernel, rfl, by decide +kernel, by decide +kernel⟩
theorem sc_find_near : FnScope ["card", "number", "inner", "outer"] ["card", "number"] (C8.fnScope s_find_near) := ⟨rfl, rfl, rfl, by decide +kernel, rfl, by decide +kernel, by decide +kernel⟩
theorem sc_find_path : FnScope ["card", "path", "inner", "place"] ["card", "path"] (C8.fnScope s_find_path) := ⟨rfl, rfl, rfl, by decide +kernel, rfl, by decide +kernel, by decide +kernel⟩
theorem sc_choice_status : FnScope ["request", "length", "fits"] ["request"] (C8.fnScope s_choice_status) := ⟨rfl, rfl, rfl, by decide +kernel, rfl, by decide +kernel, by decide +kernel⟩
theorem sc_find_choice : FnScope ["card", "request"] ["card", "request"] (C8.fnScope s_find_choice) := ⟨rfl, rfl, rfl, by decide +kernel, rfl, by decide +kernel, by decide +kernel⟩
theorem sc_choose : FnScope ["card", "request", "status", "inner", "told"] ["card", "request"] (C8.fnScope s_choose) := ⟨rfl, rfl, rfl, by decide +kernel, rfl, by decide +kernel, by decide +kernel⟩
theorem sc_aim : FnScope ["card", "short", "kinds", "writes", "file", "right", "inner"] ["card", "short", "kinds", "writes"] (C8.fnScope s_aim) := ⟨rfl, rfl, rfl, by decide +kernel, rfl, by decide +kernel, by decide +kernel⟩
theorem sc_aim_at_bytes : FnScope ["card", "request", "writes", "short"] ["card", "request", "writes"] (C8.fnScope s_aim_at_bytes) := ⟨rfl, rfl, rfl, by decide +kernel, rfl, by decide +kernel, by decide +kernel⟩
theorem sc_place_of : FnScope ["request"] ["request"] (C8.fnScope s_place_of) := ⟨rfl, rfl, rfl, by decide +kernel, rfl, by decide +kernel, by decide +kernel⟩
theorem sc_is_behind_end : FnScope ["file", "place"] ["file", "place"] (C8.fnScope s_is_behind_end) := ⟨rfl, rfl, rfl, by decide +kernel, rfl, by decide +kernel, by decide +kernel⟩
theorem sc_read_bytes : FnScope ["card", "request", "status", "file", "place", "told"] ["card", "request"] (C8.fnScope s_read_bytes) := ⟨rfl, rfl, rfl, by decide +kernel, rfl, by decide +kernel, by decide +kernel⟩
theorem sc_write_bytes : FnScope ["card", "request", "status", "file", "place", "end"] ["card", "request"] (C8.fnScope s_write_bytes) := ⟨rfl, rfl, rfl, by decide +kernel, rfl, by decide +kernel, by decide +kernel⟩
theorem sc_may_make : FnScope ["card"] ["card"] (C8.fnScope s_may_make) := ⟨rfl, rfl, rfl, by decide +kernel, rfl, by decide +kernel, by decide +kernel⟩
theorem sc_make_file : FnScope ["card", "request", "file"] ["card", "request"] (C8.fnScope s_make_file) := ⟨rfl, rfl, rfl, by decide +kernel, rfl, by decide +kernel, by decide +kernel⟩
theorem sc_take_away : FnScope ["card", "request", "inner"] ["card", "request"] (C8.fnScope s_take_away) := ⟨rfl, rfl, rfl, by decide +kernel, rfl, by decide +kernel, by decide +kernel⟩
theorem sc_activate : FnScope ["card", "request"] ["card", "request"] (C8.fnScope s_activate) := ⟨rfl, rfl, rfl, by decide +kernel, rfl, by decide +kernel, by decide +kernel⟩
theorem sc_aim_at_records : FnScope ["card", "request", "ending", "writes", "short"] ["card", "request", "ending", "writes"] (C8.fnScope s_aim_at_records) := ⟨rfl, rfl, rfl, by decide +kernel, rfl, by decide +kernel, by decide +kernel⟩
theorem sc_is_there : FnScope ["file", "number"] ["file", "number"] (C8.fnScope s_is_there) := ⟨rfl, rfl, rfl, by decide +kernel, rfl, by decide +kernel, by decide +kernel⟩
theorem sc_read_record : FnScope ["card", "request", "status", "file"] ["card", "request"] (C8.fnScope s_read_record) := ⟨rfl, rfl, rfl, by decide +kernel, rfl, by decide +kernel, by decide +kernel⟩
theorem sc_write_record : FnScope ["card", "request", "status", "file"] ["card", "request"] (C8.fnScope s_write_record) := ⟨rfl, rfl, rfl, by decide +kernel, rfl, by decide +kernel, by decide +kernel⟩
theorem sc_add_record : FnScope ["card", "request", "status", "file", "records"] ["card", "request"] (C8.fnScope s_add_record) := ⟨rfl, rfl, rfl, by decide +kernel, rfl, by decide +kernel, by decide +kernel⟩
theorem sc_aim_at_secret : FnScope ["request", "first", "lengths"] ["request", "first", "lengths"] (C8.fnScope s_aim_at_secret) := ⟨rfl, rfl, rfl, by decide +kernel, rfl, by decide +kernel, by decide +kernel⟩
theorem sc_aim_at_known : FnScope ["card", "request", "lengths", "status"] ["card", "request", "lengths"] (C8.fnScope s_aim_at_known) := ⟨rfl, rfl, rfl, by decide +kernel, rfl, by decide +kernel, by decide +kernel⟩
theorem sc_told_wrong : FnScope ["secret"] ["secret"] (C8.fnScope s_told_wrong) := ⟨rfl, rfl, rfl, by decide +kernel, rfl, by decide +kernel, by decide +kernel⟩
theorem sc_renew : FnScope ["secret", "word"] ["secret", "word"] (C8.fnScope s_renew) := ⟨rfl, rfl, rfl, by decide +kernel, rfl, by decide +kernel, by decide +kernel⟩
theorem sc_standing : FnScope ["secret"] ["secret"] (C8.fnScope s_standing) := ⟨rfl, rfl, rfl, by decide +kernel, rfl, by decide +kernel, by decide +kernel⟩
theorem sc_tell_secret : FnScope ["card", "request", "status", "secret"] ["card", "request"] (C8.fnScope s_tell_secret) := ⟨rfl, rfl, rfl, by decide +kernel, rfl, by decide +kernel, by decide +kernel⟩
theorem sc_change_secret : FnScope ["card", "request", "status", "secret"] ["card", "request"] (C8.fnScope s_change_secret) := ⟨rfl, rfl, rfl, by decide +kernel, rfl, by decide +kernel, by decide +kernel⟩
theorem sc_free_secret : FnScope ["card", "request", "status", "secret"] ["card", "request"] (C8.fnScope s_free_secret) := ⟨rfl, rfl, rfl, by decide +kernel, rfl, by decide +kernel, by decide +kernel⟩
theorem sc_make_secret : FnScope ["card", "request", "status", "tries", "made"] ["card", "request"] (C8.fnScope s_make_secret) := ⟨rfl, rfl, rfl, by decide +kernel, rfl, by decide +kernel, by decide +kernel⟩
theorem sc_obey : FnScope ["card", "given", "request", "orders", "order"] ["card", "given"] (C8.fnScope s_obey) := ⟨rfl, rfl, rfl, by decide +kernel, rfl, by decide +kernel, by decide +kernel⟩
theorem sc_command : FnScope ["card", "given", "told"] ["card", "given"] (C8.fnScope s_command) := ⟨rfl, rfl, rfl, by decide +kernel, rfl, by decide +kernel, by decide +kernel⟩
theorem sc_reset : FnScope ["card"] ["card"] (C8.fnScope s_reset) := ⟨rfl, rfl, rfl, by decide +kernel, rfl, by decide +kernel, by decide +kernel⟩
theorem sc_answers : FnScope ["calls", "card", "collected", "place", "start", "end", "answer"] ["calls"] (C8.fnScope s_answers) := ⟨rfl, rfl, rfl, by decide +kernel, rfl, by decide +kernel, by decide +kernel⟩
/-! ### what the top has written of the constants and the classes -/
structure Tx (K : PySem.W.Frag) (mg : Str → Option Value) (CF CS CC CR RN : Addr) : Prop where
  len : mg "len" = none
  enumerate : mg "enumerate" = none
  range : mg "range" = none
  rn : ∀ H : Hp, SqT K H RN [.int ((16128 : Nat) : Int), .int ((65535 : Nat) : Int)]
  mRESERVED_NUMBERS : ∃ u, mg "RESERVED_NUMBERS" = some u ∧ RelV (.ref RN) u
  mWELL : ∃ u, mg "WELL" = some u ∧ RelV (.int ((36864 : Nat) : Int)) u
  mLESS_THERE : ∃ u, mg "LESS_THERE" = some u ∧ RelV (.int ((25218 : Nat) : Int)) u
  mTRIES_LEFT : ∃ u, mg "TRIES_LEFT" = some u ∧ RelV (.int ((25536 : Nat) : Int)) u
  mWRONG_LENGTH : ∃ u, mg "WRONG_LENGTH" = some u ∧ RelV (.int ((26368 : Nat) : Int)) u
  mWRONG_KIND : ∃ u, mg "WRONG_KIND" = some u ∧ RelV (.int ((27009 : Nat) : Int)) u
  mNO_RIGHT : ∃ u, mg "NO_RIGHT" = some u ∧ RelV (.int ((27010 : Nat) : Int)) u
  mNO_TRIES : ∃ u, mg "NO_TRIES" = some u ∧ RelV (.int ((27011 : Nat) : Int)) u
  mNOT_NOW : ∃ u, mg "NOT_NOW" = some u ∧ RelV (.int ((27013 : Nat) : Int)) u
  mNONE_CHOSEN : ∃ u, mg "NONE_CHOSEN" = some u ∧ RelV (.int ((27014 : Nat) : Int)) u
  mWRONG_DATA : ∃ u, mg "WRONG_DATA" = some u ∧ RelV (.int ((27264 : Nat) : Int)) u
  mNOT_THERE : ∃ u, mg "NOT_THERE" = some u ∧ RelV (.int ((27266 : Nat) : Int)) u
  mNO_RECORD : ∃ u, mg "NO_RECORD" = some u ∧ RelV (.int ((27267 : Nat) : Int)) u
  mNO_ROOM : ∃ u, mg "NO_ROOM" = some u ∧ RelV (.int ((27268 : Nat) : Int)) u
  mWRONG_PARAMETERS : ∃ u, mg "WRONG_PARAMETERS" = some u ∧ RelV (.int ((27270 : Nat) : Int)) u
  mNO_SECRET : ∃ u, mg "NO_SECRET" = some u ∧ RelV (.int ((27272 : Nat) : Int)) u
  mIN_USE : ∃ u, mg "IN_USE" = some u ∧ RelV (.int ((27273 : Nat) : Int)) u
  mBEHIND_END : ∃ u, mg "BEHIND_END" = some u ∧ RelV (.int ((27392 : Nat) : Int)) u
  mLENGTH_IS : ∃ u, mg "LENGTH_IS" = some u ∧ RelV (.int ((27648 : Nat) : Int)) u
  mNO_INSTRUCTION : ∃ u, mg "NO_INSTRUCTION" = some u ∧ RelV (.int ((27904 : Nat) : Int)) u
  mNO_CLASS : ∃ u, mg "NO_CLASS" = some u ∧ RelV (.int ((28160 : Nat) : Int)) u
  mFOLDER : ∃ u, mg "FOLDER" = some u ∧ RelV (.int ((56 : Nat) : Int)) u
  mBYTES : ∃ u, mg "BYTES" = some u ∧ RelV (.int ((1 : Nat) : Int)) u
  mRECORDS : ∃ u, mg "RECORDS" = some u ∧ RelV (.int ((2 : Nat) : Int)) u
  mROUND : ∃ u, mg "ROUND" = some u ∧ RelV (.int ((6 : Nat) : Int)) u
  mOUTER_MARK : ∃ u, mg "OUTER_MARK" = some u ∧ RelV (.int ((98 : Nat) : Int)) u
  mKIND_MARK : ∃ u, mg "KIND_MARK" = some u ∧ RelV (.int ((130 : Nat) : Int)) u
  mNUMBER_MARK : ∃ u, mg "NUMBER_MARK" = some u ∧ RelV (.int ((131 : Nat) : Int)) u
  mSIZE_MARK : ∃ u, mg "SIZE_MARK" = some u ∧ RelV (.int ((128 : Nat) : Int)) u
  mNAME_MARK : ∃ u, mg "NAME_MARK" = some u ∧ RelV (.int ((132 : Nat) : Int)) u
  mSHORT_MARK : ∃ u, mg "SHORT_MARK" = some u ∧ RelV (.int ((136 : Nat) : Int)) u
  mRIGHTS_MARK : ∃ u, mg "RIGHTS_MARK" = some u ∧ RelV (.int ((140 : Nat) : Int)) u
  mRECORD_WAY : ∃ u, mg "RECORD_WAY" = some u ∧ RelV (.int ((33 : Nat) : Int)) u
  mNO_SHORT : ∃ u, mg "NO_SHORT" = some u ∧ RelV (.int ((0 : Nat) : Int)) u
  mROOM_OF_ANY : ∃ u, mg "ROOM_OF_ANY" = some u ∧ RelV (.int ((32 : Nat) : Int)) u
  mMOST_FILES : ∃ u, mg "MOST_FILES" = some u ∧ RelV (.int ((64 : Nat) : Int)) u
  mMOST_ROOM : ∃ u, mg "MOST_ROOM" = some u ∧ RelV (.int ((16384 : Nat) : Int)) u
  mTOP : ∃ u, mg "TOP" = some u ∧ RelV (.int ((0 : Nat) : Int)) u
  mTOP_NUMBER : ∃ u, mg "TOP_NUMBER" = some u ∧ RelV (.int ((16128 : Nat) : Int)) u
  mNONE : ∃ u, mg "NONE" = some u ∧ RelV (.int (-1)) u
  mALWAYS : ∃ u, mg "ALWAYS" = some u ∧ RelV (.int ((0 : Nat) : Int)) u
  mHEADER_LENGTH : ∃ u, mg "HEADER_LENGTH" = some u ∧ RelV (.int ((4 : Nat) : Int)) u
  mNOTHING : ∃ u, mg "NOTHING" = some u ∧ RelV (.int ((0 : Nat) : Int)) u
  mALL : ∃ u, mg "ALL" = some u ∧ RelV (.int ((256 : Nat) : Int)) u
  mMOST_SHORT : ∃ u, mg "MOST_SHORT" = some u ∧ RelV (.int ((30 : Nat) : Int)) u
  mMOST_NAME : ∃ u, mg "MOST_NAME" = some u ∧ RelV (.int ((16 : Nat) : Int)) u
  mMOST_RIGHT : ∃ u, mg "MOST_RIGHT" = some u ∧ RelV (.int ((8 : Nat) : Int)) u
  mNEVER : ∃ u, mg "NEVER" = some u ∧ RelV (.int ((15 : Nat) : Int)) u
  mBY_NUMBER : ∃ u, mg "BY_NUMBER" = some u ∧ RelV (.int ((0 : Nat) : Int)) u
  mBY_NAME : ∃ u, mg "BY_NAME" = some u ∧ RelV (.int ((4 : Nat) : Int)) u
  mBY_PATH : ∃ u, mg "BY_PATH" = some u ∧ RelV (.int ((8 : Nat) : Int)) u
  mTELL : ∃ u, mg "TELL" = some u ∧ RelV (.int ((0 : Nat) : Int)) u
  mTELL_NOTHING : ∃ u, mg "TELL_NOTHING" = some u ∧ RelV (.int ((12 : Nat) : Int)) u
  mSHORT_BASE : ∃ u, mg "SHORT_BASE" = some u ∧ RelV (.int ((128 : Nat) : Int)) u
  mMOST_FIRST : ∃ u, mg "MOST_FIRST" = some u ∧ RelV (.int ((159 : Nat) : Int)) u
  mBY_RECORD_NUMBER : ∃ u, mg "BY_RECORD_NUMBER" = some u ∧ RelV (.int ((4 : Nat) : Int)) u
  mAT_THE_END : ∃ u, mg "AT_THE_END" = some u ∧ RelV (.int ((0 : Nat) : Int)) u
  mNOT_A_SHORT : ∃ u, mg "NOT_A_SHORT" = some u ∧ RelV (.int ((31 : Nat) : Int)) u
  mMOST_SECRETS : ∃ u, mg "MOST_SECRETS" = some u ∧ RelV (.int ((8 : Nat) : Int)) u
  mWORD : ∃ u, mg "WORD" = some u ∧ RelV (.int ((8 : Nat) : Int)) u
  mPAIR : ∃ u, mg "PAIR" = some u ∧ RelV (.int ((16 : Nat) : Int)) u
  mMOST_TRIES : ∃ u, mg "MOST_TRIES" = some u ∧ RelV (.int ((15 : Nat) : Int)) u
  mCOMMAND : ∃ u, mg "COMMAND" = some u ∧ RelV (.int ((1 : Nat) : Int)) u
  mMOST_BYTES : ∃ u, mg "MOST_BYTES" = some u ∧ RelV (.int ((261 : Nat) : Int)) u
  mREFUSAL : ∃ u, mg "REFUSAL" = some u ∧ RelV (.int (-1)) u
  clCF : Cls K CF
  nCF_kind : NoAttr K CF "kind"
  nCF_number : NoAttr K CF "number"
  nCF_short : NoAttr K CF "short"
  nCF_name : NoAttr K CF "name"
  nCF_reading : NoAttr K CF "reading"
  nCF_writing : NoAttr K CF "writing"
  nCF_size : NoAttr K CF "size"
  nCF_content : NoAttr K CF "content"
  nCF_length : NoAttr K CF "length"
  nCF_most : NoAttr K CF "most"
  nCF_records : NoAttr K CF "records"
  nCF_folder : NoAttr K CF "folder"
  clCS : Cls K CS
  nCS_word : NoAttr K CS "word"
  nCS_freer : NoAttr K CS "freer"
  nCS_most_tries : NoAttr K CS "most_tries"
  nCS_tries : NoAttr K CS "tries"
  nCS_freer_tries : NoAttr K CS "freer_tries"
  nCS_told : NoAttr K CS "told"
  clCC : Cls K CC
  nCC_slots : NoAttr K CC "slots"
  nCC_secrets : NoAttr K CC "secrets"
  nCC_active : NoAttr K CC "active"
  nCC_folder : NoAttr K CC "folder"
  nCC_file : NoAttr K CC "file"
  clCR : Cls K CR
  nCR_group : NoAttr K CR "group"
  nCR_instruction : NoAttr K CR "instruction"
  nCR_first : NoAttr K CR "first"
  nCR_second : NoAttr K CR "second"
  nCR_data : NoAttr K CR "data"
  nCR_asked : NoAttr K CR "asked"
theorem lk_here {k : Str} {v : V} {r : List (Str × V)} : List.lookup k ((k, v) :: r) = some v := by
  have e : (k == k) = true := beq_self_eq_true k
  simp only [List.lookup, e]
theorem lk_past {k g : Str} {v : V} {r : List (Str × V)} (h : (k == g) = false) : List.lookup k ((g, v) :: r) = List.lookup k r := by
  simp only [List.lookup, h]
theorem put_here {f : Str} {v x : V} {r : List (Str × V)} : putF f v ((f, x) :: r) = (f, v) :: r := if_pos rfl
theorem put_past {f g : Str} {v x : V} {r : List (Str × V)} (h : ¬ g = f) : putF f v ((g, x) :: r) = (g, x) :: putF f v r := if_neg h
theorem put_new {f : Str} {v : V} : putF f v [] = [(f, v)] := rfl
theorem q_active_secrets : (("active" : Str) == ("secrets" : Str)) = false := by decide +kernel
theorem q_active_slots : (("active" : Str) == ("slots" : Str)) = false := by decide +kernel
theorem q_allows_active : (("allows" : Str) == ("active" : Str)) = false := by decide +kernel
theorem q_allows_file : (("allows" : Str) == ("file" : Str)) = false := by decide +kernel
theorem q_allows_folder : (("allows" : Str) == ("folder" : Str)) = false := by decide +kernel
theorem q_allows_secrets : (("allows" : Str) == ("secrets" : Str)) = false := by decide +kernel
theorem q_allows_slots : (("allows" : Str) == ("slots" : Str)) = false := by decide +kernel
theorem q_asked_data : (("asked" : Str) == ("data" : Str)) = false := by decide +kernel
theorem q_asked_first : (("asked" : Str) == ("first" : Str)) = false := by decide +kernel
theorem q_asked_group : (("asked" : Str) == ("group" : Str)) = false := by decide +kernel
theorem q_asked_instruction : (("asked" : Str) == ("instruction" : Str)) = false := by decide +kernel
theorem q_asked_second : (("asked" : Str) == ("second" : Str)) = false := by decide +kernel
theorem q_begin_anew_active : (("begin_anew" : Str) == ("active" : Str)) = false := by decide +kernel
theorem q_begin_anew_file : (("begin_anew" : Str) == ("file" : Str)) = false := by decide +kernel
theorem q_begin_anew_folder : (("begin_anew" : Str) == ("folder" : Str)) = false := by decide +kernel
theorem q_begin_anew_secrets : (("begin_anew" : Str) == ("secrets" : Str)) = false := by decide +kernel
theorem q_begin_anew_slots : (("begin_anew" : Str) == ("slots" : Str)) = false := by decide +kernel
theorem q_brings_asked : (("brings" : Str) == ("asked" : Str)) = false := by decide +kernel
theorem q_brings_data : (("brings" : Str) == ("data" : Str)) = false := by decide +kernel
theorem q_brings_first : (("brings" : Str) == ("first" : Str)) = false := by decide +kernel
theorem q_brings_group : (("brings" : Str) == ("group" : Str)) = false := by decide +kernel
theorem q_brings_instruction : (("brings" : Str) == ("instruction" : Str)) = false := by decide +kernel
theorem q_brings_second : (("brings" : Str) == ("second" : Str)) = false := by decide +kernel
theorem q_choose_inner_active : (("choose_inner" : Str) == ("active" : Str)) = false := by decide +kernel
theorem q_choose_inner_file : (("choose_inner" : Str) == ("file" : Str)) = false := by decide +kernel
theorem q_choose_inner_folder : (("choose_inner" : Str) == ("folder" : Str)) = false := by decide +kernel
theorem q_choose_inner_secrets : (("choose_inner" : Str) == ("secrets" : Str)) = false := by decide +kernel
theorem q_choose_inner_slots : (("choose_inner" : Str) == ("slots" : Str)) = false := by decide +kernel
theorem q_chosen_file_active : (("chosen_file" : Str) == ("active" : Str)) = false := by decide +kernel
theorem q_chosen_file_file : (("chosen_file" : Str) == ("file" : Str)) = false := by decide +kernel
theorem q_chosen_file_folder : (("chosen_file" : Str) == ("folder" : Str)) = false := by decide +kernel
theorem q_chosen_file_secrets : (("chosen_file" : Str) == ("secrets" : Str)) = false := by decide +kernel
theorem q_chosen_file_slots : (("chosen_file" : Str) == ("slots" : Str)) = false := by decide +kernel
theorem q_chosen_folder_active : (("chosen_folder" : Str) == ("active" : Str)) = false := by decide +kernel
theorem q_chosen_folder_file : (("chosen_folder" : Str) == ("file" : Str)) = false := by decide +kernel
theorem q_chosen_folder_folder : (("chosen_folder" : Str) == ("folder" : Str)) = false := by decide +kernel
theorem q_chosen_folder_secrets : (("chosen_folder" : Str) == ("secrets" : Str)) = false := by decide +kernel
theorem q_chosen_folder_slots : (("chosen_folder" : Str) == ("slots" : Str)) = false := by decide +kernel
theorem q_clashes_active : (("clashes" : Str) == ("active" : Str)) = false := by decide +kernel
theorem q_clashes_file : (("clashes" : Str) == ("file" : Str)) = false := by decide +kernel
theorem q_clashes_folder : (("clashes" : Str) == ("folder" : Str)) = false := by decide +kernel
theorem q_clashes_secrets : (("clashes" : Str) == ("secrets" : Str)) = false := by decide +kernel
theorem q_clashes_slots : (("clashes" : Str) == ("slots" : Str)) = false := by decide +kernel
theorem q_content_kind : (("content" : Str) == ("kind" : Str)) = false := by decide +kernel
theorem q_content_name : (("content" : Str) == ("name" : Str)) = false := by decide +kernel
theorem q_content_number : (("content" : Str) == ("number" : Str)) = false := by decide +kernel
theorem q_content_reading : (("content" : Str) == ("reading" : Str)) = false := by decide +kernel
theorem q_content_short : (("content" : Str) == ("short" : Str)) = false := by decide +kernel
theorem q_content_size : (("content" : Str) == ("size" : Str)) = false := by decide +kernel
theorem q_content_writing : (("content" : Str) == ("writing" : Str)) = false := by decide +kernel
theorem q_data_first : (("data" : Str) == ("first" : Str)) = false := by decide +kernel
theorem q_data_group : (("data" : Str) == ("group" : Str)) = false := by decide +kernel
theorem q_data_instruction : (("data" : Str) == ("instruction" : Str)) = false := by decide +kernel
theorem q_data_second : (("data" : Str) == ("second" : Str)) = false := by decide +kernel
theorem q_file_active : (("file" : Str) == ("active" : Str)) = false := by decide +kernel
theorem q_file_folder : (("file" : Str) == ("folder" : Str)) = false := by decide +kernel
theorem q_file_secrets : (("file" : Str) == ("secrets" : Str)) = false := by decide +kernel
theorem q_file_slots : (("file" : Str) == ("slots" : Str)) = false := by decide +kernel
theorem q_find_name_active : (("find_name" : Str) == ("active" : Str)) = false := by decide +kernel
theorem q_find_name_file : (("find_name" : Str) == ("file" : Str)) = false := by decide +kernel
theorem q_find_name_folder : (("find_name" : Str) == ("folder" : Str)) = false := by decide +kernel
theorem q_find_name_secrets : (("find_name" : Str) == ("secrets" : Str)) = false := by decide +kernel
theorem q_find_name_slots : (("find_name" : Str) == ("slots" : Str)) = false := by decide +kernel
theorem q_find_number_active : (("find_number" : Str) == ("active" : Str)) = false := by decide +kernel
theorem q_find_number_file : (("find_number" : Str) == ("file" : Str)) = false := by decide +kernel
theorem q_find_number_folder : (("find_number" : Str) == ("folder" : Str)) = false := by decide +kernel
theorem q_find_number_secrets : (("find_number" : Str) == ("secrets" : Str)) = false := by decide +kernel
theorem q_find_number_slots : (("find_number" : Str) == ("slots" : Str)) = false := by decide +kernel
theorem q_find_short_active : (("find_short" : Str) == ("active" : Str)) = false := by decide +kernel
theorem q_find_short_file : (("find_short" : Str) == ("file" : Str)) = false := by decide +kernel
theorem q_find_short_folder : (("find_short" : Str) == ("folder" : Str)) = false := by decide +kernel
theorem q_find_short_secrets : (("find_short" : Str) == ("secrets" : Str)) = false := by decide +kernel
theorem q_find_short_slots : (("find_short" : Str) == ("slots" : Str)) = false := by decide +kernel
theorem q_first_group : (("first" : Str) == ("group" : Str)) = false := by decide +kernel
theorem q_first_instruction : (("first" : Str) == ("instruction" : Str)) = false := by decide +kernel
theorem q_folder_active : (("folder" : Str) == ("active" : Str)) = false := by decide +kernel
theorem q_folder_content : (("folder" : Str) == ("content" : Str)) = false := by decide +kernel
theorem q_folder_kind : (("folder" : Str) == ("kind" : Str)) = false := by decide +kernel
theorem q_folder_length : (("folder" : Str) == ("length" : Str)) = false := by decide +kernel
theorem q_folder_most : (("folder" : Str) == ("most" : Str)) = false := by decide +kernel
theorem q_folder_name : (("folder" : Str) == ("name" : Str)) = false := by decide +kernel
theorem q_folder_number : (("folder" : Str) == ("number" : Str)) = false := by decide +kernel
theorem q_folder_reading : (("folder" : Str) == ("reading" : Str)) = false := by decide +kernel
theorem q_folder_records : (("folder" : Str) == ("records" : Str)) = false := by decide +kernel
theorem q_folder_secrets : (("folder" : Str) == ("secrets" : Str)) = false := by decide +kernel
theorem q_folder_short : (("folder" : Str) == ("short" : Str)) = false := by decide +kernel
theorem q_folder_size : (("folder" : Str) == ("size" : Str)) = false := by decide +kernel
theorem q_folder_slots : (("folder" : Str) == ("slots" : Str)) = false := by decide +kernel
theorem q_folder_writing : (("folder" : Str) == ("writing" : Str)) = false := by decide +kernel
theorem q_free_inner_active : (("free_inner" : Str) == ("active" : Str)) = false := by decide +kernel
theorem q_free_inner_file : (("free_inner" : Str) == ("file" : Str)) = false := by decide +kernel
theorem q_free_inner_folder : (("free_inner" : Str) == ("folder" : Str)) = false := by decide +kernel
theorem q_free_inner_secrets : (("free_inner" : Str) == ("secrets" : Str)) = false := by decide +kernel
theorem q_free_inner_slots : (("free_inner" : Str) == ("slots" : Str)) = false := by decide +kernel
theorem q_freer_word : (("freer" : Str) == ("word" : Str)) = false := by decide +kernel
theorem q_freer_tries_freer : (("freer_tries" : Str) == ("freer" : Str)) = false := by decide +kernel
theorem q_freer_tries_most_tries : (("freer_tries" : Str) == ("most_tries" : Str)) = false := by decide +kernel
theorem q_freer_tries_tries : (("freer_tries" : Str) == ("tries" : Str)) = false := by decide +kernel
theorem q_freer_tries_word : (("freer_tries" : Str) == ("word" : Str)) = false := by decide +kernel
theorem q_has_room_for_active : (("has_room_for" : Str) == ("active" : Str)) = false := by decide +kernel
theorem q_has_room_for_file : (("has_room_for" : Str) == ("file" : Str)) = false := by decide +kernel
theorem q_has_room_for_folder : (("has_room_for" : Str) == ("folder" : Str)) = false := by decide +kernel
theorem q_has_room_for_secrets : (("has_room_for" : Str) == ("secrets" : Str)) = false := by decide +kernel
theorem q_has_room_for_slots : (("has_room_for" : Str) == ("slots" : Str)) = false := by decide +kernel
theorem q_inside_active : (("inside" : Str) == ("active" : Str)) = false := by decide +kernel
theorem q_inside_file : (("inside" : Str) == ("file" : Str)) = false := by decide +kernel
theorem q_inside_folder : (("inside" : Str) == ("folder" : Str)) = false := by decide +kernel
theorem q_inside_secrets : (("inside" : Str) == ("secrets" : Str)) = false := by decide +kernel
theorem q_inside_slots : (("inside" : Str) == ("slots" : Str)) = false := by decide +kernel
theorem q_instruction_group : (("instruction" : Str) == ("group" : Str)) = false := by decide +kernel
theorem q_is_plain_asked : (("is_plain" : Str) == ("asked" : Str)) = false := by decide +kernel
theorem q_is_plain_data : (("is_plain" : Str) == ("data" : Str)) = false := by decide +kernel
theorem q_is_plain_first : (("is_plain" : Str) == ("first" : Str)) = false := by decide +kernel
theorem q_is_plain_group : (("is_plain" : Str) == ("group" : Str)) = false := by decide +kernel
theorem q_is_plain_instruction : (("is_plain" : Str) == ("instruction" : Str)) = false := by decide +kernel
theorem q_is_plain_second : (("is_plain" : Str) == ("second" : Str)) = false := by decide +kernel
theorem q_length_content : (("length" : Str) == ("content" : Str)) = false := by decide +kernel
theorem q_length_kind : (("length" : Str) == ("kind" : Str)) = false := by decide +kernel
theorem q_length_name : (("length" : Str) == ("name" : Str)) = false := by decide +kernel
theorem q_length_number : (("length" : Str) == ("number" : Str)) = false := by decide +kernel
theorem q_length_reading : (("length" : Str) == ("reading" : Str)) = false := by decide +kernel
theorem q_length_short : (("length" : Str) == ("short" : Str)) = false := by decide +kernel
theorem q_length_size : (("length" : Str) == ("size" : Str)) = false := by decide +kernel
theorem q_length_writing : (("length" : Str) == ("writing" : Str)) = false := by decide +kernel
theorem q_most_content : (("most" : Str) == ("content" : Str)) = false := by decide +kernel
theorem q_most_kind : (("most" : Str) == ("kind" : Str)) = false := by decide +kernel
theorem q_most_length : (("most" : Str) == ("length" : Str)) = false := by decide +kernel
theorem q_most_name : (("most" : Str) == ("name" : Str)) = false := by decide +kernel
theorem q_most_number : (("most" : Str) == ("number" : Str)) = false := by decide +kernel
theorem q_most_reading : (("most" : Str) == ("reading" : Str)) = false := by decide +kernel
theorem q_most_short : (("most" : Str) == ("short" : Str)) = false := by decide +kernel
theorem q_most_size : (("most" : Str) == ("size" : Str)) = false := by decide +kernel
theorem q_most_writing : (("most" : Str) == ("writing" : Str)) = false := by decide +kernel
theorem q_most_tries_freer : (("most_tries" : Str) == ("freer" : Str)) = false := by decide +kernel
theorem q_most_tries_word : (("most_tries" : Str) == ("word" : Str)) = false := by decide +kernel
theorem q_name_kind : (("name" : Str) == ("kind" : Str)) = false := by decide +kernel
theorem q_name_number : (("name" : Str) == ("number" : Str)) = false := by decide +kernel
theorem q_name_short : (("name" : Str) == ("short" : Str)) = false := by decide +kernel
theorem q_number_kind : (("number" : Str) == ("kind" : Str)) = false := by decide +kernel
theorem q_put_in_active : (("put_in" : Str) == ("active" : Str)) = false := by decide +kernel
theorem q_put_in_file : (("put_in" : Str) == ("file" : Str)) = false := by decide +kernel
theorem q_put_in_folder : (("put_in" : Str) == ("folder" : Str)) = false := by decide +kernel
theorem q_put_in_secrets : (("put_in" : Str) == ("secrets" : Str)) = false := by decide +kernel
theorem q_put_in_slots : (("put_in" : Str) == ("slots" : Str)) = false := by decide +kernel
theorem q_reading_kind : (("reading" : Str) == ("kind" : Str)) = false := by decide +kernel
theorem q_reading_name : (("reading" : Str) == ("name" : Str)) = false := by decide +kernel
theorem q_reading_number : (("reading" : Str) == ("number" : Str)) = false := by decide +kernel
theorem q_reading_short : (("reading" : Str) == ("short" : Str)) = false := by decide +kernel
theorem q_records_content : (("records" : Str) == ("content" : Str)) = false := by decide +kernel
theorem q_records_kind : (("records" : Str) == ("kind" : Str)) = false := by decide +kernel
theorem q_records_length : (("records" : Str) == ("length" : Str)) = false := by decide +kernel
theorem q_records_most : (("records" : Str) == ("most" : Str)) = false := by decide +kernel
theorem q_records_name : (("records" : Str) == ("name" : Str)) = false := by decide +kernel
theorem q_records_number : (("records" : Str) == ("number" : Str)) = false := by decide +kernel
theorem q_records_reading : (("records" : Str) == ("reading" : Str)) = false := by decide +kernel
theorem q_records_short : (("records" : Str) == ("short" : Str)) = false := by decide +kernel
theorem q_records_size : (("records" : Str) == ("size" : Str)) = false := by decide +kernel
theorem q_records_writing : (("records" : Str) == ("writing" : Str)) = false := by decide +kernel
theorem q_second_first : (("second" : Str) == ("first" : Str)) = false := by decide +kernel
theorem q_second_group : (("second" : Str) == ("group" : Str)) = false := by decide +kernel
theorem q_second_instruction : (("second" : Str) == ("instruction" : Str)) = false := by decide +kernel
theorem q_secrets_slots : (("secrets" : Str) == ("slots" : Str)) = false := by decide +kernel
theorem q_short_kind : (("short" : Str) == ("kind" : Str)) = false := by decide +kernel
theorem q_short_number : (("short" : Str) == ("number" : Str)) = false := by decide +kernel
theorem q_size_kind : (("size" : Str) == ("kind" : Str)) = false := by decide +kernel
theorem q_size_name : (("size" : Str) == ("name" : Str)) = false := by decide +kernel
theorem q_size_number : (("size" : Str) == ("number" : Str)) = false := by decide +kernel
theorem q_size_reading : (("size" : Str) == ("reading" : Str)) = false := by decide +kernel
theorem q_size_short : (("size" : Str) == ("short" : Str)) = false := by decide +kernel
theorem q_size_writing : (("size" : Str) == ("writing" : Str)) = false := by decide +kernel
theorem q_take_out_active : (("take_out" : Str) == ("active" : Str)) = false := by decide +kernel
theorem q_take_out_file : (("take_out" : Str) == ("file" : Str)) = false := by decide +kernel
theorem q_take_out_folder : (("take_out" : Str) == ("folder" : Str)) = false := by decide +kernel
theorem q_take_out_secrets : (("take_out" : Str) == ("secrets" : Str)) = false := by decide +kernel
theorem q_take_out_slots : (("take_out" : Str) == ("slots" : Str)) = false := by decide +kernel
theorem q_told_freer : (("told" : Str) == ("freer" : Str)) = false := by decide +kernel
theorem q_told_freer_tries : (("told" : Str) == ("freer_tries" : Str)) = false := by decide +kernel
theorem q_told_most_tries : (("told" : Str) == ("most_tries" : Str)) = false := by decide +kernel
theorem q_told_tries : (("told" : Str) == ("tries" : Str)) = false := by decide +kernel
theorem q_told_word : (("told" : Str) == ("word" : Str)) = false := by decide +kernel
theorem q_tries_freer : (("tries" : Str) == ("freer" : Str)) = false := by decide +kernel
theorem q_tries_most_tries : (("tries" : Str) == ("most_tries" : Str)) = false := by decide +kernel
theorem q_tries_word : (("tries" : Str) == ("word" : Str)) = false := by decide +kernel
theorem q_writing_kind : (("writing" : Str) == ("kind" : Str)) = false := by decide +kernel
theorem q_writing_name : (("writing" : Str) == ("name" : Str)) = false := by decide +kernel
theorem q_writing_number : (("writing" : Str) == ("number" : Str)) = false := by decide +kernel
theorem q_writing_reading : (("writing" : Str) == ("reading" : Str)) = false := by decide +kernel
theorem q_writing_short : (("writing" : Str) == ("short" : Str)) = false := by decide +kernel
theorem p_secrets_active : ¬ ("secrets" : Str) = ("active" : Str) := by decide +kernel
theorem p_slots_active : ¬ ("slots" : Str) = ("active" : Str) := by decide +kernel
theorem p_active_allows : ¬ ("active" : Str) = ("allows" : Str) := by decide +kernel
theorem p_file_allows : ¬ ("file" : Str) = ("allows" : Str) := by decide +kernel
theorem p_folder_allows : ¬ ("folder" : Str) = ("allows" : Str) := by decide +kernel
theorem p_secrets_allows : ¬ ("secrets" : Str) = ("allows" : Str) := by decide +kernel
theorem p_slots_allows : ¬ ("slots" : Str) = ("allows" : Str) := by decide +kernel
theorem p_data_asked : ¬ ("data" : Str) = ("asked" : Str) := by decide +kernel
theorem p_first_asked : ¬ ("first" : Str) = ("asked" : Str) := by decide +kernel
theorem p_group_asked : ¬ ("group" : Str) = ("asked" : Str) := by decide +kernel
theorem p_instruction_asked : ¬ ("instruction" : Str) = ("asked" : Str) := by decide +kernel
theorem p_second_asked : ¬ ("second" : Str) = ("asked" : Str) := by decide +kernel
theorem p_active_begin_anew : ¬ ("active" : Str) = ("begin_anew" : Str) := by decide +kernel
theorem p_file_begin_anew : ¬ ("file" : Str) = ("begin_anew" : Str) := by decide +kernel
theorem p_folder_begin_anew : ¬ ("folder" : Str) = ("begin_anew" : Str) := by decide +kernel
theorem p_secrets_begin_anew : ¬ ("secrets" : Str) = ("begin_anew" : Str) := by decide +kernel
theorem p_slots_begin_anew : ¬ ("slots" : Str) = ("begin_anew" : Str) := by decide +kernel
theorem p_asked_brings : ¬ ("asked" : Str) = ("brings" : Str) := by decide +kernel
theorem p_data_brings : ¬ ("data" : Str) = ("brings" : Str) := by decide +kernel
theorem p_first_brings : ¬ ("first" : Str) = ("brings" : Str) := by decide +kernel
theorem p_group_brings : ¬ ("group" : Str) = ("brings" : Str) := by decide +kernel
theorem p_instruction_brings : ¬ ("instruction" : Str) = ("brings" : Str) := by decide +kernel
theorem p_second_brings : ¬ ("second" : Str) = ("brings" : Str) := by decide +kernel
theorem p_active_choose_inner : ¬ ("active" : Str) = ("choose_inner" : Str) := by decide +kernel
theorem p_file_choose_inner : ¬ ("file" : Str) = ("choose_inner" : Str) := by decide +kernel
theorem p_folder_choose_inner : ¬ ("folder" : Str) = ("choose_inner" : Str) := by decide +kernel
theorem p_secrets_choose_inner : ¬ ("secrets" : Str) = ("choose_inner" : Str) := by decide +kernel
theorem p_slots_choose_inner : ¬ ("slots" : Str) = ("choose_inner" : Str) := by decide +kernel
theorem p_active_chosen_file : ¬ ("active" : Str) = ("chosen_file" : Str) := by decide +kernel
theorem p_file_chosen_file : ¬ ("file" : Str) = ("chosen_file" : Str) := by decide +kernel
theorem p_folder_chosen_file : ¬ ("folder" : Str) = ("chosen_file" : Str) := by decide +kernel
theorem p_secrets_chosen_file : ¬ ("secrets" : Str) = ("chosen_file" : Str) := by decide +kernel
theorem p_slots_chosen_file : ¬ ("slots" : Str) = ("chosen_file" : Str) := by decide +kernel
theorem p_active_chosen_folder : ¬ ("active" : Str) = ("chosen_folder" : Str) := by decide +kernel
theorem p_file_chosen_folder : ¬ ("file" : Str) = ("chosen_folder" : Str) := by decide +kernel
theorem p_folder_chosen_folder : ¬ ("folder" : Str) = ("chosen_folder" : Str) := by decide +kernel
theorem p_secrets_chosen_folder : ¬ ("secrets" : Str) = ("chosen_folder" : Str) := by decide +kernel
theorem p_slots_chosen_folder : ¬ ("slots" : Str) = ("chosen_folder" : Str) := by decide +kernel
theorem p_active_clashes : ¬ ("active" : Str) = ("clashes" : Str) := by decide +kernel
theorem p_file_clashes : ¬ ("file" : Str) = ("clashes" : Str) := by decide +kernel
theorem p_folder_clashes : ¬ ("folder" : Str) = ("clashes" : Str) := by decide +kernel
theorem p_secrets_clashes : ¬ ("secrets" : Str) = ("clashes" : Str) := by decide +kernel
theorem p_slots_clashes : ¬ ("slots" : Str) = ("clashes" : Str) := by decide +kernel
theorem p_kind_content : ¬ ("kind" : Str) = ("content" : Str) := by decide +kernel
theorem p_name_content : ¬ ("name" : Str) = ("content" : Str) := by decide +kernel
theorem p_number_content : ¬ ("number" : Str) = ("content" : Str) := by decide +kernel
theorem p_reading_content : ¬ ("reading" : Str) = ("content" : Str) := by decide +kernel
theorem p_short_content : ¬ ("short" : Str) = ("content" : Str) := by decide +kernel
theorem p_size_content : ¬ ("size" : Str) = ("content" : Str) := by decide +kernel
theorem p_writing_content : ¬ ("writing" : Str) = ("content" : Str) := by decide +kernel
theorem p_first_data : ¬ ("first" : Str) = ("data" : Str) := by decide +kernel
theorem p_group_data : ¬ ("group" : Str) = ("data" : Str) := by decide +kernel
theorem p_instruction_data : ¬ ("instruction" : Str) = ("data" : Str) := by decide +kernel
theorem p_second_data : ¬ ("second" : Str) = ("data" : Str) := by decide +kernel
theorem p_active_file : ¬ ("active" : Str) = ("file" : Str) := by decide +kernel
theorem p_folder_file : ¬ ("folder" : Str) = ("file" : Str) := by decide +kernel
theorem p_secrets_file : ¬ ("secrets" : Str) = ("file" : Str) := by decide +kernel
theorem p_slots_file : ¬ ("slots" : Str) = ("file" : Str) := by decide +kernel
theorem p_active_find_name : ¬ ("active" : Str) = ("find_name" : Str) := by decide +kernel
theorem p_file_find_name : ¬ ("file" : Str) = ("find_name" : Str) := by decide +kernel
theorem p_folder_find_name : ¬ ("folder" : Str) = ("find_name" : Str) := by decide +kernel
theorem p_secrets_find_name : ¬ ("secrets" : Str) = ("find_name" : Str) := by decide +kernel
theorem p_slots_find_name : ¬ ("slots" : Str) = ("find_name" : Str) := by decide +kernel
theorem p_active_find_number : ¬ ("active" : Str) = ("find_number" : Str) := by decide +kernel
theorem p_file_find_number : ¬ ("file" : Str) = ("find_number" : Str) := by decide +kernel
theorem p_folder_find_number : ¬ ("folder" : Str) = ("find_number" : Str) := by decide +kernel
theorem p_secrets_find_number : ¬ ("secrets" : Str) = ("find_number" : Str) := by decide +kernel
theorem p_slots_find_number : ¬ ("slots" : Str) = ("find_number" : Str) := by decide +kernel
theorem p_active_find_short : ¬ ("active" : Str) = ("find_short" : Str) := by decide +kernel
theorem p_file_find_short : ¬ ("file" : Str) = ("find_short" : Str) := by decide +kernel
theorem p_folder_find_short : ¬ ("folder" : Str) = ("find_short" : Str) := by decide +kernel
theorem p_secrets_find_short : ¬ ("secrets" : Str) = ("find_short" : Str) := by decide +kernel
theorem p_slots_find_short : ¬ ("slots" : Str) = ("find_short" : Str) := by decide +kernel
theorem p_group_first : ¬ ("group" : Str) = ("first" : Str) := by decide +kernel
theorem p_instruction_first : ¬ ("instruction" : Str) = ("first" : Str) := by decide +kernel
theorem p_active_folder : ¬ ("active" : Str) = ("folder" : Str) := by decide +kernel
theorem p_content_folder : ¬ ("content" : Str) = ("folder" : Str) := by decide +kernel
theorem p_kind_folder : ¬ ("kind" : Str) = ("folder" : Str) := by decide +kernel
theorem p_length_folder : ¬ ("length" : Str) = ("folder" : Str) := by decide +kernel
theorem p_most_folder : ¬ ("most" : Str) = ("folder" : Str) := by decide +kernel
theorem p_name_folder : ¬ ("name" : Str) = ("folder" : Str) := by decide +kernel
theorem p_number_folder : ¬ ("number" : Str) = ("folder" : Str) := by decide +kernel
theorem p_reading_folder : ¬ ("reading" : Str) = ("folder" : Str) := by decide +kernel
theorem p_records_folder : ¬ ("records" : Str) = ("folder" : Str) := by decide +kernel
theorem p_secrets_folder : ¬ ("secrets" : Str) = ("folder" : Str) := by decide +kernel
theorem p_short_folder : ¬ ("short" : Str) = ("folder" : Str) := by decide +kernel
theorem p_size_folder : ¬ ("size" : Str) = ("folder" : Str) := by decide +kernel
theorem p_slots_folder : ¬ ("slots" : Str) = ("folder" : Str) := by decide +kernel
theorem p_writing_folder : ¬ ("writing" : Str) = ("folder" : Str) := by decide +kernel
theorem p_active_free_inner : ¬ ("active" : Str) = ("free_inner" : Str) := by decide +kernel
theorem p_file_free_inner : ¬ ("file" : Str) = ("free_inner" : Str) := by decide +kernel
theorem p_folder_free_inner : ¬ ("folder" : Str) = ("free_inner" : Str) := by decide +kernel
theorem p_secrets_free_inner : ¬ ("secrets" : Str) = ("free_inner" : Str) := by decide +kernel
theorem p_slots_free_inner : ¬ ("slots" : Str) = ("free_inner" : Str) := by decide +kernel
theorem p_word_freer : ¬ ("word" : Str) = ("freer" : Str) := by decide +kernel
theorem p_freer_freer_tries : ¬ ("freer" : Str) = ("freer_tries" : Str) := by decide +kernel
theorem p_most_tries_freer_tries : ¬ ("most_tries" : Str) = ("freer_tries" : Str) := by decide +kernel
theorem p_tries_freer_tries : ¬ ("tries" : Str) = ("freer_tries" : Str) := by decide +kernel
theorem p_word_freer_tries : ¬ ("word" : Str) = ("freer_tries" : Str) := by decide +kernel
theorem p_active_has_room_for : ¬ ("active" : Str) = ("has_room_for" : Str) := by decide +kernel
theorem p_file_has_room_for : ¬ ("file" : Str) = ("has_room_for" : Str) := by decide +kernel
theorem p_folder_has_room_for : ¬ ("folder" : Str) = ("has_room_for" : Str) := by decide +kernel
theorem p_secrets_has_room_for : ¬ ("secrets" : Str) = ("has_room_for" : Str) := by decide +kernel
theorem p_slots_has_room_for : ¬ ("slots" : Str) = ("has_room_for" : Str) := by decide +kernel
theorem p_active_inside : ¬ ("active" : Str) = ("inside" : Str) := by decide +kernel
theorem p_file_inside : ¬ ("file" : Str) = ("inside" : Str) := by decide +kernel
theorem p_folder_inside : ¬ ("folder" : Str) = ("inside" : Str) := by decide +kernel
theorem p_secrets_inside : ¬ ("secrets" : Str) = ("inside" : Str) := by decide +kernel
theorem p_slots_inside : ¬ ("slots" : Str) = ("inside" : Str) := by decide +kernel
theorem p_group_instruction : ¬ ("group" : Str) = ("instruction" : Str) := by decide +kernel
theorem p_asked_is_plain : ¬ ("asked" : Str) = ("is_plain" : Str) := by decide +kernel
theorem p_data_is_plain : ¬ ("data" : Str) = ("is_plain" : Str) := by decide +kernel
theorem p_first_is_plain : ¬ ("first" : Str) = ("is_plain" : Str) := by decide +kernel
theorem p_group_is_plain : ¬ ("group" : Str) = ("is_plain" : Str) := by decide +kernel
theorem p_instruction_is_plain : ¬ ("instruction" : Str) = ("is_plain" : Str) := by decide +kernel
theorem p_second_is_plain : ¬ ("second" : Str) = ("is_plain" : Str) := by decide +kernel
theorem p_content_length : ¬ ("content" : Str) = ("length" : Str) := by decide +kernel
theorem p_kind_length : ¬ ("kind" : Str) = ("length" : Str) := by decide +kernel
theorem p_name_length : ¬ ("name" : Str) = ("length" : Str) := by decide +kernel
theorem p_number_length : ¬ ("number" : Str) = ("length" : Str) := by decide +kernel
theorem p_reading_length : ¬ ("reading" : Str) = ("length" : Str) := by decide +kernel
theorem p_short_length : ¬ ("short" : Str) = ("length" : Str) := by decide +kernel
theorem p_size_length : ¬ ("size" : Str) = ("length" : Str) := by decide +kernel
theorem p_writing_length : ¬ ("writing" : Str) = ("length" : Str) := by decide +kernel
theorem p_content_most : ¬ ("content" : Str) = ("most" : Str) := by decide +kernel
theorem p_kind_most : ¬ ("kind" : Str) = ("most" : Str) := by decide +kernel
theorem p_length_most : ¬ ("length" : Str) = ("most" : Str) := by decide +kernel
theorem p_name_most : ¬ ("name" : Str) = ("most" : Str) := by decide +kernel
theorem p_number_most : ¬ ("number" : Str) = ("most" : Str) := by decide +kernel
theorem p_reading_most : ¬ ("reading" : Str) = ("most" : Str) := by decide +kernel
theorem p_short_most : ¬ ("short" : Str) = ("most" : Str) := by decide +kernel
theorem p_size_most : ¬ ("size" : Str) = ("most" : Str) := by decide +kernel
theorem p_writing_most : ¬ ("writing" : Str) = ("most" : Str) := by decide +kernel
theorem p_freer_most_tries : ¬ ("freer" : Str) = ("most_tries" : Str) := by decide +kernel
theorem p_word_most_tries : ¬ ("word" : Str) = ("most_tries" : Str) := by decide +kernel
theorem p_kind_name : ¬ ("kind" : Str) = ("name" : Str) := by decide +kernel
theorem p_number_name : ¬ ("number" : Str) = ("name" : Str) := by decide +kernel
theorem p_short_name : ¬ ("short" : Str) = ("name" : Str) := by decide +kernel
theorem p_kind_number : ¬ ("kind" : Str) = ("number" : Str) := by decide +kernel
theorem p_active_put_in : ¬ ("active" : Str) = ("put_in" : Str) := by decide +kernel
theorem p_file_put_in : ¬ ("file" : Str) = ("put_in" : Str) := by decide +kernel
theorem p_folder_put_in : ¬ ("folder" : Str) = ("put_in" : Str) := by decide +kernel
theorem p_secrets_put_in : ¬ ("secrets" : Str) = ("put_in" : Str) := by decide +kernel
theorem p_slots_put_in : ¬ ("slots" : Str) = ("put_in" : Str) := by decide +kernel
theorem p_kind_reading : ¬ ("kind" : Str) = ("reading" : Str) := by decide +kernel
theorem p_name_reading : ¬ ("name" : Str) = ("reading" : Str) := by decide +kernel
theorem p_number_reading : ¬ ("number" : Str) = ("reading" : Str) := by decide +kernel
theorem p_short_reading : ¬ ("short" : Str) = ("reading" : Str) := by decide +kernel
theorem p_content_records : ¬ ("content" : Str) = ("records" : Str) := by decide +kernel
theorem p_kind_records : ¬ ("kind" : Str) = ("records" : Str) := by decide +kernel
theorem p_length_records : ¬ ("length" : Str) = ("records" : Str) := by decide +kernel
theorem p_most_records : ¬ ("most" : Str) = ("records" : Str) := by decide +kernel
theorem p_name_records : ¬ ("name" : Str) = ("records" : Str) := by decide +kernel
theorem p_number_records : ¬ ("number" : Str) = ("records" : Str) := by decide +kernel
theorem p_reading_records : ¬ ("reading" : Str) = ("records" : Str) := by decide +kernel
theorem p_short_records : ¬ ("short" : Str) = ("records" : Str) := by decide +kernel
theorem p_size_records : ¬ ("size" : Str) = ("records" : Str) := by decide +kernel
theorem p_writing_records : ¬ ("writing" : Str) = ("records" : Str) := by decide +kernel
theorem p_first_second : ¬ ("first" : Str) = ("second" : Str) := by decide +kernel
theorem p_group_second : ¬ ("group" : Str) = ("second" : Str) := by decide +kernel
theorem p_instruction_second : ¬ ("instruction" : Str) = ("second" : Str) := by decide +kernel
theorem p_slots_secrets : ¬ ("slots" : Str) = ("secrets" : Str) := by decide +kernel
theorem p_kind_short : ¬ ("kind" : Str) = ("short" : Str) := by decide +kernel
theorem p_number_short : ¬ ("number" : Str) = ("short" : Str) := by decide +kernel
theorem p_kind_size : ¬ ("kind" : Str) = ("size" : Str) := by decide +kernel
theorem p_name_size : ¬ ("name" : Str) = ("size" : Str) := by decide +kernel
theorem p_number_size : ¬ ("number" : Str) = ("size" : Str) := by decide +kernel
theorem p_reading_size : ¬ ("reading" : Str) = ("size" : Str) := by decide +kernel
theorem p_short_size : ¬ ("short" : Str) = ("size" : Str) := by decide +kernel
theorem p_writing_size : ¬ ("writing" : Str) = ("size" : Str) := by decide +kernel
theorem p_active_take_out : ¬ ("active" : Str) = ("take_out" : Str) := by decide +kernel
theorem p_file_take_out : ¬ ("file" : Str) = ("take_out" : Str) := by decide +kernel
theorem p_folder_take_out : ¬ ("folder" : Str) = ("take_out" : Str) := by decide +kernel
theorem p_secrets_take_out : ¬ ("secrets" : Str) = ("take_out" : Str) := by decide +kernel
theorem p_slots_take_out : ¬ ("slots" : Str) = ("take_out" : Str) := by decide +kernel
theorem p_freer_told : ¬ ("freer" : Str) = ("told" : Str) := by decide +kernel
theorem p_freer_tries_told : ¬ ("freer_tries" : Str) = ("told" : Str) := by decide +kernel
theorem p_most_tries_told : ¬ ("most_tries" : Str) = ("told" : Str) := by decide +kernel
theorem p_tries_told : ¬ ("tries" : Str) = ("told" : Str) := by decide +kernel
theorem p_word_told : ¬ ("word" : Str) = ("told" : Str) := by decide +kernel
theorem p_freer_tries : ¬ ("freer" : Str) = ("tries" : Str) := by decide +kernel
theorem p_most_tries_tries : ¬ ("most_tries" : Str) = ("tries" : Str) := by decide +kernel
theorem p_word_tries : ¬ ("word" : Str) = ("tries" : Str) := by decide +kernel
theorem p_kind_writing : ¬ ("kind" : Str) = ("writing" : Str) := by decide +kernel
theorem p_name_writing : ¬ ("name" : Str) = ("writing" : Str) := by decide +kernel
theorem p_number_writing : ¬ ("number" : Str) = ("writing" : Str) := by decide +kernel
theorem p_reading_writing : ¬ ("reading" : Str) = ("writing" : Str) := by decide +kernel
theorem p_short_writing : ¬ ("short" : Str) = ("writing" : Str) := by decide +kernel
/-! ### the objects' field lists -/
def ffs (f : PF) (n ct rc : Addr) : List (Str × V) := [("kind", .int (f.kind : Int)), ("number", .int (f.number : Int)), ("short", .int (f.short : Int)), ("name", .ref n), ("reading", .int (f.reading : Int)), ("writing", .int (f.writing : Int)), ("size", .int (f.size : Int)), ("content", .ref ct), ("length", .int (f.length : Int)), ("most", .int (f.most : Int)), ("records", .ref rc), ("folder", .int f.folder)]
def sfs (s : Sd27.Secret) (told : Bool) (wd fr : Addr) : List (Str × V) := [("word", .ref wd), ("freer", .ref fr), ("most_tries", .int (s.most : Int)), ("tries", .int (s.left : Int)), ("freer_tries", .int (s.freeLeft : Int)), ("told", .bl told)]
def cfs (sl sd : Addr) (active : Bool) (folder : Nat) (file : Option Nat) : List (Str × V) := [("slots", .ref sl), ("secrets", .ref sd), ("active", .bl active), ("folder", .int (folder : Int)), ("file", .int (oi file))]
def rfs (k : Sd27.Cmd) (d : Addr) : List (Str × V) := [("group", .int (k.cla : Int)), ("instruction", .int (k.ins : Int)), ("first", .int (k.p1 : Int)), ("second", .int (k.p2 : Int)), ("data", .ref d), ("asked", .int (wantI k.want : Int))]
theorem ff_kind (f : PF) (n ct rc : Addr) : (ffs f n ct rc).lookup ("kind" : Str) = some (.int (f.kind : Int)) := lk_here
theorem ff_number (f : PF) (n ct rc : Addr) : (ffs f n ct rc).lookup ("number" : Str) = some (.int (f.number : Int)) := (lk_past q_number_kind).trans lk_here
theorem ff_short (f : PF) (n ct rc : Addr) : (ffs f n ct rc).lookup ("short" : Str) = some (.int (f.short : Int)) := (lk_past q_short_kind).trans ((lk_past q_short_number).trans lk_here)
theorem ff_name (f : PF) (n ct rc : Addr) : (ffs f n ct rc).lookup ("name" : Str) = some (.ref n) := (lk_past q_name_kind).trans ((lk_past q_name_number).trans ((lk_past q_name_short).trans lk_here))
theorem ff_reading (f : PF) (n ct rc : Addr) : (ffs f n ct rc).lookup ("reading" : Str) = some (.int (f.reading : Int)) := (lk_past q_reading_kind).trans ((lk_past q_reading_number).trans ((lk_past q_reading_short).trans ((lk_past q_reading_name).trans lk_here)))
theorem ff_writing (f : PF) (n ct rc : Addr) : (ffs f n ct rc).lookup ("writing" : Str) = some (.int (f.writing : Int)) := (lk_past q_writing_kind).trans ((lk_past q_writing_number).trans ((lk_past q_writing_short).trans ((lk_past q_writing_name).trans ((lk_past q_writing_reading).trans lk_here))))
theorem ff_size (f : PF) (n ct rc : Addr) : (ffs f n ct rc).lookup ("size" : Str) = some (.int (f.size : Int)) := (lk_past q_size_kind).trans ((lk_past q_size_number).trans ((lk_past q_size_short).trans ((lk_past q_size_name).trans ((lk_past q_size_reading).trans ((lk_past q_size_writing).trans lk_here)))))
theorem ff_content (f : PF) (n ct rc : Addr) : (ffs f n ct rc).lookup ("content" : Str) = some (.ref ct) := (lk_past q_content_kind).trans ((lk_past q_content_number).trans ((lk_past q_content_short).trans ((lk_past q_content_name).trans ((lk_past q_content_reading).trans ((lk_past q_content_writing).trans ((lk_past q_content_size).trans lk_here))))))
theorem ff_length (f : PF) (n ct rc : Addr) : (ffs f n ct rc).lookup ("length" : Str) = some (.int (f.length : Int)) := (lk_past q_length_kind).trans ((lk_past q_length_number).trans ((lk_past q_length_short).trans ((lk_past q_length_name).trans ((lk_past q_length_reading).trans ((lk_past q_length_writing).trans ((lk_past q_length_size).trans ((lk_past q_length_content).trans lk_here)))))))
theorem ff_most (f : PF) (n ct rc : Addr) : (ffs f n ct rc).lookup ("most" : Str) = some (.int (f.most : Int)) := (lk_past q_most_kind).trans ((lk_past q_most_number).trans ((lk_past q_most_short).trans ((lk_past q_most_name).trans ((lk_past q_most_reading).trans ((lk_past q_most_writing).trans ((lk_past q_most_size).trans ((lk_past q_most_content).trans ((lk_past q_most_length).trans lk_here))))))))
theorem ff_records (f : PF) (n ct rc : Addr) : (ffs f n ct rc).lookup ("records" : Str) = some (.ref rc) := (lk_past q_records_kind).trans ((lk_past q_records_number).trans ((lk_past q_records_short).trans ((lk_past q_records_name).trans ((lk_past q_records_reading).trans ((lk_past q_records_writing).trans ((lk_past q_records_size).trans ((lk_past q_records_content).trans ((lk_past q_records_length).trans ((lk_past q_records_most).trans lk_here)))))))))
theorem ff_folder (f : PF) (n ct rc : Addr) : (ffs f n ct rc).lookup ("folder" : Str) = some (.int f.folder) := (lk_past q_folder_kind).trans ((lk_past q_folder_number).trans ((lk_past q_folder_short).trans ((lk_past q_folder_name).trans ((lk_past q_folder_reading).trans ((lk_past q_folder_writing).trans ((lk_past q_folder_size).trans ((lk_past q_folder_content).trans ((lk_past q_folder_length).trans ((lk_past q_folder_most).trans ((lk_past q_folder_records).trans lk_here))))))))))
theorem sf_word (s : Sd27.Secret) (told : Bool) (wd fr : Addr) : (sfs s told wd fr).lookup ("word" : Str) = some (.ref wd) := lk_here
theorem sf_freer (s : Sd27.Secret) (told : Bool) (wd fr : Addr) : (sfs s told wd fr).lookup ("freer" : Str) = some (.ref fr) := (lk_past q_freer_word).trans lk_here
theorem sf_most_tries (s : Sd27.Secret) (told : Bool) (wd fr : Addr) : (sfs s told wd fr).lookup ("most_tries" : Str) = some (.int (s.most : Int)) := (lk_past q_most_tries_word).trans ((lk_past q_most_tries_freer).trans lk_here)
theorem sf_tries (s : Sd27.Secret) (told : Bool) (wd fr : Addr) : (sfs s told wd fr).lookup ("tries" : Str) = some (.int (s.left : Int)) := (lk_past q_tries_word).trans ((lk_past q_tries_freer).trans ((lk_past q_tries_most_tries).trans lk_here))
theorem sf_freer_tries (s : Sd27.Secret) (told : Bool) (wd fr : Addr) : (sfs s told wd fr).lookup ("freer_tries" : Str) = some (.int (s.freeLeft : Int)) := (lk_past q_freer_tries_word).trans ((lk_past q_freer_tries_freer).trans ((lk_past q_freer_tries_most_tries).trans ((lk_past q_freer_tries_tries).trans lk_here)))
theorem sf_told (s : Sd27.Secret) (told : Bool) (wd fr : Addr) : (sfs s told wd fr).lookup ("told" : Str) = some (.bl told) := (lk_past q_told_word).trans ((lk_past q_told_freer).trans ((lk_past q_told_most_tries).trans ((lk_past q_told_tries).trans ((lk_past q_told_freer_tries).trans lk_here))))
theorem cf_slots (sl sd : Addr) (active : Bool) (folder : Nat) (file : Option Nat) : (cfs sl sd active folder file).lookup ("slots" : Str) = some (.ref sl) := lk_here
theorem cf_secrets (sl sd : Addr) (active : Bool) (folder : Nat) (file : Option Nat) : (cfs sl sd active folder file).lookup ("secrets" : Str) = some (.ref sd) := (lk_past q_secrets_slots).trans lk_here
theorem cf_active (sl sd : Addr) (active : Bool) (folder : Nat) (file : Option Nat) : (cfs sl sd active folder file).lookup ("active" : Str) = some (.bl active) := (lk_past q_active_slots).trans ((lk_past q_active_secrets).trans lk_here)
theorem cf_folder (sl sd : Addr) (active : Bool) (folder : Nat) (file : Option Nat) : (cfs sl sd active folder file).lookup ("folder" : Str) = some (.int (folder : Int)) := (lk_past q_folder_slots).trans ((lk_past q_folder_secrets).trans ((lk_past q_folder_active).trans lk_here))
theorem cf_file (sl sd : Addr) (active : Bool) (folder : Nat) (file : Option Nat) : (cfs sl sd active folder file).lookup ("file" : Str) = some (.int (oi file)) := (lk_past q_file_slots).trans ((lk_past q_file_secrets).trans ((lk_past q_file_active).trans ((lk_past q_file_folder).trans lk_here)))
theorem cf_no_begin_anew (sl sd : Addr) (active : Bool) (folder : Nat) (file : Option Nat) : (cfs sl sd active folder file).lookup ("begin_anew" : Str) = none := (lk_past q_begin_anew_slots).trans ((lk_past q_begin_anew_secrets).trans ((lk_past q_begin_anew_active).trans ((lk_past q_begin_anew_folder).trans ((lk_past q_begin_anew_file).trans rfl))))
theorem cf_no_chosen_file (sl sd : Addr) (active : Bool) (folder : Nat) (file : Option Nat) : (cfs sl sd active folder file).lookup ("chosen_file" : Str) = none := (lk_past q_chosen_file_slots).trans ((lk_past q_chosen_file_secrets).trans ((lk_past q_chosen_file_active).trans ((lk_past q_chosen_file_folder).trans ((lk_past q_chosen_file_file).trans rfl))))
theorem cf_no_chosen_folder (sl sd : Addr) (active : Bool) (folder : Nat) (file : Option Nat) : (cfs sl sd active folder file).lookup ("chosen_folder" : Str) = none := (lk_past q_chosen_folder_slots).trans ((lk_past q_chosen_folder_secrets).trans ((lk_past q_chosen_folder_active).trans ((lk_past q_chosen_folder_folder).trans ((lk_past q_chosen_folder_file).trans rfl))))
theorem cf_no_choose_inner (sl sd : Addr) (active : Bool) (folder : Nat) (file : Option Nat) : (cfs sl sd active folder file).lookup ("choose_inner" : Str) = none := (lk_past q_choose_inner_slots).trans ((lk_past q_choose_inner_secrets).trans ((lk_past q_choose_inner_active).trans ((lk_past q_choose_inner_folder).trans ((lk_past q_choose_inner_file).trans rfl))))
theorem cf_no_allows (sl sd : Addr) (active : Bool) (folder : Nat) (file : Option Nat) : (cfs sl sd active folder file).lookup ("allows" : Str) = none := (lk_past q_allows_slots).trans ((lk_past q_allows_secrets).trans ((lk_past q_allows_active).trans ((lk_past q_allows_folder).trans ((lk_past q_allows_file).trans rfl))))
theorem cf_no_inside (sl sd : Addr) (active : Bool) (folder : Nat) (file : Option Nat) : (cfs sl sd active folder file).lookup ("inside" : Str) = none := (lk_past q_inside_slots).trans ((lk_past q_inside_secrets).trans ((lk_past q_inside_active).trans ((lk_past q_inside_folder).trans ((lk_past q_inside_file).trans rfl))))
theorem cf_no_find_number (sl sd : Addr) (active : Bool) (folder : Nat) (file : Option Nat) : (cfs sl sd active folder file).lookup ("find_number" : Str) = none := (lk_past q_find_number_slots).trans ((lk_past q_find_number_secrets).trans ((lk_past q_find_number_active).trans ((lk_past q_find_number_folder).trans ((lk_past q_find_number_file).trans rfl))))
theorem cf_no_find_short (sl sd : Addr) (active : Bool) (folder : Nat) (file : Option Nat) : (cfs sl sd active folder file).lookup ("find_short" : Str) = none := (lk_past q_find_short_slots).trans ((lk_past q_find_short_secrets).trans ((lk_past q_find_short_active).trans ((lk_past q_find_short_folder).trans ((lk_past q_find_short_file).trans rfl))))
theorem cf_no_find_name (sl sd : Addr) (active : Bool) (folder : Nat) (file : Option Nat) : (cfs sl sd active folder file).lookup ("find_name" : Str) = none := (lk_past q_find_name_slots).trans ((lk_past q_find_name_secrets).trans ((lk_past q_find_name_active).trans ((lk_past q_find_name_folder).trans ((lk_past q_find_name_file).trans rfl))))
theorem cf_no_clashes (sl sd : Addr) (active : Bool) (folder : Nat) (file : Option Nat) : (cfs sl sd active folder file).lookup ("clashes" : Str) = none := (lk_past q_clashes_slots).trans ((lk_past q_clashes_secrets).trans ((lk_past q_clashes_active).trans ((lk_past q_clashes_folder).trans ((lk_past q_clashes_file).trans rfl))))
theorem cf_no_free_inner (sl sd : Addr) (active : Bool) (folder : Nat) (file : Option Nat) : (cfs sl sd active folder file).lookup ("free_inner" : Str) = none := (lk_past q_free_inner_slots).trans ((lk_past q_free_inner_secrets).trans ((lk_past q_free_inner_active).trans ((lk_past q_free_inner_folder).trans ((lk_past q_free_inner_file).trans rfl))))
theorem cf_no_has_room_for (sl sd : Addr) (active : Bool) (folder : Nat) (file : Option Nat) : (cfs sl sd active folder file).lookup ("has_room_for" : Str) = none := (lk_past q_has_room_for_slots).trans ((lk_past q_has_room_for_secrets).trans ((lk_past q_has_room_for_active).trans ((lk_past q_has_room_for_folder).trans ((lk_past q_has_room_for_file).trans rfl))))
theorem cf_no_put_in (sl sd : Addr) (active : Bool) (folder : Nat) (file : Option Nat) : (cfs sl sd active folder file).lookup ("put_in" : Str) = none := (lk_past q_put_in_slots).trans ((lk_past q_put_in_secrets).trans ((lk_past q_put_in_active).trans ((lk_past q_put_in_folder).trans ((lk_past q_put_in_file).trans rfl))))
theorem cf_no_take_out (sl sd : Addr) (active : Bool) (folder : Nat) (file : Option Nat) : (cfs sl sd active folder file).lookup ("take_out" : Str) = none := (lk_past q_take_out_slots).trans ((lk_past q_take_out_secrets).trans ((lk_past q_take_out_active).trans ((lk_past q_take_out_folder).trans ((lk_past q_take_out_file).trans rfl))))
theorem rf_group (k : Sd27.Cmd) (d : Addr) : (rfs k d).lookup ("group" : Str) = some (.int (k.cla : Int)) := lk_here
theorem rf_instruction (k : Sd27.Cmd) (d : Addr) : (rfs k d).lookup ("instruction" : Str) = some (.int (k.ins : Int)) := (lk_past q_instruction_group).trans lk_here
theorem rf_first (k : Sd27.Cmd) (d : Addr) : (rfs k d).lookup ("first" : Str) = some (.int (k.p1 : Int)) := (lk_past q_first_group).trans ((lk_past q_first_instruction).trans lk_here)
theorem rf_second (k : Sd27.Cmd) (d : Addr) : (rfs k d).lookup ("second" : Str) = some (.int (k.p2 : Int)) := (lk_past q_second_group).trans ((lk_past q_second_instruction).trans ((lk_past q_second_first).trans lk_here))
theorem rf_data (k : Sd27.Cmd) (d : Addr) : (rfs k d).lookup ("data" : Str) = some (.ref d) := (lk_past q_data_group).trans ((lk_past q_data_instruction).trans ((lk_past q_data_first).trans ((lk_past q_data_second).trans lk_here)))
theorem rf_asked (k : Sd27.Cmd) (d : Addr) : (rfs k d).lookup ("asked" : Str) = some (.int (wantI k.want : Int)) := (lk_past q_asked_group).trans ((lk_past q_asked_instruction).trans ((lk_past q_asked_first).trans ((lk_past q_asked_second).trans ((lk_past q_asked_data).trans lk_here))))
theorem rf_no_is_plain (k : Sd27.Cmd) (d : Addr) : (rfs k d).lookup ("is_plain" : Str) = none := (lk_past q_is_plain_group).trans ((lk_past q_is_plain_instruction).trans ((lk_past q_is_plain_first).trans ((lk_past q_is_plain_second).trans ((lk_past q_is_plain_data).trans ((lk_past q_is_plain_asked).trans rfl)))))
theorem rf_no_brings (k : Sd27.Cmd) (d : Addr) : (rfs k d).lookup ("brings" : Str) = none := (lk_past q_brings_group).trans ((lk_past q_brings_instruction).trans ((lk_past q_brings_first).trans ((lk_past q_brings_second).trans ((lk_past q_brings_data).trans ((lk_past q_brings_asked).trans rfl)))))
theorem fp_short (f : PF) (n ct rc : Addr) (y : Nat) : putF ("short" : Str) (.int (y : Int)) (ffs f n ct rc) = ffs { f with short := y } n ct rc := (put_past p_kind_short).trans (congrArg _ ((put_past p_number_short).trans (congrArg _ put_here)))
theorem fp_reading (f : PF) (n ct rc : Addr) (y : Nat) : putF ("reading" : Str) (.int (y : Int)) (ffs f n ct rc) = ffs { f with reading := y } n ct rc := (put_past p_kind_reading).trans (congrArg _ ((put_past p_number_reading).trans (congrArg _ ((put_past p_short_reading).trans (congrArg _ ((put_past p_name_reading).trans (congrArg _ put_here)))))))
theorem fp_writing (f : PF) (n ct rc : Addr) (y : Nat) : putF ("writing" : Str) (.int (y : Int)) (ffs f n ct rc) = ffs { f with writing := y } n ct rc := (put_past p_kind_writing).trans (congrArg _ ((put_past p_number_writing).trans (congrArg _ ((put_past p_short_writing).trans (congrArg _ ((put_past p_name_writing).trans (congrArg _ ((put_past p_reading_writing).trans (congrArg _ put_here)))))))))
theorem fp_size (f : PF) (n ct rc : Addr) (y : Nat) : putF ("size" : Str) (.int (y : Int)) (ffs f n ct rc) = ffs { f with size := y } n ct rc := (put_past p_kind_size).trans (congrArg _ ((put_past p_number_size).trans (congrArg _ ((put_past p_short_size).trans (congrArg _ ((put_past p_name_size).trans (congrArg _ ((put_past p_reading_size).trans (congrArg _ ((put_past p_writing_size).trans (congrArg _ put_here)))))))))))
theorem fp_length (f : PF) (n ct rc : Addr) (y : Nat) : putF ("length" : Str) (.int (y : Int)) (ffs f n ct rc) = ffs { f with length := y } n ct rc := (put_past p_kind_length).trans (congrArg _ ((put_past p_number_length).trans (congrArg _ ((put_past p_short_length).trans (congrArg _ ((put_past p_name_length).trans (congrArg _ ((put_past p_reading_length).trans (congrArg _ ((put_past p_writing_length).trans (congrArg _ ((put_past p_size_length).trans (congrArg _ ((put_past p_content_length).trans (congrArg _ put_here)))))))))))))))
theorem fp_most (f : PF) (n ct rc : Addr) (y : Nat) : putF ("most" : Str) (.int (y : Int)) (ffs f n ct rc) = ffs { f with most := y } n ct rc := (put_past p_kind_most).trans (congrArg _ ((put_past p_number_most).trans (congrArg _ ((put_past p_short_most).trans (congrArg _ ((put_past p_name_most).trans (congrArg _ ((put_past p_reading_most).trans (congrArg _ ((put_past p_writing_most).trans (congrArg _ ((put_past p_size_most).trans (congrArg _ ((put_past p_content_most).trans (congrArg _ ((put_past p_length_most).trans (congrArg _ put_here)))))))))))))))))
theorem fp_folder (f : PF) (n ct rc : Addr) (y : Int) : putF ("folder" : Str) (.int y) (ffs f n ct rc) = ffs { f with folder := y } n ct rc := (put_past p_kind_folder).trans (congrArg _ ((put_past p_number_folder).trans (congrArg _ ((put_past p_short_folder).trans (congrArg _ ((put_past p_name_folder).trans (congrArg _ ((put_past p_reading_folder).trans (congrArg _ ((put_past p_writing_folder).trans (congrArg _ ((put_past p_size_folder).trans (congrArg _ ((put_past p_content_folder).trans (congrArg _ ((put_past p_length_folder).trans (congrArg _ ((put_past p_most_folder).trans (congrArg _ ((put_past p_records_folder).trans (congrArg _ put_here)))))))))))))))))))))
theorem fp_name (f : PF) (n ct rc : Addr) (l : List Nat) (y : Addr) : putF ("name" : Str) (.ref y) (ffs f n ct rc) = ffs { f with name := l } y ct rc := (put_past p_kind_name).trans (congrArg _ ((put_past p_number_name).trans (congrArg _ ((put_past p_short_name).trans (congrArg _ put_here)))))
theorem fp_content (f : PF) (n ct rc : Addr) (l : List Nat) (y : Addr) : putF ("content" : Str) (.ref y) (ffs f n ct rc) = ffs { f with content := l } n y rc := (put_past p_kind_content).trans (congrArg _ ((put_past p_number_content).trans (congrArg _ ((put_past p_short_content).trans (congrArg _ ((put_past p_name_content).trans (congrArg _ ((put_past p_reading_content).trans (congrArg _ ((put_past p_writing_content).trans (congrArg _ ((put_past p_size_content).trans (congrArg _ put_here)))))))))))))
theorem fp_records (f : PF) (n ct rc : Addr) (l : List (List Nat)) (y : Addr) : putF ("records" : Str) (.ref y) (ffs f n ct rc) = ffs { f with records := l } n ct y := (put_past p_kind_records).trans (congrArg _ ((put_past p_number_records).trans (congrArg _ ((put_past p_short_records).trans (congrArg _ ((put_past p_name_records).trans (congrArg _ ((put_past p_reading_records).trans (congrArg _ ((put_past p_writing_records).trans (congrArg _ ((put_past p_size_records).trans (congrArg _ ((put_past p_content_records).trans (congrArg _ ((put_past p_length_records).trans (congrArg _ ((put_past p_most_records).trans (congrArg _ put_here)))))))))))))))))))
theorem sp_told (s : Sd27.Secret) (told : Bool) (wd fr : Addr) (y : Bool) : putF ("told" : Str) (.bl y) (sfs s told wd fr) = sfs s y wd fr := (put_past p_word_told).trans (congrArg _ ((put_past p_freer_told).trans (congrArg _ ((put_past p_most_tries_told).trans (congrArg _ ((put_past p_tries_told).trans (congrArg _ ((put_past p_freer_tries_told).trans (congrArg _ put_here)))))))))
theorem sp_tries (s : Sd27.Secret) (told : Bool) (wd fr : Addr) (y : Nat) : putF ("tries" : Str) (.int (y : Int)) (sfs s told wd fr) = sfs { s with left := y } told wd fr := (put_past p_word_tries).trans (congrArg _ ((put_past p_freer_tries).trans (congrArg _ ((put_past p_most_tries_tries).trans (congrArg _ put_here)))))
theorem sp_freer_tries (s : Sd27.Secret) (told : Bool) (wd fr : Addr) (y : Nat) : putF ("freer_tries" : Str) (.int (y : Int)) (sfs s told wd fr) = sfs { s with freeLeft := y } told wd fr := (put_past p_word_freer_tries).trans (congrArg _ ((put_past p_freer_freer_tries).trans (congrArg _ ((put_past p_most_tries_freer_tries).trans (congrArg _ ((put_past p_tries_freer_tries).trans (congrArg _ put_here)))))))
theorem sp_word (s : Sd27.Secret) (told : Bool) (wd fr : Addr) (l : List Nat) (y : Addr) : putF ("word" : Str) (.ref y) (sfs s told wd fr) = sfs { s with word := l } told y fr := put_here
theorem cp_active (sl sd : Addr) (active : Bool) (folder : Nat) (file : Option Nat) (y : Bool) : putF ("active" : Str) (.bl y) (cfs sl sd active folder file) = cfs sl sd y folder file := (put_past p_slots_active).trans (congrArg _ ((put_past p_secrets_active).trans (congrArg _ put_here)))
theorem cp_folder (sl sd : Addr) (active : Bool) (folder : Nat) (file : Option Nat) (y : Nat) : putF ("folder" : Str) (.int (y : Int)) (cfs sl sd active folder file) = cfs sl sd active y file := (put_past p_slots_folder).trans (congrArg _ ((put_past p_secrets_folder).trans (congrArg _ ((put_past p_active_folder).trans (congrArg _ put_here)))))
theorem cp_file (sl sd : Addr) (active : Bool) (folder : Nat) (file : Option Nat) (y : Option Nat) : putF ("file" : Str) (.int (oi y)) (cfs sl sd active folder file) = cfs sl sd active folder y := (put_past p_slots_file).trans (congrArg _ ((put_past p_secrets_file).trans (congrArg _ ((put_past p_active_file).trans (congrArg _ ((put_past p_folder_file).trans (congrArg _ put_here)))))))
theorem ff_new (v0 v1 v2 v3 v4 v5 v6 v7 v8 v9 v10 v11 : V) : putF "folder" v11 (putF "records" v10 (putF "most" v9 (putF "length" v8 (putF "content" v7 (putF "size" v6 (putF "writing" v5 (putF "reading" v4 (putF "name" v3 (putF "short" v2 (putF "number" v1 (putF "kind" v0 ([])))))))))))) = ([("kind", v0), ("number", v1), ("short", v2), ("name", v3), ("reading", v4), ("writing", v5), ("size", v6), ("content", v7), ("length", v8), ("most", v9), ("records", v10), ("folder", v11)] : List (Str × V)) := by
  simp only [put_new, put_past p_kind_number, put_past p_kind_short, put_past p_number_short, put_past p_kind_name, put_past p_number_name, put_past p_short_name, put_past p_kind_reading, put_past p_number_reading, put_past p_short_reading, put_past p_name_reading, put_past p_kind_writing, put_past p_number_writing, put_past p_short_writing, put_past p_name_writing, put_past p_reading_writing, put_past p_kind_size, put_past p_number_size, put_past p_short_size, put_past p_name_size, put_past p_reading_size, put_past p_writing_size, put_past p_kind_content, put_past p_number_content, put_past p_short_content, put_past p_name_content, put_past p_reading_content, put_past p_writing_content, put_past p_size_content, put_past p_kind_length, put_past p_number_length, put_past p_short_length, put_past p_name_length, put_past p_reading_length, put_past p_writing_length, put_past p_size_length, put_past p_content_length, put_past p_kind_most, put_past p_number_most, put_past p_short_most, put_past p_name_most, put_past p_reading_most, put_past p_writing_most, put_past p_size_most, put_past p_content_most, put_past p_length_most, put_past p_kind_records, put_past p_number_records, put_past p_short_records, put_past p_name_records, put_past p_reading_records, put_past p_writing_records, put_past p_size_records, put_past p_content_records, put_past p_length_records, put_past p_most_records, put_past p_kind_folder, put_past p_number_folder, put_past p_short_folder, put_past p_name_folder, put_past p_reading_folder, put_past p_writing_folder, put_past p_size_folder, put_past p_content_folder, put_past p_length_folder, put_past p_most_folder, put_past p_records_folder]
theorem sf_new (v0 v1 v2 v3 v4 v5 : V) : putF "told" v5 (putF "freer_tries" v4 (putF "tries" v3 (putF "most_tries" v2 (putF "freer" v1 (putF "word" v0 ([])))))) = ([("word", v0), ("freer", v1), ("most_tries", v2), ("tries", v3), ("freer_tries", v4), ("told", v5)] : List (Str × V)) := by
  simp only [put_new, put_past p_word_freer, put_past p_word_most_tries, put_past p_freer_most_tries, put_past p_word_tries, put_past p_freer_tries, put_past p_most_tries_tries, put_past p_word_freer_tries, put_past p_freer_freer_tries, put_past p_most_tries_freer_tries, put_past p_tries_freer_tries, put_past p_word_told, put_past p_freer_told, put_past p_most_tries_told, put_past p_tries_told, put_past p_freer_tries_told]
theorem cf_new (v0 v1 v2 v3 v4 : V) : putF "file" v4 (putF "folder" v3 (putF "active" v2 (putF "secrets" v1 (putF "slots" v0 ([]))))) = ([("slots", v0), ("secrets", v1), ("active", v2), ("folder", v3), ("file", v4)] : List (Str × V)) := by
  simp only [put_new, put_past p_slots_secrets, put_past p_slots_active, put_past p_secrets_active, put_past p_slots_folder, put_past p_secrets_folder, put_past p_active_folder, put_past p_slots_file, put_past p_secrets_file, put_past p_active_file, put_past p_folder_file]
theorem rf_new (v0 v1 v2 v3 v4 v5 : V) : putF "asked" v5 (putF "data" v4 (putF "second" v3 (putF "first" v2 (putF "instruction" v1 (putF "group" v0 ([])))))) = ([("group", v0), ("instruction", v1), ("first", v2), ("second", v3), ("data", v4), ("asked", v5)] : List (Str × V)) := by
  simp only [put_new, put_past p_group_instruction, put_past p_group_first, put_past p_instruction_first, put_past p_group_second, put_past p_instruction_second, put_past p_first_second, put_past p_group_data, put_past p_instruction_data, put_past p_first_data, put_past p_second_data, put_past p_group_asked, put_past p_instruction_asked, put_past p_first_asked, put_past p_second_asked, put_past p_data_asked]
end Cc
end
section
namespace Cc
open PySem PySem.Spec PyProof.Rows L2 Evl
open Sd27 (Card File Secret Kind Cmd isFolder)
/-! ### who may change: the roles of addresses -/
inductive Role where
  | card | slots | dict | file (i : Nat) | recs (i : Nat) | secret (k : Nat) | mine
  deriving DecidableEq
abbrev RM := Addr → Option Role
def setR (R : RM) (x : Addr) (r : Role) : RM := fun b => if b = x then some r else R b
theorem setR_same {R : RM} {x : Addr} {r : Role} : setR R x r x = some r := if_pos rfl
theorem setR_ne {R : RM} {x b : Addr} {r : Role} (h : b ≠ x) : setR R x r b = R b := if_neg h
/-- what the card's own defs leave alone: what has no role, and what is somebody else's -/
def Im (R : RM) (b : Addr) : Prop := R b = none ∨ R b = some .mine
theorem Im.ne {R : RM} {b p : Addr} {r : Role} (h : Im R b) (hr : R p = some r) (hm : r ≠ .mine) : b ≠ p := fun z => by
  subst z
  rcases h with h | h
  · rw [hr] at h
    cases h
  · rw [hr] at h
    cases h
    exact hm rfl
/-- that stays as it is, with its role -/
def Fr (R : RM) (H : Hp) (R' : RM) (H' : Hp) : Prop := ∀ b o, H b = some o → Im R b → R' b = R b ∧ H' b = some o
theorem Fr.of {R : RM} {H H' : Hp} (e : Ex H H') : Fr R H R H' := fun b o h r => ⟨rfl, e b o h⟩
theorem Fr.refl (R : RM) (H : Hp) : Fr R H R H := .of (Ex.refl H)
theorem Fr.trans {R R1 R2 : RM} {H H1 H2 : Hp} (a : Fr R H R1 H1) (b : Fr R1 H1 R2 H2) : Fr R H R2 H2 := fun x o h r =>
  let ⟨r1, h1⟩ := a x o h r
  let ⟨r2, h2⟩ := b x o h1 (by unfold Im at r ⊢; rw [r1]; exact r)
  ⟨r2.trans r1, h2⟩
theorem Fr.non {R R' : RM} {H H' : Hp} (f : Fr R H R' H') {b : Addr} {o : HO} (h : H b = some o) (r : R b = none) : R' b = none ∧ H' b = some o :=
  let ⟨r1, h1⟩ := f b o h (.inl r)
  ⟨r1.trans r, h1⟩
theorem Fr.set {R : RM} {H H' : Hp} {x : Addr} {r : Role} (e : Ex H H') (h : H x = none) : Fr R H (setR R x r) H' := fun b u hb hr =>
  ⟨setR_ne (ne_of_none hb h), e b u hb⟩
theorem ne_role {R : RM} {a b : Addr} {r : Role} (ha : R a = some r) (hb : R b ≠ some r) : b ≠ a := fun z => hb (z ▸ ha)

/-! ### a file, a secret, a request -/
structure FObj (CF : Addr) (H : Hp) (p : Addr) (f : PF) (dx n ct rc : Addr) (rs : List Addr) : Prop where
  ob : H p = some (.ins CF dx (ffs f n ct rc))
  nm : H n = some (.lst (bl f.name))
  ct : H ct = some (.lst (bl f.content))
  rc : H rc = some (.lst (rs.map V.ref))
  len : rs.length = f.records.length
  each : ∀ (j : Nat) r w, rs[j]? = some r → f.records[j]? = some w → H r = some (.lst (bl w))
structure FRole (R : RM) (i : Nat) (p n ct rc : Addr) (rs : List Addr) : Prop where
  p : R p = some (.file i)
  n : R n = none
  ct : R ct = none
  rc : R rc = some (.recs i)
  rs : ∀ r ∈ rs, R r = none
def SlotAt (CF : Addr) (H : Hp) (R : RM) (i : Nat) (w : V) : Option File → Prop
  | none => w = .non
  | some f => ∃ p dx n ct rc rs, w = .ref p ∧ FObj CF H p (pfOf i f) dx n ct rc rs ∧ FRole R i p n ct rc rs
structure SObj (CS : Addr) (H : Hp) (p : Addr) (s : Secret) (told : Bool) (dx wd fr : Addr) : Prop where
  ob : H p = some (.ins CS dx (sfs s told wd fr))
  wd : H wd = some (.lst (bl s.word))
  fr : H fr = some (.lst (bl s.free))
structure SRole (R : RM) (k : Nat) (p wd fr : Addr) : Prop where
  p : R p = some (.secret k)
  wd : R wd = none
  fr : R fr = none
def SecAt (CS : Addr) (H : Hp) (R : RM) (told : Bool) (k : Nat) (o : Option V) : Option Secret → Prop
  | none => o = none
  | some s => ∃ p dx wd fr, o = some (.ref p) ∧ SObj CS H p s told dx wd fr ∧ SRole R k p wd fr
def key (k : Nat) : Key := Sum.inl (k : Int)
structure CardX (CF CS CC : Addr) (H : Hp) (R : RM) (a : Addr) (c : Card) (dx sl sd : Addr) (ws : List V) (kvs : List (Key × V)) : Prop where
  ob : H a = some (.ins CC dx (cfs sl sd c.active c.folder c.file))
  ra : R a = some .card
  osl : H sl = some (.lst ws)
  rsl : R sl = some .slots
  wl : ws.length = 64
  slot : ∀ (i : Nat) w, ws[i]? = some w → SlotAt CF H R i w (c.at_ i)
  osd : H sd = some (.dK kvs)
  rsd : R sd = some .dict
  sec : ∀ k, 1 ≤ k → k ≤ 8 → SecAt CS H R (c.told.contains k) k (valV kvs (key k)) (c.secrets.getD (k - 1) none)
  keys : ∀ kv ∈ kvs, ∃ k, 1 ≤ k ∧ k ≤ 8 ∧ kv.1 = key k
  nd : (kvs.map (·.1)).Nodup
  dom : ∀ b r, R b = some r → H b ≠ none
def CardAt (CF CS CC : Addr) (H : Hp) (R : RM) (a : Addr) (c : Card) : Prop := ∃ dx sl sd ws kvs, CardX CF CS CC H R a c dx sl sd ws kvs
def ReqX (CR : Addr) (H : Hp) (R : RM) (q : Addr) (k : Cmd) (dx d : Addr) : Prop := H q = some (.ins CR dx (rfs k d)) ∧ H d = some (.lst (bl k.data)) ∧ R q = none ∧ R d = none
def ReqAt (CR : Addr) (H : Hp) (R : RM) (q : Addr) (k : Cmd) : Prop := ∃ dx d, ReqX CR H R q k dx d

section
variable {CF CS CC CR : Addr} {H H' : Hp} {R R' : RM} {a : Addr} {c : Card} {dx sl sd : Addr} {ws : List V} {kvs : List (Key × V)}
theorem FObj.mono {p : Addr} {f : PF} {dx n ct rc : Addr} {rs : List Addr} (e : Ex H H') (h : FObj CF H p f dx n ct rc rs) : FObj CF H' p f dx n ct rc rs :=
  ⟨e _ _ h.ob, e _ _ h.nm, e _ _ h.ct, e _ _ h.rc, h.len, fun j r w h1 h2 => e _ _ (h.each j r w h1 h2)⟩
theorem SObj.mono {p : Addr} {s : Secret} {t : Bool} {dx wd fr : Addr} (e : Ex H H') (h : SObj CS H p s t dx wd fr) : SObj CS H' p s t dx wd fr := ⟨e _ _ h.ob, e _ _ h.wd, e _ _ h.fr⟩
theorem SlotAt.mono {i : Nat} {w : V} (e : Ex H H') : ∀ {o : Option File}, SlotAt CF H R i w o → SlotAt CF H' R i w o
  | none, h => h
  | some _, ⟨p, dx, n, ct, rc, rs, h1, h2, h3⟩ => ⟨p, dx, n, ct, rc, rs, h1, h2.mono e, h3⟩
theorem SecAt.mono {t : Bool} {k : Nat} {v : Option V} (e : Ex H H') : ∀ {o : Option Secret}, SecAt CS H R t k v o → SecAt CS H' R t k v o
  | none, h => h
  | some _, ⟨p, dx, wd, fr, h1, h2, h3⟩ => ⟨p, dx, wd, fr, h1, h2.mono e, h3⟩
theorem CardX.mono (e : Ex H H') (h : CardX CF CS CC H R a c dx sl sd ws kvs) : CardX CF CS CC H' R a c dx sl sd ws kvs :=
  ⟨e _ _ h.ob, h.ra, e _ _ h.osl, h.rsl, h.wl, fun i w hw => (h.slot i w hw).mono e, e _ _ h.osd, h.rsd, fun k h1 h2 => (h.sec k h1 h2).mono e, h.keys, h.nd, fun b r hr z => by
    cases q : H b with
    | none => exact h.dom b r hr q
    | some o =>
      rw [e b o q] at z
      cases z⟩
theorem CardAt.mono (e : Ex H H') (h : CardAt CF CS CC H R a c) : CardAt CF CS CC H' R a c := let ⟨dx, sl, sd, ws, kvs, x⟩ := h; ⟨dx, sl, sd, ws, kvs, x.mono e⟩
theorem ReqX.mono {q : Addr} {k : Cmd} {dx d : Addr} (e : Ex H H') (h : ReqX CR H R q k dx d) : ReqX CR H' R q k dx d := ⟨e _ _ h.1, e _ _ h.2.1, h.2.2⟩
theorem ReqAt.mono {q : Addr} {k : Cmd} (e : Ex H H') (h : ReqAt CR H R q k) : ReqAt CR H' R q k := let ⟨dx, d, x⟩ := h; ⟨dx, d, x.mono e⟩
theorem ReqX.fr {q : Addr} {k : Cmd} {dx d : Addr} (e : Fr R H R' H') (h : ReqX CR H R q k dx d) : ReqX CR H' R' q k dx d :=
  ⟨(e.non h.1 h.2.2.1).2, (e.non h.2.1 h.2.2.2).2, (e.non h.1 h.2.2.1).1, (e.non h.2.1 h.2.2.2).1⟩
theorem ReqAt.fr {q : Addr} {k : Cmd} (e : Fr R H R' H') (h : ReqAt CR H R q k) : ReqAt CR H' R' q k := let ⟨dx, d, x⟩ := h; ⟨dx, d, x.fr e⟩
/-- a fresh address has no role -/
theorem CardX.free (h : CardX CF CS CC H R a c dx sl sd ws kvs) {b : Addr} (hb : H b = none) : R b = none := by
  cases q : R b with
  | none => rfl
  | some r => exact absurd hb (h.dom b r q)

/-! ### one object of a role is written -/
theorem FObj.upd {p : Addr} {f : PF} {dx n ct rc : Addr} {rs : List Addr} {i : Nat} {x : Addr} {o : HO} {r : Role} (h : FObj CF H p f dx n ct rc rs) (g : FRole R i p n ct rc rs) (hx : R x = some r) (h1 : r ≠ .file i) (h2 : r ≠ .recs i) :
    FObj CF (upd H x o) p f dx n ct rc rs := by
  have a1 : p ≠ x := ne_role hx (fun z => h1 (Option.some.inj (z.symm.trans g.p)))
  have a2 : n ≠ x := ne_role hx (fun z => by rw [g.n] at z; cases z)
  have a3 : ct ≠ x := ne_role hx (fun z => by rw [g.ct] at z; cases z)
  have a4 : rc ≠ x := ne_role hx (fun z => h2 (Option.some.inj (z.symm.trans g.rc)))
  refine ⟨(upd_ne a1).trans h.ob, (upd_ne a2).trans h.nm, (upd_ne a3).trans h.ct, (upd_ne a4).trans h.rc, h.len, fun j q w hq hw => ?_⟩
  have a5 : q ≠ x := ne_role hx (fun z => by rw [g.rs q (List.mem_of_getElem? hq)] at z; cases z)
  exact (upd_ne a5).trans (h.each j q w hq hw)
theorem SlotAt.upd {i : Nat} {w : V} {x : Addr} {o : HO} {r : Role} (hx : R x = some r) (h1 : r ≠ .file i) (h2 : r ≠ .recs i) : ∀ {u : Option File}, SlotAt CF H R i w u → SlotAt CF (upd H x o) R i w u
  | none, h => h
  | some _, ⟨p, dx, n, ct, rc, rs, e1, e2, e3⟩ => ⟨p, dx, n, ct, rc, rs, e1, e2.upd e3 hx h1 h2, e3⟩
theorem SecAt.upd {t : Bool} {k : Nat} {v : Option V} {x : Addr} {o : HO} {r : Role} (hx : R x = some r) (h1 : r ≠ .secret k) : ∀ {u : Option Secret}, SecAt CS H R t k v u → SecAt CS (upd H x o) R t k v u
  | none, h => h
  | some _, ⟨p, dx, wd, fr, e1, e2, e3⟩ => ⟨p, dx, wd, fr, e1, ⟨(upd_ne (ne_role hx fun z => h1 (Option.some.inj (z.symm.trans e3.p)))).trans e2.ob,
      (upd_ne (ne_role hx fun z => by rw [e3.wd] at z; cases z)).trans e2.wd, (upd_ne (ne_role hx fun z => by rw [e3.fr] at z; cases z)).trans e2.fr⟩, e3⟩
theorem dom_upd {x : Addr} {o : HO} (h : ∀ b r, R b = some r → H b ≠ none) : ∀ b r, R b = some r → upd H x o b ≠ none := fun b r hr z => by
  by_cases hb : b = x
  · rw [hb, upd_same] at z
    cases z
  · rw [upd_ne hb] at z
    exact h b r hr z
/-- the card's own fields -/
theorem CardX.own (h : CardX CF CS CC H R a c dx sl sd ws kvs) (act : Bool) (fo : Nat) (fi : Option Nat) :
    CardX CF CS CC (upd H a (.ins CC dx (cfs sl sd act fo fi))) R a { c with active := act, folder := fo, file := fi } dx sl sd ws kvs :=
  ⟨upd_same, h.ra, (upd_ne (ne_role h.ra fun z => by rw [h.rsl] at z; cases z)).trans h.osl, h.rsl, h.wl, fun i w hw => (h.slot i w hw).upd h.ra (fun z => by cases z) (fun z => by cases z),
    (upd_ne (ne_role h.ra fun z => by rw [h.rsd] at z; cases z)).trans h.osd, h.rsd, fun k h1 h2 => (h.sec k h1 h2).upd h.ra (fun z => by cases z), h.keys, h.nd, dom_upd h.dom⟩
/-- a role is given to an address that was not there -/
theorem FRole.set {i : Nat} {p n ct rc : Addr} {rs : List Addr} {x : Addr} {r : Role} (g : FRole R i p n ct rc rs) (a1 : p ≠ x) (a2 : n ≠ x) (a3 : ct ≠ x) (a4 : rc ≠ x) (a5 : ∀ q ∈ rs, q ≠ x) : FRole (setR R x r) i p n ct rc rs :=
  ⟨(setR_ne a1).trans g.p, (setR_ne a2).trans g.n, (setR_ne a3).trans g.ct, (setR_ne a4).trans g.rc, fun q hq => (setR_ne (a5 q hq)).trans (g.rs q hq)⟩
theorem FObj.there {p : Addr} {f : PF} {dx n ct rc : Addr} {rs : List Addr} (h : FObj CF H p f dx n ct rc rs) {q : Addr} (hq : q ∈ rs) : ∃ o, H q = some o := by
  obtain ⟨j, hj⟩ := List.getElem?_of_mem hq
  have hl := (List.getElem?_eq_some_iff.mp hj).1
  rw [h.len] at hl
  exact ⟨_, h.each j q _ hj (List.getElem?_eq_getElem hl)⟩
theorem SlotAt.set {i : Nat} {w : V} {x : Addr} {r : Role} (hx : H x = none) : ∀ {u : Option File}, SlotAt CF H R i w u → SlotAt CF H (setR R x r) i w u
  | none, h => h
  | some _, ⟨p, dx, n, ct, rc, rs, e1, e2, e3⟩ => ⟨p, dx, n, ct, rc, rs, e1, e2, e3.set (ne_of_none e2.ob hx) (ne_of_none e2.nm hx) (ne_of_none e2.ct hx) (ne_of_none e2.rc hx) fun q hq => let ⟨_, ho⟩ := e2.there hq; ne_of_none ho hx⟩
theorem SecAt.set {t : Bool} {k : Nat} {v : Option V} {x : Addr} {r : Role} (hx : H x = none) : ∀ {u : Option Secret}, SecAt CS H R t k v u → SecAt CS H (setR R x r) t k v u
  | none, h => h
  | some _, ⟨p, dx, wd, fr, e1, e2, e3⟩ => ⟨p, dx, wd, fr, e1, e2, ⟨(setR_ne (ne_of_none e2.ob hx)).trans e3.p, (setR_ne (ne_of_none e2.wd hx)).trans e3.wd, (setR_ne (ne_of_none e2.fr hx)).trans e3.fr⟩⟩
theorem CardX.set {x : Addr} {r : Role} (h : CardX CF CS CC H R a c dx sl sd ws kvs) (e : Ex H H') (hx : H x = none) (hy : H' x ≠ none) : CardX CF CS CC H' (setR R x r) a c dx sl sd ws kvs :=
  have m := h.mono e
  ⟨m.ob, (setR_ne (ne_of_none h.ob hx)).trans h.ra, m.osl, (setR_ne (ne_of_none h.osl hx)).trans h.rsl, h.wl, fun i w hw => ((h.slot i w hw).set hx).mono e, m.osd, (setR_ne (ne_of_none h.osd hx)).trans h.rsd,
    fun k h1 h2 => ((h.sec k h1 h2).set hx).mono e, h.keys, h.nd, fun b q hb => by
      by_cases z : b = x
      · rw [z]
        exact hy
      · rw [setR_ne z] at hb
        exact m.dom b q hb⟩

/-! ### what a card holds, read off -/
theorem CardX.at_ (h : CardX CF CS CC H R a c dx sl sd ws kvs) {i : Nat} {f : File} (hi : i < 64) (hf : c.at_ i = some f) : ∃ p dx n ct rc rs, ws[i]? = some (.ref p) ∧ FObj CF H p (pfOf i f) dx n ct rc rs ∧ FRole R i p n ct rc rs := by
  have hl : i < ws.length := by rw [h.wl]; exact hi
  have s := h.slot i _ (List.getElem?_eq_getElem hl)
  rw [hf] at s
  obtain ⟨p, dx, n, ct, rc, rs, e1, e2, e3⟩ := s
  exact ⟨p, dx, n, ct, rc, rs, by rw [List.getElem?_eq_getElem hl, e1], e2, e3⟩
theorem CardX.non (h : CardX CF CS CC H R a c dx sl sd ws kvs) {i : Nat} (hi : i < 64) (hf : c.at_ i = none) : ws[i]? = some .non := by
  have hl : i < ws.length := by rw [h.wl]; exact hi
  have s := h.slot i _ (List.getElem?_eq_getElem hl)
  rw [hf] at s
  rw [List.getElem?_eq_getElem hl]
  exact congrArg some s
end
end Cc
end
section
namespace Cc
open PySem PySem.Spec PyProof.Rows L2 Evl
open Sd27 (Card File Secret Kind Cmd isFolder)
/-! ### the promise of each def -/
abbrev b2 (n : Nat) : List Nat := [n / 256, n % 256]
def sp_two_bytes : Sp := fun vs H Q _ => vs.length = 1 ∧ ∃ n : Nat, vs = [.int (n : Int)] ∧ RetL (bl (b2 n)) H Q
def sp_number_of : Sp := fun vs H Q _ => vs.length = 1 ∧ ∃ a xs, vs = [.ref a] ∧ H a = some (.lst (bl xs)) ∧ 2 ≤ xs.length ∧ RetV (.int ((num2 xs : Nat) : Int)) H Q
def sp_reply : Sp := fun vs H Q _ => vs.length = 2 ∧ ∃ a l, ∃ n : Nat, vs = [.ref a, .int (n : Int)] ∧ H a = some (.lst (bl l)) ∧ l.length ≤ 1000 ∧ RetL (bl (l ++ b2 n)) H Q
def sp_only : Sp := fun vs H Q _ => vs.length = 1 ∧ ∃ n : Nat, vs = [.int (n : Int)] ∧ RetL (bl (b2 n)) H Q
def pf0 (k n : Nat) : PF := ⟨k, n, 0, [], 0, 0, 0, [], 0, 0, [], -1⟩
def sp_File_init (CF : Addr) : Sp := fun vs H Q _ => vs.length = 3 ∧ ∃ p dx, ∃ k n : Nat, vs = [.ref p, .int (k : Int), .int (n : Int)] ∧ H p = some (.ins CF dx []) ∧
  ∀ H' a1 a2 a3, FObj CF H' p (pf0 k n) dx a1 a2 a3 [] → H a1 = none → H a2 = none → H a3 = none → a3 ≠ a1 → a3 ≠ a2 → (∀ b o, H b = some o → b ≠ p → H' b = some o) → Q .non H'
def sp_holds_records : Sp := fun vs H Q _ => vs.length = 1 ∧ ∃ k : Nat, vs = [.int (k : Int)] ∧ RetV (.bl (recKind k)) H Q
def sp_room_of (CF : Addr) : Sp := fun vs H Q _ => vs.length = 1 ∧ ∃ p f dx n ct rc rs, vs = [.ref p] ∧ FObj CF H p f dx n ct rc rs ∧ f.length < 2 ^ 64 ∧ RetV (.int ((pfRoom f : Nat) : Int)) H Q
def sp_field : Sp := fun vs H Q _ => vs.length = 2 ∧ ∃ (m : Nat) (a : Addr) (l : List Nat), vs = [.int (m : Int), .ref a] ∧ H a = some (.lst (bl l)) ∧ l.length ≤ 1000 ∧ RetL (bl (m :: l.length :: l)) H Q
def sp_kind_field (CF : Addr) : Sp := fun vs H Q _ => vs.length = 1 ∧ ∃ p f dx n ct rc rs, vs = [.ref p] ∧ FObj CF H p f dx n ct rc rs ∧ RetL (bl (saidK f)) H Q
def sp_said_of (CF : Addr) : Sp := fun vs H Q _ => vs.length = 1 ∧ ∃ p f dx n ct rc rs, vs = [.ref p] ∧ FObj CF H p f dx n ct rc rs ∧ f.name.length ≤ 16 ∧ RetL (bl (said f)) H Q
def sp_Secret_init (CS : Addr) : Sp := fun vs H Q _ => vs.length = 5 ∧ ∃ p dx wd fr w l, ∃ t ft : Nat, vs = [.ref p, .ref wd, .ref fr, .int (t : Int), .int (ft : Int)] ∧ H p = some (.ins CS dx []) ∧ H wd = some (.lst (bl w)) ∧ H fr = some (.lst (bl l)) ∧
  ∀ H', SObj CS H' p ⟨w, t, t, l, ft⟩ false dx wd fr → (∀ b o, H b = some o → b ≠ p → H' b = some o) → Q .non H'
section
variable (CF CS CC CR : Addr)
def sp_Card_init : Sp := fun vs H Q _ => vs.length = 1 ∧ ∃ p dx, vs = [.ref p] ∧ H p = some (.ins CC dx []) ∧
  ∀ H' R', CardAt CF CS CC H' R' p Sd27.blank → (∀ b o, H b = some o → b ≠ p → H' b = some o ∧ R' b = none) → Q .non H'
def sp_begin_anew : Sp := fun vs H Q _ => vs.length = 1 ∧ ∃ a R c, vs = [.ref a] ∧ CardAt CF CS CC H R a c ∧ ∀ H', CardAt CF CS CC H' R a (Sd27.reset c) → Fr R H R H' → Q .non H'
def sp_chosen_file : Sp := fun vs H Q _ => vs.length = 1 ∧ ∃ a R c dx sl sd ws kvs i v, vs = [.ref a] ∧ CardX CF CS CC H R a c dx sl sd ws kvs ∧ c.file = some i ∧ ws[i]? = some v ∧ RetV v H Q
def sp_chosen_folder : Sp := fun vs H Q _ => vs.length = 1 ∧ ∃ a R c dx sl sd ws kvs v, vs = [.ref a] ∧ CardX CF CS CC H R a c dx sl sd ws kvs ∧ ws[c.folder]? = some v ∧ RetV v H Q
def sp_choose_inner : Sp := fun vs H Q _ => vs.length = 2 ∧ ∃ a R c f, ∃ i : Nat, vs = [.ref a, .int (i : Int)] ∧ CardAt CF CS CC H R a c ∧ i < 64 ∧ c.at_ i = some f ∧ (i = 0 → isFolder f = true) ∧ ∀ H', CardAt CF CS CC H' R a (chooseIx c i) → Fr R H R H' → Q .non H'
def sp_allows : Sp := fun vs H Q _ => vs.length = 2 ∧ ∃ a R c, ∃ r : Nat, vs = [.ref a, .int (r : Int)] ∧ CardAt CF CS CC H R a c ∧ Good c ∧ RetV (.bl (c.may r)) H Q
def sp_inside : Sp := fun vs H Q _ => vs.length = 2 ∧ ∃ a R c, ∃ d : Nat, vs = [.ref a, .int (d : Int)] ∧ CardAt CF CS CC H R a c ∧ Good c ∧ RetL (bl (insIx c d)) H Q
def sp_find_number : Sp := fun vs H Q _ => vs.length = 3 ∧ ∃ a R c, ∃ d n : Nat, vs = [.ref a, .int (d : Int), .int (n : Int)] ∧ CardAt CF CS CC H R a c ∧ Good c ∧ RetV (.int (oi (findNum c d n))) H Q
def sp_find_short : Sp := fun vs H Q _ => vs.length = 2 ∧ ∃ a R c, ∃ s : Nat, vs = [.ref a, .int (s : Int)] ∧ CardAt CF CS CC H R a c ∧ Good c ∧ RetV (.int (oi (findShort c s))) H Q
def sp_find_name : Sp := fun vs H Q _ => vs.length = 2 ∧ ∃ a R c p nm, vs = [.ref a, .ref p] ∧ CardAt CF CS CC H R a c ∧ Good c ∧ H p = some (.lst (bl nm)) ∧ RetV (.int (oi (findName c nm))) H Q
def sp_clashes : Sp := fun vs H Q _ => vs.length = 2 ∧ ∃ a R c p f dx n ct rc rs, vs = [.ref a, .ref p] ∧ CardAt CF CS CC H R a c ∧ Good c ∧ FObj CF H p f dx n ct rc rs ∧ RetV (.bl (clash c f)) H Q
def sp_free_inner : Sp := fun vs H Q _ => vs.length = 1 ∧ ∃ a R c, vs = [.ref a] ∧ CardAt CF CS CC H R a c ∧ Good c ∧ RetV (.int (oi (freeIx c))) H Q
def sp_has_room_for : Sp := fun vs H Q _ => vs.length = 2 ∧ ∃ a R c p f dx n ct rc rs, vs = [.ref a, .ref p] ∧ CardAt CF CS CC H R a c ∧ Good c ∧ FObj CF H p f dx n ct rc rs ∧ f.length < 2 ^ 64 ∧ RetV (.bl (hasRoom c f)) H Q
def sp_put_in : Sp := fun vs H Q _ => vs.length = 2 ∧ ∃ a R c p g dx n ct rc j, vs = [.ref a, .ref p] ∧ CardAt CF CS CC H R a c ∧ Good c ∧ freeIx c = some j ∧ FObj CF H p g dx n ct rc [] ∧ FRole R j p n ct rc [] ∧ g.size ≤ 16384 ∧
  pfOf 1 (toFile g c.folder) = { g with folder := (c.folder : Int), content := List.replicate g.size 0 } ∧ ∀ H', CardAt CF CS CC H' R a (chooseIx (putFile c j (toFile g c.folder)) j) → Fr R H R H' → Q .non H'
def sp_take_out : Sp := fun vs H Q _ => vs.length = 2 ∧ ∃ a R c, ∃ i : Nat, vs = [.ref a, .int (i : Int)] ∧ CardAt CF CS CC H R a c ∧ i < 64 ∧ ∀ H', CardAt CF CS CC H' R a (taken c i) → Fr R H R H' → Q .non H'
/-! requests -/
def sp_Request_init : Sp := fun vs H Q _ => vs.length = 4 ∧ ∃ p dx h d k, vs = [.ref p, .ref h, .ref d, .int ((wantI k.want : Nat) : Int)] ∧ H p = some (.ins CR dx []) ∧ H h = some (.lst (bl [k.cla, k.ins, k.p1, k.p2])) ∧
  ∀ H', H' p = some (.ins CR dx (rfs k d)) → (∀ b o, H b = some o → b ≠ p → H' b = some o) → Q .non H'
def sp_is_plain : Sp := fun vs H Q _ => vs.length = 1 ∧ ∃ q R k, vs = [.ref q] ∧ ReqAt CR H R q k ∧ RetV (.bl (decide (k.p1 = 0) && decide (k.p2 = 0))) H Q
def sp_brings : Sp := fun vs H Q _ => vs.length = 2 ∧ ∃ q R k, ∃ n : Nat, vs = [.ref q, .int (n : Int)] ∧ ReqAt CR H R q k ∧ RetV (.bl (brings k n)) H Q
def amountOf (n : Nat) : Nat := if n = 0 then 256 else n
def sp_amount : Sp := fun vs H Q _ => vs.length = 1 ∧ ∃ n : Nat, vs = [.int (n : Int)] ∧ RetV (.int ((amountOf n : Nat) : Int)) H Q
def sp_read_request : Sp := fun vs H Q _ => vs.length = 1 ∧ ∃ a b, vs = [.ref a] ∧ H a = some (.lst (bl b)) ∧ b.length ≤ 1000 ∧ (Sd27.cmd b = none → RetV .non H Q) ∧
  ∀ k, Sd27.cmd b = some k → ∀ q H' dx d, H q = none → H d = none → Ex H H' → H' q = some (.ins CR dx (rfs k d)) → H' d = some (.lst (bl k.data)) → Q (.ref q) H'
/-! what's wanted -/
/-- a list of pairs, each a tuple of a mark and a list that is new -/
structure PairsAt (H0 H : Hp) (ts : List Addr) (l : List (Nat × List Nat)) : Prop where
  len : ts.length = l.length
  each : ∀ (j : Nat) t x, ts[j]? = some t → l[j]? = some x → ∃ u, H t = some (.tup [.int (x.1 : Int), .ref u]) ∧ H0 u = none ∧ H u = some (.lst (bl x.2))
def RetP (l : List (Nat × List Nat)) (H : Hp) (Q : VK) : Prop := ∀ p H2 ts, H p = none → Ex H H2 → H2 p = some (.lst (ts.map V.ref)) → PairsAt H H2 ts l → Q (.ref p) H2
def sp_fields_of : Sp := fun vs H Q _ => vs.length = 1 ∧ ∃ a b, vs = [.ref a] ∧ H a = some (.lst (bl b)) ∧ b.length ≤ 1000 ∧ RetP (fieldsOf b) H Q
def sp_inner_fields : Sp := fun vs H Q _ => vs.length = 1 ∧ ∃ a b, vs = [.ref a] ∧ H a = some (.lst (bl b)) ∧ b.length ≤ 1000 ∧ RetP (innerFields b) H Q
def sp_kind_is_right : Sp := fun vs H Q _ => vs.length = 1 ∧ ∃ a d, vs = [.ref a] ∧ H a = some (.lst (bl d)) ∧ RetV (.bl (kindRight d)) H Q
def sp_right_is_right : Sp := fun vs H Q _ => vs.length = 1 ∧ ∃ r : Nat, vs = [.int (r : Int)] ∧ RetV (.bl (rightRight r)) H Q
def sp_content_is_right : Sp := fun vs H Q _ => vs.length = 2 ∧ ∃ m : Nat, ∃ a d, vs = [.int (m : Int), .ref a] ∧ H a = some (.lst (bl d)) ∧ RetV (.bl (contentRight m d)) H Q
/-- the dict of what is held: each mark's list -/
def HeldAt (H : Hp) (hd : Addr) (kvs : List (Key × V)) (h : Nat → Option (List Nat)) : Prop := H hd = some (.dK kvs) ∧ ∀ m, match h m with
  | none => valV kvs (key m) = none
  | some d => ∃ u, valV kvs (key m) = some (.ref u) ∧ H u = some (.lst (bl d))
def sp_marks_in_order : Sp := fun vs H Q _ => vs.length = 2 ∧ ∃ kd : Nat, ∃ hd kvs h, vs = [.int (kd : Int), .ref hd] ∧ HeldAt H hd kvs h ∧ RetL (bl (marksOrder kd fun m => (h m).isSome)) H Q
def sp_file_of : Sp := fun vs H Q _ => vs.length = 1 ∧ ∃ hd kvs h, vs = [.ref hd] ∧ HeldAt H hd kvs h ∧
  (∃ kd, h 130 = some kd ∧ 1 ≤ kd.length ∧ (recKind (kd.getD 0 0) = true → 5 ≤ kd.length)) ∧ (∃ d, h 131 = some d ∧ 2 ≤ d.length) ∧ (∃ d, h 140 = some d ∧ 2 ≤ d.length) ∧ (∀ d, h 136 = some d → 1 ≤ d.length) ∧ (∀ d, h 128 = some d → 2 ≤ d.length) ∧
  ∀ p H' dx n ct rc, H p = none → (H n = none ∨ valV kvs (key 132) = some (.ref n)) → H ct = none → H rc = none → rc ≠ n → rc ≠ ct → Ex H H' → FObj CF H' p (fileOf h) dx n ct rc [] → Q (.ref p) H'
def sp_wanted_file : Sp := fun vs H Q _ => vs.length = 1 ∧ ∃ a b, vs = [.ref a] ∧ H a = some (.lst (bl b)) ∧ b.length ≤ 1000 ∧ (wantedPF b = none → RetV .non H Q) ∧
  ∀ g, wantedPF b = some g → ∀ p H' dx n ct rc, H p = none → H n = none → H ct = none → H rc = none → rc ≠ n → rc ≠ ct → Ex H H' → FObj CF H' p g dx n ct rc [] → Q (.ref p) H'
/-! choosing -/
def sp_find_near : Sp := fun vs H Q _ => vs.length = 2 ∧ ∃ a R c, ∃ n : Nat, vs = [.ref a, .int (n : Int)] ∧ CardAt CF CS CC H R a c ∧ Good c ∧ RetV (.int (oi (findNear c n))) H Q
def sp_find_path : Sp := fun vs H Q _ => vs.length = 2 ∧ ∃ a R c p l, vs = [.ref a, .ref p] ∧ CardAt CF CS CC H R a c ∧ Good c ∧ H p = some (.lst (bl l)) ∧ l.length ≤ 1000 ∧ l.length % 2 = 0 ∧ RetV (.int (oi (findPath c 0 l))) H Q
def sp_choice_status : Sp := fun vs H Q _ => vs.length = 1 ∧ ∃ q R k, vs = [.ref q] ∧ ReqAt CR H R q k ∧ RetV (.int ((choiceStatus k : Nat) : Int)) H Q
def sp_find_choice : Sp := fun vs H Q _ => vs.length = 2 ∧ ∃ a R c q R2 k, vs = [.ref a, .ref q] ∧ CardAt CF CS CC H R a c ∧ Good c ∧ ReqAt CR H R2 q k ∧ choiceStatus k = 0x9000 ∧ k.data.length ≤ 255 ∧ RetV (.int (oi (findChoice c k))) H Q
/-- what is always so of a command -/
structure CmdOk (k : Cmd) : Prop where
  data : k.data.length ≤ 255
  want : ∀ n, k.want = some n → 1 ≤ n ∧ n ≤ 256
  p1 : k.p1 < 256
  p2 : k.p2 < 256
  bytes : ∀ x ∈ k.data, x < 256
/-- a command's promise -/
def CmdP (g : Card → Cmd → Out) : Sp := fun vs H Q _ => vs.length = 2 ∧ ∃ a q R c k, vs = [.ref a, .ref q] ∧ CardAt CF CS CC H R a c ∧ Good c ∧ ReqAt CR H R q k ∧ CmdOk k ∧
  ∀ H' R' p, CardAt CF CS CC H' R' a (g c k).1 → Fr R H R' H' → H' p = some (.lst (bl ((g c k).2.1 ++ b2 (g c k).2.2))) → R' p = none → Q (.ref p) H'
def sp_aim (K : PySem.W.Frag) : Sp := fun vs H Q _ => vs.length = 4 ∧ ∃ a R c, ∃ s : Nat, ∃ kt ks wr, vs = [.ref a, .int (s : Int), .ref kt, .bl wr] ∧ CardAt CF CS CC H R a c ∧ Good c ∧ SqT K H kt (bl ks) ∧ R kt = none ∧
  ∀ H', CardAt CF CS CC H' R a (mAim c s ks wr).1 → Fr R H R H' → Q (.int (((mAim c s ks wr).2 : Nat) : Int)) H'
def sp_aim_at_bytes : Sp := fun vs H Q _ => vs.length = 3 ∧ ∃ a R c q k wr, vs = [.ref a, .ref q, .bl wr] ∧ CardAt CF CS CC H R a c ∧ Good c ∧ ReqAt CR H R q k ∧
  ∀ H', CardAt CF CS CC H' R a (mAimB c k wr).1 → Fr R H R H' → Q (.int (((mAimB c k wr).2 : Nat) : Int)) H'
def sp_place_of : Sp := fun vs H Q _ => vs.length = 1 ∧ ∃ q R k, vs = [.ref q] ∧ ReqAt CR H R q k ∧ RetV (.int ((placeOf k : Nat) : Int)) H Q
def sp_may_make : Sp := fun vs H Q _ => vs.length = 1 ∧ ∃ a R c, vs = [.ref a] ∧ CardAt CF CS CC H R a c ∧ Good c ∧ RetV (.bl (mayMake c)) H Q
def sp_aim_at_records : Sp := fun vs H Q _ => vs.length = 4 ∧ ∃ a R c q k, ∃ low : Nat, ∃ wr, vs = [.ref a, .ref q, .int (low : Int), .bl wr] ∧ CardAt CF CS CC H R a c ∧ Good c ∧ ReqAt CR H R q k ∧
  ∀ H', CardAt CF CS CC H' R a (mAimR c k low wr).1 → Fr R H R H' → Q (.int (((mAimR c k low wr).2 : Nat) : Int)) H'
def sp_is_behind_end : Sp := fun vs H Q _ => vs.length = 2 ∧ ∃ p f dx n ct rc rs, ∃ m : Nat, vs = [.ref p, .int (m : Int)] ∧ FObj CF H p f dx n ct rc rs ∧ RetV (.bl (behind f.size m)) H Q
def sp_is_there : Sp := fun vs H Q _ => vs.length = 2 ∧ ∃ p f dx n ct rc rs, ∃ m : Nat, vs = [.ref p, .int (m : Int)] ∧ FObj CF H p f dx n ct rc rs ∧ RetV (.bl (decide (1 ≤ m) && decide (m ≤ f.records.length))) H Q
def sp_aim_at_secret (K : PySem.W.Frag) : Sp := fun vs H Q _ => vs.length = 3 ∧ ∃ q R k, ∃ first : Nat, ∃ t ls, vs = [.ref q, .int (first : Int), .ref t] ∧ ReqAt CR H R q k ∧ SqT K H t (bl ls) ∧ RetV (.int ((aimS k first ls : Nat) : Int)) H Q
def sp_aim_at_known (K : PySem.W.Frag) : Sp := fun vs H Q _ => vs.length = 3 ∧ ∃ a R c q R2 k t ls, vs = [.ref a, .ref q, .ref t] ∧ CardAt CF CS CC H R a c ∧ ReqAt CR H R2 q k ∧ SqT K H t (bl ls) ∧ RetV (.int ((aimK c k ls : Nat) : Int)) H Q
/-- a secret's promise: the object is written, a list is handed back -/
def SecP (g : Secret → Secret × Bool × Nat) : Sp := fun vs H Q _ => vs.length = 1 ∧ ∃ p s told dx wd fr, vs = [.ref p] ∧ SObj CS H p s told dx wd fr ∧ 1 ≤ s.left ∧
  ∀ H' r, (∀ b o, H b = some o → b ≠ p → H' b = some o) → SObj CS H' p (g s).1 (g s).2.1 dx wd fr → H r = none → H' r = some (.lst (bl (b2 (g s).2.2))) → Q (.ref r) H'
def sp_told_wrong : Sp := SecP CS fun s => ({ s with left := s.left - 1 }, false, 0x63C0 + (s.left - 1))
def sp_renew : Sp := fun vs H Q _ => vs.length = 2 ∧ ∃ p s told dx wd fr w l, vs = [.ref p, .ref w] ∧ SObj CS H p s told dx wd fr ∧ H w = some (.lst (bl l)) ∧
  ∀ H' r, (∀ b o, H b = some o → b ≠ p → H' b = some o) → SObj CS H' p { s with word := l, left := s.most } false dx w fr → H r = none → H' r = some (.lst (bl (b2 0x9000))) → Q (.ref r) H'
def standOf (s : Secret) (told : Bool) : Nat := if told = true then 0x9000 else if s.left = 0 then 0x6983 else 0x63C0 + s.left
def sp_standing : Sp := fun vs H Q _ => vs.length = 1 ∧ ∃ p s told dx wd fr, vs = [.ref p] ∧ SObj CS H p s told dx wd fr ∧ RetL (bl (b2 (standOf s told))) H Q
/-! the whole -/
def OutP (H : Hp) (R : RM) (a : Addr) (x : Out) (ahead : List Nat → List Nat) (Q : VK) : Prop :=
  ∀ H' R' p, CardAt CF CS CC H' R' a x.1 → Fr R H R' H' → H' p = some (.lst (bl (ahead (x.2.1 ++ b2 x.2.2)))) → R' p = none → Q (.ref p) H'
def sp_obey : Sp := fun vs H Q _ => vs.length = 2 ∧ ∃ a p R c b, vs = [.ref a, .ref p] ∧ CardAt CF CS CC H R a c ∧ Good c ∧ H p = some (.lst (bl b)) ∧ R p = none ∧ b.length ≤ 261 ∧ (∀ x ∈ b, x < 256) ∧ OutP CF CS CC H R a (mObey c b) id Q
def sp_command : Sp := fun vs H Q _ => vs.length = 2 ∧ ∃ a p R c b, vs = [.ref a, .ref p] ∧ CardAt CF CS CC H R a c ∧ Good c ∧ H p = some (.lst (bl b)) ∧ R p = none ∧ b.length ≤ 261 ∧ (∀ x ∈ b, x < 256) ∧ (mObey c b).2.1.length ≤ 10000000 ∧ OutP CF CS CC H R a (mObey c b) (fun l => l.length :: l) Q
def sp_reset : Sp := fun vs H Q _ => vs.length = 1 ∧ ∃ a R c, vs = [.ref a] ∧ CardAt CF CS CC H R a c ∧ ∀ H' R' p, CardAt CF CS CC H' R' a (Sd27.reset c) → Fr R H R' H' → H' p = some (.lst (bl [0])) → R' p = none → Q (.ref p) H'
end
end Cc
end
section
namespace Cc
open PySem PySem.Spec PyProof.Rows L2 Evl
open Sd27 (Card File Secret Kind Cmd isFolder)
section
variable {K : PySem.W.Frag} {σ : L2.St} {H : Hp} {ta tb tc td : TE} {CF CS CC CR : Addr} {R : RM}
theorem ex_fr {H H' : Hp} (e : Ex H H') : Fr R H R H' := .of e
/-! ### what a call of each def gives, as an expression -/
theorem el_two_bytes {n : Nat} (h : Ev ta σ H (.int (n : Int))) : EvL (tCall sp_two_bytes [] C8.E0 (tCons ta tNil)) σ H (bl (b2 n)) := el_callP (ep_cons h ep_nil) fun _ _ _ ⟨_, e, e2⟩ _ k => by
  subst e2
  subst e
  exact ⟨rfl, n, rfl, k⟩
theorem el_only {n : Nat} (h : Ev ta σ H (.int (n : Int))) : EvL (tCall sp_only [] C8.E0 (tCons ta tNil)) σ H (bl (b2 n)) := el_callP (ep_cons h ep_nil) fun _ _ _ ⟨_, e, e2⟩ _ k => by
  subst e2
  subst e
  exact ⟨rfl, n, rfl, k⟩
theorem el_reply {n : Nat} {l : List Nat} (h : EvR ta σ H (bl l)) (h2 : Ev tb σ H (.int (n : Int))) (hl : l.length ≤ 1000) : EvL (tCall sp_reply [] C8.E0 (tCons ta (tCons tb tNil))) σ H (bl (l ++ b2 n)) :=
  el_callP (ep_consR h (ep_cons h2 ep_nil)) fun _ _ _ ⟨p, _, e, hp, _, e2, e3⟩ _ k => by
    subst e3
    subst e2
    subst e
    exact ⟨rfl, p, l, n, rfl, hp, hl, k⟩
theorem ev_number_of {l : List Nat} (h : EvR ta σ H (bl l)) (hl : 2 ≤ l.length) : Ev (tCall sp_number_of [] C8.E0 (tCons ta tNil)) σ H (.int ((num2 l : Nat) : Int)) :=
  ev_callP (ep_consR h ep_nil) fun _ _ _ ⟨p, _, e, hp, e2⟩ _ k => by
    subst e2
    subst e
    exact ⟨rfl, p, l, rfl, hp, hl, k⟩
theorem ev_holds_records {k : Nat} (h : Ev ta σ H (.int (k : Int))) : Ev (tCall sp_holds_records [] C8.E0 (tCons ta tNil)) σ H (.bl (recKind k)) := ev_callP (ep_cons h ep_nil) fun _ _ _ ⟨_, e, e2⟩ _ q => by
  subst e2
  subst e
  exact ⟨rfl, k, rfl, q⟩
theorem el_field {m : Nat} {l : List Nat} (h : Ev ta σ H (.int (m : Int))) (h2 : EvR tb σ H (bl l)) (hl : l.length ≤ 1000) : EvL (tCall sp_field [] C8.E0 (tCons ta (tCons tb tNil))) σ H (bl (m :: l.length :: l)) :=
  el_callP (ep_cons h (ep_consR h2 ep_nil)) fun _ _ _ ⟨_, e, p, _, e2, hp, e3⟩ _ k => by
    subst e3
    subst e2
    subst e
    exact ⟨rfl, m, p, l, rfl, hp, hl, k⟩
theorem el_kind_field {p : Addr} {f : PF} {dx n ct rc : Addr} {rs : List Addr} (h : Ev ta σ H (.ref p)) (o : FObj CF H p f dx n ct rc rs) : EvL (tCall (sp_kind_field CF) [] C8.E0 (tCons ta tNil)) σ H (bl (saidK f)) :=
  el_callP (ep_cons h ep_nil) fun _ _ e1 ⟨_, e, e2⟩ _ k => by
    subst e2
    subst e
    exact ⟨rfl, p, f, dx, n, ct, rc, rs, rfl, o.mono e1, k⟩
theorem el_said_of {p : Addr} {f : PF} {dx n ct rc : Addr} {rs : List Addr} (h : Ev ta σ H (.ref p)) (o : FObj CF H p f dx n ct rc rs) (hl : f.name.length ≤ 16) : EvL (tCall (sp_said_of CF) [] C8.E0 (tCons ta tNil)) σ H (bl (said f)) :=
  el_callP (ep_cons h ep_nil) fun _ _ e1 ⟨_, e, e2⟩ _ k => by
    subst e2
    subst e
    exact ⟨rfl, p, f, dx, n, ct, rc, rs, rfl, o.mono e1, hl, k⟩
theorem ev_room_of {p : Addr} {f : PF} {dx n ct rc : Addr} {rs : List Addr} (h : Ev ta σ H (.ref p)) (o : FObj CF H p f dx n ct rc rs) (hl : f.length < 2 ^ 64) : Ev (tCall (sp_room_of CF) [] C8.E0 (tCons ta tNil)) σ H (.int ((pfRoom f : Nat) : Int)) :=
  ev_callP (ep_cons h ep_nil) fun _ _ e1 ⟨_, e, e2⟩ _ k => by
    subst e2
    subst e
    exact ⟨rfl, p, f, dx, n, ct, rc, rs, rfl, o.mono e1, hl, k⟩
end
end Cc
namespace Cc
open PySem PySem.Spec PyProof.Rows L2 Evl
section
variable {K : PySem.W.Frag} {σ : L2.St} {H0 H : Hp} {ta te : TE} {t : TT} {D : Ends} {tz : TS} {l : Addr} {X Y : List Nat} {v : Nat}
theorem bl_if (X Y : List Nat) (b : Bool) : (bl X ++ if b = true then bl Y else []) = bl (X ++ if b = true then Y else []) := by
  cases b with
  | true => exact bl_app X Y
  | false => exact bl_app X []
theorem sb_whenExt {b : Bool} (e : Ex H0 H) (hn : H0 l = none) (hl : H l = some (.lst (bl X))) (ht : EvT t σ H b) (ha : Ev ta σ H (.ref l)) (h : b = true → EvR te σ H (bl Y)) (hz : X.length + Y.length ≤ 100000)
    (k : ∀ H2, Ex H0 H2 → H2 l = some (.lst (bl (X ++ if b = true then Y else []))) → Sat tz D σ H2) : Sat (tSeq (tIfS t (tDrop (tBM K "list" rExtend ta (tCons te tNil))) tNext) tz) D σ H :=
  sa_whenExt e hn hl ht ha h (by rw [bl_len, bl_len]; exact hz) fun H2 e2 h2 => k H2 e2 (by rw [h2, bl_if])
theorem sb_ext (e : Ex H0 H) (hn : H0 l = none) (hl : H l = some (.lst (bl X))) (ha : Ev ta σ H (.ref l)) (h : EvR te σ H (bl Y)) (hz : X.length + Y.length ≤ 100000) (k : ∀ H2, Ex H0 H2 → H2 l = some (.lst (bl (X ++ Y))) → Sat tz D σ H2) :
    Sat (tSeq (tDrop (tBM K "list" rExtend ta (tCons te tNil))) tz) D σ H := sa_ext e hn hl ha h (by rw [bl_len, bl_len]; exact hz) fun H2 e2 h2 => k H2 e2 (by rw [h2, bl_app])
theorem sb_app (e : Ex H0 H) (hn : H0 l = none) (hl : H l = some (.lst (bl X))) (ha : Ev ta σ H (.ref l)) (h : Ev te σ H (.int (v : Int))) (hz : X.length < 100000) (k : ∀ H2, Ex H0 H2 → H2 l = some (.lst (bl (X ++ [v]))) → Sat tz D σ H2) :
    Sat (tSeq (tDrop (tBM K "list" rAppend ta (tCons te tNil))) tz) D σ H := sa_app e hn hl ha h (by rw [bl_len]; exact hz) fun H2 e2 h2 => k H2 e2 (by rw [h2, ← bl_app]; rfl)
theorem sb_whenApp {b : Bool} (e : Ex H0 H) (hn : H0 l = none) (hl : H l = some (.lst (bl X))) (ht : EvT t σ H b) (ha : Ev ta σ H (.ref l)) (h : b = true → Ev te σ H (.int (v : Int))) (hz : X.length < 100000)
    (k : ∀ H2, Ex H0 H2 → H2 l = some (.lst (bl (X ++ if b = true then [v] else []))) → Sat tz D σ H2) : Sat (tSeq (tIfS t (tDrop (tBM K "list" rAppend ta (tCons te tNil))) tNext) tz) D σ H :=
  sa_whenApp e hn hl ht ha h (by rw [bl_len]; exact hz) fun H2 e2 h2 => k H2 e2 (by rw [h2, ← bl_if]; rfl)
end
end Cc
namespace Cc
open PySem PySem.Spec PyProof.Rows L2 Evl
theorem in_two (k a b : Nat) : inV (.int (k : Int)) [.int (a : Int), .int (b : Int)] = (decide (k = a) || decide (k = b)) := by
  have e : ∀ m : Nat, (((m : Int) == (k : Int)) : Bool) = decide (k = m) := fun m => by
    by_cases h : k = m
    · subst h
      simp
    · have q : ¬ (m : Int) = (k : Int) := fun z => h (Int.ofNat.inj z).symm
      simp [h, q]
  show (((a : Int) == (k : Int)) || ((((b : Int) == (k : Int))) || false)) = _
  rw [e a, e b, Bool.or_false]
end Cc
namespace Cc
open PySem PySem.Spec PyProof.Rows L2 Evl
section
variable {K : PySem.W.Frag} {σ : L2.St} {H : Hp} {tl te : TE} {tt : TT} {tr : TA} {D : Ends} {tz tu : TS} {s s1 s2 : Nat} {xs : List Nat} {vs : List V} {a : Addr}
theorem set_none {σ σ' : L2.St} {s : Nat} {v : Option V} (h : σ'.set s none = σ.set s none) : σ'.set s v = σ.set s v := by
  have c : ∀ τ : L2.St, (τ.set s none).set s v = τ.set s v := fun τ => List.set_set ..
  rw [← c σ', h, c σ]
theorem set_back {τ : L2.St} {s t : Nat} {v w : Option V} (e : t ≠ s) : (((τ.set s v).set t w).set s none).set t none = (τ.set s none).set t none := by
  have c : ((τ.set s v).set t w).set s none = (τ.set s none).set t w := by rw [List.set_comm _ _ e, List.set_set]
  rw [c, List.set_set]
theorem set_none2 {σ σ' : L2.St} {s t : Nat} {v w : Option V} (h : (σ'.set s none).set t none = (σ.set s none).set t none) : (σ'.set s v).set t w = (σ.set s v).set t w := by
  by_cases e : s = t
  · subst e
    simp only [List.set_set] at h ⊢
    exact set_none h
  · have c : ∀ τ : L2.St, (((τ.set s none).set t none).set s v).set t w = (τ.set s v).set t w := fun τ => by
      rw [List.set_comm none v (fun z => e z.symm), List.set_set, List.set_set]
    rw [← c σ', h, c σ]
/-- for x in xs: if p: return x -/
theorem sa_findL (h : EvL tl σ H (bl xs)) (p : Nat → Bool) (ht : ∀ x, x ∈ xs → EvT tt (σ.set s (some (.int ((x : Nat) : Int)))) H (p x)) (hs : s < σ.length) (hret : ∀ x, xs.find? p = some x → RetV (.int ((x : Nat) : Int)) H D.rt)
    (k : xs.find? p = none → ∀ σ', σ'.set s none = σ.set s none → Sat tz D σ' H) : Sat (tSeq (tFor (iList K tl) (gName s) (tIfS tt (tRet (tVar s)) tNext)) tz) D σ H := fun H0 e0 => by
  refine q_forNLn (h.mono e0) (fun q i σ' H' => σ'.set s none = σ.set s none ∧ Ex H0 H' ∧ H' q = some (.lst (bl xs)) ∧ ∀ j x, j < i → xs[j]? = some x → p x = false) (fun q H1 hq e1 h1 => ⟨rfl, e1, h1, fun j x hj => absurd hj (Nat.not_lt_zero _)⟩) (fun q i σ' H' _ ⟨_, _, g, _⟩ => sq_of g) ?_ ?_
  · rintro q i v σ' H' hi ⟨g1, g2, g3, g4⟩
    rw [bl_get] at hi
    cases hx : xs[i]? with
    | none =>
      rw [hx] at hi
      cases hi
    | some x =>
      rw [hx] at hi
      have hv : V.int (x : Int) = v := Option.some.inj hi
      subst hv
      rw [set_none g1]
      refine (sa_if (D := { D with nx := _, ct := _, bk := tz D }) ((ht x (List.mem_of_getElem? hx)).mono (e0.trans g2)) (fun hb => ?_) (fun hb => ?_)).go
      · refine sa_ret (v := .int (x : Int)) (ev_var (by rw [List.getElem?_set_self hs])) ?_
        refine fun H2 e2 => hret x ?_ H2 ((e0.trans g2).trans e2)
        refine List.find?_eq_some_iff_getElem.mpr ⟨hb, i, (List.getElem?_eq_some_iff.mp hx).1, (List.getElem?_eq_some_iff.mp hx).2, fun j hj => ?_⟩
        have hj2 : j < xs.length := Nat.lt_trans hj (List.getElem?_eq_some_iff.mp hx).1
        rw [g4 j xs[j] hj (List.getElem?_eq_getElem hj2)]
        rfl
      · refine fun H2 e2 => ⟨List.set_set .., g2.trans e2, e2 _ _ g3, fun j y hj hy => ?_⟩
        by_cases z : j = i
        · subst z
          rw [hx] at hy
          cases hy
          exact hb
        · exact g4 j y (by omega) hy
  · rintro q σ' H' ⟨g1, g2, g3, g4⟩
    refine k ?_ σ' g1 H' (e0.trans g2)
    refine List.find?_eq_none.mpr fun x hx hp => ?_
    obtain ⟨j, hj⟩ := List.getElem?_of_mem hx
    have hl := (List.getElem?_eq_some_iff.mp hj).1
    rw [bl_len] at g4
    rw [g4 j x hl hj] at hp
    cases hp
/-- for i, x in enumerate(xs) -/
theorem sa_forE (h : EvA tr σ H [.ref a]) (hx : H a = some (.lst vs)) (Pv : Nat → L2.St → Hp → Prop) (h0 : ∀ H1, Ex H H1 → Pv 0 σ H1) (hl : ∀ i σ' H', i ≤ vs.length → Pv i σ' H' → H' a = some (.lst vs))
    (hs : ∀ (i : Nat) x σ' H', vs[i]? = some x → Pv i σ' H' → Sat tu { D with nx := Pv (i + 1), ct := Pv (i + 1), bk := tz D } ((σ'.set s1 (some (.int (i : Int)))).set s2 (some x)) H') (hd : ∀ σ' H', Pv vs.length σ' H' → tz D σ' H') :
    Sat (tSeq (tFor (iEnum K tr) (gTup K 2 (gCons (gName s1) (gCons (gName s2) gNil))) tu) tz) D σ H := fun H0 e0 => by
  refine h H0 e0 _ fun H1 e1 => ⟨a, vs, rfl, sq_of (e1 _ _ (e0 _ _ hx)), ?_⟩
  refine for_it (walk_enum (K := K) (a := a) (xs := vs)) Pv (h0 H1 (e0.trans e1)) (fun i σ' H' hi p => sq_of (hl i σ' H' hi p)) ?_ hd
  rintro i x σ' H' H2 hi p ⟨t, x1, x2, rfl, ht, rfl, hx1, hx2⟩
  cases hx1
  refine ⟨t, [.int (i : Int), x2], rfl, st_of upd_same, rfl, .int (i : Int), [x2], rfl, x2, [], rfl, rfl, ?_⟩
  exact hs i x2 σ' H' hx2 p _ (Ex.new ht)
/-- for i, x in enumerate(xs): if p: return i -/
theorem sa_findE (h : EvA tr σ H [.ref a]) (hx : H a = some (.lst vs)) (p : Nat → Bool) (ht : ∀ (i : Nat) x, vs[i]? = some x → EvT tt ((σ.set s1 (some (.int (i : Int)))).set s2 (some x)) H (p i)) (hs : s1 < σ.length) (h12 : s2 ≠ s1)
    (hret : ∀ x, (List.range vs.length).find? p = some x → RetV (.int ((x : Nat) : Int)) H D.rt)
    (k : (List.range vs.length).find? p = none → ∀ σ', (σ'.set s1 none).set s2 none = (σ.set s1 none).set s2 none → Sat tz D σ' H) :
    Sat (tSeq (tFor (iEnum K tr) (gTup K 2 (gCons (gName s1) (gCons (gName s2) gNil))) (tIfS tt (tRet (tVar s1)) tNext)) tz) D σ H := by
  refine sa_forE h hx (fun i σ' H' => (σ'.set s1 none).set s2 none = (σ.set s1 none).set s2 none ∧ Ex H H' ∧ ∀ j, j < i → p j = false) (fun H1 e1 => ⟨rfl, e1, fun j hj => absurd hj (Nat.not_lt_zero _)⟩) (fun i σ' H' _ ⟨_, g, _⟩ => g _ _ hx) ?_ ?_
  · rintro i x σ' H' hi ⟨g1, g2, g3⟩
    rw [set_none2 g1]
    refine sa_if ((ht i x hi).mono g2) (fun hb => ?_) (fun hb => ?_)
    · refine sa_ret (v := .int (i : Int)) (ev_var (by rw [List.getElem?_set_ne h12, List.getElem?_set_self hs])) ?_
      refine fun H2 e2 => hret i ?_ H2 (g2.trans e2)
      have hl : i < vs.length := (List.getElem?_eq_some_iff.mp hi).1
      refine List.find?_range_eq_some.mpr ⟨hb, List.mem_range.mpr hl, fun j hj => ?_⟩
      rw [g3 j hj]
      rfl
    · refine fun H2 e2 => ⟨?_, g2.trans e2, fun j hj => ?_⟩
      · exact set_back h12
      · by_cases z : j = i
        · subst z
          exact hb
        · exact g3 j (by omega)
  · rintro σ' H' ⟨g1, g2, g3⟩
    refine k ?_ σ' g1 H' g2
    refine List.find?_eq_none.mpr fun x hx hp => ?_
    rw [g3 x (List.mem_range.mp hx)] at hp
    cases hp
end
end Cc
namespace Cc
open PySem PySem.Spec PyProof.Rows L2 Evl
open Sd27 (Card File Secret Kind Cmd isFolder)
section
variable {K : PySem.W.Frag} {σ : L2.St} {H : Hp} {CF CS CC CR : Addr}
theorem el_inside {a : Addr} {c : Card} {R : RM} {d : Nat} {ta t0 : TE} (ha : Ev ta σ H (.ref a)) (hC : CardAt CF CS CC H R a c) (g : Good c) (h0 : Ev t0 σ H (.int ((d : Nat) : Int))) :
    EvL (tMeth CC "inside" (sp_inside CF CS CC) [] C8.E0 ta (tCons t0 tNil)) σ H (bl (insIx c d)) := by
  obtain ⟨dx, sl, sd, ws, kvs, X⟩ := hC
  have hC : CardAt CF CS CC H R a c := ⟨dx, sl, sd, ws, kvs, X⟩
  refine el_methP ha X.ob (cf_no_inside ..) (ep_cons h0 ep_nil) (fun vs H1 e1 q Q k => ?_)
  obtain ⟨r0, hv0, hv1⟩ := q
  subst hv1
  subst hv0
  exact ⟨rfl, a, R, c, d, rfl, hC.mono e1, g, k⟩
theorem ev_find_number {a : Addr} {c : Card} {R : RM} {d : Nat} {n : Nat} {ta t0 t1 : TE} (ha : Ev ta σ H (.ref a)) (hC : CardAt CF CS CC H R a c) (g : Good c) (h0 : Ev t0 σ H (.int ((d : Nat) : Int))) (h1 : Ev t1 σ H (.int ((n : Nat) : Int))) :
    Ev (tMeth CC "find_number" (sp_find_number CF CS CC) [] C8.E0 ta (tCons t0 (tCons t1 tNil))) σ H (.int (oi (findNum c d n))) := by
  obtain ⟨dx, sl, sd, ws, kvs, X⟩ := hC
  have hC : CardAt CF CS CC H R a c := ⟨dx, sl, sd, ws, kvs, X⟩
  refine ev_methP ha X.ob (cf_no_find_number ..) (ep_cons h0 (ep_cons h1 ep_nil)) (fun vs H1 e1 q Q k => ?_)
  obtain ⟨r0, hv0, ⟨r1, hv1, hv2⟩⟩ := q
  subst hv2
  subst hv1
  subst hv0
  exact ⟨rfl, a, R, c, d, n, rfl, hC.mono e1, g, k⟩
theorem ev_find_short {a : Addr} {c : Card} {R : RM} {s : Nat} {ta t0 : TE} (ha : Ev ta σ H (.ref a)) (hC : CardAt CF CS CC H R a c) (g : Good c) (h0 : Ev t0 σ H (.int ((s : Nat) : Int))) :
    Ev (tMeth CC "find_short" (sp_find_short CF CS CC) [] C8.E0 ta (tCons t0 tNil)) σ H (.int (oi (findShort c s))) := by
  obtain ⟨dx, sl, sd, ws, kvs, X⟩ := hC
  have hC : CardAt CF CS CC H R a c := ⟨dx, sl, sd, ws, kvs, X⟩
  refine ev_methP ha X.ob (cf_no_find_short ..) (ep_cons h0 ep_nil) (fun vs H1 e1 q Q k => ?_)
  obtain ⟨r0, hv0, hv1⟩ := q
  subst hv1
  subst hv0
  exact ⟨rfl, a, R, c, s, rfl, hC.mono e1, g, k⟩
theorem ev_free_inner {a : Addr} {c : Card} {R : RM} {ta : TE} (ha : Ev ta σ H (.ref a)) (hC : CardAt CF CS CC H R a c) (g : Good c) :
    Ev (tMeth CC "free_inner" (sp_free_inner CF CS CC) [] C8.E0 ta tNil) σ H (.int (oi (freeIx c))) := by
  obtain ⟨dx, sl, sd, ws, kvs, X⟩ := hC
  have hC : CardAt CF CS CC H R a c := ⟨dx, sl, sd, ws, kvs, X⟩
  refine ev_methP ha X.ob (cf_no_free_inner ..) ep_nil (fun vs H1 e1 q Q k => ?_)
  subst q
  exact ⟨rfl, a, R, c, rfl, hC.mono e1, g, k⟩
theorem ev_allows {a : Addr} {c : Card} {R : RM} {r : Nat} {ta t0 : TE} (ha : Ev ta σ H (.ref a)) (hC : CardAt CF CS CC H R a c) (g : Good c) (h0 : Ev t0 σ H (.int ((r : Nat) : Int))) :
    Ev (tMeth CC "allows" (sp_allows CF CS CC) [] C8.E0 ta (tCons t0 tNil)) σ H (.bl (c.may r)) := by
  obtain ⟨dx, sl, sd, ws, kvs, X⟩ := hC
  have hC : CardAt CF CS CC H R a c := ⟨dx, sl, sd, ws, kvs, X⟩
  refine ev_methP ha X.ob (cf_no_allows ..) (ep_cons h0 ep_nil) (fun vs H1 e1 q Q k => ?_)
  obtain ⟨r0, hv0, hv1⟩ := q
  subst hv1
  subst hv0
  exact ⟨rfl, a, R, c, r, rfl, hC.mono e1, g, k⟩
theorem ev_find_name {a : Addr} {c : Card} {R : RM} {nm : List Nat} {ta tb : TE} (ha : Ev ta σ H (.ref a)) (hC : CardAt CF CS CC H R a c) (g : Good c) (h : EvR tb σ H (bl nm)) : Ev (tMeth CC "find_name" (sp_find_name CF CS CC) [] C8.E0 ta (tCons tb tNil)) σ H (.int (oi (findName c nm))) := by
  obtain ⟨dx, sl, sd, ws, kvs, X⟩ := hC
  have hC : CardAt CF CS CC H R a c := ⟨dx, sl, sd, ws, kvs, X⟩
  refine ev_methP ha X.ob (cf_no_find_name ..) (ep_consR h ep_nil) (fun vs H1 e1 q Q k => ?_)
  obtain ⟨p, r, rfl, hp, rfl⟩ := q
  exact ⟨rfl, a, R, c, p, nm, rfl, hC.mono e1, g, hp, k⟩
theorem ev_clashes {a : Addr} {c : Card} {R : RM} {p dx0 n0 ct rc : Addr} {f : PF} {rs : List Addr} {ta tb : TE} (ha : Ev ta σ H (.ref a)) (hC : CardAt CF CS CC H R a c) (g : Good c) (h : Ev tb σ H (.ref p)) (o : FObj CF H p f dx0 n0 ct rc rs) : Ev (tMeth CC "clashes" (sp_clashes CF CS CC) [] C8.E0 ta (tCons tb tNil)) σ H (.bl (clash c f)) := by
  obtain ⟨dx, sl, sd, ws, kvs, X⟩ := hC
  have hC : CardAt CF CS CC H R a c := ⟨dx, sl, sd, ws, kvs, X⟩
  refine ev_methP ha X.ob (cf_no_clashes ..) (ep_cons h ep_nil) (fun vs H1 e1 q Q k => ?_)
  obtain ⟨r, rfl, rfl⟩ := q
  exact ⟨rfl, a, R, c, p, f, dx0, n0, ct, rc, rs, rfl, hC.mono e1, g, o.mono e1, k⟩
theorem ev_has_room_for {a : Addr} {c : Card} {R : RM} {p dx0 n0 ct rc : Addr} {f : PF} {rs : List Addr} {ta tb : TE} (ha : Ev ta σ H (.ref a)) (hC : CardAt CF CS CC H R a c) (g : Good c) (h : Ev tb σ H (.ref p)) (o : FObj CF H p f dx0 n0 ct rc rs) (hl : f.length < 2 ^ 64) : Ev (tMeth CC "has_room_for" (sp_has_room_for CF CS CC) [] C8.E0 ta (tCons tb tNil)) σ H (.bl (hasRoom c f)) := by
  obtain ⟨dx, sl, sd, ws, kvs, X⟩ := hC
  have hC : CardAt CF CS CC H R a c := ⟨dx, sl, sd, ws, kvs, X⟩
  refine ev_methP ha X.ob (cf_no_has_room_for ..) (ep_cons h ep_nil) (fun vs H1 e1 q Q k => ?_)
  obtain ⟨r, rfl, rfl⟩ := q
  exact ⟨rfl, a, R, c, p, f, dx0, n0, ct, rc, rs, rfl, hC.mono e1, g, o.mono e1, hl, k⟩
theorem ev_chosen_file {a : Addr} {c : Card} {R : RM} {dx sl sd : Addr} {ws : List V} {kvs : List (Key × V)} {i : Nat} {v : V} {ta : TE} (ha : Ev ta σ H (.ref a)) (X : CardX CF CS CC H R a c dx sl sd ws kvs) (hi : c.file = some i) (hv : ws[i]? = some v) : Ev (tMeth CC "chosen_file" (sp_chosen_file CF CS CC) [] C8.E0 ta tNil) σ H v := by
  refine ev_methP ha X.ob (cf_no_chosen_file ..) ep_nil (fun vs H1 e1 q Q k => ?_)
  subst q
  exact ⟨rfl, a, R, c, dx, sl, sd, ws, kvs, i, v, rfl, X.mono e1, hi, hv, k⟩
theorem ev_chosen_folder {a : Addr} {c : Card} {R : RM} {dx sl sd : Addr} {ws : List V} {kvs : List (Key × V)} {v : V} {ta : TE} (ha : Ev ta σ H (.ref a)) (X : CardX CF CS CC H R a c dx sl sd ws kvs) (hv : ws[c.folder]? = some v) : Ev (tMeth CC "chosen_folder" (sp_chosen_folder CF CS CC) [] C8.E0 ta tNil) σ H v := by
  refine ev_methP ha X.ob (cf_no_chosen_folder ..) ep_nil (fun vs H1 e1 q Q k => ?_)
  subst q
  exact ⟨rfl, a, R, c, dx, sl, sd, ws, kvs, v, rfl, X.mono e1, hv, k⟩
theorem rv_neOi {r : Option Nat} : RV rNe (.int (oi r)) (.int (-1)) H (.bl r.isSome) := fun H1 _ Q q => ⟨rfl, by
  have e : (!decide (V.int (oi r) = V.int (-1))) = r.isSome := by
    cases r with
    | none => rfl
    | some n =>
      have z : ¬ V.int (oi (some n)) = V.int (-1) := fun h => by
        injection h with h
        simp only [oi] at h
        omega
      rw [decide_eq_false z] <;> rfl
  rw [e]
  exact q H1 (Ex.refl H1)⟩
theorem rv_eqOi {r : Option Nat} : RV rEq (.int (oi r)) (.int (-1)) H (.bl r.isNone) := fun H1 _ Q q => ⟨rfl, by
  have e : decide (V.int (oi r) = V.int (-1)) = r.isNone := by
    cases r with
    | none => rfl
    | some n =>
      have z : ¬ V.int (oi (some n)) = V.int (-1) := fun h => by
        injection h with h
        simp only [oi] at h
        omega
      rw [decide_eq_false z] <;> rfl
  rw [e]
  exact q H1 (Ex.refl H1)⟩
end
end Cc
end
section
namespace Cc
open PySem PySem.Spec PyProof.Rows L2 Evl
open Sd27 (Card File Secret Kind Cmd isFolder)
section
variable {K : PySem.W.Frag} {σ : L2.St} {H : Hp} {ta tb tc td : TE} {CF CS CC CR : Addr} {R : RM} {k : Cmd} {q : Addr} {c : Card} {a : Addr}
theorem ev_is_plain (h : Ev ta σ H (.ref q)) (r : ReqAt CR H R q k) : Ev (tMeth CR "is_plain" (sp_is_plain CR) [] C8.E0 ta tNil) σ H (.bl (decide (k.p1 = 0) && decide (k.p2 = 0))) := by
  obtain ⟨dx, d, hq, hd, r2⟩ := r
  refine ev_methP h hq (rf_no_is_plain ..) ep_nil (fun vs H1 e1 e Q kk => ?_)
  subst e
  exact ⟨rfl, q, R, k, rfl, ⟨dx, d, e1 _ _ hq, e1 _ _ hd, r2⟩, kk⟩
theorem ev_brings {n : Nat} (h : Ev ta σ H (.ref q)) (r : ReqAt CR H R q k) (hn : Ev tb σ H (.int (n : Int))) : Ev (tMeth CR "brings" (sp_brings CR) [] C8.E0 ta (tCons tb tNil)) σ H (.bl (brings k n)) := by
  obtain ⟨dx, d, hq, hd, r2⟩ := r
  refine ev_methP h hq (rf_no_brings ..) (ep_cons hn ep_nil) (fun vs H1 e1 e Q kk => ?_)
  obtain ⟨r, rfl, rfl⟩ := e
  exact ⟨rfl, q, R, k, n, rfl, ⟨dx, d, e1 _ _ hq, e1 _ _ hd, r2⟩, kk⟩
theorem ev_amount {n : Nat} (h : Ev ta σ H (.int (n : Int))) : Ev (tCall sp_amount [] C8.E0 (tCons ta tNil)) σ H (.int ((amountOf n : Nat) : Int)) := ev_callP (ep_cons h ep_nil) fun _ _ _ ⟨_, e, e2⟩ _ kk => by
  subst e2
  subst e
  exact ⟨rfl, n, rfl, kk⟩
theorem ev_place_of (h : Ev ta σ H (.ref q)) (r : ReqAt CR H R q k) : Ev (tCall (sp_place_of CR) [] C8.E0 (tCons ta tNil)) σ H (.int ((placeOf k : Nat) : Int)) := ev_callP (ep_cons h ep_nil) fun _ _ e1 ⟨_, e, e2⟩ _ kk => by
  subst e2
  subst e
  exact ⟨rfl, q, R, k, rfl, r.mono e1, kk⟩
theorem ev_choice_status (h : Ev ta σ H (.ref q)) (r : ReqAt CR H R q k) : Ev (tCall (sp_choice_status CR) [] C8.E0 (tCons ta tNil)) σ H (.int ((choiceStatus k : Nat) : Int)) := ev_callP (ep_cons h ep_nil) fun _ _ e1 ⟨_, e, e2⟩ _ kk => by
  subst e2
  subst e
  exact ⟨rfl, q, R, k, rfl, r.mono e1, kk⟩
theorem ev_may_make (h : Ev ta σ H (.ref a)) (hC : CardAt CF CS CC H R a c) (g : Good c) : Ev (tCall (sp_may_make CF CS CC) [] C8.E0 (tCons ta tNil)) σ H (.bl (mayMake c)) := ev_callP (ep_cons h ep_nil) fun _ _ e1 ⟨_, e, e2⟩ _ kk => by
  subst e2
  subst e
  exact ⟨rfl, a, R, c, rfl, hC.mono e1, g, kk⟩
theorem ev_find_near {n : Nat} (h : Ev ta σ H (.ref a)) (hC : CardAt CF CS CC H R a c) (g : Good c) (h2 : Ev tb σ H (.int (n : Int))) : Ev (tCall (sp_find_near CF CS CC) [] C8.E0 (tCons ta (tCons tb tNil))) σ H (.int (oi (findNear c n))) := ev_callP (ep_cons h (ep_cons h2 ep_nil)) fun _ _ e1 ⟨_, e, _, e2, e3⟩ _ kk => by
  subst e3
  subst e2
  subst e
  exact ⟨rfl, a, R, c, n, rfl, hC.mono e1, g, kk⟩
theorem ev_find_path {l : List Nat} (h : Ev ta σ H (.ref a)) (hC : CardAt CF CS CC H R a c) (g : Good c) (h2 : EvR tb σ H (bl l)) (hl : l.length ≤ 1000) (h0 : l.length % 2 = 0) : Ev (tCall (sp_find_path CF CS CC) [] C8.E0 (tCons ta (tCons tb tNil))) σ H (.int (oi (findPath c 0 l))) :=
  ev_callP (ep_cons h (ep_consR h2 ep_nil)) fun _ _ e1 ⟨_, e, p, _, e2, hp, e3⟩ _ kk => by
    subst e3
    subst e2
    subst e
    exact ⟨rfl, a, R, c, p, l, rfl, hC.mono e1, g, hp, hl, h0, kk⟩
theorem ev_find_choice {R2 : RM} (h : Ev ta σ H (.ref a)) (hC : CardAt CF CS CC H R a c) (g : Good c) (h2 : Ev tb σ H (.ref q)) (r : ReqAt CR H R2 q k) (hs : choiceStatus k = 0x9000) (hl : k.data.length ≤ 255) : Ev (tCall (sp_find_choice CF CS CC CR) [] C8.E0 (tCons ta (tCons tb tNil))) σ H (.int (oi (findChoice c k))) :=
  ev_callP (ep_cons h (ep_cons h2 ep_nil)) fun _ _ e1 ⟨_, e, _, e2, e3⟩ _ kk => by
    subst e3
    subst e2
    subst e
    exact ⟨rfl, a, R, c, q, R2, k, rfl, hC.mono e1, g, r.mono e1, hs, hl, kk⟩
theorem ev_is_there {p : Addr} {f : PF} {dx n ct rc : Addr} {rs : List Addr} {m : Nat} (h : Ev ta σ H (.ref p)) (o : FObj CF H p f dx n ct rc rs) (h2 : Ev tb σ H (.int (m : Int))) : Ev (tCall (sp_is_there CF) [] C8.E0 (tCons ta (tCons tb tNil))) σ H (.bl (decide (1 ≤ m) && decide (m ≤ f.records.length))) :=
  ev_callP (ep_cons h (ep_cons h2 ep_nil)) fun _ _ e1 ⟨_, e, _, e2, e3⟩ _ kk => by
    subst e3
    subst e2
    subst e
    exact ⟨rfl, p, f, dx, n, ct, rc, rs, m, rfl, o.mono e1, kk⟩
theorem ev_is_behind_end {p : Addr} {f : PF} {dx n ct rc : Addr} {rs : List Addr} {m : Nat} (h : Ev ta σ H (.ref p)) (o : FObj CF H p f dx n ct rc rs) (h2 : Ev tb σ H (.int (m : Int))) : Ev (tCall (sp_is_behind_end CF) [] C8.E0 (tCons ta (tCons tb tNil))) σ H (.bl (behind f.size m)) :=
  ev_callP (ep_cons h (ep_cons h2 ep_nil)) fun _ _ e1 ⟨_, e, _, e2, e3⟩ _ kk => by
    subst e3
    subst e2
    subst e
    exact ⟨rfl, p, f, dx, n, ct, rc, rs, m, rfl, o.mono e1, kk⟩
theorem ev_aim_at_secret {first : Nat} {ls : List Nat} {R : RM} (h : Ev ta σ H (.ref q)) (r : ReqAt CR H R q k) (h2 : Ev tb σ H (.int (first : Int))) (h3 : EvU tc σ H (bl ls)) : Ev (tCall (sp_aim_at_secret CR K) [] C8.E0 (tCons ta (tCons tb (tCons tc tNil)))) σ H (.int ((aimS k first ls : Nat) : Int)) :=
  ev_callP (ep_cons h (ep_cons h2 (ep_consU h3 ep_nil))) fun _ _ e1 ⟨_, e, _, e2, t, _, e3, ht, e4⟩ _ kk => by
    subst e4
    subst e3
    subst e2
    subst e
    exact ⟨rfl, q, R, k, first, t, ls, rfl, r.mono e1, st_of ht, kk⟩
theorem ev_aim_at_secret' {first : Nat} {ls : List Nat} {R : RM} {t : Addr} (h : Ev ta σ H (.ref q)) (r : ReqAt CR H R q k) (h2 : Ev tb σ H (.int (first : Int))) (h3 : Ev tc σ H (.ref t)) (ht : SqT K H t (bl ls)) : Ev (tCall (sp_aim_at_secret CR K) [] C8.E0 (tCons ta (tCons tb (tCons tc tNil)))) σ H (.int ((aimS k first ls : Nat) : Int)) :=
  ev_callP (ep_cons h (ep_cons h2 (ep_cons h3 ep_nil))) fun _ _ e1 ⟨_, e, _, e2, _, e3, e4⟩ _ kk => by
    subst e4
    subst e3
    subst e2
    subst e
    exact ⟨rfl, q, R, k, first, t, ls, rfl, r.mono e1, ex_t e1 ht, kk⟩
theorem ev_aim_at_known {ls : List Nat} {R2 : RM} (h : Ev ta σ H (.ref a)) (hC : CardAt CF CS CC H R a c) (h2 : Ev tb σ H (.ref q)) (r : ReqAt CR H R2 q k) (h3 : EvU tc σ H (bl ls)) : Ev (tCall (sp_aim_at_known CF CS CC CR K) [] C8.E0 (tCons ta (tCons tb (tCons tc tNil)))) σ H (.int ((aimK c k ls : Nat) : Int)) :=
  ev_callP (ep_cons h (ep_cons h2 (ep_consU h3 ep_nil))) fun _ _ e1 ⟨_, e, _, e2, t, _, e3, ht, e4⟩ _ kk => by
    subst e4
    subst e3
    subst e2
    subst e
    exact ⟨rfl, a, R, c, q, R2, k, t, ls, rfl, hC.mono e1, r.mono e1, st_of ht, kk⟩
theorem el_standing {p : Addr} {s : Secret} {told : Bool} {dx wd fr : Addr} (h : Ev ta σ H (.ref p)) (o : SObj CS H p s told dx wd fr) : EvL (tCall (sp_standing CS) [] C8.E0 (tCons ta tNil)) σ H (bl (b2 (standOf s told))) := el_callP (ep_cons h ep_nil) fun _ _ e1 ⟨_, e, e2⟩ _ kk => by
  subst e2
  subst e
  exact ⟨rfl, p, s, told, dx, wd, fr, rfl, o.mono e1, kk⟩
theorem ev_kind_is_right {d : List Nat} (h : EvR ta σ H (bl d)) : Ev (tCall sp_kind_is_right [] C8.E0 (tCons ta tNil)) σ H (.bl (kindRight d)) := ev_callP (ep_consR h ep_nil) fun _ _ _ ⟨p, _, e, hp, e2⟩ _ kk => by
  subst e2
  subst e
  exact ⟨rfl, p, d, rfl, hp, kk⟩
theorem ev_right_is_right {r : Nat} (h : Ev ta σ H (.int (r : Int))) : Ev (tCall sp_right_is_right [] C8.E0 (tCons ta tNil)) σ H (.bl (rightRight r)) := ev_callP (ep_cons h ep_nil) fun _ _ _ ⟨_, e, e2⟩ _ kk => by
  subst e2
  subst e
  exact ⟨rfl, r, rfl, kk⟩
theorem ev_content_is_right {m : Nat} {d : List Nat} (h1 : Ev ta σ H (.int (m : Int))) (h : EvR tb σ H (bl d)) : Ev (tCall sp_content_is_right [] C8.E0 (tCons ta (tCons tb tNil))) σ H (.bl (contentRight m d)) := ev_callP (ep_cons h1 (ep_consR h ep_nil)) fun _ _ _ ⟨_, e, p, _, e2, hp, e3⟩ _ kk => by
  subst e3
  subst e2
  subst e
  exact ⟨rfl, m, p, d, rfl, hp, kk⟩
theorem HeldAt.mono {H' : Hp} {hd : Addr} {kvs : List (Key × V)} {h : Nat → Option (List Nat)} (e : Ex H H') (x : HeldAt H hd kvs h) : HeldAt H' hd kvs h := ⟨e _ _ x.1, fun m => by
  have z := x.2 m
  cases hm : h m with
  | none =>
    rw [hm] at z
    exact z
  | some d =>
    rw [hm] at z
    obtain ⟨u, h1, h2⟩ := z
    exact ⟨u, h1, e _ _ h2⟩⟩
theorem el_marks_in_order {kd : Nat} {hd : Addr} {kvs : List (Key × V)} {h : Nat → Option (List Nat)} (h1 : Ev ta σ H (.int (kd : Int))) (h2 : Ev tb σ H (.ref hd)) (x : HeldAt H hd kvs h) : EvL (tCall sp_marks_in_order [] C8.E0 (tCons ta (tCons tb tNil))) σ H (bl (marksOrder kd fun m => (h m).isSome)) :=
  el_callP (ep_cons h1 (ep_cons h2 ep_nil)) fun _ _ e1 ⟨_, e, _, e2, e3⟩ _ kk => by
    subst e3
    subst e2
    subst e
    exact ⟨rfl, kd, hd, kvs, h, rfl, x.mono e1, kk⟩
theorem RgC2 (n : Nat) (hn : n ≤ 1000) (h0 : n % 2 = 0) : RgC (0 : Nat) (n : Int) (2 : Nat) (n / 2) := by
  have e : Builtin.Range.rangeSize 0 (n : Int) 2 = ((n / 2 : Nat) : Int) := by
    unfold Builtin.Range.rangeSize
    rw [if_pos (by decide)]
    split
    · omega
    · omega
  refine ⟨by decide, by decide, ?_, e⟩
  unfold Builtin.Range.small
  rw [show ((0 : Nat) : Int) = 0 from rfl, show ((2 : Nat) : Int) = 2 from rfl, e]
  unfold Builtin.Range.rangeFitsLong
  rw [if_pos (by decide)]
  simp
  omega
theorem sa_forR3 {ta : TA} {s m : Nat} {D : Ends} {tz tu : TS} (h : EvA ta σ H [.int ((0 : Nat) : Int), .int (m : Int), .int ((2 : Nat) : Int)]) (hm : m ≤ 1000) (h0 : m % 2 = 0) (Pv : Nat → L2.St → Hp → Prop) (hp : ∀ H1, Ex H H1 → Pv 0 σ H1)
    (hs : ∀ (i : Nat) σ' H', i < m / 2 → Pv i σ' H' → Sat tu { D with nx := Pv (i + 1), ct := Pv (i + 1), bk := tz D } (σ'.set s (some (.int ((2 * i : Nat) : Int)))) H') (hd : ∀ σ' H', Pv (m / 2) σ' H' → tz D σ' H') : Sat (tSeq (tFor (iRng3 ta) (gName s) tu) tz) D σ H := fun H1 e1 =>
  h H1 e1 _ fun H2 e2 => ⟨_, _, _, m / 2, rfl, RgC2 _ hm h0, for_rangeC Pv (hp H2 (e1.trans e2)) (fun i σ' H' hi p => by
    have hit : (((0 : Nat) : Int) + (i : Nat) * ((2 : Nat) : Int)) = ((2 * i : Nat) : Int) := by omega
    show tu _ (σ'.set s (some (.int (((0 : Nat) : Int) + (i : Nat) * ((2 : Nat) : Int))))) H'
    rw [hit]
    exact (hs i σ' H' hi p).go) hd⟩
end
end Cc
namespace Cc
open PySem PySem.Spec PyProof.Rows L2 Evl
section
variable {K : PySem.W.Frag} {σ : L2.St} {H H0 : Hp} {ta tv te tl : TE} {t : TT} {D : Ends} {tz tu : TS} {p C dx : Addr} {fs : List (Str × V)} {f : Str} {y : V} {l : List Nat}
theorem get_D {l : List Nat} {i : Nat} (h : i < l.length) : l[i]? = some (l.getD i 0) := by
  rw [List.getD_eq_getElem?_getD, List.getElem?_eq_getElem h]
  rfl
theorem ev_ixD {i : Nat} (ha : EvR ta σ H (bl l)) (hb : Ev te σ H (.int (i : Int))) (hi : i < l.length) : Ev (tOp (rIxL K) ta te) σ H (.int ((l.getD i 0 : Nat) : Int)) := ev_ixB ha hb (get_D hi)
theorem sa_whenFld {b : Bool} (hp : H p = some (.ins C dx fs)) (ht : EvT t σ H b) (hv : b = true → Ev tv σ H y) (ha : Ev ta σ H (.ref p)) (hc : Cls K C) (hn : NoAttr K C f) (hl : fs.length < 1000)
    (k : ∀ H2, Keep p H H2 → H2 p = some (.ins C dx (if b = true then putF f y fs else fs)) → Sat tz D σ H2) : Sat (tSeq (tIfS t (sFld K ta tv f) tNext) tz) D σ H :=
  sa_when ht (fun hb => fld_one (D := { D with nx := tz D }) hp (hv hb) ha hc hn hl fun H2 k2 h2 => (k H2 k2 (by rw [if_pos hb]; exact h2)).go)
    (fun hb => fun H1 e1 => (k H1 (.of e1) (by rw [if_neg (by rw [hb]; decide)]; exact e1 _ _ hp)).go)
/-- what was tracked ahead of a new object stands while that object changes -/
theorem Keep.ex {H2 : Hp} (e : Ex H0 H) (k : Keep p H H2) (hn : H0 p = none) : Ex H0 H2 := fun b o h => k b o (e b o h) (ne_of_none h hn)
theorem sa_while (W : Nat → L2.St → Hp → Prop) (m0 : Nat) (h0 : ∀ H1, Ex H H1 → W m0 σ H1)
    (hs : ∀ m σ' H', W m σ' H' → ∃ b, EvT t σ' H' b ∧ (b = true → Sat tu { D with nx := fun σ2 H2 => ∃ m', m' < m ∧ W m' σ2 H2, ct := fun σ2 H2 => ∃ m', m' < m ∧ W m' σ2 H2, bk := tz D } σ' H') ∧ (b = false → Sat tz D σ' H')) : Sat (tSeq (tWhile t tu) tz) D σ H := fun H1 e1 =>
  q_while W m0 (h0 H1 e1) fun m σ' H' hw => by
    obtain ⟨b, h1, h2, h3⟩ := hs m σ' H' hw
    exact ⟨b, h1, fun hb H2 e2 => ⟨_, fun σ2 H3 z => z, h2 hb H2 e2⟩, fun hb H2 e2 => h3 hb H2 e2⟩
/-- a for over a list that an expression gives, whatever is known of it; the target a pair -/
theorem sa_forP {s1 s2 : Nat} {G : Addr → List V → Hp → Prop} (h : EvG tl σ H fun v H2 => ∃ p vs, v = .ref p ∧ H2 p = some (.lst vs) ∧ G p vs H2) (Pv : Addr → List V → Nat → L2.St → Hp → Prop) (h0 : ∀ p vs H1, Ex H H1 → H1 p = some (.lst vs) → G p vs H1 → Pv p vs 0 σ H1) (hl : ∀ p vs i σ' H', i ≤ vs.length → Pv p vs i σ' H' → H' p = some (.lst vs))
    (hs : ∀ p vs (i : Nat) x σ' H', vs[i]? = some x → Pv p vs i σ' H' → ∃ t m u, x = .ref t ∧ H' t = some (.tup [m, u]) ∧ Sat tu { D with nx := Pv p vs (i + 1), ct := Pv p vs (i + 1), bk := tz D } ((σ'.set s1 (some m)).set s2 (some u)) H') (hd : ∀ p vs σ' H', Pv p vs vs.length σ' H' → tz D σ' H') :
    Sat (tSeq (tFor (iList K tl) (gTup K 2 (gCons (gName s1) (gCons (gName s2) gNil))) tu) tz) D σ H := fun H0 e0 => by
  refine h H0 e0 _ fun v H1 e1 ⟨p, vs, hv, hp, g⟩ => ⟨p, hv, ⟨vs, sq_of hp⟩, ?_⟩
  refine for_list (K := K) (a := p) (xs := vs) (Pv p vs) (h0 p vs H1 (e0.trans e1) hp g) (fun i σ' H' hi q => sq_of (hl p vs i σ' H' hi q)) ?_ (hd p vs)
  intro i x σ' H' hx q
  obtain ⟨t, m, u, rfl, ht, hs⟩ := hs p vs i x σ' H' hx q
  exact ⟨t, [m, u], rfl, st_of ht, rfl, m, [u], rfl, u, [], rfl, rfl, hs.go⟩
/-- a new pair whose second is a new list -/
theorem eg_pair {m : Int} {xs : List V} (h1 : Ev ta σ H (.int m)) (h2 : EvL te σ H xs) : EvG (tTup (tCons ta (tCons te tNil))) σ H fun v H2 => ∃ t u, v = .ref t ∧ H2 t = some (.tup [.int m, .ref u]) ∧ H u = none ∧ H2 u = some (.lst xs) ∧ H t = none := fun H1 e Q q =>
  h1 H1 e _ fun H2 e2 => h2 H2 (e.trans e2) _ fun u H3 hu e3 h3 => ⟨by show 2 ≤ sizeLine; decide, fun t ht => q _ _ ((e2.trans e3).trans (Ex.new ht)) ⟨t, u, rfl, upd_same, fresh_back (e.trans e2) hu, (upd_ne (fun z => by rw [z, ht] at h3; cases h3)).trans h3, fresh_back ((e.trans e2).trans e3) ht⟩⟩
theorem app_G {l : Addr} {xs : List V} {P : V → Hp → Prop} (hl : H l = some (.lst xs)) (ha : Ev ta σ H (.ref l)) (h : EvG te σ H P) (hz : xs.length < 100000) (k : ∀ v H2, Ex H H2 → P v H2 → D.nx σ (upd H2 l (.lst (xs ++ [v])))) :
    Sat (tDrop (tBM K "list" rAppend ta (tCons te tNil))) D σ H := fun H1 e1 => ha H1 e1 _ fun H2 e2 => ⟨Or.inl ⟨rfl, xs, sq_of (e2 _ _ (e1 _ _ hl))⟩, h H2 (e1.trans e2) _ fun v H3 e3 p =>
      ⟨l, xs, v, rfl, rfl, e3 _ _ (e2 _ _ (e1 _ _ hl)), sz_lt hz, k v H3 ((e1.trans e2).trans e3) p⟩⟩
theorem dput_one {d : Addr} {kvs : List (Key × V)} {k : Nat} {v : V} {td ty : TE} (hd : H d = some (.dK kvs)) (h1 : Ev td σ H (.ref d)) (h2 : Ev ty σ H (.int (k : Int))) (h3 : Ev tv σ H v) (hl : kvs.length < sizeLine)
    (kk : ∀ H2, Ex H H2 → D.nx σ (upd H2 d (.dK (putK kvs (Sum.inl (k : Int)) v)))) : Sat (sDPut td ty tv) D σ H := fun H1 e1 =>
  h3 H1 e1 _ fun H2 e2 => h1 H2 (e1.trans e2) _ fun H3 e3 => h2 H3 ((e1.trans e2).trans e3) _ fun H4 e4 => ⟨d, _, rfl, DPut.k (k := Sum.inl (k : Int)) ((((e1.trans e2).trans e3).trans e4) _ _ hd) hl, kk H4 (((e1.trans e2).trans e3).trans e4)⟩
end
end Cc
namespace Cc
open PySem PySem.Spec PyProof.Rows L2 Evl
section
variable {K : PySem.W.Frag} {σ : L2.St} {H H0 : Hp} {ta tv tv2 ta2 te tl : TE} {t : TT} {D : Ends} {tz tu : TS} {p C dx : Addr} {fs : List (Str × V)} {f f2 : Str} {y y2 : V}
theorem putF_len (f : Str) (v : V) : ∀ fs : List (Str × V), (putF f v fs).length ≤ fs.length + 1
  | [] => by simp [putF]
  | (g, x) :: r => by
    by_cases h : g = f
    · rw [show putF f v ((g, x) :: r) = (g, v) :: r from if_pos h]
      simp
    · rw [show putF f v ((g, x) :: r) = (g, x) :: putF f v r from if_neg h]
      have := putF_len f v r
      simp only [List.length_cons]
      omega
theorem sa_whenFld2 {b : Bool} (hp : H p = some (.ins C dx fs)) (ht : EvT t σ H b) (hv : b = true → Ev tv σ H y) (hv2 : b = true → ∀ H2, Keep p H H2 → Ev tv2 σ H2 y2) (ha : Ev ta σ H (.ref p)) (ha2 : ∀ H2, Ev ta2 σ H2 (.ref p)) (hc : Cls K C) (hn : NoAttr K C f) (hn2 : NoAttr K C f2) (hl : fs.length < 900)
    (k : ∀ H2, Keep p H H2 → H2 p = some (.ins C dx (if b = true then putF f2 y2 (putF f y fs) else fs)) → Sat tz D σ H2) : Sat (tSeq (tIfS t (tSeq (sFld K ta tv f) (sFld K ta2 tv2 f2)) tNext) tz) D σ H :=
  sa_when ht (fun hb => sa_fld hp (hv hb) ha hc hn (by omega) fun H2 k2 h2 => fld_one (D := { D with nx := tz D }) h2 (hv2 hb H2 k2) (ha2 H2) hc hn2 (by have := putF_len f y fs; omega) fun H3 k3 h3 => (k H3 (k2.trans k3) (by rw [if_pos hb]; exact h3)).go)
    (fun hb => fun H1 e1 => (k H1 (.of e1) (by rw [if_neg (by rw [hb]; decide)]; exact e1 _ _ hp)).go)
end
end Cc
namespace Cc
open PySem PySem.Spec PyProof.Rows L2 Evl
section
variable {K : PySem.W.Frag} {σ : L2.St} {H : Hp} {ta : TE} {b : List Nat}
def IsPairs (H : Hp) (l : List (Nat × List Nat)) : V → Hp → Prop := fun v H2 => ∃ p vs, v = .ref p ∧ H2 p = some (.lst vs) ∧ H p = none ∧ ∃ ts, vs = ts.map V.ref ∧ PairsAt H H2 ts l
theorem PairsAt.mono {H0 H H' : Hp} {ts : List Addr} {l : List (Nat × List Nat)} (e : Ex H H') (x : PairsAt H0 H ts l) : PairsAt H0 H' ts l := ⟨x.len, fun j t y h1 h2 =>
  let ⟨u, a, b, c⟩ := x.each j t y h1 h2
  ⟨u, e _ _ a, b, e _ _ c⟩⟩
theorem PairsAt.back {H0 H1 H : Hp} {ts : List Addr} {l : List (Nat × List Nat)} (e : Ex H0 H1) (x : PairsAt H1 H ts l) : PairsAt H0 H ts l := ⟨x.len, fun j t y h1 h2 =>
  let ⟨u, a, b, c⟩ := x.each j t y h1 h2
  ⟨u, a, fresh_back e b, c⟩⟩
theorem eg_fields_of (h : EvR ta σ H (bl b)) (hl : b.length ≤ 1000) : EvG (tCall sp_fields_of [] C8.E0 (tCons ta tNil)) σ H (IsPairs H (fieldsOf b)) := fun H1 e1 Q q =>
  ep_consR h ep_nil H1 e1 _ fun vs H2 e2 ⟨p, _, e, hp, e3⟩ => by
    subst e3
    subst e
    exact ⟨rfl, p, b, rfl, hp, hl, fun r H3 ts hr e4 h3 hp3 => q _ _ (e2.trans e4) ⟨r, _, rfl, h3, fresh_back (e1.trans e2) hr, ts, rfl, hp3.back (e1.trans e2)⟩⟩
theorem eg_inner_fields (h : EvR ta σ H (bl b)) (hl : b.length ≤ 1000) : EvG (tCall sp_inner_fields [] C8.E0 (tCons ta tNil)) σ H (IsPairs H (innerFields b)) := fun H1 e1 Q q =>
  ep_consR h ep_nil H1 e1 _ fun vs H2 e2 ⟨p, _, e, hp, e3⟩ => by
    subst e3
    subst e
    exact ⟨rfl, p, b, rfl, hp, hl, fun r H3 ts hr e4 h3 hp3 => q _ _ (e2.trans e4) ⟨r, _, rfl, h3, fresh_back (e1.trans e2) hr, ts, rfl, hp3.back (e1.trans e2)⟩⟩
theorem retP_nil {Q : VK} (k : RetP [] H Q) : RetL [] H Q := fun p H2 hp e2 h2 => k p H2 [] hp e2 h2 ⟨rfl, fun j t x h => by simp at h⟩
end
end Cc
namespace Cc
open PySem PySem.Spec PyProof.Rows L2 Evl
section
variable {K : PySem.W.Frag} {σ : L2.St} {H H0 : Hp} {ta tv te td ty : TE} {t : TT} {D : Ends} {tz : TS} {y v : V} {l d : Addr} {xs : List V} {kvs : List (Key × V)} {k : Nat}
theorem app_K (hl : H l = some (.lst xs)) (ha : Ev ta σ H (.ref l)) (h : Ev te σ H v) (hz : xs.length < 100000) (k : ∀ H2, Keep l H H2 → H2 l = some (.lst (xs ++ [v])) → D.nx σ H2) : Sat (tDrop (tBM K "list" rAppend ta (tCons te tNil))) D σ H :=
  app_G (P := fun w _ => w = v) hl ha (fun H1 e Q q => h H1 e Q fun H2 e2 => q v H2 e2 rfl) hz fun w H2 e2 hw => by
    subst hw
    exact k _ (fun b o hb hn => by rw [upd_ne hn]; exact e2 _ _ hb) upd_same
theorem sa_appK (hl : H l = some (.lst xs)) (ha : Ev ta σ H (.ref l)) (h : Ev te σ H v) (hz : xs.length < 100000) (k : ∀ H2, Keep l H H2 → H2 l = some (.lst (xs ++ [v])) → Sat tz D σ H2) : Sat (tSeq (tDrop (tBM K "list" rAppend ta (tCons te tNil))) tz) D σ H :=
  app_K (D := { D with nx := tz D }) hl ha h hz fun H2 k2 h2 => (k H2 k2 h2).go
theorem dput_K (hd : H d = some (.dK kvs)) (h1 : Ev td σ H (.ref d)) (h2 : Ev ty σ H (.int (k : Int))) (h3 : Ev tv σ H v) (hl : kvs.length < sizeLine)
    (kk : ∀ H2, Keep d H H2 → H2 d = some (.dK (putK kvs (Sum.inl (k : Int)) v)) → D.nx σ H2) : Sat (sDPut td ty tv) D σ H :=
  dput_one hd h1 h2 h3 hl fun H2 e2 => kk _ (fun b o hb hn => by rw [upd_ne hn]; exact e2 _ _ hb) upd_same
theorem sa_setD {i : Nat} (k : ∀ d H2, H d = none → Ex H H2 → H2 d = some (.dK []) → Sat tz D (σ.set i (some (.ref d))) H2) : Sat (tSeq (tAsg tDNewK (gName i)) tz) D σ H := fun H1 e1 => fun d hd =>
  (k d (upd H1 d (.dK [])) (fresh_back e1 hd) (e1.trans (Ex.new hd)) upd_same).go
theorem putK_len (kvs : List (Key × V)) (k : Key) (v : V) : (putK kvs k v).length ≤ kvs.length + 1 := by
  unfold putK
  split <;> simp
end
end Cc
namespace Cc
open PySem PySem.Spec PyProof.Rows L2 Evl
theorem held_get {H : Hp} {hd : Addr} {kvs : List (Key × V)} {h : Nat → Option (List Nat)} (x : HeldAt H hd kvs h) {m : Nat} {d : List Nat} (hm : h m = some d) : ∃ u, valV kvs (Sum.inl (m : Int)) = some (.ref u) ∧ H u = some (.lst (bl d)) := by
  have z := x.2 m
  rw [hm] at z
  exact z
theorem held_is {H : Hp} {hd : Addr} {kvs : List (Key × V)} {h : Nat → Option (List Nat)} (x : HeldAt H hd kvs h) (m : Nat) : (valV kvs (Sum.inl (m : Int))).isSome = (h m).isSome := by
  have z := x.2 m
  cases hm : h m with
  | none =>
    rw [hm] at z
    rw [show valV kvs (Sum.inl (m : Int)) = none from z]
    rfl
  | some d =>
    rw [hm] at z
    obtain ⟨u, h1, _⟩ := z
    rw [show valV kvs (Sum.inl (m : Int)) = _ from h1]
    rfl
end Cc
end
section
namespace Cc
open PySem PySem.Spec PyProof.Rows L2 Evl
open Sd27 (Card File Secret Kind Cmd isFolder)
section
variable {K : PySem.W.Frag} {σ : L2.St} {H H' : Hp} {ta tb tv te : TE} {D : Ends} {tz : TS} {l p a : Addr} {xs : List V} {v : V} {R : RM} {c : Card} {CF CS CC CR : Addr} {dx sl sd : Addr} {ws : List V} {kvs : List (Key × V)} {o : HO}
theorem Keep.upd (k : Keep p H H') (h : H' p = some o) : Ex (upd H p o) H' := fun b u hb => by
  by_cases z : b = p
  · subst z
    rw [upd_same] at hb
    rw [h, ← hb]
  · rw [upd_ne z] at hb
    exact k b u hb z
theorem Fr.keep {r : Role} (k : Keep p H H') (hr : R p = some r) (hm : r ≠ .mine := by intro h; cases h) : Fr R H R H' := fun b u hb hn => ⟨rfl, k b u hb (hn.ne hr hm)⟩
theorem sa_setIx {j : Nat} (hl : H l = some (.lst xs)) (h : Ev te σ H v) (ho : Ev ta σ H (.ref l)) (hi : Ev tb σ H (.int (j : Int))) (hj : j < xs.length) (k : ∀ H2, Keep l H H2 → H2 l = some (.lst (xs.set j v)) → Sat tz D σ H2) : Sat (tSeq (tAsg te (gSub ta tb rSetL)) tz) D σ H := fun H1 e1 =>
  h H1 e1 _ fun H2 e2 => ho H2 (e1.trans e2) _ fun H3 e3 => hi H3 ((e1.trans e2).trans e3) _ fun H4 e4 =>
    ⟨l, xs, (j : Int), j, rfl, rfl, (((e1.trans e2).trans e3).trans e4) _ _ hl, ixN_nat hj, (k _ (fun b u hb hn => by rw [upd_ne hn]; exact (((e1.trans e2).trans e3).trans e4) _ _ hb) upd_same).go⟩
/-- a slot of the card is written -/
theorem CardX.slots (X : CardX CF CS CC H R a c dx sl sd ws kvs) {j : Nat} {w : V} {c' : Card} (hj : j < 64) (hs : SlotAt CF H R j w (c'.at_ j)) (ha : ∀ i, i ≠ j → c'.at_ i = c.at_ i) (h1 : c'.active = c.active) (h2 : c'.folder = c.folder) (h3 : c'.file = c.file) (h4 : c'.secrets = c.secrets) (h5 : c'.told = c.told) :
    CardX CF CS CC (upd H sl (.lst (ws.set j w))) R a c' dx sl sd (ws.set j w) kvs :=
  ⟨by rw [h1, h2, h3]; exact (upd_ne (ne_role X.rsl fun z => by rw [X.ra] at z; cases z)).trans X.ob, X.ra, upd_same, X.rsl, by rw [List.length_set]; exact X.wl, fun i w2 hw => by
    by_cases z : i = j
    · subst z
      rw [List.getElem?_set_self (by rw [X.wl]; exact hj)] at hw
      have e := Option.some.inj hw
      subst e
      exact hs.upd X.rsl (fun z => by cases z) (fun z => by cases z)
    · rw [List.getElem?_set_ne (fun y => z y.symm)] at hw
      rw [ha i z]
      exact (X.slot i w2 hw).upd X.rsl (fun z => by cases z) (fun z => by cases z),
    (upd_ne (ne_role X.rsl fun z => by rw [X.rsd] at z; cases z)).trans X.osd, X.rsd, fun k k1 k2 => by rw [h4, h5]; exact (X.sec k k1 k2).upd X.rsl (fun z => by cases z), X.keys, X.nd, dom_upd X.dom⟩
/-- a secret is written -/
theorem CardX.secret (X : CardX CF CS CC H R a c dx sl sd ws kvs) {k : Nat} (k1 : 1 ≤ k) (k8 : k ≤ 8) {s' : Secret} {t' : Bool} {dx2 wd' fr' : Addr} {c' : Card} (e : valV kvs (key k) = some (.ref p)) (ho : H dx2 = H dx2) (rp : R p = some (.secret k)) (hw : H wd' = some (.lst (bl s'.word))) (rw_ : R wd' = none) (hf : H fr' = some (.lst (bl s'.free))) (rf : R fr' = none)
    (h0 : ∀ i, c'.at_ i = c.at_ i) (h1 : c'.active = c.active) (h2 : c'.folder = c.folder) (h3 : c'.file = c.file) (h4 : c'.secrets.getD (k - 1) none = some s') (h5 : c'.told.contains k = t')
    (h6 : ∀ j, 1 ≤ j → j ≤ 8 → j ≠ k → c'.secrets.getD (j - 1) none = c.secrets.getD (j - 1) none ∧ c'.told.contains j = c.told.contains j) :
    CardX CF CS CC (upd H p (.ins CS dx2 (sfs s' t' wd' fr'))) R a c' dx sl sd ws kvs :=
  ⟨by rw [h1, h2, h3]; exact (upd_ne (ne_role rp fun z => by rw [X.ra] at z; cases z)).trans X.ob, X.ra, (upd_ne (ne_role rp fun z => by rw [X.rsl] at z; cases z)).trans X.osl, X.rsl, X.wl,
    fun i w hw => by rw [h0 i]; exact (X.slot i w hw).upd rp (fun z => by cases z) (fun z => by cases z), (upd_ne (ne_role rp fun z => by rw [X.rsd] at z; cases z)).trans X.osd, X.rsd, fun j j1 j8 => by
      by_cases z : j = k
      · subst z
        rw [h4, h5]
        exact ⟨p, dx2, wd', fr', e, ⟨upd_same, (upd_ne (ne_role rp fun z => by rw [rw_] at z; cases z)).trans hw, (upd_ne (ne_role rp fun z => by rw [rf] at z; cases z)).trans hf⟩, ⟨rp, rw_, rf⟩⟩
      · rw [(h6 j j1 j8 z).1, (h6 j j1 j8 z).2]
        exact (X.sec j j1 j8).upd rp (fun y => z (by cases y; rfl)), X.keys, X.nd, dom_upd X.dom⟩
/-- only what was told has changed, of secrets that are not there -/
theorem CardX.retold (X : CardX CF CS CC H R a c dx sl sd ws kvs) {c' : Card} (h0 : ∀ i, c'.at_ i = c.at_ i) (h1 : c'.active = c.active) (h2 : c'.folder = c.folder) (h3 : c'.file = c.file) (h4 : c'.secrets = c.secrets)
    (h5 : ∀ k s, 1 ≤ k → k ≤ 8 → c.secrets.getD (k - 1) none = some s → c'.told.contains k = c.told.contains k) : CardX CF CS CC H R a c' dx sl sd ws kvs :=
  ⟨by rw [h1, h2, h3]; exact X.ob, X.ra, X.osl, X.rsl, X.wl, fun i w hw => by rw [h0 i]; exact X.slot i w hw, X.osd, X.rsd, fun k k1 k8 => by
    have s := X.sec k k1 k8
    rw [h4]
    cases e : c.secrets.getD (k - 1) none with
    | none =>
      rw [e] at s
      exact s
    | some sc =>
      rw [e] at s
      rw [h5 k sc k1 k8 e]
      exact s, X.keys, X.nd, X.dom⟩
theorem at_put {c : Card} {i j : Nat} : (c.put i none).at_ j = if j = i then none else c.at_ j := by
  unfold Card.put Card.at_
  by_cases h : j = i
  · subst h
    rw [if_pos rfl]
    show ((c.files.set j none)[j]?).bind id = none
    by_cases hl : j < c.files.length
    · rw [List.getElem?_set_self hl]
      rfl
    · rw [List.getElem?_eq_none (by rw [List.length_set]; omega)]
      rfl
  · rw [if_neg h]
    show ((c.files.set i none)[j]?).bind id = _
    rw [List.getElem?_set_ne (fun z => h z.symm)]
theorem free_le {c : Card} {j : Nat} (h : freeIx c = some j) : j < 64 ∧ c.at_ j = none ∧ j ≤ c.files.length := by
  unfold freeIx at h
  obtain ⟨h1, h2, h3⟩ := List.find?_range_eq_some.mp h
  refine ⟨List.mem_range.mp h2, Option.isNone_iff_eq_none.mp h1, ?_⟩
  by_cases z : j ≤ c.files.length
  · exact z
  · have y := h3 c.files.length (by omega)
    unfold Card.at_ at y
    rw [List.getElem?_eq_none (Nat.le_refl _)] at y
    cases y
theorem at_putFile {c : Card} {j : Nat} {f : File} (h : freeIx c = some j) (i : Nat) : (putFile c j f).at_ i = if i = j then some f else c.at_ i := by
  obtain ⟨h1, h2, h3⟩ := free_le h
  unfold putFile Card.at_
  show ((if j < c.files.length then c.files.set j (some f) else c.files ++ [some f])[i]?).bind id = _
  by_cases hl : j < c.files.length
  · rw [if_pos hl]
    by_cases z : i = j
    · subst z
      rw [if_pos rfl, List.getElem?_set_self hl]
      rfl
    · rw [if_neg z, List.getElem?_set_ne (fun y => z y.symm)]
  · rw [if_neg hl]
    have hj : j = c.files.length := by omega
    subst hj
    by_cases z : i = c.files.length
    · subst z
      rw [if_pos rfl, List.getElem?_append_right (Nat.le_refl _), Nat.sub_self]
      rfl
    · rw [if_neg z]
      by_cases y : i < c.files.length
      · rw [List.getElem?_append_left y]
      · rw [List.getElem?_append_right (by omega), List.getElem?_eq_none (by simp; omega), List.getElem?_eq_none (by omega)]
end
end Cc
namespace Cc
open PySem PySem.Spec PyProof.Rows L2 Evl
theorem sa_drop {te : TE} {D : Ends} {σ : L2.St} {H : Hp} (h : ∀ H1, Ex H H1 → te σ H1 (fun _ H2 => D.nx σ H2)) : Sat (tDrop te) D σ H := h
theorem sa_retE {te : TE} {D : Ends} {σ : L2.St} {H : Hp} (h : ∀ H1, Ex H H1 → te σ H1 D.rt) : Sat (tRet te) D σ H := h
theorem sa_asgE {te : TE} {D : Ends} {σ : L2.St} {H : Hp} {i : Nat} {tz : TS} (h : ∀ H1, Ex H H1 → te σ H1 (fun v H2 => tz D (σ.set i (some v)) H2)) : Sat (tSeq (tAsg te (gName i)) tz) D σ H := h
end Cc
namespace Cc
open PySem PySem.Spec PyProof.Rows L2 Evl
theorem el_is {te : TE} {σ : L2.St} {H : Hp} {xs ys : List V} (h : EvL te σ H xs) (e : xs = ys) : EvL te σ H ys := e ▸ h
end Cc
namespace Cc
open PySem PySem.Spec PyProof.Rows L2 Evl
open Sd27 (Card File Secret Kind Cmd isFolder)
section
variable {K : PySem.W.Frag} {σ : L2.St} {H H' H1 : Hp} {ta : TE} {R R' R1 : RM} {a : Addr} {c c1 : Card} {CF CS CC CR : Addr} {Q : VK} {xs : List V}
theorem ep_consUn {tr : TA} {P : List V → Hp → Prop} (h : EvU ta σ H xs) (hr : EvP tr σ H P) : EvP (tCons ta tr) σ H (fun vs H2 => ∃ p r, vs = .ref p :: r ∧ H p = none ∧ H2 p = some (.tup xs) ∧ P r H2) := fun H1 e _ q =>
  h H1 e _ fun p H2 hn e2 hp => hr H2 (e.trans e2) _ fun vs H3 e3 hP => q _ H3 (e2.trans e3) ⟨p, vs, rfl, fresh_back e hn, e3 _ _ hp, hP⟩
theorem sqt_fr {kt : Addr} (h : SqT K H kt xs) (r : R kt = none) (f : Fr R H R' H') : SqT K H' kt xs := by
  rcases h with (h | ⟨o, h⟩) | h
  · exact .inl (.inl (f.non h r).2)
  · exact .inl (.inr ⟨o, (f.non h r).2⟩)
  · exact .inr h
/-- what a command owes: OutP without anything ahead -/
abbrev OutQ (CF CS CC : Addr) (H : Hp) (R : RM) (a : Addr) (x : Out) (Q : VK) : Prop := ∀ H' R' p, CardAt CF CS CC H' R' a x.1 → Fr R H R' H' → H' p = some (.lst (bl (x.2.1 ++ b2 x.2.2))) → R' p = none → Q (.ref p) H'
theorem leaf {x : Out} {t : List Nat} {w : Nat} (kk : OutQ CF CS CC H R a x Q) (hC : CardAt CF CS CC H1 R1 a c1) (hF : Fr R H R1 H1) (e : x = (c1, (t, w))) : RetL (bl (t ++ b2 w)) H1 Q := fun p H2 hp e2 h2 => by
  subst e
  obtain ⟨dx, sl, sd, ws, kvs, X⟩ := hC
  exact kk H2 R1 p ⟨dx, sl, sd, ws, kvs, X.mono e2⟩ (hF.trans (.of e2)) h2 (X.free hp)
theorem wantI_none {k : Cmd} (o : CmdOk k) : (wantI k.want = 0) ↔ k.want = none := by
  cases e : k.want with
  | none => simp [wantI]
  | some n =>
    have := o.want n e
    simp only [wantI]
    constructor
    · intro z
      omega
    · intro z
      cases z
end
end Cc
namespace Cc
open PySem PySem.Spec PyProof.Rows L2 Evl
open Sd27 (Card File Secret Kind Cmd isFolder)
theorem leaf0 {CF CS CC : Addr} {H H1 : Hp} {R R1 : RM} {a : Addr} {c1 : Card} {Q : VK} {x : Out} {w : Nat} (kk : OutQ CF CS CC H R a x Q) (hC : CardAt CF CS CC H1 R1 a c1) (hF : Fr R H R1 H1) (e : x = (c1, ([], w))) : RetL (bl (b2 w)) H1 Q := leaf kk hC hF e
end Cc
end
section
namespace Cc
open PySem PySem.Spec PyProof.Rows L2 Evl
open Sd27 (Card File Secret Kind Cmd isFolder)
theorem at_lt_len {c : Card} {i : Nat} {f : File} (h : c.at_ i = some f) : i < c.files.length := by
  unfold Card.at_ at h
  by_cases z : i < c.files.length
  · exact z
  · rw [List.getElem?_eq_none (by omega)] at h
    cases h
theorem at_put_some {c : Card} {i : Nat} {f g : File} (h : c.at_ i = some f) (j : Nat) : (c.put i (some g)).at_ j = if j = i then some g else c.at_ j := by
  have hl := at_lt_len h
  unfold Card.put Card.at_
  show ((c.files.set i (some g))[j]?).bind id = _
  by_cases z : j = i
  · subst z
    rw [if_pos rfl, List.getElem?_set_self hl]
    rfl
  · rw [if_neg z, List.getElem?_set_ne (fun y => z y.symm)]
theorem pf_withRecords {i : Nat} {f : File} (l : List (List Nat)) (h : kKind f.kind ∈ [2, 6]) : pfOf i (Sd27.withRecords f l) = { pfOf i f with records := l } := by
  unfold Sd27.withRecords pfOf upOf
  cases e : f.kind <;> first | rfl | (rw [e] at h; simp [kKind] at h)
section
variable {K : PySem.W.Frag} {σ : L2.St} {H H' H1 : Hp} {ta tb tc : TE} {D : Ends} {tz : TS} {R : RM} {a x : Addr} {c c' : Card} {CF CS CC CR : Addr} {dx sl sd : Addr} {ws : List V} {kvs : List (Key × V)} {ob : HO} {i : Nat}
/-- an object of one file is written -/
theorem CardX.upd_i {r : Role} (X : CardX CF CS CC H R a c dx sl sd ws kvs) (hx : R x = some r) (hr : r = .file i ∨ r = .recs i) (hs : ∀ w, ws[i]? = some w → SlotAt CF (upd H x ob) R i w (c'.at_ i)) (ha : ∀ j, j ≠ i → c'.at_ j = c.at_ j)
    (h1 : c'.active = c.active) (h2 : c'.folder = c.folder) (h3 : c'.file = c.file) (h4 : c'.secrets = c.secrets) (h5 : c'.told = c.told) : CardX CF CS CC (upd H x ob) R a c' dx sl sd ws kvs := by
  have ne : ∀ {b : Addr}, (R b = none ∨ ∃ r', R b = some r' ∧ r' ≠ .file i ∧ r' ≠ .recs i) → b ≠ x := fun h z => by
    subst z
    rcases h with h | ⟨r', h, n1, n2⟩
    · rw [h] at hx
      cases hx
    · rw [h] at hx
      cases hx
      rcases hr with z | z
      · exact n1 z
      · exact n2 z
  refine ⟨by rw [h1, h2, h3]; exact (upd_ne (ne (.inr ⟨_, X.ra, (fun z => by cases z), fun z => by cases z⟩))).trans X.ob, X.ra, (upd_ne (ne (.inr ⟨_, X.rsl, (fun z => by cases z), fun z => by cases z⟩))).trans X.osl, X.rsl, X.wl, fun j w hw => ?_,
    (upd_ne (ne (.inr ⟨_, X.rsd, (fun z => by cases z), fun z => by cases z⟩))).trans X.osd, X.rsd, fun k k1 k8 => ?_, X.keys, X.nd, dom_upd X.dom⟩
  · by_cases z : j = i
    · subst z
      exact hs w hw
    · rw [ha j z]
      refine (X.slot j w hw).upd hx ?_ ?_
      · rcases hr with y | y
        · rw [y]
          exact fun q => z (by cases q; rfl)
        · rw [y]
          exact fun q => by cases q
      · rcases hr with y | y
        · rw [y]
          exact fun q => by cases q
        · rw [y]
          exact fun q => z (by cases q; rfl)
  · rw [h4, h5]
    refine (X.sec k k1 k8).upd hx ?_
    rcases hr with y | y <;> (rw [y]; exact fun q => by cases q)
/-- a secret is put into the dict -/
theorem CardX.dput (X : CardX CF CS CC H R a c dx sl sd ws kvs) {k : Nat} (k1 : 1 ≤ k) (k8 : k ≤ 8) {p dx2 wd fr : Addr} {s : Secret} {t : Bool} (o : SObj CS H p s t dx2 wd fr) (ro : SRole R k p wd fr)
    (h0 : ∀ i, c'.at_ i = c.at_ i) (h1 : c'.active = c.active) (h2 : c'.folder = c.folder) (h3 : c'.file = c.file) (h4 : c'.secrets.getD (k - 1) none = some s) (h5 : c'.told.contains k = t)
    (h6 : ∀ j, 1 ≤ j → j ≤ 8 → j ≠ k → c'.secrets.getD (j - 1) none = c.secrets.getD (j - 1) none ∧ c'.told.contains j = c.told.contains j) :
    CardX CF CS CC (upd H sd (.dK (putK kvs (key k) (.ref p)))) R a c' dx sl sd ws (putK kvs (key k) (.ref p)) := by
  refine ⟨by rw [h1, h2, h3]; exact (upd_ne (ne_role X.rsd fun z => by rw [X.ra] at z; cases z)).trans X.ob, X.ra, (upd_ne (ne_role X.rsd fun z => by rw [X.rsl] at z; cases z)).trans X.osl, X.rsl, X.wl,
    fun i w hw => by rw [h0 i]; exact (X.slot i w hw).upd X.rsd (fun z => by cases z) (fun z => by cases z), upd_same, X.rsd, fun j j1 j8 => ?_, fun kv hkv => ?_, ?_, dom_upd X.dom⟩
  · rw [valV_put]
    by_cases z : j = k
    · subst z
      rw [if_pos rfl, h4, h5]
      exact ⟨p, dx2, wd, fr, rfl, ⟨(upd_ne (ne_role X.rsd fun z => by rw [ro.p] at z; cases z)).trans o.ob, (upd_ne (ne_role X.rsd fun z => by rw [ro.wd] at z; cases z)).trans o.wd, (upd_ne (ne_role X.rsd fun z => by rw [ro.fr] at z; cases z)).trans o.fr⟩, ro⟩
    · have hk : ¬ key j = key k := fun y => z (Int.ofNat.inj (Sum.inl.inj y))
      rw [if_neg hk, (h6 j j1 j8 z).1, (h6 j j1 j8 z).2]
      exact (X.sec j j1 j8).upd X.rsd (fun y => by cases y)
  · unfold putK at hkv
    split at hkv
    · obtain ⟨y, hy, rfl⟩ := List.mem_map.mp hkv
      split
      · rename_i h
        exact ⟨k, k1, k8, h⟩
      · exact X.keys y hy
    · rcases List.mem_append.mp hkv with y | y
      · exact X.keys kv y
      · rw [List.mem_singleton.mp y]
        exact ⟨k, k1, k8, rfl⟩
  · cases e : valV kvs (key k) with
    | none => exact nd_putK _ X.nd e
    | some v =>
      have hin : (kvs.any fun kv => decide (kv.1 = key k)) = true := by
        rw [valV_any, e]
        rfl
      have e2 : (putK kvs (key k) (.ref p)).map (·.1) = kvs.map (·.1) := by
        unfold putK
        rw [if_pos hin, List.map_map]
        refine List.map_congr_left fun y hy => ?_
        show (if y.1 = key k then (y.1, V.ref p) else y).1 = y.1
        split <;> rfl
      rw [e2]
      exact X.nd
/-- the secret of a number -/
theorem CardX.sec_at (X : CardX CF CS CC H R a c dx sl sd ws kvs) {k : Nat} (k1 : 1 ≤ k) (k8 : k ≤ 8) {s : Secret} (h : c.secrets.getD (k - 1) none = some s) : ∃ p dx2 wd fr, valV kvs (key k) = some (.ref p) ∧ SObj CS H p s (c.told.contains k) dx2 wd fr ∧ SRole R k p wd fr := by
  have z := X.sec k k1 k8
  rw [h] at z
  exact z
theorem keep_getD {c : Card} (hl : c.secrets.length = 8) {k j : Nat} (k1 : 1 ≤ k) (k8 : k ≤ 8) (j1 : 1 ≤ j) (s : Secret) : (c.keep k s).secrets.getD (j - 1) none = if j = k then some s else c.secrets.getD (j - 1) none := by
  show (c.secrets.set (k - 1) (some s)).getD (j - 1) none = _
  rw [List.getD_eq_getElem?_getD, List.getD_eq_getElem?_getD]
  by_cases z : j = k
  · subst z
    rw [if_pos rfl, List.getElem?_set_self (by omega)]
    rfl
  · rw [if_neg z, List.getElem?_set_ne (by omega)]
theorem forget_contains (c : Card) (k j : Nat) : (c.forget k).told.contains j = (c.told.contains j && decide (j ≠ k)) := by
  show (c.told.filter fun j => j != k).contains j = _
  rw [List.contains_eq_mem, List.contains_eq_mem]
  by_cases z : j = k
  · subst z
    rw [decide_eq_false (fun h => by have := (List.mem_filter.mp h).2; simp at this)]
    simp
  · rw [decide_eq_true z, Bool.and_true]
    exact decide_eq_decide.mpr ⟨fun h => (List.mem_filter.mp h).1, fun h => List.mem_filter.mpr ⟨h, by simp [z]⟩⟩
/-- a call whose promise hands a card on: at the head of a command -/
theorem aimS_p2 {k : Cmd} {n : Nat} {ls : List Nat} (h : aimS k n ls = 0x9000) : 1 ≤ k.p2 ∧ k.p2 ≤ 8 ∧ k.p1 = n ∧ wantI k.want = 0 ∧ k.data.length ∈ ls := by
  unfold aimS at h
  by_cases z : k.p1 ≠ n ∨ ¬ (1 ≤ k.p2 ∧ k.p2 ≤ 8)
  · rw [if_pos z] at h
    cases h
  · rw [if_neg z] at h
    by_cases y : wantI k.want ≠ 0 ∨ ¬ k.data.length ∈ ls
    · rw [if_pos y] at h
      cases h
    · have z1 : k.p1 = n := Decidable.byContradiction fun q => z (Or.inl q)
      have z2 : 1 ≤ k.p2 ∧ k.p2 ≤ 8 := Decidable.byContradiction fun q => z (Or.inr q)
      exact ⟨z2.1, z2.2, z1, Decidable.byContradiction fun q => y (Or.inl q), Decidable.byContradiction fun q => y (Or.inr q)⟩
theorem aimK_ok {c : Card} {k : Cmd} {ls : List Nat} (h : aimK c k ls = 0x9000) : aimS k 0 ls = 0x9000 ∧ ∃ s, secOf c k.p2 = some s := by
  unfold aimK at h
  by_cases z : aimS k 0 ls = 0x9000 ∧ secOf c k.p2 = none
  · rw [if_pos z] at h
    cases h
  · rw [if_neg z] at h
    refine ⟨h, ?_⟩
    cases e : secOf c k.p2 with
    | none => exact absurd ⟨h, e⟩ z
    | some s => exact ⟨s, rfl⟩
end
end Cc
namespace Cc
theorem nt {x : Bool} (h : (!x) = true) : x = false := by
  cases x
  · rfl
  · cases h
theorem nf {x : Bool} (h : (!x) = false) : x = true := by
  cases x
  · cases h
  · rfl
theorem nnf {x : Bool} (h : (!x) = false) : ¬ x = false := by
  rw [nf h]
  decide
end Cc
namespace Cc
open PySem PySem.Spec PyProof.Rows L2 Evl
open Sd27 (Card File Secret Kind Cmd isFolder)
theorem good_aimB {c : Card} {k : Cmd} {w : Bool} (g : Good c) : Good (mAimB c k w).1 := by
  unfold mAimB
  split
  · exact g
  · exact good_mAim g
theorem good_aimR {c : Card} {k : Cmd} {l : Nat} {w : Bool} (g : Good c) : Good (mAimR c k l w).1 := by
  unfold mAimR
  split
  · exact g
  · exact good_mAim g
theorem aimB_file {c : Card} {k : Cmd} {w : Bool} (h : (mAimB c k w).2 = 0x9000) : ∃ i f, (mAimB c k w).1.file = some i ∧ (mAimB c k w).1.at_ i = some f ∧ kKind f.kind ∈ [1] ∧ theFile (mAimB c k w).1 = some (i, f) := by
  unfold mAimB at h ⊢
  by_cases z : k.p1 = 128 ∨ 159 < k.p1
  · rw [if_pos z] at h
    cases h
  · rw [if_neg z] at h ⊢
    exact mAim_file h
theorem aimR_file {c : Card} {k : Cmd} {l : Nat} {w : Bool} (h : (mAimR c k l w).2 = 0x9000) : ∃ i f, (mAimR c k l w).1.file = some i ∧ (mAimR c k l w).1.at_ i = some f ∧ kKind f.kind ∈ [2, 6] ∧ theFile (mAimR c k l w).1 = some (i, f) := by
  unfold mAimR at h ⊢
  by_cases z : k.p2 % 8 ≠ l ∨ k.p2 / 8 = 31
  · rw [if_pos z] at h
    cases h
  · rw [if_neg z] at h ⊢
    exact mAim_file h
section
variable {H H' : Hp} {R : RM} {a x : Addr} {c c' : Card} {CF CS CC CR : Addr} {dx sl sd : Addr} {ws : List V} {kvs : List (Key × V)} {i : Nat}
/-- all but an object of one file stands -/
theorem CardX.swap_i {r : Role} (X : CardX CF CS CC H R a c dx sl sd ws kvs) (hx : R x = some r) (hr : r = .file i ∨ r = .recs i) (kp : Keep x H H') (hs : ∀ w, ws[i]? = some w → SlotAt CF H' R i w (c'.at_ i)) (ha : ∀ j, j ≠ i → c'.at_ j = c.at_ j) (hd : H' x ≠ none)
    (h1 : c'.active = c.active) (h2 : c'.folder = c.folder) (h3 : c'.file = c.file) (h4 : c'.secrets = c.secrets) (h5 : c'.told = c.told) : CardX CF CS CC H' R a c' dx sl sd ws kvs := by
  have ne : ∀ {b : Addr}, (R b = none ∨ ∃ r', R b = some r' ∧ r' ≠ .file i ∧ r' ≠ .recs i) → b ≠ x := fun h z => by
    subst z
    rcases h with h | ⟨r', h, n1, n2⟩
    · rw [h] at hx
      cases hx
    · rw [h] at hx
      cases hx
      rcases hr with z | z
      · exact n1 z
      · exact n2 z
  refine ⟨by rw [h1, h2, h3]; exact kp _ _ X.ob (ne (.inr ⟨_, X.ra, (fun z => by cases z), fun z => by cases z⟩)), X.ra, kp _ _ X.osl (ne (.inr ⟨_, X.rsl, (fun z => by cases z), fun z => by cases z⟩)), X.rsl, X.wl, fun j w hw => ?_,
    kp _ _ X.osd (ne (.inr ⟨_, X.rsd, (fun z => by cases z), fun z => by cases z⟩)), X.rsd, fun k k1 k8 => ?_, X.keys, X.nd, fun b q hb z => ?_⟩
  · by_cases z : j = i
    · subst z
      exact hs w hw
    · rw [ha j z]
      have s := X.slot j w hw
      cases e : c.at_ j with
      | none =>
        rw [e] at s
        exact s
      | some f =>
        rw [e] at s
        obtain ⟨p3, dx3, n3, ct3, rc3, rs3, y1, y2, y3⟩ := s
        have nf : ∀ {b : Addr}, R b = some (.file j) ∨ R b = some (.recs j) → b ≠ x := fun h => ne (.inr (by
          rcases h with h | h
          · exact ⟨_, h, fun q => z (by cases q; rfl), fun q => by cases q⟩
          · exact ⟨_, h, (fun q => by cases q), fun q => z (by cases q; rfl)⟩))
        exact ⟨p3, dx3, n3, ct3, rc3, rs3, y1, ⟨kp _ _ y2.ob (nf (.inl y3.p)), kp _ _ y2.nm (ne (.inl y3.n)), kp _ _ y2.ct (ne (.inl y3.ct)), kp _ _ y2.rc (nf (.inr y3.rc)), y2.len, fun q r w2 hq hw2 => kp _ _ (y2.each q r w2 hq hw2) (ne (.inl (y3.rs r (List.mem_of_getElem? hq))))⟩, y3⟩
  · rw [h4, h5]
    have s := X.sec k k1 k8
    cases e : c.secrets.getD (k - 1) none with
    | none =>
      rw [e] at s
      exact s
    | some sc =>
      rw [e] at s
      obtain ⟨p3, dx3, wd3, fr3, y1, y2, y3⟩ := s
      exact ⟨p3, dx3, wd3, fr3, y1, ⟨kp _ _ y2.ob (ne (.inr ⟨_, y3.p, (fun z => by cases z), fun z => by cases z⟩)), kp _ _ y2.wd (ne (.inl y3.wd)), kp _ _ y2.fr (ne (.inl y3.fr))⟩, y3⟩
  · have y := X.dom b q hb
    cases e : H b with
    | none => exact y e
    | some u =>
      by_cases bx : b = x
      · rw [bx] at z
        exact hd z
      · rw [kp _ _ e bx] at z
        cases z
end
end Cc
namespace Cc
open PySem PySem.Spec PyProof.Rows L2 Evl
theorem eg_make0 {σ : L2.St} {H : Hp} {C : Addr} {sp : Sp} {E : XK} {G : V → Hp → Prop}
    (hs : ∀ H1 x dx, Ex H H1 → H1 x = none → H1 dx = none → dx ≠ x → ∀ Q : VK, (∀ H2, (∀ b o, H1 b = some o → H2 b = some o) → G (.ref x) H2 → Q .non H2) → sp [.ref x] (upd (upd H1 dx (.own x)) x (.ins C dx [])) Q E) :
    EvG (tMake C sp [] E tNil) σ H G := fun H1 e Q q => fun x dx hx hd hne => hs H1 x dx e hx hd hne _ fun H3 e3 g => ⟨rfl, q _ _ e3 g⟩
end Cc
end
section
namespace Cc
open Sd27 (Card File Secret Kind Cmd isFolder)
/-- the list of calls, call by call: a command's bytes, or a reset -/
inductive OkL : List Nat → List (Option (List Nat)) → Prop where
  | nil : OkL [] []
  | cmd (b rest : List Nat) (cs : List (Option (List Nat))) (hl : b.length ≤ 261) (hb : ∀ x ∈ b, x < 256) (h : OkL rest cs) : OkL (1 :: b.length :: (b ++ rest)) (some b :: cs)
  | reset (rest : List Nat) (cs : List (Option (List Nat))) (h : OkL rest cs) : OkL (2 :: rest) (none :: cs)
def bb (n : Nat) : List Nat := [n / 256, n % 256]
/-- the answers, one behind another -/
def flat (c : Card) : List (Option (List Nat)) → List Nat
  | [] => []
  | some b :: cs => (((mObey c b).2.1 ++ bb (mObey c b).2.2).length + 1) :: (((mObey c b).2.1 ++ bb (mObey c b).2.2).length :: (((mObey c b).2.1 ++ bb (mObey c b).2.2) ++ flat (mObey c b).1 cs))
  | none :: cs => 1 :: 0 :: flat (Sd27.reset c) cs
theorem good_reset {c : Card} (g : Good c) : Good (Sd27.reset c) := ⟨g.len, g.top, g.ok, g.up, ⟨topF, g.top, rfl⟩, fun i h => (by cases h), g.sec, g.sok, fun k h => by cases h⟩
end Cc
end
section
namespace Cc
open PySem PySem.Spec PyProof.Rows L2 Evl
open C8 (pe_c pe_mk pe_mt pe_mt0 pe_gc)
open Sd27 (Card File Secret Kind Cmd isFolder)
section
variable {P : Program} {w : World} {K : PySem.W.Frag} {mg : Str → Option Value} {base : Heap} {CF CS CC CR RN : Addr}

theorem ok_two_bytes (T : Tx K mg CF CS CC CR RN) {f : Addr} {fd : FuncData} (F : C8.Def K mg "two_bytes" s_two_bytes f fd) (b : Binds K fd ["number"] [])  :
    C8.Cal P w K mg base 1 "two_bytes" sp_two_bytes [] := by
  have S := sc_two_bytes
  refine C8.cal0 F b .nil S (fun vs H Q E h => h.1) (fun cdv A outer s H vs Q E hr h => ⟨_, (pss_one (ps_ret (pe_lst (pa_cons (pe_op op_fdiv (pv 0) pe_int) (pa_cons (pe_op op_mod (pv 0) pe_int) pa_nil))))), ?_⟩)
  obtain ⟨-, n, rfl, k⟩ := h
  exact (sa_retL (xs := bl (b2 n)) (el_lst (ea_cons (ev_op (ev_var rfl) (ev_n 256) (rv_div (by decide) (by decide))) (ea_cons (ev_op (ev_var rfl) (ev_n 256) (rv_mod (by decide))) ea_nil)) (by show 2 ≤ 100000; decide)) k).go
theorem ok_number_of (T : Tx K mg CF CS CC CR RN) {f : Addr} {fd : FuncData} (F : C8.Def K mg "number_of" s_number_of f fd) (b : Binds K fd ["pair"] [])  :
    C8.Cal P w K mg base 1 "number_of" sp_number_of [] := by
  have S := sc_number_of
  refine C8.cal0 F b .nil S (fun vs H Q E h => h.1) (fun cdv A outer s H vs Q E hr h => ⟨_, (pss_one (ps_ret (pe_op op_add (pe_op op_mul (pe_ix ix_list (pv 0) pe_int (fun _ _ => rfl)) pe_int) (pe_ix ix_list (pv 0) pe_int (fun _ _ => rfl))))), ?_⟩)
  obtain ⟨-, a, xs, rfl, ha, hl, k⟩ := h
  obtain ⟨x, y, r, rfl⟩ : ∃ x y r, xs = x :: y :: r := match xs, hl with | x :: y :: r, _ => ⟨x, y, r, rfl⟩
  refine (sa_ret (ev_op (ev_op (ev_ixN (i := 0) (er_old (ev_var rfl) ha) (ev_n 0) rfl) (ev_n 256) (rv_mulR (by decide))) (ev_ixN (i := 1) (er_old (ev_var rfl) ha) (ev_n 1) rfl) rv_add) ?_).go
  exact k
theorem ok_reply (T : Tx K mg CF CS CC CR RN) {f : Addr} {fd : FuncData} (F : C8.Def K mg "reply" s_reply f fd) (b : Binds K fd ["told", "status"] []) (c_two_bytes : C8.Cal P w K mg base 1 "two_bytes" sp_two_bytes []) :
    C8.Cal P w K mg base 2 "reply" sp_reply [] := by
  have S := sc_reply
  refine C8.cal0 F b .nil S (fun vs H Q E h => h.1) (fun cdv A outer s H vs Q E hr h => ⟨_, (pss_one (ps_ret (pe_op op_cat (pv 0) (pe_c c_two_bytes hr (by decide) rfl (pa_cons (pv 1) pa_nil))))), ?_⟩)
  obtain ⟨-, a, l, n, rfl, ha, hl, k⟩ := h
  refine (sa_retL (el_cat (er_old (ev_var rfl) ha) (er_new (el_two_bytes (n := n) (ev_var rfl))) ?_) ?_).go
  · rw [bl_len, bl_len]
    show l.length + 2 ≤ 2 ^ 24
    omega
  · rw [bl_app]
    exact k
theorem ok_only (T : Tx K mg CF CS CC CR RN) {f : Addr} {fd : FuncData} (F : C8.Def K mg "only" s_only f fd) (b : Binds K fd ["status"] []) (c_reply : C8.Cal P w K mg base 2 "reply" sp_reply []) :
    C8.Cal P w K mg base 3 "only" sp_only [] := by
  have S := sc_only
  refine C8.cal0 F b .nil S (fun vs H Q E h => h.1) (fun cdv A outer s H vs Q E hr h => ⟨_, (pss_one (ps_ret (pe_c c_reply hr (by decide) rfl (pa_cons (pe_lst pa_nil) (pa_cons (pv 0) pa_nil))))), ?_⟩)
  obtain ⟨-, n, rfl, k⟩ := h
  refine (sa_retL (el_reply (l := []) (er_new (el_lst ea_nil (by decide))) (ev_var rfl) (by decide)) ?_).go
  exact k
theorem ok_holds_records (T : Tx K mg CF CS CC CR RN) {f : Addr} {fd : FuncData} (F : C8.Def K mg "holds_records" s_holds_records f fd) (b : Binds K fd ["kind"] [])  :
    C8.Cal P w K mg base 1 "holds_records" sp_holds_records [] := by
  have S := sc_holds_records
  refine C8.cal0 F b .nil S (fun vs H Q E h => h.1) (fun cdv A outer s H vs Q E hr h => ⟨_, (pss_one (ps_ret (pe_cmpR op_in_seq (pv 0) (pe_tup (pa_cons (pe_gc rfl T.mRECORDS) (pa_cons (pe_gc rfl T.mROUND) pa_nil))) (by rfl)))), ?_⟩)
  obtain ⟨-, k, rfl, q⟩ := h
  refine (sa_ret (ev_is (ev_inU (ev_var rfl) (eu_tup (ea_cons (ev_n 2) (ea_cons (ev_n 6) ea_nil)) (by decide)) rfl rfl) ?_) q).go
  exact congrArg V.bl (in_two k 2 6)
theorem ok_room_of (T : Tx K mg CF CS CC CR RN) {f : Addr} {fd : FuncData} (F : C8.Def K mg "room_of" s_room_of f fd) (b : Binds K fd ["file"] [])  :
    C8.Cal P w K mg base 1 "room_of" (sp_room_of CF) [] := by
  have S := sc_room_of
  refine C8.cal0 F b .nil S (fun vs H Q E h => h.1) (fun cdv A outer s H vs Q E hr h => ⟨_, (pss_one (ps_ret (pe_op op_add (pe_op op_add (pe_op op_add (pe_gc rfl T.mROOM_OF_ANY) (pe_callB call_len_seq (by rfl) T.len PySem.boot_len (pa_cons (pe_fld (pv 0) rfl) pa_nil))) (pe_fld (pv 0) rfl)) (pe_op op_mul (pe_fld (pv 0) rfl) (pe_fld (pv 0) rfl))))), ?_⟩)
  obtain ⟨-, p, f, dx, n, ct, rc, rs, rfl, o, hl, k⟩ := h
  exact (sa_ret (ev_op (ev_op (ev_op (ev_n 32) (ev_is (ev_lenR (er_old (ev_fld (ev_var rfl) o.ob T.clCF T.nCF_name (ff_name ..)) o.nm)) (by rw [bl_len])) rv_add) (ev_fld (ev_var rfl) o.ob T.clCF T.nCF_size (ff_size ..)) rv_add)
    (ev_op (ev_fld (ev_var rfl) o.ob T.clCF T.nCF_length (ff_length ..)) (ev_fld (ev_var rfl) o.ob T.clCF T.nCF_most (ff_most ..)) (rv_mul hl)) rv_add) k).go
theorem ok_field (T : Tx K mg CF CS CC CR RN) {f : Addr} {fd : FuncData} (F : C8.Def K mg "field" s_field f fd) (b : Binds K fd ["mark", "content"] [])  :
    C8.Cal P w K mg base 1 "field" sp_field [] := by
  have S := sc_field
  refine C8.cal0 F b .nil S (fun vs H Q E h => h.1) (fun cdv A outer s H vs Q E hr h => ⟨_, (pss_one (ps_ret (pe_op op_cat (pe_lst (pa_cons (pv 0) (pa_cons (pe_callB call_len_seq (by rfl) T.len PySem.boot_len (pa_cons (pv 1) pa_nil)) pa_nil))) (pv 1)))), ?_⟩)
  obtain ⟨-, m, a, l, rfl, ha, hl, k⟩ := h
  refine (sa_retL (el_cat (er_new (el_lst (ea_cons (ev_var rfl) (ea_cons (ev_lenR (er_old (ev_var rfl) ha)) ea_nil)) (by show 2 ≤ 100000; decide))) (er_old (ev_var rfl) ha) ?_) ?_).go
  · rw [bl_len]
    show 2 + l.length ≤ 2 ^ 24
    omega
  · rw [bl_len]
    exact k
theorem ok_kind_field (T : Tx K mg CF CS CC CR RN) {f : Addr} {fd : FuncData} (F : C8.Def K mg "kind_field" s_kind_field f fd) (b : Binds K fd ["file"] []) (c_holds_records : C8.Cal P w K mg base 1 "holds_records" sp_holds_records []) (c_field : C8.Cal P w K mg base 1 "field" sp_field []) :
    C8.Cal P w K mg base 2 "kind_field" (sp_kind_field CF) [] := by
  have S := sc_kind_field
  refine C8.cal0 F b .nil S (fun vs H Q E h => h.1) (fun cdv A outer s H vs Q E hr h => ⟨_, (pss_cons (ps_set (i := 1) S.nd rfl (Or.inl rfl) (pe_lst (pa_cons (pe_fld (pv 0) rfl) pa_nil)))
    (pss_cons (ps_if (pt_val (pe_c c_holds_records hr (by decide) rfl (pa_cons (pe_fld (pv 0) rfl) pa_nil))) (pss_one (ps_set (i := 1) S.nd rfl (Or.inl rfl) (pe_lst (pa_cons (pe_fld (pv 0) rfl) (pa_cons (pe_gc rfl T.mRECORD_WAY) (pa_cons pe_int (pa_cons (pe_fld (pv 0) rfl) (pa_cons (pe_callB call_len_seq (by rfl) T.len PySem.boot_len (pa_cons (pe_fld (pv 0) rfl) pa_nil)) pa_nil)))))))) pss_nil)
    (pss_one (ps_ret (pe_c c_field hr (by decide) rfl (pa_cons (pe_gc rfl T.mKIND_MARK) (pa_cons (pv 1) pa_nil))))))), ?_⟩)
  obtain ⟨-, p, f, dx, n, ct, rc, rs, rfl, o, k⟩ := h
  refine Sat.go ?_
  refine sa_setL (el_lst (ea_cons (ev_fld (ev_var rfl) o.ob T.clCF T.nCF_kind (ff_kind ..)) ea_nil) (by show 1 ≤ 100000; decide)) fun q H1 hq e1 h1 => ?_
  have o := o.mono e1
  refine sa_when (et_B (ev_holds_records (ev_fld (ev_var rfl) o.ob T.clCF T.nCF_kind (ff_kind ..)))) (fun hb => ?_) (fun hb => ?_)
  · refine fun H2 e2 => s_asgL (EvL.mono e2 (el_lst (ea_cons (ev_fld (ev_var rfl) o.ob T.clCF T.nCF_kind (ff_kind ..)) (ea_cons (ev_n 33) (ea_cons (ev_n 0) (ea_cons (ev_fld (ev_var rfl) o.ob T.clCF T.nCF_length (ff_length ..)) (ea_cons (ev_lenR (er_old (ev_fld (ev_var rfl) o.ob T.clCF T.nCF_records (ff_records ..)) o.rc)) ea_nil))))) (by show 5 ≤ 100000; decide))) fun q2 H3 hq2 e3 h3 => ?_
    refine (sa_retL (el_field (l := [f.kind, 33, 0, f.length, f.records.length]) (ev_n 130) (er_old (ev_var rfl) ?_) (by show 5 ≤ 1000; decide)) ?_).go
    · rw [h3, List.length_map, o.len]
      rfl
    · intro p2 H4 h4 e4 h5
      refine k p2 H4 (fresh_back (e1.trans (e2.trans e3)) h4) ((e1.trans (e2.trans e3)).trans e4) ?_
      rw [h5]
      unfold saidK
      rw [if_pos (by unfold recKind at hb; simpa using hb)]
      rfl
  · refine sa_next ?_
    refine sa_retL (el_field (l := [f.kind]) (ev_n 130) (er_old (ev_var rfl) h1) (by show 1 ≤ 1000; decide)) ?_
    intro p2 H4 h4 e4 h5
    refine k p2 H4 (fresh_back e1 h4) (e1.trans e4) ?_
    rw [h5]
    unfold saidK
    rw [if_neg (by unfold recKind at hb; simpa using hb)]
    rfl
theorem ok_said_of (T : Tx K mg CF CS CC CR RN) {f : Addr} {fd : FuncData} (F : C8.Def K mg "said_of" s_said_of f fd) (b : Binds K fd ["file"] []) (c_field : C8.Cal P w K mg base 1 "field" sp_field []) (c_kind_field : C8.Cal P w K mg base 2 "kind_field" (sp_kind_field CF) []) (c_two_bytes : C8.Cal P w K mg base 1 "two_bytes" sp_two_bytes []) :
    C8.Cal P w K mg base 3 "said_of" (sp_said_of CF) [] := by
  have S := sc_said_of
  refine C8.cal0 F b .nil S (fun vs H Q E h => h.1) (fun cdv A outer s H vs Q E hr h => ⟨_, (pss_cons (ps_set (i := 1) S.nd rfl (Or.inl rfl) (pe_op op_cat (pe_c c_kind_field hr (by decide) rfl (pa_cons (pv 0) pa_nil)) (pe_c c_field hr (by decide) rfl (pa_cons (pe_gc rfl T.mNUMBER_MARK) (pa_cons (pe_c c_two_bytes hr (by decide) rfl (pa_cons (pe_fld (pv 0) rfl) pa_nil)) pa_nil)))))
    (pss_cons (ps_if (pt_cmpR op_eq (pe_fld (pv 0) rfl) (pe_gc rfl T.mBYTES) (nomark _)) (pss_one (ps_expr (pe_bm PySem.F.plainAttrs_list PySem.F.slot_list_extend PySem.F.type_list_extend mt_extend (pv 1) (pa_cons (pe_c c_field hr (by decide) rfl (pa_cons (pe_gc rfl T.mSIZE_MARK) (pa_cons (pe_c c_two_bytes hr (by decide) rfl (pa_cons (pe_fld (pv 0) rfl) pa_nil)) pa_nil))) pa_nil)))) pss_nil)
    (pss_cons (ps_if (pt_cmpR op_gt (pe_callB call_len_seq (by rfl) T.len PySem.boot_len (pa_cons (pe_fld (pv 0) rfl) pa_nil)) pe_int (nomark _)) (pss_one (ps_expr (pe_bm PySem.F.plainAttrs_list PySem.F.slot_list_extend PySem.F.type_list_extend mt_extend (pv 1) (pa_cons (pe_c c_field hr (by decide) rfl (pa_cons (pe_gc rfl T.mNAME_MARK) (pa_cons (pe_fld (pv 0) rfl) pa_nil))) pa_nil)))) pss_nil)
    (pss_cons (ps_if (pt_cmpR op_ne (pe_fld (pv 0) rfl) (pe_gc rfl T.mNO_SHORT) (nomark _)) (pss_one (ps_expr (pe_bm PySem.F.plainAttrs_list PySem.F.slot_list_extend PySem.F.type_list_extend mt_extend (pv 1) (pa_cons (pe_c c_field hr (by decide) rfl (pa_cons (pe_gc rfl T.mSHORT_MARK) (pa_cons (pe_lst (pa_cons (pe_fld (pv 0) rfl) pa_nil)) pa_nil))) pa_nil)))) pss_nil)
    (pss_cons (ps_expr (pe_bm PySem.F.plainAttrs_list PySem.F.slot_list_extend PySem.F.type_list_extend mt_extend (pv 1) (pa_cons (pe_c c_field hr (by decide) rfl (pa_cons (pe_gc rfl T.mRIGHTS_MARK) (pa_cons (pe_lst (pa_cons (pe_fld (pv 0) rfl) (pa_cons (pe_fld (pv 0) rfl) pa_nil))) pa_nil))) pa_nil)))
    (pss_one (ps_ret (pe_c c_field hr (by decide) rfl (pa_cons (pe_gc rfl T.mOUTER_MARK) (pa_cons (pv 1) pa_nil)))))))))), ?_⟩)
  obtain ⟨-, p, f, dx, n, ct, rc, rs, rfl, o, hl, k⟩ := h
  refine Sat.go ?_
  refine sa_setL (el_cat (er_new (el_kind_field (ev_var rfl) o)) (er_new (el_field (l := b2 f.number) (ev_n 131) (er_new (el_two_bytes (ev_fld (ev_var rfl) o.ob T.clCF T.nCF_number (ff_number ..)))) (by show 2 ≤ 1000; decide))) ?_) fun q H1 hq e1 h1 => ?_
  · rw [bl_len, bl_len]
    unfold saidK
    split <;> (show _ ≤ 2 ^ 24; simp)
  have hsz : (saidK f).length ≤ 7 := by
    unfold saidK
    split <;> simp
  have o1 := o.mono e1
  rw [bl_app] at h1
  refine sb_whenExt (X := saidK f ++ (131 :: (b2 f.number).length :: b2 f.number)) (Y := 128 :: (b2 f.size).length :: b2 f.size) e1 hq h1 (et_test (ev_op (ev_fld (ev_var rfl) o1.ob T.clCF T.nCF_kind (ff_kind ..)) (ev_n 1) rv_eqN)) (ev_var rfl) (fun _ => er_new (el_field (l := b2 f.size) (ev_n 128) (er_new (el_two_bytes (ev_fld (ev_var rfl) o1.ob T.clCF T.nCF_size (ff_size ..)))) (by show 2 ≤ 1000; decide))) ?_ fun H2 e2 h2 => ?_
  · simp only [List.length_append, List.length_cons, List.length_nil]; omega
  have o2 := o.mono e2
  refine sb_whenExt (Y := 132 :: f.name.length :: f.name) e2 hq h2 (et_test (ev_op (ev_is (ev_lenR (er_old (ev_fld (ev_var rfl) o2.ob T.clCF T.nCF_name (ff_name ..)) o2.nm)) (by rw [bl_len])) (ev_n 0) rv_gt)) (ev_var rfl) (fun _ => er_new (el_field (l := f.name) (ev_n 132) (er_old (ev_fld (ev_var rfl) o2.ob T.clCF T.nCF_name (ff_name ..)) o2.nm) (by omega))) ?_ fun H3 e3 h3 => ?_
  · simp only [List.length_append, List.length_cons, List.length_nil]; split <;> simp only [List.length_cons, List.length_nil] <;> omega
  have o3 := o.mono e3
  refine sb_whenExt (Y := [136, 1, f.short]) e3 hq h3 (et_test (ev_op (ev_fld (ev_var rfl) o3.ob T.clCF T.nCF_short (ff_short ..)) (ev_n 0) rv_neN)) (ev_var rfl) (fun _ => er_new (el_field (l := [f.short]) (ev_n 136) (er_new (el_lst (ea_cons (ev_fld (ev_var rfl) o3.ob T.clCF T.nCF_short (ff_short ..)) ea_nil) (by show 1 ≤ 100000; decide))) (by show 1 ≤ 1000; decide))) ?_ fun H4 e4 h4 => ?_
  · simp only [List.length_append, List.length_cons, List.length_nil]; split <;> split <;> simp only [List.length_cons, List.length_nil] <;> omega
  have o4 := o.mono e4
  refine sb_ext (Y := [140, 2, f.reading, f.writing]) e4 hq h4 (ev_var rfl) (er_new (el_field (l := [f.reading, f.writing]) (ev_n 140) (er_new (el_lst (ea_cons (ev_fld (ev_var rfl) o4.ob T.clCF T.nCF_reading (ff_reading ..)) (ea_cons (ev_fld (ev_var rfl) o4.ob T.clCF T.nCF_writing (ff_writing ..)) ea_nil)) (by show 2 ≤ 100000; decide))) (by show 2 ≤ 1000; decide))) ?_ fun H5 e5 h5 => ?_
  · simp only [List.length_append, List.length_cons, List.length_nil]; split <;> split <;> split <;> simp only [List.length_cons, List.length_nil] <;> omega
  refine sa_retL (el_field (ev_n 98) (er_old (ev_var rfl) h5) ?_) ?_
  · simp only [List.length_append, List.length_cons, List.length_nil]; split <;> split <;> split <;> simp only [List.length_cons, List.length_nil] <;> omega
  intro p2 H6 h6 e6 h7
  refine k p2 H6 (fresh_back e5 h6) (e5.trans e6) ?_
  rw [h7]
  unfold said
  simp only [decide_eq_true_eq, ne_eq]
  rfl
end
end Cc
end
section
namespace Cc
open PySem PySem.Spec PyProof.Rows L2 Evl
open C8 (pe_c pe_mk pe_mt pe_mt0 pe_gc)
open Sd27 (Card File Secret Kind Cmd isFolder)
section
variable {P : Program} {w : World} {K : PySem.W.Frag} {mg : Str → Option Value} {base : Heap} {CF CS CC CR RN : Addr}

theorem ok_File_init (T : Tx K mg CF CS CC CR RN) {f : Addr} {fd : FuncData} (M : Mk K CF f) (hm : mg "File" = some (.ref CF)) (F : C8.Fun K "__init__" "File.__init__" s_File_init f fd) (b : Binds K fd ["self", "kind", "number"] [])  :
    C8.Mak P w K mg base 1 "File" CF (sp_File_init CF) [] := by
  have S := sc_File_init
  refine C8.mak0 M hm F b .nil S (fun vs H Q E h => h.1) (fun cdv A outer s H vs Q E hr h => ⟨_, (pss_cons (ps_fld (pv 0) (pv 1) rfl)
    (pss_cons (ps_fld (pv 0) (pv 2) rfl)
    (pss_cons (ps_fld (pv 0) (pe_gc rfl T.mNO_SHORT) rfl)
    (pss_cons (ps_fld (pv 0) (pe_lst pa_nil) rfl)
    (pss_cons (ps_fld (pv 0) pe_int rfl)
    (pss_cons (ps_fld (pv 0) pe_int rfl)
    (pss_cons (ps_fld (pv 0) pe_int rfl)
    (pss_cons (ps_fld (pv 0) (pe_lst pa_nil) rfl)
    (pss_cons (ps_fld (pv 0) pe_int rfl)
    (pss_cons (ps_fld (pv 0) pe_int rfl)
    (pss_cons (ps_fld (pv 0) (pe_lst pa_nil) rfl)
    (pss_one (ps_fld (pv 0) (pe_un un_neg pe_int) rfl))))))))))))), ?_⟩)
  obtain ⟨-, p, dx, k, n, rfl, hp, q⟩ := h
  refine Sat.go ?_
  refine sa_fld hp (ev_var rfl) (ev_var rfl) T.clCF T.nCF_kind (by show 0 < 1000; decide) fun H1 k1 h1 => ?_
  refine sa_fld h1 (ev_var rfl) (ev_var rfl) T.clCF T.nCF_number (by show 1 < 1000; decide) fun H2 k2 h2 => ?_
  refine sa_fld h2 (ev_n 0) (ev_var rfl) T.clCF T.nCF_short (by show 2 < 1000; decide) fun H3 k3 h3 => ?_
  refine sa_fldL h3 (el_lst ea_nil (by decide)) (ev_var rfl) T.clCF T.nCF_name (by show 3 < 1000; decide) fun a1 H4 n1 k4 l1 h4 => ?_
  refine sa_fld h4 (ev_n 0) (ev_var rfl) T.clCF T.nCF_reading (by show 4 < 1000; decide) fun H5 k5 h5 => ?_
  refine sa_fld h5 (ev_n 0) (ev_var rfl) T.clCF T.nCF_writing (by show 5 < 1000; decide) fun H6 k6 h6 => ?_
  refine sa_fld h6 (ev_n 0) (ev_var rfl) T.clCF T.nCF_size (by show 6 < 1000; decide) fun H7 k7 h7 => ?_
  refine sa_fldL h7 (el_lst ea_nil (by decide)) (ev_var rfl) T.clCF T.nCF_content (by show 7 < 1000; decide) fun a2 H8 n2 k8 l2 h8 => ?_
  refine sa_fld h8 (ev_n 0) (ev_var rfl) T.clCF T.nCF_length (by show 8 < 1000; decide) fun H9 k9 h9 => ?_
  refine sa_fld h9 (ev_n 0) (ev_var rfl) T.clCF T.nCF_most (by show 9 < 1000; decide) fun Ha ka ha => ?_
  refine sa_fldL ha (el_lst ea_nil (by decide)) (ev_var rfl) T.clCF T.nCF_records (by show 10 < 1000; decide) fun a3 Hb n3 kb l3 hb => ?_
  refine (fld_one hb (ev_un (ev_n 1) ru_neg) (ev_var rfl) T.clCF T.nCF_folder (by show 11 < 1000; decide) fun Hc kc hc => ?_)
  have q3 : Keep p H H3 := (k1.trans k2).trans k3
  have q7 : Keep p H4 H7 := (k5.trans k6).trans k7
  have q10 : Keep p H8 Ha := k9.trans ka
  have f1 : H a1 = none := q3.fresh h3 n1
  have f2 : H a2 = none := ((q3.trans k4).trans q7).fresh h7 n2
  have f3 : H a3 = none := (((q3.trans k4).trans q7).trans (k8.trans q10)).fresh ha n3
  have d1 : a1 ≠ p := fun z => by rw [z, hp] at f1; cases f1
  have d2 : a2 ≠ p := fun z => by rw [z, hp] at f2; cases f2
  have d3 : a3 ≠ p := fun z => by rw [z, hp] at f3; cases f3
  refine q Hc a1 a2 a3 ⟨?_, ?_, ?_, ?_, rfl, fun j r w e => by simp at e⟩ f1 f2 f3 (fun z => by rw [z, (q7.trans (k8.trans q10)) _ _ l1 d1] at n3; cases n3) (fun z => by rw [z, q10 _ _ l2 d2] at n3; cases n3) ?_
  · rw [hc, ff_new]
    rfl
  · exact (q7.trans (k8.trans (q10.trans (kb.trans kc)))) _ _ l1 d1
  · exact (q10.trans (kb.trans kc)) _ _ l2 d2
  · exact kc _ _ l3 d3
  · exact (q3.trans k4).trans (q7.trans (k8.trans (q10.trans (kb.trans kc))))
theorem ok_Secret_init (T : Tx K mg CF CS CC CR RN) {f : Addr} {fd : FuncData} (M : Mk K CS f) (hm : mg "Secret" = some (.ref CS)) (F : C8.Fun K "__init__" "Secret.__init__" s_Secret_init f fd) (b : Binds K fd ["self", "word", "freer", "tries", "freer_tries"] [])  :
    C8.Mak P w K mg base 1 "Secret" CS (sp_Secret_init CS) [] := by
  have S := sc_Secret_init
  refine C8.mak0 M hm F b .nil S (fun vs H Q E h => h.1) (fun cdv A outer s H vs Q E hr h => ⟨_, (pss_cons (ps_fld (pv 0) (pv 1) rfl)
    (pss_cons (ps_fld (pv 0) (pv 2) rfl)
    (pss_cons (ps_fld (pv 0) (pv 3) rfl)
    (pss_cons (ps_fld (pv 0) (pv 3) rfl)
    (pss_cons (ps_fld (pv 0) (pv 4) rfl)
    (pss_one (ps_fld (pv 0) pe_bl rfl))))))), ?_⟩)
  obtain ⟨-, p, dx, wd, fr, wl, l, t, ft, rfl, hp, hw, hf, q⟩ := h
  refine Sat.go ?_
  refine sa_fld hp (ev_var rfl) (ev_var rfl) T.clCS T.nCS_word (by show 0 < 1000; decide) fun H1 k1 h1 => ?_
  refine sa_fld h1 (ev_var rfl) (ev_var rfl) T.clCS T.nCS_freer (by show 1 < 1000; decide) fun H2 k2 h2 => ?_
  refine sa_fld h2 (ev_var rfl) (ev_var rfl) T.clCS T.nCS_most_tries (by show 2 < 1000; decide) fun H3 k3 h3 => ?_
  refine sa_fld h3 (ev_var rfl) (ev_var rfl) T.clCS T.nCS_tries (by show 3 < 1000; decide) fun H4 k4 h4 => ?_
  refine sa_fld h4 (ev_var rfl) (ev_var rfl) T.clCS T.nCS_freer_tries (by show 4 < 1000; decide) fun H5 k5 h5 => ?_
  refine fld_one h5 ev_c (ev_var rfl) T.clCS T.nCS_told (by show 5 < 1000; decide) fun H6 k6 h6 => ?_
  have kk : Keep p H H6 := ((((k1.trans k2).trans k3).trans k4).trans k5).trans k6
  refine q H6 ⟨?_, kk _ _ hw (fun z => by rw [z, hp] at hw; cases hw), kk _ _ hf (fun z => by rw [z, hp] at hf; cases hf)⟩ kk
  rw [h6, sf_new]
  rfl
theorem ok_Request_init (T : Tx K mg CF CS CC CR RN) {f : Addr} {fd : FuncData} (M : Mk K CR f) (hm : mg "Request" = some (.ref CR)) (F : C8.Fun K "__init__" "Request.__init__" s_Request_init f fd) (b : Binds K fd ["self", "header", "data", "asked"] [])  :
    C8.Mak P w K mg base 1 "Request" CR (sp_Request_init CR) [] := by
  have S := sc_Request_init
  refine C8.mak0 M hm F b .nil S (fun vs H Q E h => h.1) (fun cdv A outer s H vs Q E hr h => ⟨_, (pss_cons (ps_fld (pv 0) (pe_ix ix_list (pv 1) pe_int (fun _ _ => rfl)) rfl)
    (pss_cons (ps_fld (pv 0) (pe_ix ix_list (pv 1) pe_int (fun _ _ => rfl)) rfl)
    (pss_cons (ps_fld (pv 0) (pe_ix ix_list (pv 1) pe_int (fun _ _ => rfl)) rfl)
    (pss_cons (ps_fld (pv 0) (pe_ix ix_list (pv 1) pe_int (fun _ _ => rfl)) rfl)
    (pss_cons (ps_fld (pv 0) (pv 2) rfl)
    (pss_one (ps_fld (pv 0) (pv 3) rfl))))))), ?_⟩)
  obtain ⟨-, p, dx, hh, d, k, rfl, hp, h0, q⟩ := h
  refine Sat.go ?_
  refine sa_fld hp (ev_ixN (i := 0) (er_old (ev_var rfl) h0) (ev_n 0) rfl) (ev_var rfl) T.clCR T.nCR_group (by show 0 < 1000; decide) fun H1 k1 h1 => ?_
  have np : hh ≠ p := fun z => by rw [z, hp] at h0; cases h0
  replace h0 := k1 _ _ h0 np
  refine sa_fld h1 (ev_ixN (i := 1) (er_old (ev_var rfl) h0) (ev_n 1) rfl) (ev_var rfl) T.clCR T.nCR_instruction (by show 1 < 1000; decide) fun H2 k2 h2 => ?_
  replace h0 := k2 _ _ h0 np
  refine sa_fld h2 (ev_ixN (i := 2) (er_old (ev_var rfl) h0) (ev_n 2) rfl) (ev_var rfl) T.clCR T.nCR_first (by show 2 < 1000; decide) fun H3 k3 h3 => ?_
  replace h0 := k3 _ _ h0 np
  refine sa_fld h3 (ev_ixN (i := 3) (er_old (ev_var rfl) h0) (ev_n 3) rfl) (ev_var rfl) T.clCR T.nCR_second (by show 3 < 1000; decide) fun H4 k4 h4 => ?_
  refine sa_fld h4 (ev_var rfl) (ev_var rfl) T.clCR T.nCR_data (by show 4 < 1000; decide) fun H5 k5 h5 => ?_
  refine fld_one h5 (ev_var rfl) (ev_var rfl) T.clCR T.nCR_asked (by show 5 < 1000; decide) fun H6 k6 h6 => ?_
  refine q H6 ?_ (((((k1.trans k2).trans k3).trans k4).trans k5).trans k6)
  rw [h6, rf_new]
  rfl
theorem ok_Request_is_plain (T : Tx K mg CF CS CC CR RN) {f : Addr} {fd : FuncData} (me : Meth K CR "is_plain" f) (F : C8.Fun K "is_plain" "Request.is_plain" s_Request_is_plain f fd) (b : Binds K fd ["self"] [])  :
    C8.Met P w K mg base 1 CR "is_plain" (sp_is_plain CR) [] := by
  have S := sc_Request_is_plain
  refine C8.met0 T.clCR me F b S (fun vs H Q E h => h.1) (fun cdv A outer s H vs Q E hr h => ⟨_, (pss_one (ps_ret (pe_and (pe_cmpR op_eq (pe_fld (pv 0) rfl) pe_int (nomark _)) (pe_one (pe_cmpR op_eq (pe_fld (pv 0) rfl) pe_int (nomark _)))))), ?_⟩)
  obtain ⟨-, q, R, k, rfl, ⟨dx, d, hq, hd, -⟩, kk⟩ := h
  exact (sa_ret (ev_andV (ev_op (ev_fld (ev_var rfl) hq T.clCR T.nCR_first (rf_first ..)) (ev_n 0) rv_eqN) fun _ => ev_op (ev_fld (ev_var rfl) hq T.clCR T.nCR_second (rf_second ..)) (ev_n 0) rv_eqN) kk).go
theorem ok_Request_brings (T : Tx K mg CF CS CC CR RN) {f : Addr} {fd : FuncData} (me : Meth K CR "brings" f) (F : C8.Fun K "brings" "Request.brings" s_Request_brings f fd) (b : Binds K fd ["self", "length"] [])  :
    C8.Met P w K mg base 1 CR "brings" (sp_brings CR) [] := by
  have S := sc_Request_brings
  refine C8.met0 T.clCR me F b S (fun vs H Q E h => h.1) (fun cdv A outer s H vs Q E hr h => ⟨_, (pss_one (ps_ret (pe_and (pe_cmpR op_eq (pe_fld (pv 0) rfl) (pe_gc rfl T.mNOTHING) (nomark _)) (pe_one (pe_cmpR op_eq (pe_callB call_len_seq (by rfl) T.len PySem.boot_len (pa_cons (pe_fld (pv 0) rfl) pa_nil)) (pv 1) (nomark _)))))), ?_⟩)
  obtain ⟨-, q, R, k, n, rfl, ⟨dx, d, hq, hd, -⟩, kk⟩ := h
  refine (sa_ret (ev_andV (ev_op (ev_fld (ev_var rfl) hq T.clCR T.nCR_asked (rf_asked ..)) (ev_n 0) rv_eqN) fun _ => ev_op (ev_is (ev_lenR (er_old (ev_fld (ev_var rfl) hq T.clCR T.nCR_data (rf_data ..)) hd)) (by rw [bl_len])) (ev_var rfl) rv_eqN) ?_).go
  exact kk
theorem ok_amount (T : Tx K mg CF CS CC CR RN) {f : Addr} {fd : FuncData} (F : C8.Def K mg "amount" s_amount f fd) (b : Binds K fd ["byte"] [])  :
    C8.Cal P w K mg base 1 "amount" sp_amount [] := by
  have S := sc_amount
  refine C8.cal0 F b .nil S (fun vs H Q E h => h.1) (fun cdv A outer s H vs Q E hr h => ⟨_, (pss_cons (ps_if (pt_cmpR op_eq (pv 0) pe_int (nomark _)) (pss_one (ps_ret (pe_gc rfl T.mALL))) pss_nil)
    (pss_one (ps_ret (pv 0)))), ?_⟩)
  obtain ⟨-, n, rfl, k⟩ := h
  refine Sat.go (sa_when (et_test (ev_op (ev_var rfl) (ev_n 0) rv_eqN)) (fun hb => sa_ret (ev_n 256) ?_) fun hb => sa_next (sa_ret (ev_var rfl) ?_))
  · have e : n = 0 := of_decide_eq_true hb
    subst e
    exact k
  · have e : ¬ n = 0 := of_decide_eq_false hb
    unfold amountOf at k
    rw [if_neg e] at k
    exact k
theorem ok_place_of (T : Tx K mg CF CS CC CR RN) {f : Addr} {fd : FuncData} (F : C8.Def K mg "place_of" s_place_of f fd) (b : Binds K fd ["request"] [])  :
    C8.Cal P w K mg base 1 "place_of" (sp_place_of CR) [] := by
  have S := sc_place_of
  refine C8.cal0 F b .nil S (fun vs H Q E h => h.1) (fun cdv A outer s H vs Q E hr h => ⟨_, (pss_cons (ps_if (pt_cmpR op_gt (pe_fld (pv 0) rfl) (pe_gc rfl T.mSHORT_BASE) (nomark _)) (pss_one (ps_ret (pe_fld (pv 0) rfl))) pss_nil)
    (pss_one (ps_ret (pe_op op_add (pe_op op_mul (pe_fld (pv 0) rfl) pe_int) (pe_fld (pv 0) rfl))))), ?_⟩)
  obtain ⟨-, q, R, k, rfl, ⟨dx, d, hq, hd, -⟩, kk⟩ := h
  refine Sat.go (sa_when (et_test (ev_op (ev_fld (ev_var rfl) hq T.clCR T.nCR_first (rf_first ..)) (ev_n 128) rv_gt)) (fun hb => sa_ret (ev_fld (ev_var rfl) hq T.clCR T.nCR_second (rf_second ..)) ?_) fun hb => sa_next (sa_ret (ev_op (ev_op (ev_fld (ev_var rfl) hq T.clCR T.nCR_first (rf_first ..)) (ev_n 256) (rv_mulR (by decide))) (ev_fld (ev_var rfl) hq T.clCR T.nCR_second (rf_second ..)) rv_add) ?_))
  · unfold placeOf at kk
    rw [if_pos (of_decide_eq_true hb)] at kk
    exact kk
  · unfold placeOf at kk
    rw [if_neg (of_decide_eq_false hb)] at kk
    exact kk
theorem ok_choice_status (T : Tx K mg CF CS CC CR RN) {f : Addr} {fd : FuncData} (F : C8.Def K mg "choice_status" s_choice_status f fd) (b : Binds K fd ["request"] [])  :
    C8.Cal P w K mg base 1 "choice_status" (sp_choice_status CR) [] := by
  have S := sc_choice_status
  refine C8.cal0 F b .nil S (fun vs H Q E h => h.1) (fun cdv A outer s H vs Q E hr h => ⟨_, (pss_cons (ps_set (i := 1) S.nd rfl (Or.inl rfl) (pe_callB call_len_seq (by rfl) T.len PySem.boot_len (pa_cons (pe_fld (pv 0) rfl) pa_nil)))
    (pss_cons (ps_if (pt_cmpR op_notIn_seq (pe_fld (pv 0) rfl) (pe_tup (pa_cons (pe_gc rfl T.mTELL) (pa_cons (pe_gc rfl T.mTELL_NOTHING) pa_nil))) (by rfl)) (pss_one (ps_ret (pe_gc rfl T.mWRONG_PARAMETERS))) pss_nil)
    (pss_cons (ps_if (pt_cmpR op_eq (pe_fld (pv 0) rfl) (pe_gc rfl T.mBY_NUMBER) (nomark _)) (pss_one (ps_set (i := 2) S.nd rfl (Or.inl rfl) (pe_cmpR op_eq (pv 1) pe_int (nomark _)))) (pss_one (ps_if (pt_cmpR op_eq (pe_fld (pv 0) rfl) (pe_gc rfl T.mBY_NAME) (nomark _)) (pss_one (ps_set (i := 2) S.nd rfl (Or.inl rfl) (pe_chain op_le op_le pe_int (pv 1) (pe_gc rfl T.mMOST_NAME)))) (pss_one (ps_if (pt_cmpR op_eq (pe_fld (pv 0) rfl) (pe_gc rfl T.mBY_PATH) (nomark _)) (pss_one (ps_set (i := 2) S.nd rfl (Or.inl rfl) (pe_and (pe_cmpR op_gt (pv 1) pe_int (nomark _)) (pe_one (pe_cmpR op_eq (pe_op op_mod (pv 1) pe_int) pe_int (nomark _)))))) (pss_one (ps_ret (pe_gc rfl T.mWRONG_PARAMETERS))))))))
    (pss_cons (ps_if (pt_val (pv 2)) (pss_one (ps_ret (pe_gc rfl T.mWELL))) pss_nil)
    (pss_one (ps_ret (pe_gc rfl T.mWRONG_LENGTH))))))), ?_⟩)
  obtain ⟨-, q, R, k, rfl, ⟨dx, d, hq, hd, -⟩, kk⟩ := h
  have f1 : ∀ {σ : L2.St}, σ[0]? = some (some (.ref q)) → Ev (tFld K (tVar 0) "first") σ H (.int (k.p1 : Int)) := fun hσ => ev_fld (ev_var hσ) hq T.clCR T.nCR_first (rf_first ..)
  refine Sat.go ?_
  refine sa_set (v := .int (k.data.length : Int)) (ev_is (ev_lenR (er_old (ev_fld (ev_var rfl) hq T.clCR T.nCR_data (rf_data ..)) hd)) (by rw [bl_len])) ?_
  refine sa_when (et_test (ev_niU (ev_fld (ev_var rfl) hq T.clCR T.nCR_second (rf_second ..)) (eu_tup (ea_cons (ev_n 0) (ea_cons (ev_n 12) ea_nil)) (by show 2 ≤ 100000; decide)) rfl rfl)) (fun hb => sa_ret (ev_n 0x6A86) ?_) fun hb => sa_next ?_
  · unfold choiceStatus at kk
    rw [if_pos (by rw [in_two] at hb; simpa using hb)] at kk
    exact kk
  have h2 : ¬ ¬ (k.p2 = 0 ∨ k.p2 = 12) := by rw [in_two] at hb; simpa using hb
  unfold choiceStatus at kk
  rw [if_neg h2] at kk
  refine sa_when (et_test (ev_op (f1 rfl) (ev_n 0) rv_eqN)) (fun hb => sa_set1 (ev_op (ev_var rfl) (ev_n 2) rv_eqN) ?_) fun hb => ?_
  · rw [if_pos (of_decide_eq_true hb)] at kk
    refine sa_when (et_B (ev_var rfl)) (fun hc => sa_ret (ev_n 0x9000) ?_) fun hc => sa_next (sa_ret (ev_n 0x6700) ?_)
    · rw [if_pos (of_decide_eq_true hc)] at kk
      exact kk
    · rw [if_neg (of_decide_eq_false hc)] at kk
      exact kk
  rw [if_neg (of_decide_eq_false hb)] at kk
  refine sa_if (et_test (ev_op (f1 rfl) (ev_n 4) rv_eqN)) (fun hb => sa_set1 (ev_chain (ev_n 1) (ev_var rfl) (ev_n 16) rv_le rv_le) ?_) fun hb => ?_
  · rw [if_pos (of_decide_eq_true hb)] at kk
    refine sa_when (et_B (ev_var rfl)) (fun hc => sa_ret (ev_n 0x9000) ?_) fun hc => sa_next (sa_ret (ev_n 0x6700) ?_)
    · rw [if_pos (by simpa using hc)] at kk
      exact kk
    · rw [if_neg (by simpa using hc)] at kk
      exact kk
  rw [if_neg (of_decide_eq_false hb)] at kk
  refine sa_if (et_test (ev_op (f1 rfl) (ev_n 8) rv_eqN)) (fun hb => sa_set1 (ev_andV (ev_op (ev_var rfl) (ev_n 0) rv_gt) fun _ => ev_op (ev_op (ev_var rfl) (ev_n 2) (rv_mod (by decide))) (ev_n 0) rv_eqN) ?_) fun hb => ?_
  · rw [if_pos (of_decide_eq_true hb)] at kk
    refine sa_when (et_B (ev_var rfl)) (fun hc => sa_ret (ev_n 0x9000) ?_) fun hc => sa_next (sa_ret (ev_n 0x6700) ?_)
    · rw [if_pos (by simpa using hc)] at kk
      exact kk
    · rw [if_neg (by simpa using hc)] at kk
      exact kk
  rw [if_neg (of_decide_eq_false hb)] at kk
  exact sa_ret (ev_n 0x6A86) kk
end
end Cc
end
section
namespace Cc
open PySem PySem.Spec PyProof.Rows L2 Evl
open C8 (pe_c pe_mk pe_mt pe_mt0 pe_gc)
open Sd27 (Card File Secret Kind Cmd isFolder)
section
variable {P : Program} {w : World} {K : PySem.W.Frag} {mg : Str → Option Value} {base : Heap} {CF CS CC CR RN : Addr}

theorem ok_Card_chosen_file (T : Tx K mg CF CS CC CR RN) {f : Addr} {fd : FuncData} (me : Meth K CC "chosen_file" f) (F : C8.Fun K "chosen_file" "Card.chosen_file" s_Card_chosen_file f fd) (b : Binds K fd ["self"] [])  :
    C8.Met P w K mg base 1 CC "chosen_file" (sp_chosen_file CF CS CC) [] := by
  have S := sc_Card_chosen_file
  refine C8.met0 T.clCC me F b S (fun vs H Q E h => h.1) (fun cdv A outer s H vs Q E hr h => ⟨_, (pss_one (ps_ret (pe_ix ix_list (pe_fld (pv 0) rfl) (pe_fld (pv 0) rfl) (fun _ _ => rfl)))), ?_⟩)
  obtain ⟨-, a, R, c, dx, sl, sd, ws, kvs, i, v, rfl, X, hi, hv, k⟩ := h
  exact (sa_ret (ev_ixN (er_old (ev_fld (ev_var rfl) X.ob T.clCC T.nCC_slots (cf_slots ..)) X.osl) (ev_is (ev_fld (ev_var rfl) X.ob T.clCC T.nCC_file (cf_file ..)) (by rw [hi]; rfl)) hv) k).go
theorem ok_Card_chosen_folder (T : Tx K mg CF CS CC CR RN) {f : Addr} {fd : FuncData} (me : Meth K CC "chosen_folder" f) (F : C8.Fun K "chosen_folder" "Card.chosen_folder" s_Card_chosen_folder f fd) (b : Binds K fd ["self"] [])  :
    C8.Met P w K mg base 1 CC "chosen_folder" (sp_chosen_folder CF CS CC) [] := by
  have S := sc_Card_chosen_folder
  refine C8.met0 T.clCC me F b S (fun vs H Q E h => h.1) (fun cdv A outer s H vs Q E hr h => ⟨_, (pss_one (ps_ret (pe_ix ix_list (pe_fld (pv 0) rfl) (pe_fld (pv 0) rfl) (fun _ _ => rfl)))), ?_⟩)
  obtain ⟨-, a, R, c, dx, sl, sd, ws, kvs, v, rfl, X, hv, k⟩ := h
  exact (sa_ret (ev_ixN (er_old (ev_fld (ev_var rfl) X.ob T.clCC T.nCC_slots (cf_slots ..)) X.osl) (ev_fld (ev_var rfl) X.ob T.clCC T.nCC_folder (cf_folder ..)) hv) k).go
theorem ok_Card_inside (T : Tx K mg CF CS CC CR RN) {f : Addr} {fd : FuncData} (me : Meth K CC "inside" f) (F : C8.Fun K "inside" "Card.inside" s_Card_inside f fd) (b : Binds K fd ["self", "folder"] [])  :
    C8.Met P w K mg base 1 CC "inside" (sp_inside CF CS CC) [] := by
  have S := sc_Card_inside
  refine C8.met0 T.clCC me F b S (fun vs H Q E h => h.1) (fun cdv A outer s H vs Q E hr h => ⟨_, (pss_cons (ps_set (i := 2) S.nd rfl (Or.inl rfl) (pe_lst pa_nil))
    (pss_cons (ps_for PassesOwn.never rfl (pi_enum (by rfl) T.enumerate (pa_cons (pe_fld (pv 0) rfl) pa_nil)) (pg_tup rfl (pgs_cons (pg_name (i := 3) S.nd rfl (Or.inl rfl)) (pgs_cons (pg_name (i := 4) S.nd rfl (Or.inl rfl)) pgs_nil))) (pss_one (ps_if (PW.pt (pw_and (pt_cmpR op_notN (pv 4) pe_non (nomark _)) (pw_and1 (pt_cmpR op_eq (pe_fld (pv 4) rfl) (pv 1) (nomark _))))) (pss_one (ps_expr (pe_bm PySem.F.plainAttrs_list PySem.F.slot_list_append PySem.F.type_list_append mt_append (pv 2) (pa_cons (pv 3) pa_nil)))) pss_nil)))
    (pss_one (ps_ret (pv 2))))), ?_⟩)
  obtain ⟨-, a, R, c, d, rfl, ⟨dx, sl, sd, ws, kvs, X⟩, g, k⟩ := h
  refine Sat.go ?_
  refine sa_setL (xs := bl []) (el_lst ea_nil (by decide)) fun l H1 hl e1 h1 => ?_
  have tst : ∀ {σ : L2.St} (i : Nat) x, ws[i]? = some x → σ[1]? = some (some (.int ((d : Nat) : Int))) → σ[4]? = some (some x) → EvT (tAnd (tTest (tOp rNN (tVar 4) (tC .non))) (tTest (tOp rEq (tFld K (tVar 4) "folder") (tVar 1)))) σ H (isIn c d i) := by
    intro σ i x hx h1 h4
    have s := X.slot i x hx
    unfold isIn
    cases hf : c.at_ i with
    | none =>
      rw [hf] at s
      have s : x = .non := s
      subst s
      exact et_is (et_and (b := false) (et_test (ev_op (ev_var h4) ev_c rv_notN)) (fun z => by simp at z)) (by simp)
    | some f =>
      rw [hf] at s
      obtain ⟨p, dx2, n, ct, rc, rs, rfl, o, r⟩ := s
      refine et_is (et_and (et_test (ev_op (ev_var h4) ev_c rv_notN)) (fun z => et_test (ev_op (ev_fld (ev_var h4) o.ob T.clCF T.nCF_folder (ff_folder ..)) (ev_var h1) (rv_eq rfl)))) ?_
      show (!decide (V.ref p = V.non) && decide (V.int (upOf i f) = V.int (d : Int))) = decide (i ≠ 0 ∧ f.up = d)
      rw [decide_eq_false (fun z => by cases z)]
      unfold upOf
      by_cases hi : i = 0
      · rw [if_pos hi, decide_eq_false (fun z => by injection z with z; omega), decide_eq_false (fun z => z.1 hi)]
        rfl
      · rw [if_neg hi]
        by_cases hu : f.up = d
        · rw [decide_eq_true (by rw [hu]), decide_eq_true ⟨hi, hu⟩]
          rfl
        · rw [decide_eq_false (fun z => hu (by injection z with z; omega)), decide_eq_false (fun z => hu z.2)]
          rfl
  refine sa_forE (ea_cons (ev_fld (ev_var rfl) (e1 _ _ X.ob) T.clCC T.nCC_slots (cf_slots ..)) ea_nil) (e1 _ _ X.osl) (fun i σ' H' => (σ'.set 3 none).set 4 none = [some (.ref a), some (.int (d : Int)), some (.ref l), none, none] ∧ Ex H H' ∧ H' l = some (.lst (bl ((List.range i).filter (isIn c d)))))
    (fun H2 e2 => ⟨rfl, e1.trans e2, e2 _ _ h1⟩) (fun i σ' H' _ ⟨_, g2, _⟩ => g2 _ _ X.osl) ?_ ?_
  · rintro i x σ' H' hx ⟨g1, g2, g3⟩
    have hlen : i < 64 := by rw [← X.wl]; exact (List.getElem?_eq_some_iff.mp hx).1
    rw [set_none2 (σ := [some (.ref a), some (.int (d : Int)), some (.ref l), none, none]) g1]
    refine sa_if ((tst i x hx rfl rfl).mono g2) (fun hb => ?_) (fun hb => ?_)
    · refine app_one (xs := bl ((List.range i).filter (isIn c d))) (v := .int (i : Int)) g2 hl g3 (ev_var rfl) (ev_var rfl) ?_ fun H3 e3 h3 => ⟨rfl, e3, ?_⟩
      · rw [bl_len]
        have := List.length_filter_le (isIn c d) (List.range i)
        rw [List.length_range] at this
        omega
      · rw [h3, List.range_succ, List.filter_append, List.filter_cons, if_pos hb, ← bl_app]
        rfl
    · refine fun H3 e3 => ⟨rfl, g2.trans e3, ?_⟩
      rw [e3 _ _ g3, List.range_succ, List.filter_append, List.filter_cons, if_neg (by rw [hb]; decide)]
      simp
  · rintro σ' H' ⟨g1, g2, g3⟩
    have h2 : σ'[2]? = some (some (.ref l)) := by
      have z := congrArg (fun τ : L2.St => τ[2]?) g1
      simp only [List.getElem?_set_ne (show 4 ≠ 2 by decide), List.getElem?_set_ne (show 3 ≠ 2 by decide)] at z
      exact z
    refine ⟨.ref l, h2, k l H' hl g2 ?_⟩
    rw [g3, X.wl]
    rfl
theorem ok_Card_find_number (T : Tx K mg CF CS CC CR RN) {f : Addr} {fd : FuncData} (me : Meth K CC "find_number" f) (F : C8.Fun K "find_number" "Card.find_number" s_Card_find_number f fd) (b : Binds K fd ["self", "folder", "number"] []) (c_Card_inside : C8.Met P w K mg base 1 CC "inside" (sp_inside CF CS CC) []) :
    C8.Met P w K mg base 2 CC "find_number" (sp_find_number CF CS CC) [] := by
  have S := sc_Card_find_number
  refine C8.met0 T.clCC me F b S (fun vs H Q E h => h.1) (fun cdv A outer s H vs Q E hr h => ⟨_, (pss_cons (ps_for PassesOwn.never rfl (pi_list (pe_mt c_Card_inside hr (by decide) (pv 0) (pa_cons (pv 1) pa_nil))) (pg_name (i := 3) S.nd rfl (Or.inl rfl)) (pss_one (ps_if (pt_cmpR op_eq (pe_fld (pe_ix ix_list (pe_fld (pv 0) rfl) (pv 3) (fun _ _ => rfl)) rfl) (pv 2) (nomark _)) (pss_one (ps_ret (pv 3))) pss_nil)))
    (pss_one (ps_ret (pe_gc rfl T.mNONE)))), ?_⟩)
  obtain ⟨-, a, R, c, d, n, rfl, hC, g, k⟩ := h
  obtain ⟨dx, sl, sd, ws, kvs, X⟩ := hC
  have hC : CardAt CF CS CC H R a c := ⟨dx, sl, sd, ws, kvs, X⟩
  unfold findNum at k
  refine Sat.go (sa_findL (el_inside (ev_var rfl) hC g (ev_var rfl)) (fun i => decide (numAt c i = n)) (fun i hi => ?_) (of_decide_eq_true rfl) (fun x hx => ?_) fun hn σ' hσ => ?_)
  · obtain ⟨f, hf, hi64⟩ := ins_at hi
    obtain ⟨p, dx2, n2, ct, rc, rs, hw, o, r⟩ := X.at_ hi64 hf
    refine et_is (et_test (ev_op (ev_fld (ev_ixN (er_old (ev_fld (ev_var rfl) X.ob T.clCC T.nCC_slots (cf_slots ..)) X.osl) (ev_var rfl) hw) o.ob T.clCF T.nCF_number (ff_number ..)) (ev_var rfl) rv_eqN)) ?_
    unfold numAt
    rw [hf]
    rfl
  · rw [hx] at k
    exact k
  · rw [hn] at k
    exact sa_ret (ev_c) k
theorem ok_Card_find_short (T : Tx K mg CF CS CC CR RN) {f : Addr} {fd : FuncData} (me : Meth K CC "find_short" f) (F : C8.Fun K "find_short" "Card.find_short" s_Card_find_short f fd) (b : Binds K fd ["self", "short"] []) (c_Card_inside : C8.Met P w K mg base 1 CC "inside" (sp_inside CF CS CC) []) :
    C8.Met P w K mg base 2 CC "find_short" (sp_find_short CF CS CC) [] := by
  have S := sc_Card_find_short
  refine C8.met0 T.clCC me F b S (fun vs H Q E h => h.1) (fun cdv A outer s H vs Q E hr h => ⟨_, (pss_cons (ps_for PassesOwn.never rfl (pi_list (pe_mt c_Card_inside hr (by decide) (pv 0) (pa_cons (pe_fld (pv 0) rfl) pa_nil))) (pg_name (i := 2) S.nd rfl (Or.inl rfl)) (pss_one (ps_if (pt_cmpR op_eq (pe_fld (pe_ix ix_list (pe_fld (pv 0) rfl) (pv 2) (fun _ _ => rfl)) rfl) (pv 1) (nomark _)) (pss_one (ps_ret (pv 2))) pss_nil)))
    (pss_one (ps_ret (pe_gc rfl T.mNONE)))), ?_⟩)
  obtain ⟨-, a, R, c, n, rfl, hC, g, k⟩ := h
  obtain ⟨dx, sl, sd, ws, kvs, X⟩ := hC
  have hC : CardAt CF CS CC H R a c := ⟨dx, sl, sd, ws, kvs, X⟩
  unfold findShort at k
  refine Sat.go (sa_findL (el_inside (ev_var rfl) hC g (ev_fld (ev_var rfl) X.ob T.clCC T.nCC_folder (cf_folder ..))) (fun i => decide (shortAt c i = n)) (fun i hi => ?_) (of_decide_eq_true rfl) (fun x hx => ?_) fun hn σ' hσ => ?_)
  · obtain ⟨f, hf, hi64⟩ := ins_at hi
    obtain ⟨p, dx2, n2, ct, rc, rs, hw, o, r⟩ := X.at_ hi64 hf
    refine et_is (et_test (ev_op (ev_fld (ev_ixN (er_old (ev_fld (ev_var rfl) X.ob T.clCC T.nCC_slots (cf_slots ..)) X.osl) (ev_var rfl) hw) o.ob T.clCF T.nCF_short (ff_short ..)) (ev_var rfl) rv_eqN)) ?_
    unfold shortAt
    rw [hf]
    rfl
  · rw [hx] at k
    exact k
  · rw [hn] at k
    exact sa_ret (ev_c) k
theorem ok_Card_free_inner (T : Tx K mg CF CS CC CR RN) {f : Addr} {fd : FuncData} (me : Meth K CC "free_inner" f) (F : C8.Fun K "free_inner" "Card.free_inner" s_Card_free_inner f fd) (b : Binds K fd ["self"] [])  :
    C8.Met P w K mg base 1 CC "free_inner" (sp_free_inner CF CS CC) [] := by
  have S := sc_Card_free_inner
  refine C8.met0 T.clCC me F b S (fun vs H Q E h => h.1) (fun cdv A outer s H vs Q E hr h => ⟨_, (pss_cons (ps_for PassesOwn.never rfl (pi_enum (by rfl) T.enumerate (pa_cons (pe_fld (pv 0) rfl) pa_nil)) (pg_tup rfl (pgs_cons (pg_name (i := 1) S.nd rfl (Or.inl rfl)) (pgs_cons (pg_name (i := 2) S.nd rfl (Or.inl rfl)) pgs_nil))) (pss_one (ps_if (pt_cmpR op_isN (pv 2) pe_non (nomark _)) (pss_one (ps_ret (pv 1))) pss_nil)))
    (pss_one (ps_ret (pe_gc rfl T.mNONE)))), ?_⟩)
  obtain ⟨-, a, R, c, rfl, ⟨dx, sl, sd, ws, kvs, X⟩, g, k⟩ := h
  unfold freeIx at k
  refine Sat.go (sa_findE (ea_cons (ev_fld (ev_var rfl) X.ob T.clCC T.nCC_slots (cf_slots ..)) ea_nil) X.osl (fun i => (c.at_ i).isNone) (fun i x hx => ?_) (of_decide_eq_true rfl) (by decide) (fun x hx => ?_) fun hn σ' hσ => ?_)
  · refine et_is (et_test (ev_op (ev_var rfl) ev_c rv_isN)) ?_
    have s := X.slot i x hx
    cases hf : c.at_ i with
    | none =>
      rw [hf] at s
      have s : x = .non := s
      subst s
      rfl
    | some f =>
      rw [hf] at s
      obtain ⟨p, _, _, _, _, _, rfl, _⟩ := s
      rfl
  · rw [X.wl] at hx
    rw [hx] at k
    exact k
  · rw [X.wl] at hn
    rw [hn] at k
    exact sa_ret (ev_c) k
theorem ok_Card_find_name (T : Tx K mg CF CS CC CR RN) {f : Addr} {fd : FuncData} (me : Meth K CC "find_name" f) (F : C8.Fun K "find_name" "Card.find_name" s_Card_find_name f fd) (b : Binds K fd ["self", "name"] [])  :
    C8.Met P w K mg base 1 CC "find_name" (sp_find_name CF CS CC) [] := by
  have S := sc_Card_find_name
  refine C8.met0 T.clCC me F b S (fun vs H Q E h => h.1) (fun cdv A outer s H vs Q E hr h => ⟨_, (pss_cons (ps_for PassesOwn.never rfl (pi_enum (by rfl) T.enumerate (pa_cons (pe_fld (pv 0) rfl) pa_nil)) (pg_tup rfl (pgs_cons (pg_name (i := 2) S.nd rfl (Or.inl rfl)) (pgs_cons (pg_name (i := 3) S.nd rfl (Or.inl rfl)) pgs_nil))) (pss_one (ps_if (PW.pt (pw_and (pt_cmpR op_notN (pv 3) pe_non (nomark _)) (pw_and (pt_cmpR op_gt (pe_callB call_len_seq (by rfl) T.len PySem.boot_len (pa_cons (pe_fld (pv 3) rfl) pa_nil)) pe_int (nomark _)) (pw_and1 (pt_cmpR (op_eqD hr.units) (pe_fld (pv 3) rfl) (pv 1) (nomark _)))))) (pss_one (ps_ret (pv 2))) pss_nil)))
    (pss_one (ps_ret (pe_gc rfl T.mNONE)))), ?_⟩)
  obtain ⟨-, a, R, c, q, nm, rfl, ⟨dx, sl, sd, ws, kvs, X⟩, g, hq, k⟩ := h
  unfold findName at k
  refine Sat.go (sa_findE (ea_cons (ev_fld (ev_var rfl) X.ob T.clCC T.nCC_slots (cf_slots ..)) ea_nil) X.osl (hasName c nm) (fun i x hx => ?_) (of_decide_eq_true rfl) (by decide) (fun x hx => ?_) fun hn σ' hσ => ?_)
  · have s := X.slot i x hx
    unfold hasName
    cases hf : c.at_ i with
    | none =>
      rw [hf] at s
      have s : x = .non := s
      subst s
      exact et_is (et_and (b := false) (et_test (ev_op (ev_var rfl) ev_c rv_notN)) (fun z => by simp at z)) (by simp)
    | some f =>
      rw [hf] at s
      obtain ⟨p, dx2, n, ct, rc, rs, rfl, o, r⟩ := s
      refine et_is (et_and (et_test (ev_op (ev_var rfl) ev_c rv_notN)) (fun z => et_and (et_test (ev_op (ev_is (ev_lenR (er_old (ev_fld (ev_var rfl) o.ob T.clCF T.nCF_name (ff_name ..)) o.nm)) (by rw [bl_len])) (ev_n 0) rv_gt)) fun _ => et_test (ev_op (ev_fld (ev_var rfl) o.ob T.clCF T.nCF_name (ff_name ..)) (ev_var rfl) (rv_eqL o.nm hq)))) ?_
      show (!decide (V.ref p = V.non) && (decide (0 < (pfOf i f).name.length) && decide ((pfOf i f).name = nm))) = _
      rw [decide_eq_false (fun z => by cases z)]
      rfl
  · rw [X.wl] at hx
    rw [hx] at k
    exact k
  · rw [X.wl] at hn
    rw [hn] at k
    exact sa_ret (ev_c) k
theorem ok_Card_clashes (T : Tx K mg CF CS CC CR RN) {f : Addr} {fd : FuncData} (me : Meth K CC "clashes" f) (F : C8.Fun K "clashes" "Card.clashes" s_Card_clashes f fd) (b : Binds K fd ["self", "file"] []) (c_Card_find_number : C8.Met P w K mg base 2 CC "find_number" (sp_find_number CF CS CC) []) (c_Card_find_name : C8.Met P w K mg base 1 CC "find_name" (sp_find_name CF CS CC) []) (c_Card_find_short : C8.Met P w K mg base 2 CC "find_short" (sp_find_short CF CS CC) []) :
    C8.Met P w K mg base 3 CC "clashes" (sp_clashes CF CS CC) [] := by
  have S := sc_Card_clashes
  refine C8.met0 T.clCC me F b S (fun vs H Q E h => h.1) (fun cdv A outer s H vs Q E hr h => ⟨_, (pss_cons (ps_if (PW.pt (pw_or (pt_cmpR op_ne (pe_mt c_Card_find_number hr (by decide) (pv 0) (pa_cons (pe_fld (pv 0) rfl) (pa_cons (pe_fld (pv 1) rfl) pa_nil))) (pe_gc rfl T.mNONE) (nomark _)) (pw_or1 (pt_cmpR op_ne (pe_mt c_Card_find_name hr (by decide) (pv 0) (pa_cons (pe_fld (pv 1) rfl) pa_nil)) (pe_gc rfl T.mNONE) (nomark _))))) (pss_one (ps_ret pe_bl)) pss_nil)
    (pss_one (ps_ret (pe_and (pe_cmpR op_ne (pe_fld (pv 1) rfl) (pe_gc rfl T.mNO_SHORT) (nomark _)) (pe_one (pe_cmpR op_ne (pe_mt c_Card_find_short hr (by decide) (pv 0) (pa_cons (pe_fld (pv 1) rfl) pa_nil)) (pe_gc rfl T.mNONE) (nomark _))))))), ?_⟩)
  obtain ⟨-, a, R, c, p, fl, dx, n, ct, rc, rs, rfl, hC, g, o, k⟩ := h
  obtain ⟨dx2, sl, sd, ws, kvs, X⟩ := hC
  have hC : CardAt CF CS CC H R a c := ⟨dx2, sl, sd, ws, kvs, X⟩
  refine Sat.go (sa_when (et_or (et_test (ev_op (ev_find_number (ev_var rfl) hC g (ev_fld (ev_var rfl) X.ob T.clCC T.nCC_folder (cf_folder ..)) (ev_fld (ev_var rfl) o.ob T.clCF T.nCF_number (ff_number ..))) ev_c rv_neOi)) fun _ => et_test (ev_op (ev_find_name (ev_var rfl) hC g (er_old (ev_fld (ev_var rfl) o.ob T.clCF T.nCF_name (ff_name ..)) o.nm)) ev_c rv_neOi)) (fun hb => sa_ret ev_c ?_) fun hb => sa_next (sa_ret (ev_andV (ev_op (ev_fld (ev_var rfl) o.ob T.clCF T.nCF_short (ff_short ..)) (ev_n 0) rv_neN) fun _ => ev_op (ev_find_short (ev_var rfl) hC g (ev_fld (ev_var rfl) o.ob T.clCF T.nCF_short (ff_short ..))) ev_c rv_neOi) ?_))
  · unfold clash at k
    rw [hb, Bool.true_or] at k
    exact k
  · unfold clash at k
    rw [hb, Bool.false_or] at k
    exact k
theorem ok_Card_allows (T : Tx K mg CF CS CC CR RN) {f : Addr} {fd : FuncData} (me : Meth K CC "allows" f) (F : C8.Fun K "allows" "Card.allows" s_Card_allows f fd) (b : Binds K fd ["self", "right"] [])  :
    C8.Met P w K mg base 1 CC "allows" (sp_allows CF CS CC) [] := by
  have S := sc_Card_allows
  refine C8.met0 T.clCC me F b S (fun vs H Q E h => h.1) (fun cdv A outer s H vs Q E hr h => have hu := L2.hu_of hr; ⟨_, (pss_cons (ps_if (PW.pt (pw_or (pt_not (pt_val (pe_fld (pv 0) rfl))) (pw_or1 (pt_cmpR op_eq (pv 1) (pe_gc rfl T.mALWAYS) (nomark _))))) (pss_one (ps_ret pe_bl)) pss_nil)
    (pss_one (ps_ret (pe_and (pe_cmp (pc_din hu (pv 1) (pe_fld (pv 0) rfl)) rfl) (pe_one (pe_fld (pe_dget hu (pe_fld (pv 0) rfl) (pv 1) (fun _ _ => rfl)) rfl)))))), ?_⟩)
  obtain ⟨-, a, R, c, r, rfl, ⟨dx, sl, sd, ws, kvs, X⟩, g, k⟩ := h
  have hmay : c.may r = ((!c.active || decide (r = 0)) || c.told.contains r) := by
    unfold Sd27.Card.may
    rw [Bool.or_assoc]
    rfl
  refine Sat.go (sa_when (et_or (et_not (et_B (ev_fld (ev_var rfl) X.ob T.clCC T.nCC_active (cf_active ..)))) fun _ => et_test (ev_op (ev_var rfl) (ev_n 0) rv_eqN)) (fun hb => sa_ret ev_c ?_) fun hb => sa_next ?_)
  · rw [hmay, hb, Bool.true_or] at k
    exact k
  rw [hmay, hb, Bool.false_or] at k
  have r0 : ¬ r = 0 := by simp at hb; exact hb.2
  by_cases h8 : r ≤ 8
  · have s := X.sec r (by omega) h8
    cases hs : c.secrets.getD (r - 1) none with
    | none =>
      rw [hs] at s
      have s : valV kvs (key r) = none := s
      refine sa_ret (ev_andV (b := false) (ev_din (ev_var rfl) (ev_fld (ev_var rfl) X.ob T.clCC T.nCC_secrets (cf_secrets ..)) X.osd) (fun z => ?_)) ?_
      · rw [show valV kvs (Sum.inl (r : Int)) = none from s] at z
        cases z
      · rw [Bool.and_false]
        have q : c.told.contains r = false := by
          rw [List.contains_eq_mem]
          refine decide_eq_false fun hm => ?_
          obtain ⟨_, _, s2, h2⟩ := g.told r hm
          rw [List.getD_eq_getElem?_getD, h2] at hs
          cases hs
        rw [q] at k
        exact k
    | some sc =>
      rw [hs] at s
      obtain ⟨p, dx2, wd, fr, e, o, ro⟩ := s
      refine sa_ret (ev_andV (ev_din (ev_var rfl) (ev_fld (ev_var rfl) X.ob T.clCC T.nCC_secrets (cf_secrets ..)) X.osd) (fun z => ev_fld (ev_dget (ev_fld (ev_var rfl) X.ob T.clCC T.nCC_secrets (cf_secrets ..)) (ev_var rfl) X.osd e) o.ob T.clCS T.nCS_told (sf_told ..))) ?_
      rw [show valV kvs (Sum.inl (r : Int)) = _ from e]
      exact k
  · have s : valV kvs (key r) = none := by
      cases e : valV kvs (key r) with
      | none => rfl
      | some v =>
        obtain ⟨kv, hm, hk⟩ := List.mem_map.mp (valV_in e)
        obtain ⟨k2, h1, h2, h3⟩ := X.keys kv hm
        rw [h3] at hk
        have z : ((k2 : Nat) : Int) = (r : Int) := Sum.inl.inj hk
        omega
    refine sa_ret (ev_andV (b := false) (ev_din (ev_var rfl) (ev_fld (ev_var rfl) X.ob T.clCC T.nCC_secrets (cf_secrets ..)) X.osd) (fun z => ?_)) ?_
    · rw [show valV kvs (Sum.inl (r : Int)) = none from s] at z
      cases z
    · rw [Bool.and_false]
      have q : c.told.contains r = false := by
        rw [List.contains_eq_mem]
        refine decide_eq_false fun hm => ?_
        have := (g.told r hm).2.1
        omega
      rw [q] at k
      exact k
theorem ok_Card_has_room_for (T : Tx K mg CF CS CC CR RN) {f : Addr} {fd : FuncData} (me : Meth K CC "has_room_for" f) (F : C8.Fun K "has_room_for" "Card.has_room_for" s_Card_has_room_for f fd) (b : Binds K fd ["self", "file"] []) (c_room_of : C8.Cal P w K mg base 1 "room_of" (sp_room_of CF) []) (c_Card_free_inner : C8.Met P w K mg base 1 CC "free_inner" (sp_free_inner CF CS CC) []) :
    C8.Met P w K mg base 2 CC "has_room_for" (sp_has_room_for CF CS CC) [] := by
  have S := sc_Card_has_room_for
  refine C8.met0 T.clCC me F b S (fun vs H Q E h => h.1) (fun cdv A outer s H vs Q E hr h => ⟨_, (pss_cons (ps_set (i := 2) S.nd rfl (Or.inl rfl) (pe_c c_room_of hr (by decide) rfl (pa_cons (pv 1) pa_nil)))
    (pss_cons (ps_for PassesOwn.never rfl (pi_list (pe_fld (pv 0) rfl)) (pg_name (i := 3) S.nd rfl (Or.inl rfl)) (pss_one (ps_if (pt_cmpR op_notN (pv 3) pe_non (nomark _)) (pss_one (ps_set (i := 2) S.nd rfl (Or.inl rfl) (pe_op op_add (pv 2) (pe_c c_room_of hr (by decide) rfl (pa_cons (pv 3) pa_nil))))) pss_nil)))
    (pss_one (ps_ret (pe_and (pe_cmpR op_le (pv 2) (pe_gc rfl T.mMOST_ROOM) (nomark _)) (pe_one (pe_cmpR op_ne (pe_mt0 c_Card_free_inner hr (by decide) (pv 0)) (pe_gc rfl T.mNONE) (nomark _)))))))), ?_⟩)
  obtain ⟨-, a, R, c, p, fl, dx, n, ct, rc, rs, rfl, hC, g, o, hl, k⟩ := h
  obtain ⟨dx2, sl, sd, ws, kvs, X⟩ := hC
  have hC : CardAt CF CS CC H R a c := ⟨dx2, sl, sd, ws, kvs, X⟩
  refine Sat.go (sa_set (ev_room_of (ev_var rfl) o hl) ?_)
  refine sa_forL (ev_fld (ev_var rfl) X.ob T.clCC T.nCC_slots (cf_slots ..)) X.osl (fun i σ' H' => σ'.set 3 none = [some (.ref a), some (.ref p), some (.int ((pfRoom fl + ((List.range i).map (roomAt c)).sum : Nat) : Int)), none] ∧ Ex H H') (fun H1 e1 => ⟨rfl, e1⟩) (fun i σ' H' _ ⟨_, e⟩ => e _ _ X.osl) ?_ ?_
  · rintro i x σ' H' hx ⟨g1, e1⟩
    rw [set_none (σ := [some (.ref a), some (.ref p), some (.int ((pfRoom fl + ((List.range i).map (roomAt c)).sum : Nat) : Int)), none]) g1]
    have sl := X.slot i x hx
    have sm : ((List.range (i + 1)).map (roomAt c)).sum = ((List.range i).map (roomAt c)).sum + roomAt c i := by
      rw [List.range_succ, List.map_append, List.sum_append]
      simp
    cases hf : c.at_ i with
    | none =>
      rw [hf] at sl
      have sl : x = .non := sl
      subst sl
      refine sa_if (et_test (ev_op (ev_var rfl) ev_c rv_notN)) (fun z => by simp at z) (fun _ => fun H2 e2 => ⟨?_, e1.trans e2⟩)
      have z : roomAt c i = 0 := by unfold roomAt; rw [hf]
      rw [sm, z]
      rfl
    | some f2 =>
      rw [hf] at sl
      obtain ⟨p2, dx3, n2, ct2, rc2, rs2, rfl, o2, r2⟩ := sl
      have fk := g.ok i f2 hf
      refine sa_if (et_test (ev_op (ev_var rfl) ev_c rv_notN)) (fun _ => sa_set1 (ev_op (ev_var rfl) (ev_room_of (ev_var rfl) (o2.mono e1) ?_) rv_add) fun H2 e2 => ⟨?_, e1.trans e2⟩) (fun z => by simp at z)
      · show kLen f2.kind < 2 ^ 64
        have := fk.len
        omega
      · have z : roomAt c i = pfRoom (pfOf i f2) := by unfold roomAt; rw [hf]
        rw [sm, z, ← Nat.add_assoc]
        rfl
  · rintro σ' H' ⟨g1, e1⟩
    have h2 : σ'[2]? = some (some (.int ((pfRoom fl + allRoom c : Nat) : Int))) := by
      have z := congrArg (fun τ : L2.St => τ[2]?) g1
      simp only [List.getElem?_set_ne (show 3 ≠ 2 by decide)] at z
      rw [z, X.wl]
      rfl
    have h0 : σ'[0]? = some (some (.ref a)) := by
      have z := congrArg (fun τ : L2.St => τ[0]?) g1
      simp only [List.getElem?_set_ne (show 3 ≠ 0 by decide)] at z
      exact z
    refine (sa_ret (ev_andV (ev_op (ev_var h2) (ev_n 16384) rv_le) fun _ => ev_op (ev_free_inner (ev_var h0) (hC.mono e1) g) ev_c rv_neOi) ?_).go
    exact fun H2 e2 => k H2 (e1.trans e2)
end
end Cc
end
section
namespace Cc
open PySem PySem.Spec PyProof.Rows L2 Evl
open C8 (pe_c pe_mk pe_mt pe_mt0 pe_gc)
open Sd27 (Card File Secret Kind Cmd isFolder)
section
variable {P : Program} {w : World} {K : PySem.W.Frag} {mg : Str → Option Value} {base : Heap} {CF CS CC CR RN : Addr}

theorem ok_may_make (T : Tx K mg CF CS CC CR RN) {f : Addr} {fd : FuncData} (F : C8.Def K mg "may_make" s_may_make f fd) (b : Binds K fd ["card"] []) (c_Card_allows : C8.Met P w K mg base 1 CC "allows" (sp_allows CF CS CC) []) (c_Card_chosen_folder : C8.Met P w K mg base 1 CC "chosen_folder" (sp_chosen_folder CF CS CC) []) :
    C8.Cal P w K mg base 2 "may_make" (sp_may_make CF CS CC) [] := by
  have S := sc_may_make
  refine C8.cal0 F b .nil S (fun vs H Q E h => h.1) (fun cdv A outer s H vs Q E hr h => ⟨_, (pss_one (ps_ret (pe_mt c_Card_allows hr (by decide) (pv 0) (pa_cons (pe_fld (pe_mt0 c_Card_chosen_folder hr (by decide) (pv 0)) rfl) pa_nil)))), ?_⟩)
  obtain ⟨-, a, R, c, rfl, hC, g, k⟩ := h
  obtain ⟨dx, sl, sd, ws, kvs, X⟩ := hC
  have hC : CardAt CF CS CC H R a c := ⟨dx, sl, sd, ws, kvs, X⟩
  obtain ⟨fo, hf, hd⟩ := g.dir
  obtain ⟨p, dx2, n, ct, rc, rs, hw, o, ro⟩ := X.at_ (at_lt g hf) hf
  refine (sa_ret (ev_allows (ev_var rfl) hC g (ev_fld (ev_chosen_folder (ev_var rfl) X hw) o.ob T.clCF T.nCF_reading (ff_reading ..))) ?_).go
  unfold mayMake at k
  rw [hf] at k
  exact k
theorem ok_is_there (T : Tx K mg CF CS CC CR RN) {f : Addr} {fd : FuncData} (F : C8.Def K mg "is_there" s_is_there f fd) (b : Binds K fd ["file", "number"] [])  :
    C8.Cal P w K mg base 1 "is_there" (sp_is_there CF) [] := by
  have S := sc_is_there
  refine C8.cal0 F b .nil S (fun vs H Q E h => h.1) (fun cdv A outer s H vs Q E hr h => ⟨_, (pss_one (ps_ret (pe_chain op_le op_le pe_int (pv 1) (pe_callB call_len_seq (by rfl) T.len PySem.boot_len (pa_cons (pe_fld (pv 0) rfl) pa_nil))))), ?_⟩)
  obtain ⟨-, p, fl, dx, n, ct, rc, rs, m, rfl, o, k⟩ := h
  exact (sa_ret (ev_chain (ev_n 1) (ev_var rfl) (ev_is (ev_lenR (er_old (ev_fld (ev_var rfl) o.ob T.clCF T.nCF_records (ff_records ..)) o.rc)) (by rw [List.length_map, o.len])) rv_le rv_le) k).go
theorem ok_is_behind_end (T : Tx K mg CF CS CC CR RN) {f : Addr} {fd : FuncData} (F : C8.Def K mg "is_behind_end" s_is_behind_end f fd) (b : Binds K fd ["file", "place"] [])  :
    C8.Cal P w K mg base 1 "is_behind_end" (sp_is_behind_end CF) [] := by
  have S := sc_is_behind_end
  refine C8.cal0 F b .nil S (fun vs H Q E h => h.1) (fun cdv A outer s H vs Q E hr h => ⟨_, (pss_one (ps_ret (pe_cmpR op_gt (pv 1) (pe_fld (pv 0) rfl) (nomark _)))), ?_⟩)
  obtain ⟨-, p, fl, dx, n, ct, rc, rs, m, rfl, o, k⟩ := h
  have k : RetV (.bl (decide (fl.size < m))) H Q := k
  exact (sa_ret (ev_op (ev_var rfl) (ev_fld (ev_var rfl) o.ob T.clCF T.nCF_size (ff_size ..)) rv_gt) k).go
theorem ok_find_near (T : Tx K mg CF CS CC CR RN) {f : Addr} {fd : FuncData} (F : C8.Def K mg "find_near" s_find_near f fd) (b : Binds K fd ["card", "number"] []) (c_Card_find_number : C8.Met P w K mg base 2 CC "find_number" (sp_find_number CF CS CC) []) (c_Card_chosen_folder : C8.Met P w K mg base 1 CC "chosen_folder" (sp_chosen_folder CF CS CC) []) :
    C8.Cal P w K mg base 3 "find_near" (sp_find_near CF CS CC) [] := by
  have S := sc_find_near
  refine C8.cal0 F b .nil S (fun vs H Q E h => h.1) (fun cdv A outer s H vs Q E hr h => ⟨_, (pss_cons (ps_if (pt_cmpR op_eq (pv 1) (pe_gc rfl T.mTOP_NUMBER) (nomark _)) (pss_one (ps_ret (pe_gc rfl T.mTOP))) pss_nil)
    (pss_cons (ps_set (i := 2) S.nd rfl (Or.inl rfl) (pe_mt c_Card_find_number hr (by decide) (pv 0) (pa_cons (pe_fld (pv 0) rfl) (pa_cons (pv 1) pa_nil))))
    (pss_cons (ps_if (pt_cmpR op_ne (pv 2) (pe_gc rfl T.mNONE) (nomark _)) (pss_one (ps_ret (pv 2))) pss_nil)
    (pss_cons (ps_set (i := 3) S.nd rfl (Or.inl rfl) (pe_fld (pe_mt0 c_Card_chosen_folder hr (by decide) (pv 0)) rfl))
    (pss_cons (ps_if (PW.pt (pw_and (pt_cmpR op_ne (pv 3) (pe_gc rfl T.mNONE) (nomark _)) (pw_and1 (pt_cmpR op_eq (pe_fld (pe_ix ix_list (pe_fld (pv 0) rfl) (pv 3) (fun _ _ => rfl)) rfl) (pv 1) (nomark _))))) (pss_one (ps_ret (pv 3))) pss_nil)
    (pss_one (ps_ret (pe_gc rfl T.mNONE)))))))), ?_⟩)
  obtain ⟨-, a, R, c, n, rfl, hC, g, k⟩ := h
  obtain ⟨dx, sl, sd, ws, kvs, X⟩ := hC
  have hC : CardAt CF CS CC H R a c := ⟨dx, sl, sd, ws, kvs, X⟩
  obtain ⟨fo, hf, hd⟩ := g.dir
  obtain ⟨p, dx2, n2, ct, rc, rs, hw, o, ro⟩ := X.at_ (at_lt g hf) hf
  unfold findNear at k
  refine Sat.go (sa_when (et_test (ev_op (ev_var rfl) (ev_n 16128) rv_eqN)) (fun hb => sa_ret (ev_n 0) ?_) fun hb => sa_next ?_)
  · rw [if_pos (of_decide_eq_true hb)] at k
    exact k
  rw [if_neg (of_decide_eq_false hb)] at k
  refine sa_set (ev_find_number (ev_var rfl) hC g (ev_fld (ev_var rfl) X.ob T.clCC T.nCC_folder (cf_folder ..)) (ev_var rfl)) ?_
  refine sa_when (et_test (ev_op (ev_var rfl) ev_c rv_neOi)) (fun hb => sa_ret (ev_var rfl) ?_) fun hb => sa_next ?_
  · cases hn : findNum c c.folder n with
    | none =>
      rw [hn] at hb
      cases hb
    | some i =>
      rw [hn] at k
      exact k
  cases hn : findNum c c.folder n with
  | some i =>
    rw [hn] at hb
    cases hb
  | none =>
    rw [hn] at k
    refine sa_set (v := .int (upOf c.folder fo)) (ev_fld (ev_chosen_folder (ev_var rfl) X hw) o.ob T.clCF T.nCF_folder (ff_folder ..)) ?_
    by_cases h0 : c.folder = 0
    · have k : RetV (.int (oi none)) H Q := by
        have z := k
        simp only [if_pos h0] at z
        exact z
      have hu : upOf c.folder fo = oi none := if_pos h0
      rw [hu]
      exact sa_when (b := false) (et_is (et_and (b := false) (et_test (ev_op (ev_var rfl) ev_c rv_neOi)) (fun z => by cases z)) rfl) (fun hb => by cases hb) fun hb => sa_next (sa_ret ev_c k)
    · have hu : upOf c.folder fo = oi (some fo.up) := if_neg h0
      rw [hu]
      obtain ⟨gf, hg, hgd⟩ := g.up _ _ hf
      obtain ⟨p3, dx3, n3, ct3, rc3, rs3, hw3, o3, ro3⟩ := X.at_ (at_lt g hg) hg
      have k : RetV (.int (oi (if numAt c fo.up = n then some fo.up else none))) H Q := by
        have z := k
        simp only [if_neg h0, hf] at z
        exact z
      have nu : numAt c fo.up = gf.id := by unfold numAt; rw [hg]; rfl
      refine sa_when (et_and (et_test (ev_op (ev_var rfl) ev_c rv_neOi)) (fun z => et_test (ev_op (ev_fld (ev_ixN (i := fo.up) (er_old (ev_fld (ev_var rfl) X.ob T.clCC T.nCC_slots (cf_slots ..)) X.osl) (ev_var rfl) hw3) o3.ob T.clCF T.nCF_number (ff_number ..)) (ev_var rfl) rv_eqN))) (fun hb => sa_ret (ev_var rfl) ?_) fun hb => sa_next (sa_ret ev_c ?_)
      · have hb : decide (gf.id = n) = true := hb
        rw [nu, if_pos (of_decide_eq_true hb)] at k
        exact k
      · have hb : decide (gf.id = n) = false := hb
        rw [nu, if_neg (of_decide_eq_false hb)] at k
        exact k
theorem ok_find_path (T : Tx K mg CF CS CC CR RN) {f : Addr} {fd : FuncData} (F : C8.Def K mg "find_path" s_find_path f fd) (b : Binds K fd ["card", "path"] []) (c_Card_find_number : C8.Met P w K mg base 2 CC "find_number" (sp_find_number CF CS CC) []) (c_number_of : C8.Cal P w K mg base 1 "number_of" sp_number_of []) :
    C8.Cal P w K mg base 3 "find_path" (sp_find_path CF CS CC) [] := by
  have S := sc_find_path
  refine C8.cal0 F b .nil S (fun vs H Q E h => h.1) (fun cdv A outer s H vs Q E hr h => ⟨_, (pss_cons (ps_set (i := 2) S.nd rfl (Or.inl rfl) (pe_gc rfl T.mTOP))
    (pss_cons (ps_for PassesOwn.never rfl (pi_range3 rfl T.range (pa_cons pe_int (pa_cons (pe_callB call_len_seq (by rfl) T.len PySem.boot_len (pa_cons (pv 1) pa_nil)) (pa_cons pe_int pa_nil)))) (pg_name (i := 3) S.nd rfl (Or.inl rfl)) (pss_cons (ps_set (i := 2) S.nd rfl (Or.inl rfl) (pe_mt c_Card_find_number hr (by decide) (pv 0) (pa_cons (pv 2) (pa_cons (pe_c c_number_of hr (by decide) rfl (pa_cons (pe_slice sl_list (pv 1) (po_some (pv 3)) (po_some (pe_op op_add (pv 3) pe_int))) pa_nil)) pa_nil))))
      (pss_one (ps_if (pt_cmpR op_eq (pv 2) (pe_gc rfl T.mNONE) (nomark _)) (pss_one (ps_ret (pe_gc rfl T.mNONE))) pss_nil))))
    (pss_one (ps_ret (pv 2))))), ?_⟩)
  obtain ⟨-, a, R, c, p, l, rfl, hC, g, hp, hl, h0, k⟩ := h
  obtain ⟨dx, sl, sd, ws, kvs, X⟩ := hC
  have hC : CardAt CF CS CC H R a c := ⟨dx, sl, sd, ws, kvs, X⟩
  refine Sat.go (sa_set (ev_n 0) ?_)
  refine sa_forR3 (ea_cons (ev_n 0) (ea_cons (ev_lenB (er_old (ev_var rfl) hp)) (ea_cons (ev_n 2) ea_nil))) hl h0 (fun i σ' H' => ∃ d : Nat, σ'.set 3 none = [some (.ref a), some (.ref p), some (.int (d : Int)), none] ∧ Ex H H' ∧ findPath c 0 l = findPath c d (l.drop (2 * i))) (fun H1 e1 => ⟨0, rfl, e1, rfl⟩) ?_ ?_
  · rintro i σ' H' hi ⟨d, g1, e3, q⟩
    have hdr : ∃ x y r, l.drop (2 * i) = x :: y :: r := by
      have : 2 ≤ (l.drop (2 * i)).length := by rw [List.length_drop]; omega
      match hh : l.drop (2 * i), this with
      | x :: y :: r, _ => exact ⟨x, y, r, rfl⟩
    obtain ⟨x, y, r, hd⟩ := hdr
    have hd2 : l.drop (2 * (i + 1)) = r := by
      rw [show 2 * (i + 1) = 2 * i + 2 by omega, ← List.drop_drop, hd]
      rfl
    rw [set_none (σ := [some (.ref a), some (.ref p), some (.int (d : Int)), none]) g1]
    refine (sa_set (ev_find_number (n := num2 ((l.drop (2 * i)).take (2 * i + 2 - 2 * i))) (ev_var rfl) (hC.mono e3) g (ev_var rfl) (ev_number_of (er_new (el_cut (er_old (ev_var rfl) (e3 _ _ hp)) (ev_var rfl) (ev_op (ev_var rfl) (ev_n 2) rv_add))) ?_)) ?_)
    · rw [hd, show 2 * i + 2 - 2 * i = 2 by omega]
      show 2 ≤ 2
      omega
    have hn2 : num2 ((l.drop (2 * i)).take (2 * i + 2 - 2 * i)) = x * 256 + y := by
      rw [hd, show 2 * i + 2 - 2 * i = 2 by omega]
      rfl
    rw [hn2]
    rw [hd] at q
    refine sa_if (et_test (ev_op (ev_var rfl) ev_c rv_eqOi)) (fun hb => sa_ret ev_c ?_) fun hb => fun H4 e4 => ?_
    · cases hn : findNum c d (x * 256 + y) with
      | some j =>
        rw [hn] at hb
        cases hb
      | none =>
        have z : findPath c 0 l = none := by rw [q, findPath, hn]
        rw [z] at k
        exact fun H5 e5 => k H5 (e3.trans e5)
    · cases hn : findNum c d (x * 256 + y) with
      | none =>
        rw [hn] at hb
        cases hb
      | some j =>
        refine ⟨j, rfl, e3.trans e4, ?_⟩
        rw [q, findPath, hn, hd2]
  · rintro σ' H' ⟨d, g1, e3, q⟩
    have h2 : σ'[2]? = some (some (.int (d : Int))) := by
      have z := congrArg (fun τ : L2.St => τ[2]?) g1
      simp only [List.getElem?_set_ne (show 3 ≠ 2 by decide)] at z
      exact z
    refine (sa_ret (ev_var h2) ?_).go
    have hd : l.drop (2 * (l.length / 2)) = [] := List.drop_of_length_le (by omega)
    rw [hd] at q
    have z : findPath c 0 l = some d := by rw [q]; rfl
    rw [z] at k
    exact fun H5 e5 => k H5 (e3.trans e5)
theorem ok_find_choice (T : Tx K mg CF CS CC CR RN) {f : Addr} {fd : FuncData} (F : C8.Def K mg "find_choice" s_find_choice f fd) (b : Binds K fd ["card", "request"] []) (c_find_path : C8.Cal P w K mg base 3 "find_path" (sp_find_path CF CS CC) []) (c_find_near : C8.Cal P w K mg base 3 "find_near" (sp_find_near CF CS CC) []) (c_Card_find_name : C8.Met P w K mg base 1 CC "find_name" (sp_find_name CF CS CC) []) (c_number_of : C8.Cal P w K mg base 1 "number_of" sp_number_of []) :
    C8.Cal P w K mg base 4 "find_choice" (sp_find_choice CF CS CC CR) [] := by
  have S := sc_find_choice
  refine C8.cal0 F b .nil S (fun vs H Q E h => h.1) (fun cdv A outer s H vs Q E hr h => ⟨_, (pss_cons (ps_if (pt_cmpR op_eq (pe_fld (pv 1) rfl) (pe_gc rfl T.mBY_NUMBER) (nomark _)) (pss_one (ps_ret (pe_c c_find_near hr (by decide) rfl (pa_cons (pv 0) (pa_cons (pe_c c_number_of hr (by decide) rfl (pa_cons (pe_fld (pv 1) rfl) pa_nil)) pa_nil))))) pss_nil)
    (pss_cons (ps_if (pt_cmpR op_eq (pe_fld (pv 1) rfl) (pe_gc rfl T.mBY_NAME) (nomark _)) (pss_one (ps_ret (pe_mt c_Card_find_name hr (by decide) (pv 0) (pa_cons (pe_fld (pv 1) rfl) pa_nil)))) pss_nil)
    (pss_one (ps_ret (pe_c c_find_path hr (by decide) rfl (pa_cons (pv 0) (pa_cons (pe_fld (pv 1) rfl) pa_nil))))))), ?_⟩)
  obtain ⟨-, a, R, c, q, R2, k, rfl, hC, g, r, hs, hl, kk⟩ := h
  obtain ⟨dx, d, hq, hd, -⟩ := id r
  unfold choiceStatus at hs
  by_cases hp2 : k.p2 = 0 ∨ k.p2 = 12
  · rw [if_neg (fun z => z hp2)] at hs
    unfold findChoice at kk
    refine Sat.go (sa_when (et_test (ev_op (ev_fld (ev_var rfl) hq T.clCR T.nCR_first (rf_first ..)) (ev_n 0) rv_eqN)) (fun hb => ?_) fun hb => sa_next ?_)
    · rw [if_pos (of_decide_eq_true hb)] at kk hs
      have h2 : k.data.length = 2 := by
        by_cases z : k.data.length = 2
        · exact z
        · rw [if_neg z] at hs
          cases hs
      exact sa_ret (ev_find_near (ev_var rfl) hC g (ev_number_of (er_old (ev_fld (ev_var rfl) hq T.clCR T.nCR_data (rf_data ..)) hd) (by omega))) kk
    rw [if_neg (of_decide_eq_false hb)] at kk hs
    refine sa_when (et_test (ev_op (ev_fld (ev_var rfl) hq T.clCR T.nCR_first (rf_first ..)) (ev_n 4) rv_eqN)) (fun hb => ?_) fun hb => sa_next ?_
    · rw [if_pos (of_decide_eq_true hb)] at kk hs
      exact sa_ret (ev_find_name (ev_var rfl) hC g (er_old (ev_fld (ev_var rfl) hq T.clCR T.nCR_data (rf_data ..)) hd)) kk
    rw [if_neg (of_decide_eq_false hb)] at kk hs
    have h8 : k.data.length % 2 = 0 := by
      by_cases z8 : k.p1 = 8
      · rw [if_pos z8] at hs
        by_cases z : 0 < k.data.length ∧ k.data.length % 2 = 0
        · exact z.2
        · rw [if_neg z] at hs
          cases hs
      · rw [if_neg z8] at hs
        cases hs
    exact sa_ret (ev_find_path (ev_var rfl) hC g (er_old (ev_fld (ev_var rfl) hq T.clCR T.nCR_data (rf_data ..)) hd) (by omega) h8) kk
  · rw [if_pos hp2] at hs
    cases hs
theorem ok_aim_at_secret (T : Tx K mg CF CS CC CR RN) {f : Addr} {fd : FuncData} (F : C8.Def K mg "aim_at_secret" s_aim_at_secret f fd) (b : Binds K fd ["request", "first", "lengths"] [])  :
    C8.Cal P w K mg base 1 "aim_at_secret" (sp_aim_at_secret CR K) [] := by
  have S := sc_aim_at_secret
  refine C8.cal0 F b .nil S (fun vs H Q E h => h.1) (fun cdv A outer s H vs Q E hr h => ⟨_, (pss_cons (ps_if (PW.pt (pw_or (pt_cmpR op_ne (pe_fld (pv 0) rfl) (pv 1) (nomark _)) (pw_or1 (pt_not (pt_chain op_le op_le pe_int (pe_fld (pv 0) rfl) (pe_gc rfl T.mMOST_SECRETS)))))) (pss_one (ps_ret (pe_gc rfl T.mWRONG_PARAMETERS))) pss_nil)
    (pss_cons (ps_if (PW.pt (pw_or (pt_cmpR op_ne (pe_fld (pv 0) rfl) (pe_gc rfl T.mNOTHING) (nomark _)) (pw_or1 (pt_cmpR op_notIn_seq (pe_callB call_len_seq (by rfl) T.len PySem.boot_len (pa_cons (pe_fld (pv 0) rfl) pa_nil)) (pv 2) (by rfl))))) (pss_one (ps_ret (pe_gc rfl T.mWRONG_LENGTH))) pss_nil)
    (pss_one (ps_ret (pe_gc rfl T.mWELL))))), ?_⟩)
  obtain ⟨-, q, R, k, first, t, ls, rfl, r, ht, kk⟩ := h
  obtain ⟨dx, d, hq, hd, -⟩ := id r
  unfold aimS at kk
  refine Sat.go (sa_when (et_or (et_test (ev_op (ev_fld (ev_var rfl) hq T.clCR T.nCR_first (rf_first ..)) (ev_var rfl) rv_neN)) fun _ => et_not (et_chain (ev_n 1) (ev_fld (ev_var rfl) hq T.clCR T.nCR_second (rf_second ..)) (ev_n 8) rv_le rv_le)) (fun hb => sa_ret (ev_n 0x6A86) ?_) fun hb => sa_next ?_)
  · rw [if_pos (by
      have z : ¬k.p1 = first ∨ k.p2 = 0 ∨ 8 < k.p2 := by simpa using hb
      omega)] at kk
    exact kk
  rw [if_neg (by simp at hb; omega)] at kk
  refine sa_when (et_or (et_test (ev_op (ev_fld (ev_var rfl) hq T.clCR T.nCR_asked (rf_asked ..)) (ev_n 0) rv_neN)) fun _ => et_test (ev_op (ev_lenB (er_old (ev_fld (ev_var rfl) hq T.clCR T.nCR_data (rf_data ..)) hd)) (ev_var rfl) (rv_niB ht))) (fun hb => sa_ret (ev_n 0x6700) ?_) fun hb => sa_next (sa_ret (ev_n 0x9000) ?_)
  · rw [if_pos (by simpa using hb)] at kk
    exact kk
  · rw [if_neg (by simpa using hb)] at kk
    exact kk
theorem ok_aim_at_known (T : Tx K mg CF CS CC CR RN) {f : Addr} {fd : FuncData} (F : C8.Def K mg "aim_at_known" s_aim_at_known f fd) (b : Binds K fd ["card", "request", "lengths"] []) (c_aim_at_secret : C8.Cal P w K mg base 1 "aim_at_secret" (sp_aim_at_secret CR K) []) :
    C8.Cal P w K mg base 2 "aim_at_known" (sp_aim_at_known CF CS CC CR K) [] := by
  have S := sc_aim_at_known
  refine C8.cal0 F b .nil S (fun vs H Q E h => h.1) (fun cdv A outer s H vs Q E hr h => have hu := L2.hu_of hr; ⟨_, (pss_cons (ps_set (i := 3) S.nd rfl (Or.inl rfl) (pe_c c_aim_at_secret hr (by decide) rfl (pa_cons (pv 1) (pa_cons pe_int (pa_cons (pv 2) pa_nil)))))
    (pss_cons (ps_if (PW.pt (pw_and (pt_cmpR op_eq (pv 3) (pe_gc rfl T.mWELL) (nomark _)) (pw_and1 (pt_cmp (pc_dnotin hu (pe_fld (pv 1) rfl) (pe_fld (pv 0) rfl)) rfl)))) (pss_one (ps_ret (pe_gc rfl T.mNO_SECRET))) pss_nil)
    (pss_one (ps_ret (pv 3))))), ?_⟩)
  obtain ⟨-, a, R, c, q, R2, k, t, ls, rfl, ⟨dx0, sl, sd, ws, kvs, X⟩, r, ht, kk⟩ := h
  obtain ⟨dx, d, hq, hd, -⟩ := id r
  unfold aimK at kk
  refine Sat.go (sa_set (ev_aim_at_secret' (ev_var rfl) r (ev_n 0) (ev_var rfl) ht) ?_)
  have hs : aimS k 0 ls = 0x9000 → (!(valV kvs (Sum.inl ((k.p2 : Nat) : Int))).isSome) = decide (secOf c k.p2 = none) := fun h9 => by
    have h18 : 1 ≤ k.p2 ∧ k.p2 ≤ 8 := by
      unfold aimS at h9
      by_cases z : 1 ≤ k.p2 ∧ k.p2 ≤ 8
      · exact z
      · rw [if_pos (Or.inr z)] at h9
        cases h9
    have s := X.sec k.p2 h18.1 h18.2
    unfold secOf
    cases e : c.secrets.getD (k.p2 - 1) none with
    | none =>
      rw [e] at s
      rw [show valV kvs (Sum.inl ((k.p2 : Nat) : Int)) = none from s]
      rfl
    | some sc =>
      rw [e] at s
      obtain ⟨p, _, _, _, e2, _⟩ := s
      rw [show valV kvs (Sum.inl ((k.p2 : Nat) : Int)) = _ from e2]
      rfl
  refine sa_when (et_and (et_test (ev_op (ev_var rfl) (ev_n 0x9000) rv_eqN)) fun z => et_is (et_B (ev_dnotin (ev_fld (ev_var rfl) hq T.clCR T.nCR_second (rf_second ..)) (ev_fld (ev_var rfl) X.ob T.clCC T.nCC_secrets (cf_secrets ..)) X.osd)) (hs (of_decide_eq_true z))) (fun hb => sa_ret (ev_n 0x6A88) ?_) fun hb => sa_next (sa_ret (ev_var rfl) ?_)
  · rw [if_pos (by simpa using hb)] at kk
    exact kk
  · rw [if_neg (by simpa using hb)] at kk
    exact kk
theorem ok_standing (T : Tx K mg CF CS CC CR RN) {f : Addr} {fd : FuncData} (F : C8.Def K mg "standing" s_standing f fd) (b : Binds K fd ["secret"] []) (c_only : C8.Cal P w K mg base 3 "only" sp_only []) :
    C8.Cal P w K mg base 4 "standing" (sp_standing CS) [] := by
  have S := sc_standing
  refine C8.cal0 F b .nil S (fun vs H Q E h => h.1) (fun cdv A outer s H vs Q E hr h => ⟨_, (pss_cons (ps_if (pt_val (pe_fld (pv 0) rfl)) (pss_one (ps_ret (pe_c c_only hr (by decide) rfl (pa_cons (pe_gc rfl T.mWELL) pa_nil)))) pss_nil)
    (pss_cons (ps_if (pt_cmpR op_eq (pe_fld (pv 0) rfl) pe_int (nomark _)) (pss_one (ps_ret (pe_c c_only hr (by decide) rfl (pa_cons (pe_gc rfl T.mNO_TRIES) pa_nil)))) pss_nil)
    (pss_one (ps_ret (pe_c c_only hr (by decide) rfl (pa_cons (pe_op op_add (pe_gc rfl T.mTRIES_LEFT) (pe_fld (pv 0) rfl)) pa_nil)))))), ?_⟩)
  obtain ⟨-, p, sc, told, dx, wd, fr, rfl, o, k⟩ := h
  unfold standOf at k
  refine Sat.go (sa_when (et_B (ev_fld (ev_var rfl) o.ob T.clCS T.nCS_told (sf_told ..))) (fun hb => sa_retL (el_only (ev_n 0x9000)) ?_) fun hb => sa_next ?_)
  · rw [if_pos hb] at k
    exact k
  rw [if_neg (by rw [hb]; decide)] at k
  refine sa_when (et_test (ev_op (ev_fld (ev_var rfl) o.ob T.clCS T.nCS_tries (sf_tries ..)) (ev_n 0) rv_eqN)) (fun hb => sa_retL (el_only (ev_n 0x6983)) ?_) fun hb => sa_next (sa_retL (el_only (ev_op (ev_n 0x63C0) (ev_fld (ev_var rfl) o.ob T.clCS T.nCS_tries (sf_tries ..)) rv_add)) ?_)
  · rw [if_pos (of_decide_eq_true hb)] at k
    exact k
  · rw [if_neg (of_decide_eq_false hb)] at k
    exact k
end
end Cc
end
section
namespace Cc
open PySem PySem.Spec PyProof.Rows L2 Evl
open C8 (pe_c pe_mk pe_mt pe_mt0 pe_gc)
open Sd27 (Card File Secret Kind Cmd isFolder)
section
variable {P : Program} {w : World} {K : PySem.W.Frag} {mg : Str → Option Value} {base : Heap} {CF CS CC CR RN : Addr}

theorem ifl1 {b : Bool} {v : Nat} : (if b = true then [v] else []).length ≤ 1 := by
  cases b <;> simp
theorem ok_right_is_right (T : Tx K mg CF CS CC CR RN) {f : Addr} {fd : FuncData} (F : C8.Def K mg "right_is_right" s_right_is_right f fd) (b : Binds K fd ["right"] [])  :
    C8.Cal P w K mg base 1 "right_is_right" sp_right_is_right [] := by
  have S := sc_right_is_right
  refine C8.cal0 F b .nil S (fun vs H Q E h => h.1) (fun cdv A outer s H vs Q E hr h => ⟨_, (pss_one (ps_ret (pe_or (pe_cmpR op_le (pv 0) (pe_gc rfl T.mMOST_RIGHT) (nomark _)) (pe_one (pe_cmpR op_eq (pv 0) (pe_gc rfl T.mNEVER) (nomark _)))))), ?_⟩)
  obtain ⟨-, r, rfl, k⟩ := h
  refine (sa_ret (ev_orV (ev_op (ev_var rfl) (ev_n 8) rv_le) fun _ => ev_op (ev_var rfl) (ev_n 15) rv_eqN) ?_).go
  exact k
theorem ok_kind_is_right (T : Tx K mg CF CS CC CR RN) {f : Addr} {fd : FuncData} (F : C8.Def K mg "kind_is_right" s_kind_is_right f fd) (b : Binds K fd ["content"] []) (c_holds_records : C8.Cal P w K mg base 1 "holds_records" sp_holds_records []) :
    C8.Cal P w K mg base 2 "kind_is_right" sp_kind_is_right [] := by
  have S := sc_kind_is_right
  refine C8.cal0 F b .nil S (fun vs H Q E h => h.1) (fun cdv A outer s H vs Q E hr h => ⟨_, (pss_cons (ps_if (pt_cmpR op_eq (pe_callB call_len_seq (by rfl) T.len PySem.boot_len (pa_cons (pv 0) pa_nil)) pe_int (nomark _)) (pss_one (ps_ret (pe_cmpR op_in_seq (pe_ix ix_list (pv 0) pe_int (fun _ _ => rfl)) (pe_tup (pa_cons (pe_gc rfl T.mFOLDER) (pa_cons (pe_gc rfl T.mBYTES) pa_nil))) (by rfl)))) pss_nil)
    (pss_cons (ps_if (PW.pt (pw_or (pt_cmpR op_ne (pe_callB call_len_seq (by rfl) T.len PySem.boot_len (pa_cons (pv 0) pa_nil)) pe_int (nomark _)) (pw_or1 (pt_not (pt_val (pe_c c_holds_records hr (by decide) rfl (pa_cons (pe_ix ix_list (pv 0) pe_int (fun _ _ => rfl)) pa_nil))))))) (pss_one (ps_ret pe_bl)) pss_nil)
    (pss_one (ps_ret (pe_and (pe_cmpR op_eq (pe_ix ix_list (pv 0) pe_int (fun _ _ => rfl)) (pe_gc rfl T.mRECORD_WAY) (nomark _)) (pe_and (pe_cmpR op_eq (pe_ix ix_list (pv 0) pe_int (fun _ _ => rfl)) pe_int (nomark _)) (pe_and (pe_cmpR op_gt (pe_ix ix_list (pv 0) pe_int (fun _ _ => rfl)) pe_int (nomark _)) (pe_one (pe_cmpR op_gt (pe_ix ix_list (pv 0) pe_int (fun _ _ => rfl)) pe_int (nomark _)))))))))), ?_⟩)
  obtain ⟨-, a, d, rfl, ha, k⟩ := h
  have ln : ∀ {σ : L2.St}, σ[0]? = some (some (.ref a)) → EvR (tVar 0) σ H (bl d) := fun hs => er_old (ev_var hs) ha
  unfold kindRight at k
  refine Sat.go (sa_when (et_test (ev_op (ev_lenB (ln rfl)) (ev_n 1) rv_eqN)) (fun hb => ?_) fun hb => sa_next ?_)
  · have h1 : d.length = 1 := of_decide_eq_true hb
    rw [if_pos h1] at k
    exact sa_ret (ev_is (ev_inU (ev_ixD (ln rfl) (ev_n 0) (by omega)) (eu_tup (ea_cons (ev_n 56) (ea_cons (ev_n 1) ea_nil)) (by show 2 ≤ 100000; decide)) rfl rfl) (congrArg V.bl (in_two _ _ _))) k
  rw [if_neg (of_decide_eq_false hb)] at k
  refine sa_when (et_or (et_test (ev_op (ev_lenB (ln rfl)) (ev_n 5) rv_neN)) fun z => et_not (et_B (ev_holds_records (ev_ixD (ln rfl) (ev_n 0) (by simp at z; omega))))) (fun hb => sa_ret ev_c ?_) fun hb => sa_next ?_
  · rw [if_pos (by simpa using hb)] at k
    exact k
  have h5 : d.length = 5 := by simp at hb; exact hb.1
  rw [if_neg (by simpa using hb)] at k
  exact sa_ret (ev_andV (ev_op (ev_ixD (ln rfl) (ev_n 1) (by omega)) (ev_n 33) rv_eqN) fun _ => ev_andV (ev_op (ev_ixD (ln rfl) (ev_n 2) (by omega)) (ev_n 0) rv_eqN) fun _ => ev_andV (ev_op (ev_ixD (ln rfl) (ev_n 3) (by omega)) (ev_n 0) rv_gt) fun _ => ev_op (ev_ixD (ln rfl) (ev_n 4) (by omega)) (ev_n 0) rv_gt) k
theorem ok_content_is_right (T : Tx K mg CF CS CC CR RN) {f : Addr} {fd : FuncData} (F : C8.Def K mg "content_is_right" s_content_is_right f fd) (b : Binds K fd ["mark", "content"] []) (c_kind_is_right : C8.Cal P w K mg base 2 "kind_is_right" sp_kind_is_right []) (c_number_of : C8.Cal P w K mg base 1 "number_of" sp_number_of []) (c_right_is_right : C8.Cal P w K mg base 1 "right_is_right" sp_right_is_right []) :
    C8.Cal P w K mg base 3 "content_is_right" sp_content_is_right [] := by
  have S := sc_content_is_right
  refine C8.cal0 F b .nil S (fun vs H Q E h => h.1) (fun cdv A outer s H vs Q E hr h => ⟨_, (pss_cons (ps_if (pt_cmpR op_eq (pv 0) (pe_gc rfl T.mKIND_MARK) (nomark _)) (pss_one (ps_ret (pe_c c_kind_is_right hr (by decide) rfl (pa_cons (pv 1) pa_nil)))) pss_nil)
    (pss_cons (ps_if (pt_cmpR op_eq (pv 0) (pe_gc rfl T.mNAME_MARK) (nomark _)) (pss_one (ps_ret (pe_chain op_le op_le pe_int (pe_callB call_len_seq (by rfl) T.len PySem.boot_len (pa_cons (pv 1) pa_nil)) (pe_gc rfl T.mMOST_NAME)))) pss_nil)
    (pss_cons (ps_if (pt_cmpR op_eq (pv 0) (pe_gc rfl T.mSHORT_MARK) (nomark _)) (pss_one (ps_ret (pe_and (pe_cmpR op_eq (pe_callB call_len_seq (by rfl) T.len PySem.boot_len (pa_cons (pv 1) pa_nil)) pe_int (nomark _)) (pe_one (pe_chain op_le op_le pe_int (pe_ix ix_list (pv 1) pe_int (fun _ _ => rfl)) (pe_gc rfl T.mMOST_SHORT)))))) pss_nil)
    (pss_cons (ps_if (pt_cmpR op_ne (pe_callB call_len_seq (by rfl) T.len PySem.boot_len (pa_cons (pv 1) pa_nil)) pe_int (nomark _)) (pss_one (ps_ret pe_bl)) pss_nil)
    (pss_cons (ps_if (pt_cmpR op_eq (pv 0) (pe_gc rfl T.mNUMBER_MARK) (nomark _)) (pss_one (ps_ret (pe_cmpR op_notIn_seq (pe_c c_number_of hr (by decide) rfl (pa_cons (pv 1) pa_nil)) (pe_gc rfl T.mRESERVED_NUMBERS) (by rfl)))) pss_nil)
    (pss_cons (ps_if (pt_cmpR op_eq (pv 0) (pe_gc rfl T.mRIGHTS_MARK) (nomark _)) (pss_one (ps_ret (pe_and (pe_c c_right_is_right hr (by decide) rfl (pa_cons (pe_ix ix_list (pv 1) pe_int (fun _ _ => rfl)) pa_nil)) (pe_one (pe_c c_right_is_right hr (by decide) rfl (pa_cons (pe_ix ix_list (pv 1) pe_int (fun _ _ => rfl)) pa_nil)))))) pss_nil)
    (pss_one (ps_ret (pe_cmpR op_eq (pv 0) (pe_gc rfl T.mSIZE_MARK) (nomark _)))))))))), ?_⟩)
  obtain ⟨-, m, a, d, rfl, ha, k⟩ := h
  have ln : ∀ {σ : L2.St}, σ[1]? = some (some (.ref a)) → EvR (tVar 1) σ H (bl d) := fun hs => er_old (ev_var hs) ha
  unfold contentRight at k
  refine Sat.go (sa_when (et_test (ev_op (ev_var rfl) (ev_n 130) rv_eqN)) (fun hb => ?_) fun hb => sa_next ?_)
  · rw [if_pos (of_decide_eq_true hb)] at k
    exact sa_ret (ev_kind_is_right (ln rfl)) k
  rw [if_neg (of_decide_eq_false hb)] at k
  refine sa_when (et_test (ev_op (ev_var rfl) (ev_n 132) rv_eqN)) (fun hb => ?_) fun hb => sa_next ?_
  · rw [if_pos (of_decide_eq_true hb)] at k
    exact sa_ret (ev_chain (ev_n 1) (ev_lenB (ln rfl)) (ev_n 16) rv_le rv_le) k
  rw [if_neg (of_decide_eq_false hb)] at k
  refine sa_when (et_test (ev_op (ev_var rfl) (ev_n 136) rv_eqN)) (fun hb => ?_) fun hb => sa_next ?_
  · rw [if_pos (of_decide_eq_true hb)] at k
    exact sa_ret (ev_andV (ev_op (ev_lenB (ln rfl)) (ev_n 1) rv_eqN) fun z => ev_chain (ev_n 1) (ev_ixD (ln rfl) (ev_n 0) (by simp at z; omega)) (ev_n 30) rv_le rv_le) k
  rw [if_neg (of_decide_eq_false hb)] at k
  refine sa_when (et_test (ev_op (ev_lenB (ln rfl)) (ev_n 2) rv_neN)) (fun hb => sa_ret ev_c ?_) fun hb => sa_next ?_
  · rw [if_pos (of_decide_eq_true hb)] at k
    exact k
  rw [if_neg (of_decide_eq_false hb)] at k
  have h2 : d.length = 2 := by simpa using hb
  refine sa_when (et_test (ev_op (ev_var rfl) (ev_n 131) rv_eqN)) (fun hb => ?_) fun hb => sa_next ?_
  · rw [if_pos (of_decide_eq_true hb)] at k
    refine sa_ret (ev_op (ev_number_of (ln rfl) (by omega)) ev_c (rv_niB (l := [16128, 65535]) (T.rn H))) ?_
    have e : (!decide (num2 d ∈ [16128, 65535])) = !(decide (num2 d = 16128) || decide (num2 d = 65535)) := by simp
    rw [e]
    exact k
  rw [if_neg (of_decide_eq_false hb)] at k
  refine sa_when (et_test (ev_op (ev_var rfl) (ev_n 140) rv_eqN)) (fun hb => ?_) fun hb => sa_next ?_
  · rw [if_pos (of_decide_eq_true hb)] at k
    exact sa_ret (ev_andV (ev_right_is_right (ev_ixD (ln rfl) (ev_n 0) (by omega))) fun _ => ev_right_is_right (ev_ixD (ln rfl) (ev_n 1) (by omega))) k
  rw [if_neg (of_decide_eq_false hb)] at k
  exact sa_ret (ev_op (ev_var rfl) (ev_n 128) rv_eqN) k
theorem ok_marks_in_order (T : Tx K mg CF CS CC CR RN) {f : Addr} {fd : FuncData} (F : C8.Def K mg "marks_in_order" s_marks_in_order f fd) (b : Binds K fd ["kind", "held"] [])  :
    C8.Cal P w K mg base 1 "marks_in_order" sp_marks_in_order [] := by
  have S := sc_marks_in_order
  refine C8.cal0 F b .nil S (fun vs H Q E h => h.1) (fun cdv A outer s H vs Q E hr h => have hu := L2.hu_of hr; ⟨_, (pss_cons (ps_set (i := 2) S.nd rfl (Or.inl rfl) (pe_lst (pa_cons (pe_gc rfl T.mKIND_MARK) (pa_cons (pe_gc rfl T.mNUMBER_MARK) pa_nil))))
    (pss_cons (ps_if (pt_cmpR op_eq (pv 0) (pe_gc rfl T.mBYTES) (nomark _)) (pss_one (ps_expr (pe_bm PySem.F.plainAttrs_list PySem.F.slot_list_append PySem.F.type_list_append mt_append (pv 2) (pa_cons (pe_gc rfl T.mSIZE_MARK) pa_nil)))) pss_nil)
    (pss_cons (ps_set (i := 3) S.nd rfl (Or.inl rfl) (pe_gc rfl T.mSHORT_MARK))
    (pss_cons (ps_if (pt_cmpR op_eq (pv 0) (pe_gc rfl T.mFOLDER) (nomark _)) (pss_one (ps_set (i := 3) S.nd rfl (Or.inl rfl) (pe_gc rfl T.mNAME_MARK))) pss_nil)
    (pss_cons (ps_if (pt_cmp (pc_din hu (pv 3) (pv 1)) rfl) (pss_one (ps_expr (pe_bm PySem.F.plainAttrs_list PySem.F.slot_list_append PySem.F.type_list_append mt_append (pv 2) (pa_cons (pv 3) pa_nil)))) pss_nil)
    (pss_cons (ps_expr (pe_bm PySem.F.plainAttrs_list PySem.F.slot_list_append PySem.F.type_list_append mt_append (pv 2) (pa_cons (pe_gc rfl T.mRIGHTS_MARK) pa_nil)))
    (pss_one (ps_ret (pv 2))))))))), ?_⟩)
  obtain ⟨-, kd, hd, kvs, hh, rfl, x, k⟩ := h
  refine Sat.go (sa_setL (xs := bl [130, 131]) (el_lst (ea_cons (ev_n 130) (ea_cons (ev_n 131) ea_nil)) (by show 2 ≤ 100000; decide)) fun l H1 hl e1 h1 => ?_)
  refine sb_whenApp (v := 128) e1 hl h1 (et_test (ev_op (ev_var rfl) (ev_n 1) rv_eqN)) (ev_var rfl) (fun _ => ev_n 128) (by decide) fun H2 e2 h2 => ?_
  refine sa_set (ev_n 136) ?_
  refine sa_ifSet (v := .int (((if kd = 56 then 132 else 136 : Nat)) : Int)) (et_test (ev_op (ev_var rfl) (ev_n 56) rv_eqN)) (fun hb => ?_) (fun hb => ?_) ?_
  · rw [if_pos (of_decide_eq_true hb)]
    exact ev_n 132
  · rw [if_neg (of_decide_eq_false hb)]
    rfl
  have hin : (valV kvs (Sum.inl (((if kd = 56 then 132 else 136 : Nat)) : Int))).isSome = (hh (if kd = 56 then 132 else 136)).isSome := by
    have z := x.2 (if kd = 56 then 132 else 136)
    cases hm : hh (if kd = 56 then 132 else 136) with
    | none =>
      rw [hm] at z
      rw [show valV kvs (Sum.inl (((if kd = 56 then 132 else 136 : Nat)) : Int)) = none from z]
      rfl
    | some d =>
      rw [hm] at z
      obtain ⟨u, h1, _⟩ := z
      rw [show valV kvs (Sum.inl (((if kd = 56 then 132 else 136 : Nat)) : Int)) = _ from h1]
      rfl
  refine sb_whenApp (v := if kd = 56 then 132 else 136) (b := (hh (if kd = 56 then 132 else 136)).isSome) e2 hl h2 (et_B (ev_is (ev_din (ev_var rfl) (ev_var rfl) (x.mono e2).1) (by rw [hin]))) (ev_var rfl) (fun _ => ev_var rfl) (by simp only [List.length_append, List.length_cons, List.length_nil]; split <;> simp only [List.length_cons, List.length_nil] <;> omega) fun H3 e3 h3 => ?_
  refine sb_app (v := 140) e3 hl h3 (ev_var rfl) (ev_n 140) (by
    have a1 := @ifl1 (decide (kd = 1)) 128
    have a2 := @ifl1 ((hh (if kd = 56 then 132 else 136)).isSome) (if kd = 56 then 132 else 136)
    simp only [List.length_append, List.length_cons, List.length_nil]
    omega) fun H4 e4 h4 => ?_
  refine fun H5 e5 => ⟨.ref l, rfl, k l H5 hl (e4.trans e5) ?_⟩
  rw [e5 _ _ h4]
  unfold marksOrder
  simp only [decide_eq_true_eq]
end
end Cc
end
section
namespace Cc
open PySem PySem.Spec PyProof.Rows L2 Evl
open C8 (pe_c pe_mk pe_mt pe_mt0 pe_gc)
open Sd27 (Card File Secret Kind Cmd isFolder)
section
variable {P : Program} {w : World} {K : PySem.W.Frag} {mg : Str → Option Value} {base : Heap} {CF CS CC CR RN : Addr}

/-- a field list behind an if -/
theorem ffs_if_short {b : Bool} {f : PF} {n ct rc : Addr} {y : Nat} : (if b = true then putF "short" (.int (y : Int)) (ffs f n ct rc) else ffs f n ct rc) = ffs (if b = true then { f with short := y } else f) n ct rc := by
  cases b
  · rfl
  · exact fp_short ..
theorem ffs_if_size {b : Bool} {f : PF} {n ct rc : Addr} {y : Nat} : (if b = true then putF "size" (.int (y : Int)) (ffs f n ct rc) else ffs f n ct rc) = ffs (if b = true then { f with size := y } else f) n ct rc := by
  cases b
  · rfl
  · exact fp_size ..
theorem ffs_if_name {b : Bool} {f : PF} {n ct rc u : Addr} {l : List Nat} : (if b = true then putF "name" (.ref u) (ffs f n ct rc) else ffs f n ct rc) = ffs (if b = true then { f with name := l } else f) (if b = true then u else n) ct rc := by
  cases b
  · rfl
  · exact fp_name ..
theorem ffs_if_rec {b : Bool} {f : PF} {n ct rc : Addr} {y z : Nat} : (if b = true then putF "most" (.int (z : Int)) (putF "length" (.int (y : Int)) (ffs f n ct rc)) else ffs f n ct rc) = ffs (if b = true then { f with length := y, most := z } else f) n ct rc := by
  cases b
  · rfl
  · show putF "most" _ (putF "length" _ _) = _
    rw [fp_length, fp_most]
    rfl
theorem ok_file_of (T : Tx K mg CF CS CC CR RN) {f : Addr} {fd : FuncData} (F : C8.Def K mg "file_of" s_file_of f fd) (b : Binds K fd ["held"] []) (c_File_init : C8.Mak P w K mg base 1 "File" CF (sp_File_init CF) []) (c_holds_records : C8.Cal P w K mg base 1 "holds_records" sp_holds_records []) (c_number_of : C8.Cal P w K mg base 1 "number_of" sp_number_of []) :
    C8.Cal P w K mg base 3 "file_of" (sp_file_of CF) [] := by
  have S := sc_file_of
  refine C8.cal0 F b .nil S (fun vs H Q E h => h.1) (fun cdv A outer s H vs Q E hr h => have hu := L2.hu_of hr; ⟨_, (pss_cons (ps_set (i := 1) S.nd rfl (Or.inl rfl) (pe_dget hu (pv 0) (pe_gc rfl T.mKIND_MARK) (fun _ _ => rfl)))
    (pss_cons (ps_set (i := 2) S.nd rfl (Or.inl rfl) (pe_mk c_File_init hr (by decide) rfl (pa_cons (pe_ix ix_list (pv 1) pe_int (fun _ _ => rfl)) (pa_cons (pe_c c_number_of hr (by decide) rfl (pa_cons (pe_dget hu (pv 0) (pe_gc rfl T.mNUMBER_MARK) (fun _ _ => rfl)) pa_nil)) pa_nil))))
    (pss_cons (ps_if (pt_cmp (pc_din hu (pe_gc rfl T.mNAME_MARK) (pv 0)) rfl) (pss_one (ps_fld (pv 2) (pe_dget hu (pv 0) (pe_gc rfl T.mNAME_MARK) (fun _ _ => rfl)) rfl)) pss_nil)
    (pss_cons (ps_if (pt_cmp (pc_din hu (pe_gc rfl T.mSHORT_MARK) (pv 0)) rfl) (pss_one (ps_fld (pv 2) (pe_ix ix_list (pe_dget hu (pv 0) (pe_gc rfl T.mSHORT_MARK) (fun _ _ => rfl)) pe_int (fun _ _ => rfl)) rfl)) pss_nil)
    (pss_cons (ps_if (pt_cmp (pc_din hu (pe_gc rfl T.mSIZE_MARK) (pv 0)) rfl) (pss_one (ps_fld (pv 2) (pe_c c_number_of hr (by decide) rfl (pa_cons (pe_dget hu (pv 0) (pe_gc rfl T.mSIZE_MARK) (fun _ _ => rfl)) pa_nil)) rfl)) pss_nil)
    (pss_cons (ps_if (pt_val (pe_c c_holds_records hr (by decide) rfl (pa_cons (pe_fld (pv 2) rfl) pa_nil))) (pss_cons (ps_fld (pv 2) (pe_ix ix_list (pv 1) pe_int (fun _ _ => rfl)) rfl)
      (pss_one (ps_fld (pv 2) (pe_ix ix_list (pv 1) pe_int (fun _ _ => rfl)) rfl))) pss_nil)
    (pss_cons (ps_fld (pv 2) (pe_ix ix_list (pe_dget hu (pv 0) (pe_gc rfl T.mRIGHTS_MARK) (fun _ _ => rfl)) pe_int (fun _ _ => rfl)) rfl)
    (pss_cons (ps_fld (pv 2) (pe_ix ix_list (pe_dget hu (pv 0) (pe_gc rfl T.mRIGHTS_MARK) (fun _ _ => rfl)) pe_int (fun _ _ => rfl)) rfl)
    (pss_one (ps_ret (pv 2))))))))))), ?_⟩)
  obtain ⟨-, hd, kvs, hh, rfl, x, ⟨kd, hk, hk1, hk5⟩, ⟨nd, hn, hn2⟩, ⟨rt, hr, hr2⟩, h136, h128, k⟩ := h
  obtain ⟨uk, vk, ok⟩ := held_get x hk
  obtain ⟨un, vn, on⟩ := held_get x hn
  obtain ⟨ur, vr, or_⟩ := held_get x hr
  have dg : ∀ {H1 : Hp} {σ : L2.St} {m : Nat} {u : Addr} {j : Int}, Ex H H1 → σ[0]? = some (some (.ref hd)) → valV kvs (Sum.inl (m : Int)) = some (.ref u) → j = (m : Int) → Ev (tDGet (tVar 0) (tC (.int j))) σ H1 (.ref u) := fun e hs hv hj => by
    subst hj
    exact ev_dget (ev_var hs) ev_c (e _ _ x.1) hv
  have di : ∀ {H1 : Hp} {σ : L2.St} (m : Nat) {j : Int}, Ex H H1 → σ[0]? = some (some (.ref hd)) → j = (m : Int) → EvT (tB (tDIn (tC (.int j)) (tVar 0))) σ H1 (hh m).isSome := fun m j e hs hj => by
    subst hj
    exact et_B (ev_is (ev_din ev_c (ev_var hs) (e _ _ x.1)) (by rw [held_is x]))
  refine Sat.go (sa_set (v := .ref uk) (dg (m := 130) (Ex.refl H) rfl vk rfl) ?_)
  refine sa_setG (P := fun v H2 => ∃ p dx a1 a2 a3, v = .ref p ∧ FObj CF H2 p (pf0 (kd.getD 0 0) (num2 nd)) dx a1 a2 a3 [] ∧ H p = none ∧ H a1 = none ∧ H a2 = none ∧ H a3 = none ∧ a3 ≠ a1 ∧ a3 ≠ a2)
    (eg_make (ep_cons (ev_ixD (er_old (ev_var rfl) ok) (ev_n 0) (by omega)) (ep_cons (ev_number_of (er_old (dg (m := 131) (Ex.refl H) rfl vn rfl) on) hn2) ep_nil)) fun vs H1 p dx e1 hvs hp hdx hne Q q => ?_) ?_
  · obtain ⟨r1, rfl, r2, rfl, rfl⟩ := hvs
    refine ⟨rfl, p, dx, kd.getD 0 0, num2 nd, rfl, upd_same, fun H2 a1 a2 a3 o f1 f2 f3 g1 g2 kp => ?_⟩
    have fr : ∀ {b : Addr}, upd (upd H1 dx (.own p)) p (.ins CF dx []) b = none → H b = none := fun {b} z => by
      by_cases c1 : b = p
      · rw [c1, upd_same] at z
        cases z
      · rw [upd_ne c1] at z
        by_cases c2 : b = dx
        · rw [c2, upd_same] at z
          cases z
        · rw [upd_ne c2] at z
          exact fresh_back e1 z
    refine q H2 (fun b o hb => kp b o (by rw [upd_ne (ne_of_none hb hp), upd_ne (ne_of_none hb hdx)]; exact hb) (ne_of_none hb hp)) ⟨p, dx, a1, a2, a3, rfl, o, fresh_back e1 hp, fr f1, fr f2, fr f3, g1, g2⟩
  rintro v H1 e1 ⟨p, dx, a1, a2, a3, rfl, o, hp, f1, f2, f3, g31, g32⟩
  have d1 : a1 ≠ p := fun z => by have y := o.nm; rw [z, o.ob] at y; cases y
  have d2 : a2 ≠ p := fun z => by have y := o.ct; rw [z, o.ob] at y; cases y
  have d3 : a3 ≠ p := fun z => by have y := o.rc; rw [z, o.ob] at y; cases y
  -- the name
  obtain ⟨un2, hun⟩ : ∃ u, ∀ d, hh 132 = some d → valV kvs (Sum.inl ((132 : Nat) : Int)) = some (.ref u) ∧ H u = some (.lst (bl d)) := by
    cases e : hh 132 with
    | none => exact ⟨p, fun d z => by cases z⟩
    | some d =>
      obtain ⟨u, q1, q2⟩ := held_get x e
      exact ⟨u, fun d2 z => by cases z; exact ⟨q1, q2⟩⟩
  refine sa_whenFld (y := .ref un2) o.ob (di 132 e1 rfl rfl) (fun hb => ?_) (ev_var rfl) T.clCF T.nCF_name (by show 12 < 1000; decide) fun H2 k2 h2 => ?_
  · obtain ⟨d, hdm⟩ := Option.isSome_iff_exists.mp hb
    exact dg (m := 132) e1 rfl (hun d hdm).1 rfl
  rw [ffs_if_name (l := (hh 132).getD [])] at h2
  have e2 : Ex H H2 := Keep.ex e1 k2 hp
  refine sa_whenFld (y := .int ((((hh 136).getD []).getD 0 0 : Nat) : Int)) h2 (di 136 e2 rfl rfl) (fun hb => ?_) (ev_var rfl) T.clCF T.nCF_short (by show 12 < 1000; decide) fun H3 k3 h3 => ?_
  · obtain ⟨d, hdm⟩ := Option.isSome_iff_exists.mp hb
    obtain ⟨u, q1, q2⟩ := held_get x hdm
    rw [hdm]
    exact ev_ixD (er_old (dg (m := 136) e2 rfl q1 rfl) (e2 _ _ q2)) (ev_n 0) (h136 d hdm)
  rw [ffs_if_short] at h3
  have e3 : Ex H H3 := Keep.ex e2 k3 hp
  refine sa_whenFld (y := .int ((num2 ((hh 128).getD []) : Nat) : Int)) h3 (di 128 e3 rfl rfl) (fun hb => ?_) (ev_var rfl) T.clCF T.nCF_size (by show 12 < 1000; decide) fun H4 k4 h4 => ?_
  · obtain ⟨d, hdm⟩ := Option.isSome_iff_exists.mp hb
    obtain ⟨u, q1, q2⟩ := held_get x hdm
    rw [hdm]
    exact ev_number_of (er_old (dg (m := 128) e3 rfl q1 rfl) (e3 _ _ q2)) (h128 d hdm)
  rw [ffs_if_size] at h4
  have e4 : Ex H H4 := Keep.ex e3 k4 hp
  obtain ⟨g4, hg4⟩ : ∃ g, g = (if (hh 128).isSome = true then { (if (hh 136).isSome = true then { (if (hh 132).isSome = true then { pf0 (kd.getD 0 0) (num2 nd) with name := (hh 132).getD [] } else pf0 (kd.getD 0 0) (num2 nd)) with short := ((hh 136).getD []).getD 0 0 } else (if (hh 132).isSome = true then { pf0 (kd.getD 0 0) (num2 nd) with name := (hh 132).getD [] } else pf0 (kd.getD 0 0) (num2 nd))) with size := num2 ((hh 128).getD []) } else (if (hh 136).isSome = true then { (if (hh 132).isSome = true then { pf0 (kd.getD 0 0) (num2 nd) with name := (hh 132).getD [] } else pf0 (kd.getD 0 0) (num2 nd)) with short := ((hh 136).getD []).getD 0 0 } else (if (hh 132).isSome = true then { pf0 (kd.getD 0 0) (num2 nd) with name := (hh 132).getD [] } else pf0 (kd.getD 0 0) (num2 nd)))) := ⟨_, rfl⟩
  rw [← hg4] at h4
  have gk : g4.kind = kd.getD 0 0 := by
    rw [hg4]
    cases (hh 128).isSome <;> cases (hh 136).isSome <;> cases (hh 132).isSome <;> rfl
  refine sa_whenFld2 (b := recKind (kd.getD 0 0)) (y := .int ((kd.getD 3 0 : Nat) : Int)) (y2 := .int ((kd.getD 4 0 : Nat) : Int)) h4 (et_is (et_B (ev_holds_records (ev_fld (ev_var rfl) h4 T.clCF T.nCF_kind (ff_kind ..)))) (by rw [gk])) (fun hb => ?_) (fun hb H5 k5 => ?_) (ev_var rfl) (fun _ => ev_var rfl) T.clCF T.nCF_length T.nCF_most (by show 12 < 900; decide) fun H5 k5 h5 => ?_
  · have := hk5 hb
    exact ev_ixD (er_old (ev_var rfl) (e4 _ _ ok)) (ev_n 3) (by omega)
  · have := hk5 hb
    exact ev_ixD (er_old (ev_var rfl) ((Keep.ex e4 k5 hp) _ _ ok)) (ev_n 4) (by omega)
  rw [ffs_if_rec] at h5
  have e5 : Ex H H5 := Keep.ex e4 k5 hp
  refine sa_fld h5 (ev_ixD (er_old (dg (m := 140) e5 rfl vr rfl) (e5 _ _ or_)) (ev_n 0) (by omega)) (ev_var rfl) T.clCF T.nCF_reading (by show 12 < 1000; decide) fun H6 k6 h6 => ?_
  rw [fp_reading] at h6
  have e6 : Ex H H6 := Keep.ex e5 k6 hp
  refine sa_fld h6 (ev_ixD (er_old (dg (m := 140) e6 rfl vr rfl) (e6 _ _ or_)) (ev_n 1) (by omega)) (ev_var rfl) T.clCF T.nCF_writing (by show 12 < 1000; decide) fun H7 k7 h7 => ?_
  rw [fp_writing] at h7
  have e7 : Ex H H7 := Keep.ex e6 k7 hp
  have kk : Keep p H1 H7 := ((((k2.trans k3).trans k4).trans k5).trans k6).trans k7
  refine sa_ret (ev_var rfl) fun H8 e8 => ?_
  have fin : ({ ({ (if recKind (kd.getD 0 0) = true then { g4 with length := kd.getD 3 0, most := kd.getD 4 0 } else g4) with reading := rt.getD 0 0 } : PF) with writing := rt.getD 1 0 } : PF) = fileOf hh := by
    unfold fileOf
    rw [hk, hr, hn, hg4]
    simp only [Option.getD_some]
    cases hh 128 <;> cases hh 136 <;> cases hh 132 <;> cases recKind (kd.getD 0 0) <;> rfl
  rw [fin] at h7
  refine k p H8 dx (if (hh 132).isSome = true then un2 else a1) a2 a3 hp ?_ f2 f3 ?_ g32 (e7.trans e8) ⟨e8 _ _ h7, ?_, e8 _ _ (kk _ _ o.ct d2), e8 _ _ (kk _ _ o.rc d3), rfl, fun j r w z => by simp at z⟩
  · cases e : hh 132 with
    | none => exact Or.inl f1
    | some d => exact Or.inr (hun d e).1
  · cases e : hh 132 with
    | none => exact g31
    | some d => exact (ne_of_none (hun d e).2 f3).symm
  · have gn : (fileOf hh).name = (hh 132).getD [] := rfl
    rw [gn]
    cases e : hh 132 with
    | none => exact e8 _ _ (kk _ _ o.nm d1)
    | some d => exact e8 _ _ (e7 _ _ (hun d e).2)
end
end Cc
end
section
namespace Cc
open PySem PySem.Spec PyProof.Rows L2 Evl
open C8 (pe_c pe_mk pe_mt pe_mt0 pe_gc)
open Sd27 (Card File Secret Kind Cmd isFolder)
section
variable {P : Program} {w : World} {K : PySem.W.Frag} {mg : Str → Option Value} {base : Heap} {CF CS CC CR RN : Addr}

theorem ok_fields_of (T : Tx K mg CF CS CC CR RN) {f : Addr} {fd : FuncData} (F : C8.Def K mg "fields_of" s_fields_of f fd) (b : Binds K fd ["given"] [])  :
    C8.Cal P w K mg base 1 "fields_of" sp_fields_of [] := by
  have S := sc_fields_of
  refine C8.cal0 F b .nil S (fun vs H Q E h => h.1) (fun cdv A outer s H vs Q E hr h => ⟨_, (pss_cons (ps_set (i := 1) S.nd rfl (Or.inl rfl) (pe_lst pa_nil))
    (pss_cons (ps_set (i := 2) S.nd rfl (Or.inl rfl) pe_int)
    (pss_cons (ps_while PassesOwn.never (pt_cmpR op_lt (pv 2) (pe_callB call_len_seq (by rfl) T.len PySem.boot_len (pa_cons (pv 0) pa_nil)) (nomark _)) (pss_cons (ps_if (pt_cmpR op_eq (pe_op op_add (pv 2) pe_int) (pe_callB call_len_seq (by rfl) T.len PySem.boot_len (pa_cons (pv 0) pa_nil)) (nomark _)) (pss_one (ps_ret (pe_lst pa_nil))) pss_nil)
      (pss_cons (ps_set (i := 3) S.nd rfl (Or.inl rfl) (pe_op op_add (pv 2) pe_int))
      (pss_cons (ps_set (i := 4) S.nd rfl (Or.inl rfl) (pe_op op_add (pv 3) (pe_ix ix_list (pv 0) (pe_op op_add (pv 2) pe_int) (fun _ _ => rfl))))
      (pss_cons (ps_if (pt_cmpR op_gt (pv 4) (pe_callB call_len_seq (by rfl) T.len PySem.boot_len (pa_cons (pv 0) pa_nil)) (nomark _)) (pss_one (ps_ret (pe_lst pa_nil))) pss_nil)
      (pss_cons (ps_expr (pe_bm PySem.F.plainAttrs_list PySem.F.slot_list_append PySem.F.type_list_append mt_append (pv 1) (pa_cons (pe_tup (pa_cons (pe_ix ix_list (pv 0) (pv 2) (fun _ _ => rfl)) (pa_cons (pe_slice sl_list (pv 0) (po_some (pv 3)) (po_some (pv 4))) pa_nil))) pa_nil)))
      (pss_one (ps_set (i := 2) S.nd rfl (Or.inl rfl) (pv 4)))))))))
    (pss_one (ps_ret (pv 1)))))), ?_⟩)
  obtain ⟨-, a, l, rfl, ha, hl, k⟩ := h
  refine Sat.go (sa_setL (xs := []) (el_lst ea_nil (by decide)) fun r H1 hr e1 h1 => sa_set (ev_n 0) ?_)
  have ha0 := ha
  replace ha := e1 _ _ ha
  have ar : a ≠ r := ne_of_none ha0 hr
  have g0 : ∀ {σ : L2.St} {H' : Hp}, σ[0]? = some (some (.ref a)) → H' a = some (.lst (bl l)) → EvR (tVar 0) σ H' (bl l) := fun hs h2 => er_old (ev_var hs) h2
  refine sa_while (fun m σ' H' => ∃ pl ts acc, m = l.length - pl ∧ pl ≤ l.length ∧ (σ'.set 3 none).set 4 none = [some (.ref a), some (.ref r), some (.int ((pl : Nat) : Int)), none, none] ∧ Keep r H1 H' ∧ H' a = some (.lst (bl l)) ∧ H' r = some (.lst (ts.map V.ref)) ∧ PairsAt H1 H' ts acc ∧ acc.length ≤ pl ∧
    fieldsAux l.length l = (fieldsAux (l.drop pl).length (l.drop pl)).map (acc ++ ·)) l.length (fun H2 e2 => ⟨0, [], [], rfl, Nat.zero_le _, rfl, .of e2, e2 _ _ ha, e2 _ _ h1, ⟨rfl, fun j t x h => by simp at h⟩, Nat.le_refl _, by
      rw [List.drop_zero]
      show _ = (fieldsAux l.length l).map fun x => [] ++ x
      simp⟩) ?_
  rintro m σ' H' ⟨pl, ts, acc, rfl, hpl, g1, kr, ha2, hr2, pr, hacc, inv⟩
  have e2 : Ex H H' := Keep.ex e1 kr hr
  have s0 : σ'[0]? = some (some (.ref a)) := by
    have z := congrArg (fun τ : L2.St => τ[0]?) g1
    simp only [List.getElem?_set_ne (show 4 ≠ 0 by decide), List.getElem?_set_ne (show 3 ≠ 0 by decide)] at z
    exact z
  have s1 : σ'[1]? = some (some (.ref r)) := by
    have z := congrArg (fun τ : L2.St => τ[1]?) g1
    simp only [List.getElem?_set_ne (show 4 ≠ 1 by decide), List.getElem?_set_ne (show 3 ≠ 1 by decide)] at z
    exact z
  have s2 : σ'[2]? = some (some (.int ((pl : Nat) : Int))) := by
    have z := congrArg (fun τ : L2.St => τ[2]?) g1
    simp only [List.getElem?_set_ne (show 4 ≠ 2 by decide), List.getElem?_set_ne (show 3 ≠ 2 by decide)] at z
    exact z
  refine ⟨_, et_test (ev_op (ev_var s2) (ev_lenB (g0 s0 ha2)) rv_lt), fun hb => ?_, fun hb => ?_⟩
  · have hlt : pl < l.length := of_decide_eq_true hb
    refine sa_when (et_test (ev_op (ev_op (ev_var s2) (ev_n 1) rv_add) (ev_lenB (g0 s0 ha2)) rv_eqN)) (fun hb => ?_) fun hb => sa_next ?_
    · have h1 : (l.drop pl).length = 1 := by
        have z : pl + 1 = l.length := of_decide_eq_true hb
        rw [List.length_drop]
        omega
      have hf : fieldsOf l = [] := by
        unfold fieldsOf
        obtain ⟨x, hx⟩ := List.length_eq_one_iff.mp h1
        rw [inv, hx]
        rfl
      rw [hf] at k
      exact sa_retL (el_lst ea_nil (by decide)) fun p H3 hp e3 h3 => retP_nil k p H3 (fresh_back e2 hp) (e2.trans e3) h3
    have hne : ¬ pl + 1 = l.length := of_decide_eq_false hb
    obtain ⟨t, n, rr, hd⟩ : ∃ t n rr, l.drop pl = t :: n :: rr := by
      have : 2 ≤ (l.drop pl).length := by rw [List.length_drop]; omega
      match hh : l.drop pl, this with
      | x :: y :: r, _ => exact ⟨x, y, r, rfl⟩
    have hp0 : l[pl]? = some t := by
      have z := congrArg (fun q : List Nat => q[0]?) hd
      simp only [List.getElem?_drop] at z
      exact z
    have hp1 : l[pl + 1]? = some n := by
      have z := congrArg (fun q : List Nat => q[1]?) hd
      simp only [List.getElem?_drop] at z
      exact z
    have hrr : l.drop (pl + 2) = rr := by
      rw [← List.drop_drop, hd]
      rfl
    have hrl : rr.length = l.length - (pl + 2) := by rw [← hrr, List.length_drop]
    refine sa_set (ev_op (ev_var s2) (ev_n 2) rv_add) ?_
    have t0 : (σ'.set 3 (some (.int ((pl + 2 : Nat) : Int))))[0]? = some (some (.ref a)) := by rw [List.getElem?_set_ne (by decide)]; exact s0
    have t2 : (σ'.set 3 (some (.int ((pl + 2 : Nat) : Int))))[2]? = some (some (.int ((pl : Nat) : Int))) := by rw [List.getElem?_set_ne (by decide)]; exact s2
    have ln : 5 = σ'.length := by
      have z := congrArg List.length g1
      simp only [List.length_set] at z
      exact z.symm
    have t3 : (σ'.set 3 (some (.int ((pl + 2 : Nat) : Int))))[3]? = some (some (.int ((pl + 2 : Nat) : Int))) := by rw [List.getElem?_set_self (by omega)]
    refine sa_set (v := .int ((pl + 2 + n : Nat) : Int)) (ev_op (ev_var t3) (ev_ixB (g0 t0 ha2) (ev_op (ev_var t2) (ev_n 1) rv_add) hp1) rv_add) ?_
    rw [set_none2 (σ := [some (.ref a), some (.ref r), some (.int ((pl : Nat) : Int)), none, none]) g1]
    refine sa_when (et_test (ev_op (ev_var rfl) (ev_lenB (g0 rfl ha2)) rv_gt)) (fun hb => ?_) fun hb => sa_next ?_
    · have hgt : l.length < pl + 2 + n := of_decide_eq_true hb
      have hf : fieldsOf l = [] := by
        unfold fieldsOf
        rw [inv, hd, fieldsAux_step, if_pos (by omega)]
        rfl
      rw [hf] at k
      exact sa_retL (el_lst ea_nil (by decide)) fun p H3 hp e3 h3 => retP_nil k p H3 (fresh_back e2 hp) (e2.trans e3) h3
    have hng : ¬ l.length < pl + 2 + n := of_decide_eq_false hb
    refine sa_seq (app_G (K := K) (xs := ts.map V.ref) hr2 (ev_var rfl) (eg_pair (ev_ixB (g0 rfl ha2) (ev_var rfl) hp0) (el_cut (m := pl + 2) (n := pl + 2 + n) (g0 rfl ha2) (ev_var rfl) (ev_var rfl))) (by rw [List.length_map, pr.len]; omega) fun v H3 e3 ⟨tt, u, hv, ht, hu, hu2, htn⟩ => ?_)
    subst hv
    refine (sa_set1 (ev_var rfl) fun H4 e4 => ?_).go
    have ua : ∀ {x : Addr} {o : HO}, H3 x = some o → x ≠ r → upd H3 r (.lst (ts.map V.ref ++ [.ref tt])) x = some o := fun h z => (upd_ne z).trans h
    have tr : tt ≠ r := fun z => by rw [z, hr2] at htn; cases htn
    have ur : u ≠ r := fun z => by rw [z, hr2] at hu; cases hu
    refine ⟨l.length - (pl + 2 + n), by omega, pl + 2 + n, ts ++ [tt], acc ++ [(t, rr.take n)], rfl, by omega, rfl, kr.trans (fun b o hb hbr => e4 _ _ (ua (e3 _ _ hb) hbr)), e4 _ _ (ua (e3 _ _ ha2) ar), ?_, ⟨?_, fun j t2 x hj hx => ?_⟩, ?_, ?_⟩
    · rw [e4 _ _ upd_same, List.map_append]
      rfl
    · rw [List.length_append, List.length_append, pr.len]
      rfl
    · by_cases hjl : j < ts.length
      · rw [List.getElem?_append_left hjl] at hj
        rw [List.getElem?_append_left (by rw [← pr.len]; exact hjl)] at hx
        obtain ⟨u2, q1, q2, q3⟩ := pr.each j t2 x hj hx
        have b1 : t2 ≠ r := fun z => by rw [z, hr2] at q1; cases q1
        have b2 : u2 ≠ r := fun z => by rw [z, h1] at q2; cases q2
        exact ⟨u2, e4 _ _ (ua (e3 _ _ q1) b1), q2, e4 _ _ (ua (e3 _ _ q3) b2)⟩
      · have hj1 : j < (ts ++ [tt]).length := (List.getElem?_eq_some_iff.mp hj).1
        rw [List.length_append] at hj1
        have hj2 : j = ts.length := by simp only [List.length_cons, List.length_nil] at hj1; omega
        subst hj2
        rw [List.getElem?_append_right (Nat.le_refl _), Nat.sub_self] at hj
        rw [List.getElem?_append_right (by rw [pr.len]; exact Nat.le_refl _), pr.len, Nat.sub_self] at hx
        have z1 : tt = t2 := Option.some.inj hj
        have z2 : (t, rr.take n) = x := Option.some.inj hx
        subst z1 z2
        refine ⟨u, e4 _ _ (ua ht tr), kr.fresh hr2 hu, e4 _ _ (ua ?_ ur)⟩
        have z : (l.drop (pl + 2)).take (pl + 2 + n - (pl + 2)) = rr.take n := by rw [hrr, show pl + 2 + n - (pl + 2) = n by omega]
        rw [hu2, z]
    · rw [List.length_append]
      simp only [List.length_cons, List.length_nil]
      omega
    · rw [inv, hd, fieldsAux_step, if_neg (by omega)]
      have hde : l.drop (pl + 2 + n) = rr.drop n := by rw [← hrr, List.drop_drop]
      rw [hde, Option.map_map]
      refine congrArg (fun f => Option.map f _) ?_
      funext q
      simp
  · have hge : ¬ pl < l.length := of_decide_eq_false hb
    have hd : l.drop pl = [] := List.drop_of_length_le (by omega)
    have hf : fieldsOf l = acc := by
      unfold fieldsOf
      rw [inv, hd]
      simp [fieldsAux]
    rw [hf] at k
    exact fun H3 e3 => ⟨.ref r, s1, k r H3 ts hr (e2.trans e3) (e3 _ _ hr2) ((pr.mono e3).back e1)⟩
end
end Cc
end
section
namespace Cc
open PySem PySem.Spec PyProof.Rows L2 Evl
open C8 (pe_c pe_mk pe_mt pe_mt0 pe_gc)
open Sd27 (Card File Secret Kind Cmd isFolder)
section
variable {P : Program} {w : World} {K : PySem.W.Frag} {mg : Str → Option Value} {base : Heap} {CF CS CC CR RN : Addr}

theorem IsPairs.ret {H H2 : Hp} {l : List (Nat × List Nat)} {v : V} {Q : VK} (k : RetP l H Q) (e : Ex H H2) (h : IsPairs H l v H2) : Q v H2 := by
  obtain ⟨p, vs, rfl, h1, h2, ts, rfl, h3⟩ := h
  exact k p H2 ts h2 e h1 h3
theorem IsPairs.back {H H1 H2 : Hp} {l : List (Nat × List Nat)} {v : V} (e : Ex H H1) (h : IsPairs H1 l v H2) : IsPairs H l v H2 := by
  obtain ⟨p, vs, rfl, h1, h2, ts, rfl, h3⟩ := h
  exact ⟨p, _, rfl, h1, fresh_back e h2, ts, rfl, h3.back e⟩
theorem ok_inner_fields (T : Tx K mg CF CS CC CR RN) {f : Addr} {fd : FuncData} (F : C8.Def K mg "inner_fields" s_inner_fields f fd) (b : Binds K fd ["given"] []) (c_fields_of : C8.Cal P w K mg base 1 "fields_of" sp_fields_of []) :
    C8.Cal P w K mg base 2 "inner_fields" sp_inner_fields [] := by
  have S := sc_inner_fields
  refine C8.cal0 F b .nil S (fun vs H Q E h => h.1) (fun cdv A outer s H vs Q E hr h => ⟨_, (pss_cons (ps_set (i := 1) S.nd rfl (Or.inl rfl) (pe_c c_fields_of hr (by decide) rfl (pa_cons (pv 0) pa_nil)))
    (pss_cons (ps_if (PW.pt (pw_or (pt_cmpR op_ne (pe_callB call_len_seq (by rfl) T.len PySem.boot_len (pa_cons (pv 1) pa_nil)) pe_int (nomark _)) (pw_or1 (pt_cmpR op_ne (pe_ix ix_tup (pe_ix ix_list (pv 1) pe_int (fun _ _ => rfl)) pe_int (fun _ _ => rfl)) (pe_gc rfl T.mOUTER_MARK) (nomark _))))) (pss_one (ps_ret (pe_lst pa_nil))) pss_nil)
    (pss_one (ps_ret (pe_c c_fields_of hr (by decide) rfl (pa_cons (pe_ix ix_tup (pe_ix ix_list (pv 1) pe_int (fun _ _ => rfl)) pe_int (fun _ _ => rfl)) pa_nil)))))), ?_⟩)
  obtain ⟨-, a, l, rfl, ha, hl, k⟩ := h
  refine Sat.go (sa_setG (eg_fields_of (er_old (ev_var rfl) ha) hl) ?_)
  rintro v H1 e1 ⟨p, vs, rfl, hp, hpn, ts, rfl, pr⟩
  have bad : innerFields l = [] → Sat (tRet (tLst tNil)) { nx := fun x H' => Q V.non H', rt := Q } [some (.ref a), some (.ref p)] H1 := fun hi => by
    rw [hi] at k
    exact sa_retL (el_lst ea_nil (by decide)) fun q H3 hq e3 h3 => retP_nil k q H3 (fresh_back e1 hq) (e1.trans e3) h3
  by_cases h1 : ts.length = 1
  · obtain ⟨t, rfl⟩ := List.length_eq_one_iff.mp h1
    have hfl : (fieldsOf l).length = 1 := by rw [← pr.len]; exact h1
    obtain ⟨⟨m, d⟩, hf⟩ := List.length_eq_one_iff.mp hfl
    obtain ⟨u, q1, q2, q3⟩ := pr.each 0 t (m, d) rfl (by rw [hf]; rfl)
    have o0 : ∀ {σ : L2.St} {H2 : Hp}, Ex H1 H2 → σ[1]? = some (some (.ref p)) → Ev (tOp (rIxL K) (tVar 1) (tC (.int 0))) σ H2 (.ref t) := fun e hs => ev_ixN (i := 0) (er_old (ev_var hs) (e _ _ hp)) (ev_n 0) rfl
    refine sa_when (et_or (et_test (ev_op (ev_lenR (er_old (ev_var rfl) hp)) (ev_n 1) rv_neN)) fun _ => et_test (ev_op (ev_op (o0 (Ex.refl H1) rfl) (ev_n 0) (rv_ixT (st_of q1) (atI_nat rfl))) (ev_n 98) rv_neN)) (fun hb => ?_) fun hb => sa_next ?_
    · have hm : ¬ m = 98 := by simpa using hb
      refine bad ?_
      unfold innerFields
      rw [hf]
      exact if_neg hm
    · have hm : m = 98 := by simpa using hb
      have hi : innerFields l = fieldsOf d := by
        unfold innerFields
        rw [hf]
        exact if_pos hm
      rw [hi] at k
      have hdl : d.length ≤ 1000 := by
        have hz : ∀ (n : Nat) (q : List Nat) (r : List (Nat × List Nat)), fieldsAux n q = some r → ∀ x ∈ r, x.2.length ≤ q.length := by
          intro n
          induction n with
          | zero =>
            intro q r hq x hx
            match q, hq with
            | [], hq =>
              cases hq
              cases hx
            | [_], hq => cases hq
            | _ :: _ :: _, hq => cases hq
          | succ n ih =>
            intro q r hq x hx
            match q, hq with
            | [], hq =>
              cases hq
              cases hx
            | [_], hq => cases hq
            | t :: k :: s, hq =>
              have hq : (if s.length < k then none else (fieldsAux n (s.drop k)).map fun q => (t, s.take k) :: q) = some r := hq
              by_cases z : s.length < k
              · rw [if_pos z] at hq
                cases hq
              · rw [if_neg z] at hq
                cases e : fieldsAux n (s.drop k) with
                | none =>
                  rw [e] at hq
                  cases hq
                | some r2 =>
                  rw [e] at hq
                  have hq : (t, s.take k) :: r2 = r := Option.some.inj hq
                  subst hq
                  rcases List.mem_cons.mp hx with rfl | hx
                  · show (s.take k).length ≤ (t :: k :: s).length
                    rw [List.length_take]
                    simp only [List.length_cons]
                    omega
                  · have := ih (s.drop k) r2 e x hx
                    rw [List.length_drop] at this
                    simp only [List.length_cons]
                    omega
        cases e : fieldsAux l.length l with
        | none =>
          unfold fieldsOf at hf
          rw [e] at hf
          cases hf
        | some r =>
          unfold fieldsOf at hf
          rw [e] at hf
          have hf : r = [(m, d)] := hf
          subst hf
          have := hz _ _ _ e (m, d) (List.mem_singleton.mpr rfl)
          have : d.length ≤ l.length := this
          omega
      exact sa_retG (eg_fields_of (er_old (ev_op (o0 (Ex.refl H1) rfl) (ev_n 1) (rv_ixT (st_of q1) (atI_nat (j := 1) rfl))) q3) hdl) fun v H3 e3 hv => (hv.back e1).ret k (e1.trans e3)
  · refine sa_when (b := true) (et_is (et_or (b := true) (et_test (ev_op (ev_lenR (er_old (ev_var rfl) hp)) (ev_n 1) rv_neN)) fun z => ?_) ?_) (fun hb => bad ?_) fun hb => by cases hb
    · rw [List.length_map] at z
      exact absurd (by simpa using z) h1
    · rw [List.length_map]
      simp [h1]
    · unfold innerFields
      have hfl : ¬ (fieldsOf l).length = 1 := by rw [← pr.len]; exact h1
      match hf : fieldsOf l, hfl with
      | [], _ => rfl
      | [x], z => exact absurd rfl z
      | x :: y :: r, _ => rfl
end
end Cc
end
section
namespace Cc
open PySem PySem.Spec PyProof.Rows L2 Evl
open C8 (pe_c pe_mk pe_mt pe_mt0 pe_gc)
open Sd27 (Card File Secret Kind Cmd isFolder)
section
variable {P : Program} {w : World} {K : PySem.W.Frag} {mg : Str → Option Value} {base : Heap} {CF CS CC CR RN : Addr}

/-- what the loop of wanted_file knows behind i of the fields L -/
structure WantAt (Hb H' : Hp) (a l hd p : Addr) (L : List (Nat × List Nat)) (vs : List V) (i : Nat) (σ' : L2.St) : Prop where
  slots : (σ'.set 3 none).set 4 none = [some (.ref a), some (.ref l), some (.ref hd), none, none]
  keep : ∀ b o, Hb b = some o → b ≠ l → b ≠ hd → H' b = some o
  ml : H' l = some (.lst (bl ((L.take i).map (·.1))))
  held : ∃ kvs, H' hd = some (.dK kvs) ∧ kvs.length ≤ i ∧ ∀ m, match heldOf (L.take i) m with
    | none => valV kvs (key m) = none
    | some d => ∃ u, valV kvs (key m) = some (.ref u) ∧ Hb u = none ∧ H' u = some (.lst (bl d))
  right : ∀ x ∈ L.take i, contentRight x.1 x.2 = true
  walk : H' p = some (.lst vs)
  pn : Hb p = none
  pairs : ∃ ts, vs = ts.map V.ref ∧ PairsAt Hb H' ts L
theorem inner_short {b : List Nat} : (innerFields b).length ≤ b.length := by
  have h : ∀ (n : Nat) (q : List Nat) (r : List (Nat × List Nat)), fieldsAux n q = some r → r.length ≤ q.length ∧ ∀ x ∈ r, x.2.length ≤ q.length := by
    intro n
    induction n with
    | zero =>
      intro q r hq
      match q, hq with
      | [], hq =>
        cases hq
        exact ⟨Nat.le_refl _, fun x hx => by cases hx⟩
      | [_], hq => cases hq
      | _ :: _ :: _, hq => cases hq
    | succ n ih =>
      intro q r hq
      match q, hq with
      | [], hq =>
        cases hq
        exact ⟨Nat.le_refl _, fun x hx => by cases hx⟩
      | [_], hq => cases hq
      | t :: k :: s, hq =>
        have hq : (if s.length < k then none else (fieldsAux n (s.drop k)).map fun q => (t, s.take k) :: q) = some r := hq
        by_cases z : s.length < k
        · rw [if_pos z] at hq
          cases hq
        · rw [if_neg z] at hq
          cases e : fieldsAux n (s.drop k) with
          | none =>
            rw [e] at hq
            cases hq
          | some r2 =>
            rw [e] at hq
            have hq : (t, s.take k) :: r2 = r := Option.some.inj hq
            subst hq
            obtain ⟨i1, i2⟩ := ih (s.drop k) r2 e
            rw [List.length_drop] at i1
            refine ⟨by simp only [List.length_cons]; omega, fun x hx => ?_⟩
            rcases List.mem_cons.mp hx with rfl | hx
            · show (s.take k).length ≤ (t :: k :: s).length
              rw [List.length_take]
              simp only [List.length_cons]
              omega
            · have := i2 x hx
              rw [List.length_drop] at this
              simp only [List.length_cons]
              omega
  have h2 : ∀ q : List Nat, (fieldsOf q).length ≤ q.length ∧ ∀ x ∈ fieldsOf q, x.2.length ≤ q.length := fun q => by
    unfold fieldsOf
    cases e : fieldsAux q.length q with
    | none => exact ⟨Nat.zero_le _, fun x hx => by cases hx⟩
    | some r => exact h _ _ _ e
  unfold innerFields
  match hf : fieldsOf b with
  | [] => exact Nat.zero_le _
  | [(m, d)] =>
    have h3 := (h2 b).2 (m, d) (by rw [hf]; exact List.mem_singleton.mpr rfl)
    have h4 := (h2 d).1
    show (if m = 98 then fieldsOf d else []).length ≤ _
    split
    · have : d.length ≤ b.length := h3
      omega
    · exact Nat.zero_le _
  | x :: y :: r => exact Nat.zero_le _
theorem ok_wanted_file (T : Tx K mg CF CS CC CR RN) {f : Addr} {fd : FuncData} (F : C8.Def K mg "wanted_file" s_wanted_file f fd) (b : Binds K fd ["given"] []) (c_inner_fields : C8.Cal P w K mg base 2 "inner_fields" sp_inner_fields []) (c_file_of : C8.Cal P w K mg base 3 "file_of" (sp_file_of CF) []) (c_content_is_right : C8.Cal P w K mg base 3 "content_is_right" sp_content_is_right []) (c_marks_in_order : C8.Cal P w K mg base 1 "marks_in_order" sp_marks_in_order []) :
    C8.Cal P w K mg base 4 "wanted_file" (sp_wanted_file CF) [] := by
  have S := sc_wanted_file
  refine C8.cal0 F b .nil S (fun vs H Q E h => h.1) (fun cdv A outer s H vs Q E hr h => have hu := L2.hu_of hr; ⟨_, (pss_cons (ps_set (i := 1) S.nd rfl (Or.inl rfl) (pe_lst pa_nil))
    (pss_cons (ps_set (i := 2) S.nd rfl (Or.inl rfl) pe_dnewK)
    (pss_cons (ps_for PassesOwn.never rfl (pi_list (pe_c c_inner_fields hr (by decide) rfl (pa_cons (pv 0) pa_nil))) (pg_tup rfl (pgs_cons (pg_name (i := 3) S.nd rfl (Or.inl rfl)) (pgs_cons (pg_name (i := 4) S.nd rfl (Or.inl rfl)) pgs_nil))) (pss_cons (ps_if (pt_not (pt_val (pe_c c_content_is_right hr (by decide) rfl (pa_cons (pv 3) (pa_cons (pv 4) pa_nil))))) (pss_one (ps_ret pe_non)) pss_nil)
      (pss_cons (ps_expr (pe_bm PySem.F.plainAttrs_list PySem.F.slot_list_append PySem.F.type_list_append mt_append (pv 1) (pa_cons (pv 3) pa_nil)))
      (pss_one (ps_dput hu (pv 2) (pv 3) (pv 4) rfl)))))
    (pss_cons (ps_if (PW.pt (pw_or (pt_cmp (pc_dnotin hu (pe_gc rfl T.mKIND_MARK) (pv 2)) rfl) (pw_or1 (pt_cmpR (op_neD hr.units) (pv 1) (pe_c c_marks_in_order hr (by decide) rfl (pa_cons (pe_ix ix_list (pe_dget hu (pv 2) (pe_gc rfl T.mKIND_MARK) (fun _ _ => rfl)) pe_int (fun _ _ => rfl)) (pa_cons (pv 2) pa_nil))) (nomark _))))) (pss_one (ps_ret pe_non)) pss_nil)
    (pss_one (ps_ret (pe_c c_file_of hr (by decide) rfl (pa_cons (pv 2) pa_nil)))))))), ?_⟩)
  obtain ⟨-, a, bs, rfl, ha, hl, kn, ks⟩ := h
  refine Sat.go (sa_setL (xs := []) (el_lst ea_nil (by decide)) fun l H1 hln e1 h1 => sa_setD fun hd Hb hdn e2 h2 => ?_)
  have l1 : Hb l = some (.lst []) := e2 _ _ h1
  have ldne : l ≠ hd := fun z => by rw [z, h2] at l1; cases l1
  have hdn0 : H hd = none := fresh_back e1 hdn
  have eb : Ex H Hb := e1.trans e2
  have exH : ∀ {H' : Hp}, (∀ b o, Hb b = some o → b ≠ l → b ≠ hd → H' b = some o) → Ex H H' := fun hk b o hb => hk b o (eb _ _ hb) (ne_of_none hb hln) (ne_of_none hb hdn0)
  obtain ⟨L, hL⟩ : ∃ L, L = innerFields bs := ⟨_, rfl⟩
  have hLl : L.length ≤ 1000 := by rw [hL]; have := @inner_short bs; omega
  have hw : wantedPF bs = wantedOf L := by unfold wantedPF; rw [hL]
  rw [hw] at kn ks
  refine sa_forP (G := fun p vs H2 => Hb p = none ∧ ∃ ts, vs = ts.map V.ref ∧ PairsAt Hb H2 ts L) (by rw [hL]; exact eg_inner_fields (er_old (ev_var rfl) (eb _ _ ha)) hl) (fun p vs i σ' H' => WantAt Hb H' a l hd p L vs i σ') ?_ (fun p vs i σ' H' _ w => w.walk) ?_ ?_
  · rintro p vs H2 e3 hp ⟨hpn, ts, rfl, pr⟩
    exact ⟨rfl, fun b o hb _ _ => e3 _ _ hb, e3 _ _ l1, ⟨[], e3 _ _ h2, Nat.le_refl _, fun m => rfl⟩, fun x hx => by simp at hx, hp, hpn, ts, rfl, pr⟩
  · rintro p vs i x σ' H' hx w
    obtain ⟨ts, rfl, pr⟩ := w.pairs
    obtain ⟨kvs, hk1, hk2, hk3⟩ := w.held
    rw [List.getElem?_map] at hx
    cases hti : ts[i]? with
    | none =>
      rw [hti] at hx
      cases hx
    | some t =>
      rw [hti] at hx
      have hx : V.ref t = x := Option.some.inj hx
      subst hx
      have hil : i < L.length := by rw [← pr.len]; exact (List.getElem?_eq_some_iff.mp hti).1
      obtain ⟨m, d⟩ : Nat × List Nat := L[i]
      obtain ⟨⟨m, d⟩, hLi⟩ : ∃ y, L[i]? = some y := ⟨L[i], List.getElem?_eq_getElem hil⟩
      obtain ⟨u, q1, q2, q3⟩ := pr.each i t (m, d) hti hLi
      refine ⟨t, .int (m : Int), .ref u, rfl, q1, ?_⟩
      rw [set_none2 (σ := [some (.ref a), some (.ref l), some (.ref hd), none, none]) w.slots]
      have htk : L.take (i + 1) = L.take i ++ [(m, d)] := by
        rw [List.take_add_one, hLi]
        rfl
      refine sa_when (et_not (et_B (ev_content_is_right (m := m) (d := d) (ev_var rfl) (er_old (ev_var rfl) q3)))) (fun hb => sa_ret ev_c ?_) fun hb => sa_next ?_
      · have hbad : contentRight m d = false := by simpa using hb
        have hn : wantedOf L = none := by
          unfold wantedOf
          refine if_pos ?_
          rw [List.all_eq_false]
          exact ⟨(m, d), List.mem_of_getElem? hLi, by show ¬ contentRight m d = true; rw [hbad]; decide⟩
        exact fun H5 e5 => kn hn H5 ((exH w.keep).trans e5)
      have hgood : contentRight m d = true := by simpa using hb
      have ul : u ≠ l := fun z => by rw [z, l1] at q2; cases q2
      have ud : u ≠ hd := fun z => by rw [z, h2] at q2; cases q2
      have pl : p ≠ l := fun z => by have y := w.pn; rw [z, l1] at y; cases y
      have pd : p ≠ hd := fun z => by have y := w.pn; rw [z, h2] at y; cases y
      refine sa_appK (v := .int (m : Int)) w.ml (ev_var rfl) (ev_var rfl) (by rw [bl_len, List.length_map, List.length_take]; omega) fun H5 k5 h5 => ?_
      have hk5 : H5 hd = some (.dK kvs) := k5 _ _ hk1 ldne.symm
      refine dput_K (v := .ref u) hk5 (ev_var rfl) (ev_var rfl) (ev_var rfl) (Nat.lt_of_le_of_lt hk2 (by show i < 2 ^ 24; omega)) fun H6 k6 h6 => ?_
      have both : ∀ {b : Addr} {o : HO}, H' b = some o → b ≠ l → b ≠ hd → H6 b = some o := fun h n1 n2 => k6 _ _ (k5 _ _ h n1) n2
      refine ⟨rfl, fun b o hb n1 n2 => both (w.keep b o hb n1 n2) n1 n2, ?_, ⟨_, h6, Nat.le_trans (putK_len ..) (by omega), fun m2 => ?_⟩, ?_, both w.walk pl pd, w.pn, ts, rfl, ⟨pr.len, fun j t2 x2 hj hx2 => ?_⟩⟩
      · rw [k6 _ _ h5 ldne, htk, List.map_append, ← bl_app]
        rfl
      · rw [htk, heldOf_snoc]
        by_cases hm : m = m2
        · subst hm
          rw [if_pos rfl]
          refine ⟨u, ?_, q2, both q3 ul ud⟩
          rw [show key m = Sum.inl (m : Int) from rfl, valV_put, if_pos rfl]
        · rw [if_neg hm]
          have hne : ¬ key m2 = (Sum.inl (m : Int) : Key) := fun z => hm (Int.ofNat.inj (Sum.inl.inj z)).symm
          have z := hk3 m2
          cases e : heldOf (L.take i) m2 with
          | none =>
            rw [e] at z
            show valV _ _ = none
            rw [valV_put, if_neg hne]
            exact z
          | some d2 =>
            rw [e] at z
            obtain ⟨u2, y1, y2, y3⟩ := z
            refine ⟨u2, ?_, y2, both y3 (fun z => by rw [z, l1] at y2; cases y2) (fun z => by rw [z, h2] at y2; cases y2)⟩
            rw [valV_put, if_neg hne]
            exact y1
      · intro x2 hx2
        rw [htk] at hx2
        rcases List.mem_append.mp hx2 with z | z
        · exact w.right x2 z
        · rw [List.mem_singleton.mp z]
          exact hgood
      · obtain ⟨u2, y1, y2, y3⟩ := pr.each j t2 x2 hj hx2
        exact ⟨u2, both y1 (fun z => by rw [z, w.ml] at y1; cases y1) (fun z => by rw [z, hk1] at y1; cases y1), y2, both y3 (fun z => by rw [z, l1] at y2; cases y2) (fun z => by rw [z, h2] at y2; cases y2)⟩
  · rintro p vs σ' H' w
    obtain ⟨ts, rfl, pr⟩ := w.pairs
    have hall : L.take (ts.map V.ref).length = L := by rw [List.length_map, pr.len, List.take_length]
    obtain ⟨kvs, hk1, hk2, hk3⟩ := w.held
    have hml := w.ml
    have hrt := w.right
    rw [hall] at hk3 hml hrt
    have eH : Ex H H' := exH w.keep
    have s1 : σ'[1]? = some (some (.ref l)) := by
      have z := congrArg (fun τ : L2.St => τ[1]?) w.slots
      simp only [List.getElem?_set_ne (show 4 ≠ 1 by decide), List.getElem?_set_ne (show 3 ≠ 1 by decide)] at z
      exact z
    have s2 : σ'[2]? = some (some (.ref hd)) := by
      have z := congrArg (fun τ : L2.St => τ[2]?) w.slots
      simp only [List.getElem?_set_ne (show 4 ≠ 2 by decide), List.getElem?_set_ne (show 3 ≠ 2 by decide)] at z
      exact z
    have hok : (L.all fun x => contentRight x.1 x.2) = true := List.all_eq_true.mpr fun x hx => hrt x hx
    have hwo : wantedOf L = match heldOf L 130 with
      | none => none
      | some kd => if L.map (·.1) ≠ marksOrder (kd.getD 0 0) (fun m => (heldOf L m).isSome) then none else some (fileOf (heldOf L)) := by
      unfold wantedOf
      exact if_neg (by rw [hok]; decide)
    have hheld : HeldAt H' hd kvs (heldOf L) := ⟨hk1, fun m => by
      have z := hk3 m
      cases e : heldOf L m with
      | none =>
        rw [e] at z
        exact z
      | some d =>
        rw [e] at z
        obtain ⟨u, y1, _, y3⟩ := z
        exact ⟨u, y1, y3⟩⟩
    have hin := fun m => held_is hheld m
    cases hkd : heldOf L 130 with
    | none =>
      rw [hkd] at hwo
      refine Sat.go (sa_when (b := true) (et_is (et_or (b := true) (et_B (ev_dnotin (ev_n 130) (ev_var s2) hk1)) fun z => ?_) ?_) (fun hb => sa_ret ev_c fun H5 e5 => kn hwo H5 (eH.trans e5)) fun hb => by cases hb)
      · rw [hin 130, hkd] at z
        cases z
      · rw [hin 130, hkd]
        rfl
    | some kd =>
      rw [hkd] at hwo
      have hwo : wantedOf L = if L.map (·.1) ≠ marksOrder (kd.getD 0 0) (fun m => (heldOf L m).isSome) then none else some (fileOf (heldOf L)) := hwo
      obtain ⟨uk, vk, ok⟩ := held_get hheld hkd
      have hkr := hrt _ (heldOf_mem hkd)
      have hkk : kindRight kd = true := hkr
      obtain ⟨hk11, hk15⟩ := right_kind hkk
      refine Sat.go (sa_when (et_or (et_B (ev_dnotin (ev_n 130) (ev_var s2) hk1)) fun _ => et_test (ev_neR (er_old (ev_var s1) hml) (er_new (el_marks_in_order (ev_ixD (er_old (ev_dget (k := 130) (ev_var s2) (ev_n 130) hk1 vk) ok) (ev_n 0) hk11) (ev_var s2) hheld)))) (fun hb => sa_ret ev_c ?_) fun hb => sa_next ?_)
      · rw [hin 130, hkd] at hb
        rw [if_pos (by simpa using hb)] at hwo
        exact fun H5 e5 => kn hwo H5 (eH.trans e5)
      · rw [hin 130, hkd] at hb
        have hmo : L.map (·.1) = marksOrder (kd.getD 0 0) (fun m => (heldOf L m).isSome) := by simpa using hb
        rw [if_neg (fun z => z hmo)] at hwo
        have h131 : (131 : Nat) ∈ L.map (·.1) := by rw [hmo]; simp [marksOrder]
        have h140 : (140 : Nat) ∈ L.map (·.1) := by rw [hmo]; simp [marksOrder]
        obtain ⟨d131, g131⟩ := heldOf_some h131
        obtain ⟨d140, g140⟩ := heldOf_some h140
        have r131 := right_two (m := 131) (hrt _ (heldOf_mem g131)) (by decide) (by decide) (by decide)
        have r140 := right_two (m := 140) (hrt _ (heldOf_mem g140)) (by decide) (by decide) (by decide)
        refine fun H5 e5 => do_call (ep_cons (ev_var s2) ep_nil) fun ws H6 e6 hv => ?_
        obtain ⟨r, rfl, rfl⟩ := hv
        refine ⟨rfl, hd, kvs, heldOf L, rfl, hheld.mono (e5.trans e6), ⟨kd, hkd, hk11, hk15⟩, ⟨d131, g131, by have : d131.length = 2 := r131; omega⟩, ⟨d140, g140, by have : d140.length = 2 := r140; omega⟩, fun d hd2 => ?_, fun d hd2 => ?_, fun pf H7 dx n ct rc f1 f2 f3 f4 g1 g2 e7 o => ?_⟩
        · have : d.length = 1 := right_short (hrt _ (heldOf_mem hd2))
          omega
        · have : d.length = 2 := right_two (m := 128) (hrt _ (heldOf_mem hd2)) (by decide) (by decide) (by decide)
          omega
        · have e56 : Ex H H6 := eH.trans (e5.trans e6)
          refine ks _ hwo pf H7 dx n ct rc (fresh_back e56 f1) ?_ (fresh_back e56 f3) (fresh_back e56 f4) g1 g2 (e56.trans e7) o
          rcases f2 with z | z
          · exact fresh_back e56 z
          · have y := hk3 132
            cases e : heldOf L 132 with
            | none =>
              rw [e] at y
              rw [show valV kvs (key 132) = none from y] at z
              cases z
            | some d =>
              rw [e] at y
              obtain ⟨u, y1, y2, _⟩ := y
              rw [show valV kvs (key 132) = some (.ref u) from y1] at z
              cases z
              exact fresh_back eb y2
end
end Cc
end
section
namespace Cc
open PySem PySem.Spec PyProof.Rows L2 Evl
open C8 (pe_c pe_mk pe_mt pe_mt0 pe_gc)
open Sd27 (Card File Secret Kind Cmd isFolder)
section
variable {P : Program} {w : World} {K : PySem.W.Frag} {mg : Str → Option Value} {base : Heap} {CF CS CC CR RN : Addr}

theorem ok_Card_choose_inner (T : Tx K mg CF CS CC CR RN) {f : Addr} {fd : FuncData} (me : Meth K CC "choose_inner" f) (F : C8.Fun K "choose_inner" "Card.choose_inner" s_Card_choose_inner f fd) (b : Binds K fd ["self", "inner"] [])  :
    C8.Met P w K mg base 1 CC "choose_inner" (sp_choose_inner CF CS CC) [] := by
  have S := sc_Card_choose_inner
  refine C8.met0 T.clCC me F b S (fun vs H Q E h => h.1) (fun cdv A outer s H vs Q E hr h => ⟨_, (pss_cons (ps_set (i := 2) S.nd rfl (Or.inl rfl) (pe_ix ix_list (pe_fld (pv 0) rfl) (pv 1) (fun _ _ => rfl)))
    (pss_one (ps_if (pt_cmpR op_eq (pe_fld (pv 2) rfl) (pe_gc rfl T.mFOLDER) (nomark _)) (pss_cons (ps_fld (pv 0) (pv 1) rfl)
      (pss_one (ps_fld (pv 0) (pe_gc rfl T.mNONE) rfl))) (pss_cons (ps_fld (pv 0) (pe_fld (pv 2) rfl) rfl)
      (pss_one (ps_fld (pv 0) (pv 1) rfl)))))), ?_⟩)
  obtain ⟨-, a, R, c, fl, i, rfl, ⟨dx, sl, sd, ws, kvs, X⟩, hi, hf, h0, k⟩ := h
  obtain ⟨p, dx2, n, ct, rc, rs, hw, o, ro⟩ := X.at_ hi hf
  have fr : ∀ {H' : Hp}, Keep a H H' → Fr R H R H' := fun kp => Fr.keep kp X.ra
  have pa : p ≠ a := fun z => by have y := o.ob; rw [z, X.ob] at y; injection y with y; injection y with y1 _ y2; exact absurd ro.p (by rw [z, X.ra]; intro w; cases w)
  refine Sat.go (sa_set (ev_ixN (er_old (ev_fld (ev_var rfl) X.ob T.clCC T.nCC_slots (cf_slots ..)) X.osl) (ev_var rfl) hw) ?_)
  refine sa_if (et_test (ev_op (ev_fld (ev_var rfl) o.ob T.clCF T.nCF_kind (ff_kind ..)) (ev_n 56) rv_eqN)) (fun hb => ?_) fun hb => ?_
  · have hd : isFolder fl = true := kKind_folder.mp (of_decide_eq_true hb)
    refine sa_fld X.ob (ev_var rfl) (ev_var rfl) T.clCC T.nCC_folder (by show 5 < 1000; decide) fun H1 k1 h1 => ?_
    rw [cp_folder] at h1
    refine fld_one h1 (y := .int (oi none)) ev_c (ev_var rfl) T.clCC T.nCC_file (by show 5 < 1000; decide) fun H2 k2 h2 => ?_
    rw [cp_file] at h2
    have e : chooseIx c i = { c with active := c.active, folder := i, file := none } := by
      unfold chooseIx
      rw [hf]
      exact if_pos hd
    refine k H2 ⟨dx, sl, sd, ws, kvs, ?_⟩ (fr (k1.trans k2))
    rw [e]
    exact (X.own c.active i none).mono ((k1.trans k2).upd h2)
  · have hd : ¬ isFolder fl = true := fun z => of_decide_eq_false hb (kKind_folder.mpr z)
    have hi0 : ¬ i = 0 := fun z => hd (h0 z)
    refine sa_fld X.ob (y := .int (fl.up : Int)) (ev_is (ev_fld (ev_var rfl) o.ob T.clCF T.nCF_folder (ff_folder ..)) (by show V.int (upOf i fl) = _; unfold upOf; rw [if_neg hi0])) (ev_var rfl) T.clCC T.nCC_folder (by show 5 < 1000; decide) fun H1 k1 h1 => ?_
    rw [cp_folder] at h1
    refine fld_one h1 (y := .int (oi (some i))) (ev_var rfl) (ev_var rfl) T.clCC T.nCC_file (by show 5 < 1000; decide) fun H2 k2 h2 => ?_
    rw [cp_file] at h2
    have e : chooseIx c i = { c with active := c.active, folder := fl.up, file := some i } := by
      unfold chooseIx
      rw [hf]
      exact if_neg hd
    refine k H2 ⟨dx, sl, sd, ws, kvs, ?_⟩ (fr (k1.trans k2))
    rw [e]
    exact (X.own c.active fl.up (some i)).mono ((k1.trans k2).upd h2)
theorem ok_Card_take_out (T : Tx K mg CF CS CC CR RN) {f : Addr} {fd : FuncData} (me : Meth K CC "take_out" f) (F : C8.Fun K "take_out" "Card.take_out" s_Card_take_out f fd) (b : Binds K fd ["self", "inner"] [])  :
    C8.Met P w K mg base 1 CC "take_out" (sp_take_out CF CS CC) [] := by
  have S := sc_Card_take_out
  refine C8.met0 T.clCC me F b S (fun vs H Q E h => h.1) (fun cdv A outer s H vs Q E hr h => ⟨_, (pss_cons (ps_asg pe_non (pg_sub (pe_fld (pv 0) rfl) (pv 1) set_list))
    (pss_one (ps_if (pt_cmpR op_eq (pe_fld (pv 0) rfl) (pv 1) (nomark _)) (pss_one (ps_fld (pv 0) (pe_gc rfl T.mNONE) rfl)) pss_nil))), ?_⟩)
  obtain ⟨-, a, R, c, i, rfl, ⟨dx, sl, sd, ws, kvs, X⟩, hi, k⟩ := h
  have as : a ≠ sl := ne_role X.rsl (fun z => by rw [X.ra] at z; cases z)
  refine Sat.go (sa_setIx X.osl ev_c (ev_fld (ev_var rfl) X.ob T.clCC T.nCC_slots (cf_slots ..)) (ev_var rfl) (by rw [X.wl]; exact hi) fun H1 k1 h1 => ?_)
  have X1 : CardX CF CS CC H1 R a (c.put i none) dx sl sd (ws.set i .non) kvs := by
    have z := X.slots (w := .non) (c' := c.put i none) hi (by rw [at_put, if_pos rfl]; rfl) (fun j hj => by rw [at_put, if_neg hj]) rfl rfl rfl rfl rfl
    exact z.mono (k1.upd h1)
  have tst : decide (V.int (oi c.file) = V.int (i : Int)) = decide (c.file = some i) := by
    refine decide_eq_decide.mpr ⟨fun z => ?_, fun z => by rw [z]; rfl⟩
    injection z with z
    exact oi_inj (b := some i) z
  refine sa_if (et_is (et_test (ev_op (ev_fld (ev_var rfl) X1.ob T.clCC T.nCC_file (cf_file ..)) (ev_var rfl) (rv_eq rfl))) tst) (fun hb => ?_) fun hb => ?_
  · refine fld_one X1.ob (y := .int (oi none)) ev_c (ev_var rfl) T.clCC T.nCC_file (by show 5 < 1000; decide) fun H2 k2 h2 => ?_
    rw [cp_file] at h2
    refine k H2 ⟨dx, sl, sd, ws.set i .non, kvs, ?_⟩ (fun b o hb hn => (Fr.keep k1 X.rsl |>.trans (Fr.keep k2 X.ra)) b o hb hn)
    have e : taken c i = { c.put i none with active := c.active, folder := c.folder, file := none } := by
      unfold taken
      rw [if_pos (of_decide_eq_true hb)]
      rfl
    rw [e]
    exact (X1.own c.active c.folder none).mono (k2.upd h2)
  · refine fun H2 e2 => k H2 ⟨dx, sl, sd, ws.set i .non, kvs, ?_⟩ ((Fr.keep k1 X.rsl).trans (.of e2))
    have e : taken c i = c.put i none := by
      unfold taken
      rw [if_neg (of_decide_eq_false hb)]
      rfl
    rw [e]
    exact X1.mono e2
theorem ok_Card_put_in (T : Tx K mg CF CS CC CR RN) {f : Addr} {fd : FuncData} (me : Meth K CC "put_in" f) (F : C8.Fun K "put_in" "Card.put_in" s_Card_put_in f fd) (b : Binds K fd ["self", "file"] []) (c_Card_free_inner : C8.Met P w K mg base 1 CC "free_inner" (sp_free_inner CF CS CC) []) (c_Card_choose_inner : C8.Met P w K mg base 1 CC "choose_inner" (sp_choose_inner CF CS CC) []) :
    C8.Met P w K mg base 2 CC "put_in" (sp_put_in CF CS CC) [] := by
  have S := sc_Card_put_in
  refine C8.met0 T.clCC me F b S (fun vs H Q E h => h.1) (fun cdv A outer s H vs Q E hr h => ⟨_, (pss_cons (ps_set (i := 2) S.nd rfl (Or.inl rfl) (pe_mt0 c_Card_free_inner hr (by decide) (pv 0)))
    (pss_cons (ps_fld (pv 1) (pe_fld (pv 0) rfl) rfl)
    (pss_cons (ps_fld (pv 1) (pe_op op_rep (pe_lst (pa_cons pe_int pa_nil)) (pe_fld (pv 1) rfl)) rfl)
    (pss_cons (ps_asg (pv 1) (pg_sub (pe_fld (pv 0) rfl) (pv 2) set_list))
    (pss_one (ps_expr (pe_mt c_Card_choose_inner hr (by decide) (pv 0) (pa_cons (pv 2) pa_nil)))))))), ?_⟩)
  obtain ⟨-, a, R, c, p, g, dxf, n, ct, rc, j, rfl, hC, gd, hj, o, ro, hsz, hpf, k⟩ := h
  obtain ⟨dx, sl, sd, ws, kvs, X⟩ := hC
  have hC : CardAt CF CS CC H R a c := ⟨dx, sl, sd, ws, kvs, X⟩
  obtain ⟨hj64, hjn, hjl⟩ := free_le hj
  have fr : ∀ {H' : Hp}, Keep p H H' → Fr R H R H' := fun kp => Fr.keep kp ro.p
  refine Sat.go (sa_set (v := .int (j : Int)) (ev_is (ev_free_inner (ev_var rfl) hC gd) (by rw [hj]; rfl)) ?_)
  refine sa_fld o.ob (ev_fld (ev_var rfl) X.ob T.clCC T.nCC_folder (cf_folder ..)) (ev_var rfl) T.clCF T.nCF_folder (by show 12 < 1000; decide) fun H1 k1 h1 => ?_
  rw [fp_folder] at h1
  have hrep : (List.replicate ((g.size : Int)).toNat [V.int ((0 : Nat) : Int)]).flatten = bl (List.replicate g.size 0) := by
    rw [Int.toNat_natCast]
    generalize g.size = m
    induction m with
    | zero => rfl
    | succ m ih =>
      rw [List.replicate_succ, List.flatten_cons, ih, List.replicate_succ]
      rfl
  refine sa_fldL (xs := bl (List.replicate g.size 0)) h1 (el_is (el_rep (xs := [V.int ((0 : Nat) : Int)]) (k := (g.size : Int)) (er_new (el_lst (ea_cons (ev_n 0) ea_nil) (by show 1 ≤ 100000; decide))) (ev_fld (ev_var rfl) h1 T.clCF T.nCF_size (ff_size ..)) (by omega) (by omega) (by
      rw [Int.toNat_natCast]
      show 1 * g.size ≤ 2 ^ 24
      omega)) hrep) (ev_var rfl) T.clCF T.nCF_content (by show 12 < 1000; decide) fun ct2 H2 hc2 k2 hl2 h2 => ?_
  rw [fp_content (l := List.replicate g.size 0)] at h2
  have kp : Keep p H H2 := k1.trans k2
  have hcn : H ct2 = none := k1.fresh h1 hc2
  -- the card stands while the file, which is not in it, changes
  have X2 : CardX CF CS CC H2 R a c dx sl sd ws kvs := by
    have al : ∀ (f : File), c.at_ j = some f → False := fun f z => by rw [hjn] at z; cases z
    refine ⟨kp _ _ X.ob (ne_role ro.p fun z => by rw [X.ra] at z; cases z), X.ra, kp _ _ X.osl (ne_role ro.p fun z => by rw [X.rsl] at z; cases z), X.rsl, X.wl, fun i w hw => ?_, kp _ _ X.osd (ne_role ro.p fun z => by rw [X.rsd] at z; cases z), X.rsd, fun q q1 q8 => ?_, X.keys, X.nd, fun b r hb z => ?_⟩
    · have s := X.slot i w hw
      cases e : c.at_ i with
      | none =>
        rw [e] at s
        exact s
      | some f =>
        rw [e] at s
        obtain ⟨p3, dx3, n3, ct3, rc3, rs3, y1, y2, y3⟩ := s
        have ij : i ≠ j := fun z => by rw [z, hjn] at e; cases e
        refine ⟨p3, dx3, n3, ct3, rc3, rs3, y1, ⟨kp _ _ y2.ob (ne_role ro.p fun z => by rw [y3.p] at z; exact ij (by cases z; rfl)), kp _ _ y2.nm (ne_role ro.p fun z => by rw [y3.n] at z; cases z), kp _ _ y2.ct (ne_role ro.p fun z => by rw [y3.ct] at z; cases z), kp _ _ y2.rc (ne_role ro.p fun z => by rw [y3.rc] at z; cases z), y2.len, fun q r w2 hq hw2 => kp _ _ (y2.each q r w2 hq hw2) (ne_role ro.p fun z => by rw [y3.rs r (List.mem_of_getElem? hq)] at z; cases z)⟩, y3⟩
    · have s := X.sec q q1 q8
      cases e : c.secrets.getD (q - 1) none with
      | none =>
        rw [e] at s
        exact s
      | some sc =>
        rw [e] at s
        obtain ⟨p3, dx3, wd3, fr3, y1, y2, y3⟩ := s
        exact ⟨p3, dx3, wd3, fr3, y1, ⟨kp _ _ y2.ob (ne_role ro.p fun z => by rw [y3.p] at z; cases z), kp _ _ y2.wd (ne_role ro.p fun z => by rw [y3.wd] at z; cases z), kp _ _ y2.fr (ne_role ro.p fun z => by rw [y3.fr] at z; cases z)⟩, y3⟩
    · have y := X.dom b r hb
      cases q : H b with
      | none => exact y q
      | some u =>
        by_cases bp : b = p
        · rw [bp, h2] at z
          cases z
        · rw [kp _ _ q bp] at z
          cases z
  have rct : R ct2 = none := X.free hcn
  have np : n ≠ p := fun z => by have y := ro.n; rw [z, ro.p] at y; cases y
  have rcp : rc ≠ p := fun z => by have y := ro.rc; rw [z, ro.p] at y; cases y
  have o2 : FObj CF H2 p (pfOf j (toFile g c.folder)) dxf n ct2 rc [] := by
    have e : pfOf j (toFile g c.folder) = { ({ g with folder := (c.folder : Int) } : PF) with content := List.replicate g.size 0 } := by
      have z : pfOf j (toFile g c.folder) = pfOf 1 (toFile g c.folder) := by
        have j0 : ¬ j = 0 := fun z => by rw [z, gd.top] at hjn; cases hjn
        unfold pfOf upOf
        rw [if_neg j0, if_neg (by decide)]
      rw [z, hpf]
    rw [e]
    exact ⟨h2, kp _ _ o.nm np, hl2, kp _ _ o.rc rcp, o.len, fun q r w2 hq => by simp at hq⟩
  refine sa_setIx X2.osl (ev_var rfl) (ev_fld (ev_var rfl) X2.ob T.clCC T.nCC_slots (cf_slots ..)) (ev_var rfl) (by rw [X2.wl]; exact hj64) fun H3 k3 h3 => ?_
  have X3 : CardX CF CS CC H3 R a (putFile c j (toFile g c.folder)) dx sl sd (ws.set j (.ref p)) kvs := by
    have z := X2.slots (w := .ref p) (c' := putFile c j (toFile g c.folder)) hj64 (by rw [at_putFile hj, if_pos rfl]; exact ⟨p, dxf, n, ct2, rc, [], rfl, o2, ro.p, ro.n, rct, ro.rc, fun r hr => by cases hr⟩) (fun i hi => by rw [at_putFile hj, if_neg hi]) rfl rfl rfl rfl rfl
    exact z.mono (k3.upd h3)
  have j0 : j ≠ 0 := fun z => by rw [z, gd.top] at hjn; cases hjn
  refine sa_drop fun H4 e4 => do_meth (ev_var rfl) (e4 _ _ X3.ob) (cf_no_choose_inner ..) (ep_cons (ev_var rfl) ep_nil) fun vs H5 e5 hv => ?_
  obtain ⟨r, rfl, rfl⟩ := hv
  exact ⟨rfl, a, R, _, toFile g c.folder, j, rfl, ⟨dx, sl, sd, _, kvs, X3.mono (e4.trans e5)⟩, hj64, by rw [at_putFile hj, if_pos rfl], fun z => absurd z j0, fun H6 hc6 f6 => k H6 hc6 ((fr kp).trans ((Fr.keep k3 X2.rsl).trans ((Fr.of (e4.trans e5)).trans f6)))⟩
end
end Cc
end
section
namespace Cc
open PySem PySem.Spec PyProof.Rows L2 Evl
open C8 (pe_c pe_mk pe_mt pe_mt0 pe_gc)
open Sd27 (Card File Secret Kind Cmd isFolder)
section
variable {P : Program} {w : World} {K : PySem.W.Frag} {mg : Str → Option Value} {base : Heap} {CF CS CC CR RN : Addr}

/-- behind i of the dict's entries: their secrets aren't told any more -/
def untold (c : Card) (kvs : List (Key × V)) (i : Nat) : Card := { c with told := c.told.filter fun k => !((kvs.take i).any fun kv => decide (kv.1 = key k)) }
theorem contains_filter (l : List Nat) (p : Nat → Bool) (k : Nat) : (l.filter p).contains k = (l.contains k && p k) := by
  rw [List.contains_eq_mem, List.contains_eq_mem]
  by_cases h : p k = true
  · rw [h, Bool.and_true]
    exact decide_eq_decide.mpr ⟨fun z => (List.mem_filter.mp z).1, fun z => List.mem_filter.mpr ⟨z, h⟩⟩
  · rw [Bool.not_eq_true] at h
    rw [h, Bool.and_false]
    exact decide_eq_false fun z => by
      have := (List.mem_filter.mp z).2
      rw [h] at this
      cases this
theorem upd_comm {H : Hp} {a b : Addr} {o u : HO} (h : a ≠ b) : upd (upd H a o) b u = upd (upd H b u) a o := by
  funext x
  unfold upd
  by_cases h1 : x = b
  · by_cases h2 : x = a
    · exact absurd (h2.symm.trans h1) h
    · rw [if_pos h1, if_neg h2, if_pos h1]
  · by_cases h2 : x = a
    · rw [if_neg h1, if_pos h2, if_pos h2]
    · rw [if_neg h1, if_neg h2, if_neg h2, if_neg h1]
theorem ok_Card_begin_anew (T : Tx K mg CF CS CC CR RN) {f : Addr} {fd : FuncData} (me : Meth K CC "begin_anew" f) (F : C8.Fun K "begin_anew" "Card.begin_anew" s_Card_begin_anew f fd) (b : Binds K fd ["self"] [])  :
    C8.Met P w K mg base 1 CC "begin_anew" (sp_begin_anew CF CS CC) [] := by
  have S := sc_Card_begin_anew
  refine C8.met0 T.clCC me F b S (fun vs H Q E h => h.1) (fun cdv A outer s H vs Q E hr h => ⟨_, (pss_cons (ps_lock (ps_for PassesOwn.never rfl (pi_values (pe_fld (pv 0) rfl)) (pg_name (i := 1) S.nd rfl (Or.inl rfl)) (pss_one (ps_fld (pv 1) pe_bl rfl))))
    (pss_cons (ps_fld (pv 0) (pe_gc rfl T.mTOP) rfl)
    (pss_one (ps_fld (pv 0) (pe_gc rfl T.mNONE) rfl)))), ?_⟩)
  obtain ⟨-, a, R, c, rfl, ⟨dx, sl, sd, ws, kvs, X⟩, k⟩ := h
  have asd : a ≠ sd := ne_role X.rsd (fun z => by rw [X.ra] at z; cases z)
  refine ⟨sd, .dK kvs, X.osd, trivial, fun od => ?_⟩
  have hself : upd (upd H sd (.frz od (.dK kvs))) sd (.dK kvs) = upd H sd (.dK kvs) := upd_upd
  have hsame : upd H sd (.dK kvs) = H := by
    funext x
    unfold upd
    split
    · rename_i h
      rw [h, X.osd]
    · rfl
  have X0 : CardX CF CS CC (upd (upd H sd (.frz od (.dK kvs))) sd (.dK kvs)) R a (untold c kvs 0) dx sl sd ws kvs := by
    rw [hself, hsame]
    exact X.retold (fun _ => rfl) rfl rfl rfl rfl (fun q s q1 q8 e => by
      show (c.told.filter _).contains q = _
      rw [contains_filter]
      simp)
  refine ⟨.ref a, rfl, a, CC, dx, _, _, rfl, (upd_ne asd).trans X.ob, T.clCC, T.nCC_secrets, cf_secrets .., sd, od, kvs, rfl, upd_same, ?_⟩
  refine for_it (walk_values (d := sd) (o := od) (kvs := kvs)) (fun i σ' H' => σ'.set 1 none = [some (.ref a), none] ∧ H' sd = some (.frz od (.dK kvs)) ∧ CardX CF CS CC (upd H' sd (.dK kvs)) R a (untold c kvs i) dx sl sd ws kvs ∧ ∀ b o, H b = some o → Im R b → H' b = some o)
    ⟨rfl, upd_same, X0, fun b o hb hn => by rw [upd_ne (hn.ne X.rsd (by intro h; cases h))]; exact hb⟩ (fun i σ' H' _ p => p.2.1) ?_ ?_
  · rintro i x σ' Hx H' hi ⟨g1, g2, X1, g4⟩ ⟨rfl, ky, hky⟩
    have hmem : (ky, x) ∈ kvs := List.mem_of_getElem? hky
    obtain ⟨q, q1, q8, hq⟩ := X.keys _ hmem
    have hq : ky = key q := hq
    subst hq
    have hval : valV kvs (key q) = some x := by
      have hn := X.nd
      have gen : ∀ (l : List (Key × V)), (l.map (·.1)).Nodup → (key q, x) ∈ l → valV l (key q) = some x := by
        intro l
        induction l with
        | nil => intro _ h; cases h
        | cons y r ih =>
          intro hn hm
          have hn : (y.1 :: r.map (·.1)).Nodup := hn
          obtain ⟨n1, n2⟩ := List.nodup_cons.mp hn
          rcases List.mem_cons.mp hm with z | z
          · rw [← z]
            exact valV_pos rfl
          · have yn : ¬ y.1 = key q := fun w => n1 (by rw [w]; exact List.mem_map.mpr ⟨_, z, rfl⟩)
            rw [valV_neg yn]
            exact ih n2 z
      exact gen kvs hn hmem
    have s := X1.sec q q1 q8
    rw [hval] at s
    cases e : (untold c kvs i).secrets.getD (q - 1) none with
    | none =>
      rw [e] at s
      cases s
    | some sc =>
      rw [e] at s
      obtain ⟨p, dx2, wd, fr, hx, o, ro⟩ := s
      have hx : x = .ref p := Option.some.inj hx
      subst hx
      have psd : p ≠ sd := ne_role X.rsd (fun z => by rw [ro.p] at z; cases z)
      have hp : H' p = some (.ins CS dx2 (sfs sc ((untold c kvs i).told.contains q) wd fr)) := (upd_ne psd).symm.trans o.ob
      show sFld _ _ _ _ _ (σ'.set 1 (some (.ref p))) H'
      rw [set_none (σ := [some (.ref a), none]) g1]
      refine (fld_one hp (y := .bl false) ev_c (ev_var rfl) T.clCS T.nCS_told (by show 6 < 1000; decide) fun H3 k3 h3 => ?_).go
      rw [sp_told] at h3
      refine ⟨rfl, k3 _ _ g2 (fun z => psd z.symm), ?_, fun b u hb hn => k3 b u (g4 b u hb hn) (hn.ne ro.p (by intro h; cases h))⟩
      have hun : ∀ j, (untold c kvs (i + 1)).told.contains j = ((untold c kvs i).told.contains j && !decide (key q = key j)) := fun j => by
        show (c.told.filter _).contains j = ((c.told.filter _).contains j && _)
        rw [contains_filter, contains_filter, List.take_add_one, hky]
        show (c.told.contains j && !((kvs.take i ++ [(key q, V.ref p)]).any fun kv => decide (kv.1 = key j))) = _
        rw [List.any_append, Bool.not_or, ← Bool.and_assoc]
        simp
      have X2 := X1.secret (c' := untold c kvs (i + 1)) (s' := sc) (t' := false) (dx2 := dx2) (wd' := wd) (fr' := fr) q1 q8 hval rfl ro.p o.wd ro.wd o.fr ro.fr (fun _ => rfl) rfl rfl rfl e (by rw [hun]; simp) (fun j j1 j8 hj => ⟨rfl, by
        rw [hun]
        have z : ¬ key q = key j := fun w => hj (Int.ofNat.inj (Sum.inl.inj w)).symm
        simp [z]⟩)
      rw [← upd_comm psd] at X2
      refine X2.mono fun b u hb => ?_
      by_cases z : b = sd
      · subst z
        rw [upd_same] at hb ⊢
        exact hb
      · rw [upd_ne z] at hb ⊢
        exact (k3.upd h3) b u hb
  · rintro σ' H' ⟨g1, g2, X1, g4⟩
    refine ⟨g2, ?_⟩
    have s0 : σ'[0]? = some (some (.ref a)) := by
      have z := congrArg (fun τ : L2.St => τ[0]?) g1
      simp only [List.getElem?_set_ne (show 1 ≠ 0 by decide)] at z
      exact z
    refine Sat.go (sa_fld X1.ob (y := .int ((0 : Nat) : Int)) (ev_n 0) (ev_var s0) T.clCC T.nCC_folder (by show 5 < 1000; decide) fun H1 k1 h1 => ?_)
    rw [cp_folder] at h1
    refine fld_one h1 (y := .int (oi none)) ev_c (ev_var s0) T.clCC T.nCC_file (by show 5 < 1000; decide) fun H2 k2 h2 => ?_
    rw [cp_file] at h2
    refine k H2 ⟨dx, sl, sd, ws, kvs, ?_⟩ (fun b o hb hn => ⟨rfl, ?_⟩)
    · have X3 := (X1.own c.active 0 none).mono ((k1.trans k2).upd h2)
      refine X3.retold (c' := Sd27.reset c) (fun _ => rfl) rfl rfl rfl rfl (fun q s q1 q8 e => ?_)
      have e : c.secrets.getD (q - 1) none = some s := e
      show ([] : List Nat).contains q = (c.told.filter _).contains q
      rw [contains_filter, List.take_length]
      have sq := X.sec q q1 q8
      rw [e] at sq
      obtain ⟨p, _, _, _, hv, _⟩ := sq
      have hin : (kvs.any fun kv => decide (kv.1 = key q)) = true := by
        rw [valV_any, hv]
        rfl
      rw [hin]
      simp
    · have z : b ≠ a := hn.ne X.ra (by intro h; cases h)
      exact (k1.trans k2) _ _ ((upd_ne (hn.ne X.rsd (by intro h; cases h))).trans (g4 b o hb hn)) z
end
end Cc
end
section
namespace Cc
open PySem PySem.Spec PyProof.Rows L2 Evl
open C8 (pe_c pe_mk pe_mt pe_mt0 pe_gc)
open Sd27 (Card File Secret Kind Cmd isFolder)
section
variable {P : Program} {w : World} {K : PySem.W.Frag} {mg : Str → Option Value} {base : Heap} {CF CS CC CR RN : Addr}

theorem ok_choose (T : Tx K mg CF CS CC CR RN) {f : Addr} {fd : FuncData} (F : C8.Def K mg "choose" s_choose f fd) (b : Binds K fd ["card", "request"] []) (c_choice_status : C8.Cal P w K mg base 1 "choice_status" (sp_choice_status CR) []) (c_find_choice : C8.Cal P w K mg base 4 "find_choice" (sp_find_choice CF CS CC CR) []) (c_Card_choose_inner : C8.Met P w K mg base 1 CC "choose_inner" (sp_choose_inner CF CS CC) []) (c_reply : C8.Cal P w K mg base 2 "reply" sp_reply []) (c_only : C8.Cal P w K mg base 3 "only" sp_only []) (c_said_of : C8.Cal P w K mg base 3 "said_of" (sp_said_of CF) []) :
    C8.Cal P w K mg base 5 "choose" (CmdP CF CS CC CR mChoose) [] := by
  have S := sc_choose
  refine C8.cal0 F b .nil S (fun vs H Q E h => h.1) (fun cdv A outer s H vs Q E hr h => ⟨_, (pss_cons (ps_set (i := 2) S.nd rfl (Or.inl rfl) (pe_c c_choice_status hr (by decide) rfl (pa_cons (pv 1) pa_nil)))
    (pss_cons (ps_if (pt_cmpR op_ne (pv 2) (pe_gc rfl T.mWELL) (nomark _)) (pss_one (ps_ret (pe_c c_only hr (by decide) rfl (pa_cons (pv 2) pa_nil)))) pss_nil)
    (pss_cons (ps_set (i := 3) S.nd rfl (Or.inl rfl) (pe_c c_find_choice hr (by decide) rfl (pa_cons (pv 0) (pa_cons (pv 1) pa_nil))))
    (pss_cons (ps_if (pt_cmpR op_eq (pv 3) (pe_gc rfl T.mNONE) (nomark _)) (pss_one (ps_ret (pe_c c_only hr (by decide) rfl (pa_cons (pe_gc rfl T.mNOT_THERE) pa_nil)))) pss_nil)
    (pss_cons (ps_set (i := 4) S.nd rfl (Or.inl rfl) (pe_lst pa_nil))
    (pss_cons (ps_if (PW.pt (pw_and (pt_cmpR op_eq (pe_fld (pv 1) rfl) (pe_gc rfl T.mTELL) (nomark _)) (pw_and1 (pt_cmpR op_ne (pe_fld (pv 1) rfl) (pe_gc rfl T.mNOTHING) (nomark _))))) (pss_cons (ps_set (i := 4) S.nd rfl (Or.inl rfl) (pe_c c_said_of hr (by decide) rfl (pa_cons (pe_ix ix_list (pe_fld (pv 0) rfl) (pv 3) (fun _ _ => rfl)) pa_nil)))
      (pss_one (ps_if (pt_cmpR op_gt (pe_callB call_len_seq (by rfl) T.len PySem.boot_len (pa_cons (pv 4) pa_nil)) (pe_fld (pv 1) rfl) (nomark _)) (pss_one (ps_ret (pe_c c_only hr (by decide) rfl (pa_cons (pe_op op_add (pe_gc rfl T.mLENGTH_IS) (pe_callB call_len_seq (by rfl) T.len PySem.boot_len (pa_cons (pv 4) pa_nil))) pa_nil)))) pss_nil))) pss_nil)
    (pss_cons (ps_expr (pe_mt c_Card_choose_inner hr (by decide) (pv 0) (pa_cons (pv 3) pa_nil)))
    (pss_one (ps_ret (pe_c c_reply hr (by decide) rfl (pa_cons (pv 4) (pa_cons (pe_gc rfl T.mWELL) pa_nil)))))))))))), ?_⟩)
  obtain ⟨-, a, q, R, c, k, rfl, hC, g, r, ok, kk⟩ := h
  obtain ⟨dx, sl, sd, ws, kvs, X⟩ := hC
  have hC : CardAt CF CS CC H R a c := ⟨dx, sl, sd, ws, kvs, X⟩
  have kk : OutQ CF CS CC H R a (mChoose c k) Q := kk
  obtain ⟨dxq, d, hq, hd, -⟩ := id r
  refine Sat.go (sa_set (ev_choice_status (ev_var rfl) r) ?_)
  refine sa_when (et_test (ev_op (ev_var rfl) (ev_n 0x9000) rv_neN)) (fun hb => sa_retL (el_only (ev_var rfl)) (leaf0 kk hC (.refl R H) ?_)) fun hb => sa_next ?_
  · exact if_pos (of_decide_eq_true hb)
  have hs : choiceStatus k = 0x9000 := by
    by_cases z : choiceStatus k = 0x9000
    · exact z
    · exact absurd z (of_decide_eq_false hb)
  have hm : mChoose c k = match findChoice c k with
    | none => (c, ([], 0x6A82))
    | some i => match c.at_ i with
      | none => (c, ([], 0))
      | some f => if k.p2 = 0 ∧ k.want ≠ none then
          (if k.want.getD 0 < (said (pfOf i f)).length then (c, ([], 0x6C00 + (said (pfOf i f)).length)) else (chooseIx c i, (said (pfOf i f), 0x9000)))
        else (chooseIx c i, ([], 0x9000)) := if_neg (fun z => z hs)
  refine sa_set (ev_find_choice (ev_var rfl) hC g (ev_var rfl) r hs ok.data) ?_
  refine sa_when (et_test (ev_op (ev_var rfl) ev_c rv_eqOi)) (fun hb => sa_retL (el_only (ev_n 0x6A82)) (leaf0 kk hC (.refl R H) ?_)) fun hb => sa_next ?_
  · rw [hm, Option.isNone_iff_eq_none.mp hb]
  cases hi : findChoice c k with
  | none =>
    rw [hi] at hb
    cases hb
  | some i =>
    obtain ⟨fl, hf, hi64⟩ := findChoice_at g hi
    have fk := g.ok i fl hf
    obtain ⟨p, dxf, n, ct, rc, rs, hw, o, ro⟩ := X.at_ hi64 hf
    have hm : mChoose c k = if k.p2 = 0 ∧ k.want ≠ none then
          (if k.want.getD 0 < (said (pfOf i fl)).length then (c, ([], 0x6C00 + (said (pfOf i fl)).length)) else (chooseIx c i, (said (pfOf i fl), 0x9000)))
        else (chooseIx c i, ([], 0x9000)) := by
      rw [hm, hi]
      show (match c.at_ i with
        | none => _
        | some f => _) = _
      rw [hf]
    have hsl : (said (pfOf i fl)).length ≤ 100 := said_len fk.name
    have fin : ∀ (H1 : Hp) (tp : Addr) (t : List Nat), Ex H H1 → H1 tp = some (.lst (bl t)) → R tp = none → t.length ≤ 100 → mChoose c k = (chooseIx c i, (t, 0x9000)) →
        Sat (tSeq (tDrop (tMeth CC "choose_inner" (sp_choose_inner CF CS CC) [] C8.E0 (tVar 0) (tCons (tVar 3) tNil))) (tRet (tCall sp_reply [] C8.E0 (tCons (tVar 4) (tCons (tC (.int ((36864 : Nat) : Int))) tNil))))) { nx := fun _ H' => Q .non H', rt := Q } [some (.ref a), some (.ref q), some (.int ((choiceStatus k : Nat) : Int)), some (.int (oi (some i))), some (.ref tp)] H1 := by
      intro H1 tp t e1 htp hrt htl hmm
      refine sa_seq (sa_drop fun H2 e2 => do_meth (ev_var rfl) (e2 _ _ (e1 _ _ X.ob)) (cf_no_choose_inner ..) (ep_cons (x := .int (i : Int)) (ev_var rfl) ep_nil) fun vs H3 e3 hv => ?_)
      obtain ⟨r3, rfl, rfl⟩ := hv
      refine ⟨rfl, a, R, c, fl, i, rfl, (hC.mono e1).mono (e2.trans e3), hi64, hf, top_folder g hf, fun H4 hC4 f4 => ?_⟩
      have htp4 := (f4.non (e3 _ _ (e2 _ _ htp)) hrt).2
      exact (sa_retL (el_reply (er_old (ev_var rfl) htp4) (ev_n 0x9000) (by omega)) (leaf kk hC4 (.trans (.of (e1.trans (e2.trans e3))) f4) hmm)).go
    refine sa_setL (xs := bl []) (el_lst ea_nil (by decide)) fun tp H1 htn e1 htp => ?_
    have hrt : R tp = none := X.free htn
    refine sa_when (et_and (et_test (ev_op (ev_fld (ev_var rfl) (e1 _ _ hq) T.clCR T.nCR_second (rf_second ..)) (ev_n 0) rv_eqN)) fun _ => et_test (ev_op (ev_fld (ev_var rfl) (e1 _ _ hq) T.clCR T.nCR_asked (rf_asked ..)) (ev_n 0) rv_neN)) (fun hb => ?_) fun hb => sa_next ?_
    · have hc : k.p2 = 0 ∧ k.want ≠ none := by
        rw [Bool.and_eq_true] at hb
        exact ⟨of_decide_eq_true hb.1, fun z => of_decide_eq_true hb.2 ((wantI_none ok).mpr z)⟩
      rw [if_pos hc] at hm
      have hwI : wantI k.want = k.want.getD 0 := by cases k.want <;> rfl
      refine sa_setL (xs := bl (said (pfOf i fl))) (el_said_of (ev_ixN (i := i) (er_old (ev_fld (ev_var rfl) (e1 _ _ X.ob) T.clCC T.nCC_slots (cf_slots ..)) (e1 _ _ X.osl)) (ev_var rfl) hw) (o.mono e1) fk.name) fun sp H2 hsn e2 hsp => ?_
      have hrs : R sp = none := X.free (fresh_back e1 hsn)
      refine sa_if (et_test (ev_op (ev_lenB (er_old (ev_var rfl) hsp)) (ev_fld (ev_var rfl) (e2 _ _ (e1 _ _ hq)) T.clCR T.nCR_asked (rf_asked ..)) rv_gt)) (fun hb2 => sa_retL (el_only (ev_op (ev_n 0x6C00) (ev_lenB (er_old (ev_var rfl) hsp)) rv_add)) (leaf0 kk (hC.mono (e1.trans e2)) (.of (e1.trans e2)) ?_)) fun hb2 => ?_
      · rw [hm, if_pos (by rw [← hwI]; exact of_decide_eq_true hb2)]
      · refine sa_nx fun H3 e3 => (fin H3 sp _ ((e1.trans e2).trans e3) (e3 _ _ hsp) hrs hsl ?_).go
        rw [hm, if_neg (by rw [← hwI]; exact of_decide_eq_false hb2)]
    · refine fin H1 tp [] e1 htp hrt (by decide) ?_
      rw [hm, if_neg]
      intro z
      have y : ¬ wantI k.want = 0 := fun w => z.2 ((wantI_none ok).mp w)
      simp [z.1, y] at hb
theorem ok_aim (T : Tx K mg CF CS CC CR RN) {f : Addr} {fd : FuncData} (F : C8.Def K mg "aim" s_aim f fd) (b : Binds K fd ["card", "short", "kinds", "writes"] []) (c_Card_chosen_file : C8.Met P w K mg base 1 CC "chosen_file" (sp_chosen_file CF CS CC) []) (c_Card_find_short : C8.Met P w K mg base 2 CC "find_short" (sp_find_short CF CS CC) []) (c_Card_choose_inner : C8.Met P w K mg base 1 CC "choose_inner" (sp_choose_inner CF CS CC) []) (c_Card_allows : C8.Met P w K mg base 1 CC "allows" (sp_allows CF CS CC) []) :
    C8.Cal P w K mg base 3 "aim" (sp_aim CF CS CC K) [] := by
  have S := sc_aim
  refine C8.cal0 F b .nil S (fun vs H Q E h => h.1) (fun cdv A outer s H vs Q E hr h => ⟨_, (pss_cons (ps_if (pt_cmpR op_ne (pv 1) (pe_gc rfl T.mNO_SHORT) (nomark _)) (pss_cons (ps_set (i := 6) S.nd rfl (Or.inl rfl) (pe_mt c_Card_find_short hr (by decide) (pv 0) (pa_cons (pv 1) pa_nil)))
      (pss_cons (ps_if (pt_cmpR op_eq (pv 6) (pe_gc rfl T.mNONE) (nomark _)) (pss_one (ps_ret (pe_gc rfl T.mNOT_THERE))) pss_nil)
      (pss_one (ps_expr (pe_mt c_Card_choose_inner hr (by decide) (pv 0) (pa_cons (pv 6) pa_nil)))))) pss_nil)
    (pss_cons (ps_if (pt_cmpR op_eq (pe_fld (pv 0) rfl) (pe_gc rfl T.mNONE) (nomark _)) (pss_one (ps_ret (pe_gc rfl T.mNONE_CHOSEN))) pss_nil)
    (pss_cons (ps_set (i := 4) S.nd rfl (Or.inl rfl) (pe_mt0 c_Card_chosen_file hr (by decide) (pv 0)))
    (pss_cons (ps_if (pt_cmpR op_notIn_seq (pe_fld (pv 4) rfl) (pv 2) (by rfl)) (pss_one (ps_ret (pe_gc rfl T.mWRONG_KIND))) pss_nil)
    (pss_cons (ps_set (i := 5) S.nd rfl (Or.inl rfl) (pe_fld (pv 4) rfl))
    (pss_cons (ps_if (pt_val (pv 3)) (pss_one (ps_set (i := 5) S.nd rfl (Or.inl rfl) (pe_fld (pv 4) rfl))) pss_nil)
    (pss_cons (ps_if (pt_not (pt_val (pe_mt c_Card_allows hr (by decide) (pv 0) (pa_cons (pv 5) pa_nil)))) (pss_one (ps_ret (pe_gc rfl T.mNO_RIGHT))) pss_nil)
    (pss_one (ps_ret (pe_gc rfl T.mWELL)))))))))), ?_⟩)
  obtain ⟨-, a, R, c, sh, kt, ks, wr, rfl, hC, g, hkt, rkt, kk⟩ := h
  obtain ⟨dx, sl, sd, ws, kvs, X⟩ := hC
  have hC : CardAt CF CS CC H R a c := ⟨dx, sl, sd, ws, kvs, X⟩
  -- what stands behind the choice by a short number
  have fin : ∀ (H1 : Hp) (d : Card) (v : Option V), CardAt CF CS CC H1 R a d → Good d → Fr R H R H1 → aimed c sh = some d →
      Sat (tSeq (tIfS (tTest (tOp rEq (tFld K (tVar 0) "file") (tC (.int (-1))))) (tRet (tC (.int ((27014 : Nat) : Int)))) tNext)
        (tSeq (tAsg (tMeth CC "chosen_file" (sp_chosen_file CF CS CC) [] C8.E0 (tVar 0) tNil) (gName 4))
        (tSeq (tIfS (tTest (tOp (rIn K true) (tFld K (tVar 4) "kind") (tVar 2))) (tRet (tC (.int ((27009 : Nat) : Int)))) tNext)
        (tSeq (tAsg (tFld K (tVar 4) "reading") (gName 5))
        (tSeq (tIfS (tB (tVar 3)) (tAsg (tFld K (tVar 4) "writing") (gName 5)) tNext)
        (tSeq (tIfS (tNot (tB (tMeth CC "allows" (sp_allows CF CS CC) [] C8.E0 (tVar 0) (tCons (tVar 5) tNil)))) (tRet (tC (.int ((27010 : Nat) : Int)))) tNext)
        (tRet (tC (.int ((36864 : Nat) : Int)))))))))) { nx := fun _ H' => Q .non H', rt := Q } [some (.ref a), some (.int (sh : Int)), some (.ref kt), some (.bl wr), none, none, v] H1 := by
    intro H1 d v hD gd f1 hA
    obtain ⟨dx1, sl1, sd1, ws1, kvs1, X1⟩ := hD
    have hD : CardAt CF CS CC H1 R a d := ⟨dx1, sl1, sd1, ws1, kvs1, X1⟩
    have hkt1 := sqt_fr hkt rkt f1
    have hm : mAim c sh ks wr = (d, tailAim d ks wr) := by unfold mAim; rw [hA]
    rw [hm] at kk
    have kq : RetV (.int ((tailAim d ks wr : Nat) : Int)) H1 Q := fun H2 e2 => kk H2 (hD.mono e2) (f1.trans (.of e2))
    unfold tailAim at kq
    refine sa_when (et_test (ev_op (ev_fld (ev_var rfl) X1.ob T.clCC T.nCC_file (cf_file ..)) ev_c rv_eqOi)) (fun hb => sa_ret (ev_n 27014) ?_) fun hb => sa_next ?_
    · rw [Option.isNone_iff_eq_none.mp hb] at kq
      exact kq
    cases hfi : d.file with
    | none =>
      rw [hfi] at hb
      cases hb
    | some i =>
      obtain ⟨fl, hf, hfd, hup⟩ := gd.file i hfi
      obtain ⟨p, dxf, n, ct, rc, rs, hw, o, ro⟩ := X1.at_ (at_lt gd hf) hf
      rw [hfi] at kq
      have kq : RetV (.int (((match d.at_ i with
        | none => 0x6986
        | some f => if kKind f.kind ∈ ks then (if d.may (if wr = true then f.write else f.read) = true then 0x9000 else 0x6982) else 0x6981) : Nat) : Int)) H1 Q := kq
      rw [hf] at kq
      have kq : RetV (.int (((if kKind fl.kind ∈ ks then (if d.may (if wr = true then fl.write else fl.read) = true then 0x9000 else 0x6982) else 0x6981) : Nat) : Int)) H1 Q := kq
      refine sa_set (ev_chosen_file (ev_var rfl) X1 hfi hw) ?_
      refine sa_when (et_test (ev_op (ev_fld (ev_var rfl) o.ob T.clCF T.nCF_kind (ff_kind ..)) (ev_var rfl) (rv_niB hkt1))) (fun hb => sa_ret (ev_n 27009) ?_) fun hb => sa_next ?_
      · have y : (!decide (kKind fl.kind ∈ ks)) = true := hb
        rw [if_neg (fun z => by rw [decide_eq_true z] at y; cases y)] at kq
        exact kq
      have y : (!decide (kKind fl.kind ∈ ks)) = false := hb
      have y2 : kKind fl.kind ∈ ks := Decidable.byContradiction fun z => by rw [decide_eq_false z] at y; cases y
      rw [if_pos y2] at kq
      refine sa_set (ev_fld (ev_var rfl) o.ob T.clCF T.nCF_reading (ff_reading ..)) ?_
      refine sa_ifSet (b := wr) (v := .int (((if wr = true then fl.write else fl.read : Nat)) : Int)) (et_B (ev_var rfl)) (fun hb => ?_) (fun hb => ?_) ?_
      · rw [if_pos hb]
        exact ev_fld (ev_var rfl) o.ob T.clCF T.nCF_writing (ff_writing ..)
      · rw [hb]
        rfl
      refine sa_when (et_not (et_B (ev_allows (ev_var rfl) hD gd (ev_var rfl)))) (fun hb => sa_ret (ev_n 27010) ?_) fun hb => sa_next (sa_ret (ev_n 36864) ?_)
      · rw [if_neg (by simpa using hb)] at kq
        exact kq
      · rw [if_pos (by simpa using hb)] at kq
        exact kq
  refine Sat.go (sa_when (et_test (ev_op (ev_var rfl) (ev_n 0) rv_neN)) (fun hb => ?_) fun hb => sa_next ?_)
  · have hs0 : ¬ sh = 0 := of_decide_eq_true hb
    refine sa_set (ev_find_short (ev_var rfl) hC g (ev_var rfl)) ?_
    refine sa_when (et_test (ev_op (ev_var rfl) ev_c rv_eqOi)) (fun hb => sa_ret (ev_n 27266) ?_) fun hb => sa_next ?_
    · have hA : aimed c sh = none := by
        unfold aimed
        rw [if_neg hs0, Option.isNone_iff_eq_none.mp hb]
        rfl
      have hm : mAim c sh ks wr = (c, 0x6A82) := by unfold mAim; rw [hA]
      rw [hm] at kk
      exact fun H2 e2 => kk H2 (hC.mono e2) (.of e2)
    · cases hi : findShort c sh with
      | none =>
        rw [hi] at hb
        cases hb
      | some i =>
        obtain ⟨fl, hf, hi64⟩ := findShort_at hi
        have hA : aimed c sh = some (chooseIx c i) := by
          unfold aimed
          rw [if_neg hs0, hi]
          rfl
        refine sa_drop fun H2 e2 => do_meth (ev_var rfl) (e2 _ _ X.ob) (cf_no_choose_inner ..) (ep_cons (x := .int (i : Int)) (ev_var rfl) ep_nil) fun vs H3 e3 hv => ?_
        obtain ⟨r3, rfl, rfl⟩ := hv
        refine ⟨rfl, a, R, c, fl, i, rfl, hC.mono (e2.trans e3), hi64, hf, top_folder g hf, fun H4 hC4 f4 => ?_⟩
        exact (fin H4 _ _ hC4 (good_choose g hf) (.trans (.of (e2.trans e3)) f4) hA).go
  · have hs0 : sh = 0 := by simpa using hb
    exact fin H c none hC g (.refl R H) (if_pos hs0)
theorem ok_aim_at_bytes (T : Tx K mg CF CS CC CR RN) {f : Addr} {fd : FuncData} (F : C8.Def K mg "aim_at_bytes" s_aim_at_bytes f fd) (b : Binds K fd ["card", "request", "writes"] []) (c_aim : C8.Cal P w K mg base 3 "aim" (sp_aim CF CS CC K) []) :
    C8.Cal P w K mg base 4 "aim_at_bytes" (sp_aim_at_bytes CF CS CC CR) [] := by
  have S := sc_aim_at_bytes
  refine C8.cal0 F b .nil S (fun vs H Q E h => h.1) (fun cdv A outer s H vs Q E hr h => ⟨_, (pss_cons (ps_if (PW.pt (pw_or (pt_cmpR op_eq (pe_fld (pv 1) rfl) (pe_gc rfl T.mSHORT_BASE) (nomark _)) (pw_or1 (pt_cmpR op_gt (pe_fld (pv 1) rfl) (pe_gc rfl T.mMOST_FIRST) (nomark _))))) (pss_one (ps_ret (pe_gc rfl T.mWRONG_PARAMETERS))) pss_nil)
    (pss_cons (ps_set (i := 3) S.nd rfl (Or.inl rfl) (pe_gc rfl T.mNO_SHORT))
    (pss_cons (ps_if (pt_cmpR op_gt (pe_fld (pv 1) rfl) (pe_gc rfl T.mSHORT_BASE) (nomark _)) (pss_one (ps_set (i := 3) S.nd rfl (Or.inl rfl) (pe_op op_sub (pe_fld (pv 1) rfl) (pe_gc rfl T.mSHORT_BASE)))) pss_nil)
    (pss_one (ps_ret (pe_c c_aim hr (by decide) rfl (pa_cons (pv 0) (pa_cons (pv 3) (pa_cons (pe_tup (pa_cons (pe_gc rfl T.mBYTES) pa_nil)) (pa_cons (pv 2) pa_nil)))))))))), ?_⟩)
  obtain ⟨-, a, R, c, q, k, wr, rfl, hC, g, r, kk⟩ := h
  obtain ⟨dx, sl, sd, ws, kvs, X⟩ := id hC
  obtain ⟨dxq, d, hq, hd, -⟩ := id r
  unfold mAimB at kk
  refine Sat.go (sa_when (et_or (et_test (ev_op (ev_fld (ev_var rfl) hq T.clCR T.nCR_first (rf_first ..)) (ev_n 128) rv_eqN)) fun _ => et_test (ev_op (ev_fld (ev_var rfl) hq T.clCR T.nCR_first (rf_first ..)) (ev_n 159) rv_gt)) (fun hb => sa_ret (ev_n 0x6A86) ?_) fun hb => sa_next ?_)
  · rw [if_pos (by simpa using hb)] at kk
    exact fun H2 e2 => kk H2 (hC.mono e2) (.of e2)
  rw [if_neg (by simpa using hb)] at kk
  refine sa_set (ev_n 0) ?_
  refine sa_ifSet (v := .int (((if 128 < k.p1 then k.p1 - 128 else 0 : Nat)) : Int)) (et_test (ev_op (ev_fld (ev_var rfl) hq T.clCR T.nCR_first (rf_first ..)) (ev_n 128) rv_gt)) (fun hb => ?_) (fun hb => ?_) ?_
  · have z : 128 < k.p1 := of_decide_eq_true hb
    rw [if_pos z]
    exact ev_op (ev_fld (ev_var rfl) hq T.clCR T.nCR_first (rf_first ..)) (ev_n 128) (rv_sub (by omega))
  · rw [if_neg (of_decide_eq_false hb)]
    rfl
  refine sa_retE fun H1 e1 => do_call (ep_cons (ev_var rfl) (ep_cons (ev_var rfl) (ep_consUn (xs := bl [1]) (eu_tup (ea_cons (ev_n 1) ea_nil) (by show 1 ≤ 100000; decide)) (ep_cons (ev_var rfl) ep_nil)))) fun vs H2 e2 hv => ?_
  obtain ⟨r1, rfl, r2, rfl, t, r3, rfl, htn, ht, r4, rfl, rfl⟩ := hv
  exact ⟨rfl, a, R, c, _, t, [1], wr, rfl, hC.mono (e1.trans e2), g, st_of ht, X.free (fresh_back e1 htn), fun H3 hC3 f3 => kk H3 hC3 (.trans (.of (e1.trans e2)) f3)⟩
theorem ok_aim_at_records (T : Tx K mg CF CS CC CR RN) {f : Addr} {fd : FuncData} (F : C8.Def K mg "aim_at_records" s_aim_at_records f fd) (b : Binds K fd ["card", "request", "ending", "writes"] []) (c_aim : C8.Cal P w K mg base 3 "aim" (sp_aim CF CS CC K) []) :
    C8.Cal P w K mg base 4 "aim_at_records" (sp_aim_at_records CF CS CC CR) [] := by
  have S := sc_aim_at_records
  refine C8.cal0 F b .nil S (fun vs H Q E h => h.1) (fun cdv A outer s H vs Q E hr h => ⟨_, (pss_cons (ps_set (i := 4) S.nd rfl (Or.inl rfl) (pe_op op_fdiv (pe_fld (pv 1) rfl) pe_int))
    (pss_cons (ps_if (PW.pt (pw_or (pt_cmpR op_ne (pe_op op_mod (pe_fld (pv 1) rfl) pe_int) (pv 2) (nomark _)) (pw_or1 (pt_cmpR op_eq (pv 4) (pe_gc rfl T.mNOT_A_SHORT) (nomark _))))) (pss_one (ps_ret (pe_gc rfl T.mWRONG_PARAMETERS))) pss_nil)
    (pss_one (ps_ret (pe_c c_aim hr (by decide) rfl (pa_cons (pv 0) (pa_cons (pv 4) (pa_cons (pe_tup (pa_cons (pe_gc rfl T.mRECORDS) (pa_cons (pe_gc rfl T.mROUND) pa_nil))) (pa_cons (pv 3) pa_nil))))))))), ?_⟩)
  obtain ⟨-, a, R, c, q, k, low, wr, rfl, hC, g, r, kk⟩ := h
  obtain ⟨dx, sl, sd, ws, kvs, X⟩ := id hC
  obtain ⟨dxq, d, hq, hd, -⟩ := id r
  unfold mAimR at kk
  refine Sat.go (sa_set (ev_op (ev_fld (ev_var rfl) hq T.clCR T.nCR_second (rf_second ..)) (ev_n 8) (rv_div (by decide) (by decide))) ?_)
  refine sa_when (et_or (et_test (ev_op (ev_op (ev_fld (ev_var rfl) hq T.clCR T.nCR_second (rf_second ..)) (ev_n 8) (rv_mod (by decide))) (ev_var rfl) rv_neN)) fun _ => et_test (ev_op (ev_var rfl) (ev_n 31) rv_eqN)) (fun hb => sa_ret (ev_n 0x6A86) ?_) fun hb => sa_next ?_
  · rw [if_pos (by simpa using hb)] at kk
    exact fun H2 e2 => kk H2 (hC.mono e2) (.of e2)
  rw [if_neg (by simpa using hb)] at kk
  refine sa_retE fun H1 e1 => do_call (ep_cons (ev_var rfl) (ep_cons (ev_var rfl) (ep_consUn (xs := bl [2, 6]) (eu_tup (ea_cons (ev_n 2) (ea_cons (ev_n 6) ea_nil)) (by show 2 ≤ 100000; decide)) (ep_cons (ev_var rfl) ep_nil)))) fun vs H2 e2 hv => ?_
  obtain ⟨r1, rfl, r2, rfl, t, r3, rfl, htn, ht, r4, rfl, rfl⟩ := hv
  exact ⟨rfl, a, R, c, _, t, [2, 6], wr, rfl, hC.mono (e1.trans e2), g, st_of ht, X.free (fresh_back e1 htn), fun H3 hC3 f3 => kk H3 hC3 (.trans (.of (e1.trans e2)) f3)⟩
end
end Cc
end
section
namespace Cc
open PySem PySem.Spec PyProof.Rows L2 Evl
open C8 (pe_c pe_mk pe_mt pe_mt0 pe_gc)
open Sd27 (Card File Secret Kind Cmd isFolder)
section
variable {P : Program} {w : World} {K : PySem.W.Frag} {mg : Str → Option Value} {base : Heap} {CF CS CC CR RN : Addr}

theorem ok_told_wrong (T : Tx K mg CF CS CC CR RN) {f : Addr} {fd : FuncData} (F : C8.Def K mg "told_wrong" s_told_wrong f fd) (b : Binds K fd ["secret"] []) (c_only : C8.Cal P w K mg base 3 "only" sp_only []) :
    C8.Cal P w K mg base 4 "told_wrong" (sp_told_wrong CS) [] := by
  have S := sc_told_wrong
  refine C8.cal0 F b .nil S (fun vs H Q E h => h.1) (fun cdv A outer s H vs Q E hr h => ⟨_, (pss_cons (ps_fld (pv 0) pe_bl rfl)
    (pss_cons (ps_fld (pv 0) (pe_op op_sub (pe_fld (pv 0) rfl) pe_int) rfl)
    (pss_one (ps_ret (pe_c c_only hr (by decide) rfl (pa_cons (pe_op op_add (pe_gc rfl T.mTRIES_LEFT) (pe_fld (pv 0) rfl)) pa_nil)))))), ?_⟩)
  obtain ⟨-, p, sc, told, dx, wd, fr, rfl, o, hl, k⟩ := h
  have wp : wd ≠ p := fun z => by have y := o.wd; rw [z, o.ob] at y; cases y
  have fp : fr ≠ p := fun z => by have y := o.fr; rw [z, o.ob] at y; cases y
  refine Sat.go (sa_fld o.ob (y := .bl false) ev_c (ev_var rfl) T.clCS T.nCS_told (by show 6 < 1000; decide) fun H1 k1 h1 => ?_)
  rw [sp_told] at h1
  refine sa_fld h1 (ev_op (ev_fld (ev_var rfl) h1 T.clCS T.nCS_tries (sf_tries ..)) (ev_n 1) (rv_sub hl)) (ev_var rfl) T.clCS T.nCS_tries (by show 6 < 1000; decide) fun H2 k2 h2 => ?_
  rw [sp_tries] at h2
  have kp := k1.trans k2
  refine sa_retL (el_only (ev_op (ev_n 0x63C0) (ev_fld (ev_var rfl) h2 T.clCS T.nCS_tries (sf_tries ..)) rv_add)) fun r H3 hr e3 h3 => ?_
  exact k H3 r (kp.trans (.of e3)) ⟨e3 _ _ h2, e3 _ _ (kp _ _ o.wd wp), e3 _ _ (kp _ _ o.fr fp)⟩ (kp.fresh h2 hr) h3
theorem ok_renew (T : Tx K mg CF CS CC CR RN) {f : Addr} {fd : FuncData} (F : C8.Def K mg "renew" s_renew f fd) (b : Binds K fd ["secret", "word"] []) (c_only : C8.Cal P w K mg base 3 "only" sp_only []) :
    C8.Cal P w K mg base 4 "renew" (sp_renew CS) [] := by
  have S := sc_renew
  refine C8.cal0 F b .nil S (fun vs H Q E h => h.1) (fun cdv A outer s H vs Q E hr h => ⟨_, (pss_cons (ps_fld (pv 0) (pv 1) rfl)
    (pss_cons (ps_fld (pv 0) (pe_fld (pv 0) rfl) rfl)
    (pss_cons (ps_fld (pv 0) pe_bl rfl)
    (pss_one (ps_ret (pe_c c_only hr (by decide) rfl (pa_cons (pe_gc rfl T.mWELL) pa_nil))))))), ?_⟩)
  obtain ⟨-, p, sc, told, dx, wd, fr, w2, l, rfl, o, hw, k⟩ := h
  have wp : w2 ≠ p := fun z => by rw [z, o.ob] at hw; cases hw
  have fp : fr ≠ p := fun z => by have y := o.fr; rw [z, o.ob] at y; cases y
  refine Sat.go (sa_fld o.ob (ev_var rfl) (ev_var rfl) T.clCS T.nCS_word (by show 6 < 1000; decide) fun H1 k1 h1 => ?_)
  rw [sp_word (l := l)] at h1
  refine sa_fld h1 (ev_fld (ev_var rfl) h1 T.clCS T.nCS_most_tries (sf_most_tries ..)) (ev_var rfl) T.clCS T.nCS_tries (by show 6 < 1000; decide) fun H2 k2 h2 => ?_
  rw [sp_tries] at h2
  refine sa_fld h2 (y := .bl false) ev_c (ev_var rfl) T.clCS T.nCS_told (by show 6 < 1000; decide) fun H3 k3 h3 => ?_
  rw [sp_told] at h3
  have kp := (k1.trans k2).trans k3
  refine sa_retL (el_only (ev_n 0x9000)) fun r H4 hr e4 h4 => ?_
  exact k H4 r (kp.trans (.of e4)) ⟨e4 _ _ h3, e4 _ _ (kp _ _ hw wp), e4 _ _ (kp _ _ o.fr fp)⟩ (kp.fresh h3 hr) h4
theorem ok_activate (T : Tx K mg CF CS CC CR RN) {f : Addr} {fd : FuncData} (F : C8.Def K mg "activate" s_activate f fd) (b : Binds K fd ["card", "request"] []) (c_Card_begin_anew : C8.Met P w K mg base 1 CC "begin_anew" (sp_begin_anew CF CS CC) []) (c_only : C8.Cal P w K mg base 3 "only" sp_only []) (c_Request_is_plain : C8.Met P w K mg base 1 CR "is_plain" (sp_is_plain CR) []) (c_Request_brings : C8.Met P w K mg base 1 CR "brings" (sp_brings CR) []) :
    C8.Cal P w K mg base 4 "activate" (CmdP CF CS CC CR mActivate) [] := by
  have S := sc_activate
  refine C8.cal0 F b .nil S (fun vs H Q E h => h.1) (fun cdv A outer s H vs Q E hr h => ⟨_, (pss_cons (ps_if (pt_not (pt_val (pe_mt0 c_Request_is_plain hr (by decide) (pv 1)))) (pss_one (ps_ret (pe_c c_only hr (by decide) rfl (pa_cons (pe_gc rfl T.mWRONG_PARAMETERS) pa_nil)))) pss_nil)
    (pss_cons (ps_if (pt_not (pt_val (pe_mt c_Request_brings hr (by decide) (pv 1) (pa_cons pe_int pa_nil)))) (pss_one (ps_ret (pe_c c_only hr (by decide) rfl (pa_cons (pe_gc rfl T.mWRONG_LENGTH) pa_nil)))) pss_nil)
    (pss_cons (ps_if (pt_val (pe_fld (pv 0) rfl)) (pss_one (ps_ret (pe_c c_only hr (by decide) rfl (pa_cons (pe_gc rfl T.mNOT_NOW) pa_nil)))) pss_nil)
    (pss_cons (ps_fld (pv 0) pe_bl rfl)
    (pss_cons (ps_expr (pe_mt0 c_Card_begin_anew hr (by decide) (pv 0)))
    (pss_one (ps_ret (pe_c c_only hr (by decide) rfl (pa_cons (pe_gc rfl T.mWELL) pa_nil))))))))), ?_⟩)
  obtain ⟨-, a, q, R, c, k, rfl, hC, g, r, ok, kk⟩ := h
  obtain ⟨dx, sl, sd, ws, kvs, X⟩ := hC
  have hC : CardAt CF CS CC H R a c := ⟨dx, sl, sd, ws, kvs, X⟩
  have kk : OutQ CF CS CC H R a (mActivate c k) Q := kk
  refine Sat.go (sa_when (et_not (et_B (ev_is_plain (ev_var rfl) r))) (fun hb => sa_retL (el_only (ev_n 0x6A86)) (leaf0 kk hC (.refl R H) ?_)) fun hb => sa_next ?_)
  · exact if_pos (nt hb)
  have hm : mActivate c k = if brings k 0 = false then out c 0x6700 else if c.active = true then out c 0x6985 else out { c with active := true, told := [], folder := 0, file := none } 0x9000 := if_neg (nnf hb)
  refine sa_when (et_not (et_B (ev_brings (ev_var rfl) r (ev_n 0)))) (fun hb => sa_retL (el_only (ev_n 0x6700)) (leaf0 kk hC (.refl R H) ?_)) fun hb => sa_next ?_
  · rw [hm]
    exact if_pos (nt hb)
  rw [if_neg (nnf hb)] at hm
  refine sa_when (et_B (ev_fld (ev_var rfl) X.ob T.clCC T.nCC_active (cf_active ..))) (fun hb => sa_retL (el_only (ev_n 0x6985)) (leaf0 kk hC (.refl R H) ?_)) fun hb => sa_next ?_
  · rw [hm]
    exact if_pos hb
  rw [if_neg (by rw [hb]; decide)] at hm
  refine sa_fld X.ob (y := .bl true) ev_c (ev_var rfl) T.clCC T.nCC_active (by show 5 < 1000; decide) fun H1 k1 h1 => ?_
  rw [cp_active] at h1
  have X1 := (X.own true c.folder c.file).mono (k1.upd h1)
  refine sa_seq (sa_drop fun H2 e2 => do_meth (ev_var rfl) (e2 _ _ X1.ob) (cf_no_begin_anew ..) ep_nil fun vs H3 e3 hv => ?_)
  subst hv
  refine ⟨rfl, a, R, _, rfl, ⟨dx, sl, sd, ws, kvs, X1.mono (e2.trans e3)⟩, fun H4 hC4 f4 => ?_⟩
  exact (sa_retL (σ := [some (.ref a), some (.ref q)]) (el_only (ev_n 0x9000)) (leaf0 kk hC4 ((Fr.keep k1 X.ra).trans ((Fr.of (e2.trans e3)).trans f4)) hm)).go
theorem ok_take_away (T : Tx K mg CF CS CC CR RN) {f : Addr} {fd : FuncData} (F : C8.Def K mg "take_away" s_take_away f fd) (b : Binds K fd ["card", "request"] []) (c_Card_find_number : C8.Met P w K mg base 2 CC "find_number" (sp_find_number CF CS CC) []) (c_Card_take_out : C8.Met P w K mg base 1 CC "take_out" (sp_take_out CF CS CC) []) (c_only : C8.Cal P w K mg base 3 "only" sp_only []) (c_Request_is_plain : C8.Met P w K mg base 1 CR "is_plain" (sp_is_plain CR) []) (c_Request_brings : C8.Met P w K mg base 1 CR "brings" (sp_brings CR) []) (c_may_make : C8.Cal P w K mg base 2 "may_make" (sp_may_make CF CS CC) []) (c_number_of : C8.Cal P w K mg base 1 "number_of" sp_number_of []) (c_Card_inside : C8.Met P w K mg base 1 CC "inside" (sp_inside CF CS CC) []) :
    C8.Cal P w K mg base 4 "take_away" (CmdP CF CS CC CR mTake) [] := by
  have S := sc_take_away
  refine C8.cal0 F b .nil S (fun vs H Q E h => h.1) (fun cdv A outer s H vs Q E hr h => ⟨_, (pss_cons (ps_if (pt_not (pt_val (pe_mt0 c_Request_is_plain hr (by decide) (pv 1)))) (pss_one (ps_ret (pe_c c_only hr (by decide) rfl (pa_cons (pe_gc rfl T.mWRONG_PARAMETERS) pa_nil)))) pss_nil)
    (pss_cons (ps_if (pt_not (pt_val (pe_mt c_Request_brings hr (by decide) (pv 1) (pa_cons pe_int pa_nil)))) (pss_one (ps_ret (pe_c c_only hr (by decide) rfl (pa_cons (pe_gc rfl T.mWRONG_LENGTH) pa_nil)))) pss_nil)
    (pss_cons (ps_if (pt_not (pt_val (pe_c c_may_make hr (by decide) rfl (pa_cons (pv 0) pa_nil)))) (pss_one (ps_ret (pe_c c_only hr (by decide) rfl (pa_cons (pe_gc rfl T.mNO_RIGHT) pa_nil)))) pss_nil)
    (pss_cons (ps_set (i := 2) S.nd rfl (Or.inl rfl) (pe_mt c_Card_find_number hr (by decide) (pv 0) (pa_cons (pe_fld (pv 0) rfl) (pa_cons (pe_c c_number_of hr (by decide) rfl (pa_cons (pe_fld (pv 1) rfl) pa_nil)) pa_nil))))
    (pss_cons (ps_if (pt_cmpR op_eq (pv 2) (pe_gc rfl T.mNONE) (nomark _)) (pss_one (ps_ret (pe_c c_only hr (by decide) rfl (pa_cons (pe_gc rfl T.mNOT_THERE) pa_nil)))) pss_nil)
    (pss_cons (ps_if (pt_cmpR op_gt (pe_callB call_len_seq (by rfl) T.len PySem.boot_len (pa_cons (pe_mt c_Card_inside hr (by decide) (pv 0) (pa_cons (pv 2) pa_nil)) pa_nil)) pe_int (nomark _)) (pss_one (ps_ret (pe_c c_only hr (by decide) rfl (pa_cons (pe_gc rfl T.mNOT_NOW) pa_nil)))) pss_nil)
    (pss_cons (ps_expr (pe_mt c_Card_take_out hr (by decide) (pv 0) (pa_cons (pv 2) pa_nil)))
    (pss_one (ps_ret (pe_c c_only hr (by decide) rfl (pa_cons (pe_gc rfl T.mWELL) pa_nil))))))))))), ?_⟩)
  obtain ⟨-, a, q, R, c, k, rfl, hC, g, r, ok, kk⟩ := h
  obtain ⟨dx, sl, sd, ws, kvs, X⟩ := hC
  have hC : CardAt CF CS CC H R a c := ⟨dx, sl, sd, ws, kvs, X⟩
  have kk : OutQ CF CS CC H R a (mTake c k) Q := kk
  obtain ⟨dxq, d, hq, hd, -⟩ := id r
  refine Sat.go (sa_when (et_not (et_B (ev_is_plain (ev_var rfl) r))) (fun hb => sa_retL (el_only (ev_n 0x6A86)) (leaf0 kk hC (.refl R H) ?_)) fun hb => sa_next ?_)
  · exact if_pos (nt hb)
  have hm : mTake c k = if brings k 2 = false then out c 0x6700 else if mayMake c = false then out c 0x6982
    else match findNum c c.folder (num2 k.data) with
      | none => out c 0x6A82
      | some i => if 0 < (insIx c i).length then out c 0x6985 else out (taken c i) 0x9000 := if_neg (nnf hb)
  refine sa_when (et_not (et_B (ev_brings (ev_var rfl) r (ev_n 2)))) (fun hb => sa_retL (el_only (ev_n 0x6700)) (leaf0 kk hC (.refl R H) ?_)) fun hb => sa_next ?_
  · rw [hm]
    exact if_pos (nt hb)
  rw [if_neg (nnf hb)] at hm
  have h2 : k.data.length = 2 := by
    have z : brings k 2 = true := nf hb
    unfold brings at z
    simp at z
    exact z.2
  refine sa_when (et_not (et_B (ev_may_make (ev_var rfl) hC g))) (fun hb => sa_retL (el_only (ev_n 0x6982)) (leaf0 kk hC (.refl R H) ?_)) fun hb => sa_next ?_
  · rw [hm]
    exact if_pos (nt hb)
  rw [if_neg (nnf hb)] at hm
  refine sa_set (ev_find_number (ev_var rfl) hC g (ev_fld (ev_var rfl) X.ob T.clCC T.nCC_folder (cf_folder ..)) (ev_number_of (er_old (ev_fld (ev_var rfl) hq T.clCR T.nCR_data (rf_data ..)) hd) (by omega))) ?_
  refine sa_when (et_test (ev_op (ev_var rfl) ev_c rv_eqOi)) (fun hb => sa_retL (el_only (ev_n 0x6A82)) (leaf0 kk hC (.refl R H) ?_)) fun hb => sa_next ?_
  · rw [hm, Option.isNone_iff_eq_none.mp hb]
    rfl
  cases hi : findNum c c.folder (num2 k.data) with
  | none =>
    rw [hi] at hb
    cases hb
  | some i =>
    rw [hi] at hm
    have hm : mTake c k = if 0 < (insIx c i).length then out c 0x6985 else out (taken c i) 0x9000 := hm
    obtain ⟨fl, hf, hi64⟩ := findNum_at hi
    refine sa_when (et_test (ev_op (ev_lenB (er_new (el_inside (d := i) (ev_var rfl) hC g (ev_var rfl)))) (ev_n 0) rv_gt)) (fun hb => sa_retL (el_only (ev_n 0x6985)) (leaf0 kk hC (.refl R H) ?_)) fun hb => sa_next ?_
    · rw [hm]
      exact if_pos (of_decide_eq_true hb)
    rw [if_neg (of_decide_eq_false hb)] at hm
    refine sa_seq (sa_drop fun H2 e2 => do_meth (ev_var rfl) (e2 _ _ X.ob) (cf_no_take_out ..) (ep_cons (x := .int (i : Int)) (ev_var rfl) ep_nil) fun vs H3 e3 hv => ?_)
    obtain ⟨r3, rfl, rfl⟩ := hv
    refine ⟨rfl, a, R, c, i, rfl, hC.mono (e2.trans e3), hi64, fun H4 hC4 f4 => ?_⟩
    exact (sa_retL (σ := [some (.ref a), some (.ref q), some (.int (oi (some i)))]) (el_only (ev_n 0x9000)) (leaf0 kk hC4 ((Fr.of (e2.trans e3)).trans f4) hm)).go
theorem ok_make_file (T : Tx K mg CF CS CC CR RN) {f : Addr} {fd : FuncData} (F : C8.Def K mg "make_file" s_make_file f fd) (b : Binds K fd ["card", "request"] []) (c_wanted_file : C8.Cal P w K mg base 4 "wanted_file" (sp_wanted_file CF) []) (c_Card_clashes : C8.Met P w K mg base 3 CC "clashes" (sp_clashes CF CS CC) []) (c_Card_put_in : C8.Met P w K mg base 2 CC "put_in" (sp_put_in CF CS CC) []) (c_only : C8.Cal P w K mg base 3 "only" sp_only []) (c_Request_is_plain : C8.Met P w K mg base 1 CR "is_plain" (sp_is_plain CR) []) (c_may_make : C8.Cal P w K mg base 2 "may_make" (sp_may_make CF CS CC) []) (c_Card_has_room_for : C8.Met P w K mg base 2 CC "has_room_for" (sp_has_room_for CF CS CC) []) :
    C8.Cal P w K mg base 5 "make_file" (CmdP CF CS CC CR mMake) [] := by
  have S := sc_make_file
  refine C8.cal0 F b .nil S (fun vs H Q E h => h.1) (fun cdv A outer s H vs Q E hr h => ⟨_, (pss_cons (ps_if (pt_not (pt_val (pe_mt0 c_Request_is_plain hr (by decide) (pv 1)))) (pss_one (ps_ret (pe_c c_only hr (by decide) rfl (pa_cons (pe_gc rfl T.mWRONG_PARAMETERS) pa_nil)))) pss_nil)
    (pss_cons (ps_if (PW.pt (pw_or (pt_cmpR op_eq (pe_callB call_len_seq (by rfl) T.len PySem.boot_len (pa_cons (pe_fld (pv 1) rfl) pa_nil)) pe_int (nomark _)) (pw_or1 (pt_cmpR op_ne (pe_fld (pv 1) rfl) (pe_gc rfl T.mNOTHING) (nomark _))))) (pss_one (ps_ret (pe_c c_only hr (by decide) rfl (pa_cons (pe_gc rfl T.mWRONG_LENGTH) pa_nil)))) pss_nil)
    (pss_cons (ps_if (pt_not (pt_val (pe_c c_may_make hr (by decide) rfl (pa_cons (pv 0) pa_nil)))) (pss_one (ps_ret (pe_c c_only hr (by decide) rfl (pa_cons (pe_gc rfl T.mNO_RIGHT) pa_nil)))) pss_nil)
    (pss_cons (ps_set (i := 2) S.nd rfl (Or.inl rfl) (pe_c c_wanted_file hr (by decide) rfl (pa_cons (pe_fld (pv 1) rfl) pa_nil)))
    (pss_cons (ps_if (pt_cmpR op_isN (pv 2) pe_non (nomark _)) (pss_one (ps_ret (pe_c c_only hr (by decide) rfl (pa_cons (pe_gc rfl T.mWRONG_DATA) pa_nil)))) pss_nil)
    (pss_cons (ps_if (pt_val (pe_mt c_Card_clashes hr (by decide) (pv 0) (pa_cons (pv 2) pa_nil))) (pss_one (ps_ret (pe_c c_only hr (by decide) rfl (pa_cons (pe_gc rfl T.mIN_USE) pa_nil)))) pss_nil)
    (pss_cons (ps_if (pt_not (pt_val (pe_mt c_Card_has_room_for hr (by decide) (pv 0) (pa_cons (pv 2) pa_nil)))) (pss_one (ps_ret (pe_c c_only hr (by decide) rfl (pa_cons (pe_gc rfl T.mNO_ROOM) pa_nil)))) pss_nil)
    (pss_cons (ps_expr (pe_mt c_Card_put_in hr (by decide) (pv 0) (pa_cons (pv 2) pa_nil)))
    (pss_one (ps_ret (pe_c c_only hr (by decide) rfl (pa_cons (pe_gc rfl T.mWELL) pa_nil)))))))))))), ?_⟩)
  obtain ⟨-, a, q, R, c, k, rfl, hC, g, r, ok, kk⟩ := h
  obtain ⟨dx, sl, sd, ws, kvs, X⟩ := hC
  have hC : CardAt CF CS CC H R a c := ⟨dx, sl, sd, ws, kvs, X⟩
  have kk : OutQ CF CS CC H R a (mMake c k) Q := kk
  obtain ⟨dxq, d, hq, hd, -⟩ := id r
  refine Sat.go (sa_when (et_not (et_B (ev_is_plain (ev_var rfl) r))) (fun hb => sa_retL (el_only (ev_n 0x6A86)) (leaf0 kk hC (.refl R H) ?_)) fun hb => sa_next ?_)
  · exact if_pos (nt hb)
  have hm : mMake c k = if k.data.length = 0 ∨ wantI k.want ≠ 0 then out c 0x6700 else if mayMake c = false then out c 0x6982
    else match wantedPF k.data with
      | none => out c 0x6A80
      | some g => if clash c g = true then out c 0x6A89 else if hasRoom c g = false then out c 0x6A84
        else match freeIx c with
          | none => out c 0
          | some j => out (chooseIx (putFile c j (toFile g c.folder)) j) 0x9000 := if_neg (nnf hb)
  refine sa_when (et_or (et_test (ev_op (ev_lenB (er_old (ev_fld (ev_var rfl) hq T.clCR T.nCR_data (rf_data ..)) hd)) (ev_n 0) rv_eqN)) fun _ => et_test (ev_op (ev_fld (ev_var rfl) hq T.clCR T.nCR_asked (rf_asked ..)) (ev_n 0) rv_neN)) (fun hb => sa_retL (el_only (ev_n 0x6700)) (leaf0 kk hC (.refl R H) ?_)) fun hb => sa_next ?_
  · rw [hm]
    exact if_pos (by simpa using hb)
  rw [if_neg (by simpa using hb)] at hm
  refine sa_when (et_not (et_B (ev_may_make (ev_var rfl) hC g))) (fun hb => sa_retL (el_only (ev_n 0x6982)) (leaf0 kk hC (.refl R H) ?_)) fun hb => sa_next ?_
  · rw [hm]
    exact if_pos (nt hb)
  rw [if_neg (nnf hb)] at hm
  refine sa_asgE fun H1 e1 => do_call (ep_consR (er_old (ev_fld (ev_var rfl) (e1 _ _ hq) T.clCR T.nCR_data (rf_data ..)) (e1 _ _ hd)) ep_nil) fun vs H2 e2 hv => ?_
  obtain ⟨dp, r2, rfl, hdp, rfl⟩ := hv
  have hdl := ok.data
  refine ⟨rfl, dp, k.data, rfl, hdp, by omega, fun hn => ?_, fun gf hgf p H3 dxf n ct rc f1 f2 f3 f4 g1 g2 e3 o => ?_⟩
  · rw [hn] at hm
    intro H3 e3
    refine Sat.go (sa_when (b := true) (et_is (et_test (ev_op (ev_var rfl) ev_c rv_isN)) rfl) (fun _ => sa_retL (el_only (ev_n 0x6A80)) (leaf0 kk (hC.mono ((e1.trans e2).trans e3)) (.of ((e1.trans e2).trans e3)) hm)) fun z => by cases z)
  · rw [hgf] at hm
    have hm : mMake c k = if clash c gf = true then out c 0x6A89 else if hasRoom c gf = false then out c 0x6A84
        else match freeIx c with
          | none => out c 0
          | some j => out (chooseIx (putFile c j (toFile gf c.folder)) j) 0x9000 := hm
    have e12 := e1.trans e2
    have eH := e12.trans e3
    have gw := wanted_ok hgf ok.bytes
    have hC3 := hC.mono eH
    refine Sat.go (sa_when (b := false) (et_is (et_test (ev_op (ev_var rfl) ev_c rv_isN)) rfl) (fun z => by cases z) fun _ => sa_next ?_)
    refine sa_when (et_B (ev_clashes (ev_var rfl) hC3 g (ev_var rfl) o)) (fun hb => sa_retL (el_only (ev_n 0x6A89)) (leaf0 kk hC3 (.of eH) ?_)) fun hb => sa_next ?_
    · rw [hm]
      exact if_pos hb
    rw [if_neg (by rw [hb]; decide)] at hm
    refine sa_when (et_not (et_B (ev_has_room_for (ev_var rfl) hC3 g (ev_var rfl) o (by have := gw.len; omega)))) (fun hb => sa_retL (el_only (ev_n 0x6A84)) (leaf0 kk hC3 (.of eH) ?_)) fun hb => sa_next ?_
    · rw [hm]
      exact if_pos (nt hb)
    have hroom : hasRoom c gf = true := nf hb
    rw [if_neg (by rw [hroom]; decide)] at hm
    obtain ⟨j, hj⟩ : ∃ j, freeIx c = some j := by
      unfold hasRoom at hroom
      rw [Bool.and_eq_true] at hroom
      exact Option.isSome_iff_exists.mp hroom.2
    rw [hj] at hm
    have hm : mMake c k = out (chooseIx (putFile c j (toFile gf c.folder)) j) 0x9000 := hm
    have hsz : gf.size ≤ 16384 := by
      unfold hasRoom pfRoom at hroom
      rw [Bool.and_eq_true] at hroom
      have := of_decide_eq_true hroom.1
      omega
    -- the roles of what is new
    have X3 := X.mono eH
    have b1 : H p = none := fresh_back e12 f1
    have b2' : H n = none := fresh_back e12 f2
    have b3 : H ct = none := fresh_back e12 f3
    have b4 : H rc = none := fresh_back e12 f4
    have d1 : rc ≠ p := fun z => by have y := o.rc; rw [z, o.ob] at y; cases y
    have d2 : n ≠ p := fun z => by have y := o.nm; rw [z, o.ob] at y; cases y
    have d3 : ct ≠ p := fun z => by have y := o.ct; rw [z, o.ob] at y; cases y
    have em : Ex (upd H p (.ins CF dxf (ffs gf n ct rc))) H3 := fun b u hb => by
      by_cases z : b = p
      · subst z
        rw [upd_same] at hb
        rw [o.ob, ← hb]
      · rw [upd_ne z] at hb
        exact eH _ _ hb
    have XR := (X.set (r := .file j) (Ex.new (o := .ins CF dxf (ffs gf n ct rc)) b1) b1 (by rw [upd_same]; intro z; cases z)).set (r := .recs j) em (show upd H p _ rc = none from (upd_ne d1).trans b4) (by rw [o.rc]; intro z; cases z)
    have fR : Fr R H (setR (setR R p (.file j)) rc (.recs j)) H3 := fun b u hb hn => ⟨by rw [setR_ne (ne_of_none hb b4), setR_ne (ne_of_none hb b1)], eH _ _ hb⟩
    have ro : FRole (setR (setR R p (.file j)) rc (.recs j)) j p n ct rc [] :=
      ⟨by rw [setR_ne d1.symm, setR_same], by rw [setR_ne g1.symm, setR_ne d2]; exact X.free b2', by rw [setR_ne g2.symm, setR_ne d3]; exact X.free b3, setR_same, fun x hx => by cases hx⟩
    refine sa_seq (sa_drop fun H4 e4 => do_meth (ev_var rfl) (e4 _ _ XR.ob) (cf_no_put_in ..) (ep_cons (x := .ref p) (ev_var rfl) ep_nil) fun vs H5 e5 hv => ?_)
    obtain ⟨r3, rfl, rfl⟩ := hv
    refine ⟨rfl, a, _, c, p, gf, dxf, n, ct, rc, j, rfl, ⟨dx, sl, sd, ws, kvs, XR.mono (e4.trans e5)⟩, g, hj, o.mono (e4.trans e5), ro, hsz, pf_toFile gw, fun H6 hC6 f6 => ?_⟩
    exact (sa_retL (σ := [some (.ref a), some (.ref q), some (.ref p)]) (el_only (ev_n 0x9000)) (leaf0 kk hC6 (fR.trans ((Fr.of (e4.trans e5)).trans f6)) hm)).go
end
end Cc
end
section
namespace Cc
open PySem PySem.Spec PyProof.Rows L2 Evl
open C8 (pe_c pe_mk pe_mt pe_mt0 pe_gc)
open Sd27 (Card File Secret Kind Cmd isFolder)
section
variable {P : Program} {w : World} {K : PySem.W.Frag} {mg : Str → Option Value} {base : Heap} {CF CS CC CR RN : Addr}

theorem ok_read_bytes (T : Tx K mg CF CS CC CR RN) {f : Addr} {fd : FuncData} (F : C8.Def K mg "read_bytes" s_read_bytes f fd) (b : Binds K fd ["card", "request"] []) (c_aim_at_bytes : C8.Cal P w K mg base 4 "aim_at_bytes" (sp_aim_at_bytes CF CS CC CR) []) (c_Card_chosen_file : C8.Met P w K mg base 1 CC "chosen_file" (sp_chosen_file CF CS CC) []) (c_place_of : C8.Cal P w K mg base 1 "place_of" (sp_place_of CR) []) (c_is_behind_end : C8.Cal P w K mg base 1 "is_behind_end" (sp_is_behind_end CF) []) (c_reply : C8.Cal P w K mg base 2 "reply" sp_reply []) (c_only : C8.Cal P w K mg base 3 "only" sp_only []) :
    C8.Cal P w K mg base 5 "read_bytes" (CmdP CF CS CC CR mReadB) [] := by
  have S := sc_read_bytes
  refine C8.cal0 F b .nil S (fun vs H Q E h => h.1) (fun cdv A outer s H vs Q E hr h => ⟨_, (pss_cons (ps_set (i := 2) S.nd rfl (Or.inl rfl) (pe_c c_aim_at_bytes hr (by decide) rfl (pa_cons (pv 0) (pa_cons (pv 1) (pa_cons pe_bl pa_nil)))))
    (pss_cons (ps_if (pt_cmpR op_ne (pv 2) (pe_gc rfl T.mWELL) (nomark _)) (pss_one (ps_ret (pe_c c_only hr (by decide) rfl (pa_cons (pv 2) pa_nil)))) pss_nil)
    (pss_cons (ps_if (PW.pt (pw_or (pt_cmpR op_gt (pe_callB call_len_seq (by rfl) T.len PySem.boot_len (pa_cons (pe_fld (pv 1) rfl) pa_nil)) pe_int (nomark _)) (pw_or1 (pt_cmpR op_eq (pe_fld (pv 1) rfl) (pe_gc rfl T.mNOTHING) (nomark _))))) (pss_one (ps_ret (pe_c c_only hr (by decide) rfl (pa_cons (pe_gc rfl T.mWRONG_LENGTH) pa_nil)))) pss_nil)
    (pss_cons (ps_set (i := 3) S.nd rfl (Or.inl rfl) (pe_mt0 c_Card_chosen_file hr (by decide) (pv 0)))
    (pss_cons (ps_set (i := 4) S.nd rfl (Or.inl rfl) (pe_c c_place_of hr (by decide) rfl (pa_cons (pv 1) pa_nil)))
    (pss_cons (ps_if (pt_val (pe_c c_is_behind_end hr (by decide) rfl (pa_cons (pv 3) (pa_cons (pv 4) pa_nil)))) (pss_one (ps_ret (pe_c c_only hr (by decide) rfl (pa_cons (pe_gc rfl T.mBEHIND_END) pa_nil)))) pss_nil)
    (pss_cons (ps_set (i := 5) S.nd rfl (Or.inl rfl) (pe_slice sl_list (pe_fld (pv 3) rfl) (po_some (pv 4)) (po_some (pe_op op_add (pv 4) (pe_fld (pv 1) rfl)))))
    (pss_cons (ps_if (PW.pt (pw_and (pt_cmpR op_lt (pe_callB call_len_seq (by rfl) T.len PySem.boot_len (pa_cons (pv 5) pa_nil)) (pe_fld (pv 1) rfl) (nomark _)) (pw_and1 (pt_cmpR op_ne (pe_fld (pv 1) rfl) (pe_gc rfl T.mALL) (nomark _))))) (pss_one (ps_ret (pe_c c_reply hr (by decide) rfl (pa_cons (pv 5) (pa_cons (pe_gc rfl T.mLESS_THERE) pa_nil))))) pss_nil)
    (pss_one (ps_ret (pe_c c_reply hr (by decide) rfl (pa_cons (pv 5) (pa_cons (pe_gc rfl T.mWELL) pa_nil))))))))))))), ?_⟩)
  obtain ⟨-, a, q, R, c, k, rfl, hC, g, r, ok, kk⟩ := h
  have kk : OutQ CF CS CC H R a (mReadB c k) Q := kk
  refine Sat.go (sa_asgE fun H1 e1 => do_call (ep_cons (ev_var rfl) (ep_cons (ev_var rfl) (ep_cons (ev_c (v := .bl false)) ep_nil))) fun vs H2 e2 hv => ?_)
  obtain ⟨r1, rfl, r2, rfl, r3, rfl, rfl⟩ := hv
  have e12 := e1.trans e2
  refine ⟨rfl, a, R, c, q, k, false, rfl, hC.mono e12, g, r.mono e12, fun H3 hC3 f3 => ?_⟩
  have f03 : Fr R H R H3 := (Fr.of e12).trans f3
  have r3 := r.fr f03
  obtain ⟨dxq, d, hq, hd, -⟩ := id r3
  refine Sat.go (sa_when (et_test (ev_op (ev_var rfl) (ev_n 0x9000) rv_neN)) (fun hb => sa_retL (el_only (ev_var rfl)) (leaf0 kk hC3 f03 ?_)) fun hb => sa_next ?_)
  · exact if_pos (of_decide_eq_true hb)
  have hs : (mAimB c k false).2 = 0x9000 := Decidable.byContradiction fun z => by rw [decide_eq_true z] at hb; cases hb
  have hm : mReadB c k = if 0 < k.data.length ∨ wantI k.want = 0 then out (mAimB c k false).1 0x6700 else match theFile (mAimB c k false).1 with
    | none => out (mAimB c k false).1 0
    | some x => if behind (kSize x.2.kind) (placeOf k) = true then out (mAimB c k false).1 0x6B00 else
      ((mAimB c k false).1, (((kBytes x.2.kind).drop (placeOf k)).take (wantI k.want), if (((kBytes x.2.kind).drop (placeOf k)).take (wantI k.want)).length < wantI k.want ∧ wantI k.want ≠ 256 then 0x6282 else 0x9000)) := if_neg (fun z => z hs)
  have gd : Good (mAimB c k false).1 := good_aimB g
  obtain ⟨i, fl, hfi, hf, hkd, htf⟩ := aimB_file hs
  generalize (mAimB c k false).1 = d1 at *
  obtain ⟨dx, sl, sd, ws, kvs, X⟩ := id hC3
  obtain ⟨p, dxf, n, ct, rc, rs, hw, o, ro⟩ := X.at_ (at_lt gd hf) hf
  rw [htf] at hm
  refine sa_when (et_or (et_test (ev_op (ev_lenB (er_old (ev_fld (ev_var rfl) hq T.clCR T.nCR_data (rf_data ..)) hd)) (ev_n 0) rv_gt)) fun _ => et_test (ev_op (ev_fld (ev_var rfl) hq T.clCR T.nCR_asked (rf_asked ..)) (ev_n 0) rv_eqN)) (fun hb => sa_retL (el_only (ev_n 0x6700)) (leaf0 kk hC3 f03 ?_)) fun hb => sa_next ?_
  · rw [hm]
    exact if_pos (by simpa using hb)
  have hm : mReadB c k = if behind (kSize fl.kind) (placeOf k) = true then out d1 0x6B00 else
      (d1, (((kBytes fl.kind).drop (placeOf k)).take (wantI k.want), if (((kBytes fl.kind).drop (placeOf k)).take (wantI k.want)).length < wantI k.want ∧ wantI k.want ≠ 256 then 0x6282 else 0x9000)) := by
    rw [hm]
    exact if_neg (by simpa using hb)
  refine sa_set (ev_chosen_file (ev_var rfl) X hfi hw) ?_
  refine sa_set (ev_place_of (ev_var rfl) r3) ?_
  refine sa_when (b := behind (kSize fl.kind) (placeOf k)) (et_B (ev_is_behind_end (ev_var rfl) o (ev_var rfl))) (fun hb => sa_retL (el_only (ev_n 0x6B00)) (leaf0 kk hC3 f03 ?_)) fun hb => sa_next ?_
  · rw [hm]
    exact if_pos hb
  rw [if_neg (by rw [hb]; decide)] at hm
  refine sa_setL (xs := bl (((kBytes fl.kind).drop (placeOf k)).take (wantI k.want))) (el_is (el_cut (er_old (ev_fld (ev_var rfl) o.ob T.clCF T.nCF_content (ff_content ..)) o.ct) (ev_var rfl) (ev_op (ev_var rfl) (ev_fld (ev_var rfl) hq T.clCR T.nCR_asked (rf_asked ..)) rv_add)) (by
    rw [show placeOf k + wantI k.want - placeOf k = wantI k.want by omega]
    rfl)) fun tp H4 htn e4 htp => ?_
  have hlen : (((kBytes fl.kind).drop (placeOf k)).take (wantI k.want)).length ≤ 1000 := by
    have hw2 : wantI k.want ≤ 256 := by
      cases e : k.want with
      | none => exact Nat.zero_le _
      | some n => exact (ok.want n e).2
    rw [List.length_take]
    omega
  refine sa_when (et_and (et_test (ev_op (ev_lenB (er_old (ev_var rfl) htp)) (ev_fld (ev_var rfl) (e4 _ _ hq) T.clCR T.nCR_asked (rf_asked ..)) rv_lt)) fun _ => et_test (ev_op (ev_fld (ev_var rfl) (e4 _ _ hq) T.clCR T.nCR_asked (rf_asked ..)) (ev_n 256) rv_neN)) (fun hb => sa_retL (el_reply (er_old (ev_var rfl) htp) (ev_n 0x6282) hlen) (leaf kk (hC3.mono e4) (f03.trans (.of e4)) ?_)) fun hb => sa_next (sa_retL (el_reply (er_old (ev_var rfl) htp) (ev_n 0x9000) hlen) (leaf kk (hC3.mono e4) (f03.trans (.of e4)) ?_))
  · rw [hm, if_pos (by simpa using hb)]
  · rw [hm, if_neg (by simpa using hb)]
theorem ok_write_bytes (T : Tx K mg CF CS CC CR RN) {f : Addr} {fd : FuncData} (F : C8.Def K mg "write_bytes" s_write_bytes f fd) (b : Binds K fd ["card", "request"] []) (c_aim_at_bytes : C8.Cal P w K mg base 4 "aim_at_bytes" (sp_aim_at_bytes CF CS CC CR) []) (c_Card_chosen_file : C8.Met P w K mg base 1 CC "chosen_file" (sp_chosen_file CF CS CC) []) (c_place_of : C8.Cal P w K mg base 1 "place_of" (sp_place_of CR) []) (c_is_behind_end : C8.Cal P w K mg base 1 "is_behind_end" (sp_is_behind_end CF) []) (c_only : C8.Cal P w K mg base 3 "only" sp_only []) :
    C8.Cal P w K mg base 5 "write_bytes" (CmdP CF CS CC CR mWriteB) [] := by
  have S := sc_write_bytes
  refine C8.cal0 F b .nil S (fun vs H Q E h => h.1) (fun cdv A outer s H vs Q E hr h => ⟨_, (pss_cons (ps_set (i := 2) S.nd rfl (Or.inl rfl) (pe_c c_aim_at_bytes hr (by decide) rfl (pa_cons (pv 0) (pa_cons (pv 1) (pa_cons pe_bl pa_nil)))))
    (pss_cons (ps_if (pt_cmpR op_ne (pv 2) (pe_gc rfl T.mWELL) (nomark _)) (pss_one (ps_ret (pe_c c_only hr (by decide) rfl (pa_cons (pv 2) pa_nil)))) pss_nil)
    (pss_cons (ps_if (PW.pt (pw_or (pt_cmpR op_eq (pe_callB call_len_seq (by rfl) T.len PySem.boot_len (pa_cons (pe_fld (pv 1) rfl) pa_nil)) pe_int (nomark _)) (pw_or1 (pt_cmpR op_ne (pe_fld (pv 1) rfl) (pe_gc rfl T.mNOTHING) (nomark _))))) (pss_one (ps_ret (pe_c c_only hr (by decide) rfl (pa_cons (pe_gc rfl T.mWRONG_LENGTH) pa_nil)))) pss_nil)
    (pss_cons (ps_set (i := 3) S.nd rfl (Or.inl rfl) (pe_mt0 c_Card_chosen_file hr (by decide) (pv 0)))
    (pss_cons (ps_set (i := 4) S.nd rfl (Or.inl rfl) (pe_c c_place_of hr (by decide) rfl (pa_cons (pv 1) pa_nil)))
    (pss_cons (ps_if (pt_val (pe_c c_is_behind_end hr (by decide) rfl (pa_cons (pv 3) (pa_cons (pv 4) pa_nil)))) (pss_one (ps_ret (pe_c c_only hr (by decide) rfl (pa_cons (pe_gc rfl T.mBEHIND_END) pa_nil)))) pss_nil)
    (pss_cons (ps_set (i := 5) S.nd rfl (Or.inl rfl) (pe_op op_add (pv 4) (pe_callB call_len_seq (by rfl) T.len PySem.boot_len (pa_cons (pe_fld (pv 1) rfl) pa_nil))))
    (pss_cons (ps_if (pt_cmpR op_gt (pv 5) (pe_fld (pv 3) rfl) (nomark _)) (pss_one (ps_ret (pe_c c_only hr (by decide) rfl (pa_cons (pe_gc rfl T.mNO_ROOM) pa_nil)))) pss_nil)
    (pss_cons (ps_fld (pv 3) (pe_op op_cat (pe_op op_cat (pe_slice sl_list (pe_fld (pv 3) rfl) po_none (po_some (pv 4))) (pe_fld (pv 1) rfl)) (pe_slice sl_list (pe_fld (pv 3) rfl) (po_some (pv 5)) po_none)) rfl)
    (pss_one (ps_ret (pe_c c_only hr (by decide) rfl (pa_cons (pe_gc rfl T.mWELL) pa_nil))))))))))))), ?_⟩)
  obtain ⟨-, a, q, R, c, k, rfl, hC, g, r, ok, kk⟩ := h
  have kk : OutQ CF CS CC H R a (mWriteB c k) Q := kk
  refine Sat.go (sa_asgE fun H1 e1 => do_call (ep_cons (ev_var rfl) (ep_cons (ev_var rfl) (ep_cons (ev_c (v := .bl true)) ep_nil))) fun vs H2 e2 hv => ?_)
  obtain ⟨r1, rfl, r2, rfl, r3, rfl, rfl⟩ := hv
  have e12 := e1.trans e2
  refine ⟨rfl, a, R, c, q, k, true, rfl, hC.mono e12, g, r.mono e12, fun H3 hC3 f3 => ?_⟩
  have f03 : Fr R H R H3 := (Fr.of e12).trans f3
  have r3 := r.fr f03
  obtain ⟨dxq, d, hq, hd, rq, rd⟩ := id r3
  refine Sat.go (sa_when (et_test (ev_op (ev_var rfl) (ev_n 0x9000) rv_neN)) (fun hb => sa_retL (el_only (ev_var rfl)) (leaf0 kk hC3 f03 ?_)) fun hb => sa_next ?_)
  · exact if_pos (of_decide_eq_true hb)
  have hs : (mAimB c k true).2 = 0x9000 := Decidable.byContradiction fun z => by rw [decide_eq_true z] at hb; cases hb
  have hm : mWriteB c k = if k.data.length = 0 ∨ wantI k.want ≠ 0 then out (mAimB c k true).1 0x6700 else match theFile (mAimB c k true).1 with
    | none => out (mAimB c k true).1 0
    | some x => if behind (kSize x.2.kind) (placeOf k) = true then out (mAimB c k true).1 0x6B00 else if kSize x.2.kind < placeOf k + k.data.length then out (mAimB c k true).1 0x6A84 else
      out ((mAimB c k true).1.put x.1 (some { x.2 with kind := .plain ((kBytes x.2.kind).take (placeOf k) ++ k.data ++ (kBytes x.2.kind).drop (placeOf k + k.data.length)) })) 0x9000 := if_neg (fun z => z hs)
  have gd : Good (mAimB c k true).1 := good_aimB g
  obtain ⟨i, fl, hfi, hf, hkd, htf⟩ := aimB_file hs
  generalize (mAimB c k true).1 = d1 at *
  obtain ⟨dx, sl, sd, ws, kvs, X⟩ := id hC3
  obtain ⟨p, dxf, n, ct, rc, rs, hw, o, ro⟩ := X.at_ (at_lt gd hf) hf
  rw [htf] at hm
  refine sa_when (et_or (et_test (ev_op (ev_lenB (er_old (ev_fld (ev_var rfl) hq T.clCR T.nCR_data (rf_data ..)) hd)) (ev_n 0) rv_eqN)) fun _ => et_test (ev_op (ev_fld (ev_var rfl) hq T.clCR T.nCR_asked (rf_asked ..)) (ev_n 0) rv_neN)) (fun hb => sa_retL (el_only (ev_n 0x6700)) (leaf0 kk hC3 f03 ?_)) fun hb => sa_next ?_
  · rw [hm]
    exact if_pos (by simpa using hb)
  have hm : mWriteB c k = if behind (kSize fl.kind) (placeOf k) = true then out d1 0x6B00 else if kSize fl.kind < placeOf k + k.data.length then out d1 0x6A84 else
      out (d1.put i (some { fl with kind := .plain ((kBytes fl.kind).take (placeOf k) ++ k.data ++ (kBytes fl.kind).drop (placeOf k + k.data.length)) })) 0x9000 := by
    rw [hm]
    exact if_neg (by simpa using hb)
  refine sa_set (ev_chosen_file (ev_var rfl) X hfi hw) ?_
  refine sa_set (ev_place_of (ev_var rfl) r3) ?_
  refine sa_when (b := behind (kSize fl.kind) (placeOf k)) (et_B (ev_is_behind_end (ev_var rfl) o (ev_var rfl))) (fun hb => sa_retL (el_only (ev_n 0x6B00)) (leaf0 kk hC3 f03 ?_)) fun hb => sa_next ?_
  · rw [hm]
    exact if_pos hb
  rw [if_neg (by rw [hb]; decide)] at hm
  refine sa_set (ev_op (ev_var rfl) (ev_lenB (er_old (ev_fld (ev_var rfl) hq T.clCR T.nCR_data (rf_data ..)) hd)) rv_add) ?_
  refine sa_when (et_test (ev_op (ev_var rfl) (ev_fld (ev_var rfl) o.ob T.clCF T.nCF_size (ff_size ..)) rv_gt)) (fun hb => sa_retL (el_only (ev_n 0x6A84)) (leaf0 kk hC3 f03 ?_)) fun hb => sa_next ?_
  · rw [hm]
    exact if_pos (of_decide_eq_true hb)
  have hle : ¬ kSize fl.kind < placeOf k + k.data.length := of_decide_eq_false hb
  rw [if_neg hle] at hm
  have fok := gd.ok i fl hf
  obtain ⟨bs, hbs⟩ : ∃ bs, fl.kind = .plain bs := by
    cases e : fl.kind with
    | plain bs => exact ⟨bs, rfl⟩
    | folder n => rw [e] at hkd; simp [kKind] at hkd
    | rows n m l => rw [e] at hkd; simp [kKind] at hkd
    | round n m l => rw [e] at hkd; simp [kKind] at hkd
  have hsz : bs.length ≤ 16384 := by have := fok.size; rw [hbs] at this; exact this
  have hdl := ok.data
  have hle2 : placeOf k + k.data.length ≤ bs.length := by rw [hbs] at hle; simp only [kSize] at hle; omega
  rw [hbs] at hm
  have hct : H3 ct = some (.lst (bl bs)) := by have z := o.ct; rw [show (pfOf i fl).content = kBytes fl.kind from rfl, hbs] at z; exact z
  refine sa_fldL (xs := bl (bs.take (placeOf k) ++ k.data ++ bs.drop (placeOf k + k.data.length))) o.ob (el_is (el_cat (xs := bl (bs.take (placeOf k) ++ k.data)) (ys := bl (bs.drop (placeOf k + k.data.length))) (er_new (el_is (el_cat (er_new (el_to (er_old (ev_fld (ev_var rfl) o.ob T.clCF T.nCF_content (ff_content ..)) hct) (ev_var rfl))) (er_old (ev_fld (ev_var rfl) hq T.clCR T.nCR_data (rf_data ..)) hd) (by
      rw [bl_len, bl_len, List.length_take]
      show _ ≤ 2 ^ 24
      omega)) (bl_app ..))) (er_new (el_from (er_old (ev_fld (ev_var rfl) o.ob T.clCF T.nCF_content (ff_content ..)) hct) (ev_var rfl))) (by
      rw [bl_len, bl_len, List.length_append, List.length_take, List.length_drop]
      show _ ≤ 2 ^ 24
      omega)) (bl_app ..)) (ev_var rfl) T.clCF T.nCF_content (by show 12 < 1000; decide) fun ct2 H4 hcn k4 hl4 h4 => ?_
  rw [fp_content (l := bs.take (placeOf k) ++ k.data ++ bs.drop (placeOf k + k.data.length))] at h4
  have rct : R ct2 = none := X.free hcn
  have npx : ∀ {b : Addr} {o2 : HO}, R b = none ∨ R b = some (.recs i) → b ≠ p := fun h z => by
    rw [z, ro.p] at h
    rcases h with h | h <;> cases h
  have hpf : pfOf i { fl with kind := .plain (bs.take (placeOf k) ++ k.data ++ bs.drop (placeOf k + k.data.length)) } = { pfOf i fl with content := bs.take (placeOf k) ++ k.data ++ bs.drop (placeOf k + k.data.length) } := by
    unfold pfOf upOf
    rw [hbs]
    simp only [kKind, kName, kSize, kBytes, kLen, kMost, kRecs]
    rw [List.length_append, List.length_append, List.length_take, List.length_drop]
    congr 1
    omega
  have hsl : SlotAt CF H4 R i (.ref p) (some { fl with kind := .plain (bs.take (placeOf k) ++ k.data ++ bs.drop (placeOf k + k.data.length)) }) := by
    refine ⟨p, dxf, n, ct2, rc, rs, rfl, ?_, ⟨ro.p, ro.n, rct, ro.rc, ro.rs⟩⟩
    rw [hpf]
    exact ⟨h4, k4 _ _ o.nm (npx (o2 := .rng 0 0) (.inl ro.n)), hl4, k4 _ _ o.rc (npx (o2 := .rng 0 0) (.inr ro.rc)), o.len, fun j x w hx hw2 => k4 _ _ (o.each j x w hx hw2) (npx (o2 := .rng 0 0) (.inl (ro.rs x (List.mem_of_getElem? hx))))⟩
  have X4 : CardX CF CS CC H4 R a (d1.put i (some { fl with kind := .plain (bs.take (placeOf k) ++ k.data ++ bs.drop (placeOf k + k.data.length)) })) dx sl sd ws kvs := by
    exact X.swap_i ro.p (.inl rfl) k4 (fun w hw2 => by
      rw [hw] at hw2
      cases hw2
      rw [at_put_some hf, if_pos rfl]
      exact hsl) (fun j hj => by rw [at_put_some hf, if_neg hj]) (by rw [h4]; intro z; cases z) rfl rfl rfl rfl rfl
  exact sa_retL (el_only (ev_n 0x9000)) (leaf0 kk ⟨dx, sl, sd, ws, kvs, X4⟩ (f03.trans (Fr.keep k4 ro.p)) hm)
end
end Cc
end
section
namespace Cc
open PySem PySem.Spec PyProof.Rows L2 Evl
open C8 (pe_c pe_mk pe_mt pe_mt0 pe_gc)
open Sd27 (Card File Secret Kind Cmd isFolder)
section
variable {P : Program} {w : World} {K : PySem.W.Frag} {mg : Str → Option Value} {base : Heap} {CF CS CC CR RN : Addr}

theorem ok_read_record (T : Tx K mg CF CS CC CR RN) {f : Addr} {fd : FuncData} (F : C8.Def K mg "read_record" s_read_record f fd) (b : Binds K fd ["card", "request"] []) (c_aim_at_records : C8.Cal P w K mg base 4 "aim_at_records" (sp_aim_at_records CF CS CC CR) []) (c_Card_chosen_file : C8.Met P w K mg base 1 CC "chosen_file" (sp_chosen_file CF CS CC) []) (c_reply : C8.Cal P w K mg base 2 "reply" sp_reply []) (c_only : C8.Cal P w K mg base 3 "only" sp_only []) (c_is_there : C8.Cal P w K mg base 1 "is_there" (sp_is_there CF) []) :
    C8.Cal P w K mg base 5 "read_record" (CmdP CF CS CC CR mReadR) [] := by
  have S := sc_read_record
  refine C8.cal0 F b .nil S (fun vs H Q E h => h.1) (fun cdv A outer s H vs Q E hr h => ⟨_, (pss_cons (ps_set (i := 2) S.nd rfl (Or.inl rfl) (pe_c c_aim_at_records hr (by decide) rfl (pa_cons (pv 0) (pa_cons (pv 1) (pa_cons (pe_gc rfl T.mBY_RECORD_NUMBER) (pa_cons pe_bl pa_nil))))))
    (pss_cons (ps_if (pt_cmpR op_ne (pv 2) (pe_gc rfl T.mWELL) (nomark _)) (pss_one (ps_ret (pe_c c_only hr (by decide) rfl (pa_cons (pv 2) pa_nil)))) pss_nil)
    (pss_cons (ps_if (pt_cmpR op_gt (pe_callB call_len_seq (by rfl) T.len PySem.boot_len (pa_cons (pe_fld (pv 1) rfl) pa_nil)) pe_int (nomark _)) (pss_one (ps_ret (pe_c c_only hr (by decide) rfl (pa_cons (pe_gc rfl T.mWRONG_LENGTH) pa_nil)))) pss_nil)
    (pss_cons (ps_set (i := 3) S.nd rfl (Or.inl rfl) (pe_mt0 c_Card_chosen_file hr (by decide) (pv 0)))
    (pss_cons (ps_if (pt_not (pt_val (pe_c c_is_there hr (by decide) rfl (pa_cons (pv 3) (pa_cons (pe_fld (pv 1) rfl) pa_nil))))) (pss_one (ps_ret (pe_c c_only hr (by decide) rfl (pa_cons (pe_gc rfl T.mNO_RECORD) pa_nil)))) pss_nil)
    (pss_cons (ps_if (pt_cmpR op_eq (pe_fld (pv 1) rfl) (pe_gc rfl T.mNOTHING) (nomark _)) (pss_one (ps_ret (pe_c c_only hr (by decide) rfl (pa_cons (pe_gc rfl T.mWRONG_LENGTH) pa_nil)))) pss_nil)
    (pss_cons (ps_if (pt_cmpR op_notIn_seq (pe_fld (pv 1) rfl) (pe_tup (pa_cons (pe_gc rfl T.mALL) (pa_cons (pe_fld (pv 3) rfl) pa_nil))) (by rfl)) (pss_one (ps_ret (pe_c c_only hr (by decide) rfl (pa_cons (pe_op op_add (pe_gc rfl T.mLENGTH_IS) (pe_fld (pv 3) rfl)) pa_nil)))) pss_nil)
    (pss_one (ps_ret (pe_c c_reply hr (by decide) rfl (pa_cons (pe_ix ix_list (pe_fld (pv 3) rfl) (pe_op op_sub (pe_fld (pv 1) rfl) pe_int) (fun _ _ => rfl)) (pa_cons (pe_gc rfl T.mWELL) pa_nil)))))))))))), ?_⟩)
  obtain ⟨-, a, q, R, c, k, rfl, hC, g, r, ok, kk⟩ := h
  have kk : OutQ CF CS CC H R a (mReadR c k) Q := kk
  refine Sat.go (sa_asgE fun H1 e1 => do_call (ep_cons (ev_var rfl) (ep_cons (ev_var rfl) (ep_cons (ev_n 4) (ep_cons (ev_c (v := .bl false)) ep_nil)))) fun vs H2 e2 hv => ?_)
  obtain ⟨r1, rfl, r2, rfl, r3, rfl, r4, rfl, rfl⟩ := hv
  have e12 := e1.trans e2
  refine ⟨rfl, a, R, c, q, k, 4, false, rfl, hC.mono e12, g, r.mono e12, fun H3 hC3 f3 => ?_⟩
  have f03 : Fr R H R H3 := (Fr.of e12).trans f3
  have r3 := r.fr f03
  obtain ⟨dxq, d, hq, hd, -⟩ := id r3
  refine Sat.go (sa_when (et_test (ev_op (ev_var rfl) (ev_n 0x9000) rv_neN)) (fun hb => sa_retL (el_only (ev_var rfl)) (leaf0 kk hC3 f03 ?_)) fun hb => sa_next ?_)
  · exact if_pos (of_decide_eq_true hb)
  have hs : (mAimR c k 4 false).2 = 0x9000 := Decidable.byContradiction fun z => by rw [decide_eq_true z] at hb; cases hb
  have hm : mReadR c k = if 0 < k.data.length then out (mAimR c k 4 false).1 0x6700 else match theFile (mAimR c k 4 false).1 with
    | none => out (mAimR c k 4 false).1 0
    | some x => if isThere x.2 k.p1 = false then out (mAimR c k 4 false).1 0x6A83 else if wantI k.want = 0 then out (mAimR c k 4 false).1 0x6700
      else if ¬ (wantI k.want = 256 ∨ wantI k.want = kLen x.2.kind) then out (mAimR c k 4 false).1 (0x6C00 + kLen x.2.kind)
      else ((mAimR c k 4 false).1, ((kRecs x.2.kind).getD (k.p1 - 1) [], 0x9000)) := if_neg (fun z => z hs)
  have gd : Good (mAimR c k 4 false).1 := good_aimR g
  obtain ⟨i, fl, hfi, hf, hkd, htf⟩ := aimR_file hs
  generalize (mAimR c k 4 false).1 = d1 at *
  obtain ⟨dx, sl, sd, ws, kvs, X⟩ := id hC3
  obtain ⟨p, dxf, n, ct, rc, rs, hw, o, ro⟩ := X.at_ (at_lt gd hf) hf
  have fok := gd.ok i fl hf
  rw [htf] at hm
  refine sa_when (et_test (ev_op (ev_lenB (er_old (ev_fld (ev_var rfl) hq T.clCR T.nCR_data (rf_data ..)) hd)) (ev_n 0) rv_gt)) (fun hb => sa_retL (el_only (ev_n 0x6700)) (leaf0 kk hC3 f03 ?_)) fun hb => sa_next ?_
  · rw [hm]
    exact if_pos (of_decide_eq_true hb)
  have hm : mReadR c k = if isThere fl k.p1 = false then out d1 0x6A83 else if wantI k.want = 0 then out d1 0x6700
      else if ¬ (wantI k.want = 256 ∨ wantI k.want = kLen fl.kind) then out d1 (0x6C00 + kLen fl.kind)
      else (d1, ((kRecs fl.kind).getD (k.p1 - 1) [], 0x9000)) := by
    rw [hm]
    exact if_neg (of_decide_eq_false hb)
  refine sa_set (ev_chosen_file (ev_var rfl) X hfi hw) ?_
  refine sa_when (b := !isThere fl k.p1) (et_not (et_B (ev_is_there (ev_var rfl) o (ev_fld (ev_var rfl) hq T.clCR T.nCR_first (rf_first ..))))) (fun hb => sa_retL (el_only (ev_n 0x6A83)) (leaf0 kk hC3 f03 ?_)) fun hb => sa_next ?_
  · rw [hm]
    exact if_pos (nt hb)
  rw [if_neg (nnf hb)] at hm
  have hth : isThere fl k.p1 = true := nf hb
  refine sa_when (et_test (ev_op (ev_fld (ev_var rfl) hq T.clCR T.nCR_asked (rf_asked ..)) (ev_n 0) rv_eqN)) (fun hb => sa_retL (el_only (ev_n 0x6700)) (leaf0 kk hC3 f03 ?_)) fun hb => sa_next ?_
  · rw [hm]
    exact if_pos (of_decide_eq_true hb)
  rw [if_neg (of_decide_eq_false hb)] at hm
  refine sa_when (et_test (ev_niU (ev_fld (ev_var rfl) hq T.clCR T.nCR_asked (rf_asked ..)) (eu_tup (ea_cons (ev_n 256) (ea_cons (ev_fld (ev_var rfl) o.ob T.clCF T.nCF_length (ff_length ..)) ea_nil)) (by show 2 ≤ 100000; decide)) rfl rfl)) (fun hb => sa_retL (el_only (ev_op (ev_n 0x6C00) (ev_fld (ev_var rfl) o.ob T.clCF T.nCF_length (ff_length ..)) rv_add)) (leaf0 kk hC3 f03 ?_)) fun hb => sa_next ?_
  · rw [in_two] at hb
    rw [hm]
    exact if_pos (by
      have z := nt hb
      simp only [Bool.or_eq_false_iff, decide_eq_false_iff_not] at z
      intro y
      rcases y with y | y
      · exact z.1 y
      · exact z.2 y)
  rw [in_two] at hb
  have hwz : wantI k.want = 256 ∨ wantI k.want = kLen fl.kind := by
    have z := nf hb
    simp only [Bool.or_eq_true, decide_eq_true_eq] at z
    exact z
  rw [if_neg (fun z => z hwz)] at hm
  have hp : 1 ≤ k.p1 ∧ k.p1 ≤ (kRecs fl.kind).length := by
    unfold isThere at hth
    simp only [Bool.and_eq_true, decide_eq_true_eq] at hth
    exact hth
  have hrl : k.p1 - 1 < (kRecs fl.kind).length := by omega
  have hrs : k.p1 - 1 < rs.length := by rw [o.len]; exact hrl
  have hrec : (kRecs fl.kind)[k.p1 - 1]? = some ((kRecs fl.kind).getD (k.p1 - 1) []) := by
    rw [List.getD_eq_getElem?_getD, List.getElem?_eq_getElem hrl]
    rfl
  have hrr := o.each (k.p1 - 1) rs[k.p1 - 1] _ (List.getElem?_eq_getElem hrs) hrec
  have hlen : ((kRecs fl.kind).getD (k.p1 - 1) []).length ≤ 1000 := by
    have z := fok.rlen _ (List.mem_of_getElem? hrec)
    have := fok.len
    omega
  exact sa_retL (el_reply (er_old (ev_ixN (i := k.p1 - 1) (er_old (ev_fld (ev_var rfl) o.ob T.clCF T.nCF_records (ff_records ..)) o.rc) (ev_op (ev_fld (ev_var rfl) hq T.clCR T.nCR_first (rf_first ..)) (ev_n 1) (rv_sub hp.1)) (by rw [List.getElem?_map, List.getElem?_eq_getElem hrs]; rfl)) hrr) (ev_n 0x9000) hlen) (leaf kk hC3 f03 hm)
theorem ok_write_record (T : Tx K mg CF CS CC CR RN) {f : Addr} {fd : FuncData} (F : C8.Def K mg "write_record" s_write_record f fd) (b : Binds K fd ["card", "request"] []) (c_aim_at_records : C8.Cal P w K mg base 4 "aim_at_records" (sp_aim_at_records CF CS CC CR) []) (c_Card_chosen_file : C8.Met P w K mg base 1 CC "chosen_file" (sp_chosen_file CF CS CC) []) (c_only : C8.Cal P w K mg base 3 "only" sp_only []) (c_Request_brings : C8.Met P w K mg base 1 CR "brings" (sp_brings CR) []) (c_is_there : C8.Cal P w K mg base 1 "is_there" (sp_is_there CF) []) :
    C8.Cal P w K mg base 5 "write_record" (CmdP CF CS CC CR mWriteR) [] := by
  have S := sc_write_record
  refine C8.cal0 F b .nil S (fun vs H Q E h => h.1) (fun cdv A outer s H vs Q E hr h => ⟨_, (pss_cons (ps_set (i := 2) S.nd rfl (Or.inl rfl) (pe_c c_aim_at_records hr (by decide) rfl (pa_cons (pv 0) (pa_cons (pv 1) (pa_cons (pe_gc rfl T.mBY_RECORD_NUMBER) (pa_cons pe_bl pa_nil))))))
    (pss_cons (ps_if (pt_cmpR op_ne (pv 2) (pe_gc rfl T.mWELL) (nomark _)) (pss_one (ps_ret (pe_c c_only hr (by decide) rfl (pa_cons (pv 2) pa_nil)))) pss_nil)
    (pss_cons (ps_set (i := 3) S.nd rfl (Or.inl rfl) (pe_mt0 c_Card_chosen_file hr (by decide) (pv 0)))
    (pss_cons (ps_if (pt_cmpR op_eq (pe_fld (pv 3) rfl) (pe_gc rfl T.mROUND) (nomark _)) (pss_one (ps_ret (pe_c c_only hr (by decide) rfl (pa_cons (pe_gc rfl T.mWRONG_KIND) pa_nil)))) pss_nil)
    (pss_cons (ps_if (pt_not (pt_val (pe_mt c_Request_brings hr (by decide) (pv 1) (pa_cons (pe_fld (pv 3) rfl) pa_nil)))) (pss_one (ps_ret (pe_c c_only hr (by decide) rfl (pa_cons (pe_gc rfl T.mWRONG_LENGTH) pa_nil)))) pss_nil)
    (pss_cons (ps_if (pt_not (pt_val (pe_c c_is_there hr (by decide) rfl (pa_cons (pv 3) (pa_cons (pe_fld (pv 1) rfl) pa_nil))))) (pss_one (ps_ret (pe_c c_only hr (by decide) rfl (pa_cons (pe_gc rfl T.mNO_RECORD) pa_nil)))) pss_nil)
    (pss_cons (ps_asg (pe_fld (pv 1) rfl) (pg_sub (pe_fld (pv 3) rfl) (pe_op op_sub (pe_fld (pv 1) rfl) pe_int) set_list))
    (pss_one (ps_ret (pe_c c_only hr (by decide) rfl (pa_cons (pe_gc rfl T.mWELL) pa_nil))))))))))), ?_⟩)
  obtain ⟨-, a, q, R, c, k, rfl, hC, g, r, ok, kk⟩ := h
  have kk : OutQ CF CS CC H R a (mWriteR c k) Q := kk
  refine Sat.go (sa_asgE fun H1 e1 => do_call (ep_cons (ev_var rfl) (ep_cons (ev_var rfl) (ep_cons (ev_n 4) (ep_cons (ev_c (v := .bl true)) ep_nil)))) fun vs H2 e2 hv => ?_)
  obtain ⟨r1, rfl, r2, rfl, r3, rfl, r4, rfl, rfl⟩ := hv
  have e12 := e1.trans e2
  refine ⟨rfl, a, R, c, q, k, 4, true, rfl, hC.mono e12, g, r.mono e12, fun H3 hC3 f3 => ?_⟩
  have f03 : Fr R H R H3 := (Fr.of e12).trans f3
  have r3 := r.fr f03
  obtain ⟨dxq, d, hq, hd, rq, rd⟩ := id r3
  refine Sat.go (sa_when (et_test (ev_op (ev_var rfl) (ev_n 0x9000) rv_neN)) (fun hb => sa_retL (el_only (ev_var rfl)) (leaf0 kk hC3 f03 ?_)) fun hb => sa_next ?_)
  · exact if_pos (of_decide_eq_true hb)
  have hs : (mAimR c k 4 true).2 = 0x9000 := Decidable.byContradiction fun z => by rw [decide_eq_true z] at hb; cases hb
  have hm : mWriteR c k = match theFile (mAimR c k 4 true).1 with
    | none => out (mAimR c k 4 true).1 0
    | some x => if kKind x.2.kind = 6 then out (mAimR c k 4 true).1 0x6981 else if brings k (kLen x.2.kind) = false then out (mAimR c k 4 true).1 0x6700 else if isThere x.2 k.p1 = false then out (mAimR c k 4 true).1 0x6A83
      else out ((mAimR c k 4 true).1.put x.1 (some (Sd27.withRecords x.2 ((kRecs x.2.kind).set (k.p1 - 1) k.data)))) 0x9000 := if_neg (fun z => z hs)
  have gd : Good (mAimR c k 4 true).1 := good_aimR g
  obtain ⟨i, fl, hfi, hf, hkd, htf⟩ := aimR_file hs
  generalize (mAimR c k 4 true).1 = d1 at *
  obtain ⟨dx, sl, sd, ws, kvs, X⟩ := id hC3
  obtain ⟨p, dxf, n, ct, rc, rs, hw, o, ro⟩ := X.at_ (at_lt gd hf) hf
  rw [htf] at hm
  have hm : mWriteR c k = if kKind fl.kind = 6 then out d1 0x6981 else if brings k (kLen fl.kind) = false then out d1 0x6700 else if isThere fl k.p1 = false then out d1 0x6A83
      else out (d1.put i (some (Sd27.withRecords fl ((kRecs fl.kind).set (k.p1 - 1) k.data)))) 0x9000 := hm
  refine sa_set (ev_chosen_file (ev_var rfl) X hfi hw) ?_
  refine sa_when (et_test (ev_op (ev_fld (ev_var rfl) o.ob T.clCF T.nCF_kind (ff_kind ..)) (ev_n 6) rv_eqN)) (fun hb => sa_retL (el_only (ev_n 0x6981)) (leaf0 kk hC3 f03 ?_)) fun hb => sa_next ?_
  · rw [hm]
    exact if_pos (of_decide_eq_true hb)
  have h6 : ¬ kKind fl.kind = 6 := of_decide_eq_false hb
  rw [if_neg h6] at hm
  refine sa_when (et_not (et_B (ev_brings (ev_var rfl) r3 (ev_fld (ev_var rfl) o.ob T.clCF T.nCF_length (ff_length ..))))) (fun hb => sa_retL (el_only (ev_n 0x6700)) (leaf0 kk hC3 f03 ?_)) fun hb => sa_next ?_
  · rw [hm]
    exact if_pos (nt hb)
  have hm : mWriteR c k = if isThere fl k.p1 = false then out d1 0x6A83 else out (d1.put i (some (Sd27.withRecords fl ((kRecs fl.kind).set (k.p1 - 1) k.data)))) 0x9000 := by
    rw [hm]
    exact if_neg (nnf hb)
  refine sa_when (b := !isThere fl k.p1) (et_not (et_B (ev_is_there (ev_var rfl) o (ev_fld (ev_var rfl) hq T.clCR T.nCR_first (rf_first ..))))) (fun hb => sa_retL (el_only (ev_n 0x6A83)) (leaf0 kk hC3 f03 ?_)) fun hb => sa_next ?_
  · rw [hm]
    exact if_pos (nt hb)
  rw [if_neg (nnf hb)] at hm
  have hth : isThere fl k.p1 = true := nf hb
  have hp : 1 ≤ k.p1 ∧ k.p1 ≤ (kRecs fl.kind).length := by
    unfold isThere at hth
    simp only [Bool.and_eq_true, decide_eq_true_eq] at hth
    exact hth
  have hrs : k.p1 - 1 < (rs.map V.ref).length := by
    rw [List.length_map, o.len]
    show k.p1 - 1 < (kRecs fl.kind).length
    omega
  refine sa_setIx o.rc (ev_fld (ev_var rfl) hq T.clCR T.nCR_data (rf_data ..)) (ev_fld (ev_var rfl) o.ob T.clCF T.nCF_records (ff_records ..)) (ev_op (ev_fld (ev_var rfl) hq T.clCR T.nCR_first (rf_first ..)) (ev_n 1) (rv_sub hp.1)) hrs fun H4 k4 h4 => ?_
  have nr : ∀ {b : Addr}, R b = none ∨ R b = some (.file i) → b ≠ rc := fun h z => by
    rw [z, ro.rc] at h
    rcases h with h | h <;> cases h
  have h4' : H4 rc = some (.lst ((rs.set (k.p1 - 1) d).map V.ref)) := by rw [h4, List.map_set]
  have X4 : CardX CF CS CC H4 R a (d1.put i (some (Sd27.withRecords fl ((kRecs fl.kind).set (k.p1 - 1) k.data)))) dx sl sd ws kvs :=
    X.swap_i ro.rc (.inr rfl) k4 (fun w hw2 => by
      rw [hw] at hw2
      cases hw2
      rw [at_put_some hf, if_pos rfl]
      refine ⟨p, dxf, n, ct, rc, rs.set (k.p1 - 1) d, rfl, ?_, ⟨ro.p, ro.n, ro.ct, ro.rc, fun x hx => ?_⟩⟩
      · rw [pf_withRecords _ hkd]
        refine ⟨k4 _ _ o.ob (nr (.inr ro.p)), k4 _ _ o.nm (nr (.inl ro.n)), k4 _ _ o.ct (nr (.inl ro.ct)), h4', by rw [List.length_set, List.length_set]; exact o.len, fun j x w hx hw2 => ?_⟩
        by_cases z : j = k.p1 - 1
        · subst z
          rw [List.getElem?_set_self (by rw [List.length_map] at hrs; exact hrs)] at hx
          have hw2 : ((kRecs fl.kind).set (k.p1 - 1) k.data)[k.p1 - 1]? = some w := hw2
          rw [List.getElem?_set_self (by omega)] at hw2
          cases hx
          cases hw2
          exact k4 _ _ hd (nr (.inl rd))
        · rw [List.getElem?_set_ne (fun y => z y.symm)] at hx
          have hw2 : ((kRecs fl.kind).set (k.p1 - 1) k.data)[j]? = some w := hw2
          rw [List.getElem?_set_ne (fun y => z y.symm)] at hw2
          exact k4 _ _ (o.each j x w hx hw2) (nr (.inl (ro.rs x (List.mem_of_getElem? hx))))
      · rcases List.mem_or_eq_of_mem_set hx with y | y
        · exact ro.rs x y
        · rw [y]
          exact rd) (fun j hj => by rw [at_put_some hf, if_neg hj]) (by rw [h4]; intro z; cases z) rfl rfl rfl rfl rfl
  exact sa_retL (el_only (ev_n 0x9000)) (leaf0 kk ⟨dx, sl, sd, ws, kvs, X4⟩ (f03.trans (Fr.keep k4 ro.rc)) hm)
theorem ok_add_record (T : Tx K mg CF CS CC CR RN) {f : Addr} {fd : FuncData} (F : C8.Def K mg "add_record" s_add_record f fd) (b : Binds K fd ["card", "request"] []) (c_aim_at_records : C8.Cal P w K mg base 4 "aim_at_records" (sp_aim_at_records CF CS CC CR) []) (c_Card_chosen_file : C8.Met P w K mg base 1 CC "chosen_file" (sp_chosen_file CF CS CC) []) (c_only : C8.Cal P w K mg base 3 "only" sp_only []) (c_Request_brings : C8.Met P w K mg base 1 CR "brings" (sp_brings CR) []) :
    C8.Cal P w K mg base 5 "add_record" (CmdP CF CS CC CR mAddR) [] := by
  have S := sc_add_record
  refine C8.cal0 F b .nil S (fun vs H Q E h => h.1) (fun cdv A outer s H vs Q E hr h => ⟨_, (pss_cons (ps_if (pt_cmpR op_ne (pe_fld (pv 1) rfl) pe_int (nomark _)) (pss_one (ps_ret (pe_c c_only hr (by decide) rfl (pa_cons (pe_gc rfl T.mWRONG_PARAMETERS) pa_nil)))) pss_nil)
    (pss_cons (ps_set (i := 2) S.nd rfl (Or.inl rfl) (pe_c c_aim_at_records hr (by decide) rfl (pa_cons (pv 0) (pa_cons (pv 1) (pa_cons (pe_gc rfl T.mAT_THE_END) (pa_cons pe_bl pa_nil))))))
    (pss_cons (ps_if (pt_cmpR op_ne (pv 2) (pe_gc rfl T.mWELL) (nomark _)) (pss_one (ps_ret (pe_c c_only hr (by decide) rfl (pa_cons (pv 2) pa_nil)))) pss_nil)
    (pss_cons (ps_set (i := 3) S.nd rfl (Or.inl rfl) (pe_mt0 c_Card_chosen_file hr (by decide) (pv 0)))
    (pss_cons (ps_if (pt_not (pt_val (pe_mt c_Request_brings hr (by decide) (pv 1) (pa_cons (pe_fld (pv 3) rfl) pa_nil)))) (pss_one (ps_ret (pe_c c_only hr (by decide) rfl (pa_cons (pe_gc rfl T.mWRONG_LENGTH) pa_nil)))) pss_nil)
    (pss_cons (ps_if (pt_cmpR op_eq (pe_fld (pv 3) rfl) (pe_gc rfl T.mROUND) (nomark _)) (pss_cons (ps_set (i := 4) S.nd rfl (Or.inl rfl) (pe_op op_cat (pe_lst (pa_cons (pe_fld (pv 1) rfl) pa_nil)) (pe_fld (pv 3) rfl)))
      (pss_cons (ps_fld (pv 3) (pe_slice sl_list (pv 4) po_none (po_some (pe_fld (pv 3) rfl))) rfl)
      (pss_one (ps_ret (pe_c c_only hr (by decide) rfl (pa_cons (pe_gc rfl T.mWELL) pa_nil)))))) pss_nil)
    (pss_cons (ps_if (pt_cmpR op_eq (pe_callB call_len_seq (by rfl) T.len PySem.boot_len (pa_cons (pe_fld (pv 3) rfl) pa_nil)) (pe_fld (pv 3) rfl) (nomark _)) (pss_one (ps_ret (pe_c c_only hr (by decide) rfl (pa_cons (pe_gc rfl T.mNO_ROOM) pa_nil)))) pss_nil)
    (pss_cons (ps_expr (pe_bm PySem.F.plainAttrs_list PySem.F.slot_list_append PySem.F.type_list_append mt_append (pe_fld (pv 3) rfl) (pa_cons (pe_fld (pv 1) rfl) pa_nil)))
    (pss_one (ps_ret (pe_c c_only hr (by decide) rfl (pa_cons (pe_gc rfl T.mWELL) pa_nil)))))))))))), ?_⟩)
  obtain ⟨-, a, q, R, c, k, rfl, hC, g, r, ok, kk⟩ := h
  have kk : OutQ CF CS CC H R a (mAddR c k) Q := kk
  obtain ⟨dxq0, d0, hq0, hd0, -⟩ := id r
  refine Sat.go (sa_when (et_test (ev_op (ev_fld (ev_var rfl) hq0 T.clCR T.nCR_first (rf_first ..)) (ev_n 0) rv_neN)) (fun hb => sa_retL (el_only (ev_n 0x6A86)) (leaf0 kk hC (.refl R H) ?_)) fun hb => sa_next ?_)
  · exact if_pos (of_decide_eq_true hb)
  have hm0 : mAddR c k = if (mAimR c k 0 true).2 ≠ 0x9000 then out (mAimR c k 0 true).1 (mAimR c k 0 true).2 else match theFile (mAimR c k 0 true).1 with
    | none => out (mAimR c k 0 true).1 0
    | some x => if brings k (kLen x.2.kind) = false then out (mAimR c k 0 true).1 0x6700
      else if kKind x.2.kind = 6 then out ((mAimR c k 0 true).1.put x.1 (some (Sd27.withRecords x.2 ((k.data :: kRecs x.2.kind).take (kMost x.2.kind))))) 0x9000
      else if (kRecs x.2.kind).length = kMost x.2.kind then out (mAimR c k 0 true).1 0x6A84
      else out ((mAimR c k 0 true).1.put x.1 (some (Sd27.withRecords x.2 (kRecs x.2.kind ++ [k.data])))) 0x9000 := if_neg (of_decide_eq_false hb)
  refine sa_asgE fun H1 e1 => do_call (ep_cons (ev_var rfl) (ep_cons (ev_var rfl) (ep_cons (ev_n 0) (ep_cons (ev_c (v := .bl true)) ep_nil)))) fun vs H2 e2 hv => ?_
  obtain ⟨r1, rfl, r2, rfl, r3, rfl, r4, rfl, rfl⟩ := hv
  have e12 := e1.trans e2
  refine ⟨rfl, a, R, c, q, k, 0, true, rfl, hC.mono e12, g, r.mono e12, fun H3 hC3 f3 => ?_⟩
  have f03 : Fr R H R H3 := (Fr.of e12).trans f3
  have r3 := r.fr f03
  obtain ⟨dxq, d, hq, hd, rq, rd⟩ := id r3
  refine Sat.go (sa_when (et_test (ev_op (ev_var rfl) (ev_n 0x9000) rv_neN)) (fun hb => sa_retL (el_only (ev_var rfl)) (leaf0 kk hC3 f03 ?_)) fun hb => sa_next ?_)
  · rw [hm0]
    exact if_pos (of_decide_eq_true hb)
  have hs : (mAimR c k 0 true).2 = 0x9000 := Decidable.byContradiction fun z => by rw [decide_eq_true z] at hb; cases hb
  rw [if_neg (fun z => z hs)] at hm0
  have gd : Good (mAimR c k 0 true).1 := good_aimR g
  obtain ⟨i, fl, hfi, hf, hkd, htf⟩ := aimR_file hs
  generalize (mAimR c k 0 true).1 = d1 at *
  obtain ⟨dx, sl, sd, ws, kvs, X⟩ := id hC3
  obtain ⟨p, dxf, n, ct, rc, rs, hw, o, ro⟩ := X.at_ (at_lt gd hf) hf
  have fok := gd.ok i fl hf
  rw [htf] at hm0
  have hm : mAddR c k = if brings k (kLen fl.kind) = false then out d1 0x6700
      else if kKind fl.kind = 6 then out (d1.put i (some (Sd27.withRecords fl ((k.data :: kRecs fl.kind).take (kMost fl.kind))))) 0x9000
      else if (kRecs fl.kind).length = kMost fl.kind then out d1 0x6A84
      else out (d1.put i (some (Sd27.withRecords fl (kRecs fl.kind ++ [k.data])))) 0x9000 := hm0
  refine sa_set (ev_chosen_file (ev_var rfl) X hfi hw) ?_
  refine sa_when (et_not (et_B (ev_brings (ev_var rfl) r3 (ev_fld (ev_var rfl) o.ob T.clCF T.nCF_length (ff_length ..))))) (fun hb => sa_retL (el_only (ev_n 0x6700)) (leaf0 kk hC3 f03 ?_)) fun hb => sa_next ?_
  · rw [hm]
    exact if_pos (nt hb)
  have hm : mAddR c k = if kKind fl.kind = 6 then out (d1.put i (some (Sd27.withRecords fl ((k.data :: kRecs fl.kind).take (kMost fl.kind))))) 0x9000
      else if (kRecs fl.kind).length = kMost fl.kind then out d1 0x6A84
      else out (d1.put i (some (Sd27.withRecords fl (kRecs fl.kind ++ [k.data])))) 0x9000 := by
    rw [hm]
    exact if_neg (nnf hb)
  have hrl : rs.length ≤ 255 := by
    rw [o.len]
    have := fok.recs
    have := fok.most
    show (kRecs fl.kind).length ≤ 255
    omega
  refine sa_when (et_test (ev_op (ev_fld (ev_var rfl) o.ob T.clCF T.nCF_kind (ff_kind ..)) (ev_n 6) rv_eqN)) (fun hb => ?_) fun hb => sa_next ?_
  · rw [if_pos (show kKind fl.kind = 6 from of_decide_eq_true hb)] at hm
    refine sa_setL (xs := (d :: rs).map V.ref) (el_is (el_cat (er_new (el_lst (ea_cons (ev_fld (ev_var rfl) hq T.clCR T.nCR_data (rf_data ..)) ea_nil) (by show 1 ≤ 100000; decide))) (er_old (ev_fld (ev_var rfl) o.ob T.clCF T.nCF_records (ff_records ..)) o.rc) (by
      rw [List.length_map]
      show 1 + rs.length ≤ 2 ^ 24
      omega)) rfl) fun tl H4 htn e4 htl => ?_
    have hlist : cutV ((d :: rs).map V.ref) none (some ((kMost fl.kind : Nat) : Int)) = ((d :: rs).take (kMost fl.kind)).map V.ref := by rw [cut_to, List.map_take]
    have ob4 := e4 _ _ o.ob
    refine sa_fldL (xs := ((d :: rs).take (kMost fl.kind)).map V.ref) ob4 (el_is (el_slR (K := K) (er_old (ev_var rfl) htl) eo_none (eo_some (ev_fld (ev_var rfl) ob4 T.clCF T.nCF_most (ff_most ..)))) hlist) (ev_var rfl) T.clCF T.nCF_records (by show 12 < 1000; decide) fun rc2 H5 hrn k5 hl5 h5 => ?_
    rw [fp_records (l := (k.data :: kRecs fl.kind).take (kMost fl.kind))] at h5
    have hrn3 : H3 rc2 = none := fresh_back e4 hrn
    have rc2p : rc2 ≠ p := fun z => by rw [z, ob4] at hrn; cases hrn
    -- the new list of records gets its role
    have XA : CardX CF CS CC (upd H4 rc2 (.lst (((d :: rs).take (kMost fl.kind)).map V.ref))) (setR R rc2 (.recs i)) a d1 dx sl sd ws kvs := X.set (e4.trans (Ex.new hrn)) hrn3 (by rw [upd_same]; intro z; cases z)
    have k5' : Keep p (upd H4 rc2 (.lst (((d :: rs).take (kMost fl.kind)).map V.ref))) H5 := fun b u hb hbp => by
      by_cases z : b = rc2
      · subst z
        rw [upd_same] at hb
        rw [hl5, ← hb]
      · rw [upd_ne z] at hb
        exact k5 _ _ hb hbp
    have sn : ∀ {b : Addr} {u : HO}, H3 b = some u → setR R rc2 (.recs i) b = R b := fun hb => setR_ne (ne_of_none hb hrn3)
    have np : ∀ {b : Addr}, R b = none → b ≠ p := fun h z => by rw [z, ro.p] at h; cases h
    have X5 : CardX CF CS CC H5 (setR R rc2 (.recs i)) a (d1.put i (some (Sd27.withRecords fl ((k.data :: kRecs fl.kind).take (kMost fl.kind))))) dx sl sd ws kvs :=
      XA.swap_i (r := .file i) ((sn o.ob).trans ro.p) (.inl rfl) k5' (fun w hw2 => by
        rw [hw] at hw2
        cases hw2
        rw [at_put_some hf, if_pos rfl]
        refine ⟨p, dxf, n, ct, rc2, (d :: rs).take (kMost fl.kind), rfl, ?_, ⟨(sn o.ob).trans ro.p, (sn o.nm).trans ro.n, (sn o.ct).trans ro.ct, setR_same, fun x hx => ?_⟩⟩
        · rw [pf_withRecords _ hkd]
          refine ⟨h5, k5 _ _ (e4 _ _ o.nm) (np ro.n), k5 _ _ (e4 _ _ o.ct) (np ro.ct), hl5, by rw [List.length_take, List.length_take]; show min _ (rs.length + 1) = min _ ((kRecs fl.kind).length + 1); rw [o.len]; rfl, fun j x w hx hw2 => ?_⟩
          have hw2 : ((k.data :: kRecs fl.kind).take (kMost fl.kind))[j]? = some w := hw2
          have hj : j < kMost fl.kind := by
            have := (List.getElem?_eq_some_iff.mp hx).1
            rw [List.length_take] at this
            omega
          rw [List.getElem?_take_of_lt hj] at hx hw2
          match j, hx, hw2 with
          | 0, hx, hw2 =>
            cases hx
            cases hw2
            exact k5 _ _ (e4 _ _ hd) (np rd)
          | j + 1, hx, hw2 =>
            have hx : rs[j]? = some x := hx
            exact k5 _ _ (e4 _ _ (o.each j x w hx hw2)) (np (ro.rs x (List.mem_of_getElem? hx)))
        · rcases List.mem_cons.mp (List.mem_of_mem_take hx) with y | y
          · rw [y]
            exact (sn hd).trans rd
          · obtain ⟨u, hu⟩ := o.there y
            exact (sn hu).trans (ro.rs x y)) (fun j hj => by rw [at_put_some hf, if_neg hj]) (by rw [h5]; intro z; cases z) rfl rfl rfl rfl rfl
    have f5 : Fr R H3 (setR R rc2 (.recs i)) H5 := fun b u hb hn => ⟨sn hb, k5 _ _ (e4 _ _ hb) (hn.ne ro.p (by intro h; cases h))⟩
    exact sa_retL (el_only (ev_n 0x9000)) (leaf0 kk ⟨dx, sl, sd, ws, kvs, X5⟩ (f03.trans f5) hm)
  · rw [if_neg (show ¬ kKind fl.kind = 6 from of_decide_eq_false hb)] at hm
    refine sa_when (et_test (ev_op (ev_is (ev_lenR (er_old (ev_fld (ev_var rfl) o.ob T.clCF T.nCF_records (ff_records ..)) o.rc)) (by rw [List.length_map, o.len])) (ev_fld (ev_var rfl) o.ob T.clCF T.nCF_most (ff_most ..)) rv_eqN)) (fun hb => sa_retL (el_only (ev_n 0x6A84)) (leaf0 kk hC3 f03 ?_)) fun hb => sa_next ?_
    · rw [hm]
      exact if_pos (of_decide_eq_true hb)
    rw [if_neg (show ¬ (kRecs fl.kind).length = kMost fl.kind from of_decide_eq_false hb)] at hm
    refine sa_appK (v := .ref d) o.rc (ev_fld (ev_var rfl) o.ob T.clCF T.nCF_records (ff_records ..)) (ev_fld (ev_var rfl) hq T.clCR T.nCR_data (rf_data ..)) (by rw [List.length_map]; omega) fun H4 k4 h4 => ?_
    have nr : ∀ {b : Addr}, R b = none ∨ R b = some (.file i) → b ≠ rc := fun h z => by
      rw [z, ro.rc] at h
      rcases h with h | h <;> cases h
    have X4 : CardX CF CS CC H4 R a (d1.put i (some (Sd27.withRecords fl (kRecs fl.kind ++ [k.data])))) dx sl sd ws kvs :=
      X.swap_i ro.rc (.inr rfl) k4 (fun w hw2 => by
        rw [hw] at hw2
        cases hw2
        rw [at_put_some hf, if_pos rfl]
        refine ⟨p, dxf, n, ct, rc, rs ++ [d], rfl, ?_, ⟨ro.p, ro.n, ro.ct, ro.rc, fun x hx => ?_⟩⟩
        · rw [pf_withRecords _ hkd]
          refine ⟨k4 _ _ o.ob (nr (.inr ro.p)), k4 _ _ o.nm (nr (.inl ro.n)), k4 _ _ o.ct (nr (.inl ro.ct)), by rw [h4, List.map_append]; rfl, by rw [List.length_append, List.length_append, o.len]; rfl, fun j x w hx hw2 => ?_⟩
          have hw2 : (kRecs fl.kind ++ [k.data])[j]? = some w := hw2
          by_cases z : j < rs.length
          · rw [List.getElem?_append_left z] at hx
            rw [List.getElem?_append_left (by rw [o.len] at z; exact z)] at hw2
            exact k4 _ _ (o.each j x w hx hw2) (nr (.inl (ro.rs x (List.mem_of_getElem? hx))))
          · have hj1 := (List.getElem?_eq_some_iff.mp hx).1
            rw [List.length_append] at hj1
            have hj : j = rs.length := by simp only [List.length_cons, List.length_nil] at hj1; omega
            subst hj
            have hl2 : rs.length = (kRecs fl.kind).length := o.len
            rw [List.getElem?_append_right (Nat.le_refl _), Nat.sub_self] at hx
            rw [hl2, List.getElem?_append_right (Nat.le_refl _), Nat.sub_self] at hw2
            cases hx
            cases hw2
            exact k4 _ _ hd (nr (.inl rd))
        · rcases List.mem_append.mp hx with y | y
          · exact ro.rs x y
          · rw [List.mem_singleton.mp y]
            exact rd) (fun j hj => by rw [at_put_some hf, if_neg hj]) (by rw [h4]; intro z; cases z) rfl rfl rfl rfl rfl
    exact sa_retL (el_only (ev_n 0x9000)) (leaf0 kk ⟨dx, sl, sd, ws, kvs, X4⟩ (f03.trans (Fr.keep k4 ro.rc)) hm)
end
end Cc
end
section
namespace Cc
open PySem PySem.Spec PyProof.Rows L2 Evl
open C8 (pe_c pe_mk pe_mt pe_mt0 pe_gc)
open Sd27 (Card File Secret Kind Cmd isFolder)
section
variable {P : Program} {w : World} {K : PySem.W.Frag} {mg : Str → Option Value} {base : Heap} {CF CS CC CR RN : Addr}

theorem nodup_le : ∀ (l m : List Key), l.Nodup → (∀ x ∈ l, x ∈ m) → l.length ≤ m.length
  | [], _, _, _ => Nat.zero_le _
  | a :: r, m, h, s => by
    obtain ⟨h1, h2⟩ := List.nodup_cons.mp h
    have ha : a ∈ m := s a (List.mem_cons_self ..)
    have ih := nodup_le r (m.filter fun x => decide (x ≠ a)) h2 fun x hx => List.mem_filter.mpr ⟨s x (List.mem_cons_of_mem _ hx), decide_eq_true fun z => h1 (by rw [← z]; exact hx)⟩
    have hl : (m.filter fun x => decide (x ≠ a)).length < m.length := List.length_filter_lt_length_iff_exists.mpr ⟨a, ha, by simp⟩
    rw [List.length_cons]
    omega
theorem ok_tell_secret (T : Tx K mg CF CS CC CR RN) {f : Addr} {fd : FuncData} (F : C8.Def K mg "tell_secret" s_tell_secret f fd) (b : Binds K fd ["card", "request"] []) (c_aim_at_known : C8.Cal P w K mg base 2 "aim_at_known" (sp_aim_at_known CF CS CC CR K) []) (c_only : C8.Cal P w K mg base 3 "only" sp_only []) (c_standing : C8.Cal P w K mg base 4 "standing" (sp_standing CS) []) (c_told_wrong : C8.Cal P w K mg base 4 "told_wrong" (sp_told_wrong CS) []) :
    C8.Cal P w K mg base 5 "tell_secret" (CmdP CF CS CC CR mTell) [] := by
  have S := sc_tell_secret
  refine C8.cal0 F b .nil S (fun vs H Q E h => h.1) (fun cdv A outer s H vs Q E hr h => have hu := L2.hu_of hr; ⟨_, (pss_cons (ps_set (i := 2) S.nd rfl (Or.inl rfl) (pe_c c_aim_at_known hr (by decide) rfl (pa_cons (pv 0) (pa_cons (pv 1) (pa_cons (pe_tup (pa_cons pe_int (pa_cons (pe_gc rfl T.mWORD) pa_nil))) pa_nil)))))
    (pss_cons (ps_if (pt_cmpR op_ne (pv 2) (pe_gc rfl T.mWELL) (nomark _)) (pss_one (ps_ret (pe_c c_only hr (by decide) rfl (pa_cons (pv 2) pa_nil)))) pss_nil)
    (pss_cons (ps_set (i := 3) S.nd rfl (Or.inl rfl) (pe_dget hu (pe_fld (pv 0) rfl) (pe_fld (pv 1) rfl) (fun _ _ => rfl)))
    (pss_cons (ps_if (pt_cmpR op_eq (pe_callB call_len_seq (by rfl) T.len PySem.boot_len (pa_cons (pe_fld (pv 1) rfl) pa_nil)) pe_int (nomark _)) (pss_one (ps_ret (pe_c c_standing hr (by decide) rfl (pa_cons (pv 3) pa_nil)))) pss_nil)
    (pss_cons (ps_if (pt_cmpR op_eq (pe_fld (pv 3) rfl) pe_int (nomark _)) (pss_one (ps_ret (pe_c c_only hr (by decide) rfl (pa_cons (pe_gc rfl T.mNO_TRIES) pa_nil)))) pss_nil)
    (pss_cons (ps_if (pt_cmpR (op_neD hr.units) (pe_fld (pv 1) rfl) (pe_fld (pv 3) rfl) (nomark _)) (pss_one (ps_ret (pe_c c_told_wrong hr (by decide) rfl (pa_cons (pv 3) pa_nil)))) pss_nil)
    (pss_cons (ps_fld (pv 3) pe_bl rfl)
    (pss_cons (ps_fld (pv 3) (pe_fld (pv 3) rfl) rfl)
    (pss_one (ps_ret (pe_c c_only hr (by decide) rfl (pa_cons (pe_gc rfl T.mWELL) pa_nil)))))))))))), ?_⟩)
  obtain ⟨-, a, q, R, c, k, rfl, hC, g, r, ok, kk⟩ := h
  obtain ⟨dx, sl, sd, ws, kvs, X⟩ := hC
  have hC : CardAt CF CS CC H R a c := ⟨dx, sl, sd, ws, kvs, X⟩
  have kk : OutQ CF CS CC H R a (mTell c k) Q := kk
  obtain ⟨dxq, d, hq, hd, rq, rd⟩ := id r
  refine Sat.go (sa_set (ev_aim_at_known (ls := [0, 8]) (ev_var rfl) hC (ev_var rfl) r (eu_tup (ea_cons (ev_n 0) (ea_cons (ev_n 8) ea_nil)) (by show 2 ≤ 100000; decide))) ?_)
  refine sa_when (et_test (ev_op (ev_var rfl) (ev_n 0x9000) rv_neN)) (fun hb => sa_retL (el_only (ev_var rfl)) (leaf0 kk hC (.refl R H) ?_)) fun hb => sa_next ?_
  · exact if_pos (of_decide_eq_true hb)
  have hs : aimK c k [0, 8] = 0x9000 := Decidable.byContradiction fun z => by rw [decide_eq_true z] at hb; cases hb
  obtain ⟨hs2, s, hsec⟩ := aimK_ok hs
  obtain ⟨p1, p8, -, hw0, hlen⟩ := aimS_p2 hs2
  obtain ⟨p, dx2, wd, fr, hv, o, ro⟩ := X.sec_at p1 p8 hsec
  have so := g.sok (k.p2 - 1) s (by unfold secOf at hsec; rw [List.getD_eq_getElem?_getD] at hsec; cases e : c.secrets[k.p2 - 1]? with
    | none => rw [e] at hsec; cases hsec
    | some y => rw [e] at hsec; exact congrArg some hsec)
  have hm : mTell c k = if k.data.length = 0 then (if c.told.contains k.p2 = true then out c 0x9000 else if s.left = 0 then out c 0x6983 else out c (0x63C0 + s.left))
      else if s.left = 0 then out c 0x6983
      else if k.data ≠ s.word then out ((c.forget k.p2).keep k.p2 { s with left := s.left - 1 }) (0x63C0 + (s.left - 1))
      else out { (c.keep k.p2 { s with left := s.most }) with told := if c.told.contains k.p2 = true then c.told else c.told ++ [k.p2] } 0x9000 := by
    unfold mTell
    rw [if_neg (fun z => z hs), hsec]
  refine sa_set (v := .ref p) (ev_dget (ev_fld (ev_var rfl) X.ob T.clCC T.nCC_secrets (cf_secrets ..)) (ev_fld (ev_var rfl) hq T.clCR T.nCR_second (rf_second ..)) X.osd hv) ?_
  refine sa_when (et_test (ev_op (ev_lenB (er_old (ev_fld (ev_var rfl) hq T.clCR T.nCR_data (rf_data ..)) hd)) (ev_n 0) rv_eqN)) (fun hb => sa_retL (el_standing (ev_var rfl) o) (leaf0 kk hC (.refl R H) ?_)) fun hb => sa_next ?_
  · rw [hm, if_pos (of_decide_eq_true hb)]
    unfold standOf
    split
    · rfl
    · split <;> rfl
  rw [if_neg (of_decide_eq_false hb)] at hm
  refine sa_when (et_test (ev_op (ev_fld (ev_var rfl) o.ob T.clCS T.nCS_tries (sf_tries ..)) (ev_n 0) rv_eqN)) (fun hb => sa_retL (el_only (ev_n 0x6983)) (leaf0 kk hC (.refl R H) ?_)) fun hb => sa_next ?_
  · rw [hm]
    exact if_pos (of_decide_eq_true hb)
  have hl0 : ¬ s.left = 0 := of_decide_eq_false hb
  rw [if_neg hl0] at hm
  refine sa_when (et_test (ev_neR (er_old (ev_fld (ev_var rfl) hq T.clCR T.nCR_data (rf_data ..)) hd) (er_old (ev_fld (ev_var rfl) o.ob T.clCS T.nCS_word (sf_word ..)) o.wd))) (fun hb => ?_) fun hb => sa_next ?_
  · have hne : k.data ≠ s.word := of_decide_eq_false (nt hb)
    rw [if_pos hne] at hm
    refine sa_retE fun H1 e1 => do_call (ep_cons (ev_var rfl) ep_nil) fun vs H2 e2 hvv => ?_
    obtain ⟨r1, rfl, rfl⟩ := hvv
    have e12 := e1.trans e2
    refine ⟨rfl, p, s, _, dx2, wd, fr, rfl, o.mono e12, by omega, fun H3 rr kp o3 hrn hr3 => ?_⟩
    have kp : Keep p H2 H3 := kp
    have X2 := X.mono e12
    have X3 := X2.secret (c' := (c.forget k.p2).keep k.p2 { s with left := s.left - 1 }) (s' := { s with left := s.left - 1 }) (t' := false) (dx2 := dx2) (wd' := wd) (fr' := fr) p1 p8 hv rfl ro.p (o.mono e12).wd ro.wd (o.mono e12).fr ro.fr (fun _ => rfl) rfl rfl rfl
      (by rw [keep_getD (show (c.forget k.p2).secrets.length = 8 from g.sec) p1 p8 p1, if_pos rfl]) (by rw [show ((c.forget k.p2).keep k.p2 { s with left := s.left - 1 }).told = (c.forget k.p2).told from rfl, forget_contains]; simp)
      (fun j j1 j8 hj => ⟨by rw [keep_getD (show (c.forget k.p2).secrets.length = 8 from g.sec) p1 p8 j1, if_neg hj]; rfl, by rw [show ((c.forget k.p2).keep k.p2 { s with left := s.left - 1 }).told = (c.forget k.p2).told from rfl, forget_contains]; simp [hj]⟩)
    have hC3 : CardAt CF CS CC H3 R a ((c.forget k.p2).keep k.p2 { s with left := s.left - 1 }) := ⟨dx, sl, sd, ws, kvs, X3.mono (kp.upd o3.ob)⟩
    have hx := kk H3 R rr (by rw [hm]; exact hC3) ((Fr.of e12).trans (Fr.keep kp ro.p)) (by rw [hm]; exact hr3) (X2.free hrn)
    exact hx
  have heq : k.data = s.word := of_decide_eq_true (nf hb)
  rw [if_neg (fun z => z heq)] at hm
  refine sa_fld o.ob (y := .bl true) ev_c (ev_var rfl) T.clCS T.nCS_told (by show 6 < 1000; decide) fun H1 k1 h1 => ?_
  rw [sp_told] at h1
  refine sa_fld h1 (ev_fld (ev_var rfl) h1 T.clCS T.nCS_most_tries (sf_most_tries ..)) (ev_var rfl) T.clCS T.nCS_tries (by show 6 < 1000; decide) fun H2 k2 h2 => ?_
  rw [sp_tries] at h2
  have kp := k1.trans k2
  have htold : ∀ j, (if c.told.contains k.p2 = true then c.told else c.told ++ [k.p2]).contains j = (c.told.contains j || decide (j = k.p2)) := fun j => by
    by_cases z : c.told.contains k.p2 = true
    · rw [if_pos z]
      by_cases y : j = k.p2
      · rw [y, z]
        rfl
      · simp [y]
    · rw [if_neg z]
      simp only [List.contains_eq_mem, List.mem_append, List.mem_singleton]
      by_cases y : j ∈ c.told <;> by_cases y2 : j = k.p2 <;> simp [y, y2]
  have X3 := X.secret (c' := { (c.keep k.p2 { s with left := s.most }) with told := if c.told.contains k.p2 = true then c.told else c.told ++ [k.p2] }) (s' := { s with left := s.most }) (t' := true) (dx2 := dx2) (wd' := wd) (fr' := fr) p1 p8 hv rfl ro.p o.wd ro.wd o.fr ro.fr (fun _ => rfl) rfl rfl rfl
    (by have z := keep_getD g.sec p1 p8 p1 { s with left := s.most }; rw [if_pos rfl] at z; exact z) (by rw [htold]; simp)
    (fun j j1 j8 hj => ⟨by have z := keep_getD g.sec p1 p8 j1 { s with left := s.most }; rw [if_neg hj] at z; exact z, by rw [htold]; simp [hj]⟩)
  exact sa_retL (el_only (ev_n 0x9000)) (leaf0 kk ⟨dx, sl, sd, ws, kvs, X3.mono (kp.upd h2)⟩ (Fr.keep kp ro.p) hm)
theorem ok_change_secret (T : Tx K mg CF CS CC CR RN) {f : Addr} {fd : FuncData} (F : C8.Def K mg "change_secret" s_change_secret f fd) (b : Binds K fd ["card", "request"] []) (c_aim_at_known : C8.Cal P w K mg base 2 "aim_at_known" (sp_aim_at_known CF CS CC CR K) []) (c_renew : C8.Cal P w K mg base 4 "renew" (sp_renew CS) []) (c_only : C8.Cal P w K mg base 3 "only" sp_only []) (c_told_wrong : C8.Cal P w K mg base 4 "told_wrong" (sp_told_wrong CS) []) :
    C8.Cal P w K mg base 5 "change_secret" (CmdP CF CS CC CR mChange) [] := by
  have S := sc_change_secret
  refine C8.cal0 F b .nil S (fun vs H Q E h => h.1) (fun cdv A outer s H vs Q E hr h => have hu := L2.hu_of hr; ⟨_, (pss_cons (ps_set (i := 2) S.nd rfl (Or.inl rfl) (pe_c c_aim_at_known hr (by decide) rfl (pa_cons (pv 0) (pa_cons (pv 1) (pa_cons (pe_tup (pa_cons (pe_gc rfl T.mPAIR) pa_nil)) pa_nil)))))
    (pss_cons (ps_if (pt_cmpR op_ne (pv 2) (pe_gc rfl T.mWELL) (nomark _)) (pss_one (ps_ret (pe_c c_only hr (by decide) rfl (pa_cons (pv 2) pa_nil)))) pss_nil)
    (pss_cons (ps_set (i := 3) S.nd rfl (Or.inl rfl) (pe_dget hu (pe_fld (pv 0) rfl) (pe_fld (pv 1) rfl) (fun _ _ => rfl)))
    (pss_cons (ps_if (pt_cmpR op_eq (pe_fld (pv 3) rfl) pe_int (nomark _)) (pss_one (ps_ret (pe_c c_only hr (by decide) rfl (pa_cons (pe_gc rfl T.mNO_TRIES) pa_nil)))) pss_nil)
    (pss_cons (ps_if (pt_cmpR (op_neD hr.units) (pe_slice sl_list (pe_fld (pv 1) rfl) po_none (po_some (pe_gc rfl T.mWORD))) (pe_fld (pv 3) rfl) (nomark _)) (pss_one (ps_ret (pe_c c_told_wrong hr (by decide) rfl (pa_cons (pv 3) pa_nil)))) pss_nil)
    (pss_one (ps_ret (pe_c c_renew hr (by decide) rfl (pa_cons (pv 3) (pa_cons (pe_slice sl_list (pe_fld (pv 1) rfl) (po_some (pe_gc rfl T.mWORD)) po_none) pa_nil)))))))))), ?_⟩)
  obtain ⟨-, a, q, R, c, k, rfl, hC, g, r, ok, kk⟩ := h
  obtain ⟨dx, sl, sd, ws, kvs, X⟩ := hC
  have hC : CardAt CF CS CC H R a c := ⟨dx, sl, sd, ws, kvs, X⟩
  have kk : OutQ CF CS CC H R a (mChange c k) Q := kk
  obtain ⟨dxq, d, hq, hd, rq, rd⟩ := id r
  refine Sat.go (sa_set (ev_aim_at_known (ls := [16]) (ev_var rfl) hC (ev_var rfl) r (eu_tup (ea_cons (ev_n 16) ea_nil) (by show 1 ≤ 100000; decide))) ?_)
  refine sa_when (et_test (ev_op (ev_var rfl) (ev_n 0x9000) rv_neN)) (fun hb => sa_retL (el_only (ev_var rfl)) (leaf0 kk hC (.refl R H) ?_)) fun hb => sa_next ?_
  · exact if_pos (of_decide_eq_true hb)
  have hs : aimK c k [16] = 0x9000 := Decidable.byContradiction fun z => by rw [decide_eq_true z] at hb; cases hb
  obtain ⟨hs2, s, hsec⟩ := aimK_ok hs
  obtain ⟨p1, p8, -, hw0, hlen⟩ := aimS_p2 hs2
  obtain ⟨p, dx2, wd, fr, hv, o, ro⟩ := X.sec_at p1 p8 hsec
  have hm : mChange c k = if s.left = 0 then out c 0x6983
      else if k.data.take 8 ≠ s.word then out ((c.forget k.p2).keep k.p2 { s with left := s.left - 1 }) (0x63C0 + (s.left - 1))
      else renewed c k s := by
    unfold mChange
    rw [if_neg (fun z => z hs), hsec]
  refine sa_set (v := .ref p) (ev_dget (ev_fld (ev_var rfl) X.ob T.clCC T.nCC_secrets (cf_secrets ..)) (ev_fld (ev_var rfl) hq T.clCR T.nCR_second (rf_second ..)) X.osd hv) ?_
  refine sa_when (et_test (ev_op (ev_fld (ev_var rfl) o.ob T.clCS T.nCS_tries (sf_tries ..)) (ev_n 0) rv_eqN)) (fun hb => sa_retL (el_only (ev_n 0x6983)) (leaf0 kk hC (.refl R H) ?_)) fun hb => sa_next ?_
  · rw [hm]
    exact if_pos (of_decide_eq_true hb)
  have hl0 : ¬ s.left = 0 := of_decide_eq_false hb
  rw [if_neg hl0] at hm
  refine sa_when (et_test (ev_neR (er_new (el_to (er_old (ev_fld (ev_var rfl) hq T.clCR T.nCR_data (rf_data ..)) hd) (ev_n 8))) (er_old (ev_fld (ev_var rfl) o.ob T.clCS T.nCS_word (sf_word ..)) o.wd))) (fun hb => ?_) fun hb => sa_next ?_
  · have hne : k.data.take 8 ≠ s.word := of_decide_eq_false (nt hb)
    rw [if_pos hne] at hm
    refine sa_retE fun H1 e1 => do_call (ep_cons (ev_var rfl) ep_nil) fun vs H2 e2 hvv => ?_
    obtain ⟨r1, rfl, rfl⟩ := hvv
    have e12 := e1.trans e2
    refine ⟨rfl, p, s, _, dx2, wd, fr, rfl, o.mono e12, by omega, fun H3 rr kp o3 hrn hr3 => ?_⟩
    have kp : Keep p H2 H3 := kp
    have X2 := X.mono e12
    have X3 := X2.secret (c' := (c.forget k.p2).keep k.p2 { s with left := s.left - 1 }) (s' := { s with left := s.left - 1 }) (t' := false) (dx2 := dx2) (wd' := wd) (fr' := fr) p1 p8 hv rfl ro.p (o.mono e12).wd ro.wd (o.mono e12).fr ro.fr (fun _ => rfl) rfl rfl rfl
      (by rw [keep_getD (show (c.forget k.p2).secrets.length = 8 from g.sec) p1 p8 p1, if_pos rfl]) (by rw [show ((c.forget k.p2).keep k.p2 { s with left := s.left - 1 }).told = (c.forget k.p2).told from rfl, forget_contains]; simp)
      (fun j j1 j8 hj => ⟨by rw [keep_getD (show (c.forget k.p2).secrets.length = 8 from g.sec) p1 p8 j1, if_neg hj]; rfl, by rw [show ((c.forget k.p2).keep k.p2 { s with left := s.left - 1 }).told = (c.forget k.p2).told from rfl, forget_contains]; simp [hj]⟩)
    have hC3 : CardAt CF CS CC H3 R a ((c.forget k.p2).keep k.p2 { s with left := s.left - 1 }) := ⟨dx, sl, sd, ws, kvs, X3.mono (kp.upd o3.ob)⟩
    have hx := kk H3 R rr (by rw [hm]; exact hC3) ((Fr.of e12).trans (Fr.keep kp ro.p)) (by rw [hm]; exact hr3) (X2.free hrn)
    exact hx
  have heq : k.data.take 8 = s.word := of_decide_eq_true (nf hb)
  rw [if_neg (fun z => z heq)] at hm
  refine sa_retE fun H1 e1 => do_call (ep_cons (ev_var rfl) (ep_consL (el_from ((er_old (ev_fld (ev_var rfl) hq T.clCR T.nCR_data (rf_data ..)) hd).mono e1) (ev_n 8)) ep_nil)) fun vs H2 e2 hvv => ?_
  obtain ⟨r1, rfl, w2, r2, rfl, hwn, hw2, rfl⟩ := hvv
  have e12 := e1.trans e2
  refine ⟨rfl, p, s, _, dx2, wd, fr, w2, k.data.drop 8, rfl, o.mono e12, hw2, fun H3 rr kp o3 hrn hr3 => ?_⟩
  have kp : Keep p H2 H3 := kp
  have X2 := X.mono e12
  have X3 := X2.secret (c' := (c.forget k.p2).keep k.p2 { s with word := k.data.drop 8, left := s.most }) (s' := { s with word := k.data.drop 8, left := s.most }) (t' := false) (dx2 := dx2) (wd' := w2) (fr' := fr) p1 p8 hv rfl ro.p hw2 (X.free (fresh_back e1 hwn)) (o.mono e12).fr ro.fr (fun _ => rfl) rfl rfl rfl
    (by rw [keep_getD (show (c.forget k.p2).secrets.length = 8 from g.sec) p1 p8 p1, if_pos rfl]) (by rw [show ((c.forget k.p2).keep k.p2 { s with word := k.data.drop 8, left := s.most }).told = (c.forget k.p2).told from rfl, forget_contains]; simp)
    (fun j j1 j8 hj => ⟨by rw [keep_getD (show (c.forget k.p2).secrets.length = 8 from g.sec) p1 p8 j1, if_neg hj]; rfl, by rw [show ((c.forget k.p2).keep k.p2 { s with word := k.data.drop 8, left := s.most }).told = (c.forget k.p2).told from rfl, forget_contains]; simp [hj]⟩)
  have hC3 : CardAt CF CS CC H3 R a ((c.forget k.p2).keep k.p2 { s with word := k.data.drop 8, left := s.most }) := ⟨dx, sl, sd, ws, kvs, X3.mono (kp.upd o3.ob)⟩
  have hx := kk H3 R rr (by rw [hm]; exact hC3) ((Fr.of e12).trans (Fr.keep kp ro.p)) (by rw [hm]; exact hr3) (X2.free hrn)
  exact hx
theorem ok_free_secret (T : Tx K mg CF CS CC CR RN) {f : Addr} {fd : FuncData} (F : C8.Def K mg "free_secret" s_free_secret f fd) (b : Binds K fd ["card", "request"] []) (c_aim_at_known : C8.Cal P w K mg base 2 "aim_at_known" (sp_aim_at_known CF CS CC CR K) []) (c_renew : C8.Cal P w K mg base 4 "renew" (sp_renew CS) []) (c_only : C8.Cal P w K mg base 3 "only" sp_only []) :
    C8.Cal P w K mg base 5 "free_secret" (CmdP CF CS CC CR mFree) [] := by
  have S := sc_free_secret
  refine C8.cal0 F b .nil S (fun vs H Q E h => h.1) (fun cdv A outer s H vs Q E hr h => have hu := L2.hu_of hr; ⟨_, (pss_cons (ps_set (i := 2) S.nd rfl (Or.inl rfl) (pe_c c_aim_at_known hr (by decide) rfl (pa_cons (pv 0) (pa_cons (pv 1) (pa_cons (pe_tup (pa_cons (pe_gc rfl T.mPAIR) pa_nil)) pa_nil)))))
    (pss_cons (ps_if (pt_cmpR op_ne (pv 2) (pe_gc rfl T.mWELL) (nomark _)) (pss_one (ps_ret (pe_c c_only hr (by decide) rfl (pa_cons (pv 2) pa_nil)))) pss_nil)
    (pss_cons (ps_set (i := 3) S.nd rfl (Or.inl rfl) (pe_dget hu (pe_fld (pv 0) rfl) (pe_fld (pv 1) rfl) (fun _ _ => rfl)))
    (pss_cons (ps_if (pt_cmpR op_eq (pe_fld (pv 3) rfl) pe_int (nomark _)) (pss_one (ps_ret (pe_c c_only hr (by decide) rfl (pa_cons (pe_gc rfl T.mNO_TRIES) pa_nil)))) pss_nil)
    (pss_cons (ps_if (pt_cmpR (op_neD hr.units) (pe_slice sl_list (pe_fld (pv 1) rfl) po_none (po_some (pe_gc rfl T.mWORD))) (pe_fld (pv 3) rfl) (nomark _)) (pss_cons (ps_fld (pv 3) (pe_op op_sub (pe_fld (pv 3) rfl) pe_int) rfl)
      (pss_one (ps_ret (pe_c c_only hr (by decide) rfl (pa_cons (pe_op op_add (pe_gc rfl T.mTRIES_LEFT) (pe_fld (pv 3) rfl)) pa_nil))))) pss_nil)
    (pss_one (ps_ret (pe_c c_renew hr (by decide) rfl (pa_cons (pv 3) (pa_cons (pe_slice sl_list (pe_fld (pv 1) rfl) (po_some (pe_gc rfl T.mWORD)) po_none) pa_nil)))))))))), ?_⟩)
  obtain ⟨-, a, q, R, c, k, rfl, hC, g, r, ok, kk⟩ := h
  obtain ⟨dx, sl, sd, ws, kvs, X⟩ := hC
  have hC : CardAt CF CS CC H R a c := ⟨dx, sl, sd, ws, kvs, X⟩
  have kk : OutQ CF CS CC H R a (mFree c k) Q := kk
  obtain ⟨dxq, d, hq, hd, rq, rd⟩ := id r
  refine Sat.go (sa_set (ev_aim_at_known (ls := [16]) (ev_var rfl) hC (ev_var rfl) r (eu_tup (ea_cons (ev_n 16) ea_nil) (by show 1 ≤ 100000; decide))) ?_)
  refine sa_when (et_test (ev_op (ev_var rfl) (ev_n 0x9000) rv_neN)) (fun hb => sa_retL (el_only (ev_var rfl)) (leaf0 kk hC (.refl R H) ?_)) fun hb => sa_next ?_
  · exact if_pos (of_decide_eq_true hb)
  have hs : aimK c k [16] = 0x9000 := Decidable.byContradiction fun z => by rw [decide_eq_true z] at hb; cases hb
  obtain ⟨hs2, s, hsec⟩ := aimK_ok hs
  obtain ⟨p1, p8, -, hw0, hlen⟩ := aimS_p2 hs2
  obtain ⟨p, dx2, wd, fr, hv, o, ro⟩ := X.sec_at p1 p8 hsec
  have hm : mFree c k = if s.freeLeft = 0 then out c 0x6983
      else if k.data.take 8 ≠ s.free then out (c.keep k.p2 { s with freeLeft := s.freeLeft - 1 }) (0x63C0 + (s.freeLeft - 1))
      else renewed c k s := by
    unfold mFree
    rw [if_neg (fun z => z hs), hsec]
  refine sa_set (v := .ref p) (ev_dget (ev_fld (ev_var rfl) X.ob T.clCC T.nCC_secrets (cf_secrets ..)) (ev_fld (ev_var rfl) hq T.clCR T.nCR_second (rf_second ..)) X.osd hv) ?_
  refine sa_when (et_test (ev_op (ev_fld (ev_var rfl) o.ob T.clCS T.nCS_freer_tries (sf_freer_tries ..)) (ev_n 0) rv_eqN)) (fun hb => sa_retL (el_only (ev_n 0x6983)) (leaf0 kk hC (.refl R H) ?_)) fun hb => sa_next ?_
  · rw [hm]
    exact if_pos (of_decide_eq_true hb)
  have hl0 : ¬ s.freeLeft = 0 := of_decide_eq_false hb
  rw [if_neg hl0] at hm
  refine sa_when (et_test (ev_neR (er_new (el_to (er_old (ev_fld (ev_var rfl) hq T.clCR T.nCR_data (rf_data ..)) hd) (ev_n 8))) (er_old (ev_fld (ev_var rfl) o.ob T.clCS T.nCS_freer (sf_freer ..)) o.fr))) (fun hb => ?_) fun hb => sa_next ?_
  · have hne : k.data.take 8 ≠ s.free := of_decide_eq_false (nt hb)
    rw [if_pos hne] at hm
    refine sa_fld o.ob (ev_op (ev_fld (ev_var rfl) o.ob T.clCS T.nCS_freer_tries (sf_freer_tries ..)) (ev_n 1) (rv_sub (by omega))) (ev_var rfl) T.clCS T.nCS_freer_tries (by show 6 < 1000; decide) fun H1 k1 h1 => ?_
    rw [sp_freer_tries] at h1
    have X3 := X.secret (c' := c.keep k.p2 { s with freeLeft := s.freeLeft - 1 }) (s' := { s with freeLeft := s.freeLeft - 1 }) (t' := c.told.contains k.p2) (dx2 := dx2) (wd' := wd) (fr' := fr) p1 p8 hv rfl ro.p o.wd ro.wd o.fr ro.fr (fun _ => rfl) rfl rfl rfl
      (by rw [keep_getD g.sec p1 p8 p1, if_pos rfl]) rfl (fun j j1 j8 hj => ⟨by rw [keep_getD g.sec p1 p8 j1, if_neg hj], rfl⟩)
    exact sa_retL (el_only (ev_op (ev_n 0x63C0) (ev_fld (ev_var rfl) h1 T.clCS T.nCS_freer_tries (sf_freer_tries ..)) rv_add)) (leaf0 kk ⟨dx, sl, sd, ws, kvs, X3.mono (k1.upd h1)⟩ (Fr.keep k1 ro.p) hm)
  have heq : k.data.take 8 = s.free := of_decide_eq_true (nf hb)
  rw [if_neg (fun z => z heq)] at hm
  refine sa_retE fun H1 e1 => do_call (ep_cons (ev_var rfl) (ep_consL (el_from ((er_old (ev_fld (ev_var rfl) hq T.clCR T.nCR_data (rf_data ..)) hd).mono e1) (ev_n 8)) ep_nil)) fun vs H2 e2 hvv => ?_
  obtain ⟨r1, rfl, w2, r2, rfl, hwn, hw2, rfl⟩ := hvv
  have e12 := e1.trans e2
  refine ⟨rfl, p, s, _, dx2, wd, fr, w2, k.data.drop 8, rfl, o.mono e12, hw2, fun H3 rr kp o3 hrn hr3 => ?_⟩
  have kp : Keep p H2 H3 := kp
  have X2 := X.mono e12
  have X3 := X2.secret (c' := (c.forget k.p2).keep k.p2 { s with word := k.data.drop 8, left := s.most }) (s' := { s with word := k.data.drop 8, left := s.most }) (t' := false) (dx2 := dx2) (wd' := w2) (fr' := fr) p1 p8 hv rfl ro.p hw2 (X.free (fresh_back e1 hwn)) (o.mono e12).fr ro.fr (fun _ => rfl) rfl rfl rfl
    (by rw [keep_getD (show (c.forget k.p2).secrets.length = 8 from g.sec) p1 p8 p1, if_pos rfl]) (by rw [show ((c.forget k.p2).keep k.p2 { s with word := k.data.drop 8, left := s.most }).told = (c.forget k.p2).told from rfl, forget_contains]; simp)
    (fun j j1 j8 hj => ⟨by rw [keep_getD (show (c.forget k.p2).secrets.length = 8 from g.sec) p1 p8 j1, if_neg hj]; rfl, by rw [show ((c.forget k.p2).keep k.p2 { s with word := k.data.drop 8, left := s.most }).told = (c.forget k.p2).told from rfl, forget_contains]; simp [hj]⟩)
  have hC3 : CardAt CF CS CC H3 R a ((c.forget k.p2).keep k.p2 { s with word := k.data.drop 8, left := s.most }) := ⟨dx, sl, sd, ws, kvs, X3.mono (kp.upd o3.ob)⟩
  have hx := kk H3 R rr (by rw [hm]; exact hC3) ((Fr.of e12).trans (Fr.keep kp ro.p)) (by rw [hm]; exact hr3) (X2.free hrn)
  exact hx
theorem ok_make_secret (T : Tx K mg CF CS CC CR RN) {f : Addr} {fd : FuncData} (F : C8.Def K mg "make_secret" s_make_secret f fd) (b : Binds K fd ["card", "request"] []) (c_aim_at_secret : C8.Cal P w K mg base 1 "aim_at_secret" (sp_aim_at_secret CR K) []) (c_Secret_init : C8.Mak P w K mg base 1 "Secret" CS (sp_Secret_init CS) []) (c_only : C8.Cal P w K mg base 3 "only" sp_only []) :
    C8.Cal P w K mg base 4 "make_secret" (CmdP CF CS CC CR mSecret) [] := by
  have S := sc_make_secret
  refine C8.cal0 F b .nil S (fun vs H Q E h => h.1) (fun cdv A outer s H vs Q E hr h => have hu := L2.hu_of hr; ⟨_, (pss_cons (ps_set (i := 2) S.nd rfl (Or.inl rfl) (pe_c c_aim_at_secret hr (by decide) rfl (pa_cons (pv 1) (pa_cons pe_int (pa_cons (pe_tup (pa_cons (pe_op op_add (pe_gc rfl T.mPAIR) pe_int) pa_nil)) pa_nil)))))
    (pss_cons (ps_if (pt_cmpR op_ne (pv 2) (pe_gc rfl T.mWELL) (nomark _)) (pss_one (ps_ret (pe_c c_only hr (by decide) rfl (pa_cons (pv 2) pa_nil)))) pss_nil)
    (pss_cons (ps_if (pt_val (pe_fld (pv 0) rfl)) (pss_one (ps_ret (pe_c c_only hr (by decide) rfl (pa_cons (pe_gc rfl T.mNOT_NOW) pa_nil)))) pss_nil)
    (pss_cons (ps_for PassesOwn.never rfl (pi_list (pe_slice sl_list (pe_fld (pv 1) rfl) (po_some (pe_gc rfl T.mPAIR)) po_none)) (pg_name (i := 3) S.nd rfl (Or.inl rfl)) (pss_one (ps_if (pt_not (pt_chain op_le op_le pe_int (pv 3) (pe_gc rfl T.mMOST_TRIES))) (pss_one (ps_ret (pe_c c_only hr (by decide) rfl (pa_cons (pe_gc rfl T.mWRONG_DATA) pa_nil)))) pss_nil)))
    (pss_cons (ps_set (i := 4) S.nd rfl (Or.inl rfl) (pe_mk c_Secret_init hr (by decide) rfl (pa_cons (pe_slice sl_list (pe_fld (pv 1) rfl) po_none (po_some (pe_gc rfl T.mWORD))) (pa_cons (pe_slice sl_list (pe_fld (pv 1) rfl) (po_some (pe_gc rfl T.mWORD)) (po_some (pe_gc rfl T.mPAIR))) (pa_cons (pe_ix ix_list (pe_fld (pv 1) rfl) (pe_gc rfl T.mPAIR) (fun _ _ => rfl)) (pa_cons (pe_ix ix_list (pe_fld (pv 1) rfl) (pe_op op_add (pe_gc rfl T.mPAIR) pe_int) (fun _ _ => rfl)) pa_nil))))))
    (pss_cons (ps_if (pt_cmp (pc_din hu (pe_fld (pv 1) rfl) (pe_fld (pv 0) rfl)) rfl) (pss_one (ps_fld (pv 4) (pe_fld (pe_dget hu (pe_fld (pv 0) rfl) (pe_fld (pv 1) rfl) (fun _ _ => rfl)) rfl) rfl)) pss_nil)
    (pss_cons (ps_dput hu (pe_fld (pv 0) rfl) (pe_fld (pv 1) rfl) (pv 4) rfl)
    (pss_one (ps_ret (pe_c c_only hr (by decide) rfl (pa_cons (pe_gc rfl T.mWELL) pa_nil))))))))))), ?_⟩)
  obtain ⟨-, a, q, R, c, k, rfl, hC, g, r, ok, kk⟩ := h
  obtain ⟨dx, sl, sd, ws, kvs, X⟩ := hC
  have hC : CardAt CF CS CC H R a c := ⟨dx, sl, sd, ws, kvs, X⟩
  have kk : OutQ CF CS CC H R a (mSecret c k) Q := kk
  obtain ⟨dxq, d, hq, hd, rq, rd⟩ := id r
  refine Sat.go (sa_set (ev_aim_at_secret (ls := [18]) (ev_var rfl) r (ev_n 1) (eu_tup (ea_cons (ev_op (ev_n 16) (ev_n 2) rv_add) ea_nil) (by show 1 ≤ 100000; decide))) ?_)
  refine sa_when (et_test (ev_op (ev_var rfl) (ev_n 0x9000) rv_neN)) (fun hb => sa_retL (el_only (ev_var rfl)) (leaf0 kk hC (.refl R H) ?_)) fun hb => sa_next ?_
  · exact if_pos (of_decide_eq_true hb)
  have hs : aimS k 1 [18] = 0x9000 := Decidable.byContradiction fun z => by rw [decide_eq_true z] at hb; cases hb
  obtain ⟨p1, p8, -, hw0, hlen⟩ := aimS_p2 hs
  have h18 : k.data.length = 18 := by simpa using hlen
  have hm : mSecret c k = if c.active = true then out c 0x6985
      else if (k.data.drop 16).all okTries = false then out c 0x6A80
      else out (c.keep k.p2 ⟨k.data.take 8, k.data.getD 16 0, k.data.getD 16 0, (k.data.drop 8).take 8, k.data.getD 17 0⟩) 0x9000 := by
    unfold mSecret
    rw [if_neg (fun z => z hs)]
  refine sa_when (et_B (ev_fld (ev_var rfl) X.ob T.clCC T.nCC_active (cf_active ..))) (fun hb => sa_retL (el_only (ev_n 0x6985)) (leaf0 kk hC (.refl R H) ?_)) fun hb => sa_next ?_
  · rw [hm]
    exact if_pos hb
  rw [if_neg (by rw [hb]; decide)] at hm
  obtain ⟨n, hn⟩ : ∃ n, n = (k.data.drop 16).length := ⟨_, rfl⟩
  refine sa_forN (el_from (er_old (ev_fld (ev_var rfl) hq T.clCR T.nCR_data (rf_data ..)) hd) (ev_n 16)) (fun lp i σ' H' => σ'.set 3 none = [some (.ref a), some (.ref q), some (.int ((aimS k 1 [18] : Nat) : Int)), none, none] ∧ Ex H H' ∧ H' lp = some (.lst (bl (k.data.drop 16))) ∧ ∀ x ∈ (k.data.drop 16).take i, okTries x = true) (fun lp H1 hln e1 h1 => ⟨rfl, e1, h1, fun x hx => by simp at hx⟩) (fun lp i σ' H' _ p => p.2.2.1) ?_ ?_
  · rintro lp i x σ' H' hx ⟨g1, e1, hlp, hall⟩
    rw [bl_get] at hx
    cases ht : (k.data.drop 16)[i]? with
    | none =>
      rw [ht] at hx
      cases hx
    | some t =>
      rw [ht] at hx
      have hx : V.int (t : Int) = x := Option.some.inj hx
      subst hx
      rw [set_none (σ := [some (.ref a), some (.ref q), some (.int ((aimS k 1 [18] : Nat) : Int)), none, none]) g1]
      refine sa_if (et_not (et_chain (ev_n 1) (ev_var rfl) (ev_n 15) rv_le rv_le)) (fun hb => sa_retL (el_only (ev_n 0x6A80)) (leaf0 kk (hC.mono e1) (.of e1) ?_)) fun hb => ?_
      · have hbad : okTries t = false := nt hb
        have z : (k.data.drop 16).all okTries = false := by
          rw [List.all_eq_false]
          exact ⟨t, List.mem_of_getElem? ht, by rw [hbad]; decide⟩
        rw [hm]
        exact if_pos z
      · have hgood : okTries t = true := nf hb
        refine fun H2 e2 => ⟨rfl, e1.trans e2, e2 _ _ hlp, fun y hy => ?_⟩
        rw [List.take_add_one, ht] at hy
        rcases List.mem_append.mp hy with z | z
        · exact hall y z
        · rw [List.mem_singleton.mp z]
          exact hgood
  · rintro lp σ' H0 ⟨g1, e1, hlp, hall⟩
    rw [bl_len, List.take_length] at hall
    have hok : (k.data.drop 16).all okTries = true := List.all_eq_true.mpr hall
    rw [if_neg (by rw [hok]; decide)] at hm
    obtain ⟨v3, rfl⟩ : ∃ v, σ' = [some (.ref a), some (.ref q), some (.int ((aimS k 1 [18] : Nat) : Int)), v, none] := match σ', g1 with
      | [x0, x1, x2, x3, x4], g1 => by
        cases g1
        exact ⟨x3, rfl⟩
    have X0 := X.mono e1
    have hq0 := e1 _ _ hq
    have hd0 := e1 _ _ hd
    refine Sat.go (sa_setG (P := fun v H2 => ∃ p dx2 wd fr, v = .ref p ∧ SObj CS H2 p ⟨k.data.take 8, k.data.getD 16 0, k.data.getD 16 0, (k.data.drop 8).take 8, k.data.getD 17 0⟩ false dx2 wd fr ∧ H0 p = none ∧ H0 wd = none ∧ H0 fr = none)
      (eg_make (ep_consL (el_to (er_old (ev_fld (ev_var rfl) hq0 T.clCR T.nCR_data (rf_data ..)) hd0) (ev_n 8)) (ep_consL (el_cut (m := 8) (n := 16) (er_old (ev_fld (ev_var rfl) hq0 T.clCR T.nCR_data (rf_data ..)) hd0) (ev_n 8) (ev_n 16)) (ep_cons (ev_ixD (er_old (ev_fld (ev_var rfl) hq0 T.clCR T.nCR_data (rf_data ..)) hd0) (ev_n 16) (by omega)) (ep_cons (ev_ixD (i := 17) (er_old (ev_fld (ev_var rfl) hq0 T.clCR T.nCR_data (rf_data ..)) hd0) (ev_op (ev_n 16) (ev_n 1) rv_add) (by omega)) ep_nil)))) fun vs H1 p dx2 e2 hvv hp hdx hne Q2 q2 => ?_) ?_)
    · obtain ⟨wd, r1, rfl, hwn, hwd, fr, r2, rfl, hfn, hfr, r3, rfl, r4, rfl, rfl⟩ := hvv
      have wp : wd ≠ p := fun z => by rw [z, hp] at hwd; cases hwd
      have fp : fr ≠ p := fun z => by rw [z, hp] at hfr; cases hfr
      refine ⟨rfl, p, dx2, wd, fr, k.data.take 8, (k.data.drop 8).take 8, k.data.getD 16 0, k.data.getD 17 0, rfl, upd_same, by rw [upd_ne wp, upd_ne (ne_of_none hwd hdx)]; exact hwd, by rw [upd_ne fp, upd_ne (ne_of_none hfr hdx)]; exact hfr, fun H2 o kp => ?_⟩
      refine q2 H2 (fun b u hb => kp b u (by rw [upd_ne (ne_of_none hb hp), upd_ne (ne_of_none hb hdx)]; exact hb) (ne_of_none hb hp)) ⟨p, dx2, wd, fr, rfl, o, fresh_back e2 hp, hwn, hfn⟩
    rintro v H1 e2 ⟨p, dx2, wd, fr, rfl, o, hpn, hwn, hfn⟩
    have X1 := X0.mono e2
    have wp : wd ≠ p := fun z => by have y := o.wd; rw [z, o.ob] at y; cases y
    have fp : fr ≠ p := fun z => by have y := o.fr; rw [z, o.ob] at y; cases y
    -- whether it was told
    have hold : (valV kvs (Sum.inl ((k.p2 : Nat) : Int))).isSome = (c.secrets.getD (k.p2 - 1) none).isSome := by
      have s := X.sec k.p2 p1 p8
      cases e : c.secrets.getD (k.p2 - 1) none with
      | none =>
        rw [e] at s
        rw [show valV kvs (Sum.inl ((k.p2 : Nat) : Int)) = none from s]
        rfl
      | some sc =>
        rw [e] at s
        obtain ⟨p3, _, _, _, y, _⟩ := s
        rw [show valV kvs (Sum.inl ((k.p2 : Nat) : Int)) = _ from y]
        rfl
    refine sa_whenFld (y := .bl (c.told.contains k.p2)) o.ob (et_B (ev_is (ev_din (ev_fld (ev_var rfl) (e2 _ _ hq0) T.clCR T.nCR_second (rf_second ..)) (ev_fld (ev_var rfl) X1.ob T.clCC T.nCC_secrets (cf_secrets ..)) X1.osd) (by rw [hold]))) (fun hb => ?_) (ev_var rfl) T.clCS T.nCS_told (by show 6 < 1000; decide) fun H2 k2 h2 => ?_
    · obtain ⟨sc, hsc⟩ := Option.isSome_iff_exists.mp hb
      obtain ⟨p3, dx3, wd3, fr3, y1, y2, y3⟩ := X1.sec_at p1 p8 hsc
      exact ev_fld (ev_dget (ev_fld (ev_var rfl) X1.ob T.clCC T.nCC_secrets (cf_secrets ..)) (ev_fld (ev_var rfl) (e2 _ _ hq0) T.clCR T.nCR_second (rf_second ..)) X1.osd y1) y2.ob T.clCS T.nCS_told (sf_told ..)
    have ht : (if (c.secrets.getD (k.p2 - 1) none).isSome = true then putF "told" (.bl (c.told.contains k.p2)) (sfs ⟨k.data.take 8, k.data.getD 16 0, k.data.getD 16 0, (k.data.drop 8).take 8, k.data.getD 17 0⟩ false wd fr) else sfs ⟨k.data.take 8, k.data.getD 16 0, k.data.getD 16 0, (k.data.drop 8).take 8, k.data.getD 17 0⟩ false wd fr) = sfs ⟨k.data.take 8, k.data.getD 16 0, k.data.getD 16 0, (k.data.drop 8).take 8, k.data.getD 17 0⟩ (c.told.contains k.p2) wd fr := by
      cases e : c.secrets.getD (k.p2 - 1) none with
      | none =>
        have q : c.told.contains k.p2 = false := by
          rw [List.contains_eq_mem]
          refine decide_eq_false fun hmm => ?_
          obtain ⟨_, _, s2, y⟩ := g.told _ hmm
          rw [List.getD_eq_getElem?_getD, y] at e
          cases e
        rw [q]
        rfl
      | some sc => exact sp_told ..
    rw [ht] at h2
    have e02 : Ex H0 H2 := Keep.ex e2 k2 hpn
    have o2 : SObj CS H2 p ⟨k.data.take 8, k.data.getD 16 0, k.data.getD 16 0, (k.data.drop 8).take 8, k.data.getD 17 0⟩ (c.told.contains k.p2) dx2 wd fr := ⟨h2, k2 _ _ o.wd wp, k2 _ _ o.fr fp⟩
    have XR := X0.set (r := .secret k.p2) e02 hpn (by rw [h2]; intro z; cases z)
    have fR : Fr R H0 (setR R p (.secret k.p2)) H2 := Fr.set e02 hpn
    have ro : SRole (setR R p (.secret k.p2)) k.p2 p wd fr := ⟨setR_same, (setR_ne wp).trans (X0.free hwn), (setR_ne fp).trans (X0.free hfn)⟩
    have kd2 : kvs.length < sizeLine := by
      have z : kvs.length ≤ 8 := by
        have gen : ∀ (l : List (Key × V)), (l.map (·.1)).Nodup → (∀ kv ∈ l, ∃ k, 1 ≤ k ∧ k ≤ 8 ∧ kv.1 = key k) → l.length ≤ 8 := fun l hn hk => by
          have hsub : ∀ y ∈ l.map (·.1), y ∈ (List.range' 1 8).map key := fun y hy => by
            obtain ⟨kv, h1, h2⟩ := List.mem_map.mp hy
            obtain ⟨j, j1, j8, hj⟩ := hk kv h1
            rw [← h2, hj]
            exact List.mem_map.mpr ⟨j, by rw [List.mem_range'_1]; omega, rfl⟩
          have := nodup_le _ _ hn hsub
          rw [List.length_map, List.length_map, List.length_range'] at this
          exact this
        exact gen kvs X.nd X.keys
      exact Nat.lt_of_le_of_lt z (by decide)
    refine sa_seq (dput_K (v := .ref p) XR.osd (ev_fld (ev_var rfl) XR.ob T.clCC T.nCC_secrets (cf_secrets ..)) (ev_fld (ev_var rfl) (e02 _ _ hq0) T.clCR T.nCR_second (rf_second ..)) (ev_var rfl) kd2 fun H3 k3 h3 => ?_)
    have X3 := XR.dput (c' := c.keep k.p2 ⟨k.data.take 8, k.data.getD 16 0, k.data.getD 16 0, (k.data.drop 8).take 8, k.data.getD 17 0⟩) p1 p8 o2 ro (fun _ => rfl) rfl rfl rfl (by rw [keep_getD g.sec p1 p8 p1, if_pos rfl]) rfl (fun j j1 j8 hj => ⟨by rw [keep_getD g.sec p1 p8 j1, if_neg hj], rfl⟩)
    exact (sa_retL (σ := [some (.ref a), some (.ref q), some (.int ((aimS k 1 [18] : Nat) : Int)), v3, some (.ref p)]) (el_only (ev_n 0x9000)) (leaf0 kk ⟨dx, sl, sd, ws, _, X3.mono (k3.upd h3)⟩ ((Fr.of e1).trans (fR.trans (Fr.keep k3 XR.rsd))) hm)).go
end
end Cc
end
section
namespace Cc
open PySem PySem.Spec PyProof.Rows L2 Evl
open C8 (pe_c pe_mk pe_mt pe_mt0 pe_gc)
open Sd27 (Card File Secret Kind Cmd isFolder)
section
variable {P : Program} {w : World} {K : PySem.W.Frag} {mg : Str → Option Value} {base : Heap} {CF CS CC CR RN : Addr}

/-- a request is handed back -/
theorem req_ret {σ : L2.St} {H0 H : Hp} {ta tb tc : TE} {D : Ends} {k : Cmd} (e : Ex H0 H) (h1 : EvR ta σ H (bl [k.cla, k.ins, k.p1, k.p2])) (h2 : ∀ H1, Ex H H1 → ∀ Q : VK, (∀ d H2, Ex H1 H2 → H0 d = none → H2 d = some (.lst (bl k.data)) → Q (.ref d) H2) → tb σ H1 Q) (h3 : Ev tc σ H (.int ((wantI k.want : Nat) : Int)))
    (kk : ∀ q H' dx d, H0 q = none → H0 d = none → Ex H0 H' → H' q = some (.ins CR dx (rfs k d)) → H' d = some (.lst (bl k.data)) → D.rt (.ref q) H') : Sat (tRet (tMake CR (sp_Request_init CR) [] C8.E0 (tCons ta (tCons tb (tCons tc tNil))))) D σ H := fun H1 e1 =>
  h1 H1 e1 _ fun p H2 e2 hp => h2 H2 (e1.trans e2) _ fun d H3 e3 hd0 hd => h3 H3 ((e1.trans e2).trans e3) _ fun H4 e4 x dx hx hdx hne => by
    have e14 : Ex H0 H4 := e.trans (((e1.trans e2).trans e3).trans e4)
    have pp := e4 _ _ (e3 _ _ hp)
    have dd := e4 _ _ hd
    refine ⟨rfl, x, dx, p, d, k, rfl, upd_same, by rw [upd_ne (ne_of_none pp hx), upd_ne (ne_of_none pp hdx)]; exact pp, fun H5 h5 kp => ⟨rfl, ?_⟩⟩
    refine kk x H5 dx d (fresh_back e14 hx) hd0 (fun b u hb => kp b u (by rw [upd_ne (ne_of_none (e14 _ _ hb) hx), upd_ne (ne_of_none (e14 _ _ hb) hdx)]; exact e14 _ _ hb) (ne_of_none (e14 _ _ hb) hx)) h5 (kp _ _ (by rw [upd_ne (ne_of_none dd hx), upd_ne (ne_of_none dd hdx)]; exact dd) (ne_of_none dd hx))
theorem ok_read_request (T : Tx K mg CF CS CC CR RN) {f : Addr} {fd : FuncData} (F : C8.Def K mg "read_request" s_read_request f fd) (b : Binds K fd ["given"] []) (c_Request_init : C8.Mak P w K mg base 1 "Request" CR (sp_Request_init CR) []) (c_amount : C8.Cal P w K mg base 1 "amount" sp_amount []) :
    C8.Cal P w K mg base 3 "read_request" (sp_read_request CR) [] := by
  have S := sc_read_request
  refine C8.cal0 F b .nil S (fun vs H Q E h => h.1) (fun cdv A outer s H vs Q E hr h => ⟨_, (pss_cons (ps_if (pt_cmpR op_lt (pe_callB call_len_seq (by rfl) T.len PySem.boot_len (pa_cons (pv 0) pa_nil)) (pe_gc rfl T.mHEADER_LENGTH) (nomark _)) (pss_one (ps_ret pe_non)) pss_nil)
    (pss_cons (ps_set (i := 1) S.nd rfl (Or.inl rfl) (pe_slice sl_list (pv 0) po_none (po_some (pe_gc rfl T.mHEADER_LENGTH))))
    (pss_cons (ps_set (i := 2) S.nd rfl (Or.inl rfl) (pe_slice sl_list (pv 0) (po_some (pe_gc rfl T.mHEADER_LENGTH)) po_none))
    (pss_cons (ps_if (pt_cmpR op_eq (pe_callB call_len_seq (by rfl) T.len PySem.boot_len (pa_cons (pv 2) pa_nil)) pe_int (nomark _)) (pss_one (ps_ret (pe_mk c_Request_init hr (by decide) rfl (pa_cons (pv 1) (pa_cons (pe_lst pa_nil) (pa_cons (pe_gc rfl T.mNOTHING) pa_nil)))))) pss_nil)
    (pss_cons (ps_if (pt_cmpR op_eq (pe_callB call_len_seq (by rfl) T.len PySem.boot_len (pa_cons (pv 2) pa_nil)) pe_int (nomark _)) (pss_one (ps_ret (pe_mk c_Request_init hr (by decide) rfl (pa_cons (pv 1) (pa_cons (pe_lst pa_nil) (pa_cons (pe_c c_amount hr (by decide) rfl (pa_cons (pe_ix ix_list (pv 2) pe_int (fun _ _ => rfl)) pa_nil)) pa_nil)))))) pss_nil)
    (pss_cons (ps_set (i := 3) S.nd rfl (Or.inl rfl) (pe_ix ix_list (pv 2) pe_int (fun _ _ => rfl)))
    (pss_cons (ps_set (i := 4) S.nd rfl (Or.inl rfl) (pe_slice sl_list (pv 2) (po_some pe_int) (po_some (pe_op op_add pe_int (pv 3)))))
    (pss_cons (ps_set (i := 5) S.nd rfl (Or.inl rfl) (pe_slice sl_list (pv 2) (po_some (pe_op op_add pe_int (pv 3))) po_none))
    (pss_cons (ps_if (PW.pt (pw_or (pt_cmpR op_eq (pv 3) pe_int (nomark _)) (pw_or (pt_cmpR op_lt (pe_callB call_len_seq (by rfl) T.len PySem.boot_len (pa_cons (pv 4) pa_nil)) (pv 3) (nomark _)) (pw_or1 (pt_cmpR op_gt (pe_callB call_len_seq (by rfl) T.len PySem.boot_len (pa_cons (pv 5) pa_nil)) pe_int (nomark _)))))) (pss_one (ps_ret pe_non)) pss_nil)
    (pss_cons (ps_if (pt_cmpR op_eq (pe_callB call_len_seq (by rfl) T.len PySem.boot_len (pa_cons (pv 5) pa_nil)) pe_int (nomark _)) (pss_one (ps_ret (pe_mk c_Request_init hr (by decide) rfl (pa_cons (pv 1) (pa_cons (pv 4) (pa_cons (pe_gc rfl T.mNOTHING) pa_nil)))))) pss_nil)
    (pss_one (ps_ret (pe_mk c_Request_init hr (by decide) rfl (pa_cons (pv 1) (pa_cons (pv 4) (pa_cons (pe_c c_amount hr (by decide) rfl (pa_cons (pe_ix ix_list (pv 5) pe_int (fun _ _ => rfl)) pa_nil)) pa_nil)))))))))))))))), ?_⟩)
  obtain ⟨-, a, bs, rfl, ha, hl, kn, ks⟩ := h
  refine Sat.go (sa_when (et_test (ev_op (ev_lenB (er_old (ev_var rfl) ha)) (ev_n 4) rv_lt)) (fun hb => sa_ret ev_c ?_) fun hb => sa_next ?_)
  · have h4 : bs.length < 4 := of_decide_eq_true hb
    refine kn ?_
    match bs, h4 with
    | [], _ => rfl
    | [_], _ => rfl
    | [_, _], _ => rfl
    | [_, _, _], _ => rfl
    | _ :: _ :: _ :: _ :: _, h4 => exact absurd h4 (by simp)
  have h4 : ¬ bs.length < 4 := of_decide_eq_false hb
  obtain ⟨b0, b1, b2_, b3, r, rfl⟩ : ∃ b0 b1 b2 b3 r, bs = b0 :: b1 :: b2 :: b3 :: r := match bs, h4 with
    | [], h => absurd (by simp) h
    | [_], h => absurd (by simp) h
    | [_, _], h => absurd (by simp) h
    | [_, _, _], h => absurd (by simp) h
    | b0 :: b1 :: b2 :: b3 :: r, _ => ⟨b0, b1, b2, b3, r, rfl⟩
  have hrl : r.length ≤ 1000 := by simp at hl; omega
  refine sa_setL (el_to (er_old (ev_var rfl) ha) (ev_n 4)) fun hp H1 hpn e1 hhp => sa_setL (el_from (er_old (ev_var rfl) (e1 _ _ ha)) (ev_n 4)) fun bp H2 hbn e2 hbp => ?_
  have e12 := e1.trans e2
  have hhp2 := e2 _ _ hhp
  have hdr : EvR (tVar 1) [some (.ref a), some (.ref hp), some (.ref bp), none, none, none] H2 (bl [b0, b1, b2_, b3]) := er_old (ev_var rfl) hhp2
  have hbp : H2 bp = some (.lst (bl r)) := hbp
  have nilG : ∀ {σ : L2.St} {H3 : Hp}, Ex H H3 → ∀ H4, Ex H3 H4 → ∀ Q : VK, (∀ d H5, Ex H4 H5 → H d = none → H5 d = some (.lst (bl [])) → Q (.ref d) H5) → (tLst tNil) σ H4 Q := fun e3 H4 e4 Q q =>
    ⟨by decide, fun p hp => q p _ (Ex.new hp) (fresh_back (e3.trans e4) hp) upd_same⟩
  refine sa_when (et_test (ev_op (ev_lenB (er_old (ev_var rfl) hbp)) (ev_n 0) rv_eqN)) (fun hb => ?_) fun hb => sa_next ?_
  · have h0 : r = [] := List.length_eq_zero_iff.mp (of_decide_eq_true hb)
    subst h0
    exact req_ret (k := ⟨b0, b1, b2_, b3, [], none⟩) e12 hdr (nilG e12) (ev_n 0) (ks _ rfl)
  have r0 : ¬ r.length = 0 := of_decide_eq_false hb
  refine sa_when (et_test (ev_op (ev_lenB (er_old (ev_var rfl) hbp)) (ev_n 1) rv_eqN)) (fun hb => ?_) fun hb => sa_next ?_
  · obtain ⟨n, rfl⟩ := List.length_eq_one_iff.mp (of_decide_eq_true hb)
    exact req_ret (k := ⟨b0, b1, b2_, b3, [], some (amountOf n)⟩) e12 hdr (nilG e12) (ev_amount (ev_ixB (er_old (ev_var rfl) hbp) (ev_n 0) rfl)) (ks _ rfl)
  have r1 : ¬ r.length = 1 := of_decide_eq_false hb
  obtain ⟨n, m, d', rfl⟩ : ∃ n m d, r = n :: m :: d := match r, r0, r1 with
    | [], h, _ => absurd rfl h
    | [_], _, h => absurd rfl h
    | n :: m :: d, _, _ => ⟨n, m, d, rfl⟩
  have hc : Sd27.cmd (b0 :: b1 :: b2_ :: b3 :: n :: m :: d') = if n = 0 then none else if (m :: d').length = n then some ⟨b0, b1, b2_, b3, m :: d', none⟩ else if (m :: d').length = n + 1 then some ⟨b0, b1, b2_, b3, (m :: d').take n, some (amountOf ((m :: d').getD n 0))⟩ else none := rfl
  generalize hd : m :: d' = d at *
  refine sa_set (v := .int (n : Int)) (ev_ixB (er_old (ev_var rfl) hbp) (ev_n 0) rfl) ?_
  refine sa_setL (xs := bl (d.take n)) (el_is (el_cut (m := 1) (n := 1 + n) (er_old (ev_var rfl) hbp) (ev_n 1) (ev_op (ev_n 1) (ev_var rfl) rv_add)) (by rw [show 1 + n - 1 = n by omega]; rfl)) fun dp H3 hdn e3 hdp => ?_
  refine sa_setL (xs := bl (d.drop n)) (el_is (el_from (m := 1 + n) (er_old (ev_var rfl) (e3 _ _ hbp)) (ev_op (ev_n 1) (ev_var rfl) rv_add)) (by rw [show 1 + n = n + 1 by omega]; rfl)) fun qp H4 hqn e4 hqp => ?_
  have e14 := (e12.trans e3).trans e4
  have hdp4 := e4 _ _ hdp
  have lt : (d.take n).length = min n d.length := List.length_take ..
  have ld : (d.drop n).length = d.length - n := List.length_drop ..
  have hdr4 : EvR (tVar 1) [some (.ref a), some (.ref hp), some (.ref bp), some (.int (n : Int)), some (.ref dp), some (.ref qp)] H4 (bl [b0, b1, b2_, b3]) := er_old (ev_var rfl) (e4 _ _ (e3 _ _ hhp2))
  refine sa_when (et_or (et_test (ev_op (ev_var rfl) (ev_n 0) rv_eqN)) fun _ => et_or (et_test (ev_op (ev_lenB (er_old (ev_var rfl) hdp4)) (ev_var rfl) rv_lt)) fun _ => et_test (ev_op (ev_lenB (er_old (ev_var rfl) hqp)) (ev_n 1) rv_gt)) (fun hb => sa_ret ev_c ?_) fun hb => sa_next ?_
  · have z : n = 0 ∨ (d.take n).length < n ∨ 1 < (d.drop n).length := by simpa using hb
    have hn : Sd27.cmd (b0 :: b1 :: b2_ :: b3 :: n :: d) = none := by
      rw [hc]
      by_cases y : n = 0
      · rw [if_pos y]
      · rw [if_neg y, if_neg (by omega), if_neg (by omega)]
    exact fun H5 e5 => kn hn H5 (e14.trans e5)
  have z : ¬ (n = 0 ∨ (d.take n).length < n ∨ 1 < (d.drop n).length) := by
    intro y
    simp only [Bool.or_eq_false_iff, decide_eq_false_iff_not] at hb
    rcases y with y | y | y
    · exact hb.1 y
    · exact hb.2.1 y
    · exact hb.2.2 y
  rw [if_neg (by omega)] at hc
  have datG : ∀ H5, Ex H4 H5 → ∀ Q : VK, (∀ d2 H6, Ex H5 H6 → H d2 = none → H6 d2 = some (.lst (bl (d.take n))) → Q (.ref d2) H6) → (tVar 4) [some (.ref a), some (.ref hp), some (.ref bp), some (.int (n : Int)), some (.ref dp), some (.ref qp)] H5 Q := fun H5 e5 Q q => ⟨.ref dp, rfl, q dp H5 (Ex.refl H5) (fresh_back e12 hdn) (e5 _ _ hdp4)⟩
  refine sa_when (et_test (ev_op (ev_lenB (er_old (ev_var rfl) hqp)) (ev_n 0) rv_eqN)) (fun hb => ?_) fun hb => sa_next ?_
  · have y : (d.drop n).length = 0 := of_decide_eq_true hb
    have hdl : d.length = n := by omega
    have htk : d.take n = d := List.take_of_length_le (by omega)
    rw [if_pos hdl] at hc
    rw [htk] at datG
    exact req_ret (k := ⟨b0, b1, b2_, b3, d, none⟩) e14 hdr4 datG (ev_n 0) (ks _ hc)
  · have y : ¬ (d.drop n).length = 0 := of_decide_eq_false hb
    have hdl : d.length = n + 1 := by omega
    rw [if_neg (by omega), if_pos hdl] at hc
    have hq0 : (d.drop n)[0]? = some (d.getD n 0) := by
      rw [List.getElem?_drop, List.getD_eq_getElem?_getD, Nat.add_zero, List.getElem?_eq_getElem (by omega)]
      rfl
    exact req_ret (k := ⟨b0, b1, b2_, b3, d.take n, some (amountOf (d.getD n 0))⟩) e14 hdr4 datG (ev_amount (ev_ixB (er_old (ev_var rfl) hqp) (ev_n 0) hq0)) (ks _ hc)
theorem ok_command (T : Tx K mg CF CS CC CR RN) {f : Addr} {fd : FuncData} (F : C8.Def K mg "command" s_command f fd) (b : Binds K fd ["card", "given"] []) (c_obey : C8.Cal P w K mg base 6 "obey" (sp_obey CF CS CC) []) :
    C8.Cal P w K mg base 7 "command" (sp_command CF CS CC) [] := by
  have S := sc_command
  refine C8.cal0 F b .nil S (fun vs H Q E h => h.1) (fun cdv A outer s H vs Q E hr h => ⟨_, (pss_cons (ps_if (pt_cmpR op_gt (pe_callB call_len_seq (by rfl) T.len PySem.boot_len (pa_cons (pv 1) pa_nil)) (pe_gc rfl T.mMOST_BYTES) (nomark _)) (pss_one (ps_ret (pe_lst (pa_cons (pe_gc rfl T.mREFUSAL) pa_nil)))) pss_nil)
    (pss_cons (ps_set (i := 2) S.nd rfl (Or.inl rfl) (pe_c c_obey hr (by decide) rfl (pa_cons (pv 0) (pa_cons (pv 1) pa_nil))))
    (pss_one (ps_ret (pe_op op_cat (pe_lst (pa_cons (pe_callB call_len_seq (by rfl) T.len PySem.boot_len (pa_cons (pv 2) pa_nil)) pa_nil)) (pv 2)))))), ?_⟩)
  obtain ⟨-, a, p, R, c, b, rfl, hC, g, hp, rp, hl, hby, hln, kk⟩ := h
  refine Sat.go (sa_when (b := false) (et_is (et_test (ev_op (ev_lenB (er_old (ev_var rfl) hp)) (ev_n 261) rv_gt)) (decide_eq_false (by omega))) (fun z => by cases z) fun _ => sa_next ?_)
  refine sa_asgE fun H1 e1 => do_call (ep_cons (ev_var rfl) (ep_cons (ev_var rfl) ep_nil)) fun vs H2 e2 hv => ?_
  obtain ⟨r1, rfl, r2, rfl, rfl⟩ := hv
  have e12 := e1.trans e2
  refine ⟨rfl, a, p, R, c, b, rfl, hC.mono e12, g, e12 _ _ hp, rp, hl, hby, fun H3 R3 tp hC3 f3 htp rtp => ?_⟩
  have htp : H3 tp = some (.lst (bl ((mObey c b).2.1 ++ b2 (mObey c b).2.2))) := htp
  refine (sa_retL (el_cat (er_new (el_lst (ea_cons (ev_lenB (er_old (ev_var rfl) htp)) ea_nil) (by show 1 ≤ 100000; decide))) (er_old (ev_var rfl) htp) (by
    rw [bl_len, List.length_append]
    show 1 + (_ + 2) ≤ 2 ^ 24
    omega)) fun q H4 hq e4 h4 => ?_).go
  obtain ⟨dx, sl, sd, ws, kvs, X⟩ := id hC3
  exact kk H4 R3 q (hC3.mono e4) ((Fr.of e12).trans (f3.trans (.of e4))) h4 (X.free hq)
theorem ok_reset (T : Tx K mg CF CS CC CR RN) {f : Addr} {fd : FuncData} (F : C8.Def K mg "reset" s_reset f fd) (b : Binds K fd ["card"] []) (c_Card_begin_anew : C8.Met P w K mg base 1 CC "begin_anew" (sp_begin_anew CF CS CC) []) :
    C8.Cal P w K mg base 2 "reset" (sp_reset CF CS CC) [] := by
  have S := sc_reset
  refine C8.cal0 F b .nil S (fun vs H Q E h => h.1) (fun cdv A outer s H vs Q E hr h => ⟨_, (pss_cons (ps_expr (pe_mt0 c_Card_begin_anew hr (by decide) (pv 0)))
    (pss_one (ps_ret (pe_lst (pa_cons pe_int pa_nil))))), ?_⟩)
  obtain ⟨-, a, R, c, rfl, hC, kk⟩ := h
  obtain ⟨dx, sl, sd, ws, kvs, X⟩ := id hC
  refine sa_drop (fun H1 e1 => do_meth (ev_var rfl) (e1 _ _ X.ob) (cf_no_begin_anew ..) ep_nil fun vs H2 e2 hv => ?_) H (Ex.refl H)
  subst hv
  refine ⟨rfl, a, R, c, rfl, hC.mono (e1.trans e2), fun H3 hC3 f3 => ?_⟩
  obtain ⟨dx3, sl3, sd3, ws3, kvs3, X3⟩ := id hC3
  exact (sa_retL (σ := [some (.ref a)]) (xs := bl [0]) (el_lst (ea_cons (ev_n 0) ea_nil) (by show 1 ≤ 100000; decide)) fun q H4 hq e4 h4 => kk H4 R q (hC3.mono e4) ((Fr.of (e1.trans e2)).trans (f3.trans (.of e4))) h4 (X3.free hq)).go
end
end Cc
end
section
namespace Cc
open PySem PySem.Spec PyProof.Rows L2 Evl
open C8 (pe_c pe_mk pe_mt pe_mt0 pe_gc)
open Sd27 (Card File Secret Kind Cmd isFolder)
section
variable {P : Program} {w : World} {K : PySem.W.Frag} {mg : Str → Option Value} {base : Heap} {CF CS CC CR RN : Addr}

theorem eg_read_request {σ : L2.St} {H : Hp} {ta : TE} {b : List Nat} (h : EvR ta σ H (bl b)) (hl : b.length ≤ 1000) : EvG (tCall (sp_read_request CR) [] C8.E0 (tCons ta tNil)) σ H (fun v H2 => (Sd27.cmd b = none ∧ v = .non) ∨ ∃ k q dx d, Sd27.cmd b = some k ∧ v = .ref q ∧ H q = none ∧ H d = none ∧ H2 q = some (.ins CR dx (rfs k d)) ∧ H2 d = some (.lst (bl k.data))) := fun H1 e1 Q q =>
  ep_consR h ep_nil H1 e1 _ fun vs H2 e2 ⟨p, _, e, hp, e3⟩ => by
    subst e3
    subst e
    exact ⟨rfl, p, b, rfl, hp, hl, fun hn H3 e3 => q _ _ (e2.trans e3) (.inl ⟨hn, rfl⟩), fun k hk x H3 dx d hx hd e3 h1 h2 => q _ _ (e2.trans e3) (.inr ⟨k, x, dx, d, hk, rfl, fresh_back (e1.trans e2) hx, fresh_back (e1.trans e2) hd, h1, h2⟩)⟩
theorem cmd_ok {b : List Nat} {k : Cmd} (h : Sd27.cmd b = some k) (hl : b.length ≤ 261) (hb : ∀ x ∈ b, x < 256) : CmdOk k := by
  match b, h, hl, hb with
  | [], h, _, _ => cases h
  | [_], h, _, _ => cases h
  | [_, _], h, _, _ => cases h
  | [_, _, _], h, _, _ => cases h
  | [c, i, p, q], h, _, hb =>
    cases h
    exact ⟨Nat.zero_le _, fun n z => (by cases z), hb p (by simp), hb q (by simp), fun x hx => (by cases hx)⟩
  | [c, i, p, q, n], h, _, hb =>
    cases h
    refine ⟨Nat.zero_le _, fun m z => ?_, hb p (by simp), hb q (by simp), fun x hx => (by cases hx)⟩
    have z : (if n = 0 then 256 else n) = m := Option.some.inj z
    have hn := hb n (by simp)
    split at z <;> omega
  | c :: i :: p :: q :: n :: m :: d, h, hl, hb =>
    have hc : (if n = 0 then none else if (m :: d).length = n then some (⟨c, i, p, q, m :: d, none⟩ : Cmd) else if (m :: d).length = n + 1 then some ⟨c, i, p, q, (m :: d).take n, some (if (m :: d).getD n 0 = 0 then 256 else (m :: d).getD n 0)⟩ else none) = some k := h
    have hn := hb n (by simp)
    have hd : ∀ x ∈ m :: d, x < 256 := fun x hx => hb x (by simp only [List.mem_cons] at hx ⊢; rcases hx with z | z <;> simp [z])
    by_cases z : n = 0
    · rw [if_pos z] at hc
      cases hc
    · rw [if_neg z] at hc
      by_cases y : (m :: d).length = n
      · rw [if_pos y] at hc
        cases hc
        exact ⟨by show (m :: d).length ≤ 255; omega, fun n z => (by cases z), hb p (by simp), hb q (by simp), hd⟩
      · rw [if_neg y] at hc
        by_cases w : (m :: d).length = n + 1
        · rw [if_pos w] at hc
          cases hc
          refine ⟨by show ((m :: d).take n).length ≤ 255; rw [List.length_take]; omega, fun x hx => ?_, hb p (by simp), hb q (by simp), fun x hx => hd x (List.mem_of_mem_take hx)⟩
          have hx : (if (m :: d).getD n 0 = 0 then 256 else (m :: d).getD n 0) = x := Option.some.inj hx
          have := getD_lt hd n
          split at hx <;> omega
        · rw [if_neg w] at hc
          cases hc
/-- the table of commands -/
abbrev Tab := List (Nat × Addr × (Card → Cmd → Out))
theorem tab_if (c : Card) (k : Cmd) (z : Out) : ∀ t : Tab, t.foldr (fun e r => if k.ins = e.1 then e.2.2 c k else r) z = match t.find? (fun e => decide (k.ins = e.1)) with
    | some e => e.2.2 c k
    | none => z
  | [] => rfl
  | e :: r => by
    rw [List.foldr_cons, List.find?_cons, tab_if c k z r]
    by_cases h : k.ins = e.1
    · rw [if_pos h, decide_eq_true h]
    · rw [if_neg h, decide_eq_false h]
theorem tab_val (n : Nat) : ∀ t : Tab, valV (t.map fun e => (key e.1, V.ref e.2.1)) (key n) = (t.find? fun e => decide (n = e.1)).map fun e => V.ref e.2.1
  | [] => rfl
  | e :: r => by
    rw [List.map_cons, List.find?_cons]
    by_cases h : n = e.1
    · rw [decide_eq_true h, valV_pos (by rw [h])]
      rfl
    · rw [decide_eq_false h, valV_neg (fun z => h (Int.ofNat.inj (Sum.inl.inj z)).symm)]
      exact tab_val n r
theorem tab_none (n : Nat) : ∀ t : Tab, ¬ n ∈ t.map (·.1) → valV (t.map fun e => (key e.1, V.ref e.2.1)) (key n) = none := fun t h => by
  rw [tab_val, List.find?_eq_none.mpr fun e he z => h (List.mem_map.mpr ⟨e, he, (of_decide_eq_true z).symm⟩)]
  rfl
theorem tab_merge : ∀ (t acc : Tab), ((acc ++ t).map (·.1)).Nodup → mergeK (acc.map fun e => (key e.1, V.ref e.2.1)) (t.map fun e => (key e.1, V.ref e.2.1)) = (acc ++ t).map fun e => (key e.1, V.ref e.2.1)
  | [], acc, _ => by
    rw [List.append_nil]
    rfl
  | e :: r, acc, h => by
    have h1 : ¬ e.1 ∈ acc.map (·.1) := fun z => by
      rw [List.map_append, List.nodup_append] at h
      exact h.2.2 _ z _ (by rw [List.map_cons]; exact List.mem_cons_self ..) rfl
    show mergeK (putK (acc.map fun e => (key e.1, V.ref e.2.1)) (key e.1) (V.ref e.2.1)) (r.map fun e => (key e.1, V.ref e.2.1)) = _
    rw [putK_new _ (tab_none _ _ h1)]
    have h2 := tab_merge r (acc ++ [e]) (by rw [List.append_assoc]; exact h)
    rw [List.map_append, List.append_assoc] at h2
    exact h2
theorem ok_obey (T : Tx K mg CF CS CC CR RN) {f : Addr} {fd : FuncData} (F : C8.Def K mg "obey" s_obey f fd) (b : Binds K fd ["card", "given"] []) (c_read_request : C8.Cal P w K mg base 3 "read_request" (sp_read_request CR) []) (c_choose : C8.Cal P w K mg base 5 "choose" (CmdP CF CS CC CR mChoose) []) (c_read_bytes : C8.Cal P w K mg base 5 "read_bytes" (CmdP CF CS CC CR mReadB) []) (c_write_bytes : C8.Cal P w K mg base 5 "write_bytes" (CmdP CF CS CC CR mWriteB) []) (c_read_record : C8.Cal P w K mg base 5 "read_record" (CmdP CF CS CC CR mReadR) []) (c_write_record : C8.Cal P w K mg base 5 "write_record" (CmdP CF CS CC CR mWriteR) []) (c_add_record : C8.Cal P w K mg base 5 "add_record" (CmdP CF CS CC CR mAddR) []) (c_tell_secret : C8.Cal P w K mg base 5 "tell_secret" (CmdP CF CS CC CR mTell) []) (c_change_secret : C8.Cal P w K mg base 5 "change_secret" (CmdP CF CS CC CR mChange) []) (c_free_secret : C8.Cal P w K mg base 5 "free_secret" (CmdP CF CS CC CR mFree) []) (c_make_secret : C8.Cal P w K mg base 4 "make_secret" (CmdP CF CS CC CR mSecret) []) (c_make_file : C8.Cal P w K mg base 5 "make_file" (CmdP CF CS CC CR mMake) []) (c_take_away : C8.Cal P w K mg base 4 "take_away" (CmdP CF CS CC CR mTake) []) (c_activate : C8.Cal P w K mg base 4 "activate" (CmdP CF CS CC CR mActivate) []) (c_only : C8.Cal P w K mg base 3 "only" sp_only []) :
    C8.Cal P w K mg base 6 "obey" (sp_obey CF CS CC) [] := by
  have S := sc_obey
  obtain ⟨f_choose, fd_choose, ps_choose, ds_choose, F_choose, m_choose, k_choose, b_choose, v_choose⟩ := c_choose.ex
  have g_choose : ∃ u, mg "choose" = some u ∧ RelV (.ref f_choose) u := ⟨_, m_choose, rfl⟩
  obtain ⟨f_read_bytes, fd_read_bytes, ps_read_bytes, ds_read_bytes, F_read_bytes, m_read_bytes, k_read_bytes, b_read_bytes, v_read_bytes⟩ := c_read_bytes.ex
  have g_read_bytes : ∃ u, mg "read_bytes" = some u ∧ RelV (.ref f_read_bytes) u := ⟨_, m_read_bytes, rfl⟩
  obtain ⟨f_write_bytes, fd_write_bytes, ps_write_bytes, ds_write_bytes, F_write_bytes, m_write_bytes, k_write_bytes, b_write_bytes, v_write_bytes⟩ := c_write_bytes.ex
  have g_write_bytes : ∃ u, mg "write_bytes" = some u ∧ RelV (.ref f_write_bytes) u := ⟨_, m_write_bytes, rfl⟩
  obtain ⟨f_read_record, fd_read_record, ps_read_record, ds_read_record, F_read_record, m_read_record, k_read_record, b_read_record, v_read_record⟩ := c_read_record.ex
  have g_read_record : ∃ u, mg "read_record" = some u ∧ RelV (.ref f_read_record) u := ⟨_, m_read_record, rfl⟩
  obtain ⟨f_write_record, fd_write_record, ps_write_record, ds_write_record, F_write_record, m_write_record, k_write_record, b_write_record, v_write_record⟩ := c_write_record.ex
  have g_write_record : ∃ u, mg "write_record" = some u ∧ RelV (.ref f_write_record) u := ⟨_, m_write_record, rfl⟩
  obtain ⟨f_add_record, fd_add_record, ps_add_record, ds_add_record, F_add_record, m_add_record, k_add_record, b_add_record, v_add_record⟩ := c_add_record.ex
  have g_add_record : ∃ u, mg "add_record" = some u ∧ RelV (.ref f_add_record) u := ⟨_, m_add_record, rfl⟩
  obtain ⟨f_tell_secret, fd_tell_secret, ps_tell_secret, ds_tell_secret, F_tell_secret, m_tell_secret, k_tell_secret, b_tell_secret, v_tell_secret⟩ := c_tell_secret.ex
  have g_tell_secret : ∃ u, mg "tell_secret" = some u ∧ RelV (.ref f_tell_secret) u := ⟨_, m_tell_secret, rfl⟩
  obtain ⟨f_change_secret, fd_change_secret, ps_change_secret, ds_change_secret, F_change_secret, m_change_secret, k_change_secret, b_change_secret, v_change_secret⟩ := c_change_secret.ex
  have g_change_secret : ∃ u, mg "change_secret" = some u ∧ RelV (.ref f_change_secret) u := ⟨_, m_change_secret, rfl⟩
  obtain ⟨f_free_secret, fd_free_secret, ps_free_secret, ds_free_secret, F_free_secret, m_free_secret, k_free_secret, b_free_secret, v_free_secret⟩ := c_free_secret.ex
  have g_free_secret : ∃ u, mg "free_secret" = some u ∧ RelV (.ref f_free_secret) u := ⟨_, m_free_secret, rfl⟩
  obtain ⟨f_make_secret, fd_make_secret, ps_make_secret, ds_make_secret, F_make_secret, m_make_secret, k_make_secret, b_make_secret, v_make_secret⟩ := c_make_secret.ex
  have g_make_secret : ∃ u, mg "make_secret" = some u ∧ RelV (.ref f_make_secret) u := ⟨_, m_make_secret, rfl⟩
  obtain ⟨f_make_file, fd_make_file, ps_make_file, ds_make_file, F_make_file, m_make_file, k_make_file, b_make_file, v_make_file⟩ := c_make_file.ex
  have g_make_file : ∃ u, mg "make_file" = some u ∧ RelV (.ref f_make_file) u := ⟨_, m_make_file, rfl⟩
  obtain ⟨f_take_away, fd_take_away, ps_take_away, ds_take_away, F_take_away, m_take_away, k_take_away, b_take_away, v_take_away⟩ := c_take_away.ex
  have g_take_away : ∃ u, mg "take_away" = some u ∧ RelV (.ref f_take_away) u := ⟨_, m_take_away, rfl⟩
  obtain ⟨f_activate, fd_activate, ps_activate, ds_activate, F_activate, m_activate, k_activate, b_activate, v_activate⟩ := c_activate.ex
  have g_activate : ∃ u, mg "activate" = some u ∧ RelV (.ref f_activate) u := ⟨_, m_activate, rfl⟩
  obtain ⟨tab, htab⟩ : ∃ t : Tab, t = [(164, f_choose, mChoose), (176, f_read_bytes, mReadB), (214, f_write_bytes, mWriteB), (178, f_read_record, mReadR), (220, f_write_record, mWriteR), (226, f_add_record, mAddR), (32, f_tell_secret, mTell), (36, f_change_secret, mChange), (44, f_free_secret, mFree), (218, f_make_secret, mSecret), (224, f_make_file, mMake), (228, f_take_away, mTake), (68, f_activate, mActivate)] := ⟨_, rfl⟩
  have held : ∀ {k : Nat} {f : Addr} {fd : FuncData} {ps : List Str} {ds : List Value} {sp : Sp}, FnOk P w K mg base C8.CX0 k f fd ps sp → PySem.W.keepIn K (.ref f) = true → Binds K fd ps ds → Vals [] ds → Held P w K mg base k f sp := fun h1 h2 h3 h4 => by
    cases h4
    exact ⟨_, _, h1, h2, h3⟩
  have HT : ∀ e ∈ tab, ∃ k, k ≤ 5 ∧ Held P w K mg base k e.2.1 (CmdP CF CS CC CR e.2.2) := by
    intro e he
    rw [htab] at he
    simp only [List.mem_cons, List.not_mem_nil, or_false] at he
    rcases he with rfl | rfl | rfl | rfl | rfl | rfl | rfl | rfl | rfl | rfl | rfl | rfl | rfl
    · exact ⟨5, by decide, held F_choose k_choose b_choose v_choose⟩
    · exact ⟨5, by decide, held F_read_bytes k_read_bytes b_read_bytes v_read_bytes⟩
    · exact ⟨5, by decide, held F_write_bytes k_write_bytes b_write_bytes v_write_bytes⟩
    · exact ⟨5, by decide, held F_read_record k_read_record b_read_record v_read_record⟩
    · exact ⟨5, by decide, held F_write_record k_write_record b_write_record v_write_record⟩
    · exact ⟨5, by decide, held F_add_record k_add_record b_add_record v_add_record⟩
    · exact ⟨5, by decide, held F_tell_secret k_tell_secret b_tell_secret v_tell_secret⟩
    · exact ⟨5, by decide, held F_change_secret k_change_secret b_change_secret v_change_secret⟩
    · exact ⟨5, by decide, held F_free_secret k_free_secret b_free_secret v_free_secret⟩
    · exact ⟨4, by decide, held F_make_secret k_make_secret b_make_secret v_make_secret⟩
    · exact ⟨5, by decide, held F_make_file k_make_file b_make_file v_make_file⟩
    · exact ⟨4, by decide, held F_take_away k_take_away b_take_away v_take_away⟩
    · exact ⟨4, by decide, held F_activate k_activate b_activate v_activate⟩
  refine C8.cal0 F b .nil S (fun vs H Q E h => h.1) (fun cdv A outer s H vs Q E hr h => ?_)
  have hu := L2.hu_of hr
  obtain ⟨-, a, p, R, c, bs, rfl, hC, g, hp, rp, hl, hby, kk⟩ := h
  obtain ⟨SS, k0, hk0, hA, hSS⟩ : ∃ (SS : Addr → Option Sp) (k0 : Nat), k0 ≤ 5 ∧ (∀ x sp, SS x = some sp → Held P w K mg base k0 x sp) ∧ ∀ k, Sd27.cmd bs = some k → ∀ e, tab.find? (fun e => decide (k.ins = e.1)) = some e → SS e.2.1 = some (CmdP CF CS CC CR e.2.2) := by
    cases hc : Sd27.cmd bs with
    | none => exact ⟨fun _ => none, 0, by decide, fun x sp z => (by cases z), fun k z => by cases z⟩
    | some k =>
      cases hf : tab.find? (fun e => decide (k.ins = e.1)) with
      | none => exact ⟨fun _ => none, 0, by decide, fun x sp z => (by cases z), fun k2 z e y => by cases z; rw [hf] at y; cases y⟩
      | some e =>
        obtain ⟨k0, hk0, hh⟩ := HT e (List.mem_of_find?_eq_some hf)
        refine ⟨fun x => if x = e.2.1 then some (CmdP CF CS CC CR e.2.2) else none, k0, hk0, fun x sp z => ?_, fun k2 z e2 y => ?_⟩
        · by_cases hx : x = e.2.1
          · have z : (if x = e.2.1 then some (CmdP CF CS CC CR e.2.2) else none) = some sp := z
            rw [if_pos hx] at z
            cases z
            rw [hx]
            exact hh
          · have z : (if x = e.2.1 then some (CmdP CF CS CC CR e.2.2) else none) = some sp := z
            rw [if_neg hx] at z
            cases z
        · cases z
          rw [hf] at y
          cases y
          exact if_pos rfl
  have hrk : Room k0 (A.deeper (envOfC "obey" (C8.fnScope s_obey) s.heap.objs.size f cdv)) := hr.mono hk0
  refine ⟨_, (pss_cons (ps_set (i := 2) S.nd rfl (Or.inl rfl) (pe_c c_read_request hr (by decide) rfl (pa_cons (pv 1) pa_nil)))
    (pss_cons (ps_if (pt_cmpR op_isN (pv 2) pe_non (nomark _)) (pss_one (ps_ret (pe_c c_only hr (by decide) rfl (pa_cons (pe_gc rfl T.mWRONG_LENGTH) pa_nil)))) pss_nil)
    (pss_cons (ps_if (pt_cmpR op_ne (pe_fld (pv 2) rfl) pe_int (nomark _)) (pss_one (ps_ret (pe_c c_only hr (by decide) rfl (pa_cons (pe_gc rfl T.mNO_CLASS) pa_nil)))) pss_nil)
    (pss_cons (ps_set (i := 3) S.nd rfl (Or.inl rfl) (pe_disp (pps_cons pe_int (pe_gc rfl g_choose) (pps_cons pe_int (pe_gc rfl g_read_bytes) (pps_cons pe_int (pe_gc rfl g_write_bytes) (pps_cons pe_int (pe_gc rfl g_read_record) (pps_cons pe_int (pe_gc rfl g_write_record) (pps_cons pe_int (pe_gc rfl g_add_record) (pps_cons pe_int (pe_gc rfl g_tell_secret) (pps_cons pe_int (pe_gc rfl g_change_secret) (pps_cons pe_int (pe_gc rfl g_free_secret) (pps_cons pe_int (pe_gc rfl g_make_secret) (pps_cons pe_int (pe_gc rfl g_make_file) (pps_cons pe_int (pe_gc rfl g_take_away) (pps_cons pe_int (pe_gc rfl g_activate) pps_nil))))))))))))) (by rfl) (by rfl) (fun z => by cases z) (by decide)))
    (pss_cons (ps_if (pt_cmp (pc_dnotin hu (pe_fld (pv 2) rfl) (pv 3)) rfl) (pss_one (ps_ret (pe_c c_only hr (by decide) rfl (pa_cons (pe_gc rfl T.mNO_INSTRUCTION) pa_nil)))) pss_nil)
    (pss_cons (ps_set (i := 4) S.nd rfl (Or.inl rfl) (pe_dget hu (pv 3) (pe_fld (pv 2) rfl) (fun _ _ => rfl)))
    (pss_one (ps_ret (pe_callA (i := 4) hA hrk rfl (Or.inl rfl) (pa_cons (pv 0) (pa_cons (pv 2) pa_nil))))))))))), ?_⟩
  have kk : OutQ CF CS CC H R a (mObey c bs) Q := kk
  refine Sat.go (sa_setG (eg_read_request (er_old (ev_var rfl) hp) (by omega)) ?_)
  rintro v H1 e1 (⟨hn, rfl⟩ | ⟨k, q, dx, d, hk, rfl, hq0, hd0, hq, hd⟩)
  · refine sa_when (b := true) (et_is (et_test (ev_op (ev_var rfl) ev_c rv_isN)) rfl) (fun _ => sa_retL (el_only (ev_n 0x6700)) (leaf0 kk (hC.mono e1) (.of e1) ?_)) fun z => by cases z
    unfold mObey
    rw [hn]
    rfl
  · have ok := cmd_ok hk hl hby
    obtain ⟨dxa, sl, sd, ws, kvs, X⟩ := id hC
    have rq : ReqAt CR H1 R q k := ⟨dx, d, hq, hd, X.free hq0, X.free hd0⟩
    have hC1 := hC.mono e1
    refine sa_when (b := false) (et_is (et_test (ev_op (ev_var rfl) ev_c rv_isN)) rfl) (fun z => by cases z) fun _ => sa_next ?_
    refine sa_when (et_test (ev_op (ev_fld (ev_var rfl) hq T.clCR T.nCR_group (rf_group ..)) (ev_n 0) rv_neN)) (fun hb => sa_retL (el_only (ev_n 0x6E00)) (leaf0 kk hC1 (.of e1) ?_)) fun hb => sa_next ?_
    · unfold mObey
      rw [hk]
      exact if_pos (of_decide_eq_true hb)
    have hmo : mObey c bs = match tab.find? (fun e => decide (k.ins = e.1)) with
        | some e => e.2.2 c k
        | none => out c 0x6D00 := by
      rw [← tab_if, htab]
      unfold mObey
      rw [hk]
      exact if_neg (of_decide_eq_false hb)
    refine fun H2 e2 => fun op hop => ⟨upd_same, tab.map (fun e => (key e.1, V.ref e.2.1)), by rw [htab]; rfl, by rw [htab]; exact Nat.le_of_ble_eq_true rfl, ?_⟩
    have hmk : mergeK [] (tab.map fun e => (key e.1, V.ref e.2.1)) = tab.map fun e => (key e.1, V.ref e.2.1) := tab_merge tab [] (by
      rw [List.nil_append, htab]
      show [164, 176, 214, 178, 220, 226, 32, 36, 44, 218, 224, 228, 68].Nodup
      decide)
    rw [hmk]
    have e3 : Ex H1 (upd (upd H2 op (.dK [])) op (.dK (tab.map fun e => (key e.1, V.ref e.2.1)))) := e2.trans (by rw [upd_upd]; exact Ex.new hop)
    have hod : upd (upd H2 op (.dK [])) op (.dK (tab.map fun e => (key e.1, V.ref e.2.1))) op = some (.dK (tab.map fun e => (key e.1, V.ref e.2.1))) := upd_same
    generalize upd (upd H2 op (.dK [])) op (.dK (tab.map fun e => (key e.1, V.ref e.2.1))) = H3 at *
    have e13 := e1.trans e3
    have hq3 := e3 _ _ hq
    refine Sat.go (sa_when (et_B (ev_dnotin (ev_fld (ev_var rfl) hq3 T.clCR T.nCR_instruction (rf_instruction ..)) (ev_var rfl) hod)) (fun hb => sa_retL (el_only (ev_n 0x6D00)) (leaf0 kk (hC.mono e13) (.of e13) ?_)) fun hb => sa_next ?_)
    · rw [show (Sum.inl ((k.ins : Nat) : Int) : Key) = key k.ins from rfl, tab_val] at hb
      rw [hmo]
      cases hf : tab.find? (fun e => decide (k.ins = e.1)) with
      | none => rfl
      | some e =>
        rw [hf] at hb
        cases hb
    · rw [show (Sum.inl ((k.ins : Nat) : Int) : Key) = key k.ins from rfl, tab_val] at hb
      cases hf : tab.find? (fun e => decide (k.ins = e.1)) with
      | none =>
        rw [hf] at hb
        cases hb
      | some e =>
        rw [hf] at hmo
        have hmo : mObey c bs = e.2.2 c k := hmo
        have hval : valV (tab.map fun e => (key e.1, V.ref e.2.1)) (Sum.inl ((k.ins : Nat) : Int)) = some (.ref e.2.1) := by
          rw [show (Sum.inl ((k.ins : Nat) : Int) : Key) = key k.ins from rfl, tab_val, hf]
          rfl
        refine sa_set (ev_dget (ev_var rfl) (ev_fld (ev_var rfl) hq3 T.clCR T.nCR_instruction (rf_instruction ..)) hod hval) ?_
        refine sa_retE fun H4 e4 => ⟨e.2.1, CmdP CF CS CC CR e.2.2, rfl, hSS k hk e hf, ?_⟩
        refine ep_cons (ev_var rfl) (ep_cons (ev_var rfl) ep_nil) H4 (Ex.refl H4) _ fun vs H5 e5 hv => ?_
        obtain ⟨r1, rfl, r2, rfl, rfl⟩ := hv
        have e35 := e4.trans e5
        refine ⟨rfl, a, q, R, c, k, rfl, hC.mono (e13.trans e35), g, rq.mono (e3.trans e35), ok, fun H6 R6 x hC6 f6 hx6 rx6 => ?_⟩
        exact kk H6 R6 x (by rw [hmo]; exact hC6) ((Fr.of (e13.trans e35)).trans f6) (by rw [hmo]; exact hx6) rx6
end
end Cc
end
section
namespace Cc
open PySem PySem.Spec PyProof.Rows L2 Evl
open C8 (pe_c pe_mk pe_mt pe_mt0 pe_gc)
open Sd27 (Card File Secret Kind Cmd isFolder)
section
variable {P : Program} {w : World} {K : PySem.W.Frag} {mg : Str → Option Value} {base : Heap} {CF CS CC CR RN : Addr}

/-- [v]: a new list of one thing of which P is known -/
theorem eg_lst1 {σ : L2.St} {H : Hp} {te : TE} {P : V → Hp → Prop} (h : EvG te σ H P) (mono : ∀ v H1 H2, Ex H1 H2 → P v H1 → P v H2) : EvG (tLst (tCons te tNil)) σ H (fun w H2 => ∃ q v, w = .ref q ∧ H q = none ∧ H2 q = some (.lst [v]) ∧ P v H2) := fun H1 e1 Q q =>
  h H1 e1 _ fun v H2 e2 p => ⟨by show 1 ≤ sizeLine; decide, fun x hx => q _ _ (e2.trans (Ex.new hx)) ⟨x, v, rfl, fresh_back (e1.trans e2) hx, upd_same, mono v _ _ (Ex.new hx) p⟩⟩
theorem eg_cat1 {σ : L2.St} {H : Hp} {ta tb : TE} {P : V → Hp → Prop} {ys : List V} (h : EvG ta σ H (fun w H2 => ∃ q v, w = .ref q ∧ H q = none ∧ H2 q = some (.lst [v]) ∧ P v H2)) (h2 : ∀ H1, Ex H H1 → EvR tb σ H1 ys) (hz : 1 + ys.length ≤ sizeLine) (mono : ∀ v H1 H2, Ex H1 H2 → P v H1 → P v H2) :
    EvG (tOp rCat ta tb) σ H (fun w H2 => ∃ q v, w = .ref q ∧ H q = none ∧ H2 q = some (.lst (v :: ys)) ∧ P v H2) := fun H1 e1 Q q =>
  h H1 e1 _ fun w H2 e2 ⟨x, v, hw, _, hx, p⟩ => by
    subst hw
    refine h2 H2 (e1.trans e2) H2 (Ex.refl H2) _ fun y H3 e3 hy => ⟨x, y, [v], ys, rfl, rfl, e3 _ _ hx, hy, hz, fun z hz => q _ _ ((e2.trans e3).trans (Ex.new hz)) ⟨z, v, rfl, fresh_back ((e1.trans e2).trans e3) hz, upd_same, mono v _ _ (Ex.new hz) (mono v _ _ e3 p)⟩⟩
theorem sa_fldG {σ : L2.St} {H : Hp} {ta tv : TE} {D : Ends} {tz : TS} {p C dx : Addr} {fs : List (Str × V)} {f : Str} {P : V → Hp → Prop} (hp : H p = some (.ins C dx fs)) (hv : EvG tv σ H P) (ha : ∀ H1, Ev ta σ H1 (.ref p)) (hc : Cls K C) (hn : NoAttr K C f) (hl : fs.length < 1000)
    (k : ∀ v H1 H2, Ex H H1 → P v H1 → Keep p H1 H2 → H2 p = some (.ins C dx (putF f v fs)) → Sat tz D σ H2) : Sat (tSeq (sFld K ta tv f) tz) D σ H := fun H1 e1 =>
  hv H1 e1 _ fun v H2 e2 pv => ha H2 H2 (Ex.refl H2) _ fun H3 e3 => ⟨p, C, dx, fs, rfl, e3 _ _ (e2 _ _ (e1 _ _ hp)), hc, hn, hl, (k v H2 _ (e1.trans e2) pv (fun b o h z => by
    rw [upd_ne z]
    exact e3 _ _ h) upd_same).go⟩
theorem ok_Card_init (T : Tx K mg CF CS CC CR RN) {f : Addr} {fd : FuncData} (M : Mk K CC f) (hm : mg "Card" = some (.ref CC)) (F : C8.Fun K "__init__" "Card.__init__" s_Card_init f fd) (b : Binds K fd ["self"] []) (c_File_init : C8.Mak P w K mg base 1 "File" CF (sp_File_init CF) []) :
    C8.Mak P w K mg base 3 "Card" CC (sp_Card_init CF CS CC) [] := by
  have S := sc_Card_init
  refine C8.mak0 M hm F b .nil S (fun vs H Q E h => h.1) (fun cdv A outer s H vs Q E hr h => ⟨_, (pss_cons (ps_fld (pv 0) (pe_op op_cat (pe_lst (pa_cons (pe_mk c_File_init hr (by decide) rfl (pa_cons (pe_gc rfl T.mFOLDER) (pa_cons (pe_gc rfl T.mTOP_NUMBER) pa_nil))) pa_nil)) (pe_op op_rep (pe_lst (pa_cons pe_non pa_nil)) (pe_op op_sub (pe_gc rfl T.mMOST_FILES) pe_int))) rfl)
    (pss_cons (ps_fld (pv 0) pe_dnewK rfl)
    (pss_cons (ps_fld (pv 0) pe_bl rfl)
    (pss_cons (ps_fld (pv 0) (pe_gc rfl T.mTOP) rfl)
    (pss_one (ps_fld (pv 0) (pe_gc rfl T.mNONE) rfl)))))), ?_⟩)
  obtain ⟨-, a, dx, rfl, ha, kk⟩ := h
  let P : V → Hp → Prop := fun v H2 => ∃ p dxf a1 a2 a3, v = .ref p ∧ FObj CF H2 p (pf0 56 16128) dxf a1 a2 a3 [] ∧ H p = none ∧ H a1 = none ∧ H a2 = none ∧ H a3 = none ∧ a3 ≠ a1 ∧ a3 ≠ a2
  have Pm : ∀ v H1 H2, Ex H1 H2 → P v H1 → P v H2 := fun v H1 H2 e ⟨p, dxf, a1, a2, a3, h1, h2, h3⟩ => ⟨p, dxf, a1, a2, a3, h1, h2.mono e, h3⟩
  have hrep : ∀ {σ : L2.St} {H1 : Hp}, EvR (tOp rRep (tLst (tCons (tC .non) tNil)) (tOp (rI0 fun i j => .int (i - j)) (tC (.int ((64 : Nat) : Int))) (tC (.int 1)))) σ H1 (List.replicate 63 V.non) := fun {σ H1} => by
    have z := el_rep (σ := σ) (H := H1) (xs := [V.non]) (k := ((63 : Nat) : Int)) (er_new (el_lst (ea_cons ev_c ea_nil) (by show 1 ≤ 100000; decide))) (ev_op (ev_n 64) (ev_n 1) (rv_sub (by decide))) (by decide) (by decide) (by decide)
    exact er_new z
  refine Sat.go (sa_fldG (P := fun w H2 => ∃ q v, w = .ref q ∧ H q = none ∧ H2 q = some (.lst (v :: List.replicate 63 V.non)) ∧ P v H2) ha (eg_cat1 (P := P) (eg_lst1 (P := P) (eg_make (ep_cons (x := .int ((56 : Nat) : Int)) (ev_n 56) (ep_cons (x := .int ((16128 : Nat) : Int)) (ev_n 16128) ep_nil)) fun vs H1 p dxf e1 hvs hp hdx hne Q q => ?_) Pm) (fun H1 e1 => hrep) (by decide) Pm) (fun H1 => ev_var rfl) T.clCC T.nCC_slots (by show 0 < 1000; decide) ?_)
  · obtain ⟨r1, rfl, r2, rfl, rfl⟩ := hvs
    refine ⟨rfl, p, dxf, 56, 16128, rfl, upd_same, fun H2 a1 a2 a3 o f1 f2 f3 g1 g2 kp => ?_⟩
    have fr : ∀ {b : Addr}, upd (upd H1 dxf (.own p)) p (.ins CF dxf []) b = none → H b = none := fun {b} z => by
      by_cases c1 : b = p
      · rw [c1, upd_same] at z
        cases z
      · rw [upd_ne c1] at z
        by_cases c2 : b = dxf
        · rw [c2, upd_same] at z
          cases z
        · rw [upd_ne c2] at z
          exact fresh_back e1 z
    exact q H2 (fun b o hb => kp b o (by rw [upd_ne (ne_of_none hb hp), upd_ne (ne_of_none hb hdx)]; exact hb) (ne_of_none hb hp)) ⟨p, dxf, a1, a2, a3, rfl, o, fresh_back e1 hp, fr f1, fr f2, fr f3, g1, g2⟩
  rintro w H1 H2 e1 ⟨sl, v, rfl, hsn, hsl, p, dxf, a1, a2, a3, rfl, o, hpn, f1, f2, f3, g1, g2⟩ k2 h2
  have na : ∀ {b : Addr}, H b = none → b ≠ a := fun h z => by rw [z, ha] at h; cases h
  refine fun H3 e3 => fun sd hsd => ?_
  -- self.secrets = {}: a new dict
  have sda : sd ≠ a := fun z => by rw [z, e3 _ _ h2] at hsd; cases hsd
  have hsd1 : H sd = none := by
    cases z : H sd with
    | none => rfl
    | some u =>
      have y := e3 _ _ (k2 _ _ (e1 _ _ z) sda)
      rw [y] at hsd
      cases hsd
  refine ⟨.ref a, rfl, a, CC, dx, _, rfl, (upd_ne sda.symm).trans (e3 _ _ h2), T.clCC, T.nCC_secrets, by show 1 < 1000; decide, ?_⟩
  -- what stands now
  have b1 : ∀ {b : Addr} {u : HO}, H1 b = some u → b ≠ a → upd (upd H3 sd (.dK [])) a (.ins CC dx (putF "secrets" (.ref sd) (putF "slots" (.ref sl) []))) b = some u := fun hb hn => by
    have y := e3 _ _ (k2 _ _ hb hn)
    rw [upd_ne hn, upd_ne (ne_of_none y hsd)]
    exact y
  have b2' : upd (upd H3 sd (.dK [])) a (.ins CC dx (putF "secrets" (.ref sd) (putF "slots" (.ref sl) []))) sd = some (.dK []) := by
    rw [upd_ne sda]
    exact upd_same
  have b3 : upd (upd H3 sd (.dK [])) a (.ins CC dx (putF "secrets" (.ref sd) (putF "slots" (.ref sl) []))) a = some (.ins CC dx (putF "secrets" (.ref sd) (putF "slots" (.ref sl) []))) := upd_same
  have sdn : ∀ {b : Addr} {u : HO}, H1 b = some u → b ≠ a → b ≠ sd := fun hb hn z => by rw [z] at hb hn; rw [e3 _ _ (k2 _ _ hb hn)] at hsd; cases hsd
  generalize upd (upd H3 sd (.dK [])) a (.ins CC dx (putF "secrets" (.ref sd) (putF "slots" (.ref sl) []))) = H4 at *
  refine Sat.go (sa_fld b3 (y := .bl false) ev_c (ev_var rfl) T.clCC T.nCC_active (by show 2 < 1000; decide) fun H5 k5 h5 => ?_)
  refine sa_fld h5 (y := .int ((0 : Nat) : Int)) (ev_n 0) (ev_var rfl) T.clCC T.nCC_folder (by show 3 < 1000; decide) fun H6 k6 h6 => ?_
  refine fld_one h6 (y := .int (-1)) ev_c (ev_var rfl) T.clCC T.nCC_file (by show 4 < 1000; decide) fun H7 k7 h7 => ?_
  rw [cf_new] at h7
  have k47 : Keep a H4 H7 := (k5.trans k6).trans k7
  have t1 : ∀ {b : Addr} {u : HO}, H1 b = some u → b ≠ a → H7 b = some u := fun hb hn => k47 _ _ (b1 hb hn) hn
  have da : ∀ {b : Addr}, H b = none → b ≠ a := na
  have o7 : FObj CF H7 p (pf0 56 16128) dxf a1 a2 a3 [] := ⟨t1 o.ob (na hpn), t1 o.nm (na f1), t1 o.ct (na f2), t1 o.rc (na f3), o.len, fun j r w h => by simp at h⟩
  have sl7 : H7 sl = some (.lst (V.ref p :: List.replicate 63 V.non)) := t1 hsl (na hsn)
  have sd7 : H7 sd = some (.dK []) := k47 _ _ b2' sda
  -- the roles
  have n1 : sl ≠ p := fun z => by rw [z, o.ob] at hsl; cases hsl
  have n2 : a3 ≠ p := fun z => by have y := o.rc; rw [z, o.ob] at y; cases y
  have n3 : a3 ≠ sl := fun z => by have y := o.rc; rw [z, hsl] at y; cases y
  have n4 : a1 ≠ p := fun z => by have y := o.nm; rw [z, o.ob] at y; cases y
  have n5 : a2 ≠ p := fun z => by have y := o.ct; rw [z, o.ob] at y; cases y
  have n6 : a1 ≠ sl := fun z => by have y := o.nm; rw [z, hsl] at y; cases y
  have n7 : a2 ≠ sl := fun z => by have y := o.ct; rw [z, hsl] at y; cases y
  have s1 := sdn hsl (na hsn)
  have s2 := sdn o.ob (na hpn)
  have s3 := sdn o.rc (na f3)
  have s4 := sdn o.nm (na f1)
  have s5 := sdn o.ct (na f2)
  obtain ⟨RR, hRR⟩ : ∃ RR, RR = setR (setR (setR (setR (setR (fun _ => none) a .card) sl .slots) sd .dict) p (.file 0)) a3 (.recs 0) := ⟨_, rfl⟩
  have ra : RR a = some .card := by rw [hRR, setR_ne (na f3).symm, setR_ne (na hpn).symm, setR_ne sda.symm, setR_ne (na hsn).symm, setR_same]
  have rsl : RR sl = some .slots := by rw [hRR, setR_ne n3.symm, setR_ne n1, setR_ne s1, setR_same]
  have rsd : RR sd = some .dict := by rw [hRR, setR_ne s3.symm, setR_ne s2.symm, setR_same]
  have rp : RR p = some (.file 0) := by rw [hRR, setR_ne n2.symm, setR_same]
  have rrc : RR a3 = some (.recs 0) := by rw [hRR, setR_same]
  have rno : ∀ {b : Addr}, b ≠ a → b ≠ sl → b ≠ sd → b ≠ p → b ≠ a3 → RR b = none := fun h1 h2 h3 h4 h5 => by rw [hRR, setR_ne h5, setR_ne h4, setR_ne h3, setR_ne h2, setR_ne h1]
  refine kk H7 RR ⟨dx, sl, sd, _, [], ⟨h7, ra, sl7, rsl, by simp, fun i w hw => ?_, sd7, rsd, fun k k1 k8 => ?_, fun kv h => (by cases h), List.nodup_nil, fun b r hb z => ?_⟩⟩ fun b u hb hba => ⟨t1 (e1 _ _ hb) hba, rno hba (ne_of_none hb hsn) (ne_of_none hb hsd1) (ne_of_none hb hpn) (ne_of_none hb f3)⟩
  · match i, hw with
    | 0, hw =>
      cases hw
      exact ⟨p, dxf, a1, a2, a3, [], rfl, o7, ⟨rp, rno (na f1) n6 s4 n4 g1.symm, rno (na f2) n7 s5 n5 g2.symm, rrc, fun r hr => by cases hr⟩⟩
    | i + 1, hw =>
      have hw : (List.replicate 63 V.non)[i]? = some w := hw
      rw [List.getElem?_replicate] at hw
      split at hw
      · cases hw
        rfl
      · cases hw
  · have z : (Sd27.blank).secrets.getD (k - 1) none = none := by
      show (List.replicate 8 none).getD (k - 1) none = none
      rw [List.getD_eq_getElem?_getD, List.getElem?_replicate]
      split <;> rfl
    rw [z]
    rfl
  · by_cases c1 : b = a
    · rw [c1, h7] at z
      cases z
    · by_cases c2 : b = sl
      · rw [c2, sl7] at z
        cases z
      · by_cases c3 : b = sd
        · rw [c3, sd7] at z
          cases z
        · by_cases c4 : b = p
          · rw [c4, o7.ob] at z
            cases z
          · by_cases c5 : b = a3
            · rw [c5, o7.rc] at z
              cases z
            · rw [rno c1 c2 c3 c4 c5] at hb
              cases hb
end
end Cc
end
section
namespace Cc
open PySem PySem.Spec PyProof.Rows L2 Evl
open C8 (pe_c pe_mk pe_mt pe_mt0 pe_gc)
open Sd27 (Card File Secret Kind Cmd isFolder)
section
variable {P : Program} {w : World} {K : PySem.W.Frag} {mg : Str → Option Value} {base : Heap} {CF CS CC CR RN : Addr}

theorem ok_get {rest : List Nat} {cs : List (Option (List Nat))} (h : OkL rest cs) : rest = [] ∧ cs = [] ∨ (∃ b r cs', rest = 1 :: b.length :: (b ++ r) ∧ cs = some b :: cs' ∧ b.length ≤ 261 ∧ (∀ x ∈ b, x < 256) ∧ OkL r cs') ∨ ∃ r cs', rest = 2 :: r ∧ cs = none :: cs' ∧ OkL r cs' := by
  cases h with
  | nil => exact .inl ⟨rfl, rfl⟩
  | cmd b r cs' hl hb h => exact .inr (.inl ⟨b, r, cs', rfl, rfl, hl, hb, h⟩)
  | reset r cs' h => exact .inr (.inr ⟨r, cs', rfl, rfl, h⟩)
theorem sql_fr {H H' : Hp} {R R' : RM} {a : Addr} {xs : List V} (h : SqL K H a xs) (r : Im R a) (f : Fr R H R' H') : SqL K H' a xs := by
  rcases h with (h | ⟨o, h⟩) | h
  · exact .inl (.inl (f _ _ h r).2)
  · exact .inl (.inr ⟨o, (f _ _ h r).2⟩)
  · exact .inr h
/-- a list that is somebody else's changes -/
theorem CardX.mine {H H' : Hp} {R : RM} {a x : Addr} {c : Card} {dx sl sd : Addr} {ws : List V} {kvs : List (Key × V)} (X : CardX CF CS CC H R a c dx sl sd ws kvs) (hx : R x = some .mine) (kp : Keep x H H') (hd : H' x ≠ none) : CardX CF CS CC H' R a c dx sl sd ws kvs := by
  have ne : ∀ {b : Addr}, (R b = none ∨ ∃ r', R b = some r' ∧ r' ≠ .mine) → b ≠ x := fun h z => by
    subst z
    rcases h with h | ⟨r', h, n1⟩
    · rw [h] at hx
      cases hx
    · rw [h] at hx
      cases hx
      exact n1 rfl
  refine ⟨kp _ _ X.ob (ne (.inr ⟨_, X.ra, fun z => by cases z⟩)), X.ra, kp _ _ X.osl (ne (.inr ⟨_, X.rsl, fun z => by cases z⟩)), X.rsl, X.wl, fun j w hw => ?_,
    kp _ _ X.osd (ne (.inr ⟨_, X.rsd, fun z => by cases z⟩)), X.rsd, fun k k1 k8 => ?_, X.keys, X.nd, fun b q hb z => ?_⟩
  · have s := X.slot j w hw
    cases e : c.at_ j with
    | none =>
      rw [e] at s
      exact s
    | some f =>
      rw [e] at s
      obtain ⟨p3, dx3, n3, ct3, rc3, rs3, y1, y2, y3⟩ := s
      exact ⟨p3, dx3, n3, ct3, rc3, rs3, y1, ⟨kp _ _ y2.ob (ne (.inr ⟨_, y3.p, fun z => by cases z⟩)), kp _ _ y2.nm (ne (.inl y3.n)), kp _ _ y2.ct (ne (.inl y3.ct)), kp _ _ y2.rc (ne (.inr ⟨_, y3.rc, fun z => by cases z⟩)), y2.len, fun q r w2 hq hw2 => kp _ _ (y2.each q r w2 hq hw2) (ne (.inl (y3.rs r (List.mem_of_getElem? hq))))⟩, y3⟩
  · have s := X.sec k k1 k8
    cases e : c.secrets.getD (k - 1) none with
    | none =>
      rw [e] at s
      exact s
    | some sc =>
      rw [e] at s
      obtain ⟨p3, dx3, wd3, fr3, y1, y2, y3⟩ := s
      exact ⟨p3, dx3, wd3, fr3, y1, ⟨kp _ _ y2.ob (ne (.inr ⟨_, y3.p, fun z => by cases z⟩)), kp _ _ y2.wd (ne (.inl y3.wd)), kp _ _ y2.fr (ne (.inl y3.fr))⟩, y3⟩
  · have y := X.dom b q hb
    cases e : H b with
    | none => exact y e
    | some u =>
      by_cases bx : b = x
      · rw [bx] at z
        exact hd z
      · rw [kp _ _ e bx] at z
        cases z
def sp_answers (K : PySem.W.Frag) : Sp := fun vs H Q _ => vs.length = 1 ∧ ∃ a ml cs, vs = [.ref a] ∧ SqL K H a (bl ml) ∧ OkL ml cs ∧ (flat Sd27.blank cs).length ≤ 10000000 ∧ (∀ (c : Card) b, Good c → (∀ x ∈ b, x < 256) → Good (mObey c b).1) ∧
  ∀ H' p, H' p = some (.lst (bl (flat Sd27.blank cs))) → Q (.ref p) H'
theorem ok_answers (T : Tx K mg CF CS CC CR RN) {f : Addr} {fd : FuncData} (F : C8.Def K mg "answers" s_answers f fd) (b : Binds K fd ["calls"] []) (c_Card_init : C8.Mak P w K mg base 3 "Card" CC (sp_Card_init CF CS CC) []) (c_command : C8.Cal P w K mg base 7 "command" (sp_command CF CS CC) []) (c_reset : C8.Cal P w K mg base 2 "reset" (sp_reset CF CS CC) []) :
    FnOk P w K mg base C8.CX0 8 f fd ["calls"] (sp_answers K) := by
  have S := sc_answers
  refine C8.fn0 F.fn S (fun vs H Q E h => h.1) (fun cdv A outer s H vs Q E hr h => ⟨_, (pss_cons (ps_set (i := 1) S.nd rfl (Or.inl rfl) (pe_mk0 c_Card_init hr (by decide) rfl))
    (pss_cons (ps_set (i := 2) S.nd rfl (Or.inl rfl) (pe_lst pa_nil))
    (pss_cons (ps_set (i := 3) S.nd rfl (Or.inl rfl) pe_int)
    (pss_cons (ps_while PassesOwn.never (pt_cmpR op_lt (pv 3) (pe_callB call_len_seq (by rfl) T.len PySem.boot_len (pa_cons (pv 0) pa_nil)) (nomark _)) (pss_cons (ps_if (pt_cmpR op_eq (pe_ix ix_list (pv 0) (pv 3) (fun _ _ => rfl)) (pe_gc rfl T.mCOMMAND) (nomark _)) (pss_cons (ps_set (i := 4) S.nd rfl (Or.inl rfl) (pe_op op_add (pv 3) pe_int))
        (pss_cons (ps_set (i := 5) S.nd rfl (Or.inl rfl) (pe_op op_add (pv 4) (pe_ix ix_list (pv 0) (pe_op op_add (pv 3) pe_int) (fun _ _ => rfl))))
        (pss_cons (ps_set (i := 6) S.nd rfl (Or.inl rfl) (pe_c c_command hr (by decide) rfl (pa_cons (pv 1) (pa_cons (pe_slice sl_list (pv 0) (po_some (pv 4)) (po_some (pv 5))) pa_nil))))
        (pss_one (ps_set (i := 3) S.nd rfl (Or.inl rfl) (pv 5)))))) (pss_cons (ps_set (i := 6) S.nd rfl (Or.inl rfl) (pe_c c_reset hr (by decide) rfl (pa_cons (pv 1) pa_nil)))
        (pss_one (ps_set (i := 3) S.nd rfl (Or.inl rfl) (pe_op op_add (pv 3) pe_int)))))
      (pss_cons (ps_expr (pe_bm PySem.F.plainAttrs_list PySem.F.slot_list_append PySem.F.type_list_append mt_append (pv 2) (pa_cons (pe_callB call_len_seq (by rfl) T.len PySem.boot_len (pa_cons (pv 6) pa_nil)) pa_nil)))
      (pss_one (ps_expr (pe_bm PySem.F.plainAttrs_list PySem.F.slot_list_extend PySem.F.type_list_extend mt_extend (pv 2) (pa_cons (pv 6) pa_nil)))))))
    (pss_one (ps_ret (pv 2))))))), ?_⟩)
  obtain ⟨-, a, ml, cs, rfl, hml, okl, hlen, hgood, kk⟩ := h
  refine Sat.go (sa_setG (P := fun v H2 => ∃ x R', v = .ref x ∧ CardAt CF CS CC H2 R' x Sd27.blank ∧ ∀ b, H b ≠ none → R' b = none) (eg_make0 fun H1 x dx e1 hx hd hne Q2 q2 => ?_) ?_)
  · refine ⟨rfl, x, dx, rfl, upd_same, fun H2 R2 hC kp => ?_⟩
    refine q2 H2 (fun b u hb => (kp b u (by rw [upd_ne (ne_of_none hb hx), upd_ne (ne_of_none hb hd)]; exact hb) (ne_of_none hb hx)).1) ⟨x, R2, rfl, hC, fun b hb => ?_⟩
    cases z : H b with
    | none => exact absurd z hb
    | some u =>
      have y := e1 _ _ z
      exact (kp b u (by rw [upd_ne (ne_of_none y hx), upd_ne (ne_of_none y hd)]; exact y) (ne_of_none y hx)).2
  rintro v H1 e1 ⟨x, R1, rfl, hC1, hR1⟩
  obtain ⟨dx1, sl1, sd1, ws1, kvs1, X1⟩ := hC1
  refine sa_setL (xs := bl []) (el_lst ea_nil (by decide)) fun l H2 hln e2 hl2 => ?_
  have X2 := X1.set (r := .mine) e2 hln (by rw [hl2]; intro z; cases z)
  refine sa_set (ev_n 0) ?_
  have R2l : setR R1 l .mine l = some .mine := setR_same
  have hml2 : SqL K H2 a (bl ml) := ex_l (e1.trans e2) hml
  -- the argument is nobody's: where it is tracked it has no role
  have ral : Im (setR R1 l .mine) a ∨ ∀ H', SqL K H' a (bl ml) := by
    rcases hml with (h | ⟨o, h⟩) | h
    · exact .inl (.inl (by rw [setR_ne (ne_of_none (e1 _ _ h) hln)]; exact hR1 a (by rw [h]; intro z; cases z)))
    · exact .inl (.inl (by rw [setR_ne (ne_of_none (e1 _ _ h) hln)]; exact hR1 a (by rw [h]; intro z; cases z)))
    · exact .inr fun H' => .inr h
  have al : a ≠ l ∨ ∀ H', SqL K H' a (bl ml) := by
    rcases hml with (h | ⟨o, h⟩) | h
    · exact .inl (ne_of_none (e1 _ _ h) hln)
    · exact .inl (ne_of_none (e1 _ _ h) hln)
    · exact .inr fun H' => .inr h
  refine sa_while (fun m σ' H' => ∃ pl acc c R' cs', m = ml.length - pl ∧ pl ≤ ml.length ∧ ((σ'.set 4 none).set 5 none).set 6 none = [some (.ref a), some (.ref x), some (.ref l), some (.int ((pl : Nat) : Int)), none, none, none] ∧ CardAt CF CS CC H' R' x c ∧ Good c ∧ R' l = some .mine ∧ (Im R' a ∨ ∀ H', SqL K H' a (bl ml)) ∧
    SqL K H' a (bl ml) ∧ H' l = some (.lst (bl acc)) ∧ OkL (ml.drop pl) cs' ∧ acc ++ flat c cs' = flat Sd27.blank cs) ml.length (fun H3 e3 => ⟨0, [], Sd27.blank, _, cs, rfl, Nat.zero_le _, rfl, ⟨_, _, _, _, _, X2.mono e3⟩, good_blank, R2l, ral, ex_l e3 hml2, e3 _ _ hl2, okl, rfl⟩) ?_
  rintro m σ' H' ⟨pl, acc, c, R', cs', rfl, hpl, g1, hC, gd, hRl, hRa, hma, hacc, hok, hfl⟩
  obtain ⟨v4, v5, v6, rfl⟩ : ∃ v4 v5 v6, σ' = [some (.ref a), some (.ref x), some (.ref l), some (.int ((pl : Nat) : Int)), v4, v5, v6] := match σ', g1 with
    | [x0, x1, x2, x3, x4, x5, x6], g1 => by
      cases g1
      exact ⟨x4, x5, x6, rfl⟩
  have lenE : ∀ {σ : L2.St} {H3 : Hp}, Ex H' H3 → σ[0]? = some (some (.ref a)) → Ev (tCB (rLenS K) (tCons (tVar 0) tNil)) σ H3 (.int ((ml.length : Nat) : Int)) := fun e3 hs => ev_is (ev_len (ev_var hs) (ex_l e3 hma)) (by rw [bl_len])
  have ixE : ∀ {σ : L2.St} {H3 : Hp} {te : TE} {j n : Nat}, Ex H' H3 → σ[0]? = some (some (.ref a)) → Ev te σ H3 (.int (j : Int)) → ml[j]? = some n → Ev (tOp (rIxL K) (tVar 0) te) σ H3 (.int (n : Int)) := fun e3 hs ht hj => ev_op (ev_var hs) ht (rv_ixL (ex_l e3 hma) (atI_nat (by rw [bl_get, hj]; rfl)))
  refine ⟨_, et_test (ev_op (ev_var rfl) (lenE (Ex.refl _) rfl) rv_lt), fun hb => ?_, fun hb => ?_⟩
  · have hlt : pl < ml.length := of_decide_eq_true hb
    have hd0 : ml[pl]? = (ml.drop pl)[0]? := by rw [List.getElem?_drop]; rfl
    have hd1 : ml[pl + 1]? = (ml.drop pl)[1]? := by rw [List.getElem?_drop]
    have ldr : (ml.drop pl).length = ml.length - pl := List.length_drop ..
    -- the answer goes behind the others
    have fin : ∀ (H3 : Hp) (R3 : RM) (c3 : Card) (pl3 : Nat) (cs3 : List (Option (List Nat))) (q : Addr) (ans : List Nat) (w4 w5 : Option V), CardAt CF CS CC H3 R3 x c3 → Good c3 → R3 l = some .mine → (Im R3 a ∨ ∀ H', SqL K H' a (bl ml)) → SqL K H3 a (bl ml) → H3 l = some (.lst (bl acc)) →
        H3 q = some (.lst (bl ans)) → R3 q = none → pl < pl3 → pl3 ≤ ml.length → OkL (ml.drop pl3) cs3 → acc ++ (ans.length :: ans) ++ flat c3 cs3 = flat Sd27.blank cs →
        Sat (tSeq (tDrop (tBM K "list" rAppend (tVar 2) (tCons (tCB (rLenS K) (tCons (tVar 6) tNil)) tNil))) (tDrop (tBM K "list" rExtend (tVar 2) (tCons (tVar 6) tNil))))
          { nx := fun σ2 H2 => ∃ m', m' < ml.length - pl ∧ ∃ pl acc c R' cs', m' = ml.length - pl ∧ pl ≤ ml.length ∧ ((σ2.set 4 none).set 5 none).set 6 none = [some (.ref a), some (.ref x), some (.ref l), some (.int ((pl : Nat) : Int)), none, none, none] ∧ CardAt CF CS CC H2 R' x c ∧ Good c ∧ R' l = some .mine ∧ (Im R' a ∨ ∀ H', SqL K H' a (bl ml)) ∧
              SqL K H2 a (bl ml) ∧ H2 l = some (.lst (bl acc)) ∧ OkL (ml.drop pl) cs' ∧ acc ++ flat c cs' = flat Sd27.blank cs, rt := Q } [some (.ref a), some (.ref x), some (.ref l), some (.int ((pl3 : Nat) : Int)), w4, w5, some (.ref q)] H3 := by
      intro H3 R3 c3 pl3 cs3 q ans w4 w5 hC3 gd3 hRl3 hRa3 hma3 hacc3 hq hRq hp3 hpl3 hok3 hfl3
      have ql : q ≠ l := fun z => by rw [z, hRl3] at hRq; cases hRq
      have tot : acc.length + (1 + ans.length) ≤ 10000000 := by
        have z := congrArg List.length hfl3
        rw [List.length_append, List.length_append, List.length_cons] at z
        omega
      refine fun H4 e4 => ⟨.ref l, rfl, .inl ⟨rfl, _, sq_of (e4 _ _ hacc3)⟩, .ref q, rfl, q, _, rfl, .inl (sq_of (e4 _ _ hq)), l, _, _, rfl, rfl, e4 _ _ hacc3, by rw [bl_len]; show acc.length < 2 ^ 24; omega, ?_⟩
      have hq5 : upd H4 l (.lst (bl acc ++ [.int ((bl ans).length : Int)])) q = some (.lst (bl ans)) := (upd_ne ql).trans (e4 _ _ hq)
      refine ⟨.ref l, rfl, .inl ⟨rfl, _, sq_of upd_same⟩, .ref q, rfl, l, q, _, _, rfl, rfl, upd_same, hq5, by
        rw [List.length_append, bl_len, bl_len]
        show acc.length + 1 + ans.length ≤ 2 ^ 24
        omega, ?_⟩
      rw [upd_upd]
      have hnew : bl acc ++ [V.int ((bl ans).length : Int)] ++ bl ans = bl (acc ++ (ans.length :: ans)) := by
        rw [bl_len, ← bl_app, List.append_assoc]
        rfl
      rw [hnew]
      obtain ⟨d1, d2, d3, d4, d5, X3⟩ := hC3
      have kp : Keep l H4 (upd H4 l (.lst (bl (acc ++ (ans.length :: ans))))) := fun b u hb hn => (upd_ne hn).trans hb
      refine ⟨ml.length - pl3, by omega, pl3, acc ++ (ans.length :: ans), c3, R3, cs3, rfl, hpl3, rfl, ⟨d1, d2, d3, d4, d5, (X3.mono e4).mine hRl3 kp (by rw [upd_same]; intro z; cases z)⟩, gd3, hRl3, hRa3, ?_, upd_same, hok3, hfl3⟩
      rcases al with z | z
      · rcases ex_l e4 hma3 with (h | ⟨o, h⟩) | h
        · exact .inl (.inl ((upd_ne z).trans h))
        · exact .inl (.inr ⟨o, (upd_ne z).trans h⟩)
        · exact .inr h
      · exact z _
    rcases ok_get hok with ⟨hn, hcs⟩ | ⟨b, r, cs3, hr, hcs, hbl, hby, hok3⟩ | ⟨r, cs3, hr, hcs, hok3⟩
    · rw [hn] at ldr
      simp only [List.length_nil] at ldr
      omega
    · subst hcs
      have h0 : ml[pl]? = some 1 := by rw [hd0, hr]; rfl
      have h1 : ml[pl + 1]? = some b.length := by rw [hd1, hr]; rfl
      have hl2b : (ml.drop pl).length = 2 + (b.length + r.length) := by
        rw [hr]
        simp only [List.length_cons, List.length_append]
        omega
      have hdr : ml.drop (pl + 2 + b.length) = r := by
        have z : ml.drop (pl + 2 + b.length) = (ml.drop pl).drop (2 + b.length) := by rw [List.drop_drop, Nat.add_assoc]
        rw [z, hr, show 2 + b.length = b.length + 2 by omega]
        show (b ++ r).drop b.length = r
        rw [List.drop_append_of_le_length (Nat.le_refl _), List.drop_length]
        rfl
      have hsl : (ml.drop (pl + 2)).take b.length = b := by
        have z : ml.drop (pl + 2) = (ml.drop pl).drop 2 := by rw [List.drop_drop]
        rw [z, hr]
        show (b ++ r).take b.length = b
        rw [List.take_append_of_le_length (Nat.le_refl _), List.take_length]
      refine sa_when (b := true) (et_is (et_test (ev_op (ixE (Ex.refl _) rfl (ev_var rfl) h0) (ev_n 1) rv_eqN)) rfl) (fun _ => ?_) fun z => by cases z
      refine sa_set (ev_op (ev_var rfl) (ev_n 2) rv_add) ?_
      refine sa_set (v := .int ((pl + 2 + b.length : Nat) : Int)) (ev_op (ev_var rfl) (ixE (Ex.refl _) rfl (ev_op (ev_var rfl) (ev_n 1) rv_add) h1) rv_add) ?_
      have slE : ∀ {σ : L2.St} {H3 : Hp}, Ex H' H3 → σ[0]? = some (some (.ref a)) → σ[4]? = some (some (.int ((pl + 2 : Nat) : Int))) → σ[5]? = some (some (.int ((pl + 2 + b.length : Nat) : Int))) → EvL (tSl (rSlL K) (tVar 0) (tPart (tVar 4)) (tPart (tVar 5))) σ H3 (bl b) := fun {σ H3} e3 s0 s4 s5 => by
        have z := el_sl (K := K) (ev_var (σ := σ) (H := H3) s0) (eo_some (ev_var s4)) (eo_some (ev_var s5)) (ex_l e3 hma)
        rw [cut_nat, bl_drop, bl_take, show pl + 2 + b.length - (pl + 2) = b.length by omega, hsl] at z
        exact z
      have hfl' : acc ++ flat c (some b :: cs3) = flat Sd27.blank cs := hfl
      have hol : (mObey c b).2.1.length ≤ 10000000 := by
        have z := congrArg List.length hfl'
        rw [List.length_append] at z
        simp only [flat, List.length_cons, List.length_append] at z
        omega
      refine sa_asgE fun H3 e3 => do_call (ep_cons (ev_var rfl) (ep_consL (slE e3 rfl rfl rfl) ep_nil)) fun vs H4 e4 hv => ?_
      obtain ⟨r1, rfl, bp, r2, rfl, hbn, hbp, rfl⟩ := hv
      have e34 := e3.trans e4
      obtain ⟨d1, d2, d3, d4, d5, X⟩ := id hC
      refine ⟨rfl, x, bp, R', c, b, rfl, hC.mono e34, gd, hbp, (X.mono e3).free hbn, hbl, hby, hol, fun H5 R5 q hC5 f5 hq5 rq5 => ?_⟩
      have fr : Fr R' H' R5 H5 := (Fr.of e34).trans f5
      obtain ⟨rl5, hl5⟩ := fr l _ hacc (.inr hRl)
      refine (sa_set (v := .int ((pl + 2 + b.length : Nat) : Int)) (ev_var rfl) ?_).go
      refine fin H5 R5 (mObey c b).1 (pl + 2 + b.length) cs3 q _ _ _ hC5 (hgood c b gd hby) (rl5.trans hRl) ?_ ?_ hl5 hq5 rq5 (by omega) (by omega) (by rw [hdr]; exact hok3) ?_
      · rcases hRa with z | z
        · rcases hma with (h | ⟨o, h⟩) | h
          · exact .inl (by unfold Im; rw [(fr _ _ h z).1]; exact z)
          · exact .inl (by unfold Im; rw [(fr _ _ h z).1]; exact z)
          · exact .inr fun H' => .inr h
        · exact .inr z
      · rcases hRa with z | z
        · exact sql_fr hma z fr
        · exact z _
      · rw [← hfl']
        show acc ++ (_ :: _) ++ _ = acc ++ (_ :: (_ :: (_ ++ _)))
        rw [List.append_assoc]
        rfl
    · subst hcs
      have h0 : ml[pl]? = some 2 := by rw [hd0, hr]; rfl
      have hl2b : (ml.drop pl).length = 1 + r.length := by
        rw [hr]
        simp only [List.length_cons]
        omega
      have hdr : ml.drop (pl + 1) = r := by
        have z : ml.drop (pl + 1) = (ml.drop pl).drop 1 := by rw [List.drop_drop]
        rw [z, hr]
        rfl
      refine sa_when (b := false) (et_is (et_test (ev_op (ixE (Ex.refl _) rfl (ev_var rfl) h0) (ev_n 1) rv_eqN)) rfl) (fun z => by cases z) fun _ => ?_
      refine sa_asgE fun H3 e3 => do_call (ep_cons (ev_var rfl) ep_nil) fun vs H4 e4 hv => ?_
      obtain ⟨r1, rfl, rfl⟩ := hv
      have e34 := e3.trans e4
      refine ⟨rfl, x, R', c, rfl, hC.mono e34, fun H5 R5 q hC5 f5 hq5 rq5 => ?_⟩
      have fr : Fr R' H' R5 H5 := (Fr.of e34).trans f5
      obtain ⟨rl5, hl5⟩ := fr l _ hacc (.inr hRl)
      refine (sa_set1 (v := .int ((pl + 1 : Nat) : Int)) (ev_op (ev_var rfl) (ev_n 1) rv_add) fun H6 e6 => ?_).go
      refine (fin H6 R5 (Sd27.reset c) (pl + 1) cs3 q [0] _ _ (hC5.mono e6) (good_reset gd) (rl5.trans hRl) ?_ ?_ (e6 _ _ hl5) (e6 _ _ hq5) rq5 (by omega) (by omega) (by rw [hdr]; exact hok3) ?_).go
      · rcases hRa with z | z
        · rcases hma with (h | ⟨o, h⟩) | h
          · exact .inl (by unfold Im; rw [(fr _ _ h z).1]; exact z)
          · exact .inl (by unfold Im; rw [(fr _ _ h z).1]; exact z)
          · exact .inr fun H' => .inr h
        · exact .inr z
      · rcases hRa with z | z
        · exact ex_l e6 (sql_fr hma z fr)
        · exact z _
      · rw [← hfl, List.append_assoc]
        rfl
  · have hge : ¬ pl < ml.length := of_decide_eq_false hb
    have hd : ml.drop pl = [] := List.drop_of_length_le (by omega)
    rw [hd] at hok
    have hcs : cs' = [] := by cases hok; rfl
    subst hcs
    have hfl : acc ++ [] = flat Sd27.blank cs := hfl
    rw [List.append_nil] at hfl
    exact fun H3 e3 => ⟨.ref l, rfl, kk H3 l (by rw [← hfl]; exact e3 _ _ hacc)⟩
end
end Cc
end
section
namespace Cc
open Sd27 (Card File Secret Kind Cmd isFolder say)
theorem fm_congr {α β : Type} {f g : α → Option β} : ∀ {l : List α}, (∀ x ∈ l, f x = g x) → l.filterMap f = l.filterMap g
  | [], _ => rfl
  | a :: r, h => by
    rw [List.filterMap_cons, List.filterMap_cons, h a (List.mem_cons_self ..), fm_congr fun x hx => h x (List.mem_cons_of_mem _ hx)]
theorem zfm {β : Type} (g : Option File → Nat → Option β) (g0 : ∀ i, g none i = none) : ∀ (l : List (Option File)) (k m : Nat), l.length ≤ m → (l.zipIdx k).filterMap (fun x => g x.1 x.2) = (List.range' k m).filterMap fun i => g ((l[i - k]?).bind id) i
  | [], k, m, _ => by
    rw [List.zipIdx_nil, List.filterMap_nil]
    symm
    rw [List.filterMap_eq_nil_iff]
    intro i _
    exact g0 i
  | a :: l, k, 0, h => absurd h (by simp)
  | a :: l, k, m + 1, h => by
    rw [List.zipIdx_cons, List.range'_succ, List.filterMap_cons, List.filterMap_cons]
    have ih := zfm g g0 l (k + 1) m (by simpa using h)
    have e : (List.range' (k + 1) m).filterMap (fun i => g (((a :: l)[i - k]?).bind id) i) = (List.range' (k + 1) m).filterMap fun i => g ((l[i - (k + 1)]?).bind id) i := by
      refine fm_congr fun i hi => ?_
      rw [List.mem_range'_1] at hi
      rw [show i - k = (i - (k + 1)) + 1 by omega]
      rfl
    rw [e, ← ih, Nat.sub_self]
    rfl
theorem inside_eq {c : Card} (g : Good c) (d : Nat) : c.inside d = (List.range 64).filterMap fun i => (c.at_ i).bind fun f => if f.up = d ∧ i ≠ 0 then some (i, f) else none := by
  have z := zfm (fun o i => o.bind fun f => if f.up = d ∧ i ≠ 0 then some (i, f) else none) (fun _ => rfl) c.files 0 64 g.len
  rw [← List.range_eq_range'] at z
  exact z
theorem inside_find {c : Card} (g : Good c) (d : Nat) (p : File → Bool) : (c.inside d).find? (fun x => p x.2) = ((insIx c d).find? fun i => ((c.at_ i).map p).getD false).bind fun i => (c.at_ i).map fun f => (i, f) := by
  rw [inside_eq g]
  unfold insIx
  generalize List.range 64 = L
  induction L with
  | nil => rfl
  | cons i r ih =>
    have hI : ((c.at_ i).bind fun f => if f.up = d ∧ i ≠ 0 then some (i, f) else none) = if isIn c d i = true then (c.at_ i).map (fun f => (i, f)) else none := by
      unfold isIn
      cases c.at_ i with
      | none => rfl
      | some f =>
        show (if f.up = d ∧ i ≠ 0 then some (i, f) else none) = if decide (i ≠ 0 ∧ f.up = d) = true then some (i, f) else none
        by_cases h : f.up = d ∧ i ≠ 0
        · rw [if_pos h, if_pos (decide_eq_true ⟨h.2, h.1⟩)]
        · rw [if_neg h, if_neg (fun z => h ⟨(of_decide_eq_true z).2, (of_decide_eq_true z).1⟩)]
    rw [List.filterMap_cons, List.filter_cons, hI]
    by_cases hb : isIn c d i = true
    · rw [if_pos hb, if_pos hb]
      have hat : ∃ f, c.at_ i = some f := by
        unfold isIn at hb
        cases e : c.at_ i with
        | none =>
          rw [e] at hb
          cases hb
        | some f => exact ⟨f, rfl⟩
      obtain ⟨f, hf⟩ := hat
      rw [hf]
      show List.find? _ ((i, f) :: _) = (List.find? _ (i :: _)).bind _
      rw [List.find?_cons, List.find?_cons, hf]
      show (match p f with | true => some (i, f) | false => _) = (match p f with | true => some i | false => _).bind _
      cases p f with
      | true =>
        show some (i, f) = (c.at_ i).map _
        rw [hf]
        rfl
      | false => exact ih
    · rw [if_neg hb, if_neg hb]
      exact ih
theorem find_congr_mem {α : Type} {p q : α → Bool} : ∀ {l : List α}, (∀ x ∈ l, p x = q x) → l.find? p = l.find? q
  | [], _ => rfl
  | a :: r, h => by
    rw [List.find?_cons, List.find?_cons, h a (List.mem_cons_self ..), find_congr_mem fun x hx => h x (List.mem_cons_of_mem _ hx)]
theorem findNum_is {c : Card} (g : Good c) (d n : Nat) : (c.inside d).find? (fun x => x.2.id == n) = (findNum c d n).bind fun i => (c.at_ i).map fun f => (i, f) := by
  rw [inside_find g d fun f => f.id == n]
  unfold findNum
  refine congrArg (fun o => Option.bind o _) (find_congr_mem fun i hi => ?_)
  obtain ⟨f, hf, _⟩ := ins_at hi
  unfold numAt
  rw [hf]
  show (f.id == n) = decide (f.id = n)
  exact (Bool.beq_eq_decide_eq f.id n)
theorem findShort_is {c : Card} (g : Good c) (s : Nat) : (c.inside c.folder).find? (fun x => x.2.short == s) = (findShort c s).bind fun i => (c.at_ i).map fun f => (i, f) := by
  rw [inside_find g c.folder fun f => f.short == s]
  unfold findShort
  refine congrArg (fun o => Option.bind o _) (find_congr_mem fun i hi => ?_)
  obtain ⟨f, hf, _⟩ := ins_at hi
  unfold shortAt
  rw [hf]
  show (f.short == s) = decide (f.short = s)
  exact (Bool.beq_eq_decide_eq f.short s)
theorem num2_high {l : List Nat} (h : l.length = 2) : Sd27.high l = num2 l := by
  match l, h with
  | [x, y], _ =>
    show 256 * (256 * 0 + x) + y = x * 256 + y
    omega
theorem about_said {i : Nat} {f : File} (o : FOk f) : Sd27.about f = said (pfOf i f) := by
  have h1 := o.id
  have h2 := o.size
  have e1 : f.id / 256 % 256 = f.id / 256 := Nat.mod_eq_of_lt (by omega)
  unfold Sd27.about said saidK pfOf
  cases e : f.kind with
  | folder n =>
    simp only [kKind, kName, kSize, kBytes, kLen, kMost, kRecs, Sd27.tlv, Sd27.be, e1]
    by_cases hn : n = []
    · subst hn
      by_cases hs : f.short = 0 <;> simp [hs]
    · have hl : 0 < n.length := List.length_pos_iff.mpr hn
      by_cases hs : f.short = 0 <;> simp [hs, hn, hl]
  | plain b =>
    have e2 : b.length / 256 % 256 = b.length / 256 := by
      rw [e] at h2
      simp only [kSize] at h2
      exact Nat.mod_eq_of_lt (by omega)
    simp only [kKind, kName, kSize, kBytes, kLen, kMost, kRecs, Sd27.tlv, Sd27.be, e1, e2]
    by_cases hs : f.short = 0 <;> simp [hs]
  | rows n m l =>
    simp only [kKind, kName, kSize, kBytes, kLen, kMost, kRecs, Sd27.tlv, Sd27.be, e1]
    by_cases hs : f.short = 0 <;> simp [hs]
  | round n m l =>
    simp only [kKind, kName, kSize, kBytes, kLen, kMost, kRecs, Sd27.tlv, Sd27.be, e1]
    by_cases hs : f.short = 0 <;> simp [hs]
/-- a choice of a file that is there -/
theorem choose_is {c : Card} (g : Good c) {k : Cmd} {i : Nat} {f : File} (hf : c.at_ i = some f) (hp : k.p2 = 0 ∨ k.p2 = 12) : Sd27.choose c i k = (if k.p2 = 0 ∧ k.want ≠ none then
          (if k.want.getD 0 < (said (pfOf i f)).length then (c, ([], 0x6C00 + (said (pfOf i f)).length)) else (chooseIx c i, (said (pfOf i f), 0x9000)))
        else (chooseIx c i, ([], 0x9000))) := by
  have ha := about_said (i := i) (g.ok i f hf)
  have hl : (said (pfOf i f)).length ≤ 100 := said_len (g.ok i f hf).name
  have hc : chooseIx c i = if isFolder f = true then { c with folder := i, file := none } else { c with folder := f.up, file := some i } := by
    unfold chooseIx
    rw [hf]
  unfold Sd27.choose
  rw [hf]
  dsimp only
  rw [ha, ← hc]
  rcases hp with hp | hp
  · rw [if_neg (by omega)]
    cases hw : k.want with
    | none => rw [if_neg (by simp)]; rfl
    | some n =>
      rw [if_pos ⟨hp, by simp⟩]
      show (if n < _ then say c (0x6C00 + (said (pfOf i f)).length % 256) else _) = if n < _ then _ else _
      rw [Nat.mod_eq_of_lt (by omega)]
      rfl
  · rw [if_pos hp, if_neg (by omega)]
    rfl
theorem no_kids {c : Card} (g : Good c) {d n : Nat} (h : ¬ (c.at_ d).map isFolder = some true) : findNum c d n = none := by
  cases e : findNum c d n with
  | none => rfl
  | some i =>
    exfalso
    have hm := List.mem_of_find?_eq_some e
    have h2 := (List.mem_filter.mp hm).2
    unfold isIn at h2
    cases hf : c.at_ i with
    | none =>
      rw [hf] at h2
      cases h2
    | some f =>
      rw [hf] at h2
      have z := of_decide_eq_true h2
      obtain ⟨u, hu, hd⟩ := g.up i f hf
      rw [z.2] at hu
      rw [hu] at h
      exact h (congrArg some hd)
theorem down_is {c : Card} (g : Good c) : ∀ (n : Nat) (b : List Nat) (d fuel : Nat), b.length ≤ n → b.length % 2 = 0 → b.length < fuel → Sd27.down c fuel d b = findPath c d b
  | _, _, _, 0, _, _, h => absurd h (Nat.not_lt_zero _)
  | _, [], d, fuel + 1, _, _, _ => rfl
  | _, [_], _, _, _, h, _ => absurd h (by simp)
  | 0, _ :: _ :: _, _, _, h, _, _ => absurd h (by simp)
  | n + 1, x :: y :: r, d, fuel + 1, hn, h2, hf => by
    have hnum : Sd27.high ((x :: y :: r).take 2) = x * 256 + y := num2_high (l := [x, y]) rfl
    simp only [List.length_cons] at hn h2 hf
    show (if (x :: y :: r) = [] then some d else match (c.at_ d).map isFolder, (c.inside d).find? (fun q => q.2.id == Sd27.high ((x :: y :: r).take 2)) with
      | some true, some q => Sd27.down c fuel q.1 ((x :: y :: r).drop 2)
      | _, _ => none) = _
    rw [if_neg (by simp), hnum, findNum_is g, findPath]
    by_cases hd : (c.at_ d).map isFolder = some true
    · rw [hd]
      cases e : findNum c d (x * 256 + y) with
      | none => rfl
      | some j =>
        obtain ⟨f, hf2, _⟩ := findNum_at e
        show (match some true, (c.at_ j).map (fun f => (j, f)) with
          | some true, some q => Sd27.down c fuel q.1 r
          | _, _ => none) = _
        rw [hf2]
        exact down_is g n r j fuel (by omega) (by omega) (by omega)
    · rw [no_kids g hd]
      show (match (c.at_ d).map isFolder, (none : Option (Nat × File)) with
        | some true, some q => Sd27.down c fuel q.1 r
        | _, _ => none) = none
      cases (c.at_ d).map isFolder with
      | none => rfl
      | some b => cases b <;> rfl
end Cc
namespace Cc
open Sd27 (Card File Secret Kind Cmd isFolder say)
theorem findName_is {c : Card} (g : Good c) {nm : List Nat} (h : 1 ≤ nm.length) : (c.files.zipIdx.find? fun x => (x.1.map fun f => f.kind == .folder nm).getD false).map (·.2) = findName c nm := by
  have gen : ∀ (l : List (Option File)) (k m : Nat), l.length ≤ m → ((l.zipIdx k).find? fun x => (x.1.map fun f => f.kind == .folder nm).getD false).map (·.2) = (List.range' k m).find? fun i => (((l[i - k]?).bind id).map fun f => f.kind == .folder nm).getD false := by
    intro l
    induction l with
    | nil =>
      intro k m _
      rw [List.zipIdx_nil]
      symm
      exact List.find?_eq_none.mpr fun x _ => by simp
    | cons a l ih =>
      intro k m hm
      match m, hm with
      | m + 1, hm =>
        rw [List.zipIdx_cons, List.range'_succ, List.find?_cons, List.find?_cons, Nat.sub_self]
        have e : (List.range' (k + 1) m).find? (fun i => ((((a :: l)[i - k]?).bind id).map fun f => f.kind == .folder nm).getD false) = (List.range' (k + 1) m).find? fun i => (((l[i - (k + 1)]?).bind id).map fun f => f.kind == .folder nm).getD false := by
          refine find_congr_mem fun i hi => ?_
          rw [List.mem_range'_1] at hi
          rw [show i - k = (i - (k + 1)) + 1 by omega]
          rfl
        have ih2 := ih (k + 1) m (by simpa using hm)
        rw [e, ← ih2]
        show Option.map _ (match ((a.map fun f => f.kind == .folder nm).getD false) with | true => some (a, k) | false => _) = (match ((a.map fun f => f.kind == .folder nm).getD false) with | true => some k | false => _)
        cases (a.map fun f => f.kind == Kind.folder nm).getD false <;> rfl
  rw [gen c.files 0 64 g.len, ← List.range_eq_range']
  unfold findName
  refine find_congr_mem fun i _ => ?_
  unfold hasName
  show ((c.at_ i).map fun f => f.kind == .folder nm).getD false = _
  cases e : c.at_ i with
  | none => rfl
  | some f =>
    show (f.kind == Kind.folder nm) = (decide (0 < (kName f.kind).length) && decide (kName f.kind = nm))
    generalize f.kind = kd
    cases kd with
    | folder n =>
      show decide (Kind.folder n = Kind.folder nm) = (decide (0 < n.length) && decide (n = nm))
      by_cases z : n = nm
      · subst z
        rw [decide_eq_true rfl, decide_eq_true rfl, decide_eq_true (by omega)]
        rfl
      · rw [decide_eq_false (fun y => z (by injection y)), decide_eq_false z, Bool.and_false]
    | plain b => exact decide_eq_false (fun z => by cases z)
    | rows n m l => exact decide_eq_false (fun z => by cases z)
    | round n m l => exact decide_eq_false (fun z => by cases z)
theorem select_is {c : Card} (g : Good c) {k : Cmd} : Sd27.select c k = mChoose c k := by
  unfold Sd27.select mChoose
  by_cases hp : k.p2 = 0 ∨ k.p2 = 12
  · rw [if_neg (by omega)]
    have c0 : choiceStatus k = if k.p1 = 0 then (if k.data.length = 2 then 0x9000 else 0x6700)
        else if k.p1 = 4 then (if 1 ≤ k.data.length ∧ k.data.length ≤ 16 then 0x9000 else 0x6700)
        else if k.p1 = 8 then (if 0 < k.data.length ∧ k.data.length % 2 = 0 then 0x9000 else 0x6700)
        else 0x6A86 := if_neg (fun z => z hp)
    have ch : ∀ {i f}, c.at_ i = some f → Sd27.choose c i k = match c.at_ i with
      | none => (c, ([], 0))
      | some f => if k.p2 = 0 ∧ k.want ≠ none then
          (if k.want.getD 0 < (said (pfOf i f)).length then (c, ([], 0x6C00 + (said (pfOf i f)).length)) else (chooseIx c i, (said (pfOf i f), 0x9000)))
        else (chooseIx c i, ([], 0x9000)) := fun hf => by rw [choose_is g hf hp, hf]
    by_cases h0 : k.p1 = 0
    · rw [if_pos h0]
      rw [if_pos h0] at c0
      by_cases h2 : k.data.length = 2
      · rw [if_pos h2] at c0
        rw [if_neg (by omega), c0, if_neg (show ¬ ((36864 : Nat) ≠ 36864) from fun z => z rfl)]
        have hfc : findChoice c k = findNear c (num2 k.data) := by unfold findChoice; rw [if_pos h0]
        rw [hfc, num2_high h2]
        show (if num2 k.data = 16128 then Sd27.choose c 0 k else _) = _
        unfold findNear
        by_cases h3 : num2 k.data = 16128
        · rw [if_pos h3, if_pos h3]
          exact ch g.top
        · rw [if_neg h3, if_neg h3, findNum_is g]
          cases e : findNum c c.folder (num2 k.data) with
          | some i =>
            obtain ⟨f, hf, _⟩ := findNum_at e
            show (match (c.at_ i).map (fun f => (i, f)) with
              | some x => Sd27.choose c x.1 k
              | none => _) = _
            rw [hf]
            exact ch hf
          | none =>
            obtain ⟨fo, hf, hd⟩ := g.dir
            obtain ⟨u, hu, hud⟩ := g.up _ _ hf
            show (match (c.at_ c.folder).bind (fun f => (c.at_ f.up).map fun g => (f.up, g)) with
              | some x => if x.2.id = num2 k.data then Sd27.choose c x.1 k else say c 0x6A82
              | none => say c 0x6A82) = _
            rw [hf]
            show (match (c.at_ fo.up).map (fun g => (fo.up, g)) with
              | some x => if x.2.id = num2 k.data then Sd27.choose c x.1 k else say c 0x6A82
              | none => say c 0x6A82) = _
            rw [hu]
            show (if u.id = num2 k.data then Sd27.choose c fo.up k else say c 0x6A82) = _
            by_cases hc0 : c.folder = 0
            · have hfo : fo = topF := by
                rw [hc0, g.top] at hf
                exact (Option.some.inj hf).symm
              have hu0 : u = topF := by
                rw [hfo] at hu
                have hu : c.at_ 0 = some u := hu
                rw [g.top] at hu
                exact (Option.some.inj hu).symm
              rw [hu0, if_neg (show ¬ topF.id = num2 k.data from fun z => h3 z.symm)]
              rw [if_pos hc0]
              rfl
            · have nu : numAt c fo.up = u.id := by unfold numAt; rw [hu]; rfl
              rw [if_neg hc0]
              dsimp only
              rw [nu]
              by_cases h5 : u.id = num2 k.data
              · rw [if_pos h5, if_pos h5]
                exact ch hu
              · rw [if_neg h5, if_neg h5]
                rfl
      · rw [if_neg h2] at c0
        rw [if_pos h2, c0, if_pos (by decide)]
        rfl
    · rw [if_neg h0]
      rw [if_neg h0] at c0
      by_cases h4 : k.p1 = 4
      · rw [if_pos h4]
        rw [if_pos h4] at c0
        by_cases hl : 1 ≤ k.data.length ∧ k.data.length ≤ 16
        · rw [if_pos hl] at c0
          rw [if_neg (by omega), c0, if_neg (show ¬ ((36864 : Nat) ≠ 36864) from fun z => z rfl)]
          have hfc : findChoice c k = findName c k.data := by unfold findChoice; rw [if_neg h0, if_pos h4]
          rw [hfc, ← findName_is g hl.1]
          cases e : c.files.zipIdx.find? (fun x => (x.1.map fun f => f.kind == .folder k.data).getD false) with
          | none => rfl
          | some x =>
            have hn : findName c k.data = some x.2 := by rw [← findName_is g hl.1, e]; rfl
            obtain ⟨f, hf, _⟩ := findName_at hn
            exact ch hf
        · rw [if_neg hl] at c0
          rw [if_pos (by omega), c0, if_pos (by decide)]
          rfl
      · rw [if_neg h4]
        rw [if_neg h4] at c0
        by_cases h8 : k.p1 = 8
        · rw [if_pos h8]
          rw [if_pos h8] at c0
          by_cases hl : 0 < k.data.length ∧ k.data.length % 2 = 0
          · rw [if_pos hl] at c0
            rw [if_neg (by
              intro z
              rcases z with z | z
              · exact z hl.2
              · rw [z] at hl
                exact absurd hl.1 (by decide)), c0, if_neg (show ¬ ((36864 : Nat) ≠ 36864) from fun z => z rfl)]
            have hfc : findChoice c k = findPath c 0 k.data := by unfold findChoice; rw [if_neg h0, if_neg h4]
            rw [hfc, down_is g k.data.length k.data 0 (k.data.length + 1) (Nat.le_refl _) hl.2 (Nat.lt_succ_self _)]
            cases e : findPath c 0 k.data with
            | none => rfl
            | some i =>
              obtain ⟨f, hf, _⟩ := findPath_at _ _ 0 i (Nat.le_refl _) ⟨topF, g.top, by decide⟩ e
              exact ch hf
          · rw [if_neg hl] at c0
            rw [if_pos (by
              by_cases z : k.data = []
              · exact Or.inr z
              · exact Or.inl fun y => hl ⟨List.length_pos_iff.mpr z, y⟩), c0, if_pos (by decide)]
            rfl
        · rw [if_neg h8] at c0
          rw [if_neg h8, c0, if_pos (by decide)]
          rfl
  · have c0 : choiceStatus k = 0x6A86 := if_pos hp
    rw [if_pos (by omega), c0, if_pos (by decide)]
    rfl
end Cc
end
section
namespace Cc
open Sd27 (Card File Secret Kind Cmd isFolder say)
inductive Meant (c : Card) (s : Nat) : Prop where
  | no (h : aimed c s = none) (h2 : Sd27.meant c s = .error 0x6A82)
  | non (h : aimed c s = some c) (h1 : c.file = none) (h2 : Sd27.meant c s = .error 0x6986)
  | yes (d : Card) (i : Nat) (f : File) (h : aimed c s = some d) (h1 : d.file = some i) (h2 : d.at_ i = some f) (h3 : Sd27.meant c s = .ok (d, i, f)) (h4 : ∀ r, d.may r = c.may r)
theorem meant_is {c : Card} (g : Good c) (s : Nat) : Meant c s := by
  by_cases h : s ≠ 0
  · have hm : Sd27.meant c s = match (c.inside c.folder).find? (fun x => x.2.short == s) with
      | some x => .ok ({ c with file := some x.1 }, x.1, x.2)
      | none => .error 0x6A82 := if_pos h
    rw [findShort_is g] at hm
    cases e : findShort c s with
    | none =>
      rw [e] at hm
      exact .no (by unfold aimed; rw [if_neg h, e]; rfl) hm
    | some i =>
      obtain ⟨f, hf, _⟩ := findShort_at e
      rw [e] at hm
      have hm : Sd27.meant c s = match (c.at_ i).map (fun f => (i, f)) with
        | some x => .ok ({ c with file := some x.1 }, x.1, x.2)
        | none => .error 0x6A82 := hm
      rw [hf] at hm
      have hin := List.mem_of_find?_eq_some e
      have hsh := List.find?_some e
      have hsh : decide (shortAt c i = s) = true := hsh
      have hfs : f.short = s := by
        have z := of_decide_eq_true hsh
        unfold shortAt at z
        rw [hf] at z
        exact z
      have hup : f.up = c.folder := by
        have z := (List.mem_filter.mp hin).2
        unfold isIn at z
        rw [hf] at z
        exact (of_decide_eq_true z).2
      have hnd : ¬ isFolder f = true := fun z => h (by rw [← hfs]; exact (g.ok i f hf).dir z)
      have hc : chooseIx c i = { c with file := some i } := by
        unfold chooseIx
        rw [hf]
        show (if isFolder f = true then _ else _) = _
        rw [if_neg hnd, hup]
      refine .yes { c with file := some i } i f ?_ rfl hf hm (fun _ => rfl)
      unfold aimed
      rw [if_neg h, e]
      exact congrArg some hc
  · have h0 : s = 0 := by omega
    have hm : Sd27.meant c s = match c.file.bind (fun i => (c.at_ i).map fun f => (i, f)) with
      | some x => .ok (c, x.1, x.2)
      | none => .error 0x6986 := if_neg h
    have ha : aimed c s = some c := if_pos h0
    cases e : c.file with
    | none =>
      rw [e] at hm
      exact .non ha e hm
    | some i =>
      obtain ⟨f, hf, _, _⟩ := g.file i e
      rw [e] at hm
      have hm : Sd27.meant c s = match (c.at_ i).map (fun f => (i, f)) with
        | some x => .ok (c, x.1, x.2)
        | none => .error 0x6986 := hm
      rw [hf] at hm
      exact .yes c i f ha e hf hm (fun _ => rfl)
theorem want_none {k : Cmd} (o : ∀ n, k.want = some n → 1 ≤ n ∧ n ≤ 256) : wantI k.want = 0 ↔ k.want = none := by
  cases e : k.want with
  | none => simp [wantI]
  | some n =>
    have := o n e
    simp only [wantI]
    constructor
    · intro z
      omega
    · intro z
      cases z
theorem offset_is {k : Cmd} (h : k.p1 < 256) : Sd27.offset k = if k.p1 = 128 ∨ 159 < k.p1 then .error 0x6A86 else .ok (if 128 < k.p1 then k.p1 - 128 else 0, placeOf k) := by
  unfold Sd27.offset placeOf
  by_cases h1 : k.p1 < 128
  · rw [if_pos h1, if_neg (by omega), if_neg (by omega), if_neg (by omega), Nat.mul_comm]
  · rw [if_neg h1]
    by_cases h2 : 160 ≤ k.p1 ∨ k.p1 = 128
    · rw [if_pos h2, if_pos (by omega)]
    · rw [if_neg h2, if_neg (by omega), if_pos (by omega), if_pos (by omega)]
theorem readB_is {c : Card} (g : Good c) {k : Cmd} (o : ∀ n, k.want = some n → 1 ≤ n ∧ n ≤ 256) (hp : k.p1 < 256) : Sd27.readBytes c k = mReadB c k := by
  unfold Sd27.readBytes mReadB mAimB
  rw [offset_is hp]
  by_cases h : k.p1 = 128 ∨ 159 < k.p1
  · rw [if_pos h, if_pos h]
    rfl
  · rw [if_neg h, if_neg h]
    show Sd27.either c (Sd27.meant c _) _ = _
    generalize (if 128 < k.p1 then k.p1 - 128 else 0) = s
    unfold mAim
    cases meant_is g s with
    | no h1 h2 =>
      rw [h1, h2]
      rfl
    | non h1 h3 h2 =>
      rw [h1, h2]
      have ht : tailAim c [1] false = 0x6986 := by unfold tailAim; rw [h3]
      dsimp only
      rw [ht]
      rfl
    | yes d i f h1 h2 h3 h4 h5 =>
      rw [h1, h4]
      have hth : theFile d = some (i, f) := by
        unfold theFile
        rw [h2]
        show (d.at_ i).map _ = _
        rw [h3]
        rfl
      have ht : tailAim d [1] false = if kKind f.kind ∈ [1] then (if d.may f.read = true then 0x9000 else 0x6982) else 0x6981 := by
        unfold tailAim
        rw [h2]
        dsimp only
        rw [h3]
        rfl
      dsimp only
      rw [hth]
      show (match f.kind with
        | .plain b => _
        | _ => say d 0x6981) = _
      cases hk : f.kind with
      | folder n =>
        rw [hk, if_neg (by simp [kKind])] at ht
        rw [ht]
        rfl
      | rows n m l =>
        rw [hk, if_neg (by simp [kKind])] at ht
        rw [ht]
        rfl
      | round n m l =>
        rw [hk, if_neg (by simp [kKind])] at ht
        rw [ht]
        rfl
      | plain b =>
        rw [hk, if_pos (by simp [kKind])] at ht
        dsimp only
        by_cases hm : d.may f.read = true
        · rw [if_pos hm] at ht
          rw [ht, if_neg (by rw [← h5, hm]; decide), if_neg (show ¬ ((36864 : Nat) ≠ 36864) from fun z => z rfl)]
          by_cases hd : k.data = []
          · rw [if_neg (fun z => z hd)]
            cases hw : k.want with
            | none =>
              rw [if_pos (show 0 < k.data.length ∨ wantI none = 0 from Or.inr rfl)]
              rfl
            | some n =>
              have hn := o n hw
              rw [if_neg (show ¬ (0 < k.data.length ∨ wantI (some n) = 0) by rw [hd]; simp [wantI]; omega)]
              dsimp only
              have e1 : kSize f.kind = b.length := by rw [hk]; rfl
              have e2 : kBytes f.kind = b := by rw [hk]; rfl
              have e3 : wantI (some n) = n := rfl
              rw [e1, e2, e3]
              unfold behind
              by_cases hb : b.length < placeOf k
              · rw [if_pos hb, if_pos (decide_eq_true hb)]
                rfl
              · rw [if_neg hb, if_neg (fun z => hb (of_decide_eq_true z))]
                rfl
          · rw [if_pos hd, if_pos (Or.inl (List.length_pos_iff.mpr hd))]
            rfl
        · rw [if_neg hm] at ht
          have hm2 : c.may f.read = false := by rw [← h5]; simpa using hm
          rw [ht, if_pos hm2, if_pos (by decide)]
          rfl
theorem writeB_is {c : Card} (g : Good c) {k : Cmd} (o : ∀ n, k.want = some n → 1 ≤ n ∧ n ≤ 256) (hp : k.p1 < 256) : Sd27.writeBytes c k = mWriteB c k := by
  unfold Sd27.writeBytes mWriteB mAimB
  rw [offset_is hp]
  by_cases h : k.p1 = 128 ∨ 159 < k.p1
  · rw [if_pos h, if_pos h]
    rfl
  · rw [if_neg h, if_neg h]
    show Sd27.either c (Sd27.meant c _) _ = _
    generalize (if 128 < k.p1 then k.p1 - 128 else 0) = s
    unfold mAim
    cases meant_is g s with
    | no h1 h2 =>
      rw [h1, h2]
      rfl
    | non h1 h3 h2 =>
      rw [h1, h2]
      have ht : tailAim c [1] true = 0x6986 := by unfold tailAim; rw [h3]
      dsimp only
      rw [ht]
      rfl
    | yes d i f h1 h2 h3 h4 h5 =>
      rw [h1, h4]
      have hth : theFile d = some (i, f) := by
        unfold theFile
        rw [h2]
        show (d.at_ i).map _ = _
        rw [h3]
        rfl
      have ht : tailAim d [1] true = if kKind f.kind ∈ [1] then (if d.may f.write = true then 0x9000 else 0x6982) else 0x6981 := by
        unfold tailAim
        rw [h2]
        dsimp only
        rw [h3]
        rfl
      dsimp only
      rw [hth]
      show (match f.kind with
        | .plain b => _
        | _ => say d 0x6981) = _
      cases hk : f.kind with
      | folder n =>
        rw [hk, if_neg (by simp [kKind])] at ht
        rw [ht]
        rfl
      | rows n m l =>
        rw [hk, if_neg (by simp [kKind])] at ht
        rw [ht]
        rfl
      | round n m l =>
        rw [hk, if_neg (by simp [kKind])] at ht
        rw [ht]
        rfl
      | plain b =>
        rw [hk, if_pos (by simp [kKind])] at ht
        dsimp only
        by_cases hm : d.may f.write = true
        · rw [if_pos hm] at ht
          rw [ht, if_neg (by rw [← h5, hm]; decide), if_neg (show ¬ ((36864 : Nat) ≠ 36864) from fun z => z rfl)]
          have hi : (k.data = [] ∨ k.want ≠ none) ↔ (k.data.length = 0 ∨ wantI k.want ≠ 0) := by
            rw [List.length_eq_zero_iff, Ne, Ne, want_none o]
          by_cases hd : k.data = [] ∨ k.want ≠ none
          · rw [if_pos hd, if_pos (hi.mp hd)]
            rfl
          · rw [if_neg hd, if_neg (fun z => hd (hi.mpr z))]
            have e1 : kSize f.kind = b.length := by rw [hk]; rfl
            have e2 : kBytes f.kind = b := by rw [hk]; rfl
            rw [e1, e2]
            unfold behind
            by_cases hb : b.length < placeOf k
            · rw [if_pos hb, if_pos (decide_eq_true hb)]
              rfl
            · rw [if_neg hb, if_neg (fun z => hb (of_decide_eq_true z))]
              by_cases hb2 : b.length < placeOf k + k.data.length
              · rw [if_pos hb2, if_pos hb2]
                rfl
              · rw [if_neg hb2, if_neg hb2, List.append_assoc]
                rfl
        · rw [if_neg hm] at ht
          have hm2 : c.may f.write = false := by rw [← h5]; simpa using hm
          rw [ht, if_pos hm2, if_pos (by decide)]
          rfl
end Cc
end
section
namespace Cc
open Sd27 (Card File Secret Kind Cmd isFolder say)
/-- on records: what the specification says, over the mirror's aim -/
theorem onRecords_is {c : Card} (g : Good c) {k : Cmd} {low : Nat} {w : Bool} {fn : Card → Nat → File → Nat × Nat × Bool × List (List Nat) → Sd27.Done} {m : Card → Out}
    (hm : ∀ d i f r, Sd27.records f = some r → theFile d = some (i, f) → d.at_ i = some f → fn d i f r = m d) :
    Sd27.onRecords c k low (fun f => if w = true then f.write else f.read) fn = if (mAimR c k low w).2 ≠ 0x9000 then out (mAimR c k low w).1 (mAimR c k low w).2 else m (mAimR c k low w).1 := by
  unfold Sd27.onRecords mAimR
  by_cases h : k.p2 % 8 ≠ low ∨ k.p2 / 8 = 31
  · rw [if_pos h, if_pos h, if_pos (show (0x6A86 : Nat) ≠ 0x9000 by decide)]
    rfl
  · rw [if_neg h, if_neg h]
    generalize k.p2 / 8 = s
    unfold mAim
    cases meant_is g s with
    | no h1 h2 =>
      rw [h1, h2]
      dsimp only
      rw [if_pos (show (0x6A82 : Nat) ≠ 0x9000 by decide)]
      rfl
    | non h1 h3 h2 =>
      rw [h1, h2]
      have ht : tailAim c [2, 6] w = 0x6986 := by unfold tailAim; rw [h3]
      show _ = if tailAim c [2, 6] w ≠ 0x9000 then out c (tailAim c [2, 6] w) else m c
      rw [ht, if_pos (show (0x6986 : Nat) ≠ 0x9000 by decide)]
      rfl
    | yes d i f h1 h2 h3 h4 h5 =>
      rw [h1, h4]
      have hth : theFile d = some (i, f) := by
        unfold theFile
        rw [h2]
        show (d.at_ i).map _ = _
        rw [h3]
        rfl
      have ht : tailAim d [2, 6] w = if kKind f.kind ∈ [2, 6] then (if d.may (if w = true then f.write else f.read) = true then 0x9000 else 0x6982) else 0x6981 := by
        unfold tailAim
        rw [h2]
        dsimp only
        rw [h3]
      dsimp only
      show (match Sd27.records f with
        | none => say d 0x6981
        | some r => if c.may (if w = true then f.write else f.read) = false then say d 0x6982 else fn d i f r) = if tailAim d [2, 6] w ≠ 0x9000 then out d (tailAim d [2, 6] w) else m d
      cases hr : Sd27.records f with
      | none =>
        have hk : ¬ kKind f.kind ∈ [2, 6] := by
          unfold Sd27.records at hr
          cases hk : f.kind <;> rw [hk] at hr <;> first | (simp [kKind]; done) | cases hr
        rw [if_neg hk] at ht
        rw [ht, if_pos (show (0x6981 : Nat) ≠ 0x9000 by decide)]
        rfl
      | some r =>
        have hk : kKind f.kind ∈ [2, 6] := by
          unfold Sd27.records at hr
          cases hk : f.kind <;> rw [hk] at hr <;> first | (simp [kKind]; done) | cases hr
        rw [if_pos hk] at ht
        by_cases hmy : d.may (if w = true then f.write else f.read) = true
        · rw [if_pos hmy] at ht
          rw [ht, if_neg (show ¬ ((36864 : Nat) ≠ 36864) from fun z => z rfl)]
          dsimp only
          rw [if_neg (by rw [← h5, hmy]; decide)]
          exact hm d i f r hr hth h3
        · rw [if_neg hmy] at ht
          have hm2 : c.may (if w = true then f.write else f.read) = false := by rw [← h5]; simpa using hmy
          rw [ht, if_pos (show (0x6982 : Nat) ≠ 0x9000 by decide)]
          dsimp only
          rw [if_pos hm2]
          rfl
theorem records_k {f : File} {r : Nat × Nat × Bool × List (List Nat)} (h : Sd27.records f = some r) : r.1 = kLen f.kind ∧ r.2.1 = kMost f.kind ∧ (r.2.2.1 = true ↔ kKind f.kind = 6) ∧ r.2.2.2 = kRecs f.kind := by
  unfold Sd27.records at h
  cases hk : f.kind with
  | folder n => rw [hk] at h; cases h
  | plain b => rw [hk] at h; cases h
  | rows n m l =>
    rw [hk] at h
    cases h
    exact ⟨rfl, rfl, by simp [kKind], rfl⟩
  | round n m l =>
    rw [hk] at h
    cases h
    exact ⟨rfl, rfl, by simp [kKind], rfl⟩
theorem there_is {f : File} {n : Nat} : (n = 0 ∨ (kRecs f.kind).length < n) ↔ isThere f n = false := by
  unfold isThere
  by_cases h : n = 0 ∨ (kRecs f.kind).length < n
  · constructor
    · intro _
      rw [Bool.and_eq_false_iff]
      rcases h with h | h
      · exact Or.inl (decide_eq_false (by omega))
      · exact Or.inr (decide_eq_false (by omega))
    · intro _
      exact h
  · constructor
    · intro z
      exact absurd z h
    · intro z
      rw [decide_eq_true (by omega), decide_eq_true (by omega)] at z
      cases z
theorem brings_is {k : Cmd} (o : ∀ n, k.want = some n → 1 ≤ n ∧ n ≤ 256) {n : Nat} : (k.want ≠ none ∨ k.data.length ≠ n) ↔ brings k n = false := by
  unfold brings
  rw [Ne, ← want_none o]
  by_cases h1 : wantI k.want = 0
  · rw [decide_eq_true h1, Bool.true_and]
    simp [h1]
  · rw [decide_eq_false h1, Bool.false_and]
    simp [h1]
theorem readR_is {c : Card} (g : Good c) {k : Cmd} (o : ∀ n, k.want = some n → 1 ≤ n ∧ n ≤ 256) : Sd27.readRecord c k = mReadR c k := by
  have z := onRecords_is g (k := k) (low := 4) (w := false) (fn := fun d _ _ r =>
    if k.data ≠ [] then say d 0x6700 else if k.p1 = 0 ∨ r.2.2.2.length < k.p1 then say d 0x6A83 else match k.want with
      | none => say d 0x6700
      | some n => if n ≠ 256 ∧ n ≠ r.1 then say d (0x6C00 + r.1) else (d, (r.2.2.2.getD (k.p1 - 1) [], Sd27.OK)))
    (m := fun d => if 0 < k.data.length then out d 0x6700 else match theFile d with
    | none => out d 0
    | some x => if isThere x.2 k.p1 = false then out d 0x6A83 else if wantI k.want = 0 then out d 0x6700
      else if ¬ (wantI k.want = 256 ∨ wantI k.want = kLen x.2.kind) then out d (0x6C00 + kLen x.2.kind)
      else (d, ((kRecs x.2.kind).getD (k.p1 - 1) [], 0x9000))) (fun d i f r hr hth hat => by
    obtain ⟨e1, e2, e3, e4⟩ := records_k hr
    rw [hth]
    dsimp only
    rw [e1, e4]
    by_cases hd : k.data = []
    · rw [if_neg (fun z => z hd), if_neg (show ¬ 0 < k.data.length by rw [hd]; decide)]
      by_cases ht : k.p1 = 0 ∨ (kRecs f.kind).length < k.p1
      · rw [if_pos ht, if_pos (there_is.mp ht)]
        rfl
      · rw [if_neg ht, if_neg (fun z => ht (there_is.mpr z))]
        cases hw : k.want with
        | none =>
          rw [if_pos (show wantI none = 0 from rfl)]
          rfl
        | some n =>
          have hn := o n hw
          rw [if_neg (show ¬ wantI (some n) = 0 by simp only [wantI]; omega)]
          show (if n ≠ 256 ∧ n ≠ kLen f.kind then _ else _) = if ¬ (n = 256 ∨ n = kLen f.kind) then _ else _
          by_cases hq : n = 256 ∨ n = kLen f.kind
          · rw [if_neg (by omega), if_neg (fun z => z hq)]
            rfl
          · rw [if_pos (by omega), if_pos hq]
            rfl
    · rw [if_pos hd, if_pos (List.length_pos_iff.mpr hd)]
      rfl)
  exact z
theorem writeR_is {c : Card} (g : Good c) {k : Cmd} (o : ∀ n, k.want = some n → 1 ≤ n ∧ n ≤ 256) : Sd27.writeRecord c k = mWriteR c k := by
  have z := onRecords_is g (k := k) (low := 4) (w := true) (fn := fun d i f r =>
    if r.2.2.1 = true then say d 0x6981 else if k.want ≠ none ∨ k.data.length ≠ r.1 then say d 0x6700 else if k.p1 = 0 ∨ r.2.2.2.length < k.p1 then say d 0x6A83
      else say (d.put i (some (Sd27.withRecords f (r.2.2.2.set (k.p1 - 1) k.data)))) Sd27.OK)
    (m := fun d => match theFile d with
    | none => out d 0
    | some x => if kKind x.2.kind = 6 then out d 0x6981 else if brings k (kLen x.2.kind) = false then out d 0x6700 else if isThere x.2 k.p1 = false then out d 0x6A83
      else out (d.put x.1 (some (Sd27.withRecords x.2 ((kRecs x.2.kind).set (k.p1 - 1) k.data)))) 0x9000) (fun d i f r hr hth hat => by
    obtain ⟨e1, e2, e3, e4⟩ := records_k hr
    rw [hth]
    dsimp only
    rw [e1, e4]
    by_cases hb : kKind f.kind = 6
    · rw [if_pos (e3.mpr hb), if_pos hb]
      rfl
    · rw [if_neg (fun z => hb (e3.mp z)), if_neg hb]
      by_cases hc : k.want ≠ none ∨ k.data.length ≠ kLen f.kind
      · rw [if_pos hc, if_pos ((brings_is o).mp hc)]
        rfl
      · rw [if_neg hc, if_neg (fun z => hc ((brings_is o).mpr z))]
        by_cases ht : k.p1 = 0 ∨ (kRecs f.kind).length < k.p1
        · rw [if_pos ht, if_pos (there_is.mp ht)]
          rfl
        · rw [if_neg ht, if_neg (fun z => ht (there_is.mpr z))]
          rfl)
  exact z
theorem addR_is {c : Card} (g : Good c) {k : Cmd} (o : ∀ n, k.want = some n → 1 ≤ n ∧ n ≤ 256) : Sd27.addRecord c k = mAddR c k := by
  unfold Sd27.addRecord mAddR
  by_cases h0 : k.p1 ≠ 0
  · rw [if_pos h0, if_pos h0]
    rfl
  · rw [if_neg h0, if_neg h0]
    have gm := good_mAim (s := k.p2 / 8) (ks := [2, 6]) (w := true) g
    have z := onRecords_is g (k := k) (low := 0) (w := true) (fn := fun d i f r =>
      if k.want ≠ none ∨ k.data.length ≠ r.1 then say d 0x6700
      else if r.2.2.1 = true then say (d.put i (some (Sd27.withRecords f ((k.data :: r.2.2.2).take r.2.1)))) Sd27.OK
      else if r.2.1 ≤ r.2.2.2.length then say d 0x6A84 else say (d.put i (some (Sd27.withRecords f (r.2.2.2 ++ [k.data])))) Sd27.OK)
      (m := fun d => match theFile d with
      | none => out d 0
      | some x => if brings k (kLen x.2.kind) = false then out d 0x6700
        else if kKind x.2.kind = 6 then out (d.put x.1 (some (Sd27.withRecords x.2 ((k.data :: kRecs x.2.kind).take (kMost x.2.kind))))) 0x9000
        else if kMost x.2.kind ≤ (kRecs x.2.kind).length then out d 0x6A84
        else out (d.put x.1 (some (Sd27.withRecords x.2 (kRecs x.2.kind ++ [k.data])))) 0x9000) (fun d i f r hr hth hat => by
      obtain ⟨e1, e2, e3, e4⟩ := records_k hr
      rw [hth]
      dsimp only
      rw [e1, e2, e4]
      by_cases hc : k.want ≠ none ∨ k.data.length ≠ kLen f.kind
      · rw [if_pos hc, if_pos ((brings_is o).mp hc)]
        rfl
      · rw [if_neg hc, if_neg (fun z => hc ((brings_is o).mpr z))]
        by_cases hb : kKind f.kind = 6
        · rw [if_pos (e3.mpr hb), if_pos hb]
          rfl
        · rw [if_neg (fun z => hb (e3.mp z)), if_neg hb]
          rfl)
    have z2 : Sd27.onRecords c k 0 (fun f => f.write) (fun d i f r =>
      if k.want ≠ none ∨ k.data.length ≠ r.1 then say d 0x6700
      else if r.2.2.1 = true then say (d.put i (some (Sd27.withRecords f ((k.data :: r.2.2.2).take r.2.1)))) Sd27.OK
      else if r.2.1 ≤ r.2.2.2.length then say d 0x6A84 else say (d.put i (some (Sd27.withRecords f (r.2.2.2 ++ [k.data])))) Sd27.OK) = _ := z
    rw [z2]
    by_cases hs : (mAimR c k 0 true).2 ≠ 0x9000
    · rw [if_pos hs]
      dsimp only
      rw [if_pos hs]
    · rw [if_neg hs]
      dsimp only
      rw [if_neg hs]
      have hs2 : (mAimR c k 0 true).2 = 0x9000 := Decidable.byContradiction hs
      obtain ⟨i, f, h1, h2, h3, h4⟩ : ∃ i f, (mAimR c k 0 true).1.file = some i ∧ (mAimR c k 0 true).1.at_ i = some f ∧ kKind f.kind ∈ [2, 6] ∧ theFile (mAimR c k 0 true).1 = some (i, f) := by
        unfold mAimR at hs2 ⊢
        by_cases y : k.p2 % 8 ≠ 0 ∨ k.p2 / 8 = 31
        · rw [if_pos y] at hs2
          cases hs2
        · rw [if_neg y] at hs2 ⊢
          exact mAim_file hs2
      have gd : Good (mAimR c k 0 true).1 := by
        unfold mAimR
        split
        · exact g
        · exact good_mAim g
      rw [h4]
      dsimp only
      have fo := (gd.ok i f h2).recs
      by_cases hf : (kRecs f.kind).length = kMost f.kind
      · rw [if_pos (show kMost f.kind ≤ (kRecs f.kind).length by omega), if_pos hf]
      · rw [if_neg (show ¬ kMost f.kind ≤ (kRecs f.kind).length by omega), if_neg hf]
/-! ## secrets -/
theorem onSecret_is {c : Card} {k : Cmd} (o : ∀ n, k.want = some n → 1 ≤ n ∧ n ≤ 256) {n : Nat} {fn : Nat → Secret → Sd27.Done} {ls : List Nat} (hl : ∀ d : List Nat, (d.length ≠ n ∧ ¬ (n = 8 ∧ d = [])) ↔ ¬ d.length ∈ ls) :
    Sd27.onSecret c k n fn = if aimK c k ls ≠ 0x9000 then out c (aimK c k ls) else match secOf c k.p2 with
      | none => out c 0
      | some s => fn k.p2 s := by
  unfold Sd27.onSecret
  by_cases h1 : k.p1 ≠ 0 ∨ k.p2 = 0 ∨ 8 < k.p2
  · have h1' : k.p1 ≠ 0 ∨ ¬ (1 ≤ k.p2 ∧ k.p2 ≤ 8) := by omega
    have hA : aimS k 0 ls = 0x6A86 := if_pos h1'
    have hK : aimK c k ls = 0x6A86 := by
      unfold aimK
      rw [hA]
      exact if_neg (fun z => by cases z.1)
    rw [if_pos h1, hK, if_pos (by decide)]
    rfl
  · have h1' : ¬ (k.p1 ≠ 0 ∨ ¬ (1 ≤ k.p2 ∧ k.p2 ≤ 8)) := by omega
    have hA0 : aimS k 0 ls = if wantI k.want ≠ 0 ∨ ¬ k.data.length ∈ ls then 0x6700 else 0x9000 := if_neg h1'
    rw [if_neg h1]
    by_cases h2 : k.want ≠ none ∨ (k.data.length ≠ n ∧ ¬ (n = 8 ∧ k.data = []))
    · have h2' : wantI k.want ≠ 0 ∨ ¬ k.data.length ∈ ls := by
        rw [Ne, want_none o, ← hl]
        exact h2
      rw [if_pos h2'] at hA0
      have hK : aimK c k ls = 0x6700 := by
        unfold aimK
        rw [hA0]
        exact if_neg (fun z => by cases z.1)
      rw [if_pos h2, hK, if_pos (by decide)]
      rfl
    · have h2' : ¬ (wantI k.want ≠ 0 ∨ ¬ k.data.length ∈ ls) := by
        rw [Ne, want_none o, ← hl]
        exact h2
      rw [if_neg h2'] at hA0
      rw [if_neg h2]
      cases e : c.secrets.getD (k.p2 - 1) none with
      | none =>
        have hS : secOf c k.p2 = none := e
        have hK : aimK c k ls = 0x6A88 := by
          unfold aimK
          rw [hA0, hS]
          exact if_pos ⟨rfl, rfl⟩
        rw [hK, if_pos (by decide)]
        rfl
      | some s =>
        have hS : secOf c k.p2 = some s := e
        have hK : aimK c k ls = 0x9000 := by
          unfold aimK
          rw [hA0, hS]
          exact if_neg (fun z => by cases z.2)
        rw [hK, hS]
        rfl
theorem tell_is {c : Card} {k : Cmd} (o : ∀ n, k.want = some n → 1 ≤ n ∧ n ≤ 256) : Sd27.verify c k = mTell c k := by
  unfold Sd27.verify mTell
  rw [onSecret_is o (ls := [0, 8]) (fun d => by
    constructor
    · intro h z
      simp only [List.mem_cons, List.not_mem_nil, or_false] at z
      rcases z with z | z
      · exact h.2 ⟨rfl, List.length_eq_zero_iff.mp z⟩
      · exact h.1 z
    · intro h
      simp only [List.mem_cons, List.not_mem_nil, or_false] at h
      exact ⟨fun z => h (Or.inr z), fun z => h (Or.inl (by rw [z.2]; rfl))⟩)]
  by_cases hs : aimK c k [0, 8] ≠ 0x9000
  · rw [if_pos hs, if_pos hs]
  · rw [if_neg hs, if_neg hs]
    cases e : secOf c k.p2 with
    | none => rfl
    | some s =>
      dsimp only
      by_cases hd : k.data = []
      · rw [if_pos hd, if_pos (show k.data.length = 0 by rw [hd]; rfl)]
        by_cases ht : c.told.contains k.p2 = true
        · simp only [if_pos ht]
          rfl
        · simp only [if_neg ht]
          by_cases hl : s.left = 0
          · simp only [if_pos hl]
            rfl
          · simp only [if_neg hl]
            rfl
      · rw [if_neg hd, if_neg (fun z => hd (List.length_eq_zero_iff.mp z))]
        by_cases hl : s.left = 0
        · rw [if_pos hl, if_pos hl]
          rfl
        · rw [if_neg hl, if_neg hl]
          by_cases hw : k.data = s.word
          · rw [if_pos hw, if_neg (show ¬ k.data ≠ s.word from fun z => z hw)]
            rfl
          · rw [if_neg hw, if_pos hw]
            rfl
theorem l16 (d : List Nat) : (d.length ≠ 16 ∧ ¬ (16 = 8 ∧ d = [])) ↔ ¬ d.length ∈ [16] := by
  simp
theorem change_is {c : Card} {k : Cmd} (o : ∀ n, k.want = some n → 1 ≤ n ∧ n ≤ 256) : Sd27.changeSecret c k = mChange c k := by
  unfold Sd27.changeSecret mChange
  rw [onSecret_is o (ls := [16]) l16]
  by_cases hs : aimK c k [16] ≠ 0x9000
  · rw [if_pos hs, if_pos hs]
  · rw [if_neg hs, if_neg hs]
    cases e : secOf c k.p2 with
    | none => rfl
    | some s =>
      dsimp only
      by_cases hl : s.left = 0
      · rw [if_pos hl, if_pos hl]
        rfl
      · rw [if_neg hl, if_neg hl]
        by_cases hw : k.data.take 8 = s.word
        · rw [if_pos hw, if_neg (fun z => z hw)]
          rfl
        · rw [if_neg hw, if_pos hw]
          rfl
theorem free_is {c : Card} {k : Cmd} (o : ∀ n, k.want = some n → 1 ≤ n ∧ n ≤ 256) : Sd27.freeSecret c k = mFree c k := by
  unfold Sd27.freeSecret mFree
  rw [onSecret_is o (ls := [16]) l16]
  by_cases hs : aimK c k [16] ≠ 0x9000
  · rw [if_pos hs, if_pos hs]
  · rw [if_neg hs, if_neg hs]
    cases e : secOf c k.p2 with
    | none => rfl
    | some s =>
      dsimp only
      by_cases hl : s.freeLeft = 0
      · rw [if_pos hl, if_pos hl]
        rfl
      · rw [if_neg hl, if_neg hl]
        by_cases hw : k.data.take 8 = s.free
        · rw [if_pos hw, if_neg (fun z => z hw)]
          rfl
        · rw [if_neg hw, if_pos hw]
          rfl
theorem make_is {c : Card} {k : Cmd} (o : ∀ n, k.want = some n → 1 ≤ n ∧ n ≤ 256) : Sd27.makeSecret c k = mSecret c k := by
  unfold Sd27.makeSecret mSecret
  by_cases h1 : k.p1 ≠ 1 ∨ k.p2 = 0 ∨ 8 < k.p2
  · have h1' : k.p1 ≠ 1 ∨ ¬ (1 ≤ k.p2 ∧ k.p2 ≤ 8) := by omega
    have hA : aimS k 1 [18] = 0x6A86 := if_pos h1'
    rw [if_pos h1, hA, if_pos (by decide)]
    rfl
  · have h1' : ¬ (k.p1 ≠ 1 ∨ ¬ (1 ≤ k.p2 ∧ k.p2 ≤ 8)) := by omega
    have hA0 : aimS k 1 [18] = if wantI k.want ≠ 0 ∨ ¬ k.data.length ∈ [18] then 0x6700 else 0x9000 := if_neg h1'
    rw [if_neg h1]
    by_cases h2 : k.want ≠ none ∨ k.data.length ≠ 18
    · have h2' : wantI k.want ≠ 0 ∨ ¬ k.data.length ∈ [18] := by
        rw [Ne, want_none o, List.mem_singleton]
        exact h2
      rw [if_pos h2'] at hA0
      rw [if_pos h2, hA0, if_pos (by decide)]
      rfl
    · have h2' : ¬ (wantI k.want ≠ 0 ∨ ¬ k.data.length ∈ [18]) := by
        rw [Ne, want_none o, List.mem_singleton]
        exact h2
      rw [if_neg h2'] at hA0
      rw [if_neg h2, hA0, if_neg (show ¬ ((36864 : Nat) ≠ 36864) from fun z => z rfl)]
      by_cases ha : c.active = true
      · rw [if_pos ha, if_pos ha]
        rfl
      · rw [if_neg ha, if_neg ha]
        have hl : k.data.length = 18 := by omega
        have hdr : k.data.drop 16 = [k.data.getD 16 0, k.data.getD 17 0] := by
          have e1 : k.data.drop 16 = k.data[16]'(by omega) :: k.data.drop 17 := List.drop_eq_getElem_cons (by omega)
          have e2 : k.data.drop 17 = k.data[17]'(by omega) :: k.data.drop 18 := List.drop_eq_getElem_cons (by omega)
          have e3 : k.data.drop 18 = [] := List.drop_of_length_le (by omega)
          rw [e1, e2, e3, List.getD_eq_getElem?_getD, List.getD_eq_getElem?_getD, List.getElem?_eq_getElem (by omega), List.getElem?_eq_getElem (by omega)]
          rfl
        rw [hdr]
        dsimp only
        generalize k.data.getD 16 0 = a
        generalize k.data.getD 17 0 = b
        by_cases hq : a = 0 ∨ 15 < a ∨ b = 0 ∨ 15 < b
        · rw [if_pos hq, if_pos (by
            unfold okTries
            simp only [List.all_cons, List.all_nil, Bool.and_true, Bool.and_eq_false_iff, decide_eq_false_iff_not]
            omega)]
          rfl
        · rw [if_neg hq, if_neg (by
            unfold okTries
            simp only [List.all_cons, List.all_nil, Bool.and_true, Bool.and_eq_false_iff, decide_eq_false_iff_not]
            omega)]
          rfl
theorem plain_is {k : Cmd} : (k.p1 ≠ 0 ∨ k.p2 ≠ 0) ↔ (decide (k.p1 = 0) && decide (k.p2 = 0)) = false := by
  rw [Bool.and_eq_false_iff, decide_eq_false_iff_not, decide_eq_false_iff_not]
theorem activate_is {c : Card} {k : Cmd} (o : ∀ n, k.want = some n → 1 ≤ n ∧ n ≤ 256) : Sd27.activate c k = mActivate c k := by
  unfold Sd27.activate mActivate
  by_cases h1 : k.p1 ≠ 0 ∨ k.p2 ≠ 0
  · rw [if_pos h1, if_pos (plain_is.mp h1)]
    rfl
  · rw [if_neg h1, if_neg (fun z => h1 (plain_is.mpr z))]
    have hb : (k.data ≠ [] ∨ k.want ≠ none) ↔ brings k 0 = false := by
      rw [← brings_is o, or_comm, Ne, Ne, Ne, List.length_eq_zero_iff]
    by_cases h2 : k.data ≠ [] ∨ k.want ≠ none
    · rw [if_pos h2, if_pos (hb.mp h2)]
      rfl
    · rw [if_neg h2, if_neg (fun z => h2 (hb.mpr z))]
      by_cases ha : c.active = true
      · rw [if_pos ha, if_pos ha]
        rfl
      · rw [if_neg ha, if_neg ha]
        rfl
theorem mayMake_is {c : Card} (g : Good c) : (((c.at_ c.folder).map fun f => c.may f.read) ≠ some true) ↔ mayMake c = false := by
  unfold mayMake
  obtain ⟨f, hf, _⟩ := g.dir
  rw [hf]
  show (some (c.may f.read) ≠ some true) ↔ c.may f.read = false
  generalize c.may f.read = b
  cases b <;> simp
theorem inside_nil {c : Card} (g : Good c) (i : Nat) : (c.inside i ≠ []) ↔ 0 < (insIx c i).length := by
  have z := inside_find g i fun _ => true
  constructor
  · intro h
    cases hl : insIx c i with
    | nil =>
      rw [hl] at z
      have z : (c.inside i).find? (fun _ => true) = none := z
      exact absurd (List.eq_nil_iff_forall_not_mem.mpr fun x hx => by
        have := List.find?_eq_none.mp z x hx
        exact this rfl) h
    | cons a r => exact Nat.zero_lt_succ _
  · intro h hn
    rw [hn] at z
    cases hl : insIx c i with
    | nil =>
      rw [hl] at h
      cases h
    | cons a r =>
      obtain ⟨f, hf, _⟩ := ins_at (c := c) (d := i) (i := a) (by rw [hl]; exact List.mem_cons_self ..)
      rw [hl, List.find?_cons, hf] at z
      have z : (none : Option (Nat × File)) = (c.at_ a).map fun f => (a, f) := z
      rw [hf] at z
      cases z
theorem take_is {c : Card} (g : Good c) {k : Cmd} (o : ∀ n, k.want = some n → 1 ≤ n ∧ n ≤ 256) : Sd27.delete c k = mTake c k := by
  unfold Sd27.delete mTake
  by_cases h1 : k.p1 ≠ 0 ∨ k.p2 ≠ 0
  · rw [if_pos h1, if_pos (plain_is.mp h1)]
    rfl
  · rw [if_neg h1, if_neg (fun z => h1 (plain_is.mpr z))]
    by_cases h2 : k.want ≠ none ∨ k.data.length ≠ 2
    · rw [if_pos h2, if_pos ((brings_is o).mp h2)]
      rfl
    · rw [if_neg h2, if_neg (fun z => h2 ((brings_is o).mpr z))]
      have hl : k.data.length = 2 := by omega
      by_cases h3 : ((c.at_ c.folder).map fun f => c.may f.read) ≠ some true
      · rw [if_pos h3, if_pos ((mayMake_is g).mp h3)]
        rfl
      · rw [if_neg h3, if_neg (fun z => h3 ((mayMake_is g).mpr z)), num2_high hl, findNum_is g]
        cases e : findNum c c.folder (num2 k.data) with
        | none => rfl
        | some i =>
          obtain ⟨f, hf, _⟩ := findNum_at e
          show (match (c.at_ i).map (fun f => (i, f)) with
            | none => say c 0x6A82
            | some x => if c.inside x.1 ≠ [] then say c 0x6985 else say { (c.put x.1 none) with file := if c.file = some x.1 then none else c.file } Sd27.OK) = _
          rw [hf]
          dsimp only
          show (if c.inside i ≠ [] then _ else _) = _
          by_cases h4 : c.inside i ≠ []
          · rw [if_pos h4, if_pos ((inside_nil g i).mp h4)]
            rfl
          · rw [if_neg h4, if_neg (fun z => h4 ((inside_nil g i).mpr z))]
            rfl
end Cc
end
section
namespace Cc
open Sd27 (Card File Secret Kind Cmd isFolder say)
theorem things_is : ∀ (n : Nat) (l : List Nat), l.length ≤ n → Sd27.things (n + 1) l = fieldsAux n l
  | n, [], _ => by cases n <;> rfl
  | n, [_], _ => by cases n <;> rfl
  | 0, _ :: _ :: _, h => absurd h (by simp)
  | n + 1, t :: k :: r, h => by
    simp only [List.length_cons] at h
    show (if r.length < k then none else (Sd27.things (n + 1) (r.drop k)).map fun l => (t, r.take k) :: l) = (if r.length < k then none else (fieldsAux n (r.drop k)).map fun q => (t, r.take k) :: q)
    rw [things_is n (r.drop k) (by rw [List.length_drop]; omega)]
theorem fieldsAux_nil {n : Nat} {l : List Nat} (h : fieldsAux n l = some []) : l = [] := by
  match n, l, h with
  | _, [], _ => rfl
  | 0, [_], h => cases h
  | _ + 1, [_], h => cases h
  | 0, _ :: _ :: _, h => cases h
  | n + 1, t :: k :: r, h =>
    have h : (if r.length < k then none else (fieldsAux n (r.drop k)).map fun q => (t, r.take k) :: q) = some [] := h
    by_cases z : r.length < k
    · rw [if_pos z] at h
      cases h
    · rw [if_neg z] at h
      cases e : fieldsAux n (r.drop k) with
      | none =>
        rw [e] at h
        cases h
      | some q =>
        rw [e] at h
        cases h
/-- the forms that a file that's wanted may have -/
structure NumOk (x y : Nat) : Prop where
  top : x * 256 + y ≠ 16128
  none_ : x * 256 + y ≠ 65535
inductive Form : List (Nat × List Nat) → Prop where
  | fold {x y a b : Nat} (o : NumOk x y) (ra : Sd27.right a = true) (rb : Sd27.right b = true) : Form [(130, [56]), (131, [x, y]), (140, [a, b])]
  | named {x y a b : Nat} {nm : List Nat} (h1 : 1 ≤ nm.length) (h2 : nm.length ≤ 16) (o : NumOk x y) (ra : Sd27.right a = true) (rb : Sd27.right b = true) : Form [(130, [56]), (131, [x, y]), (132, nm), (140, [a, b])]
  | plain {x y a b p q : Nat} (o : NumOk x y) (ra : Sd27.right a = true) (rb : Sd27.right b = true) : Form [(130, [1]), (131, [x, y]), (128, [p, q]), (140, [a, b])]
  | plainS {x y a b p q s : Nat} (s1 : 1 ≤ s) (s2 : s ≤ 30) (o : NumOk x y) (ra : Sd27.right a = true) (rb : Sd27.right b = true) : Form [(130, [1]), (131, [x, y]), (128, [p, q]), (136, [s]), (140, [a, b])]
  | recs {x y a b k n m : Nat} (hk : k = 2 ∨ k = 6) (hn : 0 < n) (hm : 0 < m) (o : NumOk x y) (ra : Sd27.right a = true) (rb : Sd27.right b = true) : Form [(130, [k, 33, 0, n, m]), (131, [x, y]), (140, [a, b])]
  | recsS {x y a b k n m s : Nat} (hk : k = 2 ∨ k = 6) (hn : 0 < n) (hm : 0 < m) (s1 : 1 ≤ s) (s2 : s ≤ 30) (o : NumOk x y) (ra : Sd27.right a = true) (rb : Sd27.right b = true) : Form [(130, [k, 33, 0, n, m]), (131, [x, y]), (136, [s]), (140, [a, b])]
theorem right_is (r : Nat) : rightRight r = Sd27.right r := by
  unfold rightRight Sd27.right
  rw [Bool.beq_eq_decide_eq]
theorem high2 (x y : Nat) : Sd27.high [x, y] = x * 256 + y := num2_high (l := [x, y]) rfl
theorem form_is {up : Nat} {l : List (Nat × List Nat)} (f : Form l) : Sd27.wanted up l = (wantedOf l).map (toFile · up) := by
  cases f with
  | @fold x y a b o ra rb =>
    have e : wantedOf [(130, [56]), (131, [x, y]), (140, [a, b])] = some (fileOf (heldOf [(130, [56]), (131, [x, y]), (140, [a, b])])) := by
      unfold wantedOf
      rw [if_neg (by simp [contentRight, kindRight, right_is, ra, rb, num2, o.top, o.none_])]
      exact if_neg fun z => z rfl
    rw [e]
    simp [Sd27.wanted, high2, ra, rb, o.top, o.none_, Sd27.TOP, toFile, kindOf, fileOf, heldOf, recKind, num2]
  | @named x y a b nm h1 h2 o ra rb =>
    have e : wantedOf [(130, [56]), (131, [x, y]), (132, nm), (140, [a, b])] = some (fileOf (heldOf [(130, [56]), (131, [x, y]), (132, nm), (140, [a, b])])) := by
      unfold wantedOf
      rw [if_neg (by simp [contentRight, kindRight, right_is, ra, rb, num2, o.top, o.none_, h1, h2])]
      exact if_neg fun z => z rfl
    rw [e]
    have h3 : ¬ (nm = [] ∨ 16 < nm.length) := fun z => z.elim (fun w => by rw [w] at h1; exact absurd h1 (by decide)) (fun w => by omega)
    simp [Sd27.wanted, high2, ra, rb, o.top, o.none_, Sd27.TOP, toFile, kindOf, fileOf, heldOf, recKind, num2, h3]
  | @plain x y a b p q o ra rb =>
    have e : wantedOf [(130, [1]), (131, [x, y]), (128, [p, q]), (140, [a, b])] = some (fileOf (heldOf [(130, [1]), (131, [x, y]), (128, [p, q]), (140, [a, b])])) := by
      unfold wantedOf
      rw [if_neg (by simp [contentRight, kindRight, right_is, ra, rb, num2, o.top, o.none_])]
      exact if_neg fun z => z rfl
    rw [e]
    simp [Sd27.wanted, high2, ra, rb, o.top, o.none_, Sd27.TOP, toFile, kindOf, fileOf, heldOf, recKind, num2]
  | @plainS x y a b p q s s1 s2 o ra rb =>
    have e : wantedOf [(130, [1]), (131, [x, y]), (128, [p, q]), (136, [s]), (140, [a, b])] = some (fileOf (heldOf [(130, [1]), (131, [x, y]), (128, [p, q]), (136, [s]), (140, [a, b])])) := by
      unfold wantedOf
      rw [if_neg (by simp [contentRight, kindRight, right_is, ra, rb, num2, o.top, o.none_, s1, s2])]
      exact if_neg fun z => z rfl
    rw [e]
    have h3 : ¬ (s = 0 ∨ 30 < s) := by omega
    simp [Sd27.wanted, high2, ra, rb, o.top, o.none_, Sd27.TOP, toFile, kindOf, fileOf, heldOf, recKind, num2, h3]
  | @recs x y a b k n m hk hn hm o ra rb =>
    have e : wantedOf [(130, [k, 33, 0, n, m]), (131, [x, y]), (140, [a, b])] = some (fileOf (heldOf [(130, [k, 33, 0, n, m]), (131, [x, y]), (140, [a, b])])) := by
      unfold wantedOf
      rcases hk with rfl | rfl
      · rw [if_neg (by simp [contentRight, kindRight, recKind, right_is, ra, rb, num2, o.top, o.none_, hn, hm])]
        exact if_neg fun z => z rfl
      · rw [if_neg (by simp [contentRight, kindRight, recKind, right_is, ra, rb, num2, o.top, o.none_, hn, hm])]
        exact if_neg fun z => z rfl
    rw [e]
    have h3 : ¬ (n = 0 ∨ m = 0) := by omega
    rcases hk with rfl | rfl
    · simp [Sd27.wanted, high2, ra, rb, o.top, o.none_, Sd27.TOP, toFile, kindOf, fileOf, heldOf, recKind, num2, h3]
    · simp [Sd27.wanted, high2, ra, rb, o.top, o.none_, Sd27.TOP, toFile, kindOf, fileOf, heldOf, recKind, num2, h3]
  | @recsS x y a b k n m s hk hn hm s1 s2 o ra rb =>
    have e : wantedOf [(130, [k, 33, 0, n, m]), (131, [x, y]), (136, [s]), (140, [a, b])] = some (fileOf (heldOf [(130, [k, 33, 0, n, m]), (131, [x, y]), (136, [s]), (140, [a, b])])) := by
      unfold wantedOf
      rcases hk with rfl | rfl
      · rw [if_neg (by simp [contentRight, kindRight, recKind, right_is, ra, rb, num2, o.top, o.none_, hn, hm, s1, s2])]
        exact if_neg fun z => z rfl
      · rw [if_neg (by simp [contentRight, kindRight, recKind, right_is, ra, rb, num2, o.top, o.none_, hn, hm, s1, s2])]
        exact if_neg fun z => z rfl
    rw [e]
    have h3 : ¬ (n = 0 ∨ m = 0) := by omega
    have h4 : ¬ (s = 0 ∨ 30 < s) := by omega
    rcases hk with rfl | rfl
    · simp [Sd27.wanted, high2, ra, rb, o.top, o.none_, Sd27.TOP, toFile, kindOf, fileOf, heldOf, recKind, num2, h3, h4]
    · simp [Sd27.wanted, high2, ra, rb, o.top, o.none_, Sd27.TOP, toFile, kindOf, fileOf, heldOf, recKind, num2, h3, h4]
theorem two {l : List Nat} (h : l.length = 2) : ∃ x y, l = [x, y] := by
  match l, h with
  | [x, y], _ => exact ⟨x, y, rfl⟩
theorem wanted_form {up : Nat} {l : List (Nat × List Nat)} {f : File} (h : Sd27.wanted up l = some f) : Form l := by
  unfold Sd27.wanted at h
  split at h
  · rename_i d i r
    split at h
    · cases h
    · rename_i hi
      obtain ⟨x, y, rfl⟩ := two (Decidable.byContradiction hi)
      obtain ⟨⟨kd, r1⟩, h1, h2⟩ := Option.bind_eq_some_iff.mp h
      obtain ⟨⟨sh, r2⟩, h3, h4⟩ := Option.bind_eq_some_iff.mp h2
      clear h h2
      dsimp only at h1 h3 h4
      split at h4
      · rename_i a b
        split at h4
        · rename_i hr
          have o : NumOk x y := ⟨fun z => hr.2.2.1 (by rw [high2]; exact z), fun z => hr.2.2.2 (by rw [high2]; exact z)⟩
          have ra := hr.1
          have rb := hr.2.1
          clear h4
          split at h3
          · rename_i s q
            split at h3
            · cases h3
            · rename_i hs
              cases h3
              split at h1
              · exact absurd (Or.inr (Or.inr rfl)) hs
              · exact absurd (Or.inr (Or.inr rfl)) hs
              · split at h1
                · cases h1
                · rename_i z
                  cases h1
                  obtain ⟨p, q, rfl⟩ := two (Decidable.byContradiction z)
                  exact .plainS (by omega) (by omega) o ra rb
              · split at h1
                · cases h1
                · cases h1
                  exact .recsS (.inl rfl) (by omega) (by omega) (by omega) (by omega) o ra rb
              · split at h1
                · cases h1
                · cases h1
                  exact .recsS (.inr rfl) (by omega) (by omega) (by omega) (by omega) o ra rb
              · cases h1
          · cases h3
            split at h1
            · split at h1
              · cases h1
              · cases h1
                exact .named (by omega) (by omega) o ra rb
            · cases h1
              exact .fold o ra rb
            · split at h1
              · cases h1
              · rename_i z
                cases h1
                obtain ⟨p, q, rfl⟩ := two (Decidable.byContradiction z)
                exact .plain o ra rb
            · split at h1
              · cases h1
              · cases h1
                exact .recs (.inl rfl) (by omega) (by omega) o ra rb
            · split at h1
              · cases h1
              · cases h1
                exact .recs (.inr rfl) (by omega) (by omega) o ra rb
            · cases h1
        · cases h4
      · cases h4
  · cases h
theorem kd_form {d : List Nat} (h : kindRight d = true) : d = [56] ∨ d = [1] ∨ ∃ k n m, (k = 2 ∨ k = 6) ∧ 0 < n ∧ 0 < m ∧ d = [k, 33, 0, n, m] := by
  match d, h with
  | [], h => cases h
  | [a], h =>
    have h : (decide (a = 56) || decide (a = 1)) = true := h
    simp only [Bool.or_eq_true, decide_eq_true_eq] at h
    rcases h with rfl | rfl
    · exact .inl rfl
    · exact .inr (.inl rfl)
  | [_, _], h => cases h
  | [_, _, _], h => cases h
  | [_, _, _, _], h => cases h
  | [k, a, b, n, m], h =>
    have h : (if [k, a, b, n, m].length ≠ 5 ∨ recKind k = false then false else decide (a = 33) && (decide (b = 0) && (decide (0 < n) && decide (0 < m)))) = true := h
    split at h
    · cases h
    · rename_i z
      have q : recKind k = true := by
        rw [← Bool.not_eq_false]
        exact fun w => z (.inr w)
      unfold recKind at q
      simp only [Bool.or_eq_true, Bool.and_eq_true, decide_eq_true_eq] at h q
      obtain ⟨rfl, rfl, hn, hm⟩ := h
      exact .inr (.inr ⟨k, n, m, q, hn, hm, rfl⟩)
  | _ :: _ :: _ :: _ :: _ :: _ :: _, h =>
    exfalso
    unfold kindRight at h
    rw [if_neg (by simp), if_pos (.inl (by simp))] at h
    cases h
theorem wantedOf_form {l : List (Nat × List Nat)} {g : PF} (h : wantedOf l = some g) : Form l := by
  unfold wantedOf at h
  split at h
  · cases h
  · rename_i h1
    have hall : ∀ x ∈ l, contentRight x.1 x.2 = true := by
      rw [Bool.not_eq_false] at h1
      exact List.all_eq_true.mp h1
    clear h1
    split at h
    · cases h
    · rename_i kd hk
      split at h
      · cases h
      · rename_i h2
        have h2 : l.map (·.1) = marksOrder (kd.getD 0 0) (fun m => (heldOf l m).isSome) := Decidable.byContradiction h2
        have kr : kindRight kd = true := hall _ (heldOf_mem hk)
        have num : ∀ {d}, (131, d) ∈ l → ∃ x y, d = [x, y] ∧ NumOk x y := fun {d} hm => by
          have z : contentRight 131 d = true := hall _ hm
          obtain ⟨x, y, rfl⟩ := two (right_two z (by decide) (by decide) (by decide))
          refine ⟨x, y, rfl, ?_⟩
          simp [contentRight, num2] at z
          exact ⟨of_decide_eq_false z.1, of_decide_eq_false z.2⟩
        have rts : ∀ {d}, (140, d) ∈ l → ∃ a b, d = [a, b] ∧ Sd27.right a = true ∧ Sd27.right b = true := fun {d} hm => by
          have z : contentRight 140 d = true := hall _ hm
          obtain ⟨x, y, rfl⟩ := two (right_two z (by decide) (by decide) (by decide))
          refine ⟨x, y, rfl, ?_⟩
          simp [contentRight, right_is] at z
          exact z
        have siz : ∀ {d}, (128, d) ∈ l → ∃ a b, d = [a, b] := fun {d} hm => two (right_two (m := 128) (hall _ hm) (by decide) (by decide) (by decide))
        have nam : ∀ {d}, (132, d) ∈ l → 1 ≤ d.length ∧ d.length ≤ 16 := fun {d} hm => by
          have z := hall _ hm
          simp [contentRight] at z
          exact z
        have sho : ∀ {d}, (136, d) ∈ l → ∃ s, d = [s] ∧ 1 ≤ s ∧ s ≤ 30 := fun {d} hm => by
          have z := hall _ hm
          match d, right_short z with
          | [s], _ =>
            refine ⟨s, rfl, ?_⟩
            simp [contentRight] at z
            exact ⟨by omega, z.2⟩
        have f3 : ∀ {a b c : Nat}, l.map (·.1) = [a, b, c] → ∃ x y z, l = [(a, x), (b, y), (c, z)] := fun {a b c} e => by
          match l, e with
          | [(_, x), (_, y), (_, z)], rfl => exact ⟨x, y, z, rfl⟩
        have f4 : ∀ {a b c d : Nat}, l.map (·.1) = [a, b, c, d] → ∃ x y z u, l = [(a, x), (b, y), (c, z), (d, u)] := fun {a b c d} e => by
          match l, e with
          | [(_, x), (_, y), (_, z), (_, u)], rfl => exact ⟨x, y, z, u, rfl⟩
        have f5 : ∀ {a b c d f : Nat}, l.map (·.1) = [a, b, c, d, f] → ∃ x y z u v, l = [(a, x), (b, y), (c, z), (d, u), (f, v)] := fun {a b c d f} e => by
          match l, e with
          | [(_, x), (_, y), (_, z), (_, u), (_, v)], rfl => exact ⟨x, y, z, u, v, rfl⟩
        rcases kd_form kr with rfl | rfl | ⟨k, n, m, hkk, hn, hm, rfl⟩
        · by_cases hh : (heldOf l 132).isSome = true
          · have h2 : l.map (·.1) = [130, 131, 132, 140] := by
              rw [h2]
              show [130, 131] ++ [] ++ (if (heldOf l 132).isSome = true then [132] else []) ++ [140] = _
              rw [if_pos hh]
              rfl
            obtain ⟨x, y, z, u, rfl⟩ := f4 h2
            cases hk
            obtain ⟨y1, y2, rfl, o⟩ := num (d := y) (by simp)
            obtain ⟨a, b, rfl, ra, rb⟩ := rts (d := u) (by simp)
            obtain ⟨n1, n2⟩ := nam (d := z) (by simp)
            exact .named n1 n2 o ra rb
          · have h2 : l.map (·.1) = [130, 131, 140] := by
              rw [h2]
              show [130, 131] ++ [] ++ (if (heldOf l 132).isSome = true then [132] else []) ++ [140] = _
              rw [if_neg hh]
              rfl
            obtain ⟨x, y, u, rfl⟩ := f3 h2
            cases hk
            obtain ⟨y1, y2, rfl, o⟩ := num (d := y) (by simp)
            obtain ⟨a, b, rfl, ra, rb⟩ := rts (d := u) (by simp)
            exact .fold o ra rb
        · by_cases hh : (heldOf l 136).isSome = true
          · have h2 : l.map (·.1) = [130, 131, 128, 136, 140] := by
              rw [h2]
              show [130, 131] ++ [128] ++ (if (heldOf l 136).isSome = true then [136] else []) ++ [140] = _
              rw [if_pos hh]
              rfl
            obtain ⟨x, y, z, s, u, rfl⟩ := f5 h2
            cases hk
            obtain ⟨y1, y2, rfl, o⟩ := num (d := y) (by simp)
            obtain ⟨a, b, rfl, ra, rb⟩ := rts (d := u) (by simp)
            obtain ⟨p, q, rfl⟩ := siz (d := z) (by simp)
            obtain ⟨s, rfl, s1, s2⟩ := sho (d := s) (by simp)
            exact .plainS s1 s2 o ra rb
          · have h2 : l.map (·.1) = [130, 131, 128, 140] := by
              rw [h2]
              show [130, 131] ++ [128] ++ (if (heldOf l 136).isSome = true then [136] else []) ++ [140] = _
              rw [if_neg hh]
              rfl
            obtain ⟨x, y, z, u, rfl⟩ := f4 h2
            cases hk
            obtain ⟨y1, y2, rfl, o⟩ := num (d := y) (by simp)
            obtain ⟨a, b, rfl, ra, rb⟩ := rts (d := u) (by simp)
            obtain ⟨p, q, rfl⟩ := siz (d := z) (by simp)
            exact .plain o ra rb
        · have hm2 : marksOrder k (fun m => (heldOf l m).isSome) = [130, 131] ++ [] ++ (if (heldOf l 136).isSome = true then [136] else []) ++ [140] := by
            rcases hkk with rfl | rfl <;> rfl
          have h2 : l.map (·.1) = [130, 131] ++ [] ++ (if (heldOf l 136).isSome = true then [136] else []) ++ [140] := h2.trans hm2
          by_cases hh : (heldOf l 136).isSome = true
          · rw [if_pos hh] at h2
            obtain ⟨x, y, s, u, rfl⟩ := f4 (a := 130) (b := 131) (c := 136) (d := 140) h2
            cases hk
            obtain ⟨y1, y2, rfl, o⟩ := num (d := y) (by simp)
            obtain ⟨a, b, rfl, ra, rb⟩ := rts (d := u) (by simp)
            obtain ⟨s, rfl, s1, s2⟩ := sho (d := s) (by simp)
            exact .recsS hkk hn hm s1 s2 o ra rb
          · rw [if_neg hh] at h2
            obtain ⟨x, y, u, rfl⟩ := f3 (a := 130) (b := 131) (c := 140) h2
            cases hk
            obtain ⟨y1, y2, rfl, o⟩ := num (d := y) (by simp)
            obtain ⟨a, b, rfl, ra, rb⟩ := rts (d := u) (by simp)
            exact .recs hkk hn hm o ra rb
theorem wanted_is (up : Nat) (l : List (Nat × List Nat)) : Sd27.wanted up l = (wantedOf l).map (toFile · up) := by
  cases e : wantedOf l with
  | some g =>
    rw [← e]
    exact form_is (wantedOf_form e)
  | none =>
    cases e2 : Sd27.wanted up l with
    | none => rfl
    | some f =>
      have z := form_is (up := up) (wanted_form e2)
      rw [e, e2] at z
      exact z
theorem parse_is (up : Nat) (b : List Nat) : (match b with
    | 0x62 :: n :: r => if r.length = n then (Sd27.things (n + 1) r).bind (Sd27.wanted up) else none
    | _ => none) = (wantedPF b).map (toFile · up) := by
  have hn : ∀ {b : List Nat}, innerFields b = [] → wantedPF b = none := fun e => by
    unfold wantedPF
    rw [e]
    rfl
  have gen : ∀ {b : List Nat}, (∀ r, b ≠ 98 :: r.length :: r) → innerFields b = [] := fun {b} hb => by
    unfold innerFields fieldsOf
    cases e : fieldsAux b.length b with
    | none => rfl
    | some q =>
      match q, e with
      | [], _ => rfl
      | _ :: _ :: _, _ => rfl
      | [(m, d)], e =>
        show (if m = 98 then _ else []) = _
        by_cases hm : m = 98
        · exfalso
          match b, e, hb with
          | [], e, _ => cases e
          | [_], e, _ => cases e
          | t :: k :: r, e, hb =>
            rw [fieldsAux_step] at e
            split at e
            · cases e
            · rename_i hl
              cases e2 : fieldsAux (r.drop k).length (r.drop k) with
              | none =>
                rw [e2] at e
                cases e
              | some q =>
                rw [e2] at e
                have e : (t, r.take k) :: q = [(m, d)] := Option.some.inj e
                injection e with e3 e4
                injection e3 with e5 e6
                subst e4
                have e7 := fieldsAux_nil e2
                have e8 := congrArg List.length e7
                rw [List.length_drop] at e8
                have e9 : k = r.length := by
                  have : r.length - k = 0 := e8
                  omega
                subst e9
                rw [e5, hm] at hb
                exact hb r rfl
        · rw [if_neg hm]
  by_cases hb : ∃ r, b = 98 :: r.length :: r
  · obtain ⟨r, rfl⟩ := hb
    show (if r.length = r.length then (Sd27.things (r.length + 1) r).bind (Sd27.wanted up) else none) = _
    rw [if_pos rfl, things_is _ _ (Nat.le_refl _)]
    have hi : innerFields (98 :: r.length :: r) = fieldsOf r := by
      have e : fieldsOf (98 :: r.length :: r) = [(98, r)] := by
        unfold fieldsOf
        rw [fieldsAux_step, if_neg (Nat.lt_irrefl _), List.drop_length, List.take_length]
        rfl
      unfold innerFields
      rw [e]
      rfl
    cases e : fieldsAux r.length r with
    | none =>
      rw [hn (by rw [hi]; unfold fieldsOf; rw [e]; rfl)]
      rfl
    | some l =>
      show Sd27.wanted up l = _
      rw [wanted_is]
      unfold wantedPF
      rw [hi]
      unfold fieldsOf
      rw [e]
      rfl
  · rw [hn (gen fun r e => hb ⟨r, e⟩)]
    split
    · split
      · rename_i z
        exact absurd ⟨_, by rw [← z]⟩ hb
      · rfl
    · rfl
end Cc
end
section
namespace Cc
open Sd27 (Card File Secret Kind Cmd isFolder say)
theorem pAtPut {c : Card} {i j : Nat} : (c.put i none).at_ j = if j = i then none else c.at_ j := by
  unfold Card.put Card.at_
  by_cases h : j = i
  · subst h
    rw [if_pos rfl]
    show ((c.files.set j none)[j]?).bind id = none
    by_cases hl : j < c.files.length
    · rw [List.getElem?_set_self hl]
      rfl
    · rw [List.getElem?_eq_none (by rw [List.length_set]; omega)]
      rfl
  · rw [if_neg h]
    show ((c.files.set i none)[j]?).bind id = _
    rw [List.getElem?_set_ne (fun z => h z.symm)]
theorem pFreeLe {c : Card} {j : Nat} (h : freeIx c = some j) : j < 64 ∧ c.at_ j = none ∧ j ≤ c.files.length := by
  unfold freeIx at h
  obtain ⟨h1, h2, h3⟩ := List.find?_range_eq_some.mp h
  refine ⟨List.mem_range.mp h2, Option.isNone_iff_eq_none.mp h1, ?_⟩
  by_cases z : j ≤ c.files.length
  · exact z
  · have y := h3 c.files.length (by omega)
    unfold Card.at_ at y
    rw [List.getElem?_eq_none (Nat.le_refl _)] at y
    cases y
theorem pAtPutFile {c : Card} {j : Nat} {f : File} (h : freeIx c = some j) (i : Nat) : (putFile c j f).at_ i = if i = j then some f else c.at_ i := by
  obtain ⟨h1, h2, h3⟩ := pFreeLe h
  unfold putFile Card.at_
  show ((if j < c.files.length then c.files.set j (some f) else c.files ++ [some f])[i]?).bind id = _
  by_cases hl : j < c.files.length
  · rw [if_pos hl]
    by_cases z : i = j
    · subst z
      rw [if_pos rfl, List.getElem?_set_self hl]
      rfl
    · rw [if_neg z, List.getElem?_set_ne (fun y => z y.symm)]
  · rw [if_neg hl]
    have hj : j = c.files.length := by omega
    subst hj
    by_cases z : i = c.files.length
    · subst z
      rw [if_pos rfl, List.getElem?_append_right (Nat.le_refl _), Nat.sub_self]
      rfl
    · rw [if_neg z]
      by_cases y : i < c.files.length
      · rw [List.getElem?_append_left y]
      · rw [List.getElem?_append_right (by omega), List.getElem?_eq_none (by simp; omega), List.getElem?_eq_none (by omega)]
structure POk (k : Cmd) : Prop where
  data : k.data.length ≤ 255
  want : ∀ n, k.want = some n → 1 ≤ n ∧ n ≤ 256
  p1 : k.p1 < 256
  p2 : k.p2 < 256
  bytes : ∀ x ∈ k.data, x < 256
theorem cmd_pok {b : List Nat} {k : Cmd} (h : Sd27.cmd b = some k) (hb : ∀ x ∈ b, x < 256) : POk k := by
  match b, h, hb with
  | [], h, _ => cases h
  | [_], h, _ => cases h
  | [_, _], h, _ => cases h
  | [_, _, _], h, _ => cases h
  | [c, i, p, q], h, hb =>
    cases h
    exact ⟨Nat.zero_le _, fun n z => (by cases z), hb p (by simp), hb q (by simp), fun x hx => (by cases hx)⟩
  | [c, i, p, q, n], h, hb =>
    cases h
    refine ⟨Nat.zero_le _, fun m z => ?_, hb p (by simp), hb q (by simp), fun x hx => (by cases hx)⟩
    have z : (if n = 0 then 256 else n) = m := Option.some.inj z
    have hn := hb n (by simp)
    split at z <;> omega
  | c :: i :: p :: q :: n :: m :: d, h, hb =>
    have hc : (if n = 0 then none else if (m :: d).length = n then some (⟨c, i, p, q, m :: d, none⟩ : Cmd) else if (m :: d).length = n + 1 then some ⟨c, i, p, q, (m :: d).take n, some (if (m :: d).getD n 0 = 0 then 256 else (m :: d).getD n 0)⟩ else none) = some k := h
    have hn := hb n (by simp)
    have hd : ∀ x ∈ m :: d, x < 256 := fun x hx => hb x (by simp only [List.mem_cons] at hx ⊢; rcases hx with z | z <;> simp [z])
    by_cases z : n = 0
    · rw [if_pos z] at hc
      cases hc
    · rw [if_neg z] at hc
      by_cases y : (m :: d).length = n
      · rw [if_pos y] at hc
        cases hc
        exact ⟨by show (m :: d).length ≤ 255; omega, fun n z => (by cases z), hb p (by simp), hb q (by simp), hd⟩
      · rw [if_neg y] at hc
        by_cases w : (m :: d).length = n + 1
        · rw [if_pos w] at hc
          cases hc
          refine ⟨by show ((m :: d).take n).length ≤ 255; rw [List.length_take]; omega, fun x hx => ?_, hb p (by simp), hb q (by simp), fun x hx => hd x (List.mem_of_mem_take hx)⟩
          have hx : (if (m :: d).getD n 0 = 0 then 256 else (m :: d).getD n 0) = x := Option.some.inj hx
          have := getD_lt hd n
          split at hx <;> omega
        · rw [if_neg w] at hc
          cases hc

theorem any_find {α : Type} {p : α → Bool} : ∀ {l : List α}, l.any p = (l.find? p).isSome
  | [] => rfl
  | a :: r => by
    rw [List.any_cons, List.find?_cons, any_find (l := r)]
    cases p a <;> rfl
theorem any_or {α : Type} {p q : α → Bool} : ∀ {l : List α}, l.any (fun x => p x || q x) = (l.any p || l.any q)
  | [] => rfl
  | a :: r => by
    rw [List.any_cons, List.any_cons, List.any_cons, any_or (l := r)]
    cases p a <;> cases q a <;> cases r.any p <;> rfl
theorem any_and {α : Type} {b : Bool} {q : α → Bool} : ∀ {l : List α}, l.any (fun x => b && q x) = (b && l.any q)
  | [] => by cases b <;> rfl
  | a :: r => by
    rw [List.any_cons, List.any_cons, any_and (l := r)]
    cases b <;> rfl
theorem num_some {c : Card} (g : Good c) (d n : Nat) : (c.inside d).any (fun x => x.2.id == n) = (findNum c d n).isSome := by
  rw [any_find, findNum_is g]
  cases e : findNum c d n with
  | none => rfl
  | some i =>
    obtain ⟨f, hf, _⟩ := findNum_at e
    show ((c.at_ i).map fun f => (i, f)).isSome = true
    rw [hf]
    rfl
theorem short_some {c : Card} (g : Good c) (s : Nat) : (c.inside c.folder).any (fun x => x.2.short == s) = (findShort c s).isSome := by
  rw [any_find, findShort_is g]
  cases e : findShort c s with
  | none => rfl
  | some i =>
    obtain ⟨f, hf, _⟩ := findShort_at e
    show ((c.at_ i).map fun f => (i, f)).isSome = true
    rw [hf]
    rfl
theorem any_zip {α : Type} {p : α → Bool} : ∀ {l : List α} {k : Nat}, ((l.zipIdx k).find? fun x => p x.1).isSome = l.any p
  | [], _ => rfl
  | a :: r, k => by
    rw [List.zipIdx_cons, List.find?_cons, List.any_cons]
    have z := any_zip (p := p) (l := r) (k := k + 1)
    show (match p a with | true => some (a, k) | false => _).isSome = _
    cases p a with
    | true => rfl
    | false => exact z
theorem name_some {c : Card} (g : Good c) {nm : List Nat} (h : 1 ≤ nm.length) : (c.files.any fun f => (f.map fun f => f.kind == .folder nm).getD false) = (findName c nm).isSome := by
  rw [← findName_is g h, Option.isSome_map]
  exact any_zip.symm
theorem noname {c : Card} : findName c [] = none := by
  cases e : findName c [] with
  | none => rfl
  | some i =>
    exfalso
    unfold findName at e
    have z := List.find?_some e
    unfold hasName at z
    cases h : c.at_ i with
    | none =>
      rw [h] at z
      cases z
    | some f =>
      rw [h] at z
      have z : (decide (0 < (kName f.kind).length) && decide (kName f.kind = [])) = true := z
      rw [Bool.and_eq_true, decide_eq_true_eq, decide_eq_true_eq] at z
      rw [z.2] at z
      exact absurd z.1 (by decide)
theorem clash_is {c : Card} (g : Good c) {p : PF} (o : PFOk p) (up : Nat) : clash c p = (((c.inside c.folder).any fun x => x.2.id == (toFile p up).id || ((toFile p up).short != 0 && x.2.short == (toFile p up).short)) ||
    (match (toFile p up).kind with
      | .folder n => n != [] && c.files.any fun (g : Option File) => (g.map fun (g : File) => g.kind == Kind.folder n).getD false
      | _ => false)) := by
  have e1 : ((c.inside c.folder).any fun x => x.2.id == (toFile p up).id || ((toFile p up).short != 0 && x.2.short == (toFile p up).short)) = ((findNum c c.folder p.number).isSome || (decide (p.short ≠ 0) && (findShort c p.short).isSome)) := by
    rw [any_or, any_and, num_some g, short_some g]
    show ((findNum c c.folder p.number).isSome || (p.short != 0 && (findShort c p.short).isSome)) = _
    have : (p.short != 0) = decide (p.short ≠ 0) := by
      by_cases z : p.short = 0 <;> simp [z]
    rw [this]
  have e2 : (match (toFile p up).kind with
      | .folder n => n != [] && c.files.any fun (g : Option File) => (g.map fun (g : File) => g.kind == Kind.folder n).getD false
      | _ => false) = (findName c p.name).isSome := by
    by_cases hk : p.kind = 56
    · have e : (toFile p up).kind = .folder p.name := if_pos hk
      rw [e]
      show (p.name != [] && c.files.any fun (g : Option File) => (g.map fun (g : File) => g.kind == Kind.folder p.name).getD false) = _
      by_cases hn : p.name = []
      · rw [hn, noname]
        rfl
      · have hl : 1 ≤ p.name.length := List.length_pos_iff.mpr hn
        rw [name_some g hl]
        have : (p.name != []) = true := by simp [hn]
        rw [this, Bool.true_and]
    · rw [o.name hk, noname]
      have e : (toFile p up).kind = if p.kind = 1 then .plain (List.replicate p.size 0) else if p.kind = 2 then .rows p.length p.most [] else .round p.length p.most [] := if_neg hk
      rw [e]
      by_cases h1 : p.kind = 1
      · rw [if_pos h1]
        rfl
      · rw [if_neg h1]
        by_cases h2 : p.kind = 2
        · rw [if_pos h2]
          rfl
        · rw [if_neg h2]
          rfl
  rw [e1, e2]
  unfold clash
  cases (findNum c c.folder p.number).isSome <;> cases (findName c p.name).isSome <;> cases (decide (p.short ≠ 0) && (findShort c p.short).isSome) <;> rfl
theorem room_size (k : Kind) : 32 + (kName k).length + kSize k + kLen k * kMost k = 32 + Sd27.size k := by
  cases k <;> simp [kName, kSize, kLen, kMost, Sd27.size]
theorem room_to {p : PF} (o : PFOk p) (up : Nat) : pfRoom p = 32 + Sd27.size (toFile p up).kind := by
  rw [← room_size]
  have z := pf_toFile (up := up) o
  have z1 := congrArg PF.name z
  have z2 := congrArg PF.size z
  have z3 := congrArg PF.length z
  have z4 := congrArg PF.most z
  have z1 : kName (toFile p up).kind = p.name := z1
  have z2 : kSize (toFile p up).kind = p.size := z2
  have z3 : kLen (toFile p up).kind = p.length := z3
  have z4 : kMost (toFile p up).kind = p.most := z4
  rw [z1, z2, z3, z4]
  rfl
theorem sum_ix (F : Option File → Nat) (F0 : F none = 0) : ∀ (l : List (Option File)) (k m : Nat), l.length ≤ m → ((List.range' k m).map fun i => F ((l[i - k]?).bind id)).sum = (l.map F).sum
  | [], k, m, _ => by
    induction m generalizing k with
    | zero => rfl
    | succ m ih =>
      rw [List.range'_succ, List.map_cons, List.sum_cons]
      have z := ih (k + 1) (Nat.zero_le _)
      show F none + _ = 0
      rw [F0, Nat.zero_add]
      exact z
  | a :: l, k, 0, h => absurd h (by simp)
  | a :: l, k, m + 1, h => by
    rw [List.range'_succ, List.map_cons, List.map_cons, List.sum_cons, List.sum_cons, ← sum_ix F F0 l (k + 1) m (by simpa using h), Nat.sub_self]
    refine congrArg (F a + ·) (congrArg List.sum (List.map_congr_left fun i hi => ?_))
    rw [List.mem_range'_1] at hi
    rw [show i - k = (i - (k + 1)) + 1 by omega]
    rfl
theorem used_is {c : Card} (g : Good c) : allRoom c = c.used := by
  have z := sum_ix (fun o => (o.map fun f => 32 + Sd27.size f.kind).getD 0) rfl c.files 0 64 g.len
  rw [← List.range_eq_range'] at z
  unfold Card.used
  rw [← z]
  unfold allRoom
  refine congrArg List.sum (List.map_congr_left fun i _ => ?_)
  unfold roomAt
  show _ = ((c.at_ i).map fun f => 32 + Sd27.size f.kind).getD 0
  cases c.at_ i with
  | none => rfl
  | some f => exact room_size f.kind
theorem create_is {c : Card} (g : Good c) {k : Cmd} (o : POk k) : Sd27.create c k = mMake c k := by
  unfold Sd27.create mMake
  by_cases h1 : k.p1 ≠ 0 ∨ k.p2 ≠ 0
  · rw [if_pos h1, if_pos (plain_is.mp h1)]
    rfl
  · rw [if_neg h1, if_neg (fun z => h1 (plain_is.mpr z))]
    have hw : (k.want ≠ none ∨ k.data = []) ↔ (k.data.length = 0 ∨ wantI k.want ≠ 0) := by
      rw [or_comm, List.length_eq_zero_iff]
      refine or_congr Iff.rfl ?_
      cases e : k.want with
      | none => exact ⟨fun z => absurd rfl z, fun z => absurd rfl z⟩
      | some n =>
        have := o.want n e
        exact ⟨fun _ => by show n ≠ 0; omega, fun _ z => by cases z⟩
    by_cases h2 : k.want ≠ none ∨ k.data = []
    · rw [if_pos h2, if_pos (hw.mp h2)]
      rfl
    · rw [if_neg h2, if_neg (fun z => h2 (hw.mpr z))]
      by_cases h3 : ((c.at_ c.folder).map fun f => c.may f.read) ≠ some true
      · rw [if_pos h3, if_pos ((mayMake_is g).mp h3)]
        rfl
      · rw [if_neg h3, if_neg (fun z => h3 ((mayMake_is g).mpr z))]
        refine Eq.trans (congrArg (fun q : Option File => (match q with
          | none => say c 0x6A80
          | some f => if ((c.inside c.folder).any fun x => x.2.id == f.id || (f.short != 0 && x.2.short == f.short)) = true then say c 0x6A89
            else if (match f.kind with
              | .folder n => n != [] && c.files.any fun (g : Option File) => (g.map fun (g : File) => g.kind == Kind.folder n).getD false
              | _ => false) = true then say c 0x6A89
            else match freeIx c with
              | none => say c 0x6A84
              | some i => if 16384 < c.used + 32 + Sd27.size f.kind then say c 0x6A84 else
                let l := if i < c.files.length then c.files.set i (some f) else c.files ++ [some f]
                let d : Card := { c with files := l }
                say (if isFolder f = true then { d with folder := i, file := none } else { d with file := some i } : Card) Sd27.OK : Sd27.Done)) (parse_is c.folder k.data)) ?_
        cases e : wantedPF k.data with
        | none => rfl
        | some p =>
          have po := wanted_ok e o.bytes
          have hc := clash_is g po c.folder
          show (if ((c.inside c.folder).any fun x => x.2.id == (toFile p c.folder).id || ((toFile p c.folder).short != 0 && x.2.short == (toFile p c.folder).short)) = true then say c 0x6A89
            else if (match (toFile p c.folder).kind with
              | .folder n => n != [] && c.files.any fun (g : Option File) => (g.map fun (g : File) => g.kind == Kind.folder n).getD false
              | _ => false) = true then say c 0x6A89
            else match freeIx c with
              | none => say c 0x6A84
              | some i => if 16384 < c.used + 32 + Sd27.size (toFile p c.folder).kind then say c 0x6A84 else
                let l := if i < c.files.length then c.files.set i (some (toFile p c.folder)) else c.files ++ [some (toFile p c.folder)]
                let d := { c with files := l }
                say (if isFolder (toFile p c.folder) = true then { d with folder := i, file := none } else { d with file := some i }) Sd27.OK) = _
          dsimp only
          generalize ((c.inside c.folder).any fun x => x.2.id == (toFile p c.folder).id || ((toFile p c.folder).short != 0 && x.2.short == (toFile p c.folder).short)) = A at hc ⊢
          generalize (match (toFile p c.folder).kind with
              | .folder n => n != [] && c.files.any fun (g : Option File) => (g.map fun (g : File) => g.kind == Kind.folder n).getD false
              | _ => false) = B at hc ⊢
          rw [hc]
          cases A with
          | true =>
            rw [if_pos rfl, Bool.true_or, if_pos rfl]
            rfl
          | false =>
            cases B with
            | true =>
              rw [if_neg (by decide), if_pos rfl, Bool.false_or, if_pos rfl]
              rfl
            | false =>
              rw [if_neg (by decide), if_neg (by decide), if_neg (by decide)]
              unfold hasRoom
              cases ef : freeIx c with
              | none =>
                rw [Option.isSome_none, Bool.and_false, if_pos rfl]
                rfl
              | some j =>
                rw [Option.isSome_some, Bool.and_true, room_to po c.folder, used_is g]
                dsimp only
                by_cases hr : 16384 < c.used + 32 + Sd27.size (toFile p c.folder).kind
                · rw [if_pos hr, if_pos (decide_eq_false (by omega))]
                  rfl
                · rw [if_neg hr, decide_eq_true (by omega), if_neg (show ¬ (true = false) by decide)]
                  have ea := pAtPutFile (f := toFile p c.folder) ef j
                  rw [if_pos rfl] at ea
                  unfold chooseIx
                  rw [ea]
                  rfl
theorem run_is {c : Card} (g : Good c) {b : List Nat} (hb : ∀ x ∈ b, x < 256) : Sd27.run c b = mObey c b := by
  unfold Sd27.run mObey
  cases e : Sd27.cmd b with
  | none => rfl
  | some k =>
    have o := cmd_pok e hb
    dsimp only
    rw [select_is g, readB_is g o.want o.p1, writeB_is g o.want o.p1, readR_is g o.want, writeR_is g o.want, addR_is g o.want, tell_is o.want, change_is o.want, free_is o.want, make_is o.want, create_is g o, take_is g o.want, activate_is o.want]
    rfl
end Cc
end
section
namespace Cc
open Sd27 (Card File Secret Kind Cmd isFolder say)
theorem pAimS {k : Cmd} {n : Nat} {ls : List Nat} (h : aimS k n ls = 0x9000) : 1 ≤ k.p2 ∧ k.p2 ≤ 8 ∧ k.p1 = n ∧ wantI k.want = 0 ∧ k.data.length ∈ ls := by
  unfold aimS at h
  by_cases z : k.p1 ≠ n ∨ ¬ (1 ≤ k.p2 ∧ k.p2 ≤ 8)
  · rw [if_pos z] at h
    cases h
  · rw [if_neg z] at h
    by_cases y : wantI k.want ≠ 0 ∨ ¬ k.data.length ∈ ls
    · rw [if_pos y] at h
      cases h
    · have z1 : k.p1 = n := Decidable.byContradiction fun q => z (Or.inl q)
      have z2 : 1 ≤ k.p2 ∧ k.p2 ≤ 8 := Decidable.byContradiction fun q => z (Or.inr q)
      exact ⟨z2.1, z2.2, z1, Decidable.byContradiction fun q => y (Or.inl q), Decidable.byContradiction fun q => y (Or.inr q)⟩
theorem pAimK {c : Card} {k : Cmd} {ls : List Nat} (h : aimK c k ls = 0x9000) : aimS k 0 ls = 0x9000 ∧ ∃ s, secOf c k.p2 = some s := by
  unfold aimK at h
  by_cases z : aimS k 0 ls = 0x9000 ∧ secOf c k.p2 = none
  · rw [if_pos z] at h
    cases h
  · rw [if_neg z] at h
    refine ⟨h, ?_⟩
    cases e : secOf c k.p2 with
    | none => exact absurd ⟨h, e⟩ z
    | some s => exact ⟨s, rfl⟩
/-! ## a good card stays good -/
theorem at_putS {c : Card} {i j : Nat} {f f' : File} (h : c.at_ i = some f) : (c.put i (some f')).at_ j = if j = i then some f' else c.at_ j := by
  have hl : i < c.files.length := by
    unfold Card.at_ at h
    cases e : c.files[i]? with
    | none =>
      rw [e] at h
      cases h
    | some x => exact (List.getElem?_eq_some_iff.mp e).1
  unfold Card.put Card.at_
  by_cases z : j = i
  · subst z
    rw [if_pos rfl]
    show ((c.files.set j (some f'))[j]?).bind id = _
    rw [List.getElem?_set_self hl]
    rfl
  · rw [if_neg z]
    show ((c.files.set i (some f'))[j]?).bind id = _
    rw [List.getElem?_set_ne (fun y => z y.symm)]
theorem good_put {c : Card} (g : Good c) {i : Nat} {f f' : File} (h : c.at_ i = some f) (hd : isFolder f = false) (hd' : isFolder f' = false) (hu : f'.up = f.up) (o : FOk f') : Good (c.put i (some f')) := by
  have at1 := fun j => at_putS (j := j) (f' := f') h
  have nf : ∀ {j q}, c.at_ j = some q → isFolder q = true → (c.put i (some f')).at_ j = some q := fun {j q} e eq => by
    rw [at1, if_neg (fun z => by
      subst z
      rw [h] at e
      cases e
      rw [hd] at eq
      cases eq)]
    exact e
  refine ⟨?_, nf g.top rfl, fun j q e => ?_, fun j q e => ?_, ?_, fun j e => ?_, g.sec, g.sok, g.told⟩
  · show (c.files.set i (some f')).length ≤ 64
    rw [List.length_set]
    exact g.len
  · rw [at1] at e
    split at e
    · cases e
      exact o
    · exact g.ok j q e
  · have e2 : ∃ q2, c.at_ j = some q2 ∧ q2.up = q.up := by
      rw [at1] at e
      split at e
      · rename_i z
        cases e
        exact ⟨f, by rw [z]; exact h, hu.symm⟩
      · exact ⟨q, e, rfl⟩
    obtain ⟨q2, e2, e3⟩ := e2
    obtain ⟨u, hu, hf⟩ := g.up j q2 e2
    rw [e3] at hu
    exact ⟨u, nf hu hf, hf⟩
  · obtain ⟨u, hu, hf⟩ := g.dir
    exact ⟨u, nf hu hf, hf⟩
  · obtain ⟨q, h1, h2, h3⟩ := g.file j e
    rw [at1]
    by_cases z : j = i
    · rw [if_pos z]
      subst z
      rw [h] at h1
      cases h1
      exact ⟨f', rfl, hd', hu.trans h3⟩
    · rw [if_neg z]
      exact ⟨q, h1, h2, h3⟩
theorem isF_kind {f : File} : isFolder f = false ↔ kKind f.kind ≠ 56 := by
  rw [Ne, kKind_folder, Bool.not_eq_true]
theorem good_take {c : Card} (g : Good c) {i : Nat} (h : findNum c c.folder n = some i) (hn : ¬ 0 < (insIx c i).length) : Good (taken c i) := by
  have hm := List.mem_of_find?_eq_some h
  have h2 := (List.mem_filter.mp hm).2
  have no : ∀ j q, c.at_ j = some q → j ≠ 0 → q.up ≠ i := fun j q e ej ez => hn (List.length_pos_of_mem (a := j) (List.mem_filter.mpr ⟨List.mem_range.mpr (at_lt g e), by
    unfold isIn
    rw [e]
    exact decide_eq_true ⟨ej, ez⟩⟩))
  obtain ⟨f, hf, _⟩ := findNum_at h
  unfold isIn at h2
  rw [hf] at h2
  obtain ⟨i0, hup⟩ := of_decide_eq_true h2
  have at1 : ∀ j, (taken c i).at_ j = if j = i then none else c.at_ j := fun j => pAtPut
  have ne : ∀ {j q}, c.at_ j = some q → j ≠ i → (taken c i).at_ j = some q := fun {j q} e z => by
    rw [at1, if_neg z]
    exact e
  have back : ∀ {j q}, (taken c i).at_ j = some q → j ≠ i ∧ c.at_ j = some q := fun {j q} e => by
    rw [at1] at e
    split at e
    · cases e
    · rename_i z
      exact ⟨z, e⟩
  refine ⟨?_, ne g.top (fun z => i0 z.symm), fun j q e => g.ok j q (back e).2, fun j q e => ?_, ?_, fun j e => ?_, g.sec, g.sok, g.told⟩
  · show (c.files.set i none).length ≤ 64
    rw [List.length_set]
    exact g.len
  · obtain ⟨z, e⟩ := back e
    obtain ⟨u, hu, hd⟩ := g.up j q e
    refine ⟨u, ne hu ?_, hd⟩
    by_cases j0 : j = 0
    · subst j0
      rw [g.top] at e
      cases e
      exact fun y => i0 y.symm
    · exact no j q e j0
  · obtain ⟨u, hu, hd⟩ := g.dir
    exact ⟨u, ne hu (fun z => no i f hf i0 (hup.trans z)), hd⟩
  · have e : (if c.file = some i then none else c.file) = some j := e
    split at e
    · cases e
    · rename_i z
      obtain ⟨q, h1, h2, h3⟩ := g.file j e
      exact ⟨q, ne h1 (fun y => z (by rw [e, y])), h2, h3⟩
theorem good_putFile {c : Card} (g : Good c) {j : Nat} (h : freeIx c = some j) {f : File} (o : FOk f) (hu : f.up = c.folder) : Good (putFile c j f) := by
  obtain ⟨j64, jn, jl⟩ := pFreeLe h
  have at1 := fun i => pAtPutFile (f := f) h i
  have ne : ∀ {i q}, c.at_ i = some q → (putFile c j f).at_ i = some q := fun {i q} e => by
    rw [at1, if_neg (fun z => by
      subst z
      rw [jn] at e
      cases e)]
    exact e
  refine ⟨?_, ne g.top, fun i q e => ?_, fun i q e => ?_, ?_, fun i e => ?_, g.sec, g.sok, g.told⟩
  · show (if j < c.files.length then c.files.set j (some f) else c.files ++ [some f]).length ≤ 64
    have := g.len
    split
    · rw [List.length_set]
      omega
    · rw [List.length_append, List.length_singleton]
      omega
  · rw [at1] at e
    split at e
    · cases e
      exact o
    · exact g.ok i q e
  · rw [at1] at e
    split at e
    · cases e
      obtain ⟨u, hu2, hd⟩ := g.dir
      exact ⟨u, by rw [hu]; exact ne hu2, hd⟩
    · obtain ⟨u, hu2, hd⟩ := g.up i q e
      exact ⟨u, ne hu2, hd⟩
  · obtain ⟨u, hu2, hd⟩ := g.dir
    exact ⟨u, ne hu2, hd⟩
  · obtain ⟨q, h1, h2, h3⟩ := g.file i e
    exact ⟨q, ne h1, h2, h3⟩
theorem fok_to {p : PF} (o : PFOk p) (hr : pfRoom p ≤ 16384) (up : Nat) : FOk (toFile p up) := by
  have z := pf_toFile (up := up) o
  have z0 : kKind (toFile p up).kind = p.kind := congrArg PF.kind z
  have z1 : kName (toFile p up).kind = p.name := congrArg PF.name z
  have z2 : kSize (toFile p up).kind = p.size := congrArg PF.size z
  have z3 : kLen (toFile p up).kind = p.length := congrArg PF.length z
  have z4 : kMost (toFile p up).kind = p.most := congrArg PF.most z
  have z5 : kRecs (toFile p up).kind = p.records := congrArg PF.records z
  unfold pfRoom at hr
  refine ⟨o.number, o.short, fun h => o.dir (z0.symm.trans (kKind_folder.mpr h)), o.read, o.write, by rw [z1]; exact o.nlen, by rw [z2]; omega, by rw [z3]; exact o.len, by rw [z4]; exact o.most, by rw [z5, o.recs]; exact Nat.zero_le _, fun r hr => ?_, fun h => ?_⟩
  · rw [z5, o.recs] at hr
    cases hr
  · rw [z3, z4]
    rw [z0] at h
    exact o.rec1 h
theorem good_keep {c : Card} (g : Good c) {i : Nat} (i1 : 1 ≤ i) (i8 : i ≤ 8) {s : Secret} (o : SOk s) : Good (c.keep i s) ∧ (c.keep i s).secrets[i - 1]? = some (some s) := by
  have hl : i - 1 < c.secrets.length := by rw [g.sec]; omega
  have at1 : ∀ k : Nat, (c.keep i s).secrets[k]? = if k = i - 1 then some (some s) else c.secrets[k]? := fun k => by
    show (c.secrets.set (i - 1) (some s))[k]? = _
    by_cases z : k = i - 1
    · subst z
      rw [if_pos rfl, List.getElem?_set_self hl]
    · rw [if_neg z, List.getElem?_set_ne (fun y => z y.symm)]
  refine ⟨⟨g.len, g.top, g.ok, g.up, g.dir, g.file, ?_, fun k q h => ?_, fun k h => ?_⟩, by rw [at1, if_pos rfl]⟩
  · show (c.secrets.set (i - 1) (some s)).length = 8
    rw [List.length_set]
    exact g.sec
  · rw [at1] at h
    split at h
    · cases h
      exact o
    · exact g.sok k q h
  · obtain ⟨k1, k8, q, hq⟩ := g.told k h
    refine ⟨k1, k8, ?_⟩
    rw [at1]
    split
    · exact ⟨s, rfl⟩
    · exact ⟨q, hq⟩
theorem good_forget {c : Card} (g : Good c) (i : Nat) : Good (c.forget i) := ⟨g.len, g.top, g.ok, g.up, g.dir, g.file, g.sec, g.sok, fun k h => g.told k (List.mem_filter.mp h).1⟩
theorem good_tell {c : Card} (g : Good c) {i : Nat} (i1 : 1 ≤ i) (i8 : i ≤ 8) {s : Secret} (hs : c.secrets[i - 1]? = some (some s)) (t : List Nat) (ht : ∀ k ∈ t, k ∈ c.told ∨ k = i) : Good { c with told := t } := ⟨g.len, g.top, g.ok, g.up, g.dir, g.file, g.sec, g.sok, fun k h => by
  rcases ht k h with z | z
  · exact g.told k z
  · subst z
    exact ⟨i1, i8, s, hs⟩⟩
theorem sec_at {c : Card} {i : Nat} {s : Secret} (h : secOf c i = some s) : c.secrets[i - 1]? = some (some s) := by
  unfold secOf at h
  rw [List.getD_eq_getElem?_getD] at h
  cases e : c.secrets[i - 1]? with
  | none =>
    rw [e] at h
    cases h
  | some q =>
    rw [e] at h
    have h : q = some s := h
    rw [h]
theorem good_mAimB {c : Card} {k : Cmd} {w : Bool} (g : Good c) : Good (mAimB c k w).1 := by
  unfold mAimB
  split
  · exact g
  · exact good_mAim g
theorem good_mAimR {c : Card} {k : Cmd} {n : Nat} {w : Bool} (g : Good c) : Good (mAimR c k n w).1 := by
  unfold mAimR
  split
  · exact g
  · exact good_mAim g
theorem theFile_at {c : Card} {x : Nat × File} (h : theFile c = some x) : c.file = some x.1 ∧ c.at_ x.1 = some x.2 := by
  unfold theFile at h
  obtain ⟨i, h1, h2⟩ := Option.bind_eq_some_iff.mp h
  obtain ⟨f, h3, h4⟩ := Option.map_eq_some_iff.mp h2
  subst h4
  exact ⟨h1, h3⟩
theorem good_ch {c : Card} {k : Cmd} (g : Good c) : Good (mChoose c k).1 := by
  unfold mChoose
  split
  · exact g
  · split
    · exact g
    · split
      · exact g
      · rename_i f hf
        split
        · split
          · exact g
          · exact good_choose g hf
        · exact good_choose g hf
theorem good_rb {c : Card} {k : Cmd} (g : Good c) : Good (mReadB c k).1 := by
  have q := good_mAimB (k := k) (w := false) g
  unfold mReadB
  dsimp only
  split
  · exact q
  · split
    · exact q
    · split
      · exact q
      · split
        · exact q
        · exact q
theorem bytes_kind {f : File} (h : kKind f.kind = 1) : ∃ b, f.kind = .plain b := by
  cases e : f.kind with
  | folder n => rw [e] at h; cases h
  | plain b => exact ⟨b, rfl⟩
  | rows n m l => rw [e] at h; cases h
  | round n m l => rw [e] at h; cases h
theorem good_wb {c : Card} {k : Cmd} (g : Good c) : Good (mWriteB c k).1 := by
  have q := good_mAimB (k := k) (w := true) g
  unfold mWriteB
  dsimp only
  split
  · exact q
  · rename_i h1
    split
    · exact q
    · split
      · exact q
      · rename_i x hx
        split
        · exact q
        · split
          · exact q
          · rename_i hb hl
            obtain ⟨h2, h3⟩ := theFile_at hx
            have h1 : (mAimB c k true).2 = 0x9000 := Decidable.byContradiction h1
            have hk : kKind x.2.kind = 1 := by
              unfold mAimB at h1 hx
              by_cases z : k.p1 = 128 ∨ 159 < k.p1
              · rw [if_pos z] at h1
                cases h1
              · rw [if_neg z] at h1 hx
                obtain ⟨i, f, -, -, h4, h5⟩ := mAim_file h1
                rw [hx] at h5
                cases h5
                simpa using h4
            obtain ⟨b, hb2⟩ := bytes_kind hk
            have ox := q.ok _ _ h3
            have os := ox.size
            have nf : isFolder x.2 = false := isF_kind.mpr (by rw [hk]; decide)
            refine good_put q h3 nf rfl rfl ⟨ox.id, ox.short, fun z => (by cases z), ox.read, ox.write, Nat.zero_le _, ?_, Nat.zero_le _, Nat.zero_le _, Nat.zero_le _, fun r hr => (by cases hr), fun z => by rcases z with z | z <;> cases z⟩
            show ((kBytes x.2.kind).take (placeOf k) ++ k.data ++ (kBytes x.2.kind).drop (placeOf k + k.data.length)).length ≤ 16384
            rw [hb2] at hl os ⊢
            have hl : ¬ b.length < placeOf k + k.data.length := hl
            have os : b.length ≤ 16384 := os
            show (b.take (placeOf k) ++ k.data ++ b.drop (placeOf k + k.data.length)).length ≤ 16384
            rw [List.length_append, List.length_append, List.length_take, List.length_drop]
            omega
theorem aimR_kind {c : Card} {k : Cmd} {n : Nat} {w : Bool} (h1 : (mAimR c k n w).2 = 0x9000) {x : Nat × File} (hx : theFile (mAimR c k n w).1 = some x) : kKind x.2.kind = 2 ∨ kKind x.2.kind = 6 := by
  unfold mAimR at h1 hx
  by_cases z : k.p2 % 8 ≠ n ∨ k.p2 / 8 = 31
  · rw [if_pos z] at h1
    cases h1
  · rw [if_neg z] at h1 hx
    obtain ⟨i, f, -, -, h4, h5⟩ := mAim_file h1
    rw [hx] at h5
    cases h5
    simpa using h4
theorem good_rr {c : Card} {k : Cmd} (g : Good c) : Good (mReadR c k).1 := by
  have q := good_mAimR (k := k) (n := 4) (w := false) g
  unfold mReadR
  dsimp only
  split
  · exact q
  · split
    · exact q
    · split
      · exact q
      · split
        · exact q
        · split
          · exact q
          · split
            · exact q
            · exact q
/-- other records in a file of records -/
theorem good_recs {c : Card} (g : Good c) {x : Nat × File} (hx : theFile c = some x) (hk : kKind x.2.kind = 2 ∨ kKind x.2.kind = 6) {l : List (List Nat)} (hl : l.length ≤ kMost x.2.kind) (hr : ∀ r ∈ l, r.length = kLen x.2.kind) : Good (c.put x.1 (some (Sd27.withRecords x.2 l))) := by
  obtain ⟨h2, h3⟩ := theFile_at hx
  have ox := g.ok _ _ h3
  have nf : isFolder x.2 = false := isF_kind.mpr (by omega)
  obtain ⟨i, f⟩ := x
  obtain ⟨id, up, short, kd, rd, wr⟩ := f
  have op := ox.pos hk
  have o1 := ox.len
  have o2 := ox.most
  cases kd with
  | folder n => rcases hk with z | z <;> cases z
  | plain b => rcases hk with z | z <;> cases z
  | rows n m l0 => exact good_put g h3 nf rfl rfl ⟨ox.id, ox.short, fun z => (by cases z), ox.read, ox.write, Nat.zero_le _, Nat.zero_le _, o1, o2, hl, hr, fun _ => op⟩
  | round n m l0 => exact good_put g h3 nf rfl rfl ⟨ox.id, ox.short, fun z => (by cases z), ox.read, ox.write, Nat.zero_le _, Nat.zero_le _, o1, o2, hl, hr, fun _ => op⟩
theorem brings_len {k : Cmd} {n : Nat} (h : ¬ brings k n = false) : k.data.length = n := by
  rw [Bool.not_eq_false] at h
  unfold brings at h
  rw [Bool.and_eq_true, decide_eq_true_eq, decide_eq_true_eq] at h
  exact h.2
theorem good_wr {c : Card} {k : Cmd} (g : Good c) : Good (mWriteR c k).1 := by
  have q := good_mAimR (k := k) (n := 4) (w := true) g
  unfold mWriteR
  dsimp only
  split
  · exact q
  · rename_i h1
    split
    · exact q
    · rename_i x hx
      split
      · exact q
      · split
        · exact q
        · rename_i hb
          split
          · exact q
          · have ox := q.ok _ _ (theFile_at hx).2
            refine good_recs q hx (aimR_kind (Decidable.byContradiction h1) hx) (by rw [List.length_set]; exact ox.recs) fun r hr => ?_
            rcases List.mem_or_eq_of_mem_set hr with z | z
            · exact ox.rlen r z
            · rw [z]
              exact brings_len hb
theorem good_ar {c : Card} {k : Cmd} (g : Good c) : Good (mAddR c k).1 := by
  have q := good_mAimR (k := k) (n := 0) (w := true) g
  unfold mAddR
  dsimp only
  split
  · exact g
  · split
    · exact q
    · rename_i h1
      split
      · exact q
      · rename_i x hx
        have ox := q.ok _ _ (theFile_at hx).2
        split
        · exact q
        · rename_i hb
          have hr : ∀ r ∈ k.data :: kRecs x.2.kind, r.length = kLen x.2.kind := fun r hr => by
            rcases List.mem_cons.mp hr with z | z
            · rw [z]
              exact brings_len hb
            · exact ox.rlen r z
          split
          · exact good_recs q hx (aimR_kind (Decidable.byContradiction h1) hx) (by rw [List.length_take]; omega) fun r z => hr r (List.mem_of_mem_take z)
          · split
            · exact q
            · rename_i hn
              have := ox.recs
              refine good_recs q hx (aimR_kind (Decidable.byContradiction h1) hx) (by rw [List.length_append, List.length_singleton]; omega) fun r z => hr r ?_
              rcases List.mem_append.mp z with z | z
              · exact List.mem_cons_of_mem _ z
              · rw [List.mem_singleton.mp z]
                exact List.mem_cons_self ..
theorem good_renewed {c : Card} {k : Cmd} {s : Secret} (g : Good c) (p1 : 1 ≤ k.p2) (p8 : k.p2 ≤ 8) (o : SOk s) (hl : k.data.length = 16) : Good (renewed c k s).1 :=
  (good_keep (s := { s with word := k.data.drop 8, left := s.most }) (good_forget g k.p2) p1 p8 ⟨Nat.le_refl _, o.most, o.free, by show (k.data.drop 8).length = 8; rw [List.length_drop]; omega, o.freer⟩).1
theorem good_mt {c : Card} {k : Cmd} (g : Good c) : Good (mTell c k).1 := by
  unfold mTell
  split
  · exact g
  · rename_i h
    obtain ⟨h1, s, hs⟩ := pAimK (Decidable.byContradiction h)
    obtain ⟨p1, p8, -, -, -⟩ := pAimS h1
    rw [hs]
    have so := g.sok _ s (sec_at hs)
    dsimp only
    split
    · split
      · exact g
      · split
        · exact g
        · exact g
    · split
      · exact g
      · split
        · exact (good_keep (s := { s with left := s.left - 1 }) (good_forget g k.p2) p1 p8 ⟨by have := so.left; show s.left - 1 ≤ s.most; omega, so.most, so.free, so.word, so.freer⟩).1
        · obtain ⟨g2, hs2⟩ := good_keep g p1 p8 (s := { s with left := s.most }) ⟨Nat.le_refl _, so.most, so.free, so.word, so.freer⟩
          refine good_tell g2 p1 p8 hs2 _ fun j hj => ?_
          split at hj
          · exact .inl hj
          · rcases List.mem_append.mp hj with z | z
            · exact .inl z
            · exact .inr (List.mem_singleton.mp z)
theorem good_mc {c : Card} {k : Cmd} (g : Good c) : Good (mChange c k).1 := by
  unfold mChange
  split
  · exact g
  · rename_i h
    obtain ⟨h1, s, hs⟩ := pAimK (Decidable.byContradiction h)
    obtain ⟨p1, p8, -, -, hl⟩ := pAimS h1
    rw [hs]
    have so := g.sok _ s (sec_at hs)
    dsimp only
    split
    · exact g
    · split
      · exact (good_keep (s := { s with left := s.left - 1 }) (good_forget g k.p2) p1 p8 ⟨by have := so.left; show s.left - 1 ≤ s.most; omega, so.most, so.free, so.word, so.freer⟩).1
      · exact good_renewed g p1 p8 so (List.mem_singleton.mp hl)
theorem good_mf {c : Card} {k : Cmd} (g : Good c) : Good (mFree c k).1 := by
  unfold mFree
  split
  · exact g
  · rename_i h
    obtain ⟨h1, s, hs⟩ := pAimK (Decidable.byContradiction h)
    obtain ⟨p1, p8, -, -, hl⟩ := pAimS h1
    rw [hs]
    have so := g.sok _ s (sec_at hs)
    dsimp only
    split
    · exact g
    · split
      · exact (good_keep (s := { s with freeLeft := s.freeLeft - 1 }) g p1 p8 ⟨so.left, so.most, by have := so.free; show s.freeLeft - 1 ≤ 15; omega, so.word, so.freer⟩).1
      · exact good_renewed g p1 p8 so (List.mem_singleton.mp hl)
theorem good_ms {c : Card} {k : Cmd} (g : Good c) : Good (mSecret c k).1 := by
  unfold mSecret
  split
  · exact g
  · rename_i h
    obtain ⟨p1, p8, -, -, hl⟩ := pAimS (Decidable.byContradiction h)
    have hl : k.data.length = 18 := List.mem_singleton.mp hl
    split
    · exact g
    · split
      · exact g
      · rename_i ht
        rw [Bool.not_eq_false, List.all_eq_true] at ht
        have hd : k.data.drop 16 = [k.data.getD 16 0, k.data.getD 17 0] := by
          rw [List.drop_eq_getElem_cons (i := 16) (by omega), List.drop_eq_getElem_cons (i := 17) (by omega), List.drop_eq_nil_of_le (by omega)]
          simp [List.getD_eq_getElem?_getD, hl]
        rw [hd] at ht
        have t1 := ht _ (List.mem_cons_self ..)
        have t2 := ht _ (List.mem_cons_of_mem _ (List.mem_cons_self ..))
        unfold okTries at t1 t2
        rw [Bool.and_eq_true, decide_eq_true_eq, decide_eq_true_eq] at t1 t2
        exact (good_keep g p1 p8 ⟨Nat.le_refl _, t1.2, t2.2, by show (k.data.take 8).length = 8; rw [List.length_take]; omega, by show ((k.data.drop 8).take 8).length = 8; rw [List.length_take, List.length_drop]; omega⟩).1
theorem good_ma {c : Card} {k : Cmd} (g : Good c) : Good (mActivate c k).1 := by
  unfold mActivate
  split
  · exact g
  · split
    · exact g
    · split
      · exact g
      · exact ⟨g.len, g.top, g.ok, g.up, ⟨topF, g.top, rfl⟩, fun i h => (by cases h), g.sec, g.sok, fun k h => (by cases h)⟩
theorem good_mk {c : Card} {k : Cmd} (g : Good c) : Good (mTake c k).1 := by
  unfold mTake
  split
  · exact g
  · split
    · exact g
    · split
      · exact g
      · split
        · exact g
        · rename_i i h
          split
          · exact g
          · rename_i hn
            exact good_take g h hn
theorem good_mm {c : Card} {k : Cmd} (g : Good c) (hb : ∀ x ∈ k.data, x < 256) : Good (mMake c k).1 := by
  unfold mMake
  split
  · exact g
  · split
    · exact g
    · split
      · exact g
      · split
        · exact g
        · rename_i p hp
          split
          · exact g
          · split
            · exact g
            · rename_i hr
              split
              · exact g
              · rename_i j hj
                rw [Bool.not_eq_false] at hr
                unfold hasRoom at hr
                rw [Bool.and_eq_true, decide_eq_true_eq] at hr
                have g2 := good_putFile g hj (f := toFile p c.folder) (fok_to (wanted_ok hp hb) (by omega) _) rfl
                refine good_choose g2 (f := toFile p c.folder) ?_
                rw [pAtPutFile hj, if_pos rfl]
theorem gi {p : Prop} [Decidable p] {a b : Out} (ha : Good a.1) (hb : Good b.1) : Good (if p then a else b).1 := by
  by_cases h : p
  · rw [if_pos h]
    exact ha
  · rw [if_neg h]
    exact hb
theorem good_obey {c : Card} {b : List Nat} (g : Good c) (hb : ∀ x ∈ b, x < 256) : Good (mObey c b).1 := by
  unfold mObey
  cases e : Sd27.cmd b with
  | none => exact g
  | some k =>
    have o := cmd_pok e hb
    dsimp only
    exact gi g (gi (good_ch g) (gi (good_rb g) (gi (good_wb g) (gi (good_rr g) (gi (good_wr g) (gi (good_ar g) (gi (good_mt g) (gi (good_mc g) (gi (good_mf g) (gi (good_ms g) (gi (good_mm g o.bytes) (gi (good_mk g) (gi (good_ma g) g)))))))))))))
end Cc
end
section
namespace Cc
open Sd27 (Card File Secret Kind Cmd isFolder say)
/-! ## status words are two bytes -/
theorem tail_lt {d : Card} {ks : List Nat} {w : Bool} : tailAim d ks w < 65536 := by
  unfold tailAim
  split
  · decide
  · split
    · decide
    · split
      · repeat' split
        all_goals first | decide | (show (36864 : Nat) < 65536; decide) | (show (27010 : Nat) < 65536; decide)
      · decide
theorem aim_lt {c : Card} {s : Nat} {ks : List Nat} {w : Bool} : (mAim c s ks w).2 < 65536 := by
  unfold mAim
  split
  · exact (show (0x6A82 : Nat) < 65536 by decide)
  · exact tail_lt
theorem aimB_lt {c : Card} {k : Cmd} {w : Bool} : (mAimB c k w).2 < 65536 := by
  unfold mAimB
  split
  · exact (show (0x6A86 : Nat) < 65536 by decide)
  · exact aim_lt
theorem aimR_lt {c : Card} {k : Cmd} {n : Nat} {w : Bool} : (mAimR c k n w).2 < 65536 := by
  unfold mAimR
  split
  · exact (show (0x6A86 : Nat) < 65536 by decide)
  · exact aim_lt
theorem cs_lt {k : Cmd} : choiceStatus k < 65536 := by
  unfold choiceStatus
  repeat' split
  all_goals decide
theorem aimS_lt {k : Cmd} {n : Nat} {ls : List Nat} : aimS k n ls < 65536 := by
  unfold aimS
  repeat' split
  all_goals decide
theorem aimK_lt {c : Card} {k : Cmd} {ls : List Nat} : aimK c k ls < 65536 := by
  unfold aimK
  split
  · decide
  · exact aimS_lt
def Lt (x : Out) : Prop := x.2.2 < 65536
theorem li {p : Prop} [Decidable p] {a b : Out} (ha : Lt a) (hb : Lt b) : Lt (if p then a else b) := by
  by_cases h : p
  · rw [if_pos h]
    exact ha
  · rw [if_neg h]
    exact hb
theorem lo {c : Card} {w : Nat} (h : w < 65536) : Lt (out c w) := h
theorem lt_ch {c : Card} {k : Cmd} (g : Good c) : Lt (mChoose c k) := by
  unfold mChoose
  refine li cs_lt ?_
  split
  · exact lo (by decide)
  · split
    · exact lo (by decide)
    · rename_i f hf
      refine li (li ?_ (lo (c := c) (by decide))) (lo (c := c) (by decide))
      show 0x6C00 + _ < 65536
      have h2 : ∀ n, n ≤ 100 → 27648 + n < 65536 := fun n h => by omega
      exact h2 _ (said_len (g.ok _ f hf).name)
theorem lt_rb {c : Card} {k : Cmd} : Lt (mReadB c k) := by
  unfold mReadB
  refine li aimB_lt (li (lo (by decide)) ?_)
  split
  · exact lo (by decide)
  · refine li (lo (by decide)) ?_
    show (if _ then _ else _) < 65536
    split <;> decide
theorem lt_wb {c : Card} {k : Cmd} : Lt (mWriteB c k) := by
  unfold mWriteB
  refine li aimB_lt (li (lo (by decide)) ?_)
  split
  · exact lo (by decide)
  · exact li (lo (by decide)) (li (lo (by decide)) (lo (by decide)))
theorem lt_rr {c : Card} {k : Cmd} (g : Good c) : Lt (mReadR c k) := by
  have q := good_mAimR (k := k) (n := 4) (w := false) g
  unfold mReadR
  refine li aimR_lt (li (lo (by decide)) ?_)
  split
  · exact lo (by decide)
  · rename_i x hx
    have := (q.ok _ _ (theFile_at hx).2).len
    exact li (lo (by decide)) (li (lo (by decide)) (li (lo (by omega)) (lo (c := c) (by decide))))
theorem lt_wr {c : Card} {k : Cmd} : Lt (mWriteR c k) := by
  unfold mWriteR
  refine li aimR_lt ?_
  split
  · exact lo (by decide)
  · exact li (lo (by decide)) (li (lo (by decide)) (li (lo (by decide)) (lo (by decide))))
theorem lt_ar {c : Card} {k : Cmd} : Lt (mAddR c k) := by
  unfold mAddR
  refine li (lo (by decide)) (li aimR_lt ?_)
  split
  · exact lo (by decide)
  · exact li (lo (by decide)) (li (lo (by decide)) (li (lo (by decide)) (lo (by decide))))
theorem lt_mt {c : Card} {k : Cmd} (g : Good c) : Lt (mTell c k) := by
  unfold mTell
  refine li aimK_lt ?_
  split
  · exact lo (by decide)
  · rename_i s hs
    have so := g.sok _ s (sec_at hs)
    have h1 := so.left
    have h2 := so.most
    exact li (li (lo (by decide)) (li (lo (by decide)) (lo (by omega)))) (li (lo (by decide)) (li (lo (by omega)) (lo (by decide))))
theorem lt_mc {c : Card} {k : Cmd} (g : Good c) : Lt (mChange c k) := by
  unfold mChange
  refine li aimK_lt ?_
  split
  · exact lo (by decide)
  · rename_i s hs
    have so := g.sok _ s (sec_at hs)
    have h1 := so.left
    have h2 := so.most
    exact li (lo (by decide)) (li (lo (by omega)) (lo (by decide)))
theorem lt_mf {c : Card} {k : Cmd} (g : Good c) : Lt (mFree c k) := by
  unfold mFree
  refine li aimK_lt ?_
  split
  · exact lo (by decide)
  · rename_i s hs
    have so := g.sok _ s (sec_at hs)
    have h1 := so.free
    exact li (lo (by decide)) (li (lo (by omega)) (lo (by decide)))
theorem lt_ms {c : Card} {k : Cmd} : Lt (mSecret c k) := by
  unfold mSecret
  exact li aimS_lt (li (lo (by decide)) (li (lo (by decide)) (lo (by decide))))
theorem lt_mm {c : Card} {k : Cmd} : Lt (mMake c k) := by
  unfold mMake
  refine li (lo (by decide)) (li (lo (by decide)) (li (lo (by decide)) ?_))
  split
  · exact lo (by decide)
  · refine li (lo (by decide)) (li (lo (by decide)) ?_)
    split
    · exact lo (by decide)
    · exact lo (by decide)
theorem lt_mk {c : Card} {k : Cmd} : Lt (mTake c k) := by
  unfold mTake
  refine li (lo (by decide)) (li (lo (by decide)) (li (lo (by decide)) ?_))
  split
  · exact lo (by decide)
  · exact li (lo (by decide)) (lo (by decide))
theorem lt_ma {c : Card} {k : Cmd} : Lt (mActivate c k) := by
  unfold mActivate
  exact li (lo (by decide)) (li (lo (by decide)) (li (lo (by decide)) (lo (by decide))))
theorem obey_lt {c : Card} {b : List Nat} (g : Good c) : (mObey c b).2.2 < 65536 := by
  show Lt (mObey c b)
  unfold mObey
  cases Sd27.cmd b with
  | none => exact lo (by decide)
  | some k =>
    dsimp only
    exact li (lo (by decide)) (li (lt_ch g) (li lt_rb (li lt_wb (li (lt_rr g) (li lt_wr (li lt_ar (li (lt_mt g) (li (lt_mc g) (li (lt_mf g) (li lt_ms (li lt_mm (li lt_mk (li lt_ma (lo (by decide)))))))))))))))
/-! ## the calls -/
abbrev cNats (l : List Int) : List Nat := l.map Int.toNat
abbrev cInts (l : List Nat) : List Int := l.map fun (x : Nat) => (x : Int)
theorem cInts_nats {l : List Int} (h : ∀ x ∈ l, 0 ≤ x) : cInts (cNats l) = l := by
  induction l with
  | nil => rfl
  | cons a r ih =>
    show ((a.toNat : Nat) : Int) :: cInts (cNats r) = a :: r
    rw [ih (fun x hx => h x (List.mem_cons_of_mem _ hx)), Int.toNat_of_nonneg (h a (List.mem_cons_self ..))]
theorem cInts_app (l m : List Nat) : cInts (l ++ m) = cInts l ++ cInts m := List.map_append ..
theorem bb_be {n : Nat} (h : n < 65536) : Sd27.be n = bb n := by
  show [n / 256 % 256, n % 256] = [n / 256, n % 256]
  rw [Nat.mod_eq_of_lt (show n / 256 < 256 by omega)]
theorem step_cmd {c : Card} (g : Good c) {x : List Int} (hl : x.length ≤ 261) (hb : ∀ y ∈ cNats x, y < 256) : Sd27Neutral.step c [[1, (x.length : Int)], x] = ((mObey c (cNats x)).1, (((mObey c (cNats x)).2.1 ++ bb (mObey c (cNats x)).2.2).length : Int) :: cInts ((mObey c (cNats x)).2.1 ++ bb (mObey c (cNats x)).2.2)) := by
  have e : Sd27Neutral.callOf [[1, (x.length : Int)], x] = some (.command (some (cNats x))) := by
    show some (Sd27.Call.command (if (0 : Int) ≤ x.length ∧ (x.length : Int) ≤ 261 then some (cNats x) else none)) = _
    rw [if_pos (by omega)]
  unfold Sd27Neutral.step
  rw [e]
  dsimp only
  unfold Sd27.step
  dsimp only
  rw [run_is g hb, bb_be (obey_lt g)]
  rfl
theorem told_cons (a : List Int) (r : List (List Int)) : PyFlat.told (a :: r) = (a.length : Int) :: (a ++ PyFlat.told r) := by
  unfold PyFlat.told
  rw [List.flatMap_cons]
  rfl
theorem flat_go : ∀ (fuel : Nat) (l : List Int) (raw : List (List (List Int))), PyFlat.calls PySd27.shape fuel l = some raw → PyInside.calls PySd27.bound raw = true → (∀ x ∈ l, 0 ≤ x) →
    ∃ cs, OkL (cNats l) cs ∧ ∀ c, Good c → PyFlat.told (PyFlat.played Sd27Neutral.step c (raw.map PySd27.whole)) = cInts (flat c cs)
  | fuel, [], raw, h, _, _ => by
    have h : some [] = some raw := by cases fuel <;> exact h
    cases h
    exact ⟨[], .nil, fun c _ => rfl⟩
  | 0, _ :: _, _, h, _, _ => by cases h
  | fuel + 1, p :: r, raw, h, hi, hp => by
    have h : (match PyFlat.call PySd27.shape (p :: r) with
      | none => none
      | some (c, t) => match PyFlat.calls PySd27.shape fuel t with
        | none => none
        | some cs => some (c :: cs)) = some raw := h
    by_cases p1 : p = 1
    · subst p1
      have hc : PyFlat.call PySd27.shape (1 :: r) = match PyFlat.row r with
        | none => none
        | some (x, s) => some ([[1], x], s) := by
        show (if r.length < 0 then none else match PyFlat.rows 1 (r.drop 0) with | none => none | some (xs, t) => some ((1 :: r.take 0) :: xs, t)) = _
        rw [if_neg (Nat.not_lt_zero _), List.drop_zero, List.take_zero]
        show (match (match PyFlat.row r with | none => none | some (x, s) => match PyFlat.rows 0 s with | none => none | some (xs, t) => some (x :: xs, t)) with | none => none | some (xs, t) => some ([1] :: xs, t)) = _
        cases PyFlat.row r with
        | none => rfl
        | some q => rfl
      rw [hc] at h
      match r, h, hp with
      | [], h, _ => cases h
      | n :: r, h, hp =>
        have hr : PyFlat.row (n :: r) = if 0 ≤ n ∧ n.toNat ≤ r.length then some (r.take n.toNat, r.drop n.toNat) else none := rfl
        rw [hr] at h
        by_cases hn : 0 ≤ n ∧ n.toNat ≤ r.length
        · rw [if_pos hn] at h
          have h : (match PyFlat.calls PySd27.shape fuel (r.drop n.toNat) with
            | none => none
            | some cs => some ([[1], r.take n.toNat] :: cs)) = some raw := h
          cases e : PyFlat.calls PySd27.shape fuel (r.drop n.toNat) with
          | none =>
            rw [e] at h
            cases h
          | some raw2 =>
            rw [e] at h
            cases h
            have hi2 : (PyInside.call PySd27.bound [[1], r.take n.toNat] && PyInside.calls PySd27.bound raw2) = true := hi
            rw [Bool.and_eq_true] at hi2
            obtain ⟨hi1, hi2⟩ := hi2
            have hi1 : (decide (0 ≤ (r.take n.toNat).length) && decide ((r.take n.toNat).length ≤ 261) && (r.take n.toNat).all (PyInside.within 0 255) && true) = true := hi1
            rw [Bool.and_true, Bool.and_eq_true, Bool.and_eq_true, decide_eq_true_eq, decide_eq_true_eq, List.all_eq_true] at hi1
            obtain ⟨⟨-, hl⟩, hw⟩ := hi1
            have hb : ∀ y ∈ cNats (r.take n.toNat), y < 256 := fun y hy => by
              obtain ⟨z, hz, rfl⟩ := List.mem_map.mp hy
              have := hw z hz
              unfold PyInside.within at this
              rw [Bool.and_eq_true, decide_eq_true_eq, decide_eq_true_eq] at this
              omega
            obtain ⟨cs, ok, hcs⟩ := flat_go fuel (r.drop n.toNat) raw2 e hi2 fun x hx => hp x (List.mem_cons_of_mem _ (List.mem_cons_of_mem _ (List.mem_of_mem_drop hx)))
            refine ⟨some (cNats (r.take n.toNat)) :: cs, ?_, fun c g => ?_⟩
            · have o := OkL.cmd (cNats (r.take n.toNat)) (cNats (r.drop n.toNat)) cs (by rw [List.length_map]; exact hl) hb ok
              have e1 : cNats (1 :: n :: r) = 1 :: (cNats (r.take n.toNat)).length :: (cNats (r.take n.toNat) ++ cNats (r.drop n.toNat)) := by
                rw [← List.map_append, List.take_append_drop, List.length_map, List.length_take, Nat.min_eq_left hn.2]
                rfl
              rw [e1]
              exact o
            · show PyFlat.told ((Sd27Neutral.step c [[1, ((r.take n.toNat).length : Int)], r.take n.toNat]).2 :: PyFlat.played Sd27Neutral.step (Sd27Neutral.step c [[1, ((r.take n.toNat).length : Int)], r.take n.toNat]).1 (raw2.map PySd27.whole)) = _
              rw [step_cmd g hl hb]
              dsimp only
              rw [told_cons, hcs _ (good_obey g hb)]
              show _ = cInts ((((mObey c (cNats (r.take n.toNat))).2.1 ++ bb (mObey c (cNats (r.take n.toNat))).2.2).length + 1) :: (((mObey c (cNats (r.take n.toNat))).2.1 ++ bb (mObey c (cNats (r.take n.toNat))).2.2).length :: (((mObey c (cNats (r.take n.toNat))).2.1 ++ bb (mObey c (cNats (r.take n.toNat))).2.2) ++ flat (mObey c (cNats (r.take n.toNat))).1 cs)))
              generalize mObey c (cNats (r.take n.toNat)) = out
              show _ = cInts (((out.2.1 ++ bb out.2.2).length + 1) :: ((out.2.1 ++ bb out.2.2).length :: ((out.2.1 ++ bb out.2.2) ++ flat out.1 cs)))
              rw [List.length_cons, List.length_map]
              show _ = (((out.2.1 ++ bb out.2.2).length + 1 : Nat) : Int) :: (((out.2.1 ++ bb out.2.2).length : Nat) : Int) :: cInts ((out.2.1 ++ bb out.2.2) ++ flat out.1 cs)
              rw [cInts_app (out.2.1 ++ bb out.2.2)]
              rfl
        · rw [if_neg hn] at h
          cases h
    · by_cases p2 : p = 2
      · subst p2
        have hc : PyFlat.call PySd27.shape (2 :: r) = some ([[2]], r) := by
          show (if r.length < 0 then none else match PyFlat.rows 0 (r.drop 0) with | none => none | some (xs, t) => some ((2 :: r.take 0) :: xs, t)) = _
          rw [if_neg (Nat.not_lt_zero _), List.drop_zero, List.take_zero]
          rfl
        rw [hc] at h
        have h : (match PyFlat.calls PySd27.shape fuel r with
          | none => none
          | some cs => some ([[2]] :: cs)) = some raw := h
        cases e : PyFlat.calls PySd27.shape fuel r with
        | none =>
          rw [e] at h
          cases h
        | some raw2 =>
          rw [e] at h
          cases h
          have hi2 : (PyInside.call PySd27.bound [[2]] && PyInside.calls PySd27.bound raw2) = true := hi
          rw [Bool.and_eq_true] at hi2
          obtain ⟨cs, ok, hcs⟩ := flat_go fuel r raw2 e hi2.2 fun x hx => hp x (List.mem_cons_of_mem _ hx)
          refine ⟨none :: cs, OkL.reset _ _ ok, fun c g => ?_⟩
          show PyFlat.told ((Sd27Neutral.step c [[2]]).2 :: PyFlat.played Sd27Neutral.step (Sd27Neutral.step c [[2]]).1 (raw2.map PySd27.whole)) = _
          rw [told_cons]
          have hs : Sd27Neutral.step c [[2]] = (Sd27.reset c, [0]) := rfl
          rw [hs]
          dsimp only
          rw [hcs _ (good_reset g)]
          rfl
      · exfalso
        have hs : PySd27.shape p = none := by
          unfold PySd27.shape
          rw [if_neg p1, if_neg p2]
        have hc : PyFlat.call PySd27.shape (p :: r) = none := by
          show (match PySd27.shape p with
            | none => none
            | some (n, k) => if r.length < n then none else match PyFlat.rows k (r.drop n) with | none => none | some (xs, t) => some ((p :: r.take n) :: xs, t)) = none
          rw [hs]
        rw [hc] at h
        cases h
theorem asked_is {l : List Int} (h : PySd27.answers_asked l = true) (hp : ∀ x ∈ l, 0 ≤ x) : ∃ cs, OkL (cNats l) cs ∧ PySd27.answers l = cInts (flat Sd27.blank cs) ∧ (flat Sd27.blank cs).length ≤ 10000000 := by
  unfold PySd27.answers_asked at h
  cases e : PyFlat.calls PySd27.shape l.length l with
  | none =>
    rw [e] at h
    cases h
  | some raw =>
    rw [e] at h
    dsimp only at h
    rw [Bool.and_eq_true, Bool.and_eq_true, Bool.and_eq_true] at h
    obtain ⟨⟨⟨-, hi⟩, -⟩, hs⟩ := h
    obtain ⟨cs, ok, hcs⟩ := flat_go _ l raw e hi hp
    have ha : PySd27.answers l = cInts (flat Sd27.blank cs) := by
      rw [← hcs _ good_blank]
      unfold PySd27.answers PySd27.calls
      rw [e]
      rfl
    refine ⟨cs, ok, ha, ?_⟩
    unfold PyFlat.short at hs
    rw [decide_eq_true_eq, ha, List.length_map] at hs
    exact hs
end Cc
end
section
namespace Cc
open PySem PySem.Spec PyProof.Rows L2 Evl
open Sd27 (Card File Secret Kind Cmd isFolder)
/-! ### what the top has written -/
theorem all_mk {P : Program} {w : World} {K : PySem.W.Frag} {h : Heap} {mg : Str → Option Value} {fa CF CS CC CR RN f1 f2 f3 f4 f5 f6 f7 f8 f9 f10 f11 f12 f13 f14 f15 f16 f17 f18 f19 f20 f21 f22 f23 f24 f25 f26 f27 f28 f29 f30 f31 f32 f33 f34 f35 f36 f37 f38 f39 f40 f41 f42 f43 f44 f45 f46 f47 f48 f49 f50 f51 f52 f53 f54 f55 f56 f57 f58 f59 f60 f61 f62 f63 f64 f65 f66 f67 f68 f69 f70 f71 f72 : Addr} (X : K.In h) (G : h.Ns mainGlobals mg) (hfa : mg "answers" = some (.ref fa))
    {od1 an1 od2 an2 od3 an3 od4 an4 od5 an5 od6 an6 od7 an7 od8 an8 od9 an9 od10 an10 od11 an11 od12 an12 od13 an13 od14 an14 od15 an15 od16 an16 od17 an17 od18 an18 od19 an19 od20 an20 od21 an21 od22 an22 od23 an23 od24 an24 od25 an25 od26 an26 od27 an27 od28 an28 od29 an29 od30 an30 od31 an31 od32 an32 od33 an33 od34 an34 od35 an35 od36 an36 od37 an37 od38 an38 od39 an39 od40 an40 od41 an41 od42 an42 od43 an43 od44 an44 od45 an45 od46 an46 od47 an47 od48 an48 od49 an49 od50 an50 od51 an51 od52 an52 od53 an53 od54 an54 od55 an55 od56 an56 od57 an57 od58 an58 od59 an59 od60 an60 od61 an61 od62 an62 od63 an63 od64 an64 od65 an65 od66 an66 od67 an67 od68 an68 od69 an69 od70 an70 od71 an71 od72 an72 odRN : Option Addr}
    {sl1 sl2 sl3 sl4 sl5 sl6 sl7 sl8 sl9 sl10 sl11 sl12 sl13 sl14 sl15 sl16 sl17 sl18 sl19 sl20 sl21 sl22 sl23 sl24 sl25 sl26 sl27 sl28 sl29 sl30 sl31 sl32 sl33 sl34 sl35 sl36 sl37 sl38 sl39 sl40 sl41 sl42 sl43 sl44 sl45 sl46 sl47 sl48 sl49 sl50 sl51 sl52 sl53 sl54 sl55 sl56 sl57 sl58 sl59 sl60 sl61 sl62 sl63 sl64 sl65 sl66 sl67 sl68 sl69 sl70 sl71 sl72 slRN : Array (Option Value)}
    {oc1 kV1 dc1 pm1 cd1 ct1 oc2 kV2 dc2 pm2 cd2 ct2 oc3 kV3 dc3 pm3 cd3 ct3 oc4 kV4 dc4 pm4 cd4 ct4 oc5 kV5 dc5 pm5 cd5 ct5 oc6 kV6 dc6 pm6 cd6 ct6 oc7 kV7 dc7 pm7 cd7 ct7 oc8 kV8 dc8 pm8 cd8 ct8 oc9 kV9 dc9 pm9 cd9 ct9 oc10 kV10 dc10 pm10 cd10 ct10 oc11 kV11 dc11 pm11 cd11 ct11 oc12 kV12 dc12 pm12 cd12 ct12 oc13 kV13 dc13 pm13 cd13 ct13 oc14 kV14 dc14 pm14 cd14 ct14 oc15 kV15 dc15 pm15 cd15 ct15 oc16 kV16 dc16 pm16 cd16 ct16 oc17 kV17 dc17 pm17 cd17 ct17 oc18 kV18 dc18 pm18 cd18 ct18 oc19 kV19 dc19 pm19 cd19 ct19 oc20 kV20 dc20 pm20 cd20 ct20 oc21 kV21 dc21 pm21 cd21 ct21 oc22 kV22 dc22 pm22 cd22 ct22 oc23 kV23 dc23 pm23 cd23 ct23 oc24 kV24 dc24 pm24 cd24 ct24 oc25 kV25 dc25 pm25 cd25 ct25 oc26 kV26 dc26 pm26 cd26 ct26 oc27 kV27 dc27 pm27 cd27 ct27 oc28 kV28 dc28 pm28 cd28 ct28 oc29 kV29 dc29 pm29 cd29 ct29 oc30 kV30 dc30 pm30 cd30 ct30 oc31 kV31 dc31 pm31 cd31 ct31 oc32 kV32 dc32 pm32 cd32 ct32 oc33 kV33 dc33 pm33 cd33 ct33 oc34 kV34 dc34 pm34 cd34 ct34 oc35 kV35 dc35 pm35 cd35 ct35 oc36 kV36 dc36 pm36 cd36 ct36 oc37 kV37 dc37 pm37 cd37 ct37 oc38 kV38 dc38 pm38 cd38 ct38 oc39 kV39 dc39 pm39 cd39 ct39 oc40 kV40 dc40 pm40 cd40 ct40 oc41 kV41 dc41 pm41 cd41 ct41 oc42 kV42 dc42 pm42 cd42 ct42 oc43 kV43 dc43 pm43 cd43 ct43 oc44 kV44 dc44 pm44 cd44 ct44 oc45 kV45 dc45 pm45 cd45 ct45 oc46 kV46 dc46 pm46 cd46 ct46 oc47 kV47 dc47 pm47 cd47 ct47 oc48 kV48 dc48 pm48 cd48 ct48 oc49 kV49 dc49 pm49 cd49 ct49 oc50 kV50 dc50 pm50 cd50 ct50 oc51 kV51 dc51 pm51 cd51 ct51 oc52 kV52 dc52 pm52 cd52 ct52 oc53 kV53 dc53 pm53 cd53 ct53 oc54 kV54 dc54 pm54 cd54 ct54 oc55 kV55 dc55 pm55 cd55 ct55 oc56 kV56 dc56 pm56 cd56 ct56 oc57 kV57 dc57 pm57 cd57 ct57 oc58 kV58 dc58 pm58 cd58 ct58 oc59 kV59 dc59 pm59 cd59 ct59 oc60 kV60 dc60 pm60 cd60 ct60 oc61 kV61 dc61 pm61 cd61 ct61 oc62 kV62 dc62 pm62 cd62 ct62 oc63 kV63 dc63 pm63 cd63 ct63 oc64 kV64 dc64 pm64 cd64 ct64 oc65 kV65 dc65 pm65 cd65 ct65 oc66 kV66 dc66 pm66 cd66 ct66 oc67 kV67 dc67 pm67 cd67 ct67 oc68 kV68 dc68 pm68 cd68 ct68 oc69 kV69 dc69 pm69 cd69 ct69 oc70 kV70 dc70 pm70 cd70 ct70 oc71 kV71 dc71 pm71 cd71 ct71 oc72 kV72 dc72 pm72 cd72 ct72 : Value}
    {t_WELL t_LESS_THERE t_TRIES_LEFT t_WRONG_LENGTH t_WRONG_KIND t_NO_RIGHT t_NO_TRIES t_NOT_NOW t_NONE_CHOSEN t_WRONG_DATA t_NOT_THERE t_NO_RECORD t_NO_ROOM t_WRONG_PARAMETERS t_NO_SECRET t_IN_USE t_BEHIND_END t_LENGTH_IS t_NO_INSTRUCTION t_NO_CLASS t_FOLDER t_BYTES t_RECORDS t_ROUND t_OUTER_MARK t_KIND_MARK t_NUMBER_MARK t_SIZE_MARK t_NAME_MARK t_SHORT_MARK t_RIGHTS_MARK t_RECORD_WAY t_NO_SHORT t_ROOM_OF_ANY t_MOST_FILES t_MOST_ROOM t_TOP t_TOP_NUMBER t_NONE t_ALWAYS t_HEADER_LENGTH t_NOTHING t_ALL t_MOST_SHORT t_MOST_NAME t_MOST_RIGHT t_NEVER t_BY_NUMBER t_BY_NAME t_BY_PATH t_TELL t_TELL_NOTHING t_SHORT_BASE t_MOST_FIRST t_BY_RECORD_NUMBER t_AT_THE_END t_NOT_A_SHORT t_MOST_SECRETS t_WORD t_PAIR t_MOST_TRIES t_COMMAND t_MOST_BYTES t_REFUSAL tA tB : Tok} {nRN : Nat}
    (aCF : PySem.W.nsIn K mainGlobals "File" = some (some (.ref CF)))
    (aCS : PySem.W.nsIn K mainGlobals "Secret" = some (some (.ref CS)))
    (aCC : PySem.W.nsIn K mainGlobals "Card" = some (some (.ref CC)))
    (aCR : PySem.W.nsIn K mainGlobals "Request" = some (some (.ref CR)))
    (a1 : PySem.W.nsIn K mainGlobals "two_bytes" = some (some (.ref f1)))
    (l1 : K.lookup f1 = some ⟨oc1, od1, .func (PySem.W.fnOf "two_bytes" "two_bytes" (C8.fnArgs s_two_bytes) (C8.fnBody s_two_bytes) (C8.fnScope s_two_bytes) .none kV1 dc1 pm1 an1 cd1 ct1), sl1⟩)
    (c1 : PySem.W.codeIn K cd1 "two_bytes" = true)
    (k1 : PySem.W.keepIn K (.ref f1) = true)
    (a2 : PySem.W.nsIn K mainGlobals "number_of" = some (some (.ref f2)))
    (l2 : K.lookup f2 = some ⟨oc2, od2, .func (PySem.W.fnOf "number_of" "number_of" (C8.fnArgs s_number_of) (C8.fnBody s_number_of) (C8.fnScope s_number_of) .none kV2 dc2 pm2 an2 cd2 ct2), sl2⟩)
    (c2 : PySem.W.codeIn K cd2 "number_of" = true)
    (k2 : PySem.W.keepIn K (.ref f2) = true)
    (a3 : PySem.W.nsIn K mainGlobals "reply" = some (some (.ref f3)))
    (l3 : K.lookup f3 = some ⟨oc3, od3, .func (PySem.W.fnOf "reply" "reply" (C8.fnArgs s_reply) (C8.fnBody s_reply) (C8.fnScope s_reply) .none kV3 dc3 pm3 an3 cd3 ct3), sl3⟩)
    (c3 : PySem.W.codeIn K cd3 "reply" = true)
    (k3 : PySem.W.keepIn K (.ref f3) = true)
    (a4 : PySem.W.nsIn K mainGlobals "only" = some (some (.ref f4)))
    (l4 : K.lookup f4 = some ⟨oc4, od4, .func (PySem.W.fnOf "only" "only" (C8.fnArgs s_only) (C8.fnBody s_only) (C8.fnScope s_only) .none kV4 dc4 pm4 an4 cd4 ct4), sl4⟩)
    (c4 : PySem.W.codeIn K cd4 "only" = true)
    (k4 : PySem.W.keepIn K (.ref f4) = true)
    (a5 : PySem.W.findIn K (.ref CF) "__init__" = some (some (.ref f5)))
    (i5 : PySem.W.isFn K (.ref f5) = true)
    (l5 : K.lookup f5 = some ⟨oc5, od5, .func (PySem.W.fnOf "__init__" "File.__init__" (C8.fnArgs s_File_init) (C8.fnBody s_File_init) (C8.fnScope s_File_init) .none kV5 dc5 pm5 an5 cd5 ct5), sl5⟩)
    (c5 : PySem.W.codeIn K cd5 "File.__init__" = true)
    (k5 : PySem.W.keepIn K (.ref f5) = true)
    (a6 : PySem.W.nsIn K mainGlobals "holds_records" = some (some (.ref f6)))
    (l6 : K.lookup f6 = some ⟨oc6, od6, .func (PySem.W.fnOf "holds_records" "holds_records" (C8.fnArgs s_holds_records) (C8.fnBody s_holds_records) (C8.fnScope s_holds_records) .none kV6 dc6 pm6 an6 cd6 ct6), sl6⟩)
    (c6 : PySem.W.codeIn K cd6 "holds_records" = true)
    (k6 : PySem.W.keepIn K (.ref f6) = true)
    (a7 : PySem.W.nsIn K mainGlobals "room_of" = some (some (.ref f7)))
    (l7 : K.lookup f7 = some ⟨oc7, od7, .func (PySem.W.fnOf "room_of" "room_of" (C8.fnArgs s_room_of) (C8.fnBody s_room_of) (C8.fnScope s_room_of) .none kV7 dc7 pm7 an7 cd7 ct7), sl7⟩)
    (c7 : PySem.W.codeIn K cd7 "room_of" = true)
    (k7 : PySem.W.keepIn K (.ref f7) = true)
    (a8 : PySem.W.nsIn K mainGlobals "field" = some (some (.ref f8)))
    (l8 : K.lookup f8 = some ⟨oc8, od8, .func (PySem.W.fnOf "field" "field" (C8.fnArgs s_field) (C8.fnBody s_field) (C8.fnScope s_field) .none kV8 dc8 pm8 an8 cd8 ct8), sl8⟩)
    (c8 : PySem.W.codeIn K cd8 "field" = true)
    (k8 : PySem.W.keepIn K (.ref f8) = true)
    (a9 : PySem.W.nsIn K mainGlobals "kind_field" = some (some (.ref f9)))
    (l9 : K.lookup f9 = some ⟨oc9, od9, .func (PySem.W.fnOf "kind_field" "kind_field" (C8.fnArgs s_kind_field) (C8.fnBody s_kind_field) (C8.fnScope s_kind_field) .none kV9 dc9 pm9 an9 cd9 ct9), sl9⟩)
    (c9 : PySem.W.codeIn K cd9 "kind_field" = true)
    (k9 : PySem.W.keepIn K (.ref f9) = true)
    (a10 : PySem.W.nsIn K mainGlobals "said_of" = some (some (.ref f10)))
    (l10 : K.lookup f10 = some ⟨oc10, od10, .func (PySem.W.fnOf "said_of" "said_of" (C8.fnArgs s_said_of) (C8.fnBody s_said_of) (C8.fnScope s_said_of) .none kV10 dc10 pm10 an10 cd10 ct10), sl10⟩)
    (c10 : PySem.W.codeIn K cd10 "said_of" = true)
    (k10 : PySem.W.keepIn K (.ref f10) = true)
    (a11 : PySem.W.findIn K (.ref CS) "__init__" = some (some (.ref f11)))
    (i11 : PySem.W.isFn K (.ref f11) = true)
    (l11 : K.lookup f11 = some ⟨oc11, od11, .func (PySem.W.fnOf "__init__" "Secret.__init__" (C8.fnArgs s_Secret_init) (C8.fnBody s_Secret_init) (C8.fnScope s_Secret_init) .none kV11 dc11 pm11 an11 cd11 ct11), sl11⟩)
    (c11 : PySem.W.codeIn K cd11 "Secret.__init__" = true)
    (k11 : PySem.W.keepIn K (.ref f11) = true)
    (a12 : PySem.W.findIn K (.ref CC) "__init__" = some (some (.ref f12)))
    (i12 : PySem.W.isFn K (.ref f12) = true)
    (l12 : K.lookup f12 = some ⟨oc12, od12, .func (PySem.W.fnOf "__init__" "Card.__init__" (C8.fnArgs s_Card_init) (C8.fnBody s_Card_init) (C8.fnScope s_Card_init) .none kV12 dc12 pm12 an12 cd12 ct12), sl12⟩)
    (c12 : PySem.W.codeIn K cd12 "Card.__init__" = true)
    (k12 : PySem.W.keepIn K (.ref f12) = true)
    (a13 : PySem.W.findIn K (.ref CC) "begin_anew" = some (some (.ref f13)))
    (i13 : PySem.W.isFn K (.ref f13) = true)
    (l13 : K.lookup f13 = some ⟨oc13, od13, .func (PySem.W.fnOf "begin_anew" "Card.begin_anew" (C8.fnArgs s_Card_begin_anew) (C8.fnBody s_Card_begin_anew) (C8.fnScope s_Card_begin_anew) .none kV13 dc13 pm13 an13 cd13 ct13), sl13⟩)
    (c13 : PySem.W.codeIn K cd13 "Card.begin_anew" = true)
    (k13 : PySem.W.keepIn K (.ref f13) = true)
    (a14 : PySem.W.findIn K (.ref CC) "chosen_file" = some (some (.ref f14)))
    (i14 : PySem.W.isFn K (.ref f14) = true)
    (l14 : K.lookup f14 = some ⟨oc14, od14, .func (PySem.W.fnOf "chosen_file" "Card.chosen_file" (C8.fnArgs s_Card_chosen_file) (C8.fnBody s_Card_chosen_file) (C8.fnScope s_Card_chosen_file) .none kV14 dc14 pm14 an14 cd14 ct14), sl14⟩)
    (c14 : PySem.W.codeIn K cd14 "Card.chosen_file" = true)
    (k14 : PySem.W.keepIn K (.ref f14) = true)
    (a15 : PySem.W.findIn K (.ref CC) "chosen_folder" = some (some (.ref f15)))
    (i15 : PySem.W.isFn K (.ref f15) = true)
    (l15 : K.lookup f15 = some ⟨oc15, od15, .func (PySem.W.fnOf "chosen_folder" "Card.chosen_folder" (C8.fnArgs s_Card_chosen_folder) (C8.fnBody s_Card_chosen_folder) (C8.fnScope s_Card_chosen_folder) .none kV15 dc15 pm15 an15 cd15 ct15), sl15⟩)
    (c15 : PySem.W.codeIn K cd15 "Card.chosen_folder" = true)
    (k15 : PySem.W.keepIn K (.ref f15) = true)
    (a16 : PySem.W.findIn K (.ref CC) "choose_inner" = some (some (.ref f16)))
    (i16 : PySem.W.isFn K (.ref f16) = true)
    (l16 : K.lookup f16 = some ⟨oc16, od16, .func (PySem.W.fnOf "choose_inner" "Card.choose_inner" (C8.fnArgs s_Card_choose_inner) (C8.fnBody s_Card_choose_inner) (C8.fnScope s_Card_choose_inner) .none kV16 dc16 pm16 an16 cd16 ct16), sl16⟩)
    (c16 : PySem.W.codeIn K cd16 "Card.choose_inner" = true)
    (k16 : PySem.W.keepIn K (.ref f16) = true)
    (a17 : PySem.W.findIn K (.ref CC) "allows" = some (some (.ref f17)))
    (i17 : PySem.W.isFn K (.ref f17) = true)
    (l17 : K.lookup f17 = some ⟨oc17, od17, .func (PySem.W.fnOf "allows" "Card.allows" (C8.fnArgs s_Card_allows) (C8.fnBody s_Card_allows) (C8.fnScope s_Card_allows) .none kV17 dc17 pm17 an17 cd17 ct17), sl17⟩)
    (c17 : PySem.W.codeIn K cd17 "Card.allows" = true)
    (k17 : PySem.W.keepIn K (.ref f17) = true)
    (a18 : PySem.W.findIn K (.ref CC) "inside" = some (some (.ref f18)))
    (i18 : PySem.W.isFn K (.ref f18) = true)
    (l18 : K.lookup f18 = some ⟨oc18, od18, .func (PySem.W.fnOf "inside" "Card.inside" (C8.fnArgs s_Card_inside) (C8.fnBody s_Card_inside) (C8.fnScope s_Card_inside) .none kV18 dc18 pm18 an18 cd18 ct18), sl18⟩)
    (c18 : PySem.W.codeIn K cd18 "Card.inside" = true)
    (k18 : PySem.W.keepIn K (.ref f18) = true)
    (a19 : PySem.W.findIn K (.ref CC) "find_number" = some (some (.ref f19)))
    (i19 : PySem.W.isFn K (.ref f19) = true)
    (l19 : K.lookup f19 = some ⟨oc19, od19, .func (PySem.W.fnOf "find_number" "Card.find_number" (C8.fnArgs s_Card_find_number) (C8.fnBody s_Card_find_number) (C8.fnScope s_Card_find_number) .none kV19 dc19 pm19 an19 cd19 ct19), sl19⟩)
    (c19 : PySem.W.codeIn K cd19 "Card.find_number" = true)
    (k19 : PySem.W.keepIn K (.ref f19) = true)
    (a20 : PySem.W.findIn K (.ref CC) "find_short" = some (some (.ref f20)))
    (i20 : PySem.W.isFn K (.ref f20) = true)
    (l20 : K.lookup f20 = some ⟨oc20, od20, .func (PySem.W.fnOf "find_short" "Card.find_short" (C8.fnArgs s_Card_find_short) (C8.fnBody s_Card_find_short) (C8.fnScope s_Card_find_short) .none kV20 dc20 pm20 an20 cd20 ct20), sl20⟩)
    (c20 : PySem.W.codeIn K cd20 "Card.find_short" = true)
    (k20 : PySem.W.keepIn K (.ref f20) = true)
    (a21 : PySem.W.findIn K (.ref CC) "find_name" = some (some (.ref f21)))
    (i21 : PySem.W.isFn K (.ref f21) = true)
    (l21 : K.lookup f21 = some ⟨oc21, od21, .func (PySem.W.fnOf "find_name" "Card.find_name" (C8.fnArgs s_Card_find_name) (C8.fnBody s_Card_find_name) (C8.fnScope s_Card_find_name) .none kV21 dc21 pm21 an21 cd21 ct21), sl21⟩)
    (c21 : PySem.W.codeIn K cd21 "Card.find_name" = true)
    (k21 : PySem.W.keepIn K (.ref f21) = true)
    (a22 : PySem.W.findIn K (.ref CC) "clashes" = some (some (.ref f22)))
    (i22 : PySem.W.isFn K (.ref f22) = true)
    (l22 : K.lookup f22 = some ⟨oc22, od22, .func (PySem.W.fnOf "clashes" "Card.clashes" (C8.fnArgs s_Card_clashes) (C8.fnBody s_Card_clashes) (C8.fnScope s_Card_clashes) .none kV22 dc22 pm22 an22 cd22 ct22), sl22⟩)
    (c22 : PySem.W.codeIn K cd22 "Card.clashes" = true)
    (k22 : PySem.W.keepIn K (.ref f22) = true)
    (a23 : PySem.W.findIn K (.ref CC) "free_inner" = some (some (.ref f23)))
    (i23 : PySem.W.isFn K (.ref f23) = true)
    (l23 : K.lookup f23 = some ⟨oc23, od23, .func (PySem.W.fnOf "free_inner" "Card.free_inner" (C8.fnArgs s_Card_free_inner) (C8.fnBody s_Card_free_inner) (C8.fnScope s_Card_free_inner) .none kV23 dc23 pm23 an23 cd23 ct23), sl23⟩)
    (c23 : PySem.W.codeIn K cd23 "Card.free_inner" = true)
    (k23 : PySem.W.keepIn K (.ref f23) = true)
    (a24 : PySem.W.findIn K (.ref CC) "has_room_for" = some (some (.ref f24)))
    (i24 : PySem.W.isFn K (.ref f24) = true)
    (l24 : K.lookup f24 = some ⟨oc24, od24, .func (PySem.W.fnOf "has_room_for" "Card.has_room_for" (C8.fnArgs s_Card_has_room_for) (C8.fnBody s_Card_has_room_for) (C8.fnScope s_Card_has_room_for) .none kV24 dc24 pm24 an24 cd24 ct24), sl24⟩)
    (c24 : PySem.W.codeIn K cd24 "Card.has_room_for" = true)
    (k24 : PySem.W.keepIn K (.ref f24) = true)
    (a25 : PySem.W.findIn K (.ref CC) "put_in" = some (some (.ref f25)))
    (i25 : PySem.W.isFn K (.ref f25) = true)
    (l25 : K.lookup f25 = some ⟨oc25, od25, .func (PySem.W.fnOf "put_in" "Card.put_in" (C8.fnArgs s_Card_put_in) (C8.fnBody s_Card_put_in) (C8.fnScope s_Card_put_in) .none kV25 dc25 pm25 an25 cd25 ct25), sl25⟩)
    (c25 : PySem.W.codeIn K cd25 "Card.put_in" = true)
    (k25 : PySem.W.keepIn K (.ref f25) = true)
    (a26 : PySem.W.findIn K (.ref CC) "take_out" = some (some (.ref f26)))
    (i26 : PySem.W.isFn K (.ref f26) = true)
    (l26 : K.lookup f26 = some ⟨oc26, od26, .func (PySem.W.fnOf "take_out" "Card.take_out" (C8.fnArgs s_Card_take_out) (C8.fnBody s_Card_take_out) (C8.fnScope s_Card_take_out) .none kV26 dc26 pm26 an26 cd26 ct26), sl26⟩)
    (c26 : PySem.W.codeIn K cd26 "Card.take_out" = true)
    (k26 : PySem.W.keepIn K (.ref f26) = true)
    (a27 : PySem.W.findIn K (.ref CR) "__init__" = some (some (.ref f27)))
    (i27 : PySem.W.isFn K (.ref f27) = true)
    (l27 : K.lookup f27 = some ⟨oc27, od27, .func (PySem.W.fnOf "__init__" "Request.__init__" (C8.fnArgs s_Request_init) (C8.fnBody s_Request_init) (C8.fnScope s_Request_init) .none kV27 dc27 pm27 an27 cd27 ct27), sl27⟩)
    (c27 : PySem.W.codeIn K cd27 "Request.__init__" = true)
    (k27 : PySem.W.keepIn K (.ref f27) = true)
    (a28 : PySem.W.findIn K (.ref CR) "is_plain" = some (some (.ref f28)))
    (i28 : PySem.W.isFn K (.ref f28) = true)
    (l28 : K.lookup f28 = some ⟨oc28, od28, .func (PySem.W.fnOf "is_plain" "Request.is_plain" (C8.fnArgs s_Request_is_plain) (C8.fnBody s_Request_is_plain) (C8.fnScope s_Request_is_plain) .none kV28 dc28 pm28 an28 cd28 ct28), sl28⟩)
    (c28 : PySem.W.codeIn K cd28 "Request.is_plain" = true)
    (k28 : PySem.W.keepIn K (.ref f28) = true)
    (a29 : PySem.W.findIn K (.ref CR) "brings" = some (some (.ref f29)))
    (i29 : PySem.W.isFn K (.ref f29) = true)
    (l29 : K.lookup f29 = some ⟨oc29, od29, .func (PySem.W.fnOf "brings" "Request.brings" (C8.fnArgs s_Request_brings) (C8.fnBody s_Request_brings) (C8.fnScope s_Request_brings) .none kV29 dc29 pm29 an29 cd29 ct29), sl29⟩)
    (c29 : PySem.W.codeIn K cd29 "Request.brings" = true)
    (k29 : PySem.W.keepIn K (.ref f29) = true)
    (a30 : PySem.W.nsIn K mainGlobals "amount" = some (some (.ref f30)))
    (l30 : K.lookup f30 = some ⟨oc30, od30, .func (PySem.W.fnOf "amount" "amount" (C8.fnArgs s_amount) (C8.fnBody s_amount) (C8.fnScope s_amount) .none kV30 dc30 pm30 an30 cd30 ct30), sl30⟩)
    (c30 : PySem.W.codeIn K cd30 "amount" = true)
    (k30 : PySem.W.keepIn K (.ref f30) = true)
    (a31 : PySem.W.nsIn K mainGlobals "read_request" = some (some (.ref f31)))
    (l31 : K.lookup f31 = some ⟨oc31, od31, .func (PySem.W.fnOf "read_request" "read_request" (C8.fnArgs s_read_request) (C8.fnBody s_read_request) (C8.fnScope s_read_request) .none kV31 dc31 pm31 an31 cd31 ct31), sl31⟩)
    (c31 : PySem.W.codeIn K cd31 "read_request" = true)
    (k31 : PySem.W.keepIn K (.ref f31) = true)
    (a32 : PySem.W.nsIn K mainGlobals "fields_of" = some (some (.ref f32)))
    (l32 : K.lookup f32 = some ⟨oc32, od32, .func (PySem.W.fnOf "fields_of" "fields_of" (C8.fnArgs s_fields_of) (C8.fnBody s_fields_of) (C8.fnScope s_fields_of) .none kV32 dc32 pm32 an32 cd32 ct32), sl32⟩)
    (c32 : PySem.W.codeIn K cd32 "fields_of" = true)
    (k32 : PySem.W.keepIn K (.ref f32) = true)
    (a33 : PySem.W.nsIn K mainGlobals "inner_fields" = some (some (.ref f33)))
    (l33 : K.lookup f33 = some ⟨oc33, od33, .func (PySem.W.fnOf "inner_fields" "inner_fields" (C8.fnArgs s_inner_fields) (C8.fnBody s_inner_fields) (C8.fnScope s_inner_fields) .none kV33 dc33 pm33 an33 cd33 ct33), sl33⟩)
    (c33 : PySem.W.codeIn K cd33 "inner_fields" = true)
    (k33 : PySem.W.keepIn K (.ref f33) = true)
    (a34 : PySem.W.nsIn K mainGlobals "kind_is_right" = some (some (.ref f34)))
    (l34 : K.lookup f34 = some ⟨oc34, od34, .func (PySem.W.fnOf "kind_is_right" "kind_is_right" (C8.fnArgs s_kind_is_right) (C8.fnBody s_kind_is_right) (C8.fnScope s_kind_is_right) .none kV34 dc34 pm34 an34 cd34 ct34), sl34⟩)
    (c34 : PySem.W.codeIn K cd34 "kind_is_right" = true)
    (k34 : PySem.W.keepIn K (.ref f34) = true)
    (a35 : PySem.W.nsIn K mainGlobals "right_is_right" = some (some (.ref f35)))
    (l35 : K.lookup f35 = some ⟨oc35, od35, .func (PySem.W.fnOf "right_is_right" "right_is_right" (C8.fnArgs s_right_is_right) (C8.fnBody s_right_is_right) (C8.fnScope s_right_is_right) .none kV35 dc35 pm35 an35 cd35 ct35), sl35⟩)
    (c35 : PySem.W.codeIn K cd35 "right_is_right" = true)
    (k35 : PySem.W.keepIn K (.ref f35) = true)
    (a36 : PySem.W.nsIn K mainGlobals "content_is_right" = some (some (.ref f36)))
    (l36 : K.lookup f36 = some ⟨oc36, od36, .func (PySem.W.fnOf "content_is_right" "content_is_right" (C8.fnArgs s_content_is_right) (C8.fnBody s_content_is_right) (C8.fnScope s_content_is_right) .none kV36 dc36 pm36 an36 cd36 ct36), sl36⟩)
    (c36 : PySem.W.codeIn K cd36 "content_is_right" = true)
    (k36 : PySem.W.keepIn K (.ref f36) = true)
    (a37 : PySem.W.nsIn K mainGlobals "marks_in_order" = some (some (.ref f37)))
    (l37 : K.lookup f37 = some ⟨oc37, od37, .func (PySem.W.fnOf "marks_in_order" "marks_in_order" (C8.fnArgs s_marks_in_order) (C8.fnBody s_marks_in_order) (C8.fnScope s_marks_in_order) .none kV37 dc37 pm37 an37 cd37 ct37), sl37⟩)
    (c37 : PySem.W.codeIn K cd37 "marks_in_order" = true)
    (k37 : PySem.W.keepIn K (.ref f37) = true)
    (a38 : PySem.W.nsIn K mainGlobals "file_of" = some (some (.ref f38)))
    (l38 : K.lookup f38 = some ⟨oc38, od38, .func (PySem.W.fnOf "file_of" "file_of" (C8.fnArgs s_file_of) (C8.fnBody s_file_of) (C8.fnScope s_file_of) .none kV38 dc38 pm38 an38 cd38 ct38), sl38⟩)
    (c38 : PySem.W.codeIn K cd38 "file_of" = true)
    (k38 : PySem.W.keepIn K (.ref f38) = true)
    (a39 : PySem.W.nsIn K mainGlobals "wanted_file" = some (some (.ref f39)))
    (l39 : K.lookup f39 = some ⟨oc39, od39, .func (PySem.W.fnOf "wanted_file" "wanted_file" (C8.fnArgs s_wanted_file) (C8.fnBody s_wanted_file) (C8.fnScope s_wanted_file) .none kV39 dc39 pm39 an39 cd39 ct39), sl39⟩)
    (c39 : PySem.W.codeIn K cd39 "wanted_file" = true)
    (k39 : PySem.W.keepIn K (.ref f39) = true)
    (a40 : PySem.W.nsIn K mainGlobals "find_near" = some (some (.ref f40)))
    (l40 : K.lookup f40 = some ⟨oc40, od40, .func (PySem.W.fnOf "find_near" "find_near" (C8.fnArgs s_find_near) (C8.fnBody s_find_near) (C8.fnScope s_find_near) .none kV40 dc40 pm40 an40 cd40 ct40), sl40⟩)
    (c40 : PySem.W.codeIn K cd40 "find_near" = true)
    (k40 : PySem.W.keepIn K (.ref f40) = true)
    (a41 : PySem.W.nsIn K mainGlobals "find_path" = some (some (.ref f41)))
    (l41 : K.lookup f41 = some ⟨oc41, od41, .func (PySem.W.fnOf "find_path" "find_path" (C8.fnArgs s_find_path) (C8.fnBody s_find_path) (C8.fnScope s_find_path) .none kV41 dc41 pm41 an41 cd41 ct41), sl41⟩)
    (c41 : PySem.W.codeIn K cd41 "find_path" = true)
    (k41 : PySem.W.keepIn K (.ref f41) = true)
    (a42 : PySem.W.nsIn K mainGlobals "choice_status" = some (some (.ref f42)))
    (l42 : K.lookup f42 = some ⟨oc42, od42, .func (PySem.W.fnOf "choice_status" "choice_status" (C8.fnArgs s_choice_status) (C8.fnBody s_choice_status) (C8.fnScope s_choice_status) .none kV42 dc42 pm42 an42 cd42 ct42), sl42⟩)
    (c42 : PySem.W.codeIn K cd42 "choice_status" = true)
    (k42 : PySem.W.keepIn K (.ref f42) = true)
    (a43 : PySem.W.nsIn K mainGlobals "find_choice" = some (some (.ref f43)))
    (l43 : K.lookup f43 = some ⟨oc43, od43, .func (PySem.W.fnOf "find_choice" "find_choice" (C8.fnArgs s_find_choice) (C8.fnBody s_find_choice) (C8.fnScope s_find_choice) .none kV43 dc43 pm43 an43 cd43 ct43), sl43⟩)
    (c43 : PySem.W.codeIn K cd43 "find_choice" = true)
    (k43 : PySem.W.keepIn K (.ref f43) = true)
    (a44 : PySem.W.nsIn K mainGlobals "choose" = some (some (.ref f44)))
    (l44 : K.lookup f44 = some ⟨oc44, od44, .func (PySem.W.fnOf "choose" "choose" (C8.fnArgs s_choose) (C8.fnBody s_choose) (C8.fnScope s_choose) .none kV44 dc44 pm44 an44 cd44 ct44), sl44⟩)
    (c44 : PySem.W.codeIn K cd44 "choose" = true)
    (k44 : PySem.W.keepIn K (.ref f44) = true)
    (a45 : PySem.W.nsIn K mainGlobals "aim" = some (some (.ref f45)))
    (l45 : K.lookup f45 = some ⟨oc45, od45, .func (PySem.W.fnOf "aim" "aim" (C8.fnArgs s_aim) (C8.fnBody s_aim) (C8.fnScope s_aim) .none kV45 dc45 pm45 an45 cd45 ct45), sl45⟩)
    (c45 : PySem.W.codeIn K cd45 "aim" = true)
    (k45 : PySem.W.keepIn K (.ref f45) = true)
    (a46 : PySem.W.nsIn K mainGlobals "aim_at_bytes" = some (some (.ref f46)))
    (l46 : K.lookup f46 = some ⟨oc46, od46, .func (PySem.W.fnOf "aim_at_bytes" "aim_at_bytes" (C8.fnArgs s_aim_at_bytes) (C8.fnBody s_aim_at_bytes) (C8.fnScope s_aim_at_bytes) .none kV46 dc46 pm46 an46 cd46 ct46), sl46⟩)
    (c46 : PySem.W.codeIn K cd46 "aim_at_bytes" = true)
    (k46 : PySem.W.keepIn K (.ref f46) = true)
    (a47 : PySem.W.nsIn K mainGlobals "place_of" = some (some (.ref f47)))
    (l47 : K.lookup f47 = some ⟨oc47, od47, .func (PySem.W.fnOf "place_of" "place_of" (C8.fnArgs s_place_of) (C8.fnBody s_place_of) (C8.fnScope s_place_of) .none kV47 dc47 pm47 an47 cd47 ct47), sl47⟩)
    (c47 : PySem.W.codeIn K cd47 "place_of" = true)
    (k47 : PySem.W.keepIn K (.ref f47) = true)
    (a48 : PySem.W.nsIn K mainGlobals "is_behind_end" = some (some (.ref f48)))
    (l48 : K.lookup f48 = some ⟨oc48, od48, .func (PySem.W.fnOf "is_behind_end" "is_behind_end" (C8.fnArgs s_is_behind_end) (C8.fnBody s_is_behind_end) (C8.fnScope s_is_behind_end) .none kV48 dc48 pm48 an48 cd48 ct48), sl48⟩)
    (c48 : PySem.W.codeIn K cd48 "is_behind_end" = true)
    (k48 : PySem.W.keepIn K (.ref f48) = true)
    (a49 : PySem.W.nsIn K mainGlobals "read_bytes" = some (some (.ref f49)))
    (l49 : K.lookup f49 = some ⟨oc49, od49, .func (PySem.W.fnOf "read_bytes" "read_bytes" (C8.fnArgs s_read_bytes) (C8.fnBody s_read_bytes) (C8.fnScope s_read_bytes) .none kV49 dc49 pm49 an49 cd49 ct49), sl49⟩)
    (c49 : PySem.W.codeIn K cd49 "read_bytes" = true)
    (k49 : PySem.W.keepIn K (.ref f49) = true)
    (a50 : PySem.W.nsIn K mainGlobals "write_bytes" = some (some (.ref f50)))
    (l50 : K.lookup f50 = some ⟨oc50, od50, .func (PySem.W.fnOf "write_bytes" "write_bytes" (C8.fnArgs s_write_bytes) (C8.fnBody s_write_bytes) (C8.fnScope s_write_bytes) .none kV50 dc50 pm50 an50 cd50 ct50), sl50⟩)
    (c50 : PySem.W.codeIn K cd50 "write_bytes" = true)
    (k50 : PySem.W.keepIn K (.ref f50) = true)
    (a51 : PySem.W.nsIn K mainGlobals "may_make" = some (some (.ref f51)))
    (l51 : K.lookup f51 = some ⟨oc51, od51, .func (PySem.W.fnOf "may_make" "may_make" (C8.fnArgs s_may_make) (C8.fnBody s_may_make) (C8.fnScope s_may_make) .none kV51 dc51 pm51 an51 cd51 ct51), sl51⟩)
    (c51 : PySem.W.codeIn K cd51 "may_make" = true)
    (k51 : PySem.W.keepIn K (.ref f51) = true)
    (a52 : PySem.W.nsIn K mainGlobals "make_file" = some (some (.ref f52)))
    (l52 : K.lookup f52 = some ⟨oc52, od52, .func (PySem.W.fnOf "make_file" "make_file" (C8.fnArgs s_make_file) (C8.fnBody s_make_file) (C8.fnScope s_make_file) .none kV52 dc52 pm52 an52 cd52 ct52), sl52⟩)
    (c52 : PySem.W.codeIn K cd52 "make_file" = true)
    (k52 : PySem.W.keepIn K (.ref f52) = true)
    (a53 : PySem.W.nsIn K mainGlobals "take_away" = some (some (.ref f53)))
    (l53 : K.lookup f53 = some ⟨oc53, od53, .func (PySem.W.fnOf "take_away" "take_away" (C8.fnArgs s_take_away) (C8.fnBody s_take_away) (C8.fnScope s_take_away) .none kV53 dc53 pm53 an53 cd53 ct53), sl53⟩)
    (c53 : PySem.W.codeIn K cd53 "take_away" = true)
    (k53 : PySem.W.keepIn K (.ref f53) = true)
    (a54 : PySem.W.nsIn K mainGlobals "activate" = some (some (.ref f54)))
    (l54 : K.lookup f54 = some ⟨oc54, od54, .func (PySem.W.fnOf "activate" "activate" (C8.fnArgs s_activate) (C8.fnBody s_activate) (C8.fnScope s_activate) .none kV54 dc54 pm54 an54 cd54 ct54), sl54⟩)
    (c54 : PySem.W.codeIn K cd54 "activate" = true)
    (k54 : PySem.W.keepIn K (.ref f54) = true)
    (a55 : PySem.W.nsIn K mainGlobals "aim_at_records" = some (some (.ref f55)))
    (l55 : K.lookup f55 = some ⟨oc55, od55, .func (PySem.W.fnOf "aim_at_records" "aim_at_records" (C8.fnArgs s_aim_at_records) (C8.fnBody s_aim_at_records) (C8.fnScope s_aim_at_records) .none kV55 dc55 pm55 an55 cd55 ct55), sl55⟩)
    (c55 : PySem.W.codeIn K cd55 "aim_at_records" = true)
    (k55 : PySem.W.keepIn K (.ref f55) = true)
    (a56 : PySem.W.nsIn K mainGlobals "is_there" = some (some (.ref f56)))
    (l56 : K.lookup f56 = some ⟨oc56, od56, .func (PySem.W.fnOf "is_there" "is_there" (C8.fnArgs s_is_there) (C8.fnBody s_is_there) (C8.fnScope s_is_there) .none kV56 dc56 pm56 an56 cd56 ct56), sl56⟩)
    (c56 : PySem.W.codeIn K cd56 "is_there" = true)
    (k56 : PySem.W.keepIn K (.ref f56) = true)
    (a57 : PySem.W.nsIn K mainGlobals "read_record" = some (some (.ref f57)))
    (l57 : K.lookup f57 = some ⟨oc57, od57, .func (PySem.W.fnOf "read_record" "read_record" (C8.fnArgs s_read_record) (C8.fnBody s_read_record) (C8.fnScope s_read_record) .none kV57 dc57 pm57 an57 cd57 ct57), sl57⟩)
    (c57 : PySem.W.codeIn K cd57 "read_record" = true)
    (k57 : PySem.W.keepIn K (.ref f57) = true)
    (a58 : PySem.W.nsIn K mainGlobals "write_record" = some (some (.ref f58)))
    (l58 : K.lookup f58 = some ⟨oc58, od58, .func (PySem.W.fnOf "write_record" "write_record" (C8.fnArgs s_write_record) (C8.fnBody s_write_record) (C8.fnScope s_write_record) .none kV58 dc58 pm58 an58 cd58 ct58), sl58⟩)
    (c58 : PySem.W.codeIn K cd58 "write_record" = true)
    (k58 : PySem.W.keepIn K (.ref f58) = true)
    (a59 : PySem.W.nsIn K mainGlobals "add_record" = some (some (.ref f59)))
    (l59 : K.lookup f59 = some ⟨oc59, od59, .func (PySem.W.fnOf "add_record" "add_record" (C8.fnArgs s_add_record) (C8.fnBody s_add_record) (C8.fnScope s_add_record) .none kV59 dc59 pm59 an59 cd59 ct59), sl59⟩)
    (c59 : PySem.W.codeIn K cd59 "add_record" = true)
    (k59 : PySem.W.keepIn K (.ref f59) = true)
    (a60 : PySem.W.nsIn K mainGlobals "aim_at_secret" = some (some (.ref f60)))
    (l60 : K.lookup f60 = some ⟨oc60, od60, .func (PySem.W.fnOf "aim_at_secret" "aim_at_secret" (C8.fnArgs s_aim_at_secret) (C8.fnBody s_aim_at_secret) (C8.fnScope s_aim_at_secret) .none kV60 dc60 pm60 an60 cd60 ct60), sl60⟩)
    (c60 : PySem.W.codeIn K cd60 "aim_at_secret" = true)
    (k60 : PySem.W.keepIn K (.ref f60) = true)
    (a61 : PySem.W.nsIn K mainGlobals "aim_at_known" = some (some (.ref f61)))
    (l61 : K.lookup f61 = some ⟨oc61, od61, .func (PySem.W.fnOf "aim_at_known" "aim_at_known" (C8.fnArgs s_aim_at_known) (C8.fnBody s_aim_at_known) (C8.fnScope s_aim_at_known) .none kV61 dc61 pm61 an61 cd61 ct61), sl61⟩)
    (c61 : PySem.W.codeIn K cd61 "aim_at_known" = true)
    (k61 : PySem.W.keepIn K (.ref f61) = true)
    (a62 : PySem.W.nsIn K mainGlobals "told_wrong" = some (some (.ref f62)))
    (l62 : K.lookup f62 = some ⟨oc62, od62, .func (PySem.W.fnOf "told_wrong" "told_wrong" (C8.fnArgs s_told_wrong) (C8.fnBody s_told_wrong) (C8.fnScope s_told_wrong) .none kV62 dc62 pm62 an62 cd62 ct62), sl62⟩)
    (c62 : PySem.W.codeIn K cd62 "told_wrong" = true)
    (k62 : PySem.W.keepIn K (.ref f62) = true)
    (a63 : PySem.W.nsIn K mainGlobals "renew" = some (some (.ref f63)))
    (l63 : K.lookup f63 = some ⟨oc63, od63, .func (PySem.W.fnOf "renew" "renew" (C8.fnArgs s_renew) (C8.fnBody s_renew) (C8.fnScope s_renew) .none kV63 dc63 pm63 an63 cd63 ct63), sl63⟩)
    (c63 : PySem.W.codeIn K cd63 "renew" = true)
    (k63 : PySem.W.keepIn K (.ref f63) = true)
    (a64 : PySem.W.nsIn K mainGlobals "standing" = some (some (.ref f64)))
    (l64 : K.lookup f64 = some ⟨oc64, od64, .func (PySem.W.fnOf "standing" "standing" (C8.fnArgs s_standing) (C8.fnBody s_standing) (C8.fnScope s_standing) .none kV64 dc64 pm64 an64 cd64 ct64), sl64⟩)
    (c64 : PySem.W.codeIn K cd64 "standing" = true)
    (k64 : PySem.W.keepIn K (.ref f64) = true)
    (a65 : PySem.W.nsIn K mainGlobals "tell_secret" = some (some (.ref f65)))
    (l65 : K.lookup f65 = some ⟨oc65, od65, .func (PySem.W.fnOf "tell_secret" "tell_secret" (C8.fnArgs s_tell_secret) (C8.fnBody s_tell_secret) (C8.fnScope s_tell_secret) .none kV65 dc65 pm65 an65 cd65 ct65), sl65⟩)
    (c65 : PySem.W.codeIn K cd65 "tell_secret" = true)
    (k65 : PySem.W.keepIn K (.ref f65) = true)
    (a66 : PySem.W.nsIn K mainGlobals "change_secret" = some (some (.ref f66)))
    (l66 : K.lookup f66 = some ⟨oc66, od66, .func (PySem.W.fnOf "change_secret" "change_secret" (C8.fnArgs s_change_secret) (C8.fnBody s_change_secret) (C8.fnScope s_change_secret) .none kV66 dc66 pm66 an66 cd66 ct66), sl66⟩)
    (c66 : PySem.W.codeIn K cd66 "change_secret" = true)
    (k66 : PySem.W.keepIn K (.ref f66) = true)
    (a67 : PySem.W.nsIn K mainGlobals "free_secret" = some (some (.ref f67)))
    (l67 : K.lookup f67 = some ⟨oc67, od67, .func (PySem.W.fnOf "free_secret" "free_secret" (C8.fnArgs s_free_secret) (C8.fnBody s_free_secret) (C8.fnScope s_free_secret) .none kV67 dc67 pm67 an67 cd67 ct67), sl67⟩)
    (c67 : PySem.W.codeIn K cd67 "free_secret" = true)
    (k67 : PySem.W.keepIn K (.ref f67) = true)
    (a68 : PySem.W.nsIn K mainGlobals "make_secret" = some (some (.ref f68)))
    (l68 : K.lookup f68 = some ⟨oc68, od68, .func (PySem.W.fnOf "make_secret" "make_secret" (C8.fnArgs s_make_secret) (C8.fnBody s_make_secret) (C8.fnScope s_make_secret) .none kV68 dc68 pm68 an68 cd68 ct68), sl68⟩)
    (c68 : PySem.W.codeIn K cd68 "make_secret" = true)
    (k68 : PySem.W.keepIn K (.ref f68) = true)
    (a69 : PySem.W.nsIn K mainGlobals "obey" = some (some (.ref f69)))
    (l69 : K.lookup f69 = some ⟨oc69, od69, .func (PySem.W.fnOf "obey" "obey" (C8.fnArgs s_obey) (C8.fnBody s_obey) (C8.fnScope s_obey) .none kV69 dc69 pm69 an69 cd69 ct69), sl69⟩)
    (c69 : PySem.W.codeIn K cd69 "obey" = true)
    (k69 : PySem.W.keepIn K (.ref f69) = true)
    (a70 : PySem.W.nsIn K mainGlobals "command" = some (some (.ref f70)))
    (l70 : K.lookup f70 = some ⟨oc70, od70, .func (PySem.W.fnOf "command" "command" (C8.fnArgs s_command) (C8.fnBody s_command) (C8.fnScope s_command) .none kV70 dc70 pm70 an70 cd70 ct70), sl70⟩)
    (c70 : PySem.W.codeIn K cd70 "command" = true)
    (k70 : PySem.W.keepIn K (.ref f70) = true)
    (a71 : PySem.W.nsIn K mainGlobals "reset" = some (some (.ref f71)))
    (l71 : K.lookup f71 = some ⟨oc71, od71, .func (PySem.W.fnOf "reset" "reset" (C8.fnArgs s_reset) (C8.fnBody s_reset) (C8.fnScope s_reset) .none kV71 dc71 pm71 an71 cd71 ct71), sl71⟩)
    (c71 : PySem.W.codeIn K cd71 "reset" = true)
    (k71 : PySem.W.keepIn K (.ref f71) = true)
    (a72 : PySem.W.nsIn K mainGlobals "answers" = some (some (.ref f72)))
    (l72 : K.lookup f72 = some ⟨oc72, od72, .func (PySem.W.fnOf "answers" "answers" (C8.fnArgs s_answers) (C8.fnBody s_answers) (C8.fnScope s_answers) .none kV72 dc72 pm72 an72 cd72 ct72), sl72⟩)
    (c72 : PySem.W.codeIn K cd72 "answers" = true)
    (k72 : PySem.W.keepIn K (.ref f72) = true)
    (pgCF : PySem.W.plainGet K CF Str.empty = true)
    (hdCF : PySem.W.hasDictIn K CF = true)
    (poCF : PySem.W.plainOver K CF = true)
    (saCF : PySem.W.findIn K (.ref CF) "__setattr__" = some (some (.builtin "object.__setattr__")))
    (mkCF : PySem.W.makesIn K CF = true)
    (kcCF : PySem.W.keepIn K (.ref CF) = true)
    (pgCS : PySem.W.plainGet K CS Str.empty = true)
    (hdCS : PySem.W.hasDictIn K CS = true)
    (poCS : PySem.W.plainOver K CS = true)
    (saCS : PySem.W.findIn K (.ref CS) "__setattr__" = some (some (.builtin "object.__setattr__")))
    (mkCS : PySem.W.makesIn K CS = true)
    (kcCS : PySem.W.keepIn K (.ref CS) = true)
    (pgCC : PySem.W.plainGet K CC Str.empty = true)
    (hdCC : PySem.W.hasDictIn K CC = true)
    (poCC : PySem.W.plainOver K CC = true)
    (saCC : PySem.W.findIn K (.ref CC) "__setattr__" = some (some (.builtin "object.__setattr__")))
    (mkCC : PySem.W.makesIn K CC = true)
    (kcCC : PySem.W.keepIn K (.ref CC) = true)
    (pgCR : PySem.W.plainGet K CR Str.empty = true)
    (hdCR : PySem.W.hasDictIn K CR = true)
    (poCR : PySem.W.plainOver K CR = true)
    (saCR : PySem.W.findIn K (.ref CR) "__setattr__" = some (some (.builtin "object.__setattr__")))
    (mkCR : PySem.W.makesIn K CR = true)
    (kcCR : PySem.W.keepIn K (.ref CR) = true)
    (nCF_kind : PySem.W.findIn K (.ref CF) "kind" = some none)
    (nCF_number : PySem.W.findIn K (.ref CF) "number" = some none)
    (nCF_short : PySem.W.findIn K (.ref CF) "short" = some none)
    (nCF_name : PySem.W.findIn K (.ref CF) "name" = some none)
    (nCF_reading : PySem.W.findIn K (.ref CF) "reading" = some none)
    (nCF_writing : PySem.W.findIn K (.ref CF) "writing" = some none)
    (nCF_size : PySem.W.findIn K (.ref CF) "size" = some none)
    (nCF_content : PySem.W.findIn K (.ref CF) "content" = some none)
    (nCF_length : PySem.W.findIn K (.ref CF) "length" = some none)
    (nCF_most : PySem.W.findIn K (.ref CF) "most" = some none)
    (nCF_records : PySem.W.findIn K (.ref CF) "records" = some none)
    (nCF_folder : PySem.W.findIn K (.ref CF) "folder" = some none)
    (nCS_word : PySem.W.findIn K (.ref CS) "word" = some none)
    (nCS_freer : PySem.W.findIn K (.ref CS) "freer" = some none)
    (nCS_most_tries : PySem.W.findIn K (.ref CS) "most_tries" = some none)
    (nCS_tries : PySem.W.findIn K (.ref CS) "tries" = some none)
    (nCS_freer_tries : PySem.W.findIn K (.ref CS) "freer_tries" = some none)
    (nCS_told : PySem.W.findIn K (.ref CS) "told" = some none)
    (nCC_slots : PySem.W.findIn K (.ref CC) "slots" = some none)
    (nCC_secrets : PySem.W.findIn K (.ref CC) "secrets" = some none)
    (nCC_active : PySem.W.findIn K (.ref CC) "active" = some none)
    (nCC_folder : PySem.W.findIn K (.ref CC) "folder" = some none)
    (nCC_file : PySem.W.findIn K (.ref CC) "file" = some none)
    (nCR_group : PySem.W.findIn K (.ref CR) "group" = some none)
    (nCR_instruction : PySem.W.findIn K (.ref CR) "instruction" = some none)
    (nCR_first : PySem.W.findIn K (.ref CR) "first" = some none)
    (nCR_second : PySem.W.findIn K (.ref CR) "second" = some none)
    (nCR_data : PySem.W.findIn K (.ref CR) "data" = some none)
    (nCR_asked : PySem.W.findIn K (.ref CR) "asked" = some none)
    (z_len : PySem.W.nsIn K mainGlobals "len" = some none)
    (z_enumerate : PySem.W.nsIn K mainGlobals "enumerate" = some none)
    (z_range : PySem.W.nsIn K mainGlobals "range" = some none)
    (m_WELL : PySem.W.nsIn K mainGlobals "WELL" = some (some (.int (36864) t_WELL)))
    (m_LESS_THERE : PySem.W.nsIn K mainGlobals "LESS_THERE" = some (some (.int (25218) t_LESS_THERE)))
    (m_TRIES_LEFT : PySem.W.nsIn K mainGlobals "TRIES_LEFT" = some (some (.int (25536) t_TRIES_LEFT)))
    (m_WRONG_LENGTH : PySem.W.nsIn K mainGlobals "WRONG_LENGTH" = some (some (.int (26368) t_WRONG_LENGTH)))
    (m_WRONG_KIND : PySem.W.nsIn K mainGlobals "WRONG_KIND" = some (some (.int (27009) t_WRONG_KIND)))
    (m_NO_RIGHT : PySem.W.nsIn K mainGlobals "NO_RIGHT" = some (some (.int (27010) t_NO_RIGHT)))
    (m_NO_TRIES : PySem.W.nsIn K mainGlobals "NO_TRIES" = some (some (.int (27011) t_NO_TRIES)))
    (m_NOT_NOW : PySem.W.nsIn K mainGlobals "NOT_NOW" = some (some (.int (27013) t_NOT_NOW)))
    (m_NONE_CHOSEN : PySem.W.nsIn K mainGlobals "NONE_CHOSEN" = some (some (.int (27014) t_NONE_CHOSEN)))
    (m_WRONG_DATA : PySem.W.nsIn K mainGlobals "WRONG_DATA" = some (some (.int (27264) t_WRONG_DATA)))
    (m_NOT_THERE : PySem.W.nsIn K mainGlobals "NOT_THERE" = some (some (.int (27266) t_NOT_THERE)))
    (m_NO_RECORD : PySem.W.nsIn K mainGlobals "NO_RECORD" = some (some (.int (27267) t_NO_RECORD)))
    (m_NO_ROOM : PySem.W.nsIn K mainGlobals "NO_ROOM" = some (some (.int (27268) t_NO_ROOM)))
    (m_WRONG_PARAMETERS : PySem.W.nsIn K mainGlobals "WRONG_PARAMETERS" = some (some (.int (27270) t_WRONG_PARAMETERS)))
    (m_NO_SECRET : PySem.W.nsIn K mainGlobals "NO_SECRET" = some (some (.int (27272) t_NO_SECRET)))
    (m_IN_USE : PySem.W.nsIn K mainGlobals "IN_USE" = some (some (.int (27273) t_IN_USE)))
    (m_BEHIND_END : PySem.W.nsIn K mainGlobals "BEHIND_END" = some (some (.int (27392) t_BEHIND_END)))
    (m_LENGTH_IS : PySem.W.nsIn K mainGlobals "LENGTH_IS" = some (some (.int (27648) t_LENGTH_IS)))
    (m_NO_INSTRUCTION : PySem.W.nsIn K mainGlobals "NO_INSTRUCTION" = some (some (.int (27904) t_NO_INSTRUCTION)))
    (m_NO_CLASS : PySem.W.nsIn K mainGlobals "NO_CLASS" = some (some (.int (28160) t_NO_CLASS)))
    (m_FOLDER : PySem.W.nsIn K mainGlobals "FOLDER" = some (some (.int (56) t_FOLDER)))
    (m_BYTES : PySem.W.nsIn K mainGlobals "BYTES" = some (some (.int (1) t_BYTES)))
    (m_RECORDS : PySem.W.nsIn K mainGlobals "RECORDS" = some (some (.int (2) t_RECORDS)))
    (m_ROUND : PySem.W.nsIn K mainGlobals "ROUND" = some (some (.int (6) t_ROUND)))
    (m_OUTER_MARK : PySem.W.nsIn K mainGlobals "OUTER_MARK" = some (some (.int (98) t_OUTER_MARK)))
    (m_KIND_MARK : PySem.W.nsIn K mainGlobals "KIND_MARK" = some (some (.int (130) t_KIND_MARK)))
    (m_NUMBER_MARK : PySem.W.nsIn K mainGlobals "NUMBER_MARK" = some (some (.int (131) t_NUMBER_MARK)))
    (m_SIZE_MARK : PySem.W.nsIn K mainGlobals "SIZE_MARK" = some (some (.int (128) t_SIZE_MARK)))
    (m_NAME_MARK : PySem.W.nsIn K mainGlobals "NAME_MARK" = some (some (.int (132) t_NAME_MARK)))
    (m_SHORT_MARK : PySem.W.nsIn K mainGlobals "SHORT_MARK" = some (some (.int (136) t_SHORT_MARK)))
    (m_RIGHTS_MARK : PySem.W.nsIn K mainGlobals "RIGHTS_MARK" = some (some (.int (140) t_RIGHTS_MARK)))
    (m_RECORD_WAY : PySem.W.nsIn K mainGlobals "RECORD_WAY" = some (some (.int (33) t_RECORD_WAY)))
    (m_NO_SHORT : PySem.W.nsIn K mainGlobals "NO_SHORT" = some (some (.int (0) t_NO_SHORT)))
    (m_ROOM_OF_ANY : PySem.W.nsIn K mainGlobals "ROOM_OF_ANY" = some (some (.int (32) t_ROOM_OF_ANY)))
    (m_MOST_FILES : PySem.W.nsIn K mainGlobals "MOST_FILES" = some (some (.int (64) t_MOST_FILES)))
    (m_MOST_ROOM : PySem.W.nsIn K mainGlobals "MOST_ROOM" = some (some (.int (16384) t_MOST_ROOM)))
    (m_TOP : PySem.W.nsIn K mainGlobals "TOP" = some (some (.int (0) t_TOP)))
    (m_TOP_NUMBER : PySem.W.nsIn K mainGlobals "TOP_NUMBER" = some (some (.int (16128) t_TOP_NUMBER)))
    (m_NONE : PySem.W.nsIn K mainGlobals "NONE" = some (some (.int (-1) t_NONE)))
    (m_ALWAYS : PySem.W.nsIn K mainGlobals "ALWAYS" = some (some (.int (0) t_ALWAYS)))
    (m_HEADER_LENGTH : PySem.W.nsIn K mainGlobals "HEADER_LENGTH" = some (some (.int (4) t_HEADER_LENGTH)))
    (m_NOTHING : PySem.W.nsIn K mainGlobals "NOTHING" = some (some (.int (0) t_NOTHING)))
    (m_ALL : PySem.W.nsIn K mainGlobals "ALL" = some (some (.int (256) t_ALL)))
    (m_RESERVED_NUMBERS : PySem.W.nsIn K mainGlobals "RESERVED_NUMBERS" = some (some (.ref RN)))
    (m_MOST_SHORT : PySem.W.nsIn K mainGlobals "MOST_SHORT" = some (some (.int (30) t_MOST_SHORT)))
    (m_MOST_NAME : PySem.W.nsIn K mainGlobals "MOST_NAME" = some (some (.int (16) t_MOST_NAME)))
    (m_MOST_RIGHT : PySem.W.nsIn K mainGlobals "MOST_RIGHT" = some (some (.int (8) t_MOST_RIGHT)))
    (m_NEVER : PySem.W.nsIn K mainGlobals "NEVER" = some (some (.int (15) t_NEVER)))
    (m_BY_NUMBER : PySem.W.nsIn K mainGlobals "BY_NUMBER" = some (some (.int (0) t_BY_NUMBER)))
    (m_BY_NAME : PySem.W.nsIn K mainGlobals "BY_NAME" = some (some (.int (4) t_BY_NAME)))
    (m_BY_PATH : PySem.W.nsIn K mainGlobals "BY_PATH" = some (some (.int (8) t_BY_PATH)))
    (m_TELL : PySem.W.nsIn K mainGlobals "TELL" = some (some (.int (0) t_TELL)))
    (m_TELL_NOTHING : PySem.W.nsIn K mainGlobals "TELL_NOTHING" = some (some (.int (12) t_TELL_NOTHING)))
    (m_SHORT_BASE : PySem.W.nsIn K mainGlobals "SHORT_BASE" = some (some (.int (128) t_SHORT_BASE)))
    (m_MOST_FIRST : PySem.W.nsIn K mainGlobals "MOST_FIRST" = some (some (.int (159) t_MOST_FIRST)))
    (m_BY_RECORD_NUMBER : PySem.W.nsIn K mainGlobals "BY_RECORD_NUMBER" = some (some (.int (4) t_BY_RECORD_NUMBER)))
    (m_AT_THE_END : PySem.W.nsIn K mainGlobals "AT_THE_END" = some (some (.int (0) t_AT_THE_END)))
    (m_NOT_A_SHORT : PySem.W.nsIn K mainGlobals "NOT_A_SHORT" = some (some (.int (31) t_NOT_A_SHORT)))
    (m_MOST_SECRETS : PySem.W.nsIn K mainGlobals "MOST_SECRETS" = some (some (.int (8) t_MOST_SECRETS)))
    (m_WORD : PySem.W.nsIn K mainGlobals "WORD" = some (some (.int (8) t_WORD)))
    (m_PAIR : PySem.W.nsIn K mainGlobals "PAIR" = some (some (.int (16) t_PAIR)))
    (m_MOST_TRIES : PySem.W.nsIn K mainGlobals "MOST_TRIES" = some (some (.int (15) t_MOST_TRIES)))
    (m_COMMAND : PySem.W.nsIn K mainGlobals "COMMAND" = some (some (.int (1) t_COMMAND)))
    (m_MOST_BYTES : PySem.W.nsIn K mainGlobals "MOST_BYTES" = some (some (.int (261) t_MOST_BYTES)))
    (m_REFUSAL : PySem.W.nsIn K mainGlobals "REFUSAL" = some (some (.int (-1) t_REFUSAL)))
    (lRN : K.lookup RN = some ⟨.type "tuple", odRN, .seq #[.int 16128 tA, .int 65535 tB] nRN, slRN⟩)
    : ∃ fd : FuncData, (∀ (s : Shared) (us : List Value), us.length = (["calls"] : List Str).length → BindsTo s fd ⟨us, []⟩ ((["calls"] : List Str).zip us)) ∧ ∀ base : Heap, K.In base → base.Ns mainGlobals mg → FnOk P w K mg base C8.CX0 8 fa fd ["calls"] (sp_answers K) := by
  have e := hfa.symm.trans (PySem.W.mg_of X G a72)
  cases e
  have clCF : Cls K CF := ⟨pgCF, hdCF, poCF, saCF⟩
  have clCS : Cls K CS := ⟨pgCS, hdCS, poCS, saCS⟩
  have clCC : Cls K CC := ⟨pgCC, hdCC, poCC, saCC⟩
  have clCR : Cls K CR := ⟨pgCR, hdCR, poCR, saCR⟩
  have T : Tx K mg CF CS CC CR RN := {
    len := PySem.W.mg_none_of X G z_len,
    enumerate := PySem.W.mg_none_of X G z_enumerate,
    range := PySem.W.mg_none_of X G z_range,
    rn := fun H => Or.inr ⟨_, _, _, lRN, rfl, rfl, (show 2 ≤ sizeLine by decide), .cons ⟨_, rfl⟩ (.cons ⟨_, rfl⟩ .nil)⟩,
    mRESERVED_NUMBERS := ⟨_, PySem.W.mg_of X G m_RESERVED_NUMBERS, rfl⟩,
    mWELL := ⟨_, PySem.W.mg_of X G m_WELL, ⟨_, rfl⟩⟩,
    mLESS_THERE := ⟨_, PySem.W.mg_of X G m_LESS_THERE, ⟨_, rfl⟩⟩,
    mTRIES_LEFT := ⟨_, PySem.W.mg_of X G m_TRIES_LEFT, ⟨_, rfl⟩⟩,
    mWRONG_LENGTH := ⟨_, PySem.W.mg_of X G m_WRONG_LENGTH, ⟨_, rfl⟩⟩,
    mWRONG_KIND := ⟨_, PySem.W.mg_of X G m_WRONG_KIND, ⟨_, rfl⟩⟩,
    mNO_RIGHT := ⟨_, PySem.W.mg_of X G m_NO_RIGHT, ⟨_, rfl⟩⟩,
    mNO_TRIES := ⟨_, PySem.W.mg_of X G m_NO_TRIES, ⟨_, rfl⟩⟩,
    mNOT_NOW := ⟨_, PySem.W.mg_of X G m_NOT_NOW, ⟨_, rfl⟩⟩,
    mNONE_CHOSEN := ⟨_, PySem.W.mg_of X G m_NONE_CHOSEN, ⟨_, rfl⟩⟩,
    mWRONG_DATA := ⟨_, PySem.W.mg_of X G m_WRONG_DATA, ⟨_, rfl⟩⟩,
    mNOT_THERE := ⟨_, PySem.W.mg_of X G m_NOT_THERE, ⟨_, rfl⟩⟩,
    mNO_RECORD := ⟨_, PySem.W.mg_of X G m_NO_RECORD, ⟨_, rfl⟩⟩,
    mNO_ROOM := ⟨_, PySem.W.mg_of X G m_NO_ROOM, ⟨_, rfl⟩⟩,
    mWRONG_PARAMETERS := ⟨_, PySem.W.mg_of X G m_WRONG_PARAMETERS, ⟨_, rfl⟩⟩,
    mNO_SECRET := ⟨_, PySem.W.mg_of X G m_NO_SECRET, ⟨_, rfl⟩⟩,
    mIN_USE := ⟨_, PySem.W.mg_of X G m_IN_USE, ⟨_, rfl⟩⟩,
    mBEHIND_END := ⟨_, PySem.W.mg_of X G m_BEHIND_END, ⟨_, rfl⟩⟩,
    mLENGTH_IS := ⟨_, PySem.W.mg_of X G m_LENGTH_IS, ⟨_, rfl⟩⟩,
    mNO_INSTRUCTION := ⟨_, PySem.W.mg_of X G m_NO_INSTRUCTION, ⟨_, rfl⟩⟩,
    mNO_CLASS := ⟨_, PySem.W.mg_of X G m_NO_CLASS, ⟨_, rfl⟩⟩,
    mFOLDER := ⟨_, PySem.W.mg_of X G m_FOLDER, ⟨_, rfl⟩⟩,
    mBYTES := ⟨_, PySem.W.mg_of X G m_BYTES, ⟨_, rfl⟩⟩,
    mRECORDS := ⟨_, PySem.W.mg_of X G m_RECORDS, ⟨_, rfl⟩⟩,
    mROUND := ⟨_, PySem.W.mg_of X G m_ROUND, ⟨_, rfl⟩⟩,
    mOUTER_MARK := ⟨_, PySem.W.mg_of X G m_OUTER_MARK, ⟨_, rfl⟩⟩,
    mKIND_MARK := ⟨_, PySem.W.mg_of X G m_KIND_MARK, ⟨_, rfl⟩⟩,
    mNUMBER_MARK := ⟨_, PySem.W.mg_of X G m_NUMBER_MARK, ⟨_, rfl⟩⟩,
    mSIZE_MARK := ⟨_, PySem.W.mg_of X G m_SIZE_MARK, ⟨_, rfl⟩⟩,
    mNAME_MARK := ⟨_, PySem.W.mg_of X G m_NAME_MARK, ⟨_, rfl⟩⟩,
    mSHORT_MARK := ⟨_, PySem.W.mg_of X G m_SHORT_MARK, ⟨_, rfl⟩⟩,
    mRIGHTS_MARK := ⟨_, PySem.W.mg_of X G m_RIGHTS_MARK, ⟨_, rfl⟩⟩,
    mRECORD_WAY := ⟨_, PySem.W.mg_of X G m_RECORD_WAY, ⟨_, rfl⟩⟩,
    mNO_SHORT := ⟨_, PySem.W.mg_of X G m_NO_SHORT, ⟨_, rfl⟩⟩,
    mROOM_OF_ANY := ⟨_, PySem.W.mg_of X G m_ROOM_OF_ANY, ⟨_, rfl⟩⟩,
    mMOST_FILES := ⟨_, PySem.W.mg_of X G m_MOST_FILES, ⟨_, rfl⟩⟩,
    mMOST_ROOM := ⟨_, PySem.W.mg_of X G m_MOST_ROOM, ⟨_, rfl⟩⟩,
    mTOP := ⟨_, PySem.W.mg_of X G m_TOP, ⟨_, rfl⟩⟩,
    mTOP_NUMBER := ⟨_, PySem.W.mg_of X G m_TOP_NUMBER, ⟨_, rfl⟩⟩,
    mNONE := ⟨_, PySem.W.mg_of X G m_NONE, ⟨_, rfl⟩⟩,
    mALWAYS := ⟨_, PySem.W.mg_of X G m_ALWAYS, ⟨_, rfl⟩⟩,
    mHEADER_LENGTH := ⟨_, PySem.W.mg_of X G m_HEADER_LENGTH, ⟨_, rfl⟩⟩,
    mNOTHING := ⟨_, PySem.W.mg_of X G m_NOTHING, ⟨_, rfl⟩⟩,
    mALL := ⟨_, PySem.W.mg_of X G m_ALL, ⟨_, rfl⟩⟩,
    mMOST_SHORT := ⟨_, PySem.W.mg_of X G m_MOST_SHORT, ⟨_, rfl⟩⟩,
    mMOST_NAME := ⟨_, PySem.W.mg_of X G m_MOST_NAME, ⟨_, rfl⟩⟩,
    mMOST_RIGHT := ⟨_, PySem.W.mg_of X G m_MOST_RIGHT, ⟨_, rfl⟩⟩,
    mNEVER := ⟨_, PySem.W.mg_of X G m_NEVER, ⟨_, rfl⟩⟩,
    mBY_NUMBER := ⟨_, PySem.W.mg_of X G m_BY_NUMBER, ⟨_, rfl⟩⟩,
    mBY_NAME := ⟨_, PySem.W.mg_of X G m_BY_NAME, ⟨_, rfl⟩⟩,
    mBY_PATH := ⟨_, PySem.W.mg_of X G m_BY_PATH, ⟨_, rfl⟩⟩,
    mTELL := ⟨_, PySem.W.mg_of X G m_TELL, ⟨_, rfl⟩⟩,
    mTELL_NOTHING := ⟨_, PySem.W.mg_of X G m_TELL_NOTHING, ⟨_, rfl⟩⟩,
    mSHORT_BASE := ⟨_, PySem.W.mg_of X G m_SHORT_BASE, ⟨_, rfl⟩⟩,
    mMOST_FIRST := ⟨_, PySem.W.mg_of X G m_MOST_FIRST, ⟨_, rfl⟩⟩,
    mBY_RECORD_NUMBER := ⟨_, PySem.W.mg_of X G m_BY_RECORD_NUMBER, ⟨_, rfl⟩⟩,
    mAT_THE_END := ⟨_, PySem.W.mg_of X G m_AT_THE_END, ⟨_, rfl⟩⟩,
    mNOT_A_SHORT := ⟨_, PySem.W.mg_of X G m_NOT_A_SHORT, ⟨_, rfl⟩⟩,
    mMOST_SECRETS := ⟨_, PySem.W.mg_of X G m_MOST_SECRETS, ⟨_, rfl⟩⟩,
    mWORD := ⟨_, PySem.W.mg_of X G m_WORD, ⟨_, rfl⟩⟩,
    mPAIR := ⟨_, PySem.W.mg_of X G m_PAIR, ⟨_, rfl⟩⟩,
    mMOST_TRIES := ⟨_, PySem.W.mg_of X G m_MOST_TRIES, ⟨_, rfl⟩⟩,
    mCOMMAND := ⟨_, PySem.W.mg_of X G m_COMMAND, ⟨_, rfl⟩⟩,
    mMOST_BYTES := ⟨_, PySem.W.mg_of X G m_MOST_BYTES, ⟨_, rfl⟩⟩,
    mREFUSAL := ⟨_, PySem.W.mg_of X G m_REFUSAL, ⟨_, rfl⟩⟩,
    clCF := clCF,
    nCF_kind := nCF_kind,
    nCF_number := nCF_number,
    nCF_short := nCF_short,
    nCF_name := nCF_name,
    nCF_reading := nCF_reading,
    nCF_writing := nCF_writing,
    nCF_size := nCF_size,
    nCF_content := nCF_content,
    nCF_length := nCF_length,
    nCF_most := nCF_most,
    nCF_records := nCF_records,
    nCF_folder := nCF_folder,
    clCS := clCS,
    nCS_word := nCS_word,
    nCS_freer := nCS_freer,
    nCS_most_tries := nCS_most_tries,
    nCS_tries := nCS_tries,
    nCS_freer_tries := nCS_freer_tries,
    nCS_told := nCS_told,
    clCC := clCC,
    nCC_slots := nCC_slots,
    nCC_secrets := nCC_secrets,
    nCC_active := nCC_active,
    nCC_folder := nCC_folder,
    nCC_file := nCC_file,
    clCR := clCR,
    nCR_group := nCR_group,
    nCR_instruction := nCR_instruction,
    nCR_first := nCR_first,
    nCR_second := nCR_second,
    nCR_data := nCR_data,
    nCR_asked := nCR_asked }
  have F1 : C8.Fun K "two_bytes" "two_bytes" s_two_bytes f1 (PySem.W.fnOf "two_bytes" "two_bytes" (C8.fnArgs s_two_bytes) (C8.fnBody s_two_bytes) (C8.fnScope s_two_bytes) .none kV1 dc1 pm1 an1 cd1 ct1) := ⟨⟨oc1, od1, .none, kV1, dc1, pm1, an1, cd1, ct1, sl1, rfl, l1, c1⟩⟩
  have b1 := F1.binds rfl (ps := ["number"]) fun _ _ _ _ _ _ us hl => match us, hl with | [_], _ => rfl
  have F2 : C8.Fun K "number_of" "number_of" s_number_of f2 (PySem.W.fnOf "number_of" "number_of" (C8.fnArgs s_number_of) (C8.fnBody s_number_of) (C8.fnScope s_number_of) .none kV2 dc2 pm2 an2 cd2 ct2) := ⟨⟨oc2, od2, .none, kV2, dc2, pm2, an2, cd2, ct2, sl2, rfl, l2, c2⟩⟩
  have b2 := F2.binds rfl (ps := ["pair"]) fun _ _ _ _ _ _ us hl => match us, hl with | [_], _ => rfl
  have F3 : C8.Fun K "reply" "reply" s_reply f3 (PySem.W.fnOf "reply" "reply" (C8.fnArgs s_reply) (C8.fnBody s_reply) (C8.fnScope s_reply) .none kV3 dc3 pm3 an3 cd3 ct3) := ⟨⟨oc3, od3, .none, kV3, dc3, pm3, an3, cd3, ct3, sl3, rfl, l3, c3⟩⟩
  have b3 := F3.binds rfl (ps := ["told", "status"]) fun _ _ _ _ _ _ us hl => match us, hl with | [_, _], _ => rfl
  have F4 : C8.Fun K "only" "only" s_only f4 (PySem.W.fnOf "only" "only" (C8.fnArgs s_only) (C8.fnBody s_only) (C8.fnScope s_only) .none kV4 dc4 pm4 an4 cd4 ct4) := ⟨⟨oc4, od4, .none, kV4, dc4, pm4, an4, cd4, ct4, sl4, rfl, l4, c4⟩⟩
  have b4 := F4.binds rfl (ps := ["status"]) fun _ _ _ _ _ _ us hl => match us, hl with | [_], _ => rfl
  have F5 : C8.Fun K "__init__" "File.__init__" s_File_init f5 (PySem.W.fnOf "__init__" "File.__init__" (C8.fnArgs s_File_init) (C8.fnBody s_File_init) (C8.fnScope s_File_init) .none kV5 dc5 pm5 an5 cd5 ct5) := ⟨⟨oc5, od5, .none, kV5, dc5, pm5, an5, cd5, ct5, sl5, rfl, l5, c5⟩⟩
  have b5 := F5.binds rfl (ps := ["self", "kind", "number"]) fun _ _ _ _ _ _ us hl => match us, hl with | [_, _, _], _ => rfl
  have F6 : C8.Fun K "holds_records" "holds_records" s_holds_records f6 (PySem.W.fnOf "holds_records" "holds_records" (C8.fnArgs s_holds_records) (C8.fnBody s_holds_records) (C8.fnScope s_holds_records) .none kV6 dc6 pm6 an6 cd6 ct6) := ⟨⟨oc6, od6, .none, kV6, dc6, pm6, an6, cd6, ct6, sl6, rfl, l6, c6⟩⟩
  have b6 := F6.binds rfl (ps := ["kind"]) fun _ _ _ _ _ _ us hl => match us, hl with | [_], _ => rfl
  have F7 : C8.Fun K "room_of" "room_of" s_room_of f7 (PySem.W.fnOf "room_of" "room_of" (C8.fnArgs s_room_of) (C8.fnBody s_room_of) (C8.fnScope s_room_of) .none kV7 dc7 pm7 an7 cd7 ct7) := ⟨⟨oc7, od7, .none, kV7, dc7, pm7, an7, cd7, ct7, sl7, rfl, l7, c7⟩⟩
  have b7 := F7.binds rfl (ps := ["file"]) fun _ _ _ _ _ _ us hl => match us, hl with | [_], _ => rfl
  have F8 : C8.Fun K "field" "field" s_field f8 (PySem.W.fnOf "field" "field" (C8.fnArgs s_field) (C8.fnBody s_field) (C8.fnScope s_field) .none kV8 dc8 pm8 an8 cd8 ct8) := ⟨⟨oc8, od8, .none, kV8, dc8, pm8, an8, cd8, ct8, sl8, rfl, l8, c8⟩⟩
  have b8 := F8.binds rfl (ps := ["mark", "content"]) fun _ _ _ _ _ _ us hl => match us, hl with | [_, _], _ => rfl
  have F9 : C8.Fun K "kind_field" "kind_field" s_kind_field f9 (PySem.W.fnOf "kind_field" "kind_field" (C8.fnArgs s_kind_field) (C8.fnBody s_kind_field) (C8.fnScope s_kind_field) .none kV9 dc9 pm9 an9 cd9 ct9) := ⟨⟨oc9, od9, .none, kV9, dc9, pm9, an9, cd9, ct9, sl9, rfl, l9, c9⟩⟩
  have b9 := F9.binds rfl (ps := ["file"]) fun _ _ _ _ _ _ us hl => match us, hl with | [_], _ => rfl
  have F10 : C8.Fun K "said_of" "said_of" s_said_of f10 (PySem.W.fnOf "said_of" "said_of" (C8.fnArgs s_said_of) (C8.fnBody s_said_of) (C8.fnScope s_said_of) .none kV10 dc10 pm10 an10 cd10 ct10) := ⟨⟨oc10, od10, .none, kV10, dc10, pm10, an10, cd10, ct10, sl10, rfl, l10, c10⟩⟩
  have b10 := F10.binds rfl (ps := ["file"]) fun _ _ _ _ _ _ us hl => match us, hl with | [_], _ => rfl
  have F11 : C8.Fun K "__init__" "Secret.__init__" s_Secret_init f11 (PySem.W.fnOf "__init__" "Secret.__init__" (C8.fnArgs s_Secret_init) (C8.fnBody s_Secret_init) (C8.fnScope s_Secret_init) .none kV11 dc11 pm11 an11 cd11 ct11) := ⟨⟨oc11, od11, .none, kV11, dc11, pm11, an11, cd11, ct11, sl11, rfl, l11, c11⟩⟩
  have b11 := F11.binds rfl (ps := ["self", "word", "freer", "tries", "freer_tries"]) fun _ _ _ _ _ _ us hl => match us, hl with | [_, _, _, _, _], _ => rfl
  have F12 : C8.Fun K "__init__" "Card.__init__" s_Card_init f12 (PySem.W.fnOf "__init__" "Card.__init__" (C8.fnArgs s_Card_init) (C8.fnBody s_Card_init) (C8.fnScope s_Card_init) .none kV12 dc12 pm12 an12 cd12 ct12) := ⟨⟨oc12, od12, .none, kV12, dc12, pm12, an12, cd12, ct12, sl12, rfl, l12, c12⟩⟩
  have b12 := F12.binds rfl (ps := ["self"]) fun _ _ _ _ _ _ us hl => match us, hl with | [_], _ => rfl
  have F13 : C8.Fun K "begin_anew" "Card.begin_anew" s_Card_begin_anew f13 (PySem.W.fnOf "begin_anew" "Card.begin_anew" (C8.fnArgs s_Card_begin_anew) (C8.fnBody s_Card_begin_anew) (C8.fnScope s_Card_begin_anew) .none kV13 dc13 pm13 an13 cd13 ct13) := ⟨⟨oc13, od13, .none, kV13, dc13, pm13, an13, cd13, ct13, sl13, rfl, l13, c13⟩⟩
  have b13 := F13.binds rfl (ps := ["self"]) fun _ _ _ _ _ _ us hl => match us, hl with | [_], _ => rfl
  have F14 : C8.Fun K "chosen_file" "Card.chosen_file" s_Card_chosen_file f14 (PySem.W.fnOf "chosen_file" "Card.chosen_file" (C8.fnArgs s_Card_chosen_file) (C8.fnBody s_Card_chosen_file) (C8.fnScope s_Card_chosen_file) .none kV14 dc14 pm14 an14 cd14 ct14) := ⟨⟨oc14, od14, .none, kV14, dc14, pm14, an14, cd14, ct14, sl14, rfl, l14, c14⟩⟩
  have b14 := F14.binds rfl (ps := ["self"]) fun _ _ _ _ _ _ us hl => match us, hl with | [_], _ => rfl
  have F15 : C8.Fun K "chosen_folder" "Card.chosen_folder" s_Card_chosen_folder f15 (PySem.W.fnOf "chosen_folder" "Card.chosen_folder" (C8.fnArgs s_Card_chosen_folder) (C8.fnBody s_Card_chosen_folder) (C8.fnScope s_Card_chosen_folder) .none kV15 dc15 pm15 an15 cd15 ct15) := ⟨⟨oc15, od15, .none, kV15, dc15, pm15, an15, cd15, ct15, sl15, rfl, l15, c15⟩⟩
  have b15 := F15.binds rfl (ps := ["self"]) fun _ _ _ _ _ _ us hl => match us, hl with | [_], _ => rfl
  have F16 : C8.Fun K "choose_inner" "Card.choose_inner" s_Card_choose_inner f16 (PySem.W.fnOf "choose_inner" "Card.choose_inner" (C8.fnArgs s_Card_choose_inner) (C8.fnBody s_Card_choose_inner) (C8.fnScope s_Card_choose_inner) .none kV16 dc16 pm16 an16 cd16 ct16) := ⟨⟨oc16, od16, .none, kV16, dc16, pm16, an16, cd16, ct16, sl16, rfl, l16, c16⟩⟩
  have b16 := F16.binds rfl (ps := ["self", "inner"]) fun _ _ _ _ _ _ us hl => match us, hl with | [_, _], _ => rfl
  have F17 : C8.Fun K "allows" "Card.allows" s_Card_allows f17 (PySem.W.fnOf "allows" "Card.allows" (C8.fnArgs s_Card_allows) (C8.fnBody s_Card_allows) (C8.fnScope s_Card_allows) .none kV17 dc17 pm17 an17 cd17 ct17) := ⟨⟨oc17, od17, .none, kV17, dc17, pm17, an17, cd17, ct17, sl17, rfl, l17, c17⟩⟩
  have b17 := F17.binds rfl (ps := ["self", "right"]) fun _ _ _ _ _ _ us hl => match us, hl with | [_, _], _ => rfl
  have F18 : C8.Fun K "inside" "Card.inside" s_Card_inside f18 (PySem.W.fnOf "inside" "Card.inside" (C8.fnArgs s_Card_inside) (C8.fnBody s_Card_inside) (C8.fnScope s_Card_inside) .none kV18 dc18 pm18 an18 cd18 ct18) := ⟨⟨oc18, od18, .none, kV18, dc18, pm18, an18, cd18, ct18, sl18, rfl, l18, c18⟩⟩
  have b18 := F18.binds rfl (ps := ["self", "folder"]) fun _ _ _ _ _ _ us hl => match us, hl with | [_, _], _ => rfl
  have F19 : C8.Fun K "find_number" "Card.find_number" s_Card_find_number f19 (PySem.W.fnOf "find_number" "Card.find_number" (C8.fnArgs s_Card_find_number) (C8.fnBody s_Card_find_number) (C8.fnScope s_Card_find_number) .none kV19 dc19 pm19 an19 cd19 ct19) := ⟨⟨oc19, od19, .none, kV19, dc19, pm19, an19, cd19, ct19, sl19, rfl, l19, c19⟩⟩
  have b19 := F19.binds rfl (ps := ["self", "folder", "number"]) fun _ _ _ _ _ _ us hl => match us, hl with | [_, _, _], _ => rfl
  have F20 : C8.Fun K "find_short" "Card.find_short" s_Card_find_short f20 (PySem.W.fnOf "find_short" "Card.find_short" (C8.fnArgs s_Card_find_short) (C8.fnBody s_Card_find_short) (C8.fnScope s_Card_find_short) .none kV20 dc20 pm20 an20 cd20 ct20) := ⟨⟨oc20, od20, .none, kV20, dc20, pm20, an20, cd20, ct20, sl20, rfl, l20, c20⟩⟩
  have b20 := F20.binds rfl (ps := ["self", "short"]) fun _ _ _ _ _ _ us hl => match us, hl with | [_, _], _ => rfl
  have F21 : C8.Fun K "find_name" "Card.find_name" s_Card_find_name f21 (PySem.W.fnOf "find_name" "Card.find_name" (C8.fnArgs s_Card_find_name) (C8.fnBody s_Card_find_name) (C8.fnScope s_Card_find_name) .none kV21 dc21 pm21 an21 cd21 ct21) := ⟨⟨oc21, od21, .none, kV21, dc21, pm21, an21, cd21, ct21, sl21, rfl, l21, c21⟩⟩
  have b21 := F21.binds rfl (ps := ["self", "name"]) fun _ _ _ _ _ _ us hl => match us, hl with | [_, _], _ => rfl
  have F22 : C8.Fun K "clashes" "Card.clashes" s_Card_clashes f22 (PySem.W.fnOf "clashes" "Card.clashes" (C8.fnArgs s_Card_clashes) (C8.fnBody s_Card_clashes) (C8.fnScope s_Card_clashes) .none kV22 dc22 pm22 an22 cd22 ct22) := ⟨⟨oc22, od22, .none, kV22, dc22, pm22, an22, cd22, ct22, sl22, rfl, l22, c22⟩⟩
  have b22 := F22.binds rfl (ps := ["self", "file"]) fun _ _ _ _ _ _ us hl => match us, hl with | [_, _], _ => rfl
  have F23 : C8.Fun K "free_inner" "Card.free_inner" s_Card_free_inner f23 (PySem.W.fnOf "free_inner" "Card.free_inner" (C8.fnArgs s_Card_free_inner) (C8.fnBody s_Card_free_inner) (C8.fnScope s_Card_free_inner) .none kV23 dc23 pm23 an23 cd23 ct23) := ⟨⟨oc23, od23, .none, kV23, dc23, pm23, an23, cd23, ct23, sl23, rfl, l23, c23⟩⟩
  have b23 := F23.binds rfl (ps := ["self"]) fun _ _ _ _ _ _ us hl => match us, hl with | [_], _ => rfl
  have F24 : C8.Fun K "has_room_for" "Card.has_room_for" s_Card_has_room_for f24 (PySem.W.fnOf "has_room_for" "Card.has_room_for" (C8.fnArgs s_Card_has_room_for) (C8.fnBody s_Card_has_room_for) (C8.fnScope s_Card_has_room_for) .none kV24 dc24 pm24 an24 cd24 ct24) := ⟨⟨oc24, od24, .none, kV24, dc24, pm24, an24, cd24, ct24, sl24, rfl, l24, c24⟩⟩
  have b24 := F24.binds rfl (ps := ["self", "file"]) fun _ _ _ _ _ _ us hl => match us, hl with | [_, _], _ => rfl
  have F25 : C8.Fun K "put_in" "Card.put_in" s_Card_put_in f25 (PySem.W.fnOf "put_in" "Card.put_in" (C8.fnArgs s_Card_put_in) (C8.fnBody s_Card_put_in) (C8.fnScope s_Card_put_in) .none kV25 dc25 pm25 an25 cd25 ct25) := ⟨⟨oc25, od25, .none, kV25, dc25, pm25, an25, cd25, ct25, sl25, rfl, l25, c25⟩⟩
  have b25 := F25.binds rfl (ps := ["self", "file"]) fun _ _ _ _ _ _ us hl => match us, hl with | [_, _], _ => rfl
  have F26 : C8.Fun K "take_out" "Card.take_out" s_Card_take_out f26 (PySem.W.fnOf "take_out" "Card.take_out" (C8.fnArgs s_Card_take_out) (C8.fnBody s_Card_take_out) (C8.fnScope s_Card_take_out) .none kV26 dc26 pm26 an26 cd26 ct26) := ⟨⟨oc26, od26, .none, kV26, dc26, pm26, an26, cd26, ct26, sl26, rfl, l26, c26⟩⟩
  have b26 := F26.binds rfl (ps := ["self", "inner"]) fun _ _ _ _ _ _ us hl => match us, hl with | [_, _], _ => rfl
  have F27 : C8.Fun K "__init__" "Request.__init__" s_Request_init f27 (PySem.W.fnOf "__init__" "Request.__init__" (C8.fnArgs s_Request_init) (C8.fnBody s_Request_init) (C8.fnScope s_Request_init) .none kV27 dc27 pm27 an27 cd27 ct27) := ⟨⟨oc27, od27, .none, kV27, dc27, pm27, an27, cd27, ct27, sl27, rfl, l27, c27⟩⟩
  have b27 := F27.binds rfl (ps := ["self", "header", "data", "asked"]) fun _ _ _ _ _ _ us hl => match us, hl with | [_, _, _, _], _ => rfl
  have F28 : C8.Fun K "is_plain" "Request.is_plain" s_Request_is_plain f28 (PySem.W.fnOf "is_plain" "Request.is_plain" (C8.fnArgs s_Request_is_plain) (C8.fnBody s_Request_is_plain) (C8.fnScope s_Request_is_plain) .none kV28 dc28 pm28 an28 cd28 ct28) := ⟨⟨oc28, od28, .none, kV28, dc28, pm28, an28, cd28, ct28, sl28, rfl, l28, c28⟩⟩
  have b28 := F28.binds rfl (ps := ["self"]) fun _ _ _ _ _ _ us hl => match us, hl with | [_], _ => rfl
  have F29 : C8.Fun K "brings" "Request.brings" s_Request_brings f29 (PySem.W.fnOf "brings" "Request.brings" (C8.fnArgs s_Request_brings) (C8.fnBody s_Request_brings) (C8.fnScope s_Request_brings) .none kV29 dc29 pm29 an29 cd29 ct29) := ⟨⟨oc29, od29, .none, kV29, dc29, pm29, an29, cd29, ct29, sl29, rfl, l29, c29⟩⟩
  have b29 := F29.binds rfl (ps := ["self", "length"]) fun _ _ _ _ _ _ us hl => match us, hl with | [_, _], _ => rfl
  have F30 : C8.Fun K "amount" "amount" s_amount f30 (PySem.W.fnOf "amount" "amount" (C8.fnArgs s_amount) (C8.fnBody s_amount) (C8.fnScope s_amount) .none kV30 dc30 pm30 an30 cd30 ct30) := ⟨⟨oc30, od30, .none, kV30, dc30, pm30, an30, cd30, ct30, sl30, rfl, l30, c30⟩⟩
  have b30 := F30.binds rfl (ps := ["byte"]) fun _ _ _ _ _ _ us hl => match us, hl with | [_], _ => rfl
  have F31 : C8.Fun K "read_request" "read_request" s_read_request f31 (PySem.W.fnOf "read_request" "read_request" (C8.fnArgs s_read_request) (C8.fnBody s_read_request) (C8.fnScope s_read_request) .none kV31 dc31 pm31 an31 cd31 ct31) := ⟨⟨oc31, od31, .none, kV31, dc31, pm31, an31, cd31, ct31, sl31, rfl, l31, c31⟩⟩
  have b31 := F31.binds rfl (ps := ["given"]) fun _ _ _ _ _ _ us hl => match us, hl with | [_], _ => rfl
  have F32 : C8.Fun K "fields_of" "fields_of" s_fields_of f32 (PySem.W.fnOf "fields_of" "fields_of" (C8.fnArgs s_fields_of) (C8.fnBody s_fields_of) (C8.fnScope s_fields_of) .none kV32 dc32 pm32 an32 cd32 ct32) := ⟨⟨oc32, od32, .none, kV32, dc32, pm32, an32, cd32, ct32, sl32, rfl, l32, c32⟩⟩
  have b32 := F32.binds rfl (ps := ["given"]) fun _ _ _ _ _ _ us hl => match us, hl with | [_], _ => rfl
  have F33 : C8.Fun K "inner_fields" "inner_fields" s_inner_fields f33 (PySem.W.fnOf "inner_fields" "inner_fields" (C8.fnArgs s_inner_fields) (C8.fnBody s_inner_fields) (C8.fnScope s_inner_fields) .none kV33 dc33 pm33 an33 cd33 ct33) := ⟨⟨oc33, od33, .none, kV33, dc33, pm33, an33, cd33, ct33, sl33, rfl, l33, c33⟩⟩
  have b33 := F33.binds rfl (ps := ["given"]) fun _ _ _ _ _ _ us hl => match us, hl with | [_], _ => rfl
  have F34 : C8.Fun K "kind_is_right" "kind_is_right" s_kind_is_right f34 (PySem.W.fnOf "kind_is_right" "kind_is_right" (C8.fnArgs s_kind_is_right) (C8.fnBody s_kind_is_right) (C8.fnScope s_kind_is_right) .none kV34 dc34 pm34 an34 cd34 ct34) := ⟨⟨oc34, od34, .none, kV34, dc34, pm34, an34, cd34, ct34, sl34, rfl, l34, c34⟩⟩
  have b34 := F34.binds rfl (ps := ["content"]) fun _ _ _ _ _ _ us hl => match us, hl with | [_], _ => rfl
  have F35 : C8.Fun K "right_is_right" "right_is_right" s_right_is_right f35 (PySem.W.fnOf "right_is_right" "right_is_right" (C8.fnArgs s_right_is_right) (C8.fnBody s_right_is_right) (C8.fnScope s_right_is_right) .none kV35 dc35 pm35 an35 cd35 ct35) := ⟨⟨oc35, od35, .none, kV35, dc35, pm35, an35, cd35, ct35, sl35, rfl, l35, c35⟩⟩
  have b35 := F35.binds rfl (ps := ["right"]) fun _ _ _ _ _ _ us hl => match us, hl with | [_], _ => rfl
  have F36 : C8.Fun K "content_is_right" "content_is_right" s_content_is_right f36 (PySem.W.fnOf "content_is_right" "content_is_right" (C8.fnArgs s_content_is_right) (C8.fnBody s_content_is_right) (C8.fnScope s_content_is_right) .none kV36 dc36 pm36 an36 cd36 ct36) := ⟨⟨oc36, od36, .none, kV36, dc36, pm36, an36, cd36, ct36, sl36, rfl, l36, c36⟩⟩
  have b36 := F36.binds rfl (ps := ["mark", "content"]) fun _ _ _ _ _ _ us hl => match us, hl with | [_, _], _ => rfl
  have F37 : C8.Fun K "marks_in_order" "marks_in_order" s_marks_in_order f37 (PySem.W.fnOf "marks_in_order" "marks_in_order" (C8.fnArgs s_marks_in_order) (C8.fnBody s_marks_in_order) (C8.fnScope s_marks_in_order) .none kV37 dc37 pm37 an37 cd37 ct37) := ⟨⟨oc37, od37, .none, kV37, dc37, pm37, an37, cd37, ct37, sl37, rfl, l37, c37⟩⟩
  have b37 := F37.binds rfl (ps := ["kind", "held"]) fun _ _ _ _ _ _ us hl => match us, hl with | [_, _], _ => rfl
  have F38 : C8.Fun K "file_of" "file_of" s_file_of f38 (PySem.W.fnOf "file_of" "file_of" (C8.fnArgs s_file_of) (C8.fnBody s_file_of) (C8.fnScope s_file_of) .none kV38 dc38 pm38 an38 cd38 ct38) := ⟨⟨oc38, od38, .none, kV38, dc38, pm38, an38, cd38, ct38, sl38, rfl, l38, c38⟩⟩
  have b38 := F38.binds rfl (ps := ["held"]) fun _ _ _ _ _ _ us hl => match us, hl with | [_], _ => rfl
  have F39 : C8.Fun K "wanted_file" "wanted_file" s_wanted_file f39 (PySem.W.fnOf "wanted_file" "wanted_file" (C8.fnArgs s_wanted_file) (C8.fnBody s_wanted_file) (C8.fnScope s_wanted_file) .none kV39 dc39 pm39 an39 cd39 ct39) := ⟨⟨oc39, od39, .none, kV39, dc39, pm39, an39, cd39, ct39, sl39, rfl, l39, c39⟩⟩
  have b39 := F39.binds rfl (ps := ["given"]) fun _ _ _ _ _ _ us hl => match us, hl with | [_], _ => rfl
  have F40 : C8.Fun K "find_near" "find_near" s_find_near f40 (PySem.W.fnOf "find_near" "find_near" (C8.fnArgs s_find_near) (C8.fnBody s_find_near) (C8.fnScope s_find_near) .none kV40 dc40 pm40 an40 cd40 ct40) := ⟨⟨oc40, od40, .none, kV40, dc40, pm40, an40, cd40, ct40, sl40, rfl, l40, c40⟩⟩
  have b40 := F40.binds rfl (ps := ["card", "number"]) fun _ _ _ _ _ _ us hl => match us, hl with | [_, _], _ => rfl
  have F41 : C8.Fun K "find_path" "find_path" s_find_path f41 (PySem.W.fnOf "find_path" "find_path" (C8.fnArgs s_find_path) (C8.fnBody s_find_path) (C8.fnScope s_find_path) .none kV41 dc41 pm41 an41 cd41 ct41) := ⟨⟨oc41, od41, .none, kV41, dc41, pm41, an41, cd41, ct41, sl41, rfl, l41, c41⟩⟩
  have b41 := F41.binds rfl (ps := ["card", "path"]) fun _ _ _ _ _ _ us hl => match us, hl with | [_, _], _ => rfl
  have F42 : C8.Fun K "choice_status" "choice_status" s_choice_status f42 (PySem.W.fnOf "choice_status" "choice_status" (C8.fnArgs s_choice_status) (C8.fnBody s_choice_status) (C8.fnScope s_choice_status) .none kV42 dc42 pm42 an42 cd42 ct42) := ⟨⟨oc42, od42, .none, kV42, dc42, pm42, an42, cd42, ct42, sl42, rfl, l42, c42⟩⟩
  have b42 := F42.binds rfl (ps := ["request"]) fun _ _ _ _ _ _ us hl => match us, hl with | [_], _ => rfl
  have F43 : C8.Fun K "find_choice" "find_choice" s_find_choice f43 (PySem.W.fnOf "find_choice" "find_choice" (C8.fnArgs s_find_choice) (C8.fnBody s_find_choice) (C8.fnScope s_find_choice) .none kV43 dc43 pm43 an43 cd43 ct43) := ⟨⟨oc43, od43, .none, kV43, dc43, pm43, an43, cd43, ct43, sl43, rfl, l43, c43⟩⟩
  have b43 := F43.binds rfl (ps := ["card", "request"]) fun _ _ _ _ _ _ us hl => match us, hl with | [_, _], _ => rfl
  have F44 : C8.Fun K "choose" "choose" s_choose f44 (PySem.W.fnOf "choose" "choose" (C8.fnArgs s_choose) (C8.fnBody s_choose) (C8.fnScope s_choose) .none kV44 dc44 pm44 an44 cd44 ct44) := ⟨⟨oc44, od44, .none, kV44, dc44, pm44, an44, cd44, ct44, sl44, rfl, l44, c44⟩⟩
  have b44 := F44.binds rfl (ps := ["card", "request"]) fun _ _ _ _ _ _ us hl => match us, hl with | [_, _], _ => rfl
  have F45 : C8.Fun K "aim" "aim" s_aim f45 (PySem.W.fnOf "aim" "aim" (C8.fnArgs s_aim) (C8.fnBody s_aim) (C8.fnScope s_aim) .none kV45 dc45 pm45 an45 cd45 ct45) := ⟨⟨oc45, od45, .none, kV45, dc45, pm45, an45, cd45, ct45, sl45, rfl, l45, c45⟩⟩
  have b45 := F45.binds rfl (ps := ["card", "short", "kinds", "writes"]) fun _ _ _ _ _ _ us hl => match us, hl with | [_, _, _, _], _ => rfl
  have F46 : C8.Fun K "aim_at_bytes" "aim_at_bytes" s_aim_at_bytes f46 (PySem.W.fnOf "aim_at_bytes" "aim_at_bytes" (C8.fnArgs s_aim_at_bytes) (C8.fnBody s_aim_at_bytes) (C8.fnScope s_aim_at_bytes) .none kV46 dc46 pm46 an46 cd46 ct46) := ⟨⟨oc46, od46, .none, kV46, dc46, pm46, an46, cd46, ct46, sl46, rfl, l46, c46⟩⟩
  have b46 := F46.binds rfl (ps := ["card", "request", "writes"]) fun _ _ _ _ _ _ us hl => match us, hl with | [_, _, _], _ => rfl
  have F47 : C8.Fun K "place_of" "place_of" s_place_of f47 (PySem.W.fnOf "place_of" "place_of" (C8.fnArgs s_place_of) (C8.fnBody s_place_of) (C8.fnScope s_place_of) .none kV47 dc47 pm47 an47 cd47 ct47) := ⟨⟨oc47, od47, .none, kV47, dc47, pm47, an47, cd47, ct47, sl47, rfl, l47, c47⟩⟩
  have b47 := F47.binds rfl (ps := ["request"]) fun _ _ _ _ _ _ us hl => match us, hl with | [_], _ => rfl
  have F48 : C8.Fun K "is_behind_end" "is_behind_end" s_is_behind_end f48 (PySem.W.fnOf "is_behind_end" "is_behind_end" (C8.fnArgs s_is_behind_end) (C8.fnBody s_is_behind_end) (C8.fnScope s_is_behind_end) .none kV48 dc48 pm48 an48 cd48 ct48) := ⟨⟨oc48, od48, .none, kV48, dc48, pm48, an48, cd48, ct48, sl48, rfl, l48, c48⟩⟩
  have b48 := F48.binds rfl (ps := ["file", "place"]) fun _ _ _ _ _ _ us hl => match us, hl with | [_, _], _ => rfl
  have F49 : C8.Fun K "read_bytes" "read_bytes" s_read_bytes f49 (PySem.W.fnOf "read_bytes" "read_bytes" (C8.fnArgs s_read_bytes) (C8.fnBody s_read_bytes) (C8.fnScope s_read_bytes) .none kV49 dc49 pm49 an49 cd49 ct49) := ⟨⟨oc49, od49, .none, kV49, dc49, pm49, an49, cd49, ct49, sl49, rfl, l49, c49⟩⟩
  have b49 := F49.binds rfl (ps := ["card", "request"]) fun _ _ _ _ _ _ us hl => match us, hl with | [_, _], _ => rfl
  have F50 : C8.Fun K "write_bytes" "write_bytes" s_write_bytes f50 (PySem.W.fnOf "write_bytes" "write_bytes" (C8.fnArgs s_write_bytes) (C8.fnBody s_write_bytes) (C8.fnScope s_write_bytes) .none kV50 dc50 pm50 an50 cd50 ct50) := ⟨⟨oc50, od50, .none, kV50, dc50, pm50, an50, cd50, ct50, sl50, rfl, l50, c50⟩⟩
  have b50 := F50.binds rfl (ps := ["card", "request"]) fun _ _ _ _ _ _ us hl => match us, hl with | [_, _], _ => rfl
  have F51 : C8.Fun K "may_make" "may_make" s_may_make f51 (PySem.W.fnOf "may_make" "may_make" (C8.fnArgs s_may_make) (C8.fnBody s_may_make) (C8.fnScope s_may_make) .none kV51 dc51 pm51 an51 cd51 ct51) := ⟨⟨oc51, od51, .none, kV51, dc51, pm51, an51, cd51, ct51, sl51, rfl, l51, c51⟩⟩
  have b51 := F51.binds rfl (ps := ["card"]) fun _ _ _ _ _ _ us hl => match us, hl with | [_], _ => rfl
  have F52 : C8.Fun K "make_file" "make_file" s_make_file f52 (PySem.W.fnOf "make_file" "make_file" (C8.fnArgs s_make_file) (C8.fnBody s_make_file) (C8.fnScope s_make_file) .none kV52 dc52 pm52 an52 cd52 ct52) := ⟨⟨oc52, od52, .none, kV52, dc52, pm52, an52, cd52, ct52, sl52, rfl, l52, c52⟩⟩
  have b52 := F52.binds rfl (ps := ["card", "request"]) fun _ _ _ _ _ _ us hl => match us, hl with | [_, _], _ => rfl
  have F53 : C8.Fun K "take_away" "take_away" s_take_away f53 (PySem.W.fnOf "take_away" "take_away" (C8.fnArgs s_take_away) (C8.fnBody s_take_away) (C8.fnScope s_take_away) .none kV53 dc53 pm53 an53 cd53 ct53) := ⟨⟨oc53, od53, .none, kV53, dc53, pm53, an53, cd53, ct53, sl53, rfl, l53, c53⟩⟩
  have b53 := F53.binds rfl (ps := ["card", "request"]) fun _ _ _ _ _ _ us hl => match us, hl with | [_, _], _ => rfl
  have F54 : C8.Fun K "activate" "activate" s_activate f54 (PySem.W.fnOf "activate" "activate" (C8.fnArgs s_activate) (C8.fnBody s_activate) (C8.fnScope s_activate) .none kV54 dc54 pm54 an54 cd54 ct54) := ⟨⟨oc54, od54, .none, kV54, dc54, pm54, an54, cd54, ct54, sl54, rfl, l54, c54⟩⟩
  have b54 := F54.binds rfl (ps := ["card", "request"]) fun _ _ _ _ _ _ us hl => match us, hl with | [_, _], _ => rfl
  have F55 : C8.Fun K "aim_at_records" "aim_at_records" s_aim_at_records f55 (PySem.W.fnOf "aim_at_records" "aim_at_records" (C8.fnArgs s_aim_at_records) (C8.fnBody s_aim_at_records) (C8.fnScope s_aim_at_records) .none kV55 dc55 pm55 an55 cd55 ct55) := ⟨⟨oc55, od55, .none, kV55, dc55, pm55, an55, cd55, ct55, sl55, rfl, l55, c55⟩⟩
  have b55 := F55.binds rfl (ps := ["card", "request", "ending", "writes"]) fun _ _ _ _ _ _ us hl => match us, hl with | [_, _, _, _], _ => rfl
  have F56 : C8.Fun K "is_there" "is_there" s_is_there f56 (PySem.W.fnOf "is_there" "is_there" (C8.fnArgs s_is_there) (C8.fnBody s_is_there) (C8.fnScope s_is_there) .none kV56 dc56 pm56 an56 cd56 ct56) := ⟨⟨oc56, od56, .none, kV56, dc56, pm56, an56, cd56, ct56, sl56, rfl, l56, c56⟩⟩
  have b56 := F56.binds rfl (ps := ["file", "number"]) fun _ _ _ _ _ _ us hl => match us, hl with | [_, _], _ => rfl
  have F57 : C8.Fun K "read_record" "read_record" s_read_record f57 (PySem.W.fnOf "read_record" "read_record" (C8.fnArgs s_read_record) (C8.fnBody s_read_record) (C8.fnScope s_read_record) .none kV57 dc57 pm57 an57 cd57 ct57) := ⟨⟨oc57, od57, .none, kV57, dc57, pm57, an57, cd57, ct57, sl57, rfl, l57, c57⟩⟩
  have b57 := F57.binds rfl (ps := ["card", "request"]) fun _ _ _ _ _ _ us hl => match us, hl with | [_, _], _ => rfl
  have F58 : C8.Fun K "write_record" "write_record" s_write_record f58 (PySem.W.fnOf "write_record" "write_record" (C8.fnArgs s_write_record) (C8.fnBody s_write_record) (C8.fnScope s_write_record) .none kV58 dc58 pm58 an58 cd58 ct58) := ⟨⟨oc58, od58, .none, kV58, dc58, pm58, an58, cd58, ct58, sl58, rfl, l58, c58⟩⟩
  have b58 := F58.binds rfl (ps := ["card", "request"]) fun _ _ _ _ _ _ us hl => match us, hl with | [_, _], _ => rfl
  have F59 : C8.Fun K "add_record" "add_record" s_add_record f59 (PySem.W.fnOf "add_record" "add_record" (C8.fnArgs s_add_record) (C8.fnBody s_add_record) (C8.fnScope s_add_record) .none kV59 dc59 pm59 an59 cd59 ct59) := ⟨⟨oc59, od59, .none, kV59, dc59, pm59, an59, cd59, ct59, sl59, rfl, l59, c59⟩⟩
  have b59 := F59.binds rfl (ps := ["card", "request"]) fun _ _ _ _ _ _ us hl => match us, hl with | [_, _], _ => rfl
  have F60 : C8.Fun K "aim_at_secret" "aim_at_secret" s_aim_at_secret f60 (PySem.W.fnOf "aim_at_secret" "aim_at_secret" (C8.fnArgs s_aim_at_secret) (C8.fnBody s_aim_at_secret) (C8.fnScope s_aim_at_secret) .none kV60 dc60 pm60 an60 cd60 ct60) := ⟨⟨oc60, od60, .none, kV60, dc60, pm60, an60, cd60, ct60, sl60, rfl, l60, c60⟩⟩
  have b60 := F60.binds rfl (ps := ["request", "first", "lengths"]) fun _ _ _ _ _ _ us hl => match us, hl with | [_, _, _], _ => rfl
  have F61 : C8.Fun K "aim_at_known" "aim_at_known" s_aim_at_known f61 (PySem.W.fnOf "aim_at_known" "aim_at_known" (C8.fnArgs s_aim_at_known) (C8.fnBody s_aim_at_known) (C8.fnScope s_aim_at_known) .none kV61 dc61 pm61 an61 cd61 ct61) := ⟨⟨oc61, od61, .none, kV61, dc61, pm61, an61, cd61, ct61, sl61, rfl, l61, c61⟩⟩
  have b61 := F61.binds rfl (ps := ["card", "request", "lengths"]) fun _ _ _ _ _ _ us hl => match us, hl with | [_, _, _], _ => rfl
  have F62 : C8.Fun K "told_wrong" "told_wrong" s_told_wrong f62 (PySem.W.fnOf "told_wrong" "told_wrong" (C8.fnArgs s_told_wrong) (C8.fnBody s_told_wrong) (C8.fnScope s_told_wrong) .none kV62 dc62 pm62 an62 cd62 ct62) := ⟨⟨oc62, od62, .none, kV62, dc62, pm62, an62, cd62, ct62, sl62, rfl, l62, c62⟩⟩
  have b62 := F62.binds rfl (ps := ["secret"]) fun _ _ _ _ _ _ us hl => match us, hl with | [_], _ => rfl
  have F63 : C8.Fun K "renew" "renew" s_renew f63 (PySem.W.fnOf "renew" "renew" (C8.fnArgs s_renew) (C8.fnBody s_renew) (C8.fnScope s_renew) .none kV63 dc63 pm63 an63 cd63 ct63) := ⟨⟨oc63, od63, .none, kV63, dc63, pm63, an63, cd63, ct63, sl63, rfl, l63, c63⟩⟩
  have b63 := F63.binds rfl (ps := ["secret", "word"]) fun _ _ _ _ _ _ us hl => match us, hl with | [_, _], _ => rfl
  have F64 : C8.Fun K "standing" "standing" s_standing f64 (PySem.W.fnOf "standing" "standing" (C8.fnArgs s_standing) (C8.fnBody s_standing) (C8.fnScope s_standing) .none kV64 dc64 pm64 an64 cd64 ct64) := ⟨⟨oc64, od64, .none, kV64, dc64, pm64, an64, cd64, ct64, sl64, rfl, l64, c64⟩⟩
  have b64 := F64.binds rfl (ps := ["secret"]) fun _ _ _ _ _ _ us hl => match us, hl with | [_], _ => rfl
  have F65 : C8.Fun K "tell_secret" "tell_secret" s_tell_secret f65 (PySem.W.fnOf "tell_secret" "tell_secret" (C8.fnArgs s_tell_secret) (C8.fnBody s_tell_secret) (C8.fnScope s_tell_secret) .none kV65 dc65 pm65 an65 cd65 ct65) := ⟨⟨oc65, od65, .none, kV65, dc65, pm65, an65, cd65, ct65, sl65, rfl, l65, c65⟩⟩
  have b65 := F65.binds rfl (ps := ["card", "request"]) fun _ _ _ _ _ _ us hl => match us, hl with | [_, _], _ => rfl
  have F66 : C8.Fun K "change_secret" "change_secret" s_change_secret f66 (PySem.W.fnOf "change_secret" "change_secret" (C8.fnArgs s_change_secret) (C8.fnBody s_change_secret) (C8.fnScope s_change_secret) .none kV66 dc66 pm66 an66 cd66 ct66) := ⟨⟨oc66, od66, .none, kV66, dc66, pm66, an66, cd66, ct66, sl66, rfl, l66, c66⟩⟩
  have b66 := F66.binds rfl (ps := ["card", "request"]) fun _ _ _ _ _ _ us hl => match us, hl with | [_, _], _ => rfl
  have F67 : C8.Fun K "free_secret" "free_secret" s_free_secret f67 (PySem.W.fnOf "free_secret" "free_secret" (C8.fnArgs s_free_secret) (C8.fnBody s_free_secret) (C8.fnScope s_free_secret) .none kV67 dc67 pm67 an67 cd67 ct67) := ⟨⟨oc67, od67, .none, kV67, dc67, pm67, an67, cd67, ct67, sl67, rfl, l67, c67⟩⟩
  have b67 := F67.binds rfl (ps := ["card", "request"]) fun _ _ _ _ _ _ us hl => match us, hl with | [_, _], _ => rfl
  have F68 : C8.Fun K "make_secret" "make_secret" s_make_secret f68 (PySem.W.fnOf "make_secret" "make_secret" (C8.fnArgs s_make_secret) (C8.fnBody s_make_secret) (C8.fnScope s_make_secret) .none kV68 dc68 pm68 an68 cd68 ct68) := ⟨⟨oc68, od68, .none, kV68, dc68, pm68, an68, cd68, ct68, sl68, rfl, l68, c68⟩⟩
  have b68 := F68.binds rfl (ps := ["card", "request"]) fun _ _ _ _ _ _ us hl => match us, hl with | [_, _], _ => rfl
  have F69 : C8.Fun K "obey" "obey" s_obey f69 (PySem.W.fnOf "obey" "obey" (C8.fnArgs s_obey) (C8.fnBody s_obey) (C8.fnScope s_obey) .none kV69 dc69 pm69 an69 cd69 ct69) := ⟨⟨oc69, od69, .none, kV69, dc69, pm69, an69, cd69, ct69, sl69, rfl, l69, c69⟩⟩
  have b69 := F69.binds rfl (ps := ["card", "given"]) fun _ _ _ _ _ _ us hl => match us, hl with | [_, _], _ => rfl
  have F70 : C8.Fun K "command" "command" s_command f70 (PySem.W.fnOf "command" "command" (C8.fnArgs s_command) (C8.fnBody s_command) (C8.fnScope s_command) .none kV70 dc70 pm70 an70 cd70 ct70) := ⟨⟨oc70, od70, .none, kV70, dc70, pm70, an70, cd70, ct70, sl70, rfl, l70, c70⟩⟩
  have b70 := F70.binds rfl (ps := ["card", "given"]) fun _ _ _ _ _ _ us hl => match us, hl with | [_, _], _ => rfl
  have F71 : C8.Fun K "reset" "reset" s_reset f71 (PySem.W.fnOf "reset" "reset" (C8.fnArgs s_reset) (C8.fnBody s_reset) (C8.fnScope s_reset) .none kV71 dc71 pm71 an71 cd71 ct71) := ⟨⟨oc71, od71, .none, kV71, dc71, pm71, an71, cd71, ct71, sl71, rfl, l71, c71⟩⟩
  have b71 := F71.binds rfl (ps := ["card"]) fun _ _ _ _ _ _ us hl => match us, hl with | [_], _ => rfl
  have F72 : C8.Fun K "answers" "answers" s_answers fa (PySem.W.fnOf "answers" "answers" (C8.fnArgs s_answers) (C8.fnBody s_answers) (C8.fnScope s_answers) .none kV72 dc72 pm72 an72 cd72 ct72) := ⟨⟨oc72, od72, .none, kV72, dc72, pm72, an72, cd72, ct72, sl72, rfl, l72, c72⟩⟩
  have b72 := F72.binds rfl (ps := ["calls"]) fun _ _ _ _ _ _ us hl => match us, hl with | [_], _ => rfl
  refine ⟨PySem.W.fnOf "answers" "answers" (C8.fnArgs s_answers) (C8.fnBody s_answers) (C8.fnScope s_answers) .none kV72 dc72 pm72 an72 cd72 ct72, fun s us hu => match us, hu with | [_], _ => .of_eq rfl, fun base _ _ => ?_⟩
  have c_two_bytes : C8.Cal P w K mg base 1 "two_bytes" sp_two_bytes [] := ok_two_bytes T ⟨F1, (PySem.W.mg_of X G a1), k1⟩ b1 
  have c_number_of : C8.Cal P w K mg base 1 "number_of" sp_number_of [] := ok_number_of T ⟨F2, (PySem.W.mg_of X G a2), k2⟩ b2 
  have c_reply : C8.Cal P w K mg base 2 "reply" sp_reply [] := ok_reply T ⟨F3, (PySem.W.mg_of X G a3), k3⟩ b3 c_two_bytes
  have c_only : C8.Cal P w K mg base 3 "only" sp_only [] := ok_only T ⟨F4, (PySem.W.mg_of X G a4), k4⟩ b4 c_reply
  have c_File_init : C8.Mak P w K mg base 1 "File" CF (sp_File_init CF) [] := ok_File_init T ⟨mkCF, a5, i5, kcCF⟩ (PySem.W.mg_of X G aCF) F5 b5 
  have c_holds_records : C8.Cal P w K mg base 1 "holds_records" sp_holds_records [] := ok_holds_records T ⟨F6, (PySem.W.mg_of X G a6), k6⟩ b6 
  have c_room_of : C8.Cal P w K mg base 1 "room_of" (sp_room_of CF) [] := ok_room_of T ⟨F7, (PySem.W.mg_of X G a7), k7⟩ b7 
  have c_field : C8.Cal P w K mg base 1 "field" sp_field [] := ok_field T ⟨F8, (PySem.W.mg_of X G a8), k8⟩ b8 
  have c_kind_field : C8.Cal P w K mg base 2 "kind_field" (sp_kind_field CF) [] := ok_kind_field T ⟨F9, (PySem.W.mg_of X G a9), k9⟩ b9 c_holds_records c_field
  have c_said_of : C8.Cal P w K mg base 3 "said_of" (sp_said_of CF) [] := ok_said_of T ⟨F10, (PySem.W.mg_of X G a10), k10⟩ b10 c_field c_kind_field c_two_bytes
  have c_Secret_init : C8.Mak P w K mg base 1 "Secret" CS (sp_Secret_init CS) [] := ok_Secret_init T ⟨mkCS, a11, i11, kcCS⟩ (PySem.W.mg_of X G aCS) F11 b11 
  have c_Card_init : C8.Mak P w K mg base 3 "Card" CC (sp_Card_init CF CS CC) [] := ok_Card_init T ⟨mkCC, a12, i12, kcCC⟩ (PySem.W.mg_of X G aCC) F12 b12 c_File_init
  have c_Card_begin_anew : C8.Met P w K mg base 1 CC "begin_anew" (sp_begin_anew CF CS CC) [] := ok_Card_begin_anew T ⟨a13, i13, k13⟩ F13 b13 
  have c_Card_chosen_file : C8.Met P w K mg base 1 CC "chosen_file" (sp_chosen_file CF CS CC) [] := ok_Card_chosen_file T ⟨a14, i14, k14⟩ F14 b14 
  have c_Card_chosen_folder : C8.Met P w K mg base 1 CC "chosen_folder" (sp_chosen_folder CF CS CC) [] := ok_Card_chosen_folder T ⟨a15, i15, k15⟩ F15 b15 
  have c_Card_choose_inner : C8.Met P w K mg base 1 CC "choose_inner" (sp_choose_inner CF CS CC) [] := ok_Card_choose_inner T ⟨a16, i16, k16⟩ F16 b16 
  have c_Card_allows : C8.Met P w K mg base 1 CC "allows" (sp_allows CF CS CC) [] := ok_Card_allows T ⟨a17, i17, k17⟩ F17 b17 
  have c_Card_inside : C8.Met P w K mg base 1 CC "inside" (sp_inside CF CS CC) [] := ok_Card_inside T ⟨a18, i18, k18⟩ F18 b18 
  have c_Card_find_number : C8.Met P w K mg base 2 CC "find_number" (sp_find_number CF CS CC) [] := ok_Card_find_number T ⟨a19, i19, k19⟩ F19 b19 c_Card_inside
  have c_Card_find_short : C8.Met P w K mg base 2 CC "find_short" (sp_find_short CF CS CC) [] := ok_Card_find_short T ⟨a20, i20, k20⟩ F20 b20 c_Card_inside
  have c_Card_find_name : C8.Met P w K mg base 1 CC "find_name" (sp_find_name CF CS CC) [] := ok_Card_find_name T ⟨a21, i21, k21⟩ F21 b21 
  have c_Card_clashes : C8.Met P w K mg base 3 CC "clashes" (sp_clashes CF CS CC) [] := ok_Card_clashes T ⟨a22, i22, k22⟩ F22 b22 c_Card_find_number c_Card_find_name c_Card_find_short
  have c_Card_free_inner : C8.Met P w K mg base 1 CC "free_inner" (sp_free_inner CF CS CC) [] := ok_Card_free_inner T ⟨a23, i23, k23⟩ F23 b23 
  have c_Card_has_room_for : C8.Met P w K mg base 2 CC "has_room_for" (sp_has_room_for CF CS CC) [] := ok_Card_has_room_for T ⟨a24, i24, k24⟩ F24 b24 c_room_of c_Card_free_inner
  have c_Card_put_in : C8.Met P w K mg base 2 CC "put_in" (sp_put_in CF CS CC) [] := ok_Card_put_in T ⟨a25, i25, k25⟩ F25 b25 c_Card_free_inner c_Card_choose_inner
  have c_Card_take_out : C8.Met P w K mg base 1 CC "take_out" (sp_take_out CF CS CC) [] := ok_Card_take_out T ⟨a26, i26, k26⟩ F26 b26 
  have c_Request_init : C8.Mak P w K mg base 1 "Request" CR (sp_Request_init CR) [] := ok_Request_init T ⟨mkCR, a27, i27, kcCR⟩ (PySem.W.mg_of X G aCR) F27 b27 
  have c_Request_is_plain : C8.Met P w K mg base 1 CR "is_plain" (sp_is_plain CR) [] := ok_Request_is_plain T ⟨a28, i28, k28⟩ F28 b28 
  have c_Request_brings : C8.Met P w K mg base 1 CR "brings" (sp_brings CR) [] := ok_Request_brings T ⟨a29, i29, k29⟩ F29 b29 
  have c_amount : C8.Cal P w K mg base 1 "amount" sp_amount [] := ok_amount T ⟨F30, (PySem.W.mg_of X G a30), k30⟩ b30 
  have c_read_request : C8.Cal P w K mg base 3 "read_request" (sp_read_request CR) [] := ok_read_request T ⟨F31, (PySem.W.mg_of X G a31), k31⟩ b31 c_Request_init c_amount
  have c_fields_of : C8.Cal P w K mg base 1 "fields_of" sp_fields_of [] := ok_fields_of T ⟨F32, (PySem.W.mg_of X G a32), k32⟩ b32 
  have c_inner_fields : C8.Cal P w K mg base 2 "inner_fields" sp_inner_fields [] := ok_inner_fields T ⟨F33, (PySem.W.mg_of X G a33), k33⟩ b33 c_fields_of
  have c_kind_is_right : C8.Cal P w K mg base 2 "kind_is_right" sp_kind_is_right [] := ok_kind_is_right T ⟨F34, (PySem.W.mg_of X G a34), k34⟩ b34 c_holds_records
  have c_right_is_right : C8.Cal P w K mg base 1 "right_is_right" sp_right_is_right [] := ok_right_is_right T ⟨F35, (PySem.W.mg_of X G a35), k35⟩ b35 
  have c_content_is_right : C8.Cal P w K mg base 3 "content_is_right" sp_content_is_right [] := ok_content_is_right T ⟨F36, (PySem.W.mg_of X G a36), k36⟩ b36 c_kind_is_right c_number_of c_right_is_right
  have c_marks_in_order : C8.Cal P w K mg base 1 "marks_in_order" sp_marks_in_order [] := ok_marks_in_order T ⟨F37, (PySem.W.mg_of X G a37), k37⟩ b37 
  have c_file_of : C8.Cal P w K mg base 3 "file_of" (sp_file_of CF) [] := ok_file_of T ⟨F38, (PySem.W.mg_of X G a38), k38⟩ b38 c_File_init c_holds_records c_number_of
  have c_wanted_file : C8.Cal P w K mg base 4 "wanted_file" (sp_wanted_file CF) [] := ok_wanted_file T ⟨F39, (PySem.W.mg_of X G a39), k39⟩ b39 c_inner_fields c_file_of c_content_is_right c_marks_in_order
  have c_find_near : C8.Cal P w K mg base 3 "find_near" (sp_find_near CF CS CC) [] := ok_find_near T ⟨F40, (PySem.W.mg_of X G a40), k40⟩ b40 c_Card_find_number c_Card_chosen_folder
  have c_find_path : C8.Cal P w K mg base 3 "find_path" (sp_find_path CF CS CC) [] := ok_find_path T ⟨F41, (PySem.W.mg_of X G a41), k41⟩ b41 c_Card_find_number c_number_of
  have c_choice_status : C8.Cal P w K mg base 1 "choice_status" (sp_choice_status CR) [] := ok_choice_status T ⟨F42, (PySem.W.mg_of X G a42), k42⟩ b42 
  have c_find_choice : C8.Cal P w K mg base 4 "find_choice" (sp_find_choice CF CS CC CR) [] := ok_find_choice T ⟨F43, (PySem.W.mg_of X G a43), k43⟩ b43 c_find_path c_find_near c_Card_find_name c_number_of
  have c_choose : C8.Cal P w K mg base 5 "choose" (CmdP CF CS CC CR mChoose) [] := ok_choose T ⟨F44, (PySem.W.mg_of X G a44), k44⟩ b44 c_choice_status c_find_choice c_Card_choose_inner c_reply c_only c_said_of
  have c_aim : C8.Cal P w K mg base 3 "aim" (sp_aim CF CS CC K) [] := ok_aim T ⟨F45, (PySem.W.mg_of X G a45), k45⟩ b45 c_Card_chosen_file c_Card_find_short c_Card_choose_inner c_Card_allows
  have c_aim_at_bytes : C8.Cal P w K mg base 4 "aim_at_bytes" (sp_aim_at_bytes CF CS CC CR) [] := ok_aim_at_bytes T ⟨F46, (PySem.W.mg_of X G a46), k46⟩ b46 c_aim
  have c_place_of : C8.Cal P w K mg base 1 "place_of" (sp_place_of CR) [] := ok_place_of T ⟨F47, (PySem.W.mg_of X G a47), k47⟩ b47 
  have c_is_behind_end : C8.Cal P w K mg base 1 "is_behind_end" (sp_is_behind_end CF) [] := ok_is_behind_end T ⟨F48, (PySem.W.mg_of X G a48), k48⟩ b48 
  have c_read_bytes : C8.Cal P w K mg base 5 "read_bytes" (CmdP CF CS CC CR mReadB) [] := ok_read_bytes T ⟨F49, (PySem.W.mg_of X G a49), k49⟩ b49 c_aim_at_bytes c_Card_chosen_file c_place_of c_is_behind_end c_reply c_only
  have c_write_bytes : C8.Cal P w K mg base 5 "write_bytes" (CmdP CF CS CC CR mWriteB) [] := ok_write_bytes T ⟨F50, (PySem.W.mg_of X G a50), k50⟩ b50 c_aim_at_bytes c_Card_chosen_file c_place_of c_is_behind_end c_only
  have c_may_make : C8.Cal P w K mg base 2 "may_make" (sp_may_make CF CS CC) [] := ok_may_make T ⟨F51, (PySem.W.mg_of X G a51), k51⟩ b51 c_Card_allows c_Card_chosen_folder
  have c_make_file : C8.Cal P w K mg base 5 "make_file" (CmdP CF CS CC CR mMake) [] := ok_make_file T ⟨F52, (PySem.W.mg_of X G a52), k52⟩ b52 c_wanted_file c_Card_clashes c_Card_put_in c_only c_Request_is_plain c_may_make c_Card_has_room_for
  have c_take_away : C8.Cal P w K mg base 4 "take_away" (CmdP CF CS CC CR mTake) [] := ok_take_away T ⟨F53, (PySem.W.mg_of X G a53), k53⟩ b53 c_Card_find_number c_Card_take_out c_only c_Request_is_plain c_Request_brings c_may_make c_number_of c_Card_inside
  have c_activate : C8.Cal P w K mg base 4 "activate" (CmdP CF CS CC CR mActivate) [] := ok_activate T ⟨F54, (PySem.W.mg_of X G a54), k54⟩ b54 c_Card_begin_anew c_only c_Request_is_plain c_Request_brings
  have c_aim_at_records : C8.Cal P w K mg base 4 "aim_at_records" (sp_aim_at_records CF CS CC CR) [] := ok_aim_at_records T ⟨F55, (PySem.W.mg_of X G a55), k55⟩ b55 c_aim
  have c_is_there : C8.Cal P w K mg base 1 "is_there" (sp_is_there CF) [] := ok_is_there T ⟨F56, (PySem.W.mg_of X G a56), k56⟩ b56 
  have c_read_record : C8.Cal P w K mg base 5 "read_record" (CmdP CF CS CC CR mReadR) [] := ok_read_record T ⟨F57, (PySem.W.mg_of X G a57), k57⟩ b57 c_aim_at_records c_Card_chosen_file c_reply c_only c_is_there
  have c_write_record : C8.Cal P w K mg base 5 "write_record" (CmdP CF CS CC CR mWriteR) [] := ok_write_record T ⟨F58, (PySem.W.mg_of X G a58), k58⟩ b58 c_aim_at_records c_Card_chosen_file c_only c_Request_brings c_is_there
  have c_add_record : C8.Cal P w K mg base 5 "add_record" (CmdP CF CS CC CR mAddR) [] := ok_add_record T ⟨F59, (PySem.W.mg_of X G a59), k59⟩ b59 c_aim_at_records c_Card_chosen_file c_only c_Request_brings
  have c_aim_at_secret : C8.Cal P w K mg base 1 "aim_at_secret" (sp_aim_at_secret CR K) [] := ok_aim_at_secret T ⟨F60, (PySem.W.mg_of X G a60), k60⟩ b60 
  have c_aim_at_known : C8.Cal P w K mg base 2 "aim_at_known" (sp_aim_at_known CF CS CC CR K) [] := ok_aim_at_known T ⟨F61, (PySem.W.mg_of X G a61), k61⟩ b61 c_aim_at_secret
  have c_told_wrong : C8.Cal P w K mg base 4 "told_wrong" (sp_told_wrong CS) [] := ok_told_wrong T ⟨F62, (PySem.W.mg_of X G a62), k62⟩ b62 c_only
  have c_renew : C8.Cal P w K mg base 4 "renew" (sp_renew CS) [] := ok_renew T ⟨F63, (PySem.W.mg_of X G a63), k63⟩ b63 c_only
  have c_standing : C8.Cal P w K mg base 4 "standing" (sp_standing CS) [] := ok_standing T ⟨F64, (PySem.W.mg_of X G a64), k64⟩ b64 c_only
  have c_tell_secret : C8.Cal P w K mg base 5 "tell_secret" (CmdP CF CS CC CR mTell) [] := ok_tell_secret T ⟨F65, (PySem.W.mg_of X G a65), k65⟩ b65 c_aim_at_known c_only c_standing c_told_wrong
  have c_change_secret : C8.Cal P w K mg base 5 "change_secret" (CmdP CF CS CC CR mChange) [] := ok_change_secret T ⟨F66, (PySem.W.mg_of X G a66), k66⟩ b66 c_aim_at_known c_renew c_only c_told_wrong
  have c_free_secret : C8.Cal P w K mg base 5 "free_secret" (CmdP CF CS CC CR mFree) [] := ok_free_secret T ⟨F67, (PySem.W.mg_of X G a67), k67⟩ b67 c_aim_at_known c_renew c_only
  have c_make_secret : C8.Cal P w K mg base 4 "make_secret" (CmdP CF CS CC CR mSecret) [] := ok_make_secret T ⟨F68, (PySem.W.mg_of X G a68), k68⟩ b68 c_aim_at_secret c_Secret_init c_only
  have c_obey : C8.Cal P w K mg base 6 "obey" (sp_obey CF CS CC) [] := ok_obey T ⟨F69, (PySem.W.mg_of X G a69), k69⟩ b69 c_read_request c_choose c_read_bytes c_write_bytes c_read_record c_write_record c_add_record c_tell_secret c_change_secret c_free_secret c_make_secret c_make_file c_take_away c_activate c_only
  have c_command : C8.Cal P w K mg base 7 "command" (sp_command CF CS CC) [] := ok_command T ⟨F70, (PySem.W.mg_of X G a70), k70⟩ b70 c_obey
  have c_reset : C8.Cal P w K mg base 2 "reset" (sp_reset CF CS CC) [] := ok_reset T ⟨F71, (PySem.W.mg_of X G a71), k71⟩ b71 c_Card_begin_anew
  exact ok_answers T ⟨F72, (PySem.W.mg_of X G a72), k72⟩ b72 c_Card_init c_command c_reset
end Cc
end
section
namespace Cc
open PySem PySem.W PyProof.Rows L2
theorem bl_ints (l : List Nat) : bl l = (cInts l).map V.int := by
  unfold bl
  rw [List.map_map]
  rfl
/-- the request, and the answer -/
theorem asked_all : ∀ (K : W.Frag) (H : Hp) (xs : List V) (a : W.Codec.denoteAll PySem.Challenge.rw_chipcard_s01_answers.args),
      OnlyF H → W.Codec.withinAll PySem.Challenge.rw_chipcard_s01_answers.args a = true → W.Codec.app PySem.Challenge.rw_chipcard_s01_answers.args PySem.Challenge.rw_chipcard_s01_answers.asked a = true →
        DwAll K H xs (W.Codec.encAll PySem.Challenge.rw_chipcard_s01_answers.args a) →
          sp_answers K xs H (fun v H' => Dw K H' v (PySem.Challenge.rw_chipcard_s01_answers.ret.enc (W.Codec.app PySem.Challenge.rw_chipcard_s01_answers.args PySem.Challenge.rw_chipcard_s01_answers.f a))) fun x x_1 x_2 => False := by
  intro K H xs a hO hwi hask hx
  cases hx with
  | cons h1 h2 =>
    cases h2
    cases h1 with
    | lst hs ha =>
      have e := L2.ints_dw a.1 _ ha
      subst e
      have q : ((Codec.inLen 0 80000 a.1 && a.1.all (Codec.inInt 0 261)) && true) = true := hwi
      rw [Bool.and_eq_true, Bool.and_eq_true] at q
      have hp : ∀ x ∈ a.1, 0 ≤ x := fun x hx => by
        have z := List.all_eq_true.mp q.1.2 x hx
        unfold Codec.inInt at z
        simp only [Bool.and_eq_true, decide_eq_true_eq] at z
        exact z.1
      have hask : PySd27.answers_asked a.1 = true := hask
      obtain ⟨cs, ok, ha2, hl⟩ := asked_is hask hp
      have el : a.1.map V.int = bl (cNats a.1) := by rw [bl_ints, cInts_nats hp]
      rw [el] at hs
      refine ⟨rfl, _, cNats a.1, cs, rfl, hs, ok, hl, fun c b g hb => good_obey g hb, fun H' p hp => ?_⟩
      show Dw K H' (.ref p) (PySem.Challenge.rw_chipcard_s01_answers.ret.enc (PySd27.answers a.1))
      rw [ha2]
      rw [bl_ints] at hp
      exact .lst (L2.SqL.of hp) (L2.dw_ints _)
end Cc
end
set_option maxHeartbeats 0
open PySem PySem.W PyProof.Rows
theorem PySem.Challenge.cw_chipcard_s01_answers_holds : PySem.Challenge.rw_chipcard_s01_answers.Holds := by
  w_on; k_headS; (case hw => exact ⟨[.list []], by decide +kernel, by decide +kernel⟩)
  k_fillS
  refine L2.walk_specK (r := PySem.Challenge.rw_chipcard_s01_answers) (k := 8) (CX := C8.CX0) (ps := ["calls"]) (sp := Cc.sp_answers) (by decide +kernel) rfl rfl ⟨rfl, by decide, by decide⟩ (fun w h Y => PySem.W.kIn_of Y) ?F ?S (fun _ _ _ _ z => z)
  case F =>
    intro w mg fa h Y KX G hmg
    refine' Cc.all_mk KX G hmg ?aCF ?aCS ?aCC ?aCR ?a1 ?l1 ?c1 ?k1 ?a2 ?l2 ?c2 ?k2 ?a3 ?l3 ?c3 ?k3 ?a4 ?l4 ?c4 ?k4 ?a5 ?i5 ?l5 ?c5 ?k5 ?a6 ?l6 ?c6 ?k6 ?a7 ?l7 ?c7 ?k7 ?a8 ?l8 ?c8 ?k8 ?a9 ?l9 ?c9 ?k9 ?a10 ?l10 ?c10 ?k10 ?a11 ?i11 ?l11 ?c11 ?k11 ?a12 ?i12 ?l12 ?c12 ?k12 ?a13 ?i13 ?l13 ?c13 ?k13 ?a14 ?i14 ?l14 ?c14 ?k14 ?a15 ?i15 ?l15 ?c15 ?k15 ?a16 ?i16 ?l16 ?c16 ?k16 ?a17 ?i17 ?l17 ?c17 ?k17 ?a18 ?i18 ?l18 ?c18 ?k18 ?a19 ?i19 ?l19 ?c19 ?k19 ?a20 ?i20 ?l20 ?c20 ?k20 ?a21 ?i21 ?l21 ?c21 ?k21 ?a22 ?i22 ?l22 ?c22 ?k22 ?a23 ?i23 ?l23 ?c23 ?k23 ?a24 ?i24 ?l24 ?c24 ?k24 ?a25 ?i25 ?l25 ?c25 ?k25 ?a26 ?i26 ?l26 ?c26 ?k26 ?a27 ?i27 ?l27 ?c27 ?k27 ?a28 ?i28 ?l28 ?c28 ?k28 ?a29 ?i29 ?l29 ?c29 ?k29 ?a30 ?l30 ?c30 ?k30 ?a31 ?l31 ?c31 ?k31 ?a32 ?l32 ?c32 ?k32 ?a33 ?l33 ?c33 ?k33 ?a34 ?l34 ?c34 ?k34 ?a35 ?l35 ?c35 ?k35 ?a36 ?l36 ?c36 ?k36 ?a37 ?l37 ?c37 ?k37 ?a38 ?l38 ?c38 ?k38 ?a39 ?l39 ?c39 ?k39 ?a40 ?l40 ?c40 ?k40 ?a41 ?l41 ?c41 ?k41 ?a42 ?l42 ?c42 ?k42 ?a43 ?l43 ?c43 ?k43 ?a44 ?l44 ?c44 ?k44 ?a45 ?l45 ?c45 ?k45 ?a46 ?l46 ?c46 ?k46 ?a47 ?l47 ?c47 ?k47 ?a48 ?l48 ?c48 ?k48 ?a49 ?l49 ?c49 ?k49 ?a50 ?l50 ?c50 ?k50 ?a51 ?l51 ?c51 ?k51 ?a52 ?l52 ?c52 ?k52 ?a53 ?l53 ?c53 ?k53 ?a54 ?l54 ?c54 ?k54 ?a55 ?l55 ?c55 ?k55 ?a56 ?l56 ?c56 ?k56 ?a57 ?l57 ?c57 ?k57 ?a58 ?l58 ?c58 ?k58 ?a59 ?l59 ?c59 ?k59 ?a60 ?l60 ?c60 ?k60 ?a61 ?l61 ?c61 ?k61 ?a62 ?l62 ?c62 ?k62 ?a63 ?l63 ?c63 ?k63 ?a64 ?l64 ?c64 ?k64 ?a65 ?l65 ?c65 ?k65 ?a66 ?l66 ?c66 ?k66 ?a67 ?l67 ?c67 ?k67 ?a68 ?l68 ?c68 ?k68 ?a69 ?l69 ?c69 ?k69 ?a70 ?l70 ?c70 ?k70 ?a71 ?l71 ?c71 ?k71 ?a72 ?l72 ?c72 ?k72 ?pgCF ?hdCF ?poCF ?saCF ?mkCF ?kcCF ?pgCS ?hdCS ?poCS ?saCS ?mkCS ?kcCS ?pgCC ?hdCC ?poCC ?saCC ?mkCC ?kcCC ?pgCR ?hdCR ?poCR ?saCR ?mkCR ?kcCR ?nCF_kind ?nCF_number ?nCF_short ?nCF_name ?nCF_reading ?nCF_writing ?nCF_size ?nCF_content ?nCF_length ?nCF_most ?nCF_records ?nCF_folder ?nCS_word ?nCS_freer ?nCS_most_tries ?nCS_tries ?nCS_freer_tries ?nCS_told ?nCC_slots ?nCC_secrets ?nCC_active ?nCC_folder ?nCC_file ?nCR_group ?nCR_instruction ?nCR_first ?nCR_second ?nCR_data ?nCR_asked ?z_len ?z_enumerate ?z_range ?m_WELL ?m_LESS_THERE ?m_TRIES_LEFT ?m_WRONG_LENGTH ?m_WRONG_KIND ?m_NO_RIGHT ?m_NO_TRIES ?m_NOT_NOW ?m_NONE_CHOSEN ?m_WRONG_DATA ?m_NOT_THERE ?m_NO_RECORD ?m_NO_ROOM ?m_WRONG_PARAMETERS ?m_NO_SECRET ?m_IN_USE ?m_BEHIND_END ?m_LENGTH_IS ?m_NO_INSTRUCTION ?m_NO_CLASS ?m_FOLDER ?m_BYTES ?m_RECORDS ?m_ROUND ?m_OUTER_MARK ?m_KIND_MARK ?m_NUMBER_MARK ?m_SIZE_MARK ?m_NAME_MARK ?m_SHORT_MARK ?m_RIGHTS_MARK ?m_RECORD_WAY ?m_NO_SHORT ?m_ROOM_OF_ANY ?m_MOST_FILES ?m_MOST_ROOM ?m_TOP ?m_TOP_NUMBER ?m_NONE ?m_ALWAYS ?m_HEADER_LENGTH ?m_NOTHING ?m_ALL ?m_RESERVED_NUMBERS ?m_MOST_SHORT ?m_MOST_NAME ?m_MOST_RIGHT ?m_NEVER ?m_BY_NUMBER ?m_BY_NAME ?m_BY_PATH ?m_TELL ?m_TELL_NOTHING ?m_SHORT_BASE ?m_MOST_FIRST ?m_BY_RECORD_NUMBER ?m_AT_THE_END ?m_NOT_A_SHORT ?m_MOST_SECRETS ?m_WORD ?m_PAIR ?m_MOST_TRIES ?m_COMMAND ?m_MOST_BYTES ?m_REFUSAL ?lRN
    (case aCF => k_is)
    (case aCS => k_is)
    (case aCC => k_is)
    (case aCR => k_is)
    (case a1 => k_is)
    (case l1 => k_is)
    (case c1 => k_is)
    (case k1 => k_is)
    (case a2 => k_is)
    (case l2 => k_is)
    (case c2 => k_is)
    (case k2 => k_is)
    (case a3 => k_is)
    (case l3 => k_is)
    (case c3 => k_is)
    (case k3 => k_is)
    (case a4 => k_is)
    (case l4 => k_is)
    (case c4 => k_is)
    (case k4 => k_is)
    (case a5 => k_is)
    (case i5 => k_is)
    (case l5 => k_is)
    (case c5 => k_is)
    (case k5 => k_is)
    (case a6 => k_is)
    (case l6 => k_is)
    (case c6 => k_is)
    (case k6 => k_is)
    (case a7 => k_is)
    (case l7 => k_is)
    (case c7 => k_is)
    (case k7 => k_is)
    (case a8 => k_is)
    (case l8 => k_is)
    (case c8 => k_is)
    (case k8 => k_is)
    (case a9 => k_is)
    (case l9 => k_is)
    (case c9 => k_is)
    (case k9 => k_is)
    (case a10 => k_is)
    (case l10 => k_is)
    (case c10 => k_is)
    (case k10 => k_is)
    (case a11 => k_is)
    (case i11 => k_is)
    (case l11 => k_is)
    (case c11 => k_is)
    (case k11 => k_is)
    (case a12 => k_is)
    (case i12 => k_is)
    (case l12 => k_is)
    (case c12 => k_is)
    (case k12 => k_is)
    (case a13 => k_is)
    (case i13 => k_is)
    (case l13 => k_is)
    (case c13 => k_is)
    (case k13 => k_is)
    (case a14 => k_is)
    (case i14 => k_is)
    (case l14 => k_is)
    (case c14 => k_is)
    (case k14 => k_is)
    (case a15 => k_is)
    (case i15 => k_is)
    (case l15 => k_is)
    (case c15 => k_is)
    (case k15 => k_is)
    (case a16 => k_is)
    (case i16 => k_is)
    (case l16 => k_is)
    (case c16 => k_is)
    (case k16 => k_is)
    (case a17 => k_is)
    (case i17 => k_is)
    (case l17 => k_is)
    (case c17 => k_is)
    (case k17 => k_is)
    (case a18 => k_is)
    (case i18 => k_is)
    (case l18 => k_is)
    (case c18 => k_is)
    (case k18 => k_is)
    (case a19 => k_is)
    (case i19 => k_is)
    (case l19 => k_is)
    (case c19 => k_is)
    (case k19 => k_is)
    (case a20 => k_is)
    (case i20 => k_is)
    (case l20 => k_is)
    (case c20 => k_is)
    (case k20 => k_is)
    (case a21 => k_is)
    (case i21 => k_is)
    (case l21 => k_is)
    (case c21 => k_is)
    (case k21 => k_is)
    (case a22 => k_is)
    (case i22 => k_is)
    (case l22 => k_is)
    (case c22 => k_is)
    (case k22 => k_is)
    (case a23 => k_is)
    (case i23 => k_is)
    (case l23 => k_is)
    (case c23 => k_is)
    (case k23 => k_is)
    (case a24 => k_is)
    (case i24 => k_is)
    (case l24 => k_is)
    (case c24 => k_is)
    (case k24 => k_is)
    (case a25 => k_is)
    (case i25 => k_is)
    (case l25 => k_is)
    (case c25 => k_is)
    (case k25 => k_is)
    (case a26 => k_is)
    (case i26 => k_is)
    (case l26 => k_is)
    (case c26 => k_is)
    (case k26 => k_is)
    (case a27 => k_is)
    (case i27 => k_is)
    (case l27 => k_is)
    (case c27 => k_is)
    (case k27 => k_is)
    (case a28 => k_is)
    (case i28 => k_is)
    (case l28 => k_is)
    (case c28 => k_is)
    (case k28 => k_is)
    (case a29 => k_is)
    (case i29 => k_is)
    (case l29 => k_is)
    (case c29 => k_is)
    (case k29 => k_is)
    (case a30 => k_is)
    (case l30 => k_is)
    (case c30 => k_is)
    (case k30 => k_is)
    (case a31 => k_is)
    (case l31 => k_is)
    (case c31 => k_is)
    (case k31 => k_is)
    (case a32 => k_is)
    (case l32 => k_is)
    (case c32 => k_is)
    (case k32 => k_is)
    (case a33 => k_is)
    (case l33 => k_is)
    (case c33 => k_is)
    (case k33 => k_is)
    (case a34 => k_is)
    (case l34 => k_is)
    (case c34 => k_is)
    (case k34 => k_is)
    (case a35 => k_is)
    (case l35 => k_is)
    (case c35 => k_is)
    (case k35 => k_is)
    (case a36 => k_is)
    (case l36 => k_is)
    (case c36 => k_is)
    (case k36 => k_is)
    (case a37 => k_is)
    (case l37 => k_is)
    (case c37 => k_is)
    (case k37 => k_is)
    (case a38 => k_is)
    (case l38 => k_is)
    (case c38 => k_is)
    (case k38 => k_is)
    (case a39 => k_is)
    (case l39 => k_is)
    (case c39 => k_is)
    (case k39 => k_is)
    (case a40 => k_is)
    (case l40 => k_is)
    (case c40 => k_is)
    (case k40 => k_is)
    (case a41 => k_is)
    (case l41 => k_is)
    (case c41 => k_is)
    (case k41 => k_is)
    (case a42 => k_is)
    (case l42 => k_is)
    (case c42 => k_is)
    (case k42 => k_is)
    (case a43 => k_is)
    (case l43 => k_is)
    (case c43 => k_is)
    (case k43 => k_is)
    (case a44 => k_is)
    (case l44 => k_is)
    (case c44 => k_is)
    (case k44 => k_is)
    (case a45 => k_is)
    (case l45 => k_is)
    (case c45 => k_is)
    (case k45 => k_is)
    (case a46 => k_is)
    (case l46 => k_is)
    (case c46 => k_is)
    (case k46 => k_is)
    (case a47 => k_is)
    (case l47 => k_is)
    (case c47 => k_is)
    (case k47 => k_is)
    (case a48 => k_is)
    (case l48 => k_is)
    (case c48 => k_is)
    (case k48 => k_is)
    (case a49 => k_is)
    (case l49 => k_is)
    (case c49 => k_is)
    (case k49 => k_is)
    (case a50 => k_is)
    (case l50 => k_is)
    (case c50 => k_is)
    (case k50 => k_is)
    (case a51 => k_is)
    (case l51 => k_is)
    (case c51 => k_is)
    (case k51 => k_is)
    (case a52 => k_is)
    (case l52 => k_is)
    (case c52 => k_is)
    (case k52 => k_is)
    (case a53 => k_is)
    (case l53 => k_is)
    (case c53 => k_is)
    (case k53 => k_is)
    (case a54 => k_is)
    (case l54 => k_is)
    (case c54 => k_is)
    (case k54 => k_is)
    (case a55 => k_is)
    (case l55 => k_is)
    (case c55 => k_is)
    (case k55 => k_is)
    (case a56 => k_is)
    (case l56 => k_is)
    (case c56 => k_is)
    (case k56 => k_is)
    (case a57 => k_is)
    (case l57 => k_is)
    (case c57 => k_is)
    (case k57 => k_is)
    (case a58 => k_is)
    (case l58 => k_is)
    (case c58 => k_is)
    (case k58 => k_is)
    (case a59 => k_is)
    (case l59 => k_is)
    (case c59 => k_is)
    (case k59 => k_is)
    (case a60 => k_is)
    (case l60 => k_is)
    (case c60 => k_is)
    (case k60 => k_is)
    (case a61 => k_is)
    (case l61 => k_is)
    (case c61 => k_is)
    (case k61 => k_is)
    (case a62 => k_is)
    (case l62 => k_is)
    (case c62 => k_is)
    (case k62 => k_is)
    (case a63 => k_is)
    (case l63 => k_is)
    (case c63 => k_is)
    (case k63 => k_is)
    (case a64 => k_is)
    (case l64 => k_is)
    (case c64 => k_is)
    (case k64 => k_is)
    (case a65 => k_is)
    (case l65 => k_is)
    (case c65 => k_is)
    (case k65 => k_is)
    (case a66 => k_is)
    (case l66 => k_is)
    (case c66 => k_is)
    (case k66 => k_is)
    (case a67 => k_is)
    (case l67 => k_is)
    (case c67 => k_is)
    (case k67 => k_is)
    (case a68 => k_is)
    (case l68 => k_is)
    (case c68 => k_is)
    (case k68 => k_is)
    (case a69 => k_is)
    (case l69 => k_is)
    (case c69 => k_is)
    (case k69 => k_is)
    (case a70 => k_is)
    (case l70 => k_is)
    (case c70 => k_is)
    (case k70 => k_is)
    (case a71 => k_is)
    (case l71 => k_is)
    (case c71 => k_is)
    (case k71 => k_is)
    (case a72 => k_is)
    (case l72 => k_is)
    (case c72 => k_is)
    (case k72 => k_is)
    (case pgCF => k_is)
    (case hdCF => k_is)
    (case poCF => k_is)
    (case saCF => k_is)
    (case mkCF => k_is)
    (case kcCF => k_is)
    (case pgCS => k_is)
    (case hdCS => k_is)
    (case poCS => k_is)
    (case saCS => k_is)
    (case mkCS => k_is)
    (case kcCS => k_is)
    (case pgCC => k_is)
    (case hdCC => k_is)
    (case poCC => k_is)
    (case saCC => k_is)
    (case mkCC => k_is)
    (case kcCC => k_is)
    (case pgCR => k_is)
    (case hdCR => k_is)
    (case poCR => k_is)
    (case saCR => k_is)
    (case mkCR => k_is)
    (case kcCR => k_is)
    (case nCF_kind => k_is)
    (case nCF_number => k_is)
    (case nCF_short => k_is)
    (case nCF_name => k_is)
    (case nCF_reading => k_is)
    (case nCF_writing => k_is)
    (case nCF_size => k_is)
    (case nCF_content => k_is)
    (case nCF_length => k_is)
    (case nCF_most => k_is)
    (case nCF_records => k_is)
    (case nCF_folder => k_is)
    (case nCS_word => k_is)
    (case nCS_freer => k_is)
    (case nCS_most_tries => k_is)
    (case nCS_tries => k_is)
    (case nCS_freer_tries => k_is)
    (case nCS_told => k_is)
    (case nCC_slots => k_is)
    (case nCC_secrets => k_is)
    (case nCC_active => k_is)
    (case nCC_folder => k_is)
    (case nCC_file => k_is)
    (case nCR_group => k_is)
    (case nCR_instruction => k_is)
    (case nCR_first => k_is)
    (case nCR_second => k_is)
    (case nCR_data => k_is)
    (case nCR_asked => k_is)
    (case z_len => k_is)
    (case z_enumerate => k_is)
    (case z_range => k_is)
    (case m_WELL => k_is)
    (case m_LESS_THERE => k_is)
    (case m_TRIES_LEFT => k_is)
    (case m_WRONG_LENGTH => k_is)
    (case m_WRONG_KIND => k_is)
    (case m_NO_RIGHT => k_is)
    (case m_NO_TRIES => k_is)
    (case m_NOT_NOW => k_is)
    (case m_NONE_CHOSEN => k_is)
    (case m_WRONG_DATA => k_is)
    (case m_NOT_THERE => k_is)
    (case m_NO_RECORD => k_is)
    (case m_NO_ROOM => k_is)
    (case m_WRONG_PARAMETERS => k_is)
    (case m_NO_SECRET => k_is)
    (case m_IN_USE => k_is)
    (case m_BEHIND_END => k_is)
    (case m_LENGTH_IS => k_is)
    (case m_NO_INSTRUCTION => k_is)
    (case m_NO_CLASS => k_is)
    (case m_FOLDER => k_is)
    (case m_BYTES => k_is)
    (case m_RECORDS => k_is)
    (case m_ROUND => k_is)
    (case m_OUTER_MARK => k_is)
    (case m_KIND_MARK => k_is)
    (case m_NUMBER_MARK => k_is)
    (case m_SIZE_MARK => k_is)
    (case m_NAME_MARK => k_is)
    (case m_SHORT_MARK => k_is)
    (case m_RIGHTS_MARK => k_is)
    (case m_RECORD_WAY => k_is)
    (case m_NO_SHORT => k_is)
    (case m_ROOM_OF_ANY => k_is)
    (case m_MOST_FILES => k_is)
    (case m_MOST_ROOM => k_is)
    (case m_TOP => k_is)
    (case m_TOP_NUMBER => k_is)
    (case m_NONE => k_is)
    (case m_ALWAYS => k_is)
    (case m_HEADER_LENGTH => k_is)
    (case m_NOTHING => k_is)
    (case m_ALL => k_is)
    (case m_RESERVED_NUMBERS => k_is)
    (case m_MOST_SHORT => k_is)
    (case m_MOST_NAME => k_is)
    (case m_MOST_RIGHT => k_is)
    (case m_NEVER => k_is)
    (case m_BY_NUMBER => k_is)
    (case m_BY_NAME => k_is)
    (case m_BY_PATH => k_is)
    (case m_TELL => k_is)
    (case m_TELL_NOTHING => k_is)
    (case m_SHORT_BASE => k_is)
    (case m_MOST_FIRST => k_is)
    (case m_BY_RECORD_NUMBER => k_is)
    (case m_AT_THE_END => k_is)
    (case m_NOT_A_SHORT => k_is)
    (case m_MOST_SECRETS => k_is)
    (case m_WORD => k_is)
    (case m_PAIR => k_is)
    (case m_MOST_TRIES => k_is)
    (case m_COMMAND => k_is)
    (case m_MOST_BYTES => k_is)
    (case m_REFUSAL => k_is)
    (case lRN => k_is)
  case S =>
    exact Cc.asked_all

#print axioms PySem.Challenge.cw_chipcard_s01_answers_holds
