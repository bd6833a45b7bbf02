import PyProof.Rows.All
import Wide.All
import OpenK.AllK
import Wide.FinOn
import HandS.ForMost
import HandS.Deep
import HandS.IsInst
import HandS.Evl
import HandS.Steps
import HandS.Zip
import HandS.TupAny
import HandS.Lambda
import HandS.SetFor
import HandS.EndOwn
import KE.KExcIs
import KE.KIsAll
import HandS.Set
import HandS.SetTxt0
import KE.GoesMore
import HandS.Conv
import HandS.Walk
import HandS.List
import HandS.Dict
import HandS.Strs
import HandS.WordsExc
import HandS.ExcOwn
import HandS.DictTup
import KE.KItemsList
import HandS.ExcInit
import HandS.FStr
import HandS.ExcField
import HandS.Text
import HandS.Flow
import HandS.Style
import PyProof.Rows.StrStep
import KE.KDflt
import PyProof.DefCall
import HandS.TupMul
import PySem.Challenge.RW_castslots_k01_families_looked_at
set_option Elab.async false
set_option linter.all false
set_option maxRecDepth 100000
set_option maxHeartbeats 4000000
namespace KS
open PySem PySem.Spec PyProof.Rows L2 Evl
/-! ### data on the tracked heap -/
mutual
inductive D (H : Hp) : V → PyData → Prop
  | non : D H .non .none
  | bl (b : Bool) : D H (.bl b) (.bool b)
  | int (i : Int) : D H (.int i) (.int i)
  | str (x : Str) : D H (.str x) (.str x)
  | lst {a : Addr} {xs : List V} {ds : List PyData} : H a = some (.lst xs) → DA H xs ds → D H (.ref a) (.list ds)
  | tup {a : Addr} {xs : List V} {ds : List PyData} : H a = some (.tup xs) → DA H xs ds → D H (.ref a) (.tuple ds)
inductive DA (H : Hp) : List V → List PyData → Prop
  | nil : DA H [] []
  | cons {v : V} {vs : List V} {d : PyData} {ds : List PyData} : D H v d → DA H vs ds → DA H (v :: vs) (d :: ds)
end
section
variable {K : PySem.W.Frag} {H H' : Hp} {v : V} {d : PyData} {xs : List V} {ds : List PyData}
mutual
theorem D.dp : ∀ {v : V} {d : PyData}, D H v d → Dp K H v d
  | _, _, .non => .non
  | _, _, .bl b => .bl b
  | _, _, .int b => .int b
  | _, _, .str b => .str b
  | _, _, .lst h a => .lst (SqL.of h) a.dp
  | _, _, .tup h a => .tup (SqT.of h) a.dp
theorem DA.dp : ∀ {xs : List V} {ds : List PyData}, DA H xs ds → DpAll K H xs ds
  | _, _, .nil => .nil
  | _, _, .cons h t => .cons h.dp t.dp
end
mutual
theorem D.mono (e : Ex H H') : ∀ {v : V} {d : PyData}, D H v d → D H' v d
  | _, _, .non => .non
  | _, _, .bl b => .bl b
  | _, _, .int b => .int b
  | _, _, .str b => .str b
  | _, _, .lst h a => .lst (e _ _ h) (a.mono e)
  | _, _, .tup h a => .tup (e _ _ h) (a.mono e)
theorem DA.mono (e : Ex H H') : ∀ {xs : List V} {ds : List PyData}, DA H xs ds → DA H' xs ds
  | _, _, .nil => .nil
  | _, _, .cons h t => .cons (h.mono e) (t.mono e)
end
/-! data without a list -/
mutual
def flatT : PyData → Bool
  | .list _ => false
  | .tuple ds => flatTs ds
  | _ => true
def flatTs : List PyData → Bool
  | [] => true
  | d :: ds => flatT d && flatTs ds
end
/-- every tuple stays -/
def Tu (H H' : Hp) : Prop := ∀ a xs, H a = some (.tup xs) → H' a = some (.tup xs)
theorem Tu.refl (H : Hp) : Tu H H := fun _ _ h => h
theorem Tu.trans {H H1 H2 : Hp} (a : Tu H H1) (b : Tu H1 H2) : Tu H H2 := fun x o h => b x o (a x o h)
theorem tu_ex (e : Ex H H') : Tu H H' := fun a xs h => e a _ h
mutual
theorem D.keep (e : Tu H H') : ∀ {v : V} {d : PyData}, flatT d = true → D H v d → D H' v d
  | _, _, _, .non => .non
  | _, _, _, .bl b => .bl b
  | _, _, _, .int b => .int b
  | _, _, _, .str b => .str b
  | _, _, f, .lst h a => by cases f
  | _, _, f, .tup h a => .tup (e _ _ h) (DA.keep e (by simpa [flatT] using f) a)
theorem DA.keep (e : Tu H H') : ∀ {xs : List V} {ds : List PyData}, flatTs ds = true → DA H xs ds → DA H' xs ds
  | _, _, _, .nil => .nil
  | _, _, f, .cons h t => by
    rw [flatTs, Bool.and_eq_true] at f
    exact .cons (D.keep e f.1 h) (DA.keep e f.2 t)
end
theorem DA.len : ∀ {xs : List V} {ds : List PyData}, DA H xs ds → xs.length = ds.length
  | _, _, .nil => rfl
  | _, _, .cons _ t => congrArg (· + 1) t.len
theorem DA.get : ∀ {xs : List V} {ds : List PyData} {i : Nat} {d : PyData}, DA H xs ds → ds[i]? = some d → ∃ x, xs[i]? = some x ∧ D H x d
  | _, _, _, _, .nil, e => by simp at e
  | _, _, 0, _, .cons h _, e => by
    simp at e; subst e; exact ⟨_, rfl, h⟩
  | _, _, i + 1, d, .cons _ t, e => by
    obtain ⟨x, h1, h2⟩ := t.get (i := i) (d := d) (by simpa using e)
    exact ⟨x, by simpa using h1, h2⟩
theorem DA.get2 : ∀ {xs : List V} {ds : List PyData} {i : Nat} {x : V}, DA H xs ds → xs[i]? = some x → ∃ d, ds[i]? = some d ∧ D H x d
  | _, _, _, _, .nil, e => by simp at e
  | _, _, 0, _, .cons h _, e => by
    simp at e; subst e; exact ⟨_, rfl, h⟩
  | _, _, i + 1, d, .cons _ t, e => by
    obtain ⟨x, h1, h2⟩ := t.get2 (i := i) (x := d) (by simpa using e)
    exact ⟨x, by simpa using h1, h2⟩
theorem DA.append : ∀ {xs ys : List V} {ds es : List PyData}, DA H xs ds → DA H ys es → DA H (xs ++ ys) (ds ++ es)
  | _, _, _, _, .nil, b => b
  | _, _, _, _, .cons h t, b => .cons h (t.append b)
theorem DA.one (h : D H v d) : DA H [v] [d] := .cons h .nil
theorem DA.take : ∀ {xs : List V} {ds : List PyData} (n : Nat), DA H xs ds → DA H (xs.take n) (ds.take n)
  | _, _, 0, _ => .nil
  | _, _, _ + 1, .nil => .nil
  | _, _, n + 1, .cons h t => .cons h (t.take n)
theorem DA.drop : ∀ {xs : List V} {ds : List PyData} (n : Nat), DA H xs ds → DA H (xs.drop n) (ds.drop n)
  | _, _, 0, h => h
  | _, _, _ + 1, .nil => .nil
  | _, _, n + 1, .cons _ t => t.drop n
theorem DA.at {i : Int} (h : DA H xs ds) (e : atI ds i = some d) : ∃ x, atI xs i = some x ∧ D H x d := by
  unfold atI at e ⊢
  rw [h.len]
  cases q : ixN ds.length i with
  | none => rw [q] at e; cases e
  | some j =>
    rw [q] at e
    obtain ⟨x, h1, h2⟩ := h.get (show ds[j]? = some d from e)
    exact ⟨x, h1, h2⟩
theorem D.toInt {i : Int} (h : D H v (.int i)) : v = .int i := by cases h; rfl
theorem D.toBool {b : Bool} (h : D H v (.bool b)) : v = .bl b := by cases h; rfl
theorem D.toStr {s : Str} (h : D H v (.str s)) : v = .str s := by cases h; rfl
theorem D.toNone (h : D H v .none) : v = .non := by cases h; rfl
theorem D.toTup (h : D H v (.tuple ds)) : ∃ a xs, v = .ref a ∧ H a = some (.tup xs) ∧ DA H xs ds := by
  cases h with
  | tup h t => exact ⟨_, _, rfl, h, t⟩
theorem D.toLst (h : D H v (.list ds)) : ∃ a xs, v = .ref a ∧ H a = some (.lst xs) ∧ DA H xs ds := by
  cases h with
  | lst h t => exact ⟨_, _, rfl, h, t⟩
theorem DA.strs : ∀ {xs : List V} {ss : List Str}, DA H xs (ss.map PyData.str) → xs = ss.map V.str
  | _, [], .nil => rfl
  | _, s :: ss, .cons h t => by rw [h.toStr, t.strs]; rfl
theorem DA.ints : ∀ {xs : List V} {ss : List Int}, DA H xs (ss.map PyData.int) → xs = ss.map V.int
  | _, [], .nil => rfl
  | _, s :: ss, .cons h t => by rw [h.toInt, t.ints]; rfl
theorem DA.bools : ∀ {xs : List V} {ss : List Bool}, DA H xs (ss.map PyData.bool) → xs = ss.map V.bl
  | _, [], .nil => rfl
  | _, s :: ss, .cons h t => by rw [h.toBool, t.bools]; rfl
theorem DA.ofInts : ∀ (ss : List Int), DA H (ss.map V.int) (ss.map PyData.int)
  | [] => .nil
  | s :: ss => .cons (.int s) (DA.ofInts ss)
theorem DA.ofStrs : ∀ (ss : List Str), DA H (ss.map V.str) (ss.map PyData.str)
  | [] => .nil
  | s :: ss => .cons (.str s) (DA.ofStrs ss)
end
/-! ### what an expression tells, as data -/
def ED (te : TE) (σ : L2.St) (H : Hp) (d : PyData) : Prop := ∀ H1, Ex H H1 → ∀ Q : VK, (∀ v H2, Ex H1 H2 → D H2 v d → Q v H2) → te σ H1 Q
/-- a new list -/
def EL (te : TE) (σ : L2.St) (H : Hp) (ds : List PyData) : Prop := ∀ H1, Ex H H1 → ∀ Q : VK, (∀ p xs H2, H1 p = none → Ex H1 H2 → H2 p = some (.lst xs) → DA H2 xs ds → Q (.ref p) H2) → te σ H1 Q
def EAs (ta : TA) (σ : L2.St) (H : Hp) (ds : List PyData) : Prop := ∀ H1, Ex H H1 → ∀ Q : List V → Hp → Prop, (∀ vs H2, Ex H1 H2 → DA H2 vs ds → Q vs H2) → ta σ H1 Q
section
variable {K : PySem.W.Frag} {σ : L2.St} {H H' : Hp} {ta tb te tx : TE} {t u : TT} {v : V} {r : R2} {d d' : PyData} {ds es : List PyData}
theorem ED.mono (e : Ex H H') (h : ED te σ H d) : ED te σ H' d := fun H1 a Q q => h H1 (e.trans a) Q q
theorem EL.ed (h : EL te σ H ds) : ED te σ H (.list ds) := fun H1 e Q q => h H1 e Q fun p xs H2 _ e2 h2 a => q _ H2 e2 (.lst h2 a)
theorem ed_var {i : Nat} (h : σ[i]? = some (some v)) (hd : D H v d) : ED (tVar i) σ H d := fun H1 e _ q => ⟨v, h, q v H1 (Ex.refl H1) (hd.mono e)⟩
theorem ed_c (h : ∀ H : Hp, D H v d) : ED (tC v) σ H d := fun H1 _ _ q => q v H1 (Ex.refl H1) (h H1)
theorem ed_ci (i : Int) : ED (tC (.int i)) σ H (.int i) := ed_c fun _ => .int i
theorem ed_cs (s : Str) : ED (tC (.str s)) σ H (.str s) := ed_c fun _ => .str s
theorem ed_cb (b : Bool) : ED (tC (.bl b)) σ H (.bool b) := ed_c fun _ => .bl b
theorem ed_cn : ED (tC .non) σ H .none := ed_c fun _ => .non
theorem ed_is (h : ED te σ H d) (e : d = d') : ED te σ H d' := e ▸ h
theorem ed_bin {f : Hp → Prop} (ha : ED ta σ H d) (hb : ED tb σ H d') {z : PyData} (hr : ∀ x y H1, Ex H H1 → D H1 x d → D H1 y d' → ∀ Q : VK, (∀ v H2, Ex H1 H2 → D H2 v z → Q v H2) → r x y H1 Q) : ED (tOp r ta tb) σ H z := fun H1 e Q q =>
  ha H1 e _ fun x H2 e2 hx => hb H2 (e.trans e2) _ fun y H3 e3 hy => hr x y H3 ((e.trans e2).trans e3) (hx.mono e3) hy Q fun v H4 e4 hv => q v H4 ((e2.trans e3).trans e4) hv
theorem ed_bin' (ha : ED ta σ H d) (hb : ED tb σ H d') {z : PyData} (hr : ∀ x y H1, Ex H H1 → D H1 x d → D H1 y d' → ∀ Q : VK, (∀ v H2, Ex H1 H2 → D H2 v z → Q v H2) → r x y H1 Q) : ED (tOp r ta tb) σ H z := ed_bin (f := fun _ => True) ha hb hr
theorem ed_I0 {g : Int → Int → V} {i j : Int} (ha : ED ta σ H (.int i)) (hb : ED tb σ H (.int j)) (hg : ∀ H : Hp, D H (g i j) d) : ED (tOp (rI0 g) ta tb) σ H d := ed_bin' ha hb fun x y H1 _ hx hy Q q =>
  ⟨i, j, hx.toInt, hy.toInt, q _ H1 (Ex.refl H1) (hg H1)⟩
theorem ed_I {C : Int → Int → Prop} {g : Int → Int → V} {i j : Int} (ha : ED ta σ H (.int i)) (hb : ED tb σ H (.int j)) (hc : C i j) (hg : ∀ H : Hp, D H (g i j) d) : ED (tOp (rI C g) ta tb) σ H d := ed_bin' ha hb fun x y H1 _ hx hy Q q =>
  ⟨i, j, hx.toInt, hy.toInt, hc, q _ H1 (Ex.refl H1) (hg H1)⟩
theorem ed_ixT {i : Int} (ha : ED ta σ H (.tuple ds)) (hb : ED tb σ H (.int i)) (hd : atI ds i = some d) : ED (tOp (rIxT K) ta tb) σ H d := ed_bin' ha hb fun x y H1 _ hx hy Q q => by
  obtain ⟨a, xs, rfl, h1, h2⟩ := hx.toTup
  obtain ⟨z, h3, h4⟩ := h2.at hd
  exact ⟨a, xs, i, z, rfl, hy.toInt, SqT.of h1, h3, q z H1 (Ex.refl H1) h4⟩
theorem ed_ixL {i : Int} (ha : ED ta σ H (.list ds)) (hb : ED tb σ H (.int i)) (hd : atI ds i = some d) : ED (tOp (rIxL K) ta tb) σ H d := ed_bin' ha hb fun x y H1 _ hx hy Q q => by
  obtain ⟨a, xs, rfl, h1, h2⟩ := hx.toLst
  obtain ⟨z, h3, h4⟩ := h2.at hd
  exact ⟨a, xs, i, z, rfl, hy.toInt, SqL.of h1, h3, q z H1 (Ex.refl H1) h4⟩
theorem ed_eqD (ha : ED ta σ H d) (hb : ED tb σ H d') (s1 : SeqAt.shaped d = true) (s2 : SeqAt.shaped d' = true) : ED (tOp (rEqD K) ta tb) σ H (.bool (PyData.eqv d d')) := ed_bin' ha hb fun x y H1 _ hx hy Q q =>
  ⟨d, d', hx.dp, hy.dp, s1, s2, q _ H1 (Ex.refl H1) (.bl _)⟩
theorem ed_neD (ha : ED ta σ H d) (hb : ED tb σ H d') (s1 : SeqAt.shaped d = true) (s2 : SeqAt.shaped d' = true) : ED (tOp (rNeD K) ta tb) σ H (.bool (!PyData.eqv d d')) := ed_bin' ha hb fun x y H1 _ hx hy Q q =>
  ⟨d, d', hx.dp, hy.dp, s1, s2, q _ H1 (Ex.refl H1) (.bl _)⟩
theorem ed_inD (ha : ED ta σ H d) (hb : ED tb σ H (.list ds)) (s1 : SeqAt.shaped d = true) (s2 : SeqAt.shaped (.list ds) = true) : ED (tOp (rInD K) ta tb) σ H (.bool (ds.any fun z => PyData.eqv z d)) := ed_bin' ha hb fun x y H1 _ hx hy Q q =>
  ⟨d, ds, hx.dp, hy.dp, s1, s2, q _ H1 (Ex.refl H1) (.bl _)⟩
theorem ed_notInD (ha : ED ta σ H d) (hb : ED tb σ H (.list ds)) (s1 : SeqAt.shaped d = true) (s2 : SeqAt.shaped (.list ds) = true) : ED (tOp (rNotInD K) ta tb) σ H (.bool (!ds.any fun z => PyData.eqv z d)) := ed_bin' ha hb fun x y H1 _ hx hy Q q =>
  ⟨d, ds, hx.dp, hy.dp, s1, s2, q _ H1 (Ex.refl H1) (.bl _)⟩
/-- scalars -/
def scalD : PyData → Bool
  | .none | .bool _ | .int _ | .str _ => true
  | _ => false
theorem ed_inS {c : Nat} {z : Str} (ha : ED ta σ H (.str ⟨#[c]⟩)) (hb : ED tb σ H (.str z)) : ED (tOp rInS ta tb) σ H (.bool (decide (c ∈ z.cps.toList))) := ed_bin' ha hb fun x y H1 _ hx hy Q q =>
  ⟨c, z, hx.toStr, hy.toStr, q _ H1 (Ex.refl H1) (.bl _)⟩
def isND : PyData → Bool
  | .none => true
  | _ => false
theorem ed_isN {b : Bool} (ha : ED ta σ H d) (hb : isND d = b) : ED (tOp rIsN ta (tC .non)) σ H (.bool b) := ed_bin' ha ed_cn fun x y H1 _ hx hy Q q =>
  ⟨hy.toNone, by
    have e : decide (x = V.non) = b := by
      subst hb
      cases hx <;> simp [isND]
    rw [e]
    exact q _ H1 (Ex.refl H1) (.bl _)⟩
theorem ed_notN {b : Bool} (ha : ED ta σ H d) (hb : (!isND d) = b) : ED (tOp rNotN ta (tC .non)) σ H (.bool b) := ed_bin' ha ed_cn fun x y H1 _ hx hy Q q =>
  ⟨hy.toNone, by
    have e : (!decide (x = V.non)) = b := by
      subst hb
      cases hx <;> simp [isND]
    rw [e]
    exact q _ H1 (Ex.refl H1) (.bl _)⟩
theorem ed_eqS {s s' : Str} (ha : ED ta σ H (.str s)) (hb : ED tb σ H (.str s')) : ED (tOp rEq ta tb) σ H (.bool (decide (s = s'))) := ed_bin' ha hb fun x y H1 _ hx hy Q q => by
  have e1 := hx.toStr
  have e2 := hy.toStr
  subst e1 e2
  refine ⟨rfl, ?_⟩
  have e : decide (V.str s = V.str s') = decide (s = s') := by
    by_cases h : s = s'
    · subst h; simp
    · rw [decide_eq_false h]; exact decide_eq_false (fun z => h (V.str.inj z))
  rw [e]
  exact q _ H1 (Ex.refl H1) (.bl _)
theorem ed_eqI {s s' : Int} (ha : ED ta σ H (.int s)) (hb : ED tb σ H (.int s')) : ED (tOp rEq ta tb) σ H (.bool (decide (s = s'))) := ed_bin' ha hb fun x y H1 _ hx hy Q q => by
  have e1 := hx.toInt
  have e2 := hy.toInt
  subst e1 e2
  refine ⟨rfl, ?_⟩
  have e : decide (V.int s = V.int s') = decide (s = s') := by
    by_cases h : s = s'
    · subst h; simp
    · rw [decide_eq_false h]; exact decide_eq_false (fun z => h (V.int.inj z))
  rw [e]
  exact q _ H1 (Ex.refl H1) (.bl _)
theorem ed_neI {s s' : Int} (ha : ED ta σ H (.int s)) (hb : ED tb σ H (.int s')) : ED (tOp rNe ta tb) σ H (.bool (!decide (s = s'))) := ed_bin' ha hb fun x y H1 _ hx hy Q q => by
  have e1 := hx.toInt
  have e2 := hy.toInt
  subst e1 e2
  refine ⟨rfl, ?_⟩
  have e : decide (V.int s = V.int s') = decide (s = s') := by
    by_cases h : s = s'
    · subst h; simp
    · rw [decide_eq_false h]; exact decide_eq_false (fun z => h (V.int.inj z))
  rw [e]
  exact q _ H1 (Ex.refl H1) (.bl _)
theorem ed_eqB {s s' : Bool} (ha : ED ta σ H (.bool s)) (hb : ED tb σ H (.bool s')) : ED (tOp rEq ta tb) σ H (.bool (decide (s = s'))) := ed_bin' ha hb fun x y H1 _ hx hy Q q => by
  have e1 := hx.toBool
  have e2 := hy.toBool
  subst e1 e2
  refine ⟨rfl, ?_⟩
  have e : decide (V.bl s = V.bl s') = decide (s = s') := by cases s <;> cases s' <;> rfl
  rw [e]
  exact q _ H1 (Ex.refl H1) (.bl _)
theorem ed_neB {s s' : Bool} (ha : ED ta σ H (.bool s)) (hb : ED tb σ H (.bool s')) : ED (tOp rNe ta tb) σ H (.bool (!decide (s = s'))) := ed_bin' ha hb fun x y H1 _ hx hy Q q => by
  have e1 := hx.toBool
  have e2 := hy.toBool
  subst e1 e2
  refine ⟨rfl, ?_⟩
  have e : decide (V.bl s = V.bl s') = decide (s = s') := by cases s <;> cases s' <;> rfl
  rw [e]
  exact q _ H1 (Ex.refl H1) (.bl _)
/-! arguments, displays, calls -/
theorem eas_nil : EAs tNil σ H [] := fun H1 _ _ q => q [] H1 (Ex.refl H1) .nil
theorem eas_cons {tr : TA} (h : ED ta σ H d) (hr : EAs tr σ H ds) : EAs (tCons ta tr) σ H (d :: ds) := fun H1 e _ q =>
  h H1 e _ fun v H2 e2 hv => hr H2 (e.trans e2) _ fun vs H3 e3 ha => q _ H3 (e2.trans e3) (.cons (hv.mono e3) ha)
theorem eas1 (h : ED ta σ H d) : EAs (tCons ta tNil) σ H [d] := eas_cons h eas_nil
theorem eas2 (h : ED ta σ H d) (h2 : ED tb σ H d') : EAs (tCons ta (tCons tb tNil)) σ H [d, d'] := eas_cons h (eas1 h2)
theorem ed_tup {ta : TA} (h : EAs ta σ H ds) (hl : ds.length ≤ 100000) : ED (tTup ta) σ H (.tuple ds) := fun H1 e _ q =>
  h H1 e _ fun vs H2 e2 ha => ⟨sz_of (by rw [ha.len]; exact hl), fun p hp => q _ _ (e2.trans (Ex.new hp)) (.tup upd_same (ha.mono (Ex.new hp)))⟩
theorem el_lst' {ta : TA} (h : EAs ta σ H ds) (hl : ds.length ≤ 100000) : EL (tLst ta) σ H ds := fun H1 e _ q =>
  h H1 e _ fun vs H2 e2 ha => ⟨sz_of (by rw [ha.len]; exact hl), fun p hp => q p vs _ (fresh_back e2 hp) (e2.trans (Ex.new hp)) upd_same (ha.mono (Ex.new hp))⟩
def spD (R : List PyData → PyData → Prop) : Sp := fun vs H Q _ => ∃ ds d, DA H vs ds ∧ R ds d ∧ ∀ v H', Ex H H' → D H' v d → Q v H'
def spL (R : List PyData → List PyData → Prop) : Sp := fun vs H Q _ => ∃ ds es, DA H vs ds ∧ R ds es ∧ ∀ p xs H', H p = none → Ex H H' → H' p = some (.lst xs) → DA H' xs es → Q (.ref p) H'
theorem ed_call {R : List PyData → PyData → Prop} {E : XK} {ta : TA} (h : EAs ta σ H ds) (hR : R ds d) : ED (tCall (spD R) [] E ta) σ H d := fun H1 e Q q =>
  h H1 e _ fun vs H2 e2 ha => ⟨ds, d, by rw [List.append_nil]; exact ha, hR, fun v H3 e3 hv => q v H3 (e2.trans e3) hv⟩
theorem el_call' {R : List PyData → List PyData → Prop} {E : XK} {ta : TA} (h : EAs ta σ H ds) (hR : R ds es) : EL (tCall (spL R) [] E ta) σ H es := fun H1 e Q q =>
  h H1 e _ fun vs H2 e2 ha => ⟨ds, es, by rw [List.append_nil]; exact ha, hR, fun p xs H3 hp e3 hv a => q p xs H3 (fresh_back e2 hp) (e2.trans e3) hv a⟩
/-! tests -/
theorem ev_bool {b : Bool} (h : ED te σ H (.bool b)) : Ev te σ H (.bl b) := fun H1 e Q q => h H1 e Q fun v H2 e2 hv => by
  rw [hv.toBool]; exact q H2 e2
theorem et_D {b : Bool} (h : ED te σ H (.bool b)) : EvT (tTest te) σ H b := et_test (ev_bool h)
theorem et_DB {b : Bool} (h : ED te σ H (.bool b)) : EvT (tB te) σ H b := et_B (ev_bool h)
theorem ed_ofBool {b : Bool} (h : Ev te σ H (.bl b)) : ED te σ H (.bool b) := fun H1 e Q q => h H1 e Q fun H2 e2 => q _ H2 e2 (.bl b)
theorem ed_andV {a b : Bool} (h1 : ED ta σ H (.bool a)) (h2 : a = true → ED tb σ H (.bool b)) : ED (tAndV ta tb) σ H (.bool (a && b)) := ed_ofBool (ev_andV (ev_bool h1) fun e => ev_bool (h2 e))
theorem ed_orV {a b : Bool} (h1 : ED ta σ H (.bool a)) (h2 : a = false → ED tb σ H (.bool b)) : ED (tOrV ta tb) σ H (.bool (a || b)) := ed_ofBool (ev_orV (ev_bool h1) fun e => ev_bool (h2 e))
theorem ed_notV {a : Bool} (h1 : ED ta σ H (.bool a)) : ED (tNotV ta) σ H (.bool (!a)) := ed_ofBool (ev_notV (ev_bool h1))
theorem ed_if {b : Bool} (h : EvT t σ H b) (h1 : b = true → ED ta σ H d) (h2 : b = false → ED tb σ H d) : ED (tIf t ta tb) σ H d := fun H1 e Q q => h H1 e _ fun H2 e2 => by
  cases b with
  | true => exact h1 rfl H2 (e.trans e2) Q fun v H3 e3 hv => q v H3 (e2.trans e3) hv
  | false => exact h2 rfl H2 (e.trans e2) Q fun v H3 e3 hv => q v H3 (e2.trans e3) hv
/-! statements -/
variable {Dn : Ends} {tu tw : TS} {g : TG}
theorem sd_ret (h : ED te σ H d) (k : ∀ v H1, Ex H H1 → D H1 v d → Dn.rt v H1) : tRet te Dn σ H := h H (Ex.refl H) _ fun v H1 e hv => k v H1 e hv
theorem sl_ret (h : EL te σ H ds) (k : ∀ p xs H1, H p = none → Ex H H1 → H1 p = some (.lst xs) → DA H1 xs ds → Dn.rt (.ref p) H1) : tRet te Dn σ H := h H (Ex.refl H) _ k
theorem sd_asg {i : Nat} (h : ED te σ H d) (k : ∀ v H1, Ex H H1 → D H1 v d → Dn.nx (σ.set i (some v)) H1) : tAsg te (gName i) Dn σ H := h H (Ex.refl H) _ fun v H1 e hv => k v H1 e hv
theorem sl_asg {i : Nat} (h : EL te σ H ds) (k : ∀ p xs H1, H p = none → Ex H H1 → H1 p = some (.lst xs) → DA H1 xs ds → Dn.nx (σ.set i (some (.ref p))) H1) : tAsg te (gName i) Dn σ H := h H (Ex.refl H) _ k
theorem sd_if {b : Bool} (h : EvT t σ H b) (h1 : b = true → ∀ H1, Ex H H1 → tu Dn σ H1) (h2 : b = false → ∀ H1, Ex H H1 → tw Dn σ H1) : tIfS t tu tw Dn σ H := s_if h h1 h2
end
end KS
noncomputable section
namespace KS
open PySem PySem.Spec PyProof.Rows L2 Evl
/-! ### isinstance of a caught exception -/
structure ExcC (K : PySem.W.Frag) (C : Addr) : Prop where
  c0 : (PySem.W.clsIn K C).isSome = true
  c4 : PySem.W.findIn K (.ref C) "__getattribute__" = some (some (.builtin "BaseException.__getattribute__"))
  c5 : PySem.W.findIn K (.ref C) "__getattr__" = some none
  c6 : PySem.W.subIn K (.ref C) (.type "BaseException") = some true
  c7 : PySem.W.findIn K (.ref C) "__class__" = some (some (.builtin "object.__class__"))
  c8 : PySem.W.specialIn K (.builtin "object.__class__") "__get__" = some (some (.builtin "getset_descriptor.__get__"))
  c9 : PySem.W.takesIn K (.builtin "object.__class__") = some true
  c10 : PySem.W.mroIn K C (.type "object") = some true
def DictOk (d : Option Addr) (H : Hp) : Prop := d = none ∨ ∃ dd fs, d = some dd ∧ H dd = some (.xd fs)
theorem DictOk.ex {d : Option Addr} {H H' : Hp} (e : Ex H H') (h : DictOk d H) : DictOk d H' := by
  rcases h with h | ⟨dd, fs, h1, h2⟩
  · exact .inl h
  · exact .inr ⟨dd, fs, h1, e _ _ h2⟩
def rIsE (K : PySem.W.Frag) (a : Addr) (cls : Value) (d : Option Addr) : List V → Hp → VK → Prop := fun xs H Q => ∃ C c t b, cls = .ref C ∧ ExcC K C ∧ xs = [.ref a, c] ∧ ClsV c t ∧ PySem.W.kitOne K (.ref C) t = some b ∧ DictOk d H ∧ Q (.bl b) H
theorem cr_isE {X : Cx} {a : Addr} {cls : Value} {oe : Obj} {d : Option Addr} {pn : List (Addr × Obj)} (hz : Zc cls d oe) (hf : ∃ vs, oe.data = .fields vs) : CallR (X.suite a ((a, oe) :: pn)) (.builtin "isinstance") (rIsE X.K a cls d) := by
  intro pins s σ H xs us Q I r h
  obtain ⟨C, c, t, b, rfl, F, rfl, hc, hk, hd, q⟩ := h
  cases r with
  | cons r1 rr =>
    cases rr with
    | cons r2 rn =>
      cases rn
      rename_i u1 u2
      obtain rfl : u1 = Value.ref a := r1
      have e2 := hc.eq r2
      subst e2
      obtain ⟨ha, _⟩ := I.pin (a, oe) (List.mem_append_left _ List.mem_cons_self)
      obtain ⟨vs, hv⟩ := hf
      have od : ∃ od, PySem.W.InstAt s.heap a oe C od := by
        rcases hd with hd | ⟨dd, fs, hd, hx⟩
        · exact ⟨none, ha, hz.1, by unfold PySem.W.notCls; rw [hv] <;> rfl, by rw [hz.2, hd]; trivial⟩
        · have hx : ObjOk X.prog X.w H s.heap dd (.xd fs) := I.hok dd _ hx
          obtain ⟨mA, hns, hr⟩ := hx
          obtain ⟨od, ho, hl⟩ := lookIn_ns hns
          exact ⟨some od, ha, hz.1, by unfold PySem.W.notCls; rw [hv] <;> rfl, by rw [hz.2, hd]; exact ho⟩
      obtain ⟨od, J⟩ := od
      exact PySem.W.kia_one (PySem.W.kitx_exc F.c0 F.c4 F.c5 F.c6 F.c7 F.c8 F.c9 F.c10) I.kIn J hk (fun z => nomatch z) fun tk => ⟨.bl b, H, I.tok _, rfl, q⟩
/-! ### list.count(True) -/
def rCntB (K : PySem.W.Frag) : V → List V → Hp → VK → Prop := fun x xs H Q => ∃ (p : Addr) (bs : List Bool), x = .ref p ∧ xs = [.bl true] ∧ SqL K H p (bs.map V.bl) ∧ Q (.int (bs.count true : Nat)) H
def eqb (v : Value) : Bool := match v with
  | .bool b => b
  | _ => false
theorem eqb_all : ∀ {us : List Value} {bs : List Bool}, Vals (bs.map V.bl) us → (∀ u ∈ us, ∃ b, u = .bool b) ∧ us.countP eqb = bs.count true
  | [], [], _ => ⟨(fun _ h => nomatch h), rfl⟩
  | [], _ :: _, h => by cases h
  | _ :: _, [], h => by cases h
  | u :: us, b :: bs, h => by
    cases h with
    | cons h1 h2 =>
      obtain rfl : u = Value.bool b := h1
      obtain ⟨i1, i2⟩ := eqb_all h2
      refine ⟨fun v hv => ?_, ?_⟩
      · rcases List.mem_cons.mp hv with rfl | hv
        · exact ⟨b, rfl⟩
        · exact i1 v hv
      · rw [List.countP_cons, List.count_cons, i2]
        cases b <;> rfl
theorem mt_countB {X : Cx} : MtR X "list.count" (rCntB X.K) := by
  intro pins s σ H x xs v us Q I rx rxs h
  obtain ⟨p, bs, rfl, rfl, hs, q⟩ := h
  cases rx
  obtain ⟨u, rfl, ru⟩ := rxs.one
  obtain rfl : u = Value.bool true := ru
  obtain ⟨its, rv, ⟨⟨cls, dd, data, sl⟩, n, ho, hc, hdn, hd⟩, hlen⟩ := I.list hs
  simp only at hc hd
  subst hc hd
  obtain ⟨h1, h2⟩ := eqb_all rv
  refine call_meets PySem.F.slot_list_count ⟨_, ho, rfl⟩ PySem.F.entry_list_count (PySem.F.args_list_count_2 _ _)
    (SeqAt.list_countAt p its.toArray n dd sl (.bool true) eqb) ⟨ho, fun y hy => ?_, ?_⟩
  · obtain ⟨b, rfl⟩ := h1 y (by simpa using hy)
    have := SeqAt.EqAt.bool_bool (A := X.A.in1) (s := s) b true
    have e : (b == true) = eqb (.bool b) := by cases b <;> rfl
    rw [e] at this
    exact this
  refine ⟨.int (bs.count true : Nat), H, I.tok _, ⟨s.toks, ?_⟩, q⟩
  show Value.int ((its.toArray.toList.countP eqb : Nat) : Int) s.toks = Value.int ((bs.count true : Nat) : Int) s.toks
  rw [show its.toArray.toList = its from by simp, h2]
end KS
end
namespace KS
open PySem
def topS (i : Nat) : Stmt := PySem.Challenge.pw_castslots_k01_families_looked_at.main.body.getD i (.Pass ⟨0, 0, 0, 0⟩)
def methS : Stmt → Stmt
  | .ClassDef (body := m :: _) .. => m
  | s => s
abbrev s_is_whole : Stmt := topS 16
abbrev s_is_pair : Stmt := topS 17
abbrev s_are_elders : Stmt := topS 18
abbrev s_are_deeds : Stmt := topS 19
abbrev s_is_kind : Stmt := topS 20
abbrev s_elders_of : Stmt := topS 21
abbrev s_deeds_of : Stmt := topS 22
abbrev s_cells_of : Stmt := topS 23
abbrev s_elder_part : Stmt := topS 24
abbrev s_meet : Stmt := topS 25
abbrev s_met_from : Stmt := topS 26
abbrev s_known : Stmt := topS 27
abbrev s_foremost : Stmt := topS 28
abbrev s_is_sound : Stmt := topS 29
abbrev s_need_family : Stmt := topS 30
abbrev s_need_kind : Stmt := topS 31
abbrev s_need_part : Stmt := topS 32
abbrev s_parts : Stmt := topS 33
abbrev s_inside : Stmt := topS 34
abbrev s_knows : Stmt := topS 35
abbrev s_doer : Stmt := topS 36
abbrev s_plain_elders : Stmt := topS 38
abbrev s_before_cells : Stmt := topS 39
abbrev s_body_size : Stmt := topS 40
abbrev s_plain_step : Stmt := topS 41
abbrev s_place : Stmt := topS 42
abbrev s_laid : Stmt := topS 43
abbrev s_own_cells : Stmt := topS 44
abbrev s_moved : Stmt := topS 45
abbrev s_step : Stmt := topS 46
abbrev s_known_by_kinds : Stmt := topS 49
abbrev s_can_be_asked : Stmt := topS 50
abbrev s_need_pairs : Stmt := topS 51
abbrev s_need_asked : Stmt := topS 52
abbrev s_numbered : Stmt := topS 53
abbrev s_first_parts : Stmt := topS 54
abbrev s_ways_from : Stmt := topS 55
abbrev s_rows_from : Stmt := topS 56
abbrev s_numbers : Stmt := topS 57
abbrev s_tables : Stmt := topS 58
abbrev s_qcall : Stmt := topS 59
abbrev s_led : Stmt := topS 60
abbrev s_reason : Stmt := topS 61
abbrev s_unlike : Stmt := topS 63
abbrev s_written_elder : Stmt := topS 67
abbrev s_written_kind : Stmt := topS 68
abbrev s_written : Stmt := topS 69
abbrev s_law_mix : Stmt := topS 71
abbrev s_law_next : Stmt := topS 72
abbrev s_law_alike : Stmt := topS 73
abbrev s_law_met : Stmt := topS 74
abbrev s_law_doer : Stmt := topS 75
abbrev s_law_knows : Stmt := topS 76
abbrev s_law_family : Stmt := topS 77
abbrev s_law_kind : Stmt := topS 78
abbrev s_law_bad : Stmt := topS 79
abbrev s_law_turned : Stmt := topS 80
abbrev s_law_deep : Stmt := topS 81
abbrev s_law_works : Stmt := topS 82
abbrev s_law_number : Stmt := topS 83
abbrev s_law_torn : Stmt := topS 84
abbrev s_law : Stmt := topS 85
abbrev i_BadFamily : Stmt := methS (topS 2)
abbrev i_BadAsked : Stmt := methS (topS 6)
abbrev i_BadText : Stmt := methS (topS 9)
end KS
noncomputable section
namespace KS
open PySem PySem.Spec PyProof.Rows L2
open PySem.Froz (SD sObj addTx tailTx sing runD TxOk add_ok code_update itObj finU two itEnd tupObj stopObj)
/-! ### a set of signs, made of a text -/
def TabOk (b : Bool) (Z : SD) : Prop := Ris Z.2.2.place.toList ∧ Z.2.2.led = b
theorem tab_add {b : Bool} {Z : SD} (h : Int) (v : Value) (q : TabOk b Z) : TabOk b (addTx h v Z) := by
  obtain ⟨xs, n, tb⟩ := Z
  obtain ⟨q1, q2⟩ := q
  have r1 := layNew_ris tb xs h v q1
  have r2 := (layNew_led tb xs h v).trans q2
  unfold addTx tailTx
  dsimp only
  generalize layNew tb xs h v = N at r1 r2 ⊢
  have r3 : Ris (if N.2.1.plain = true then { N.2.1 with plain := false } else N.2.1).place.toList := by
    split
    · exact r1
    · exact r1
  have r4 : (if N.2.1.plain = true then { N.2.1 with plain := false } else N.2.1).led = b := by
    split
    · exact r2
    · exact r2
  generalize (if N.2.1.plain = true then { N.2.1 with plain := false } else N.2.1) = M at r3 r4 ⊢
  split
  · exact ⟨relayAll_ris M N.1 _, (relayAll_led M N.1 _).trans r4⟩
  · exact ⟨r3, r4⟩
theorem tab_run {w : World} {b : Bool} : ∀ (cs : List Nat) (k : Tok) (Z : SD), TabOk b Z → TabOk b (runD w cs k Z)
  | [], _, _, q => q
  | c :: cs, k, Z, q => tab_run cs (k + 2) _ (tab_add _ _ q)
theorem run_holds {P : Program} {w : World} : ∀ (cs : List Nat) (k : Tok) (Z : SD) (l : List Str), TxOk P w Z l → TxOk P w (runD w cs k Z) ((cs.map sing).reverse ++ l)
  | [], _, _, _, q => q
  | c :: cs, k, Z, l, q => by
    have r := run_holds (P := P) (w := w) cs (k + 2) _ (sing c :: l) (add_ok (k := sing c) k q)
    rw [List.map_cons, List.reverse_cons, List.append_assoc]
    exact r
/-- at a stands a set of the texts l -/
def STx (P : Program) (w : World) (h : Heap) (a : Addr) (l : List Str) : Prop :=
  ∃ Z : SD, h.get? a = some (sObj "set" Z) ∧ TxOk P w Z l ∧ l.length < 64 ∧ TabOk (!w.params.followText "set-order") Z
section
variable {P : Program} {w : World} {A : Around} {E : Value → Shared → Prop} {s : Shared}
theorem pushed {h : Heap} {b : Addr} {o u : Obj} (e : h.get? b = some o) : (h.push u).get? b = some o := Heap.get?_push_of_some _ e
set_option maxHeartbeats 8000000 in
theorem call_set_text {x : Str} {u : Tok} {Q : Value → Shared → Prop} (quiet : A.handled = none) (asc : x.cps.all (· < 128) = true) (nd : x.cps.toList.Nodup) (few : x.cps.toList.length < 64)
    (fin : ∀ (h' : Heap) (tk : Nat), STx P w h' s.heap.objs.size ((x.cps.toList.map sing).reverse) → (∀ b o, s.heap.get? b = some o → h'.get? b = some o) → Q (.ref s.heap.objs.size) { s with heap := h', toks := tk }) :
    wpAny (model P w) A (call (.type "set") [.str x u]) Q E s := by
  let lb : Bool := !w.params.followText "set-order"
  let Z0 : SD := (#[], 0, .fresh 0 0 lb)
  obtain ⟨c, tl, hmro⟩ := F.called_set.mro
  have madeF := F.called_set.made
  have subF := F.called_set.sub
  refine wpAny_call (codeAny_of_tree ?_)
  show wpAny _ _ (callAny (.type "set") ⟨[.str x u], []⟩) _ _ s
  refine wpAny_pure ⟨Code.quiet_builtin _ (by decide +kernel), codeAny_builtin F.entry_type_call ?_⟩
  rw [Around.under_plain (weight_type_call_type "set" [.str x u] []) rfl]
  have n1 := F.called_set.notType
  have n2 := F.called_set.canCreate
  have n3 := F.typeCall_set_1 (.str x u)
  repeat (any_goals (first | assumption | wp_step))
  refine codeAny_mono (code_set_led1 (.str x u) (E := E) (Q₁ := fun ob t => ob = .ref s.heap.objs.size ∧ t = { s with heap := s.heap.push (sObj "set" Z0) }) ⟨rfl, rfl⟩) fun r t hr => ?_
  cases r with
  | error e => exact hr
  | ok fl =>
    cases fl with
    | ret ob =>
      obtain ⟨rfl, rfl⟩ := hr
      have here : (s.heap.push (sObj "set" Z0)).get? s.heap.objs.size = some (sObj "set" Z0) := Heap.get?_push_size _ rfl
      have isSet : Shared.TypeIs { s with heap := s.heap.push (sObj "set" Z0) } (.ref s.heap.objs.size) "set" := ⟨_, here, rfl⟩
      have i1 := F.called_set.init.lookup
      have i2 := F.called_set.init.bind (.ref s.heap.objs.size)
      repeat (any_goals (first | assumption | wp_step))
      refine codeAny_mono (codeAny_call_builtin (R := wants (fun r t₂ => r = .none ∧ ∃ h' tk, t₂ = { s with heap := h', toks := tk } ∧ STx P w h' s.heap.objs.size ((x.cps.toList.map sing).reverse) ∧
          (∀ b o, s.heap.get? b = some o → h'.get? b = some o)) E) F.called_set.init.plain F.entry_set_init (check_set_init_1 isSet ?_)) fun r₂ t₂ hr₂ => ?_
      · have k1 := F.sub_str_set
        have k2 := F.sub_str_frozenset
        have k3 : (Value.type "str" == Value.type "dict") = false := by decide
        unfold Builtin.«set.__init__» noKeywords Builtin.Frozenset.updateFrom
        generalize hPI : pyIter = PI
        wp_walk
        subst hPI
        have far : s.heap.objs.size ≠ (s.heap.push (sObj "set" Z0)).objs.size := by
          rw [Heap.size_push]; exact Nat.ne_of_lt (Nat.lt_succ_self _)
        have t0 : TxOk P w Z0 [] := TxOk.nil (by rfl)
        have b0 : TabOk lb Z0 := ⟨List.Pairwise.nil, rfl⟩
        have q3 : A.in1.in1.in1.handled = none := by simp [quiet]
        refine wpAny_pyIter_ascii asc ?_
        refine wpAny_bind (wpAny_runValue ?_)
        refine code_update (T := "set") (x := x) (u := u) (l := []) far (by first | exact q3 | simp [quiet]) x.cps.toList 0 Z0 _ rfl (pushed here) (Heap.get?_push_size _ rfl) t0 (fun c _ z => nomatch z) nd (Nat.lt_trans (by rw [List.length_nil, Nat.zero_add]; exact few) (by decide)) ?_
        have t1 := run_holds (P := P) (w := w) x.cps.toList s.toks Z0 [] t0
        have b1 := tab_run (w := w) x.cps.toList s.toks Z0 b0
        rw [List.append_nil] at t1
        generalize runD w x.cps.toList s.toks Z0 = Z1 at t1 b1 ⊢
        show wpAny _ _ (pure ()) _ _ _
        refine wpAny_pure ?_
        show wpAny _ _ (ret Value.none) _ _ _
        refine wpAny_pure ⟨rfl, _, _, rfl, ⟨Z1, ?_, t1, by rw [List.length_reverse, List.length_map]; exact few, b1⟩, fun b o e => ?_⟩
        · refine pushed (pushed ?_)
          exact Heap.get?_update_of_ne _ (Ne.symm far) (Froz.get_upd _ (pushed here) rfl)
        · have lt := Heap.lt_size e
          have ne1 : s.heap.objs.size ≠ b := Nat.ne_of_gt lt
          have ne2 : (s.heap.push (sObj "set" Z0)).objs.size ≠ b := by
            rw [Heap.size_push]; exact Nat.ne_of_gt (Nat.lt_succ_of_lt lt)
          refine pushed (pushed ?_)
          exact Heap.get?_update_of_ne _ ne2 (Heap.get?_update_of_ne _ ne1 (pushed (pushed e)))
      · cases r₂ with
        | error e => exact hr₂
        | ok fl₂ =>
          cases fl₂ with
          | ret r =>
            obtain ⟨rfl, h', tk, rfl, z1, z2⟩ := hr₂
            repeat (any_goals (first | assumption | wp_step))
            exact fin _ _ z1 z2
          | _ => exact hr₂.elim
    | _ => exact hr.elim
/-! ### sorted of it -/
theorem vals_str {P : Program} {w : World} : ∀ (l : List (Int × Value)), ElemsOf (strKind P w) l → ∃ ks : List Str, StrsAre (l.map (·.2)) ks ∧ ∀ k, k ∈ ks ↔ ∃ e ∈ l, (strKind P w).is k e.2 = true
  | [], _ => ⟨[], .nil, fun k => by simp⟩
  | e :: l, g => by
    obtain ⟨⟨k, hk, _⟩, _⟩ := g e List.mem_cons_self
    obtain ⟨t, ev⟩ := Value.isStrOf_shape (x := k) (v := e.2) hk
    obtain ⟨ks, h1, h2⟩ := vals_str l (fun d hd => g d (List.mem_cons_of_mem _ hd))
    refine ⟨k :: ks, ?_, fun j => ?_⟩
    · rw [List.map_cons, ev]
      exact .cons k t h1
    · rw [List.mem_cons, h2]
      constructor
      · rintro (rfl | ⟨d, hd, q⟩)
        · exact ⟨e, List.mem_cons_self, hk⟩
        · exact ⟨d, List.mem_cons_of_mem _ hd, q⟩
      · rintro ⟨d, hd, q⟩
        rcases List.mem_cons.mp hd with rfl | hd
        · exact .inl ((strKind P w).inj _ _ _ q hk)
        · exact .inr ⟨d, hd, q⟩
theorem perm_fit {α : Type} [BEq α] [LawfulBEq α] : ∀ (l ks : List α), l.Nodup → (∀ k ∈ l, k ∈ ks) → ks.length ≤ l.length → l.Perm ks
  | [], ks, _, _, h => by
    have e : ks = [] := List.eq_nil_of_length_eq_zero (Nat.le_zero.mp h)
    rw [e]
  | x :: r, ks, nd, sub, h => by
    obtain ⟨n1, n2⟩ := List.nodup_cons.mp nd
    have hx : x ∈ ks := sub x List.mem_cons_self
    have p := List.perm_cons_erase hx
    have hl := p.length_eq
    rw [List.length_cons] at hl h
    refine List.Perm.trans (List.Perm.cons x (perm_fit r (ks.erase x) n2 (fun y hy => ?_) (by omega))) p.symm
    have ne : y ≠ x := fun e => n1 (e ▸ hy)
    exact (List.mem_erase_of_ne ne).mpr (sub y (List.mem_cons_of_mem _ hy))
theorem strs_perm {vs us : List Value} {ks : List Str} (p : vs.Perm us) (g : StrsAre us ks) : ∃ ws : List Str, StrsAre vs ws ∧ ws.Perm ks := by
  induction p generalizing ks with
  | nil => cases g; exact ⟨[], .nil, .refl _⟩
  | cons x p ih =>
    cases g with
    | cons k t h =>
      obtain ⟨ws, h1, h2⟩ := ih h
      exact ⟨_, .cons k t h1, .cons k h2⟩
  | swap x y l =>
    cases g with
    | cons k t h =>
      cases h with
      | cons k' t' h =>
        exact ⟨_, .cons k' t' (.cons k t h), .swap _ _ _⟩
  | trans p q ih1 ih2 =>
    obtain ⟨ws, h1, h2⟩ := ih2 g
    obtain ⟨us, h3, h4⟩ := ih1 h1
    exact ⟨us, h3, h4.trans h2⟩
theorem sorted_text {a : Addr} {l : List Str} {Q : Value → Shared → Prop} (R : STx P w s.heap a l) (nd : l.Nodup) (quiet : A.handled = none)
    (fin : ∀ s' p (out : Array Value) (c : Nat) (ys : List Str), (∀ b o, s.heap.get? b = some o → s'.heap.get? b = some o) → s'.gens = s.gens → s'.os = s.os → s.heap.objs.size ≤ p →
      s'.heap.get? p = some (seqObj "list" out c) → StrsAre out.toList ys → sortedS ys = true → ys.Perm l → Q (.ref p) s') :
    wpAny (model P w) A (call (.builtin "sorted") [.ref a]) Q E s := by
  obtain ⟨⟨es, ep, tb⟩, here, T, few, tabs⟩ := R
  have Tel : ElemsOf (strKind P w) es.toList := T.el
  have Tsz : es.size = l.length := T.sz
  have Tfit : tb.fits es.size = true := T.fit
  have Tmem : ∀ k : Str, k ∈ l ↔ ∃ e ∈ es.toList, (strKind P w).is k e.2 = true := T.mem
  obtain ⟨ks, g1, g2⟩ := vals_str (P := P) (w := w) es.toList Tel
  have kl : ks.length = l.length := by
    rw [← StrsAre.len_eq g1, List.length_map, Array.length_toList, Tsz]
  have pk : ks.Perm l := by
    exact (perm_fit l ks nd (fun k hk => (g2 k).mpr ((Tmem k).mp hk)) (by omega)).symm
  have obj : SetAt s.heap a es ep tb := ⟨_, here, rfl, rfl⟩
  have small : es.size < scanBound := Nat.lt_trans (by rw [Tsz]; exact few) (by decide)
  have order : w.params.followText "set-order" = true ∨ tb.led = true := by
    have q : tb.led = !w.params.followText "set-order" := tabs.2
    cases e : w.params.followText "set-order" with
    | true => exact .inl rfl
    | false => rw [e] at q; exact .inr q
  refine Calls.call_function_entry kind_sorted plain_sorted entry_sorted (args_sorted1 _) ?_
  unfold Builtin.«sorted»
  refine wpAny_bind (m := checkCount "sorted" 1 1 _) (wpAny_pure ?_)
  refine wpAny_bind (collect_set (A := A.in1) quiet obj Tfit small tabs.1 order fun t vs kp big gn os pm => ?_)
  obtain ⟨ws, v1, v2⟩ : ∃ ws : List Str, StrsAre vs ws ∧ ws.Perm ks := by
    exact strs_perm pm g1
  have vn : vs.length < 64 := by
    rw [pm.length_eq, List.length_map, Array.length_toList, Tsz]; exact few
  refine wpAny_bind (wpAny_newList ?_ (small64 vn))
  have ob : (t.heap.push (seqObj "list" vs.toArray 0)).get? t.heap.objs.size = some (seqObj "list" vs.toArray 0) := Heap.get?_push_size _ rfl
  refine wpAny_bind (wpAny_holding (wpAny_call_entry slot_list_sort ⟨_, ob, rfl⟩ entry_list_sort (list_sort_treeK strKind_oneLt ob v1.keysOf (fun x y rest e => keyKind_strs (by rw [← e]; exact v1)) vn fun st' h1 h2 => ?_) (args_list_sort _)))
  obtain ⟨ys, o1, o2, o3⟩ := sorted_out_str v1 h1 h2
  refine ⟨_, rfl, ?_⟩
  obtain ⟨c, hc⟩ := sortedHeap_at (vs := vs) (out := (arrOf st').map (·.2)) ob
  refine wpAny_pure ⟨_, rfl, fin _ t.heap.objs.size _ c ys (fun b u e => ?_) gn os big hc o1 o3 (o2.trans (v2.trans pk))⟩
  have e2 := kp b u e
  have lt := Heap.lt_size e2
  have ap : b ≠ t.heap.objs.size := Nat.ne_of_lt lt
  show (sortedHeap (t.heap.push (seqObj "list" vs.toArray 0)) t.heap.objs.size vs ((arrOf st').map (·.2))).get? b = some u
  rw [sortedHeap_old ap (by rw [Heap.size_push]; exact Nat.lt_succ_of_lt lt)]
  exact pushed e2
end
end KS
end
noncomputable section
namespace KS
open PySem PySem.Spec PyProof.Rows L2
/-! ### set(text), sorted(set) -/
def SetTx (P : Program) (w : World) (a : Addr) (l : List Str) : HO := .ext fun h => STx P w h a l
def rSetTx (P : Program) (w : World) : List V → Hp → VK → Prop := fun xs H Q => ∃ x : Str, xs = [.str x] ∧ x.cps.all (· < 128) = true ∧ x.cps.toList.Nodup ∧ x.cps.toList.length < 64 ∧
  ∀ p, H p = none → Q (.ref p) (upd H p (SetTx P w p ((x.cps.toList.map Froz.sing).reverse)))
def rSortTx (P : Program) (w : World) : List V → Hp → VK → Prop := fun xs H Q => ∃ (a : Addr) (l : List Str), xs = [.ref a] ∧ H a = some (SetTx P w a l) ∧ l.Nodup ∧
  ∀ (ys : List Str) (p : Addr), sortedS ys = true → ys.Perm l → H p = none → Q (.ref p) (upd H p (.lst (ys.map V.str)))
section
variable {X : Cx}
theorem stx_at {P : Program} {w : World} {h1 h2 : Heap} {a : Addr} {l : List Str} (R : STx P w h1 a l) (k : ∀ o, h1.get? a = some o → h2.get? a = some o) : STx P w h2 a l := by
  obtain ⟨Z, e, r⟩ := R
  exact ⟨Z, k _ e, r⟩
theorem cr_setTx (hc : X.calm = true) : CallR X (.type "set") (rSetTx X.prog X.w) := by
  intro pins s σ H xs us Q I r h
  obtain ⟨x, rfl, asc, nd, few, q⟩ := h
  cases r with
  | cons r1 r2 =>
    cases r2
    obtain ⟨t, rfl⟩ := r1
    refine call_set_text (I.ok.hd hc) asc nd few fun h' tk R keep => ?_
    have ob : ObjOk X.prog X.w (upd H s.heap.objs.size (SetTx X.prog X.w s.heap.objs.size ((x.cps.toList.map Froz.sing).reverse))) h' s.heap.objs.size (SetTx X.prog X.w s.heap.objs.size ((x.cps.toList.map Froz.sing).reverse)) := by
      have R2 := R
      obtain ⟨Z, e, _⟩ := R2
      exact ⟨R, ⟨_, e⟩, fun h1 h2 p k => stx_at p k⟩
    exact ⟨.ref _, _, I.laid (t' := tk) keep (Nat.le_refl _) ob, rfl, q _ (I.hok.fresh (Nat.le_refl _))⟩
theorem cr_sortTx (hc : X.calm = true) : CallR X (.builtin "sorted") (rSortTx X.prog X.w) := by
  intro pins s σ H xs us Q I r h
  obtain ⟨a, l, rfl, ha, nd, q⟩ := h
  have R : STx X.prog X.w s.heap a l := (I.hok a _ ha).1
  have few : l.length < 64 := by
    obtain ⟨Z, _, _, f, _⟩ := R
    exact f
  rw [Vals.ref1 r]
  refine sorted_text R nd (I.ok.hd hc) fun s' p out c ys k g o hp hg hi hs hm => ?_
  have room : (ys.map V.str).length ≤ sizeLine := by
    rw [List.length_map, hm.length_eq]
    exact small64 few
  have hn : H p = none := I.hok.fresh hp
  have J : Inv X pins σ (upd H p (.lst (ys.map V.str))) { s with heap := s'.heap, gens := s'.gens, drawn := s'.drawn, toks := s'.toks } :=
    I.call (ch := []) (Un.laid k hp hn) (I.hok.laid k hp ⟨room, out.toList, c, vals_of_strs hi, hg⟩) (by rw [g]; exact I.bare) (fun _ z => nomatch z)
  have e : s' = { s with heap := s'.heap, gens := s'.gens, drawn := s'.drawn, toks := s'.toks } := by
    cases s'; cases s; cases o; rfl
  rw [e]
  exact ⟨.ref p, _, J, rfl, q ys p hs hm hn⟩
end
/-! ### enumerate(tuple) -/
set_option maxHeartbeats 2000000 in
theorem new_enumT (a : Addr) (its : Array Value) (n : Nat) (dct : Option Addr) (sl : Array (Option Value)) :
    Meets (Builtin.«enumerate.__new__» ⟨[.type "enumerate", .ref a], []⟩) (fun _ R t => t.heap.get? a = some { cls := .type "tuple", dict := dct, data := .seq its n, slots := sl } ∧
      R (.ok (.ret (.ref (t.heap.push { cls := .type "tuple_iterator", data := .fields #[.ref a, .int 0 0] }).objs.size)))
        { t with heap := (t.heap.push { cls := .type "tuple_iterator", data := .fields #[.ref a, .int 0 0] }).push { cls := .type "enumerate", data := .fields #[.none, .bool false, .ref t.heap.objs.size, rawInt 0, .none, .none] } }) :=
  .of_wp fun prog w A R t h => by
    obtain ⟨h0, g, d, tk, os⟩ := t
    obtain ⟨here, h⟩ := h
    have hsub := sub_enumerate
    have tup : Heap.IsTuple (Shared.heap ⟨h0, g, d, tk, os⟩) a its := ⟨_, here, rfl, n, rfl⟩
    wp_walk using AutoSeq1.wpAny_loadPart' here
    refine wpAny_stack_any fun st => wpAny_pure ?_
    split
    · rename_i c _ _ _ _ _
      cases (c == Value.type "enumerate") <;> (wp_walk using AutoSeq1.wpAny_loadPart' here, wpAny_pyIter_tuple tup; exact ⟨_, rfl, h⟩)
    · (wp_walk using AutoSeq1.wpAny_loadPart' here, wpAny_pyIter_tuple tup; exact ⟨_, rfl, h⟩)
section
variable {prog : Program} {w : World} {A : Around} {E : Value → Shared → Prop} {s : Shared}
theorem call_enumT {a : Addr} {its : Array Value} {Q : Value → Shared → Prop} (tup : s.heap.IsTuple a its)
    (fin : ∀ h', IsEnum h' (s.heap.objs.size + 1) s.heap.objs.size 0 .none → h'.IsTupleIter s.heap.objs.size a 0 → (∀ b o, s.heap.get? b = some o → h'.get? b = some o) → Q (.ref (s.heap.objs.size + 1)) { s with heap := h' }) :
    wpAny (model prog w) A (call (.type "enumerate") [.ref a]) Q E s := by
  obtain ⟨⟨c, dct, dt, sl⟩, here, hc, n, hd⟩ := tup
  have e1 : c = .type "tuple" := hc
  have e2 : dt = .seq its n := hd
  subst e1 e2
  refine callType_new F.called_enumerate (by decide) (F.typeCall_enumerate_1 _) (F.newCall_enumerate_1 _) (fun obj => F.args_object_init_2 obj _) F.entry_enumerate_new (new_enumT a its n dct sl) ⟨here, ?_⟩
  have z : (s.heap.push { cls := .type "tuple_iterator", data := .fields #[.ref a, .int 0 0] }).objs.size = s.heap.objs.size + 1 := Heap.size_push ..
  have g := Heap.get?_push_size (s.heap.push { cls := .type "tuple_iterator", data := .fields #[.ref a, .int 0 0] })
    (o := { cls := .type "enumerate", data := .fields #[.none, .bool false, .ref s.heap.objs.size, rawInt 0, .none, .none] }) rfl
  rw [z] at g
  show _ ∧ _
  rw [z]
  exact ⟨⟨_, g, rfl⟩, fin _ g ⟨_, pushed (Heap.get?_push_size _ rfl), rfl, rfl⟩ fun b o e => pushed (pushed e)⟩
end
/-- the tuple at a, each item in a new pair with its number -/
def IteT (K : PySem.W.Frag) (a : Addr) : It :=
  ⟨fun i H => ∃ (xs : List V) (x : V), SqT K H a xs ∧ xs[i]? = some x, fun i H v H' => ∃ T x, v = .ref T ∧ H T = none ∧ H' = upd H T (.tup [.int (i : Nat), x]) ∧ ∀ xs, SqT K H a xs → xs[i]? = some x, fun i H => ∃ xs : List V, SqT K H a xs ∧ xs.length ≤ i⟩
theorem turn_enumT {P : Program} {w : World} {K : PySem.W.Frag} {elts : List Expr} {kk : Nat} {tpos : Pos} (a e it : Addr) :
    Turn P w K (.Tuple elts kk tpos) (IteT K a) [e, it] e (fun i h => (∃ old, IsEnum h e it ((i : Nat) : Int) old) ∧ h.IsTupleIter it a i ∧ e ≠ it) where
  mem := List.mem_cons_self
  obj := fun i h ⟨⟨old, he⟩, ⟨o, ho, _, hd⟩, _⟩ b hb => by
    rcases List.mem_cons.mp hb with z | z
    · subst z; exact ⟨_, he, fun v q => nomatch q⟩
    · have z := List.mem_singleton.mp z
      subst z; exact ⟨o, ho, fun v q => by rw [hd] at q; cases q⟩
  keep := fun i h h' ⟨⟨old, he⟩, hi, ne⟩ k => ⟨⟨old, k e List.mem_cons_self _ he⟩, hi.at fun o q => k it (List.mem_cons_of_mem _ List.mem_cons_self) o q, ne⟩
  item := by
    intro X hP hw hK hc i pins s σ H E I hf st hg
    subst hP hw hK
    obtain ⟨⟨old, he⟩, hit, ne⟩ := st
    obtain ⟨xs, x, hq, hx⟩ := hg
    obtain ⟨its, rv, p, hz⟩ := I.tuple hq
    obtain ⟨u, hu, ru⟩ := rv.get hx
    have le : e < s.heap.objs.size := Heap.lt_size he
    have li : it < s.heap.objs.size := by
      obtain ⟨_, q, _⟩ := hit
      exact Heap.lt_size q
    have la : a < s.heap.objs.size := by
      obtain ⟨_, q, _⟩ := p
      exact Heap.lt_size q
    have nae : a ≠ e := by
      intro z
      obtain ⟨o, q, c, _⟩ := p
      have q' : s.heap.get? e = some o := z ▸ q
      rw [he] at q'
      cases q'
      exact absurd (show Value.type "enumerate" = Value.type "tuple" from c) (by decide)
    have nai : a ≠ it := by
      intro z
      obtain ⟨o, q, c, _⟩ := p
      obtain ⟨o', q2, c2, _⟩ := hit
      have q' : s.heap.get? it = some o := z ▸ q
      rw [q2] at q'
      cases q'
      rw [c] at c2
      exact absurd c2 (by decide)
    have hs : i < its.toArray.size := by
      have := (List.getElem?_eq_some_iff.mp hu).1
      simpa using this
    refine wpAny_pyNext_enum_itemD (Draws.tuple (prog := X.prog) (w := X.w) (A := X.A.in1) (by have := I.ok.hd hc; simpa using this) it a nai its.toArray) he ⟨hit, p⟩ hs ne (by
      intro hm
      rcases List.mem_cons.mp hm with z | z
      · exact ne z
      · exact nae (List.mem_singleton.mp z).symm) fun y h' tk hy ho hst hT hsz hk => ?_
    have ey : y = u := by
      have q : its.toArray[i]? = some u := by simpa using hu
      rw [show its.toArray[i]? = some y from hy] at q
      exact Option.some.inj q
    subst ey
    refine ⟨_, rfl, wpAny_letOwnedTupleGo_enum (s := { s with heap := h', toks := tk + 1 }) ho fun h'' he' sb => ?_⟩
    have hT2 : h''.get? s.heap.objs.size = some { cls := .type "tuple", data := .seq #[.int i tk, y] } := (sb.2 _ (Nat.ne_of_gt le)).trans hT
    have new : ObjOk X.prog X.w (upd H s.heap.objs.size (.tup [.int (i : Nat), x])) h'' s.heap.objs.size (.tup [.int (i : Nat), x]) :=
      ⟨by show 2 ≤ sizeLine; decide, [.int i tk, y], .cons ⟨_, rfl⟩ (.cons ru .nil), ⟨_, hT2, rfl, _, rfl⟩⟩
    have I1 : Inv X pins σ (upd H s.heap.objs.size (.tup [.int (i : Nat), x])) { s with heap := h'', toks := tk + 1 } :=
      I.turnedNew (ch := [e, it]) (fun b ob hb q => (sb.2 b (fun z => hb (by simp [z]))).trans (hk b ob (fun z => hb (by simp [z])) (fun z => hb (by simp [z])) q)) hf (Nat.le_refl _) new
    refine ⟨.ref s.heap.objs.size, _, I1, rfl, ⟨_, x, rfl, I.hok.fresh (Nat.le_refl _), rfl, fun ys hy => by rw [I.tuple_inj hy hq]; exact hx⟩, ⟨⟨y, ?_⟩, hst.1.at fun o q => (sb.2 it (Ne.symm ne)).trans q, ne⟩, fun b hb => ?_⟩
    · have e1 : ((i + 1 : Nat) : Int) = (i : Int) + 1 := by omega
      rw [e1]
      exact he'
    · have lt : b < s.heap.objs.size := by
        rcases List.mem_cons.mp hb with z | z
        · rw [z]; exact le
        · rw [List.mem_singleton.mp z]; exact li
      rw [upd_ne (Nat.ne_of_lt lt)]
      exact (hf b hb).1
  done := by
    intro X hP hw hK hc i pins s σ H E I hf st hg
    subst hP hw hK
    obtain ⟨⟨old, he⟩, hit, ne⟩ := st
    obtain ⟨xs, hq, hx⟩ := hg
    obtain ⟨its, rv, p, hz⟩ := I.tuple hq
    obtain ⟨f0, f1, f2, f3, f4, f5⟩ := hf it (List.mem_cons_of_mem _ List.mem_cons_self)
    have hl := rv.length
    have nai : a ≠ it := by
      intro z
      obtain ⟨o, q, c, _⟩ := p
      obtain ⟨o', q2, c2, _⟩ := hit
      have q' : s.heap.get? it = some o := z ▸ q
      rw [q2] at q'
      cases q'
      rw [c] at c2
      exact absurd c2 (by decide)
    have quiet : X.A.in1.handled = none := by have := I.ok.hd hc; simpa using this
    have Dn : Draws X.prog X.w X.A.in1 it [it, a] i (fun _ _ => False) (fun j h => j = i ∧ h.IsTupleIter it a i ∧ h.IsTuple a its.toArray) :=
      { live := fun _ _ st => let ⟨o, ho, _⟩ := st.2.1; ⟨o, ho⟩
        frame := fun _ _ _ st hk => ⟨st.1, st.2.1.at fun o e => hk it (by simp) o e, st.2.2.at fun o e => hk a (by simp) o e⟩
        item := fun j s Q E hj st _ => absurd hj (by rw [st.1]; exact Nat.lt_irrefl _)
        done := fun s Q E st hE => wpAny_nextOf_tuple_end quiet st.2.1 st.2.2 (by simp; omega) hE }
    exact wpAny_pyNext_enum_endD Dn he ⟨rfl, hit, p⟩ fun h' eb => ⟨rfl, I.turned (t' := s.toks) (fun b o hb q => eb b o hb q) f0 f1 f3 f4 f5⟩
  self := fun A i s Q E ⟨⟨_, he⟩, _⟩ h => wpAny_pyIter_enum he h
def iEnumT (K : PySem.W.Frag) (ta : TA) : TI := fun σ H R => ta σ H fun vs H1 => ∃ a xs, vs = [.ref a] ∧ SqT K H1 a xs ∧ R (IteT K a) H1
theorem pi_enumT {X : Cx} {e : Expr} {ta : TA} {p pos tpos : Pos} {elts : List Expr} {kk : Nat} (hg : Gl X "enumerate") (hm : X.mg "enumerate" = none) (ha : PA X [e] ta) (hs : starEach [e] X.env = [(false, eval e X.env)] := by rfl) :
    PI X (.Tuple elts kk tpos) (.Call (.Name "enumerate" p) [e] [] pos) (iEnumT X.K ta) := by
  refine ⟨fun pins s σ H R I h => Call_ (ld_blt I hg hm boot_enumerate (PyProof.Rows.callWith_type1 (thn (ha.run pos pins s σ H _ I h) fun us s1 ⟨vs, H1, I1, r1, q1⟩ => ?_) hs rfl))⟩
  obtain ⟨a, xs, ex, hq, q⟩ := q1
  subst ex
  cases r1 with
  | cons r rr =>
    cases rr
    cases r
    obtain ⟨its, rv, tp, hz⟩ := I1.tuple hq
    refine call_enumT tp fun h' he hit hk => wpAny_pyIter_enum he ?_
    have I2 : Inv X pins σ H1 { s1 with heap := h' } := I1.kept (t' := s1.toks) hk
    refine ⟨s1.heap.objs.size + 1, [s1.heap.objs.size + 1, s1.heap.objs.size], _, _, H1, rfl, I2, turn_enumT a (s1.heap.objs.size + 1) s1.heap.objs.size, ⟨⟨.none, he⟩, hit, Nat.succ_ne_self _⟩, fun b hb => ?_, q⟩
    have big : s1.heap.objs.size ≤ b := by
      rcases List.mem_cons.mp hb with z | z
      · rw [z]; exact Nat.le_add_right _ _
      · rw [List.mem_singleton.mp z]; exact Nat.le_refl _
    exact I1.fpOk big (I1.hok.fresh big)
/-- the loop over it -/
theorem for_enumT {K : PySem.W.Frag} {a : Addr} {xs : List V} {g : TG} {tb : TS} {D : Ends} {σ : L2.St} {H : Hp} (Pv : Nat → L2.St → Hp → Prop) (h0 : Pv 0 σ H) (hl : ∀ i σ H, i ≤ xs.length → Pv i σ H → SqT K H a xs)
    (hs : ∀ i x T σ H, xs[i]? = some x → Pv i σ H → H T = none → g (.ref T) σ (upd H T (.tup [.int (i : Nat), x])) fun σ2 H2 => tb { D with nx := Pv (i + 1), ct := Pv (i + 1), bk := D.nx } σ2 H2) (hd : ∀ σ H, Pv xs.length σ H → D.nx σ H) :
    ∃ W : Nat → Nat → L2.St → Hp → Prop, (∃ m, W 0 m σ H) ∧ ∀ i m σ H, W i m σ H →
      ((IteT K a).stop i H ∧ D.nx σ H) ∨ ((IteT K a).go i H ∧ ∃ N : L2.St → Hp → Prop, (∀ σ' H', N σ' H' → ∃ m', m' < m ∧ W (i + 1) m' σ' H') ∧ ∀ x H', (IteT K a).yld i H x H' → g x σ H' fun σ2 H2 => tb { D with nx := N, ct := N, bk := D.nx } σ2 H2) := by
  refine ⟨fun i m σ H => m = xs.length - i ∧ i ≤ xs.length ∧ Pv i σ H, ⟨xs.length, rfl, Nat.zero_le _, h0⟩, fun i m σ H w => ?_⟩
  obtain ⟨rfl, le, p⟩ := w
  have q := hl i σ H le p
  rcases Nat.lt_or_ge i xs.length with lt | ge
  · refine .inr ⟨⟨xs, xs[i], q, List.getElem?_eq_getElem lt⟩, Pv (i + 1), fun σ' H' p' => ⟨xs.length - (i + 1), by omega, rfl, lt, p'⟩, fun v H' y => ?_⟩
    obtain ⟨T, x, rfl, nT, rfl, hx⟩ := y
    exact hs i x T σ H (hx xs q) p nT
  · have e : i = xs.length := Nat.le_antisymm le ge
    subst e
    exact .inl ⟨⟨xs, q, Nat.le_refl _⟩, hd σ H p⟩
end KS
end
namespace KS
open PySem
/-! ### kinds, families, parts: the mathematics -/
structure Kind where
  el : List (Int × Int)
  de : Str
  ce : Int
abbrev Fam := List Kind
abbrev Part := List Int
def kd (f : Fam) (k : Int) : Kind := f.getD k.toNat ⟨[], Str.empty, 0⟩
def lastP (p : Part) : Int := p.getLastD 0
def ep (p : Part) (e : Int × Int) : Part := if e.2 = 0 then p ++ [e.1] else [e.1]
def kids (f : Fam) (p : Part) : List Part := (kd f (lastP p)).el.map (ep p)
/-- what isn't there yet is put behind, one after another -/
def ins (a : List Part) (x : Part) : List Part := if x ∈ a then a else a ++ [x]
def dd (a l : List Part) : List Part := l.foldl ins a
def lm : Nat → Fam → Part → List Part
  | 0, _, p => [p]
  | n + 1, f, p => (kids f p).foldl (fun a c => dd a (lm n f c)) [p]
def mt : Nat → Fam → Part → List Part → List Part
  | 0, _, _, m => m
  | n + 1, f, p, m => if p ∈ m then m else (kids f p).foldl (fun m c => mt n f c m) (m ++ [p])
/-- elders are of lesser numbers -/
def Low (f : Fam) : Prop := ∀ k : Int, ∀ e ∈ (kd f k).el, 0 ≤ e.1 ∧ e.1 < k

theorem lastP_ep (p : Part) (e : Int × Int) : lastP (ep p e) = e.1 := by
  unfold ep lastP
  split
  · rw [List.getLastD_eq_getLast?, List.getLast?_append]; rfl
  · rfl
theorem mem_ins {a : List Part} {x y : Part} : y ∈ ins a x ↔ y ∈ a ∨ y = x := by
  unfold ins
  split
  · rename_i h
    constructor
    · exact .inl
    · rintro (q | rfl)
      · exact q
      · exact h
  · rw [List.mem_append, List.mem_singleton]
theorem mem_dd : ∀ {l a : List Part} {y : Part}, y ∈ dd a l ↔ y ∈ a ∨ y ∈ l
  | [], a, y => by simp [dd]
  | x :: l, a, y => by
    show y ∈ dd (ins a x) l ↔ _
    rw [mem_dd, mem_ins, List.mem_cons, or_assoc]
theorem ins_of_mem {a : List Part} {x : Part} (h : x ∈ a) : ins a x = a := if_pos h
theorem ins_of_not {a : List Part} {x : Part} (h : ¬ x ∈ a) : ins a x = a ++ [x] := if_neg h
theorem dd_sub : ∀ {l a : List Part}, (∀ y ∈ l, y ∈ a) → dd a l = a
  | [], _, _ => rfl
  | x :: l, a, h => by
    show dd (ins a x) l = a
    rw [ins_of_mem (h x List.mem_cons_self)]
    exact dd_sub fun y hy => h y (List.mem_cons_of_mem _ hy)
theorem dd_append (a l r : List Part) : dd a (l ++ r) = dd (dd a l) r := List.foldl_append
theorem dd_ins (a b : List Part) (x : Part) : dd a (ins b x) = ins (dd a b) x := by
  by_cases h : x ∈ b
  · rw [ins_of_mem h, ins_of_mem (mem_dd.mpr (.inr h))]
  · rw [ins_of_not h, dd_append]; rfl
theorem dd_dd : ∀ (l a b : List Part), dd a (dd b l) = dd (dd a b) l
  | [], _, _ => rfl
  | x :: l, a, b => by
    show dd a (dd (ins b x) l) = dd (ins (dd a b) x) l
    rw [dd_dd l a (ins b x), dd_ins]
theorem dd_nil_of_nodup {l : List Part} (h : l.Nodup) : dd [] l = l := by
  have go : ∀ (l a : List Part), (a ++ l).Nodup → dd a l = a ++ l := by
    intro l
    induction l with
    | nil => intro a _; simp [dd]
    | cons x l ih =>
      intro a h
      have hx : ¬ x ∈ a := by
        intro hx
        have h' := List.nodup_append.mp h
        exact h'.2.2 x hx x List.mem_cons_self rfl
      show dd (ins a x) l = _
      rw [ins_of_not hx, ih (a ++ [x]) (by rw [List.append_assoc]; exact h), List.append_assoc]; rfl
  exact go l [] h
theorem ins_nodup {a : List Part} {x : Part} (h : a.Nodup) : (ins a x).Nodup := by
  by_cases hx : x ∈ a
  · rw [ins_of_mem hx]; exact h
  · rw [ins_of_not hx, List.nodup_append]
    refine ⟨h, by simp, fun y hy z hz e => ?_⟩
    rw [List.mem_singleton] at hz
    subst hz; subst e; exact hx hy
theorem dd_nodup : ∀ {l a : List Part}, a.Nodup → (dd a l).Nodup
  | [], _, h => h
  | x :: l, a, h => dd_nodup (l := l) (a := ins a x) (ins_nodup h)
theorem dd_prefix : ∀ (l a : List Part), ∃ r, dd a l = a ++ r
  | [], a => ⟨[], by simp [dd]⟩
  | x :: l, a => by
    obtain ⟨r, e⟩ := dd_prefix l (ins a x)
    by_cases hx : x ∈ a
    · exact ⟨r, by show dd (ins a x) l = _; rw [e, ins_of_mem hx]⟩
    · exact ⟨x :: r, by show dd (ins a x) l = _; rw [e, ins_of_not hx, List.append_assoc]; rfl⟩

/-! folds over the children -/
theorem fold_nodup {α : Type} (g : α → List Part) : ∀ (cs : List α) (a : List Part), a.Nodup → (cs.foldl (fun a c => dd a (g c)) a).Nodup
  | [], _, h => h
  | c :: cs, a, h => fold_nodup g cs (dd a (g c)) (dd_nodup h)
theorem mem_fold {α : Type} (g : α → List Part) : ∀ (cs : List α) (a : List Part) (y : Part), y ∈ cs.foldl (fun a c => dd a (g c)) a ↔ y ∈ a ∨ ∃ c ∈ cs, y ∈ g c
  | [], a, y => by simp
  | c :: cs, a, y => by
    show y ∈ cs.foldl _ (dd a (g c)) ↔ _
    rw [mem_fold g cs, mem_dd, or_assoc]
    constructor
    · rintro (h | h | ⟨d, hd, h⟩)
      · exact .inl h
      · exact .inr ⟨c, List.mem_cons_self, h⟩
      · exact .inr ⟨d, List.mem_cons_of_mem _ hd, h⟩
    · rintro (h | ⟨d, hd, h⟩)
      · exact .inl h
      · rcases List.mem_cons.mp hd with rfl | hd
        · exact .inr (.inl h)
        · exact .inr (.inr ⟨d, hd, h⟩)
theorem fold_prefix {α : Type} (g : α → List Part) : ∀ (cs : List α) (a : List Part), ∃ r, cs.foldl (fun a c => dd a (g c)) a = a ++ r
  | [], a => ⟨[], by simp⟩
  | c :: cs, a => by
    obtain ⟨r, e⟩ := dd_prefix (g c) a
    obtain ⟨q, e2⟩ := fold_prefix g cs (dd a (g c))
    exact ⟨r ++ q, by show cs.foldl _ (dd a (g c)) = _; rw [e2, e, List.append_assoc]⟩
theorem lm_nodup : ∀ (n : Nat) (f : Fam) (p : Part), (lm n f p).Nodup
  | 0, _, _ => by simp [lm]
  | n + 1, f, p => by unfold lm; exact fold_nodup _ _ _ (by simp)
theorem lm_head (n : Nat) (f : Fam) (p : Part) : ∃ r, lm n f p = p :: r := by
  cases n with
  | zero => exact ⟨[], rfl⟩
  | succ n => unfold lm; obtain ⟨r, e⟩ := fold_prefix (fun c => lm n f c) (kids f p) [p]; exact ⟨r, by rw [e]; rfl⟩
theorem self_mem (n : Nat) (f : Fam) (p : Part) : p ∈ lm n f p := by
  obtain ⟨r, e⟩ := lm_head n f p
  rw [e]; exact List.mem_cons_self
theorem mem_lm {n : Nat} {f : Fam} {p y : Part} : y ∈ lm (n + 1) f p ↔ y = p ∨ ∃ c ∈ kids f p, y ∈ lm n f c := by
  show y ∈ (kids f p).foldl (fun a c => dd a (lm n f c)) [p] ↔ _
  rw [mem_fold (fun c => lm n f c), List.mem_singleton]
theorem mem_kids {f : Fam} {p c : Part} : c ∈ kids f p ↔ ∃ e ∈ (kd f (lastP p)).el, c = ep p e := by
  unfold kids
  rw [List.mem_map]
  constructor
  · rintro ⟨e, h, rfl⟩; exact ⟨e, h, rfl⟩
  · rintro ⟨e, h, rfl⟩; exact ⟨e, h, rfl⟩
theorem kid_low {f : Fam} (L : Low f) {p c : Part} (h : c ∈ kids f p) : 0 ≤ lastP c ∧ lastP c < lastP p := by
  obtain ⟨e, he, rfl⟩ := mem_kids.mp h
  rw [lastP_ep]
  exact L _ e he
theorem ep_ne (p : Part) (e : Int × Int) : ep p e ≠ [] := by
  unfold ep
  split
  · simp
  · simp
/-- the fuel does not matter -/
theorem lm_fuel {f : Fam} (L : Low f) : ∀ (n m : Nat) (p : Part), lastP p < n → lastP p < m → lm n f p = lm m f p
  | 0, 0, _, _, _ => rfl
  | 0, m + 1, p, h, h2 => by
    have : (kd f (lastP p)).el = [] := by
      cases q : (kd f (lastP p)).el with
      | nil => rfl
      | cons e r =>
        have z := L (lastP p) e (by rw [q]; exact List.mem_cons_self)
        exact absurd h (by omega)
    show [p] = (kids f p).foldl _ [p]
    unfold kids; rw [this]; rfl
  | n + 1, 0, p, h, h2 => by
    have : (kd f (lastP p)).el = [] := by
      cases q : (kd f (lastP p)).el with
      | nil => rfl
      | cons e r =>
        have z := L (lastP p) e (by rw [q]; exact List.mem_cons_self)
        exact absurd h2 (by omega)
    show (kids f p).foldl _ [p] = [p]
    unfold kids; rw [this]; rfl
  | n + 1, m + 1, p, h, h2 => by
    have go : ∀ (cs : List Part), (∀ c ∈ cs, c ∈ kids f p) → ∀ a, cs.foldl (fun a c => dd a (lm n f c)) a = cs.foldl (fun a c => dd a (lm m f c)) a := by
      intro cs
      induction cs with
      | nil => intro _ _; rfl
      | cons c cs ih =>
        intro hc a
        have z := kid_low L (hc c List.mem_cons_self)
        show cs.foldl _ (dd a (lm n f c)) = cs.foldl _ (dd a (lm m f c))
        rw [lm_fuel L n m c (by omega) (by omega)]
        exact ih (fun d hd => hc d (List.mem_cons_of_mem _ hd)) _
    exact go _ (fun c h => h) _
theorem mem_last {f : Fam} (L : Low f) : ∀ (n : Nat) {p y : Part}, y ∈ lm n f p → y = p ∨ (0 ≤ lastP y ∧ lastP y < lastP p)
  | 0, p, y, h => .inl (by simpa [lm] using h)
  | n + 1, p, y, h => by
    rcases mem_lm.mp h with h | ⟨c, hc, h⟩
    · exact .inl h
    · have z := kid_low L hc
      rcases mem_last L n h with rfl | q
      · exact .inr z
      · exact .inr ⟨q.1, by omega⟩
theorem mem_ne {f : Fam} : ∀ (n : Nat) {p y : Part}, p ≠ [] → y ∈ lm n f p → y ≠ []
  | 0, p, y, hp, h => by
    have e : y = p := by simpa [lm] using h
    rw [e]; exact hp
  | n + 1, p, y, hp, h => by
    rcases mem_lm.mp h with rfl | ⟨c, hc, h⟩
    · exact hp
    · obtain ⟨e, he, rfl⟩ := mem_kids.mp hc
      exact mem_ne n (ep_ne _ _) h
/-- what is inside a part that is inside -/
theorem lm_trans {f : Fam} (L : Low f) : ∀ (n : Nat) {p q y : Part}, lastP p < n → q ∈ lm n f p → y ∈ lm n f q → y ∈ lm n f p
  | 0, p, q, y, hn, h, h2 => by
    have e : q = p := by simpa [lm] using h
    rw [← e]; exact h2
  | n + 1, p, q, y, hn, h, h2 => by
    rcases mem_lm.mp h with rfl | ⟨c, hc, h⟩
    · exact h2
    · have z := kid_low L hc
      refine mem_lm.mpr (.inr ⟨c, hc, ?_⟩)
      have zq : lastP q ≤ lastP c := by
        rcases mem_last L n h with rfl | q'
        · exact Int.le_refl _
        · omega
      rw [lm_fuel L (n + 1) n q (by omega) (by omega)] at h2
      exact lm_trans L n (by omega) h h2

/-! ### the walk that marks what was met tells the same -/
def Closed (n : Nat) (f : Fam) (k : Int) (m : List Part) : Prop := ∀ q ∈ m, lastP q < k → ∀ y ∈ lm n f q, y ∈ m
theorem mt_eq {f : Fam} (L : Low f) (N : Nat) : ∀ (n : Nat) (p : Part) (m : List Part), lastP p < n → 0 ≤ lastP p → n ≤ N → Closed N f (lastP p + 1) m → mt n f p m = dd m (lm n f p)
  | 0, p, m, h, h0, _, C => by omega
  | n + 1, p, m, h, h0, hN, C => by
    by_cases hp : p ∈ m
    · have e : mt (n + 1) f p m = m := if_pos hp
      rw [e, dd_sub (fun y hy => C p hp (by omega) y (by rw [lm_fuel L N (n + 1) p (by omega) (by omega)]; exact hy))]
    · have e : mt (n + 1) f p m = (kids f p).foldl (fun m c => mt n f c m) (m ++ [p]) := if_neg hp
      have go : ∀ (cs : List Part), (∀ c ∈ cs, c ∈ kids f p) → ∀ a b : List Part, Closed N f (lastP p) (dd a b) → cs.foldl (fun m c => mt n f c m) (dd a b) = dd a (cs.foldl (fun x c => dd x (lm n f c)) b) := by
        intro cs
        induction cs with
        | nil => intro _ a b _; rfl
        | cons c cs ih =>
          intro hc a b Cb
          have z := kid_low L (hc c List.mem_cons_self)
          show cs.foldl _ (mt n f c (dd a b)) = dd a (cs.foldl _ (dd b (lm n f c)))
          rw [mt_eq L N n c (dd a b) (by omega) (by omega) (by omega) (fun q hq hl y hy => Cb q hq (by omega) y hy), ← dd_dd]
          refine ih (fun d hd => hc d (List.mem_cons_of_mem _ hd)) a (dd b (lm n f c)) fun q hq hl y hy => ?_
          rw [dd_dd] at hq ⊢
          rcases mem_dd.mp hq with hq | hq
          · exact mem_dd.mpr (.inl (Cb q hq hl y hy))
          · refine mem_dd.mpr (.inr ?_)
            have zq : lastP q ≤ lastP c := by
              rcases mem_last L n hq with rfl | q'
              · exact Int.le_refl _
              · omega
            rw [lm_fuel L N n q (by omega) (by omega)] at hy
            exact lm_trans L n (by omega) hq hy
      have e2 : m ++ [p] = dd m [p] := by
        show m ++ [p] = ins m p
        rw [ins_of_not hp]
      rw [e, e2, go _ (fun c h => h) m [p] (fun q hq hl y hy => ?_)]
      · rfl
      · rcases mem_dd.mp hq with hq | hq
        · exact mem_dd.mpr (.inl (C q hq (by omega) y hy))
        · rw [List.mem_singleton] at hq
          subst hq
          omega
theorem mt_nil {f : Fam} (L : Low f) {n : Nat} {p : Part} (h : lastP p < n) (h0 : 0 ≤ lastP p) : mt n f p [] = lm n f p := by
  rw [mt_eq L n n p [] h h0 (Nat.le_refl _) (fun q hq => nomatch hq), dd_nil_of_nodup (lm_nodup n f p)]

/-! ### who does a deed -/
/-- the one sign c is among the deeds of the kind that p's last number tells -/
def does (f : Fam) (c : Nat) (p : Part) : Bool := decide (c ∈ (kd f (lastP p)).de.cps.toList)
/-- the parts of m that do c -/
def doing (f : Fam) (c : Nat) (m : List Part) : List Part := m.filter (does f c)
def hidden (n : Nat) (f : Fam) (l : List Part) : List Part := l.flatMap fun p => (lm n f p).tail
def left (n : Nat) (f : Fam) (l : List Part) : List Part := l.filter fun p => decide (¬ p ∈ hidden n f l)
/-- all of l is inside x -/
def over (n : Nat) (f : Fam) (l : List Part) (x : Part) : Bool := l.all fun y => decide (y ∈ lm n f x)
def foremost (n : Nat) (f : Fam) (l : List Part) : Option Part := l.find? (over n f l)
theorem mem_hidden {n : Nat} {f : Fam} {l : List Part} {y : Part} : y ∈ hidden n f l ↔ ∃ p ∈ l, y ∈ (lm n f p).tail := by
  unfold hidden
  rw [List.mem_flatMap]
theorem over_iff {n : Nat} {f : Fam} {l : List Part} {x : Part} : over n f l x = true ↔ ∀ y ∈ l, y ∈ lm n f x := by
  unfold over
  rw [List.all_eq_true]
  constructor
  · intro h y hy
    exact of_decide_eq_true (h y hy)
  · intro h y hy
    exact decide_eq_true (h y hy)
theorem tail_low {f : Fam} (L : Low f) {n : Nat} {p y : Part} (h : y ∈ (lm n f p).tail) : y ∈ lm n f p ∧ y ≠ p ∧ 0 ≤ lastP y ∧ lastP y < lastP p := by
  obtain ⟨r, e⟩ := lm_head n f p
  have nd := lm_nodup n f p
  rw [e] at h
  have hm : y ∈ lm n f p := by rw [e]; exact List.mem_cons_of_mem _ h
  rw [e] at nd
  have ne : y ≠ p := by
    rintro rfl
    exact (List.nodup_cons.mp nd).1 h
  rcases mem_last L n hm with q | q
  · exact absurd q ne
  · exact ⟨hm, ne, q⟩
/-- one alone is left: all are inside it -/
theorem left_one {f : Fam} (L : Low f) {n : Nat} {l : List Part} {x : Part} (hn : ∀ y ∈ l, lastP y < n) (h : left n f l = [x]) : x ∈ l ∧ ∀ y ∈ l, y ∈ lm n f x := by
  have hx : x ∈ left n f l := by rw [h]; exact List.mem_singleton.mpr rfl
  have hxl : x ∈ l := (List.mem_filter.mp hx).1
  refine ⟨hxl, ?_⟩
  have go : ∀ (m : Nat) (y : Part), y ∈ l → (n : Int) - lastP y ≤ m → y ∈ lm n f x := by
    intro m
    induction m with
    | zero =>
      intro y hy hm
      have := hn y hy
      omega
    | succ m ih =>
      intro y hy hm
      by_cases q : y ∈ hidden n f l
      · obtain ⟨p, hp, ht⟩ := mem_hidden.mp q
        obtain ⟨h1, h2, h3, h4⟩ := tail_low L ht
        have hpx := ih p hp (by omega)
        exact lm_trans L n (hn x hxl) hpx h1
      · have : y ∈ left n f l := List.mem_filter.mpr ⟨hy, decide_eq_true q⟩
        rw [h, List.mem_singleton] at this
        rw [this]
        exact self_mem n f x
  intro y hy
  exact go ((n : Int) - lastP y).toNat y hy (by omega)
theorem over_uniq {f : Fam} (L : Low f) {n : Nat} {l : List Part} {x z : Part} (hx : x ∈ l) (hz : z ∈ l) (h1 : over n f l x = true) (h2 : over n f l z = true) : x = z := by
  have a := over_iff.mp h1 z hz
  have b := over_iff.mp h2 x hx
  rcases mem_last L n a with q | q
  · exact q.symm
  · rcases mem_last L n b with r | r
    · exact r
    · omega
theorem foremost_of {f : Fam} (L : Low f) {n : Nat} {l : List Part} {x : Part} (hx : x ∈ l) (h : over n f l x = true) : foremost n f l = some x := by
  cases q : foremost n f l with
  | none =>
    have z := List.find?_eq_none.mp q x hx
    exact absurd h z
  | some z =>
    rw [over_uniq L (List.mem_of_find?_eq_some q) hx (List.find?_some q) h]
/-- the law's own way -/
def ldoer (n : Nat) (f : Fam) (l : List Part) : Option Part := if (left n f l).length = 1 then (left n f l).head? else none
theorem ldoer_some {f : Fam} (L : Low f) {n : Nat} {l : List Part} {x : Part} (hn : ∀ y ∈ l, lastP y < n) (h : ldoer n f l = some x) : foremost n f l = some x ∧ x ∈ l ∧ over n f l x = true := by
  unfold ldoer at h
  split at h
  · rename_i hl
    match q : left n f l, hl with
    | [z], _ =>
      rw [q] at h
      have e : z = x := Option.some.inj h
      subst e
      obtain ⟨h1, h2⟩ := left_one L hn q
      have h3 := over_iff.mpr h2
      exact ⟨foremost_of L h1 h3, h1, h3⟩
  · cases h
/-- where one has all inside it, it alone is left -/
theorem left_of {f : Fam} (L : Low f) {n : Nat} {l : List Part} {x : Part} (nd : l.Nodup) (hx : x ∈ l) (h : over n f l x = true) : left n f l = [x] := by
  have ho := over_iff.mp h
  have hin : x ∈ left n f l := by
    refine List.mem_filter.mpr ⟨hx, decide_eq_true fun q => ?_⟩
    obtain ⟨p, hp, ht⟩ := mem_hidden.mp q
    obtain ⟨h1, h2, h3, h4⟩ := tail_low L ht
    rcases mem_last L n (ho p hp) with r | r
    · exact h2 r.symm
    · omega
  have hall : ∀ y ∈ left n f l, y = x := by
    intro y hy
    obtain ⟨hy1, hy2⟩ := List.mem_filter.mp hy
    have hy3 := of_decide_eq_true hy2
    by_cases e : y = x
    · exact e
    · refine absurd (mem_hidden.mpr ⟨x, hx, ?_⟩) hy3
      obtain ⟨r, er⟩ := lm_head n f x
      have := ho y hy1
      rw [er] at this ⊢
      rcases List.mem_cons.mp this with q | q
      · exact absurd q e
      · exact q
  have nd2 : (left n f l).Nodup := nd.filter _
  match q : left n f l with
  | [] => rw [q] at hin; cases hin
  | [z] => rw [hall z (by rw [q]; exact List.mem_singleton.mpr rfl)]
  | z :: z' :: r =>
    have e1 := hall z (by rw [q]; exact List.mem_cons_self)
    have e2 := hall z' (by rw [q]; exact List.mem_cons_of_mem _ List.mem_cons_self)
    rw [q] at nd2
    exact absurd (by rw [e1, e2]; exact List.mem_cons_self) (List.nodup_cons.mp nd2).1
theorem ldoer_of {f : Fam} (L : Low f) {n : Nat} {l : List Part} {x : Part} (nd : l.Nodup) (hx : x ∈ l) (h : over n f l x = true) : ldoer n f l = some x := by
  unfold ldoer
  rw [left_of L nd hx h]
  rfl
theorem ldoer_eq {f : Fam} (L : Low f) {n : Nat} {l : List Part} (nd : l.Nodup) (hn : ∀ y ∈ l, lastP y < n) : ldoer n f l = foremost n f l := by
  cases q : ldoer n f l with
  | some x => exact (ldoer_some L hn q).1.symm
  | none =>
    cases r : foremost n f l with
    | none => rfl
    | some x =>
      have := ldoer_of L nd (List.mem_of_find?_eq_some r) (List.find?_some r)
      rw [q] at this
      cases this

/-! ### families that agree -/
def Agree (f g : Fam) (k : Int) : Prop := ∀ j : Int, 0 ≤ j → j ≤ k → (kd f j).el = (kd g j).el
theorem lm_agree {f g : Fam} (L : Low f) : ∀ (n : Nat) (p : Part), 0 ≤ lastP p → Agree f g (lastP p) → lm n f p = lm n g p
  | 0, _, _, _ => rfl
  | n + 1, p, h0, A => by
    have ek : kids f p = kids g p := by
      unfold kids
      rw [A (lastP p) h0 (Int.le_refl _)]
    have go : ∀ (cs : List Part), (∀ c ∈ cs, c ∈ kids f p) → ∀ a, cs.foldl (fun a c => dd a (lm n f c)) a = cs.foldl (fun a c => dd a (lm n g c)) a := by
      intro cs
      induction cs with
      | nil => intro _ _; rfl
      | cons c cs ih =>
        intro hc a
        have z := kid_low L (hc c List.mem_cons_self)
        show cs.foldl _ (dd a (lm n f c)) = cs.foldl _ (dd a (lm n g c))
        rw [lm_agree L n c z.1 (fun j h1 h2 => A j h1 (by omega))]
        exact ih (fun d hd => hc d (List.mem_cons_of_mem _ hd)) _
    show (kids f p).foldl _ [p] = (kids g p).foldl _ [p]
    rw [← ek]
    exact go _ (fun c h => h) _
end KS
namespace KS
open PySem PySem.Spec PyProof.Rows L2
open PySem.Froz (sing)
/-! ### data -/
def encP (p : Part) : PyData := .tuple (p.map PyData.int)
def encE (e : Int × Int) : PyData := .tuple [.int e.1, .int e.2]
def encK (k : Kind) : PyData := .tuple [.tuple (k.el.map encE), .str k.de, .int k.ce]
def encF (f : Fam) : PyData := .tuple (f.map encK)
theorem ints_lay : ∀ l : List Int, PyData.canLayAll0 (l.map PyData.int) = true
  | [] => by simp [PyData.canLayAll0]
  | x :: l => by simp [PyData.canLayAll0, PyData.canLay0, ints_lay l]
theorem ints_depth : ∀ l : List Int, PyData.depthAll (l.map PyData.int) = 0
  | [] => by simp [PyData.depthAll]
  | x :: l => by simp [PyData.depthAll, PyData.depth, ints_depth l]
theorem encP_depth (p : Part) : (encP p).depth = 1 := by simp [encP, PyData.depth, ints_depth]
theorem encP_lay (p : Part) : (encP p).canLay0 = true := by simp [encP, PyData.canLay0, ints_lay]
theorem shaped_of {d : PyData} (h1 : d.canLay0 = true) (h2 : d.depth ≤ 64) : SeqAt.shaped d = true := by
  show (d.canLay0 && decide (d.depth ≤ 64)) = true
  rw [h1, decide_eq_true h2]; rfl
theorem encP_shaped (p : Part) : SeqAt.shaped (encP p) = true := shaped_of (encP_lay p) (by rw [encP_depth]; decide)
theorem encPs_lay : ∀ l : List Part, PyData.canLayAll0 (l.map encP) = true
  | [] => by simp [PyData.canLayAll0]
  | x :: l => by simp [PyData.canLayAll0, encP_lay, encPs_lay l]
theorem encPs_depth : ∀ l : List Part, PyData.depthAll (l.map encP) ≤ 1
  | [] => by simp [PyData.depthAll]
  | x :: l => by
    have h := encPs_depth l
    simp only [List.map_cons, PyData.depthAll, encP_depth]
    omega
theorem encPs_shaped (l : List Part) : SeqAt.shaped (.list (l.map encP)) = true := by
  have h := encPs_depth l
  exact shaped_of (by simp only [PyData.canLay0]; exact encPs_lay l) (by simp only [PyData.depth]; omega)
theorem intsL_shaped (l : List Int) : SeqAt.shaped (.list (l.map PyData.int)) = true := by
  have h := ints_depth l
  exact shaped_of (by simp only [PyData.canLay0]; exact ints_lay l) (by simp only [PyData.depth]; omega)
theorem eqv_ints : ∀ a b : List Int, PyData.eqvAll (a.map PyData.int) (b.map PyData.int) = decide (a = b)
  | [], [] => by simp [PyData.eqvAll]
  | [], _ :: _ => by simp [PyData.eqvAll]
  | _ :: _, [] => by simp [PyData.eqvAll]
  | x :: a, y :: b => by
    simp only [List.map_cons, PyData.eqvAll, PyData.eqv, eqv_ints a b]
    by_cases h : x = y
    · subst h
      by_cases h2 : a = b
      · subst h2; simp
      · simp [h2]
    · have : (x == y) = false := beq_eq_false_iff_ne.mpr h
      rw [this]
      simp [h]
theorem eqv_encP (a b : Part) : PyData.eqv (encP a) (encP b) = decide (a = b) := by
  simp only [encP, PyData.eqv, eqv_ints]
theorem any_encP (l : List Part) (p : Part) : ((l.map encP).any fun z => PyData.eqv z (encP p)) = decide (p ∈ l) := by
  induction l with
  | nil => simp
  | cons x l ih =>
    rw [List.map_cons, List.any_cons, ih, eqv_encP]
    by_cases h : x = p
    · subst h; simp
    · have h2 : ¬ p = x := fun e => h e.symm
      simp [h, h2]
theorem atI_map {α β : Type} {l : List α} {g : α → β} {k : Int} {x : α} (h : atI l k = some x) : atI (l.map g) k = some (g x) := by
  unfold atI at h ⊢
  rw [List.length_map]
  cases q : ixN l.length k with
  | none => rw [q] at h; cases h
  | some j =>
    rw [q] at h
    show (l.map g)[j]? = some (g x)
    rw [List.getElem?_map, show l[j]? = some x from h]; rfl
theorem atI_kd {f : Fam} {k : Int} (h0 : 0 ≤ k) (h : k < f.length) : atI f k = some (kd f k) := by
  have hk : k.toNat < f.length := by omega
  have e : atI f ((k.toNat : Nat) : Int) = some (f[k.toNat]) := atI_nat (List.getElem?_eq_getElem hk)
  have e2 : ((k.toNat : Nat) : Int) = k := by omega
  rw [e2] at e
  rw [e]
  unfold kd
  rw [List.getD_eq_getElem?_getD, List.getElem?_eq_getElem hk]; rfl
theorem atI_end {p : Part} (h : p ≠ []) : atI p (-1) = some (lastP p) := by
  have e : p = p.dropLast ++ [p.getLast h] := (List.dropLast_concat_getLast h).symm
  have e2 : lastP p = p.getLast h := by
    unfold lastP
    rw [List.getLastD_eq_getLast?, List.getLast?_eq_getLast h]; rfl
  rw [e2]
  conv => lhs; rw [e]
  exact atI_last _ _
/-! ### letters -/
def abc : List Nat := [97, 98, 99, 100, 101, 102]
def txt (l : List Nat) : Str := ⟨l.toArray⟩
theorem txt_tl (s : Str) : txt s.cps.toList = s := TL.mk_tl s
theorem sing_eq (c : Nat) : sing c = txt [c] := rfl
theorem join_sing (l : List Nat) : Txt.join Str.empty (l.map sing) = txt l := by
  refine TL.ext_tl ?_
  rw [TL.join_eq, TL.tl_join, List.map_map]
  show TL.joinL [] (l.map fun c => [c]) = l
  induction l with
  | nil => rfl
  | cons a l ih =>
    cases l with
    | nil => rfl
    | cons b l =>
      show [a] ++ ([] ++ TL.joinL [] ((b :: l).map fun c => [c])) = a :: b :: l
      rw [ih]; rfl
/-- deeds as the document wants them -/
def rise (l : List Nat) : Prop := l = abc.filter fun c => decide (c ∈ l)
theorem sorted_filter : ∀ (L l : List Nat), L.Pairwise (· < ·) → l.Pairwise (· < ·) → (∀ c ∈ l, c ∈ L) → l = L.filter fun c => decide (c ∈ l)
  | [], l, _, _, h => by
    cases l with
    | nil => rfl
    | cons x l => exact absurd (h x List.mem_cons_self) (by simp)
  | a :: L, l, hL, hl, h => by
    obtain ⟨h1, h2⟩ := List.pairwise_cons.mp hL
    by_cases ha : a ∈ l
    · cases l with
      | nil => cases ha
      | cons x l =>
        obtain ⟨g1, g2⟩ := List.pairwise_cons.mp hl
        have ex : x = a := by
          rcases List.mem_cons.mp ha with e | ha
          · exact e.symm
          · have := g1 a ha
            rcases List.mem_cons.mp (h x List.mem_cons_self) with e | hx
            · exact e
            · have := h1 x hx
              omega
        subst ex
        have ih := sorted_filter L l h2 g2 fun c hc => by
          rcases List.mem_cons.mp (h c (List.mem_cons_of_mem _ hc)) with e | q
          · have := g1 c hc
            omega
          · exact q
        rw [List.filter_cons, if_pos (decide_eq_true List.mem_cons_self)]
        congr 1
        rw [ih]
        refine List.filter_congr fun c hc => ?_
        have := h1 c hc
        have e : (c ∈ x :: L.filter fun c => decide (c ∈ l)) ↔ (c ∈ L.filter fun c => decide (c ∈ l)) := by
          rw [List.mem_cons]
          constructor
          · rintro (e | q)
            · omega
            · exact q
          · exact .inr
        rw [← ih] at e
        rw [← ih]
        exact (decide_eq_decide.mpr e).symm
    · have ih := sorted_filter L l h2 hl fun c hc => by
        rcases List.mem_cons.mp (h c hc) with e | q
        · exact absurd (e ▸ hc) ha
        · exact q
      rw [List.filter_cons, if_neg (by simpa using ha)]
      exact ih
theorem abc_sorted : abc.Pairwise (· < ·) := by decide
theorem sing_lt (a b : Nat) : ltCps (sing a).cps.toList (sing b).cps.toList = decide (a < b) := by
  show ltCps [a] [b] = _
  unfold ltCps
  by_cases h : a < b
  · simp [h]
  · by_cases h2 : b < a
    · simp [h, h2, ltCps]
    · simp [h, h2, ltCps]
theorem sorted_sings : ∀ (x : Nat) (l : List Nat), risingS (sing x) (l.map sing) = true → (x :: l).Pairwise (· ≤ ·)
  | x, [], _ => by simp
  | x, y :: l, h => by
    rw [List.map_cons, risingS, Bool.and_eq_true] at h
    have h1 : ¬ y < x := by
      have q := h.1
      rw [sing_lt] at q
      simpa using q
    have h2 := sorted_sings y l h.2
    obtain ⟨g1, g2⟩ := List.pairwise_cons.mp h2
    refine List.pairwise_cons.mpr ⟨fun z hz => ?_, h2⟩
    rcases List.mem_cons.mp hz with e | hz
    · omega
    · have := g1 z hz
      omega
theorem map_sing_of : ∀ {ys : List Str} {l : List Nat}, (∀ y ∈ ys, ∃ c ∈ l, y = sing c) → ∃ m : List Nat, ys = m.map sing ∧ ∀ c ∈ m, c ∈ l
  | [], _, _ => ⟨[], rfl, fun _ h => nomatch h⟩
  | y :: ys, l, h => by
    obtain ⟨c, hc, e⟩ := h y List.mem_cons_self
    obtain ⟨m, e2, h2⟩ := map_sing_of (ys := ys) (l := l) fun z hz => h z (List.mem_cons_of_mem _ hz)
    refine ⟨c :: m, by rw [e, e2]; rfl, fun d hd => ?_⟩
    rcases List.mem_cons.mp hd with rfl | hd
    · exact hc
    · exact h2 d hd
theorem sing_inj {a b : Nat} (h : sing a = sing b) : a = b := by
  have : [a] = [b] := congrArg (fun z : Str => z.cps.toList) h
  exact (List.cons.inj this).1
/-- what sorted(set(text)) tells -/
theorem sorted_set_text {l : List Nat} {ys : List Str} (nd : l.Nodup) (sub : ∀ c ∈ l, c ∈ abc) (hs : sortedS ys = true) (hp : ys.Perm ((l.map sing).reverse)) : ∃ m : List Nat, ys = m.map sing ∧ rise m ∧ ∀ c, c ∈ m ↔ c ∈ l := by
  obtain ⟨m, e, h⟩ := map_sing_of (ys := ys) (l := l) fun y hy => by
    have := hp.mem_iff.mp hy
    rw [List.mem_reverse, List.mem_map] at this
    obtain ⟨c, hc, e⟩ := this
    exact ⟨c, hc, e.symm⟩
  subst e
  have hm : ∀ c, c ∈ m ↔ c ∈ l := fun c => ⟨h c, fun hc => by
    have : sing c ∈ m.map sing := hp.mem_iff.mpr (by rw [List.mem_reverse]; exact List.mem_map.mpr ⟨c, hc, rfl⟩)
    obtain ⟨d, hd, e⟩ := List.mem_map.mp this
    rw [← sing_inj e]; exact hd⟩
  have ndm : m.Nodup := by
    have q : (m.map sing).Nodup := hp.nodup_iff.mpr ((List.reverse_perm _).nodup_iff.mpr (List.pairwise_map.mpr (nd.imp fun h e => h (sing_inj e))))
    exact (List.pairwise_map.mp q).imp fun h e => h (congrArg sing e)
  have le : m.Pairwise (· ≤ ·) := by
    cases m with
    | nil => exact .nil
    | cons x m => exact sorted_sings x m (by simpa [sortedS] using hs)
  have lt : m.Pairwise (· < ·) := by
    refine (le.and ndm).imp fun ⟨h1, h2⟩ => ?_
    omega
  exact ⟨m, rfl, sorted_filter abc m abc_sorted lt (fun c hc => sub c (h c hc)), hm⟩

/-! ### families that are none torn -/
structure KindOk (n : Nat) (k : Kind) : Prop where
  few : k.el.length ≤ 3
  low : ∀ e ∈ k.el, 0 ≤ e.1 ∧ e.1 < n ∧ (e.2 = 0 ∨ e.2 = 1)
  once : (k.el.map (·.1)).Nodup
  rise : rise k.de.cps.toList
  cells : 0 ≤ k.ce ∧ k.ce ≤ 3
abbrev NN : Nat := 16
/-- things of kind k have few enough parts, and a doer for each known deed -/
def Sound (f : Fam) (k : Int) : Prop := (lm NN f [k]).length ≤ 16 ∧ ∀ c, doing f c (lm NN f [k]) ≠ [] → ∃ x ∈ doing f c (lm NN f [k]), over NN f (doing f c (lm NN f [k])) x = true
def Kinds (f : Fam) : Prop := ∀ (j : Nat) (k : Kind), f[j]? = some k → KindOk j k
def FamOk (f : Fam) : Prop := f.length ≤ 15 ∧ Kinds f ∧ ∀ j : Nat, j < f.length → Sound f j
theorem kd_at {f : Fam} {j : Nat} {k : Kind} (h : f[j]? = some k) : kd f j = k := by
  unfold kd
  rw [List.getD_eq_getElem?_getD, Int.toNat_natCast, h]; rfl
theorem kinds_low {f : Fam} (h : Kinds f) : Low f := by
  intro k e he
  cases q : f[k.toNat]? with
  | none =>
    unfold kd at he
    rw [List.getD_eq_getElem?_getD, q] at he
    cases he
  | some z =>
    have o := h _ _ q
    unfold kd at he
    rw [List.getD_eq_getElem?_getD, q] at he
    have := o.low e he
    refine ⟨this.1, ?_⟩
    omega
theorem FamOk.lowF {f : Fam} (h : FamOk f) : Low f := kinds_low h.2.1
theorem kd_append {g : Fam} {l : Fam} {j : Int} (h0 : 0 ≤ j) (h : j < g.length) : kd (g ++ l) j = kd g j := by
  unfold kd
  rw [List.getD_eq_getElem?_getD, List.getD_eq_getElem?_getD, List.getElem?_append_left (by omega)]
theorem kd_new {g : Fam} {k : Kind} : kd (g ++ [k]) (g.length : Nat) = k := by
  refine kd_at ?_
  simp
theorem agree_append {g l : Fam} {j : Int} (h : j < g.length) : Agree (g ++ l) g j := fun i h0 h1 => by rw [kd_append h0 (by omega)]
theorem lm_append {g l : Fam} (L : Low (g ++ l)) {p : Part} (h0 : 0 ≤ lastP p) (h : lastP p < g.length) (n : Nat) : lm n (g ++ l) p = lm n g p := lm_agree L n p h0 (agree_append h)
theorem does_append {g l : Fam} {p : Part} (h0 : 0 ≤ lastP p) (h : lastP p < g.length) (c : Nat) : does (g ++ l) c p = does g c p := by
  unfold does
  rw [kd_append h0 h]
theorem lastP_one (k : Int) : lastP [k] = k := rfl
theorem mem_bound {f : Fam} (L : Low f) {n : Nat} {k : Int} (h0 : 0 ≤ k) {y : Part} (h : y ∈ lm n f [k]) : 0 ≤ lastP y ∧ lastP y ≤ k := by
  rcases mem_last L n h with e | q
  · rw [e]; exact ⟨h0, Int.le_refl _⟩
  · rw [lastP_one] at q
    exact ⟨q.1, by omega⟩
theorem over_congr {f g : Fam} {n : Nat} {l : List Part} {x : Part} (h : lm n f x = lm n g x) : over n f l x = over n g l x := by
  unfold over
  rw [h]
theorem sound_append {g l : Fam} (K : Kinds (g ++ l)) {j : Nat} (h : j < g.length) (S : Sound g j) : Sound (g ++ l) j := by
  have L := kinds_low K
  have e : lm NN (g ++ l) [(j : Int)] = lm NN g [(j : Int)] := lm_append L (by rw [lastP_one]; omega) (by rw [lastP_one]; omega) NN
  have ed : ∀ c, doing (g ++ l) c (lm NN (g ++ l) [(j : Int)]) = doing g c (lm NN g [(j : Int)]) := fun c => by
    unfold doing
    rw [← e]
    refine List.filter_congr fun y hy => ?_
    have b := mem_bound L (by omega) hy
    exact does_append b.1 (by omega) c
  refine ⟨by rw [e]; exact S.1, fun c hc => ?_⟩
  rw [ed] at hc ⊢
  obtain ⟨x, hx, ho⟩ := S.2 c hc
  refine ⟨x, hx, ?_⟩
  have hx' : x ∈ lm NN (g ++ l) [(j : Int)] := by rw [e]; exact (List.mem_filter.mp hx).1
  have b := mem_bound L (by omega) hx'
  rw [over_congr (lm_append L b.1 (by omega) NN)]
  exact ho
theorem kinds_append {g : Fam} {k : Kind} (h : Kinds g) (o : KindOk g.length k) : Kinds (g ++ [k]) := by
  intro j z hz
  rcases Nat.lt_trichotomy j g.length with q | q | q
  · rw [List.getElem?_append_left q] at hz
    exact h j z hz
  · subst q
    simp at hz
    subst hz
    exact o
  · have : (g ++ [k])[j]? = none := List.getElem?_eq_none (by simp; omega)
    rw [this] at hz; cases hz
theorem famOk_append {g : Fam} {k : Kind} (h : FamOk g) (l : g.length ≤ 14) (o : KindOk g.length k) (S : Sound (g ++ [k]) g.length) : FamOk (g ++ [k]) := by
  have K := kinds_append h.2.1 o
  refine ⟨by simp; omega, K, fun j hj => ?_⟩
  rw [List.length_append, List.length_singleton] at hj
  rcases Nat.lt_or_ge j g.length with q | q
  · exact sound_append K q (h.2.2 j q)
  · have e : j = g.length := by omega
    subst e
    exact S
/-- the deeds a kind of f knows, rising -/
def known (f : Fam) (l : List Part) : List Nat := abc.filter fun c => l.any (does f c)
theorem known_iff {f : Fam} {l : List Part} {c : Nat} : c ∈ known f l ↔ c ∈ abc ∧ doing f c l ≠ [] := by
  unfold known doing
  rw [List.mem_filter, List.any_eq_true]
  constructor
  · rintro ⟨h, x, hx, hd⟩
    refine ⟨h, fun e => ?_⟩
    have : x ∈ l.filter (does f c) := List.mem_filter.mpr ⟨hx, hd⟩
    rw [e] at this; cases this
  · rintro ⟨h, ne⟩
    refine ⟨h, ?_⟩
    obtain ⟨x, hx⟩ := List.exists_mem_of_ne_nil _ ne
    exact ⟨x, List.mem_filter.mp hx⟩
/-- the deeds that nobody alone does -/
def torn (f : Fam) (k : Int) : List Nat := (known f (lm NN f [k])).filter fun c => (ldoer NN f (doing f c (lm NN f [k]))).isNone
theorem rise_abc {l : List Nat} (h : rise l) {c : Nat} (hc : c ∈ l) : c ∈ abc := by
  rw [h] at hc
  exact (List.mem_filter.mp hc).1
theorem root_in (f : Fam) (k : Int) : [k] ∈ lm NN f [k] := self_mem NN f [k]
/-- the last kind told anew with its torn deeds is sound -/
theorem sound_torn {g : Fam} {k : Kind} {m : List Nat} (h : FamOk g) (l : g.length ≤ 14) (e3 : k.el.length ≤ 3) (elow : ∀ e ∈ k.el, 0 ≤ e.1 ∧ e.1 < g.length ∧ (e.2 = 0 ∨ e.2 = 1)) (eonce : (k.el.map (·.1)).Nodup)
    (kabc : ∀ c ∈ k.de.cps.toList, c ∈ abc) (cells : 0 ≤ k.ce ∧ k.ce ≤ 3) (parts : (lm NN (g ++ [k]) [(g.length : Int)]).length ≤ 16) (hr : rise m) (hm : ∀ c, c ∈ m ↔ c ∈ k.de.cps.toList ∨ c ∈ torn (g ++ [k]) g.length) :
    FamOk (g ++ [⟨k.el, txt m, k.ce⟩]) := by
  have o : KindOk g.length ⟨k.el, txt m, k.ce⟩ := ⟨e3, elow, eonce, hr, cells⟩
  refine famOk_append h l o ?_
  have K' := kinds_append h.2.1 o
  have L' := kinds_low K'
  have L : Low (g ++ [k]) := by
    intro j e he
    rcases Nat.lt_trichotomy j.toNat g.length with q | q | q
    · have e1 : kd (g ++ [k]) j = kd g j := by
        unfold kd
        rw [List.getD_eq_getElem?_getD, List.getD_eq_getElem?_getD, List.getElem?_append_left q]
      rw [e1] at he
      exact h.lowF j e he
    · have e1 : kd (g ++ [k]) j = k := by
        unfold kd
        rw [List.getD_eq_getElem?_getD, q]; simp
      rw [e1] at he
      have z := elow e he
      exact ⟨z.1, by omega⟩
    · have e1 : (kd (g ++ [k]) j).el = [] := by
        unfold kd
        rw [List.getD_eq_getElem?_getD, List.getElem?_eq_none (by simp; omega)]; rfl
      rw [e1] at he; cases he
  have ag : ∀ j : Int, Agree (g ++ [⟨k.el, txt m, k.ce⟩]) (g ++ [k]) j := by
    intro j i h0 _
    rcases Nat.lt_trichotomy i.toNat g.length with q | q | q
    · rw [kd_append h0 (by omega), kd_append h0 (by omega)]
    · have ei : i = (g.length : Nat) := by omega
      subst ei
      rw [kd_new, kd_new]
    · unfold kd
      rw [List.getD_eq_getElem?_getD, List.getD_eq_getElem?_getD, List.getElem?_eq_none (by simp; omega), List.getElem?_eq_none (by simp; omega)]
  have el : ∀ (p : Part), 0 ≤ lastP p → lm NN (g ++ [⟨k.el, txt m, k.ce⟩]) p = lm NN (g ++ [k]) p := fun p h0 => lm_agree L' NN p h0 (ag _)
  have e0 := el [(g.length : Int)] (by rw [lastP_one]; omega)
  refine ⟨by rw [e0]; exact parts, fun c hc => ?_⟩
  by_cases cm : c ∈ m
  · refine ⟨[(g.length : Int)], List.mem_filter.mpr ⟨root_in _ _, ?_⟩, over_iff.mpr fun y hy => (List.mem_filter.mp hy).1⟩
    unfold does
    rw [lastP_one, kd_new]
    exact decide_eq_true cm
  · have ed : doing (g ++ [⟨k.el, txt m, k.ce⟩]) c (lm NN (g ++ [⟨k.el, txt m, k.ce⟩]) [(g.length : Int)]) = doing (g ++ [k]) c (lm NN (g ++ [k]) [(g.length : Int)]) := by
      unfold doing
      rw [e0]
      refine List.filter_congr fun y hy => ?_
      have b := mem_bound L (by omega) hy
      rcases Int.lt_or_le (lastP y) g.length with q | q
      · rw [does_append b.1 q, does_append b.1 q]
      · have ey : lastP y = (g.length : Nat) := by omega
        unfold does
        rw [ey, kd_new, kd_new]
        have n1 : ¬ c ∈ (txt m).cps.toList := cm
        have n2 : ¬ c ∈ k.de.cps.toList := fun z => cm ((hm c).mpr (.inl z))
        simp only [decide_eq_false n1, decide_eq_false n2]
    rw [ed] at hc ⊢
    have ca : c ∈ abc := by
      obtain ⟨x, hx⟩ := List.exists_mem_of_ne_nil _ hc
      obtain ⟨hx1, hx2⟩ := List.mem_filter.mp hx
      have b := mem_bound L (by omega) hx1
      rcases Int.lt_or_le (lastP x) g.length with q | q
      · unfold does at hx2
        rw [kd_append b.1 q] at hx2
        have hx3 := of_decide_eq_true hx2
        have hj : g[(lastP x).toNat]? = some (kd g (lastP x)) := by
          unfold kd
          rw [List.getD_eq_getElem?_getD, List.getElem?_eq_getElem (by omega)]; rfl
        exact rise_abc (h.2.1 _ _ hj).rise hx3
      · have ey : lastP x = (g.length : Nat) := by omega
        unfold does at hx2
        rw [ey, kd_new] at hx2
        exact kabc c (of_decide_eq_true hx2)
    have nt : ¬ c ∈ torn (g ++ [k]) g.length := fun z => cm ((hm c).mpr (.inr z))
    cases q : ldoer NN (g ++ [k]) (doing (g ++ [k]) c (lm NN (g ++ [k]) [(g.length : Int)])) with
    | none =>
      refine absurd (List.mem_filter.mpr ⟨known_iff.mpr ⟨ca, hc⟩, ?_⟩) nt
      rw [q]; rfl
    | some x =>
      obtain ⟨_, hx, ho⟩ := ldoer_some L (fun y hy => by
        have b := mem_bound L (by omega) (List.mem_filter.mp hy).1
        have : (g.length : Int) ≤ 14 := by omega
        show lastP y < (16 : Int)
        omega) q
      have hx1 := (List.mem_filter.mp hx).1
      have b := mem_bound L (by omega) hx1
      exact ⟨x, hx, by rw [over_congr (el x b.1)]; exact ho⟩
/-- no deed of its own is torn -/
theorem torn_other {g : Fam} {k : Kind} (L : Low (g ++ [k])) {c : Nat} (hc : c ∈ k.de.cps.toList) : ¬ c ∈ torn (g ++ [k]) g.length := by
  intro h
  have h2 := (List.mem_filter.mp h).2
  have hx : [(g.length : Int)] ∈ doing (g ++ [k]) c (lm NN (g ++ [k]) [(g.length : Int)]) := by
    refine List.mem_filter.mpr ⟨root_in _ _, ?_⟩
    unfold does
    rw [lastP_one, kd_new]
    exact decide_eq_true hc
  have nd : (doing (g ++ [k]) c (lm NN (g ++ [k]) [(g.length : Int)])).Nodup := (lm_nodup _ _ _).filter _
  rw [ldoer_of L nd hx (over_iff.mpr fun y hy => (List.mem_filter.mp hy).1)] at h2
  cases h2
theorem torn_nodup (f : Fam) (k : Int) : (torn f k).Nodup := by
  unfold torn known
  exact List.Pairwise.filter _ (List.Pairwise.filter _ (by decide))
theorem torn_abc {f : Fam} {k : Int} {c : Nat} (h : c ∈ torn f k) : c ∈ abc := (List.mem_filter.mp (List.mem_filter.mp h).1).1
end KS
namespace KS
open PySem PySem.Spec PyProof.Rows L2 Evl
open RZ (tLenSetI pe_lenSetI)
/-! ### a def that keeps its promise, ready to be called -/
structure Cl (P : Program) (w : World) (K : PySem.W.Frag) (mg : Str → Option Value) (base : Heap) (x : Str) (ps : List Str) (k : Nat) (sp : Sp) : Prop where
  ex : ∃ (f : Addr) (fd : FuncData), FnOk P w K mg base CX0 k f fd ps sp ∧ mg x = some (.ref f) ∧ PySem.W.keepIn K (.ref f) = true ∧ Binds K fd ps []
/-- a def as the top has written it -/
structure Df (K : PySem.W.Frag) (mg : Str → Option Value) (x : Str) (st : Stmt) (ps : List Str) : Prop where
  ex : ∃ (f : Addr) (fd : FuncData), Fun K x x st f fd ∧ mg x = some (.ref f) ∧ Binds K fd ps []
section
variable {P : Program} {w : World} {K : PySem.W.Frag} {mg : Str → Option Value} {base : Heap}
theorem Cl.mono {x : Str} {ps : List Str} {j k : Nat} {sp : Sp} (c : Cl P w K mg base x ps j sp) (h : j ≤ k) : Cl P w K mg base x ps k sp := by
  obtain ⟨f, fd, G, g, kp, b⟩ := c.ex
  exact ⟨f, fd, G.mono h, g, kp, b⟩
theorem Cl.imp {x : Str} {ps : List Str} {k : Nat} {sp sp' : Sp} (c : Cl P w K mg base x ps k sp) (h : ∀ vs H Q E, sp' vs H Q E → sp vs H Q E) : Cl P w K mg base x ps k sp' := by
  obtain ⟨f, fd, G, g, kp, b⟩ := c.ex
  exact ⟨f, fd, G.imp h, g, kp, b⟩
theorem Df.ok {x : Str} {st : Stmt} {ps N : List Str} {k : Nat} {sp : Sp} (d : Df K mg x st ps) (S : FnScope N ps (defScope st)) (len : ∀ vs H Q E, sp vs H Q E → vs.length = ps.length)
    (body : ∀ (f : Addr) (cdv : Value) (A : Around) (outer : List Env) (s : Shared) (H : Hp) (vs : List V) (Q : VK) (E : XK), Room k (A.deeper (envOfC x (defScope st) s.heap.objs.size f cdv)) → sp vs H Q E →
      ∃ t, PSs (cxOf CX0 P w K mg base N x (defScope st) f cdv A outer s H E).nox (defBody st) t ∧ t { nx := fun _ H' => Q .non H', rt := Q } (start N vs) H) : Cl P w K mg base x ps (k + 1) sp := by
  obtain ⟨f, fd, F, g, b⟩ := d.ex
  exact ⟨f, fd, F.ok S len (fun cdv A outer s H vs Q E hr h => body f cdv A outer s H vs Q E hr h), g, F.kp, b⟩
/-- a def that no exception leaves is called -/
theorem pe_cl {X : Cx} {x : Str} {ps : List Str} {k : Nat} {sp : Sp} {e : Expr} {es : List Expr} {t : TA} {p pos : Pos} (c : Cl X.prog X.w X.K X.mg X.base x ps k sp) (hr : Room k X.A) (ha : PA X (e :: es) t) (hg : Gl X x := by rfl)
    (hdb : (x == ("__debug__" : Str)) = false := by decide) (he : starEach (e :: es) X.env = (false, eval e X.env) :: starEach es X.env := by rfl) (hpl : (backTo pos (starEach es X.env)).any (·.1) = false := by rfl) :
    PE X (.Call (.Name x p) (e :: es) [] pos) (tCall sp [] E0 t) := by
  obtain ⟨f, fd, G, g, kp, b⟩ := c.ex
  exact pe_call G hr hg g kp b .nil pass0 ha hdb he hpl
theorem spD_len {R : List PyData → PyData → Prop} {n : Nat} (h : ∀ ds d, R ds d → ds.length = n) : ∀ vs H Q E, spD R vs H Q E → vs.length = n := fun vs H Q E ⟨ds, d, ha, r, _⟩ => ha.len.trans (h ds d r)
theorem spL_len {R : List PyData → List PyData → Prop} {n : Nat} (h : ∀ ds d, R ds d → ds.length = n) : ∀ vs H Q E, spL R vs H Q E → vs.length = n := fun vs H Q E ⟨ds, d, ha, r, _⟩ => ha.len.trans (h ds d r)
end
theorem DA.args1 {H : Hp} {vs : List V} {a : PyData} (h : DA H vs [a]) : ∃ x, vs = [x] ∧ D H x a := by
  cases h with
  | cons h t => cases t; exact ⟨_, rfl, h⟩
theorem DA.args2 {H : Hp} {vs : List V} {a b : PyData} (h : DA H vs [a, b]) : ∃ x y, vs = [x, y] ∧ D H x a ∧ D H y b := by
  cases h with
  | cons h t =>
    obtain ⟨y, rfl, hy⟩ := t.args1
    exact ⟨_, _, rfl, h, hy⟩
theorem DA.args3 {H : Hp} {vs : List V} {a b c : PyData} (h : DA H vs [a, b, c]) : ∃ x y z, vs = [x, y, z] ∧ D H x a ∧ D H y b ∧ D H z c := by
  cases h with
  | cons h t =>
    obtain ⟨y, z, rfl, hy, hz⟩ := t.args2
    exact ⟨_, _, _, rfl, h, hy, hz⟩
/-! ### built-ins by data -/
theorem kb_none_int : kitB "NoneType" "int" = some false := by decide +kernel
theorem kb_none_bool : kitB "NoneType" "bool" = some false := by decide +kernel
theorem kb_none_tuple : kitB "NoneType" "tuple" = some false := by decide +kernel
theorem kb_none_str : kitB "NoneType" "str" = some false := by decide +kernel
theorem kb_none_list : kitB "NoneType" "list" = some false := by decide +kernel
theorem kb_bool_int : kitB "bool" "int" = some true := by decide +kernel
theorem kb_bool_bool : kitB "bool" "bool" = some true := by decide +kernel
theorem kb_bool_tuple : kitB "bool" "tuple" = some false := by decide +kernel
theorem kb_bool_str : kitB "bool" "str" = some false := by decide +kernel
theorem kb_bool_list : kitB "bool" "list" = some false := by decide +kernel
theorem kb_int_int : kitB "int" "int" = some true := by decide +kernel
theorem kb_int_bool : kitB "int" "bool" = some false := by decide +kernel
theorem kb_int_tuple : kitB "int" "tuple" = some false := by decide +kernel
theorem kb_int_str : kitB "int" "str" = some false := by decide +kernel
theorem kb_int_list : kitB "int" "list" = some false := by decide +kernel
theorem kb_str_int : kitB "str" "int" = some false := by decide +kernel
theorem kb_str_bool : kitB "str" "bool" = some false := by decide +kernel
theorem kb_str_tuple : kitB "str" "tuple" = some false := by decide +kernel
theorem kb_str_str : kitB "str" "str" = some true := by decide +kernel
theorem kb_str_list : kitB "str" "list" = some false := by decide +kernel
theorem kb_list_int : kitB "list" "int" = some false := by decide +kernel
theorem kb_list_bool : kitB "list" "bool" = some false := by decide +kernel
theorem kb_list_tuple : kitB "list" "tuple" = some false := by decide +kernel
theorem kb_list_str : kitB "list" "str" = some false := by decide +kernel
theorem kb_list_list : kitB "list" "list" = some true := by decide +kernel
theorem kb_tuple_int : kitB "tuple" "int" = some false := by decide +kernel
theorem kb_tuple_bool : kitB "tuple" "bool" = some false := by decide +kernel
theorem kb_tuple_tuple : kitB "tuple" "tuple" = some true := by decide +kernel
theorem kb_tuple_str : kitB "tuple" "str" = some false := by decide +kernel
theorem kb_tuple_list : kitB "tuple" "list" = some false := by decide +kernel
def tyD : PyData → String
  | .none => "NoneType" | .bool _ => "bool" | .int _ => "int" | .str _ => "str" | .list _ => "list" | .tuple _ => "tuple" | .dict _ => "dict"
theorem D.tyx {K : PySem.W.Frag} {H : Hp} {v : V} {d : PyData} (h : D H v d) : TyX K H v (.type (tyD d)) := by
  cases h with
  | non => exact .base .non
  | bl b => exact .base (.bl b)
  | int i => exact .base (.int i)
  | str s => exact .base (.str s)
  | lst h _ => exact .base (.lst h)
  | tup h _ => exact .base (.tup h)
section
variable {K : PySem.W.Frag} {σ : L2.St} {H H' : Hp} {ta tb te tl : TE} {t u tt : TT} {v : V} {r : R2} {d d' z : PyData} {ds es : List PyData} {rc : List V → Hp → VK → Prop}
theorem ed_bc {ta : TA} (ha : EAs ta σ H ds) (hr : ∀ xs H1, Ex H H1 → DA H1 xs ds → ∀ Q : VK, (∀ v H2, Ex H1 H2 → D H2 v z → Q v H2) → rc xs H1 Q) : ED (tCB rc ta) σ H z := fun H1 e Q q =>
  ha H1 e _ fun xs H2 e2 a => hr xs H2 (e.trans e2) a Q fun v H3 e3 hv => q v H3 (e2.trans e3) hv
theorem el_bc {ta : TA} (ha : EAs ta σ H ds) (hr : ∀ xs H1, Ex H H1 → DA H1 xs ds → ∀ Q : VK, (∀ p ys H2, H1 p = none → Ex H1 H2 → H2 p = some (.lst ys) → DA H2 ys es → Q (.ref p) H2) → rc xs H1 Q) : EL (tCB rc ta) σ H es := fun H1 e Q q =>
  ha H1 e _ fun xs H2 e2 a => hr xs H2 (e.trans e2) a Q fun p ys H3 hp e3 h3 hv => q p ys H3 (fresh_back e2 hp) (e2.trans e3) h3 hv
theorem ed_isi {c ty : String} {b : Bool} (ha : ED ta σ H d) (hd : tyD d = ty) (h : kitB ty c = some b) : ED (tCB (rIsi K) (tCons ta (tCons (tC (.ty c)) tNil))) σ H (.bool b) := fun H1 e Q q =>
  ha H1 e _ fun x H2 e2 hx => ⟨x, .ty c, .type ty, .type c, b, rfl, .ty c, hd ▸ hx.tyx, kit_ty h, q _ H2 e2 (.bl b)⟩
theorem ed_isi2 {c1 c2 ty : String} {b1 b2 b : Bool} (ha : ED ta σ H d) (hd : tyD d = ty) (h1 : kitB ty c1 = some b1) (h2 : kitB ty c2 = some b2) (hb : (b1 || b2) = b) : ED (tCB (rIsiT K) (tCons ta (tCons (tTup (tCons (tC (.ty c1)) (tCons (tC (.ty c2)) tNil))) tNil))) σ H (.bool b) := fun H1 e Q q =>
  ha H1 e _ fun x H2 e2 hx => ⟨by show 2 ≤ sizeLine; decide, fun p hp => ⟨x, p, _, .type ty, [.type c1, .type c2], b, rfl, upd_same, .cons (.ty c1) (.cons (.ty c2) .nil), hd ▸ (hx.mono (Ex.new hp)).tyx, by
    refine kitAny_cons (kit_ty h1) (fun e1 => kitAny_cons (kit_ty h2) (fun e2 => ?_) (fun e2 => ?_)) (fun e1 => ?_)
    · subst e1 e2; rw [← hb]; exact kitAny_nil
    · subst e2; rw [← hb]; cases b1 <;> rfl
    · subst e1; rw [← hb]; rfl, q _ _ (e2.trans (Ex.new hp)) (.bl b)⟩⟩
theorem ed_len (ha : ED ta σ H d) {n : Nat} (hn : (match d with | .list ds => ds.length = n | .tuple ds => ds.length = n | .str s => s.length = n ∧ n ≤ sizeLine | _ => False)) : ED (tCB (fun xs H Q => ∃ x n, xs = [x] ∧ LenV K x H n ∧ Q (.int n) H) (tCons ta tNil)) σ H (.int n) := fun H1 e Q q =>
  ha H1 e _ fun x H2 e2 hx => ⟨x, n, rfl, by
    cases hx with
    | lst h a => exact .inl ⟨_, SqL.of h, by rw [a.len]; exact hn.symm⟩
    | tup h a => exact .inr ⟨_, SqT.of h, by rw [a.len]; exact hn.symm⟩
    | str s => exact ⟨by rw [hn.1]; exact hn.2, hn.1.symm⟩
    | _ => exact hn.elim, q _ H2 e2 (.int _)⟩
theorem ed_lenT (ha : ED ta σ H (.tuple ds)) : ED (tCB (fun xs H Q => ∃ x n, xs = [x] ∧ LenV K x H n ∧ Q (.int n) H) (tCons ta tNil)) σ H (.int ds.length) := ed_len ha rfl
theorem ed_lenL (ha : ED ta σ H (.list ds)) : ED (tCB (fun xs H Q => ∃ x n, xs = [x] ∧ LenV K x H n ∧ Q (.int n) H) (tCons ta tNil)) σ H (.int ds.length) := ed_len ha rfl
theorem ed_lenSet {ns : List Int} (ha : ED ta σ H (.list (ns.map PyData.int))) (nd : ns.Nodup) (hz : ns.length ≤ 4000) : ED (tLenSetI K ta) σ H (.int ns.length) := fun H1 e Q q =>
  ha H1 e _ fun x H2 e2 hx => by
    obtain ⟨a, xs, rfl, h, t⟩ := hx.toLst
    have e3 := t.ints
    subst e3
    exact ⟨a, ns, rfl, SqL.of h, nd, hz, q _ H2 e2 (.int _)⟩
theorem ed_all {bs : List Bool} (ha : ED ta σ H (.list (bs.map PyData.bool))) : ED (tCB (rAll K) (tCons ta tNil)) σ H (.bool (bs.all id)) := fun H1 e Q q =>
  ha H1 e _ fun x H2 e2 hx => by
    obtain ⟨a, xs, rfl, h, t⟩ := hx.toLst
    have e3 := t.bools
    subst e3
    exact ⟨a, bs, rfl, SqL.of h, q _ H2 e2 (.bl _)⟩
theorem ed_any {bs : List Bool} (ha : ED ta σ H (.list (bs.map PyData.bool))) : ED (tCB (rAny K) (tCons ta tNil)) σ H (.bool (bs.any id)) := fun H1 e Q q =>
  ha H1 e _ fun x H2 e2 hx => by
    obtain ⟨a, xs, rfl, h, t⟩ := hx.toLst
    have e3 := t.bools
    subst e3
    exact ⟨a, bs, rfl, SqL.of h, q _ H2 e2 (.bl _)⟩
theorem sing_lens : ∀ l : List Nat, ((l.map Froz.sing).map (·.length)).sum = l.length
  | [] => rfl
  | c :: l => by
    rw [List.map_cons, List.map_cons, List.sum_cons, sing_lens l, List.length_cons]
    show 1 + l.length = _
    omega
/-- "".join of single signs -/
theorem ed_join {l : List Nat} (hz : l.length ≤ 1000) (ha : ED ta σ H (.list ((l.map Froz.sing).map PyData.str))) : ED (tM1 (fun x xs H Q => ∃ a p, ∃ ys : List Str, x = .str a ∧ xs = [.ref p] ∧ (SqL K H p (ys.map V.str) ∨ SqT K H p (ys.map V.str)) ∧
      (ys.map (·.length)).sum + ys.length * a.length ≤ 16777216 ∧ Q (.str (Txt.join a ys)) H) (tC (.str Str.empty)) ta) σ H (.str (txt l)) := fun H1 e Q q => ⟨⟨_, rfl⟩,
  ha H1 e _ fun x H2 e2 hx => by
    obtain ⟨a, xs, rfl, h, t⟩ := hx.toLst
    have e3 := t.strs
    subst e3
    refine ⟨_, a, l.map Froz.sing, rfl, rfl, .inl (SqL.of h), ?_, ?_⟩
    · have e4 : (Str.empty).length = 0 := rfl
      rw [e4, Nat.mul_zero, Nat.add_zero, sing_lens]; omega
    · rw [join_sing]
      exact q _ H2 e2 (.str _)⟩
theorem ed_catT (ha : ED ta σ H (.tuple ds)) (hb : ED tb σ H (.tuple es)) (hz : ds.length + es.length ≤ 100000) : ED (tOp (rCatA K) ta tb) σ H (.tuple (ds ++ es)) := ed_bin' ha hb fun x y H1 _ hx hy Q q => by
  obtain ⟨a, xs, rfl, h1, a1⟩ := hx.toTup
  obtain ⟨b, ys, rfl, h2, a2⟩ := hy.toTup
  refine ⟨a, b, xs, ys, rfl, rfl, SqT.of h1, SqT.of h2, by rw [a1.len, a2.len]; exact sz_of hz, fun e => ?_, fun _ e => ?_, fun _ _ p hp => ?_⟩
  · subst e
    cases a1
    exact q _ H1 (Ex.refl H1) (.tup h2 a2)
  · subst e
    cases a2
    rw [List.append_nil] at q
    exact q _ H1 (Ex.refl H1) (.tup h1 a1)
  · exact q _ _ (Ex.new hp) (.tup upd_same ((a1.append a2).mono (Ex.new hp)))
/-! ### comprehensions -/
def CW (H0 : Hp) (Dl : Addr) (rs : List PyData) (H' : Hp) : Prop := H0 Dl = none ∧ Ex H0 H' ∧ ∃ acc, H' Dl = some (.lst acc) ∧ DA H' acc rs
theorem tu_upd {H : Hp} {p : Addr} {xs ys : List V} (h : H p = some (.lst xs)) : Tu H (upd H p (.lst ys)) := fun a zs e => by
  rw [upd_ne (ne_of e h (by intro z; cases z))]; exact e
theorem flatTs_append : ∀ {a b : List PyData}, flatTs a = true → flatTs b = true → flatTs (a ++ b) = true
  | [], _, _, h => h
  | x :: a, b, h1, h2 => by
    rw [flatTs, Bool.and_eq_true] at h1
    show (flatT x && flatTs (a ++ b)) = true
    rw [h1.1, flatTs_append h1.2 h2]; rfl
theorem cw_step {H0 H' : Hp} {Dl : Addr} {rs : List PyData} {σ2 : L2.St} {b : Bool} (p : CW H0 Dl rs H') (hz : rs.length < 50000) (fl : flatTs rs = true) (ht : EvT tt σ2 H0 b) (he : b = true → ED te σ2 H0 d ∧ flatT d = true) :
    tt σ2 H' fun c H3 => if c = true then te σ2 H3 fun y H4 => ∃ acc, H4 Dl = some (.lst acc) ∧ acc.length < sizeLine ∧ CW H0 Dl (if b = true then rs ++ [d] else rs) (upd H4 Dl (.lst (acc ++ [y]))) else CW H0 Dl (if b = true then rs ++ [d] else rs) H3 := by
  obtain ⟨p1, p2, acc, p3, p4⟩ := p
  refine ht H' p2 _ fun H3 e3 => ?_
  cases b with
  | false => exact ⟨p1, p2.trans e3, acc, e3 _ _ p3, p4.mono e3⟩
  | true =>
    obtain ⟨h1, h2⟩ := he rfl
    refine h1 H3 (p2.trans e3) _ fun y H4 e4 hy => ⟨acc, e4 _ _ (e3 _ _ p3), sz_lt (by rw [p4.len]; omega), p1, Ex.mut ((p2.trans e3).trans e4) p1, acc ++ [y], upd_same, ?_⟩
    have k := tu_upd (ys := acc ++ [y]) (e4 _ _ (e3 _ _ p3))
    refine DA.append (DA.keep k fl ((p4.mono e3).mono e4)) (DA.one (D.keep k h2 hy))
theorem flat_fm {α : Type} (ds : List α) (f : α → Bool) (g : α → PyData) (h : ∀ d ∈ ds, f d = true → flatT (g d) = true) : flatTs ((ds.filter f).map g) = true := by
  induction ds with
  | nil => rfl
  | cons x l ih =>
    have i := ih fun d hd => h d (List.mem_cons_of_mem _ hd)
    rw [List.filter_cons]
    split
    · rename_i hx
      show (flatT (g x) && _) = true
      rw [h x List.mem_cons_self hx]
      exact i
    · exact i
theorem take_fm {α : Type} {ds : List α} {i : Nat} {d : α} (f : α → Bool) (g : α → PyData) (h : ds[i]? = some d) : ((ds.take (i + 1)).filter f).map g = if f d = true then ((ds.take i).filter f).map g ++ [g d] else ((ds.take i).filter f).map g := by
  rw [List.take_add_one, h]
  show ((ds.take i ++ [d]).filter f).map g = _
  rw [List.filter_append, List.filter_cons]
  split
  · rw [List.map_append]; rfl
  · rw [List.filter_nil, List.append_nil]
theorem fm_len {α : Type} (ds : List α) (f : α → Bool) (g : α → PyData) : ((ds.filter f).map g).length ≤ ds.length := by
  rw [List.length_map]; exact List.length_filter_le _ _
/-- over a list of data: α tells an item, enc its datum -/
theorem el_lcL {α : Type} {as : List α} {enc : α → PyData} {g : TG} {vs : List Nat} (f : α → Bool) (ge : α → PyData) (h : ED tl σ H (.list (as.map enc))) (hz : as.length ≤ 40000) (fl : ∀ a ∈ as, f a = true → flatT (ge a) = true) (flE : ∀ a ∈ as, flatT (enc a) = true)
    (hg : ∀ a ∈ as, ∀ x H1, Ex H H1 → D H1 x (enc a) → ∃ σ2, wipe σ2 vs = wipe σ vs ∧ (∀ H2, Ex H1 H2 → ∀ R : L2.St → Hp → Prop, R σ2 H2 → g x (wipe σ vs) H2 R) ∧ EvT tt σ2 H1 (f a) ∧ (f a = true → ED te σ2 H1 (ge a))) :
    EL (tLc (iList K tl) g tt te vs) σ H ((as.filter f).map ge) := fun H0 e Q q => h H0 e _ fun x H1 e1 hx => by
  obtain ⟨p, xs, rfl, hp, ha⟩ := hx.toLst
  refine ⟨p, rfl, ⟨xs, SqL.of hp⟩, fun Dl hD => ?_⟩
  have xl : xs.length = as.length := by rw [ha.len, List.length_map]
  refine lc_list (xs := xs) (fun i H' => CW H1 Dl (((as.take i).filter f).map ge) H') ⟨hD, Ex.new hD, [], upd_same, .nil⟩ (fun i H' _ c => SqL.of (c.2.1 _ _ hp)) (fun i y H' hi c => ?_) (fun H' c => ?_)
  · obtain ⟨dd, hd, hy⟩ := ha.get2 hi
    obtain ⟨a, h1, h2⟩ : ∃ a, as[i]? = some a ∧ dd = enc a := by
      rw [List.getElem?_map] at hd
      cases k : as[i]? with
      | none => rw [k] at hd; cases hd
      | some a => rw [k] at hd; exact ⟨a, rfl, (Option.some.inj hd).symm⟩
    subst h2
    have am := List.mem_of_getElem? h1
    obtain ⟨σ2, w1, w2, w3, w4⟩ := hg a am y H1 (e.trans e1) hy
    refine w2 H' c.2.1 _ ⟨w1, ?_⟩
    have st := cw_step (te := te) (tt := tt) (σ2 := σ2) (d := ge a) c (by have := fm_len (as.take i) f ge; rw [List.length_take] at this; omega) (flat_fm _ f ge fun d hd => fl d (List.mem_of_mem_take hd)) w3 (fun hb => ⟨w4 hb, fl a am hb⟩)
    rw [← take_fm f ge h1] at st
    exact st
  · rw [xl, List.take_length] at c
    obtain ⟨c1, c2, acc, c3, c4⟩ := c
    exact q Dl acc H' (fresh_back e1 hD) (e1.trans c2) c3 c4
/-- over a tuple of data -/
theorem el_lcT {α : Type} {as : List α} {enc : α → PyData} {g : TG} {vs : List Nat} (f : α → Bool) (ge : α → PyData) (h : ED tl σ H (.tuple (as.map enc))) (hz : as.length ≤ 40000) (fl : ∀ a ∈ as, f a = true → flatT (ge a) = true)
    (hg : ∀ a ∈ as, ∀ x H1, Ex H H1 → D H1 x (enc a) → ∃ σ2, wipe σ2 vs = wipe σ vs ∧ (∀ H2, Ex H1 H2 → ∀ R : L2.St → Hp → Prop, R σ2 H2 → g x (wipe σ vs) H2 R) ∧ EvT tt σ2 H1 (f a) ∧ (f a = true → ED te σ2 H1 (ge a))) :
    EL (tLc (iTup K tl) g tt te vs) σ H ((as.filter f).map ge) := fun H0 e Q q => h H0 e _ fun x H1 e1 hx => by
  obtain ⟨p, xs, rfl, hp, ha⟩ := hx.toTup
  refine ⟨p, rfl, ⟨xs, SqT.of hp⟩, fun Dl hD => ?_⟩
  have xl : xs.length = as.length := by rw [ha.len, List.length_map]
  refine lc_tup (xs := xs) (fun i H' => CW H1 Dl (((as.take i).filter f).map ge) H') ⟨hD, Ex.new hD, [], upd_same, .nil⟩ (fun i H' _ c => SqT.of (c.2.1 _ _ hp)) (fun i y H' hi c => ?_) (fun H' c => ?_)
  · obtain ⟨dd, hd, hy⟩ := ha.get2 hi
    obtain ⟨a, h1, h2⟩ : ∃ a, as[i]? = some a ∧ dd = enc a := by
      rw [List.getElem?_map] at hd
      cases k : as[i]? with
      | none => rw [k] at hd; cases hd
      | some a => rw [k] at hd; exact ⟨a, rfl, (Option.some.inj hd).symm⟩
    subst h2
    have am := List.mem_of_getElem? h1
    obtain ⟨σ2, w1, w2, w3, w4⟩ := hg a am y H1 (e.trans e1) hy
    refine w2 H' c.2.1 _ ⟨w1, ?_⟩
    have st := cw_step (te := te) (tt := tt) (σ2 := σ2) (d := ge a) c (by have := fm_len (as.take i) f ge; rw [List.length_take] at this; omega) (flat_fm _ f ge fun d hd => fl d (List.mem_of_mem_take hd)) w3 (fun hb => ⟨w4 hb, fl a am hb⟩)
    rw [← take_fm f ge h1] at st
    exact st
  · rw [xl, List.take_length] at c
    obtain ⟨c1, c2, acc, c3, c4⟩ := c
    exact q Dl acc H' (fresh_back e1 hD) (e1.trans c2) c3 c4
/-- over the signs of a text -/
theorem el_lcS {l : List Nat} {g : TG} {vs : List Nat} (f : Nat → Bool) (ge : Nat → PyData) (h : ED tl σ H (.str (txt l))) (hz : l.length ≤ 40000) (fl : ∀ a ∈ l, f a = true → flatT (ge a) = true)
    (hg : ∀ c ∈ l, ∀ H1, Ex H H1 → ∃ σ2, wipe σ2 vs = wipe σ vs ∧ (∀ H2, Ex H1 H2 → ∀ R : L2.St → Hp → Prop, R σ2 H2 → g (.str ⟨#[c]⟩) (wipe σ vs) H2 R) ∧ EvT tt σ2 H1 (f c) ∧ (f c = true → ED te σ2 H1 (ge c))) :
    EL (tLc (iStr tl) g tt te vs) σ H ((l.filter f).map ge) := fun H0 e Q q => h H0 e _ fun x H1 e1 hx => by
  have ex := hx.toStr
  subst ex
  refine ⟨txt l, rfl, fun Dl hD => ?_⟩
  have xl : (txt l).cps.size = l.length := by simp [txt]
  refine lc_it (walk_str (z := txt l)) (fun i H' => CW H1 Dl (((l.take i).filter f).map ge) H') ⟨hD, Ex.new hD, [], upd_same, .nil⟩ (fun _ _ _ _ => trivial) (fun i y H' H'' hi c hy => ?_) (fun H' c => ?_)
  · obtain ⟨rfl, a, h1, rfl⟩ := hy
    have h1' : l[i]? = some a := by rw [← h1]; simp [txt]
    have am := List.mem_of_getElem? h1'
    obtain ⟨σ2, w1, w2, w3, w4⟩ := hg a am H1 (e.trans e1)
    refine w2 _ c.2.1 _ ⟨w1, ?_⟩
    have st := cw_step (te := te) (tt := tt) (σ2 := σ2) (d := ge a) c (by have := fm_len (l.take i) f ge; rw [List.length_take] at this; omega) (flat_fm _ f ge fun d hd => fl d (List.mem_of_mem_take hd)) w3 (fun hb => ⟨w4 hb, fl a am hb⟩)
    rw [← take_fm f ge h1'] at st
    exact st
  · rw [xl, List.take_length] at c
    obtain ⟨c1, c2, acc, c3, c4⟩ := c
    exact q Dl acc H' (fresh_back e1 hD) (e1.trans c2) c3 c4
end
end KS
noncomputable section
namespace KS
open PySem PySem.Spec PyProof.Rows L2 Evl
open RZ (tLenSetI pe_lenSetI)
/-- the built-ins' names are still theirs -/
structure Bt (mg : Str → Option Value) : Prop where
  isinstance : mg "isinstance" = none
  int : mg "int" = none
  bool : mg "bool" = none
  tuple : mg "tuple" = none
  str : mg "str" = none
  list : mg "list" = none
  len : mg "len" = none
  all : mg "all" = none
  any : mg "any" = none
  set : mg "set" = none
  enumerate : mg "enumerate" = none
  range : mg "range" = none
  sorted : mg "sorted" = none
  max : mg "max" = none
  min : mg "min" = none
section
variable {P : Program} {w : World} {K : PySem.W.Frag} {mg : Str → Option Value} {base : Heap}
/-! ### is_whole -/
theorem sc_is_whole : FnScope ["value"] ["value"] (defScope s_is_whole) := ⟨rfl, rfl, rfl, by decide +kernel, rfl, by decide +kernel, by decide +kernel⟩
def isWhole : PyData → Bool
  | .int _ => true
  | _ => false
def R_is_whole : List PyData → PyData → Prop := fun ds d => ∃ x, ds = [x] ∧ d = .bool (isWhole x) ∧ ∀ l, x ≠ .dict l
theorem ok_is_whole (B : Bt mg) (d : Df K mg "is_whole" s_is_whole ["value"]) : Cl P w K mg base "is_whole" ["value"] 1 (spD R_is_whole) := by
  refine d.ok sc_is_whole (spD_len (by rintro _ _ ⟨x, rfl, _⟩; rfl)) (fun f cdv A outer s H vs Q E hr h => ?_)
  obtain ⟨ds, dd, hv, ⟨x, rfl, rfl, nd⟩, q⟩ := h
  obtain ⟨v, rfl, hx⟩ := hv.args1
  refine ⟨_, pss_one (ps_ret (pe_and (pe_callB call_isi rfl B.isinstance boot_isinstance (pa_cons (pv 0) (pa_cons (pe_bltn (v := .ty "int") rfl B.int (by decide +kernel) rfl) pa_nil)))
    (pe_one (pe_not (pe_callB call_isi rfl B.isinstance boot_isinstance (pa_cons (pv 0) (pa_cons (pe_bltn (v := .ty "bool") rfl B.bool (by decide +kernel) rfl) pa_nil))))))), ?_⟩
  have e0 : ED (tVar 0) (start ["value"] [v]) H x := ed_var rfl hx
  refine sd_ret (d := .bool (isWhole x)) ?_ fun v H1 e hv => q v H1 e hv
  cases x with
  | none => exact ed_andV (a := false) (b := false) (ed_isi e0 rfl kb_none_int) (fun z => nomatch z)
  | bool b => exact ed_andV (a := true) (b := false) (ed_isi e0 rfl kb_bool_int) (fun _ => ed_notV (a := true) (ed_isi e0 rfl kb_bool_bool))
  | int b => exact ed_andV (a := true) (b := true) (ed_isi e0 rfl kb_int_int) (fun _ => ed_notV (a := false) (ed_isi e0 rfl kb_int_bool))
  | str b => exact ed_andV (a := false) (b := false) (ed_isi e0 rfl kb_str_int) (fun z => nomatch z)
  | list b => exact ed_andV (a := false) (b := false) (ed_isi e0 rfl kb_list_int) (fun z => nomatch z)
  | tuple b => exact ed_andV (a := false) (b := false) (ed_isi e0 rfl kb_tuple_int) (fun z => nomatch z)
  | dict b => exact absurd rfl (nd b)
/-! ### elders_of, deeds_of -/
theorem sc_elders_of : FnScope ["family", "kind"] ["family", "kind"] (defScope s_elders_of) := ⟨rfl, rfl, rfl, by decide +kernel, rfl, by decide +kernel, by decide +kernel⟩
theorem sc_deeds_of : FnScope ["family", "kind"] ["family", "kind"] (defScope s_deeds_of) := ⟨rfl, rfl, rfl, by decide +kernel, rfl, by decide +kernel, by decide +kernel⟩
def R_elders_of : List PyData → PyData → Prop := fun ds d => ∃ (f : Fam) (k : Int), ds = [encF f, .int k] ∧ 0 ≤ k ∧ k < f.length ∧ d = .tuple ((kd f k).el.map encE)
def R_deeds_of : List PyData → PyData → Prop := fun ds d => ∃ (f : Fam) (k : Int), ds = [encF f, .int k] ∧ 0 ≤ k ∧ k < f.length ∧ d = .str (kd f k).de
theorem ok_elders_of (d : Df K mg "elders_of" s_elders_of ["family", "kind"]) : Cl P w K mg base "elders_of" ["family", "kind"] 1 (spD R_elders_of) := by
  refine d.ok sc_elders_of (spD_len (by rintro _ _ ⟨_, _, rfl, _⟩; rfl)) (fun f cdv A outer s H vs Q E hr h => ?_)
  obtain ⟨ds, dd, hv, ⟨f, k, rfl, h0, h1, rfl⟩, q⟩ := h
  obtain ⟨x, y, rfl, hx, hy⟩ := hv.args2
  refine ⟨_, pss_one (ps_ret (pe_ix ix_tup (pe_ix ix_tup (pv 0) (pv 1) (fun _ _ => rfl)) pe_int (fun _ _ => rfl))), ?_⟩
  exact sd_ret (ed_ixT (ed_ixT (ds := f.map encK) (ed_var rfl hx) (ed_var rfl hy) (atI_map (atI_kd h0 h1))) (ed_ci 0) rfl) fun v H1 e hv => q v H1 e hv
theorem ok_deeds_of (d : Df K mg "deeds_of" s_deeds_of ["family", "kind"]) : Cl P w K mg base "deeds_of" ["family", "kind"] 1 (spD R_deeds_of) := by
  refine d.ok sc_deeds_of (spD_len (by rintro _ _ ⟨_, _, rfl, _⟩; rfl)) (fun f cdv A outer s H vs Q E hr h => ?_)
  obtain ⟨ds, dd, hv, ⟨f, k, rfl, h0, h1, rfl⟩, q⟩ := h
  obtain ⟨x, y, rfl, hx, hy⟩ := hv.args2
  refine ⟨_, pss_one (ps_ret (pe_ix ix_tup (pe_ix ix_tup (pv 0) (pv 1) (fun _ _ => rfl)) pe_int (fun _ _ => rfl))), ?_⟩
  exact sd_ret (ed_ixT (ed_ixT (ds := f.map encK) (ed_var rfl hx) (ed_var rfl hy) (atI_map (atI_kd h0 h1))) (ed_ci 1) rfl) fun v H1 e hv => q v H1 e hv
end
end KS
end
noncomputable section
namespace KS
open PySem PySem.Spec PyProof.Rows L2 Evl
open RZ (tLenSetI pe_lenSetI)
section
variable {K : PySem.W.Frag} {σ : L2.St} {H H' : Hp} {te : TE} {d d1 d2 d3 : PyData} {Dn : Ends} {i j k : Nat}
theorem sd_asg2 (h : ED te σ H (.tuple [d1, d2])) (q : ∀ v1 v2 H1, Ex H H1 → D H1 v1 d1 → D H1 v2 d2 → Dn.nx ((σ.set i (some v1)).set j (some v2)) H1) : tAsg te (gTup K 2 (gCons (gName i) (gCons (gName j) gNil))) Dn σ H := h H (Ex.refl H) _ fun v H1 e hv => by
  obtain ⟨a, xs, rfl, h1, h2⟩ := hv.toTup
  obtain ⟨x, y, rfl, hx, hy⟩ := h2.args2
  exact ⟨a, [x, y], rfl, SqT.of h1, rfl, x, [y], rfl, y, [], rfl, rfl, q x y H1 e hx hy⟩
theorem sd_asg3 (h : ED te σ H (.tuple [d1, d2, d3])) (q : ∀ v1 v2 v3 H1, Ex H H1 → D H1 v1 d1 → D H1 v2 d2 → D H1 v3 d3 → Dn.nx (((σ.set i (some v1)).set j (some v2)).set k (some v3)) H1) : tAsg te (gTup K 3 (gCons (gName i) (gCons (gName j) (gCons (gName k) gNil)))) Dn σ H := h H (Ex.refl H) _ fun v H1 e hv => by
  obtain ⟨a, xs, rfl, h1, h2⟩ := hv.toTup
  obtain ⟨x, y, z, rfl, hx, hy, hz⟩ := h2.args3
  exact ⟨a, [x, y, z], rfl, SqT.of h1, rfl, x, [y, z], rfl, y, [z], rfl, z, [], rfl, rfl, q x y z H1 e hx hy hz⟩
theorem et_truI {i : Int} (h : ED te σ H (.int i)) : EvT (fun σ H Q => te σ H fun x H' => ∃ k, TruV K x H' k ∧ Q k H') σ H (i != 0) := fun H1 e Q q => h H1 e _ fun v H2 e2 hv => by
  rw [hv.toInt]
  exact ⟨_, rfl, q H2 e2⟩
end
section
variable {P : Program} {w : World} {K : PySem.W.Frag} {mg : Str → Option Value} {base : Heap}
/-! ### elder_part -/
theorem sc_elder_part : FnScope ["part", "pair", "elder", "shared"] ["part", "pair"] (defScope s_elder_part) := ⟨rfl, rfl, rfl, by decide +kernel, rfl, by decide +kernel, by decide +kernel⟩
def R_elder_part : List PyData → PyData → Prop := fun ds d => ∃ (p : Part) (e : Int × Int), ds = [encP p, encE e] ∧ (e.2 = 0 ∨ e.2 = 1) ∧ p.length ≤ 1000 ∧ d = encP (ep p e)
theorem ok_elder_part (d : Df K mg "elder_part" s_elder_part ["part", "pair"]) : Cl P w K mg base "elder_part" ["part", "pair"] 1 (spD R_elder_part) := by
  refine d.ok sc_elder_part (spD_len (by rintro _ _ ⟨_, _, rfl, _⟩; rfl)) (fun f cdv A outer s H vs Q E hr h => ?_)
  obtain ⟨ds, dd, hv, ⟨p, e, rfl, hs, hz, rfl⟩, q⟩ := h
  obtain ⟨x, y, rfl, hx, hy⟩ := hv.args2
  refine ⟨_, pss_cons (ps_asg (pv 1) (pg_tup rfl (pgs_cons (pg_name (i := 2) sc_elder_part.nd rfl (.inl rfl)) (pgs_cons (pg_name (i := 3) sc_elder_part.nd rfl (.inl rfl)) pgs_nil))))
    (pss_cons (ps_if (pt_truth (pv 3) (by intro _; rfl)) (pss_one (ps_ret (pe_tup (pa_cons (pv 2) pa_nil)))) pss_nil)
    (pss_one (ps_ret (pe_op op_catA (pv 0) (pe_tup (pa_cons (pv 2) pa_nil)))))), ?_⟩
  refine sd_asg2 (d1 := .int e.1) (d2 := .int e.2) (ed_var rfl hy) fun v1 v2 H1 e1 h1 h2 => ?_
  refine sd_if (et_truI (ed_var rfl h2)) (fun hb H2 e2 => ?_) (fun hb H2 e2 => ?_)
  · have ne : ¬ e.2 = 0 := by simpa using hb
    refine sd_ret (ed_tup (eas1 (ed_var rfl (h1.mono e2))) (by show 1 ≤ 100000; decide)) fun v H3 e3 hv => q v H3 ((e1.trans e2).trans e3) ?_
    unfold ep
    rw [if_neg ne]
    exact hv
  · have eq : e.2 = 0 := by simpa using hb
    refine sd_ret (ed_catT (ds := p.map PyData.int) (ed_var rfl (hx.mono (e1.trans e2))) (ed_tup (eas1 (ed_var rfl (h1.mono e2))) (by show 1 ≤ 100000; decide)) (by simp; omega)) fun v H3 e3 hv => q v H3 ((e1.trans e2).trans e3) ?_
    unfold ep
    rw [if_pos eq]
    have e4 : encP (p ++ [e.1]) = .tuple (p.map PyData.int ++ [.int e.1]) := by unfold encP; rw [List.map_append]; rfl
    rw [e4]
    exact hv
/-! ### meet -/
theorem mt_grow : ∀ (n : Nat) (f : Fam) (p : Part) (m : List Part), ∃ r, mt n f p m = m ++ r
  | 0, _, _, m => ⟨[], by simp [mt]⟩
  | n + 1, f, p, m => by
    by_cases hp : p ∈ m
    · exact ⟨[], by show (if p ∈ m then m else _) = _; rw [if_pos hp, List.append_nil]⟩
    · have go : ∀ (cs : List Part) (a : List Part), ∃ r, cs.foldl (fun m c => mt n f c m) a = a ++ r := by
        intro cs
        induction cs with
        | nil => intro a; exact ⟨[], by simp⟩
        | cons c cs ih =>
          intro a
          obtain ⟨r, e⟩ := mt_grow n f c a
          obtain ⟨r2, e2⟩ := ih (mt n f c a)
          exact ⟨r ++ r2, by show cs.foldl _ (mt n f c a) = _; rw [e2, e, List.append_assoc]⟩
      obtain ⟨r, e⟩ := go (kids f p) (m ++ [p])
      exact ⟨[p] ++ r, by show (if p ∈ m then m else _) = _; rw [if_neg hp, e, List.append_assoc]⟩
theorem fold_grow (n : Nat) (f : Fam) : ∀ (cs : List Part) (a : List Part), ∃ r, cs.foldl (fun m c => mt n f c m) a = a ++ r
  | [], a => ⟨[], by simp⟩
  | c :: cs, a => by
    obtain ⟨r, e⟩ := mt_grow n f c a
    obtain ⟨r2, e2⟩ := fold_grow n f cs (mt n f c a)
    exact ⟨r ++ r2, by show cs.foldl _ (mt n f c a) = _; rw [e2, e, List.append_assoc]⟩
theorem fold_take (n : Nat) (f : Fam) (cs : List Part) (a : List Part) (i : Nat) : ((cs.take i).foldl (fun m c => mt n f c m) a).length ≤ (cs.foldl (fun m c => mt n f c m) a).length := by
  obtain ⟨r, e⟩ := fold_grow n f (cs.drop i) ((cs.take i).foldl (fun m c => mt n f c m) a)
  rw [← List.foldl_append, List.take_append_drop] at e
  rw [e, List.length_append]
  omega
/-- the heap but for the list at l -/
def But (l : Addr) (H H' : Hp) : Prop := ∀ c o, c ≠ l → H c = some o → H' c = some o
theorem But.refl (l : Addr) (H : Hp) : But l H H := fun _ _ _ h => h
theorem But.trans {l : Addr} {H H1 H2 : Hp} (a : But l H H1) (b : But l H1 H2) : But l H H2 := fun c o n h => b c o n (a c o n h)
theorem But.tu {l : Addr} {H H' : Hp} {xs : List V} (b : But l H H') (h : H l = some (.lst xs)) : Tu H H' := fun a zs e => b a _ (ne_of e h (by intro z; cases z)) e
theorem But.ex {l : Addr} {H H' : Hp} (e : Ex H H') : But l H H' := fun c o _ h => e c o h
theorem But.upd {l : Addr} {H : Hp} {o : HO} : But l H (upd H l o) := fun c u n h => by rw [upd_ne n]; exact h
theorem flat_ints : ∀ l : List Int, flatTs (l.map PyData.int) = true
  | [] => rfl
  | x :: l => by show (flatT (.int x) && _) = true; rw [flat_ints l]; rfl
theorem flat_P (p : Part) : flatT (encP p) = true := by show flatTs _ = true; exact flat_ints p
theorem flat_map {α : Type} {g : α → PyData} (h : ∀ a, flatT (g a) = true) : ∀ l : List α, flatTs (l.map g) = true
  | [] => rfl
  | x :: l => by show (flatT (g x) && flatTs (l.map g)) = true; rw [h, flat_map h l]; rfl
theorem flat_Ps (l : List Part) : flatTs (l.map encP) = true := flat_map flat_P l
theorem flat_E (e : Int × Int) : flatT (encE e) = true := rfl
theorem flat_K (k : Kind) : flatT (encK k) = true := by
  show (flatT (.tuple (k.el.map encE)) && (flatT (.str k.de) && (flatT (.int k.ce) && true))) = true
  rw [show flatT (.tuple (k.el.map encE)) = true from flat_map flat_E _]; rfl
theorem flat_F (f : Fam) : flatT (encF f) = true := flat_map flat_K f
def spMeet (n : Nat) : Sp := fun vs H Q _ => ∃ (f t : Fam) (p : Part) (m : List Part) (l : Addr) (xs : List V) (vf vp : V), vs = [vf, vp, .ref l] ∧ D H vf (encF (f ++ t)) ∧ D H vp (encP p) ∧ H l = some (.lst xs) ∧ DA H xs (m.map encP) ∧
  Kinds f ∧ p ≠ [] ∧ 0 ≤ lastP p ∧ lastP p < f.length ∧ lastP p < n ∧ p.length + n ≤ 1000 ∧ (mt n f p m).length ≤ 10000 ∧
  ∀ xs' H', But l H H' → H' l = some (.lst xs') → DA H' xs' ((mt n f p m).map encP) → Q .non H'
theorem sc_meet : FnScope ["family", "part", "met", "pair"] ["family", "part", "met"] (defScope s_meet) := ⟨rfl, rfl, rfl, by decide +kernel, rfl, by decide +kernel, by decide +kernel⟩
theorem hu64 {k : Nat} {A : Around} (hr : Room k A) : A.units + 65 < cLine := by
  have := hr.un
  omega
theorem meet_step {n : Nat} (cE : Cl P w K mg base "elders_of" ["family", "kind"] 1 (spD R_elders_of)) (cP : Cl P w K mg base "elder_part" ["part", "pair"] 1 (spD R_elder_part))
    (d : Df K mg "meet" s_meet ["family", "part", "met"]) (G : Cl P w K mg base "meet" ["family", "part", "met"] (n + 1) (spMeet n)) : Cl P w K mg base "meet" ["family", "part", "met"] (n + 2) (spMeet (n + 1)) := by
  refine d.ok sc_meet (fun vs H Q E h => by obtain ⟨_, _, _, _, _, _, _, _, rfl, _⟩ := h; rfl) (fun fa cdv A outer s H vs Q E hr h => ?_)
  obtain ⟨f, t, p, m, l, xs, vf, vp, rfl, hf, hp, hl, hx, KF, pne, p0, p1, pn, pz, mz, q⟩ := h
  refine ⟨_, pss_cons (ps_if (pt_cmpR (op_inD (hu64 hr)) (pv 1) (pv 2) rfl) (pss_one ps_retN) pss_nil)
    (pss_cons (ps_expr (pe_bm PySem.F.plainAttrs_list PySem.F.slot_list_append PySem.F.type_list_append mt_append (pv 2) (pa_cons (pv 1) pa_nil)))
    (pss_one (ps_for PassesOwn.never rfl (pi_tup (pe_cl cE (hr.mono (Nat.succ_le_succ (Nat.zero_le _))) (pa_cons (pv 0) (pa_cons (pe_ix ix_tup (pv 1) (pe_un un_neg pe_int) (fun _ _ => rfl)) pa_nil)))) (pg_name (i := 3) sc_meet.nd rfl (.inl rfl))
      (pss_one (ps_expr (pe_cl G hr (pa_cons (pv 0) (pa_cons (pe_cl cP (hr.mono (Nat.succ_le_succ (Nat.zero_le _))) (pa_cons (pv 1) (pa_cons (pv 3) pa_nil))) (pa_cons (pv 2) pa_nil))))))))), ?_⟩
  have hm : D H (.ref l) (.list (m.map encP)) := .lst hl hx
  have t1 := ed_inD (K := K) (σ := start ["family", "part", "met", "pair"] [vf, vp, .ref l]) (ed_var (i := 1) rfl hp) (ed_var (i := 2) rfl hm) (encP_shaped p) (encPs_shaped m)
  rw [any_encP] at t1
  refine sd_if (et_D t1) (fun hb H1 e1 => ?_) (fun hb H1 e1 => ?_)
  · have pm : p ∈ m := of_decide_eq_true hb
    have e2 : mt (n + 1) f p m = m := if_pos pm
    rw [e2] at q
    exact q xs H1 (But.ex e1) (e1 _ _ hl) (hx.mono e1)
  · have pm : ¬ p ∈ m := of_decide_eq_false hb
    have e2 : mt (n + 1) f p m = (kids f p).foldl (fun m c => mt n f c m) (m ++ [p]) := by show (if p ∈ m then m else _) = _; rw [if_neg pm]
    have hl1 := e1 _ _ hl
    have ml : m.length ≤ (mt (n + 1) f p m).length := by
      obtain ⟨r, e⟩ := mt_grow (n + 1) f p m
      rw [e, List.length_append]; omega
    -- met.append(part)
    refine ⟨_, rfl, .inl ⟨rfl, _, SqL.of hl1⟩, _, rfl, l, xs, vp, rfl, rfl, hl1, sz_lt (by rw [hx.len, List.length_map]; omega), ?_⟩
    have b2 : But l H (upd H1 l (.lst (xs ++ [vp]))) := (But.ex e1).trans But.upd
    have tu2 : Tu H (upd H1 l (.lst (xs ++ [vp]))) := b2.tu hl
    have hf2 := hf.keep tu2 (flat_F (f ++ t))
    have hp2 := hp.keep tu2 (flat_P p)
    have hx2 : DA (upd H1 l (.lst (xs ++ [vp]))) (xs ++ [vp]) ((m ++ [p]).map encP) := by
      rw [List.map_append]
      exact (hx.keep tu2 (flat_Ps m)).append (.one hp2)
    -- the elders
    have t2 : ED (tCall (spD R_elders_of) [] E0 (tCons (tVar 0) (tCons (tOp (rIxT K) (tVar 1) (tUn (rU fun i => .int (-i)) (tC (.int 1)))) tNil))) (start ["family", "part", "met", "pair"] [vf, vp, .ref l]) (upd H1 l (.lst (xs ++ [vp]))) (.tuple ((kd f (lastP p)).el.map encE)) := by
      refine ed_call (eas2 (ed_var (i := 0) rfl hf2) (ed_ixT (ds := p.map PyData.int) (i := -1) (d := .int (lastP p)) (ed_var (i := 1) rfl hp2) ?_ (atI_map (atI_end pne)))) ⟨f ++ t, lastP p, rfl, p0, by rw [List.length_append]; omega, by rw [kd_append p0 p1]⟩
      exact fun H2 e Q q => ⟨1, rfl, q _ H2 (Ex.refl _) (.int _)⟩
    refine t2 _ (Ex.refl _) _ fun v H3 e3 hv => ?_
    obtain ⟨a, es, rfl, ha, he⟩ := hv.toTup
    have el : es.length = (kd f (lastP p)).el.length := by rw [he.len, List.length_map]
    have lk : H3 l = some (.lst (xs ++ [vp])) := e3 _ _ upd_same
    have ko : KindOk (lastP p).toNat (kd f (lastP p)) := by
      refine KF _ _ ?_
      unfold kd
      rw [List.getD_eq_getElem?_getD, List.getElem?_eq_getElem (by omega)]; rfl
    refine ⟨a, rfl, ⟨es, SqT.of ha⟩, for_tup (K := K) (a := a) (xs := es) (fun i σ H' => ∃ y xs', σ = [some vf, some vp, some (.ref l), y] ∧ But l H3 H' ∧ H' l = some (.lst xs') ∧ DA H' xs' ((((kids f p).take i).foldl (fun m c => mt n f c m) (m ++ [p])).map encP))
      ⟨none, _, rfl, But.refl _ _, lk, hx2.mono e3⟩ (fun i σ H' _ ⟨y, xs', _, b, _, _⟩ => SqT.of (b.tu lk _ _ ha)) (fun i x σ H' hi ⟨y, xs', e, b, lx, ax⟩ => ?_) (fun σ H' ⟨y, xs', e, b, lx, ax⟩ => ?_)⟩
    · subst e
      obtain ⟨dd, hd, hxd⟩ := he.get2 hi
      obtain ⟨ee, h1, h2⟩ : ∃ ee, (kd f (lastP p)).el[i]? = some ee ∧ dd = encE ee := by
        rw [List.getElem?_map] at hd
        cases k : (kd f (lastP p)).el[i]? with
        | none => rw [k] at hd; cases hd
        | some a => rw [k] at hd; exact ⟨a, rfl, (Option.some.inj hd).symm⟩
      subst h2
      have em := ko.low ee (List.mem_of_getElem? h1)
      have tu4 : Tu H3 H' := b.tu lk
      have hp4 := (hp2.mono e3).keep tu4 (flat_P p)
      have hf4 := (hf2.mono e3).keep tu4 (flat_F (f ++ t))
      have hx4 := hxd.keep tu4 (flat_E ee)
      have kc : (kids f p)[i]? = some (ep p ee) := by unfold kids; rw [List.getElem?_map, h1]; rfl
      have step : ((kids f p).take (i + 1)).foldl (fun m c => mt n f c m) (m ++ [p]) = mt n f (ep p ee) (((kids f p).take i).foldl (fun m c => mt n f c m) (m ++ [p])) := by
        rw [List.take_add_one, kc, List.foldl_append]; rfl
      -- meet(family, elder_part(part, pair), met)
      refine ⟨vf, rfl, ?_⟩
      refine (ed_call (R := R_elder_part) (E := E0) (eas2 (ed_var (σ := [some vf, some vp, some (.ref l), some x]) (i := 1) rfl hp4) (ed_var (i := 3) rfl hx4)) ⟨p, ee, rfl, em.2.2, by omega, rfl⟩) H' (Ex.refl _) _ fun v5 H5 e5 hv5 => ?_
      refine ⟨.ref l, rfl, f, t, ep p ee, _, l, xs', vf, v5, rfl, hf4.mono e5, hv5, e5 _ _ lx, ax.mono e5, KF, ep_ne _ _, by rw [lastP_ep]; omega, by rw [lastP_ep]; omega, by rw [lastP_ep]; omega, ?_, ?_, fun xs6 H6 b6 l6 a6 => ?_⟩
      · have : (ep p ee).length ≤ p.length + 1 := by
          unfold ep
          split <;> simp
        omega
      · rw [← step]
        have := fold_take n f (kids f p) (m ++ [p]) (i + 1)
        rw [← e2] at this
        omega
      · refine ⟨some x, xs6, rfl, b.trans ((But.ex e5).trans b6), l6, ?_⟩
        rw [step]
        exact a6
    · rw [el] at ax
      have ek : (kids f p).take (kd f (lastP p)).el.length = kids f p := List.take_of_length_le (by unfold kids; rw [List.length_map]; exact Nat.le_refl _)
      rw [ek, ← e2] at ax
      exact q xs' H' (b2.trans ((But.ex e3).trans b)) lx ax
/-- nothing can be asked so -/
theorem Cl.never {x : Str} {st : Stmt} {ps : List Str} {k : Nat} {sp : Sp} (d : Df K mg x st ps) (no : ∀ vs H Q E, ¬ sp vs H Q E) : Cl P w K mg base x ps k sp := by
  obtain ⟨f, fd, F, g, b⟩ := d.ex
  exact ⟨f, fd, ⟨fun vs H Q E h => absurd h (no vs H Q E), fun A outer s H args us vs Q E _ _ _ _ h => absurd h (no vs H Q E)⟩, g, F.kp, b⟩
theorem ok_meet (cE : Cl P w K mg base "elders_of" ["family", "kind"] 1 (spD R_elders_of)) (cP : Cl P w K mg base "elder_part" ["part", "pair"] 1 (spD R_elder_part))
    (d : Df K mg "meet" s_meet ["family", "part", "met"]) : ∀ n : Nat, Cl P w K mg base "meet" ["family", "part", "met"] (n + 1) (spMeet n)
  | 0 => Cl.never d fun vs H Q E h => by
    obtain ⟨_, _, _, _, _, _, _, _, _, _, _, _, _, _, _, h0, _, h1, _⟩ := h
    omega
  | n + 1 => meet_step cE cP d (ok_meet cE cP d n)
end
end KS
end
noncomputable section
namespace KS
open PySem PySem.Spec PyProof.Rows L2 Evl
open RZ (tLenSetI pe_lenSetI)
/-- a part of things of g that may be gone through -/
def PartOk (g : Fam) (p : Part) : Prop := p ≠ [] ∧ 0 ≤ lastP p ∧ lastP p < g.length ∧ p.length ≤ 900 ∧ (lm NN g p).length ≤ 10000
/-- a comprehension's scope -/
def csc (l : List (Str × NameKind)) : Scope := { kind := .function, names := l, isGenerator := false, isCoroutine := false }
theorem el_is {te : TE} {σ : L2.St} {H : Hp} {ds es : List PyData} (h : EL te σ H ds) (e : ds = es) : EL te σ H es := e ▸ h
theorem et_yes {σ : L2.St} {H : Hp} : EvT tYes σ H true := fun H1 _ Q q => q H1 (Ex.refl H1)
theorem filt_true {α : Type} (l : List α) : (l.filter fun _ => true) = l := List.filter_eq_self.mpr fun _ _ => rfl
section
variable {P : Program} {w : World} {K : PySem.W.Frag} {mg : Str → Option Value} {base : Heap}
/-! ### met_from -/
theorem sc_met_from : FnScope ["family", "part", "met"] ["family", "part"] (defScope s_met_from) := ⟨rfl, rfl, rfl, by decide +kernel, rfl, by decide +kernel, by decide +kernel⟩
def R_met_from : List PyData → List PyData → Prop := fun ds es => ∃ (g t : Fam) (p : Part), ds = [encF (g ++ t), encP p] ∧ Kinds g ∧ g.length ≤ 15 ∧ PartOk g p ∧ es = (lm NN g p).map encP
theorem ok_met_from (d : Df K mg "met_from" s_met_from ["family", "part"]) (G : Cl P w K mg base "meet" ["family", "part", "met"] 17 (spMeet NN)) : Cl P w K mg base "met_from" ["family", "part"] 18 (spL R_met_from) := by
  refine d.ok sc_met_from (spL_len (by rintro _ _ ⟨_, _, _, rfl, _⟩; rfl)) (fun fa cdv A outer s H vs Q E hr h => ?_)
  obtain ⟨ds, es, hv, ⟨g, t, p, rfl, KG, gl, ⟨pne, p0, p1, pz, mz⟩, rfl⟩, q⟩ := h
  obtain ⟨x, y, rfl, hx, hy⟩ := hv.args2
  refine ⟨_, pss_cons (ps_set (i := 2) sc_met_from.nd rfl (.inl rfl) (pe_lst pa_nil))
    (pss_cons (ps_expr (pe_cl G hr (pa_cons (pv 0) (pa_cons (pv 1) (pa_cons (pv 2) pa_nil)))))
    (pss_one (ps_ret (pv 2)))), ?_⟩
  refine ⟨Nat.zero_le _, fun l hl => ?_⟩
  have e := mt_nil (kinds_low KG) (n := NN) (p := p) (by show lastP p < (16 : Int); omega) p0
  have e1 : Ex H (upd H l (.lst [])) := Ex.new hl
  refine ⟨x, rfl, y, rfl, .ref l, rfl, g, t, p, [], l, [], x, y, rfl, hx.mono e1, hy.mono e1, upd_same, .nil, KG, pne, p0, p1, by show lastP p < (16 : Int); omega, by show p.length + 16 ≤ 1000; omega, by rw [e]; exact mz, fun xs' H' b l' a' => ?_⟩
  rw [e] at a'
  exact ⟨.ref l, rfl, q l xs' H' hl (fun a o ha => b a o (ne_of_none ha hl) (e1 a o ha)) l' a'⟩
/-! ### known -/
theorem sc_known : FnScope ["family", "found", "done", "part", "letter", "deeds"] ["family", "found"] (defScope s_known) := ⟨rfl, rfl, rfl, by decide +kernel, rfl, by decide +kernel, by decide +kernel⟩
/-- parts whose last numbers are kinds of g -/
def Parts (g : Fam) (l : List Part) : Prop := l.length ≤ 10000 ∧ ∀ p ∈ l, p ≠ [] ∧ 0 ≤ lastP p ∧ lastP p < g.length
def R_known : List PyData → PyData → Prop := fun ds d => ∃ (g t : Fam) (l : List Part), ds = [encF (g ++ t), .list (l.map encP)] ∧ Parts g l ∧ d = .str (txt (known g l))
theorem ed_last {σ : L2.St} {H : Hp} {te : TE} {p : Part} (h : ED te σ H (encP p)) (ne : p ≠ []) : ED (tOp (rIxT K) te (tUn (rU fun i => .int (-i)) (tC (.int 1)))) σ H (.int (lastP p)) :=
  ed_ixT (ds := p.map PyData.int) (i := -1) h (fun H2 e Q q => ⟨1, rfl, q _ H2 (Ex.refl _) (.int _)⟩) (atI_map (atI_end ne))
theorem ok_known (B : Bt mg) (mL : ∃ t, mg "LETTERS" = some (.str (txt abc) t)) (d : Df K mg "known" s_known ["family", "found"]) (cD : Cl P w K mg base "deeds_of" ["family", "kind"] 1 (spD R_deeds_of)) : Cl P w K mg base "known" ["family", "found"] 2 (spD R_known) := by
  obtain ⟨tL, mL⟩ := mL
  refine d.ok sc_known (spD_len (by rintro _ _ ⟨_, _, _, rfl, _⟩; rfl)) (fun fa cdv A outer s H vs Q E hr h => ?_)
  obtain ⟨ds, es, hv, ⟨g, t, l, rfl, ⟨lz, lp⟩, rfl⟩, q⟩ := h
  obtain ⟨x, y, rfl, hx, hy⟩ := hv.args2
  refine ⟨_, pss_cons (ps_set (i := 2) sc_known.nd rfl (.inr rfl) (pe_lc (own := [("part", 3)]) (g := gName 3) (tt := tYes) rfl sc_known.nd (pi_list (pv 1)) (blkOk_by (N := ["family", "found", "done", "part", "letter", "deeds"]) (sc := defScope s_known) (by decide +kernel))
      (fun _ _ _ _ _ => pg_name (i := 3) sc_known.nd rfl (.inl rfl)) (fun _ _ _ _ _ => pts_nil) (fun _ _ _ _ _ => pe_cl cD hr (pa_cons (pv 0) (pa_cons (pe_ix (r := rIxT K) ix_tup (pv 3) (pe_un un_neg pe_int) (fun _ _ => rfl)) pa_nil)))))
    (pss_one (ps_ret (pe_join pe_str (pe_lc (own := [("letter", 4)]) (g := gName 4) rfl sc_known.nd (pi_str (pe_glob (v := .str (txt abc)) rfl mL ⟨_, rfl⟩)) (blkOk_by (N := ["family", "found", "done", "part", "letter", "deeds"]) (sc := defScope s_known) (by decide +kernel))
      (fun _ _ _ _ _ => pg_name (i := 4) sc_known.nd rfl (.inr rfl)) (fun _ _ _ _ _ => by exact pts_one (pt_val (pe_callB (r := rAny K) (cr_any (by rfl)) (by rfl) B.any boot_any (by exact pa_cons (pe_lc (wi := iList K (tVar 2)) (own := [("deeds", 5)]) (g := gName 5) (tt := tYes) rfl sc_known.nd (pi_list (pv 2)) (blkOk_by (N := ["family", "found", "done", "part", "letter", "deeds"]) (sc := csc [(".0", .local), ("letter", .cell), ("any", .globalImplicit), ("done", .cell)]) (by decide +kernel)) (fun _ _ _ _ _ => pg_name (i := 5) sc_known.nd rfl (.inl rfl)) (fun _ _ _ _ _ => pts_nil) (fun _ _ _ _ _ => pe_cmpR op_inS (pv 4) (pv 5) rfl)) pa_nil)))) (fun _ _ _ _ _ => pv 4))))), ?_⟩
  refine sl_asg (ds := (l.map fun p => (kd g (lastP p)).de).map PyData.str) ?_ fun p xs H1 np e1 hp ha => ?_
  · refine el_is (el_lcL (as := l) (enc := encP) (fun _ => true) (fun p => .str (kd g (lastP p)).de) (ed_var (i := 1) rfl hy) (by omega) (fun _ _ _ => rfl) (fun a _ => flat_P a) fun a ha z H2 e2 hz => ?_) (by rw [filt_true, List.map_map]; rfl)
    obtain ⟨ane, a0, a1⟩ := lp a ha
    refine ⟨[some x, some y, none, some z, none, none], rfl, fun _ _ R h => h, et_yes, fun _ => ?_⟩
    exact ed_call (eas2 (ed_var (i := 0) rfl (hx.mono e2)) (ed_last (ed_var (i := 3) rfl hz) ane)) ⟨g ++ t, lastP a, rfl, a0, by rw [List.length_append]; omega, by rw [kd_append a0 a1]⟩
  · have hd : D H1 (.ref p) (.list ((l.map fun p => (kd g (lastP p)).de).map PyData.str)) := .lst hp ha
    refine sd_ret (ed_join (l := known g l) (by unfold known; exact Nat.le_trans (List.length_filter_le _ _) (by decide)) (EL.ed (el_is (el_lcS (l := abc) (fun c => l.any (does g c)) (fun c => .str (Froz.sing c)) (ed_cs _) (by decide) (fun _ _ _ => rfl) fun c hc H2 e2 => ?_) (by unfold known; rw [List.map_map]; rfl)))) fun v H2 e2 hv => q v H2 (e1.trans e2) hv
    refine ⟨[some x, some y, some (.ref p), none, some (.str ⟨#[c]⟩), none], rfl, fun _ _ R h => h, ?_, fun _ => ed_var rfl (.str _)⟩
    refine et_DB (ed_is (ed_any (bs := (l.map fun p => (kd g (lastP p)).de).map fun s => decide (c ∈ s.cps.toList)) (EL.ed (el_is (el_lcL (as := l.map fun p => (kd g (lastP p)).de) (enc := PyData.str) (fun _ => true) (fun s => .bool (decide (c ∈ s.cps.toList))) (ed_var (i := 2) rfl (hd.mono e2)) (by rw [List.length_map]; omega) (fun _ _ _ => rfl) (fun _ _ => rfl) fun a ha z H3 e3 hz => ?_) (by rw [filt_true, List.map_map, List.map_map, List.map_map]; rfl)))) ?_)
    · refine ⟨[some x, some y, some (.ref p), none, some (.str ⟨#[c]⟩), some z], rfl, fun _ _ R h => h, et_yes, fun _ => ?_⟩
      exact ed_inS (ed_var (i := 4) rfl (.str _)) (ed_var (i := 5) rfl hz)
    · congr 1
      rw [List.map_map, List.any_map]
      rfl
end
end KS
end
noncomputable section
namespace KS
open PySem PySem.Spec PyProof.Rows L2 Evl
open RZ (tLenSetI pe_lenSetI)
theorem lm_plen {f : Fam} : ∀ {n : Nat} {p y : Part}, y ∈ lm n f p → y.length ≤ p.length + n
  | 0, p, y, h => by
    have e : y = p := by simpa [lm] using h
    rw [e]; omega
  | n + 1, p, y, h => by
    rcases mem_lm.mp h with rfl | ⟨c, hc, h⟩
    · omega
    · obtain ⟨e, he, rfl⟩ := mem_kids.mp hc
      have i := lm_plen (n := n) h
      have : (ep p e).length ≤ p.length + 1 := by
        unfold ep
        split <;> simp
      omega
theorem nodup_len {α : Type} [BEq α] [LawfulBEq α] {l k : List α} (nd : l.Nodup) (h : ∀ x ∈ l, x ∈ k) : l.length ≤ k.length := by
  induction l generalizing k with
  | nil => exact Nat.zero_le _
  | cons x l ih =>
    obtain ⟨n1, n2⟩ := List.nodup_cons.mp nd
    have hx := h x List.mem_cons_self
    have i := ih (k := k.erase x) n2 fun y hy => (List.mem_erase_of_ne (fun (e : y = x) => n1 (e ▸ hy))).mpr (h y (List.mem_cons_of_mem _ hy))
    rw [List.length_erase_of_mem hx] at i
    have := List.length_pos_of_mem hx
    rw [List.length_cons]
    omega
def optP : Option Part → PyData
  | some p => encP p
  | none => .none
theorem optP_some (o : Option Part) : (!isND (optP o)) = o.isSome := by cases o <;> rfl
section
variable {P : Program} {w : World} {K : PySem.W.Frag} {mg : Str → Option Value} {base : Heap}
/-! ### foremost -/
abbrev N_foremost : List Str := ["family", "found", "deed", "doing", "part", "within", "other"]
theorem sc_foremost : FnScope N_foremost ["family", "found", "deed"] (defScope s_foremost) := ⟨rfl, rfl, rfl, by decide +kernel, rfl, by decide +kernel, by decide +kernel⟩
def R_foremost : List PyData → PyData → Prop := fun ds d => ∃ (g t : Fam) (l : List Part) (c : Nat), ds = [encF (g ++ t), .list (l.map encP), .str (Froz.sing c)] ∧ Kinds g ∧ g.length ≤ 15 ∧ l.length ≤ 10000 ∧ (∀ p ∈ l, PartOk g p) ∧
  d = optP (foremost NN g (doing g c l))
theorem ok_foremost (B : Bt mg) (d : Df K mg "foremost" s_foremost ["family", "found", "deed"]) (cD : Cl P w K mg base "deeds_of" ["family", "kind"] 1 (spD R_deeds_of)) (cM : Cl P w K mg base "met_from" ["family", "part"] 18 (spL R_met_from)) :
    Cl P w K mg base "foremost" ["family", "found", "deed"] 19 (spD R_foremost) := by
  refine d.ok sc_foremost (spD_len (by rintro _ _ ⟨_, _, _, _, rfl, _⟩; rfl)) (fun fa cdv A outer s H vs Q E hr h => ?_)
  obtain ⟨ds, es, hv, ⟨g, t, l, c, rfl, KG, gl, lz, lp, rfl⟩, q⟩ := h
  obtain ⟨x, y, z, rfl, hx, hy, hz⟩ := hv.args3
  refine ⟨_, pss_cons (ps_setLc (i := 3) (own := [("part", 4)]) (g := gName 4) rfl sc_foremost.nd rfl rfl (sw_true rfl rfl rfl (by decide +kernel)) (pi_list (pv 1)) (blkOk_by (N := N_foremost) (sc := defScope s_foremost) (by decide +kernel))
      (fun _ _ _ _ _ => pg_name (i := 4) sc_foremost.nd rfl (.inl rfl)) (fun _ _ _ _ _ => by exact pts_one (pt_cmpR op_inS (pv 2) (pe_cl cD (hr.mono (by decide)) (by exact (pa_cons (pv 0) (pa_cons (pe_ix (r := rIxT K) ix_tup (pv 4) (pe_un un_neg pe_int) (fun _ _ => rfl)) pa_nil)))) rfl)) (fun _ _ _ _ _ => pv 4))
    (pss_cons (ps_for PassesOwn.never rfl (pi_list (pv 3)) (pg_name (i := 4) sc_foremost.nd rfl (.inl rfl))
      (pss_cons (ps_set (i := 5) sc_foremost.nd rfl (.inr rfl) (pe_cl cM hr (pa_cons (pv 0) (pa_cons (pv 4) pa_nil))))
      (pss_one (ps_if (pt_val (pe_callB (cr_all (by rfl)) (by rfl) B.all boot_all (pa_cons (pe_lc (own := [("other", 6)]) (g := gName 6) (tt := tYes) rfl sc_foremost.nd (pi_list (pv 3)) (blkOk_by (N := N_foremost) (sc := defScope s_foremost) (by decide +kernel))
        (fun _ _ _ _ _ => pg_name (i := 6) sc_foremost.nd rfl (.inl rfl)) (fun _ _ _ _ _ => pts_nil) (fun _ _ _ _ _ => pe_cmpR (r := rInD K) (op_inD (hu64 hr)) (pv 6) (pv 5) rfl)) pa_nil))) (pss_one (ps_ret (pv 4))) pss_nil))))
    (pss_one (ps_ret pe_non))), ?_⟩
  have lm' : ∀ p ∈ doing g c l, p ∈ l := fun p hp => (List.mem_filter.mp hp).1
  have dz : (doing g c l).length ≤ l.length := List.length_filter_le _ _
  refine sl_asg (ds := (doing g c l).map encP) ?_ fun p xs H1 np e1 hp ha => ?_
  · refine el_lcL (as := l) (enc := encP) (does g c) encP (ed_var (i := 1) rfl hy) (by omega) (fun a _ _ => flat_P a) (fun a _ => flat_P a) fun a ha v H2 e2 hv => ?_
    obtain ⟨ane, a0, a1, _⟩ := lp a ha
    refine ⟨[some x, some y, some z, none, some v, none, none], rfl, fun _ _ R h => h, ?_, fun _ => ed_var (i := 4) rfl hv⟩
    exact et_D (ed_inS (ed_var (i := 2) rfl (hz.mono e2)) (ed_call (eas2 (ed_var (i := 0) rfl (hx.mono e2)) (ed_last (ed_var (i := 4) rfl hv) ane)) ⟨g ++ t, lastP a, rfl, a0, by rw [List.length_append]; omega, by rw [kd_append a0 a1]⟩))
  · -- for part in doing
    have dd : D H1 (.ref p) (.list ((doing g c l).map encP)) := .lst hp ha
    have xl : xs.length = (doing g c l).length := by rw [ha.len, List.length_map]
    refine ⟨.ref p, rfl, p, rfl, ⟨xs, SqL.of hp⟩, for_list (K := K) (a := p) (xs := xs) (fun i σ H' => (∃ u1 u2, σ = [some x, some y, some z, some (.ref p), u1, u2, none]) ∧ Ex H1 H' ∧ ((doing g c l).take i).find? (over NN g (doing g c l)) = none)
      ⟨⟨_, _, rfl⟩, Ex.refl _, rfl⟩ (fun i σ H' _ ⟨_, e, _⟩ => SqL.of (e _ _ hp)) (fun i v σ H' hi ⟨⟨u1, u2, es⟩, e2, nf⟩ => ?_) (fun σ H' ⟨⟨u1, u2, es⟩, e2, nf⟩ => ?_)⟩
    · subst es
      obtain ⟨du, hd, hv⟩ := ha.get2 hi
      obtain ⟨a, h1, h2⟩ : ∃ a, (doing g c l)[i]? = some a ∧ du = encP a := by
        rw [List.getElem?_map] at hd
        cases k : (doing g c l)[i]? with
        | none => rw [k] at hd; cases hd
        | some a => rw [k] at hd; exact ⟨a, rfl, (Option.some.inj hd).symm⟩
      subst h2
      have am := lm' a (List.mem_of_getElem? h1)
      have pa := lp a am
      refine sl_asg (ds := (lm NN g a).map encP) (el_call' (eas2 (ed_var (i := 0) rfl ((hx.mono e1).mono e2)) (ed_var (i := 4) rfl (hv.mono e2))) ⟨g, t, a, rfl, KG, gl, pa, rfl⟩) fun p2 xs2 H3 np2 e3 hp2 ha2 => ?_
      have dw : D H3 (.ref p2) (.list ((lm NN g a).map encP)) := .lst hp2 ha2
      have dd3 := (dd.mono e2).mono e3
      refine sd_if (b := over NN g (doing g c l) a) (et_DB (ed_is (ed_all (bs := (doing g c l).map fun o => decide (o ∈ lm NN g a)) (EL.ed (el_is (el_lcL (as := doing g c l) (enc := encP) (fun _ => true) (fun o => .bool (decide (o ∈ lm NN g a))) (ed_var (i := 3) rfl dd3) (by omega) (fun _ _ _ => rfl) (fun o _ => flat_P o) fun o ho v4 H4 e4 hv4 => ?_) (by rw [filt_true, List.map_map]; rfl)))) ?_)) (fun hb H4 e4 => ?_) (fun hb H4 e4 => ?_)
      · refine ⟨[some x, some y, some z, some (.ref p), some v, some (.ref p2), some v4], rfl, fun _ _ R h => h, et_yes, fun _ => ?_⟩
        have t1 := ed_inD (K := K) (σ := [some x, some y, some z, some (.ref p), some v, some (.ref p2), some v4]) (ed_var (i := 6) rfl hv4) (ed_var (i := 5) rfl (dw.mono e4)) (encP_shaped o) (encPs_shaped (lm NN g a))
        rw [any_encP] at t1
        exact t1
      · unfold over
        congr 1
        rw [List.all_map]
        rfl
      · refine ⟨v, rfl, q v H4 (((e1.trans e2).trans e3).trans e4) ?_⟩
        have ef : foremost NN g (doing g c l) = some a := by
          unfold foremost
          have es : doing g c l = (doing g c l).take i ++ a :: (doing g c l).drop (i + 1) := by
            conv => lhs; rw [← List.take_append_drop i (doing g c l)]
            congr 1
            obtain ⟨hlt, he⟩ := List.getElem?_eq_some_iff.mp h1
            rw [List.drop_eq_getElem_cons hlt, he]
          conv => lhs; arg 2; rw [es]
          rw [List.find?_append, nf]
          show List.find? _ _ = _
          rw [List.find?_cons_of_pos hb]
        rw [ef]
        exact ((hv.mono e2).mono e3).mono e4
      · refine ⟨⟨_, _, rfl⟩, (e2.trans e3).trans e4, ?_⟩
        rw [List.take_add_one, h1, List.find?_append, nf]
        show List.find? _ [a] = none
        rw [List.find?_cons_of_neg (by rw [hb]; decide)]
        rfl
    · subst es
      rw [xl, List.take_length] at nf
      refine q .non H' (e1.trans e2) ?_
      unfold foremost
      rw [nf]
      exact .non
/-! ### is_sound -/
abbrev N_is_sound : List Str := ["family", "kind", "found", "deed"]
theorem sc_is_sound : FnScope N_is_sound ["family", "kind"] (defScope s_is_sound) := ⟨rfl, rfl, rfl, by decide +kernel, rfl, by decide +kernel, by decide +kernel⟩
def soundB (g : Fam) (k : Int) : Bool := decide ((lm NN g [k]).length ≤ 16) && (known g (lm NN g [k])).all fun c => (foremost NN g (doing g c (lm NN g [k]))).isSome
def R_is_sound : List PyData → PyData → Prop := fun ds d => ∃ (g t : Fam) (k : Int), ds = [encF (g ++ t), .int k] ∧ Kinds g ∧ g.length ≤ 15 ∧ 0 ≤ k ∧ k < g.length ∧ (lm NN g [k]).length ≤ 10000 ∧ d = .bool (soundB g k)
theorem mem_partOk {g : Fam} (KG : Kinds g) (gl : g.length ≤ 15) {k : Int} (h0 : 0 ≤ k) (h1 : k < g.length) (hz : (lm NN g [k]).length ≤ 10000) {p : Part} (hp : p ∈ lm NN g [k]) : PartOk g p := by
  have L := kinds_low KG
  have b := mem_bound L h0 hp
  refine ⟨mem_ne NN (by simp) hp, b.1, by omega, ?_, ?_⟩
  · have := lm_plen (n := NN) hp
    have e : ([k] : Part).length = 1 := rfl
    show p.length ≤ 900
    have : NN = 16 := rfl
    omega
  · have sub : ∀ y ∈ lm NN g p, y ∈ lm NN g [k] := fun y hy => lm_trans L NN (by show lastP [k] < (16 : Int); rw [lastP_one]; omega) hp hy
    have := nodup_len (lm_nodup NN g p) sub
    omega
theorem ok_is_sound (B : Bt mg) (m16 : ∃ t, mg "MOST_PARTS" = some (.int 16 t)) (d : Df K mg "is_sound" s_is_sound ["family", "kind"]) (cM : Cl P w K mg base "met_from" ["family", "part"] 18 (spL R_met_from)) (cK : Cl P w K mg base "known" ["family", "found"] 2 (spD R_known))
    (cF : Cl P w K mg base "foremost" ["family", "found", "deed"] 19 (spD R_foremost)) : Cl P w K mg base "is_sound" ["family", "kind"] 20 (spD R_is_sound) := by
  obtain ⟨t16, m16⟩ := m16
  refine d.ok sc_is_sound (spD_len (by rintro _ _ ⟨_, _, _, rfl, _⟩; rfl)) (fun fa cdv A outer s H vs Q E hr h => ?_)
  obtain ⟨ds, es, hv, ⟨g, t, k, rfl, KG, gl, k0, k1, mz, rfl⟩, q⟩ := h
  obtain ⟨x, y, rfl, hx, hy⟩ := hv.args2
  refine ⟨_, pss_cons (ps_set (i := 2) sc_is_sound.nd rfl (.inr rfl) (pe_cl cM (hr.mono (by decide)) (pa_cons (pv 0) (pa_cons (pe_tup (pa_cons (pv 1) pa_nil)) pa_nil))))
    (pss_cons (ps_if (pt_cmpR op_gt (pe_callB call_len rfl B.len PySem.boot_len (pa_cons (pv 2) pa_nil)) (pe_glob (v := .int 16) rfl m16 ⟨_, rfl⟩) (nomark _)) (pss_one (ps_ret pe_bl)) pss_nil)
    (pss_one (ps_ret (pe_callB (cr_all (by rfl)) (by rfl) B.all boot_all (pa_cons (pe_lc (own := [("deed", 3)]) (g := gName 3) (tt := tYes) rfl sc_is_sound.nd (pi_str (pe_cl cK (hr.mono (by decide)) (pa_cons (pv 0) (pa_cons (pv 2) pa_nil)))) (blkOk_by (N := N_is_sound) (sc := defScope s_is_sound) (by decide +kernel))
        (fun _ _ _ _ _ => pg_name (i := 3) sc_is_sound.nd rfl (.inl rfl)) (fun _ _ _ _ _ => pts_nil) (fun _ _ _ _ _ => pe_cmpR op_notN1 (by exact pe_cl cF hr (by exact (pa_cons (pv 0) (pa_cons (pv 2) (pa_cons (pv 3) pa_nil))))) pe_non (nomark _))) pa_nil))))), ?_⟩
  have pk : PartOk g [k] := ⟨by simp, k0, k1, by show 1 ≤ 900; decide, mz⟩
  refine sl_asg (ds := (lm NN g [k]).map encP) (el_call' (eas2 (ed_var (i := 0) rfl hx) (ed_tup (ds := [.int k]) (eas1 (ed_var (i := 1) rfl hy)) (by show 1 ≤ 100000; decide))) ⟨g, t, [k], rfl, KG, gl, pk, rfl⟩) fun p xs H1 np e1 hp ha => ?_
  have dd : D H1 (.ref p) (.list ((lm NN g [k]).map encP)) := .lst hp ha
  have pall : ∀ p ∈ lm NN g [k], PartOk g p := fun p hp => mem_partOk KG gl k0 k1 mz hp
  refine sd_if (b := decide (16 < ((lm NN g [k]).length : Int))) (et_D (ed_I0 (i := ((lm NN g [k]).length : Int)) (j := 16) (ed_is (ed_lenL (ed_var (i := 2) rfl dd)) (by rw [List.length_map])) (ed_ci 16) fun H => .bl _)) (fun hb H2 e2 => ?_) (fun hb H2 e2 => ?_)
  · refine sd_ret (ed_cb false) fun v H3 e3 hv3 => q v H3 ((e1.trans e2).trans e3) ?_
    have : ¬ (lm NN g [k]).length ≤ 16 := by
      have := of_decide_eq_true hb
      omega
    unfold soundB
    rw [decide_eq_false this]
    exact hv3
  · have le : (lm NN g [k]).length ≤ 16 := by
      have := of_decide_eq_false hb
      omega
    refine st_next ?_
    dsimp only
    refine sd_ret (d := .bool (soundB g k)) ?_ fun v H3 e3 hv3 => q v H3 ((e1.trans e2).trans e3) hv3
    refine ed_is (ed_all (bs := (known g (lm NN g [k])).map fun c => (foremost NN g (doing g c (lm NN g [k]))).isSome) (EL.ed (el_is (el_lcS (l := known g (lm NN g [k])) (fun _ => true) (fun c => .bool (foremost NN g (doing g c (lm NN g [k]))).isSome) ?_ (by unfold known; exact Nat.le_trans (List.length_filter_le _ _) (by decide)) (fun _ _ _ => rfl) fun c hc H3 e3 => ?_) (by rw [filt_true, List.map_map]; rfl)))) ?_
    · exact ed_call (eas2 (ed_var (i := 0) rfl ((hx.mono e1).mono e2)) (ed_var (i := 2) rfl (dd.mono e2))) ⟨g, t, _, rfl, ⟨mz, fun p hp => ⟨(pall p hp).1, (pall p hp).2.1, (pall p hp).2.2.1⟩⟩, rfl⟩
    · refine ⟨[some x, some y, some (.ref p), some (.str ⟨#[c]⟩)], rfl, fun _ _ R h => h, et_yes, fun _ => ?_⟩
      refine ed_notN (d := optP (foremost NN g (doing g c (lm NN g [k])))) (ed_call (eas_cons (ed_var (i := 0) rfl (((hx.mono e1).mono e2).mono e3)) (eas2 (ed_var (i := 2) rfl ((dd.mono e2).mono e3)) (ed_var (i := 3) rfl (.str _)))) ⟨g, t, _, c, rfl, KG, gl, mz, pall, rfl⟩) ?_
      exact optP_some _
    · unfold soundB
      rw [decide_eq_true le, List.all_map]
      rfl
end
end KS
end
noncomputable section
namespace KS
open PySem PySem.Spec PyProof.Rows L2 Evl
open RZ (tLenSetI pe_lenSetI)
section
variable {K : PySem.W.Frag} {σ : L2.St} {H H' : Hp} {ta tb tc te : TE}
theorem ev_int {i : Int} (h : ED te σ H (.int i)) : Ev te σ H (.int i) := fun H1 e Q q => h H1 e Q fun v H2 e2 hv => by
  rw [hv.toInt]; exact q H2 e2
theorem in01 (i : Int) : inV (.int i) [.int 0, .int 1] = (decide (i = 0) || decide (i = 1)) := by
  by_cases h0 : i = 0
  · subst h0; rfl
  · by_cases h1 : i = 1
    · subst h1; rfl
    · rw [decide_eq_false h0, decide_eq_false h1]
      have a0 : ¬ (0 : Int) = i := fun e => h0 e.symm
      have a1 : ¬ (1 : Int) = i := fun e => h1 e.symm
      simp [inV, eqV, a0, a1]
theorem ed_in01 {i : Int} (h : ED ta σ H (.int i)) : ED (tOp (rIn K false) ta (tTup (tCons (tC (.int 0)) (tCons (tC (.int 1)) tNil)))) σ H (.bool (decide (i = 0) || decide (i = 1))) := by
  have q := ev_inU (K := K) (σ := σ) (H := H) (xs := [.int 0, .int 1]) (ev_int h) (eu_tup (ea_cons ev_c (ea_cons ev_c ea_nil)) (by show 2 ≤ 100000; decide)) rfl rfl
  rw [in01] at q
  exact ed_ofBool q
theorem ed_chain {p p' : Int → Int → Bool} {a b c : Int} (ha : ED ta σ H (.int a)) (hb : ED tb σ H (.int b)) (hc : ED tc σ H (.int c)) : ED (tChain (rI0 fun i j => .bl (p i j)) (rI0 fun i j => .bl (p' i j)) ta tb tc) σ H (.bool (p a b && p' b c)) := fun H1 e Q q =>
  ha H1 e _ fun x H2 e2 hx => hb H2 (e.trans e2) _ fun y H3 e3 hy => ⟨a, b, hx.toInt, hy.toInt, p a b, rfl, by
    cases hk : p a b with
    | true =>
      rw [hk] at q
      exact hc H3 ((e.trans e2).trans e3) _ fun z H4 e4 hz => ⟨b, c, hy.toInt, hz.toInt, q _ H4 ((e2.trans e3).trans e4) (.bl _)⟩
    | false =>
      rw [hk] at q
      exact q _ H3 (e2.trans e3) (.bl false)⟩
end
section
variable {P : Program} {w : World} {K : PySem.W.Frag} {mg : Str → Option Value} {base : Heap}
/-! ### is_pair -/
theorem sc_is_pair : FnScope ["pair", "number", "elder", "shared"] ["pair", "number"] (defScope s_is_pair) := ⟨rfl, rfl, rfl, by decide +kernel, rfl, by decide +kernel, by decide +kernel⟩
def pairB (n : Int) (e : Int × Int) : Bool := (decide (0 ≤ e.1) && decide (e.1 < n)) && (decide (e.2 = 0) || decide (e.2 = 1))
def R_is_pair : List PyData → PyData → Prop := fun ds d => ∃ (e : Int × Int) (n : Int), ds = [encE e, .int n] ∧ d = .bool (pairB n e)
theorem R_whole_int (i : Int) : R_is_whole [.int i] (.bool true) := ⟨_, rfl, rfl, fun _ z => nomatch z⟩
theorem ok_is_pair (B : Bt mg) (d : Df K mg "is_pair" s_is_pair ["pair", "number"]) (cW : Cl P w K mg base "is_whole" ["value"] 1 (spD R_is_whole)) : Cl P w K mg base "is_pair" ["pair", "number"] 2 (spD R_is_pair) := by
  refine d.ok sc_is_pair (spD_len (by rintro _ _ ⟨_, _, rfl, _⟩; rfl)) (fun fa cdv A outer s H vs Q E hr h => ?_)
  obtain ⟨ds, es, hv, ⟨e, n, rfl, rfl⟩, q⟩ := h
  obtain ⟨x, y, rfl, hx, hy⟩ := hv.args2
  refine ⟨_, pss_cons (ps_if (PW.pt (pw_or (pt_not (pt_val (pe_callB call_isi rfl B.isinstance boot_isinstance (pa_cons (pv 0) (pa_cons (pe_bltn (v := .ty "tuple") rfl B.tuple (by decide +kernel) rfl) pa_nil)))))
      (pw_or1 (pt_cmpR op_ne (pe_callB call_len rfl B.len PySem.boot_len (pa_cons (pv 0) pa_nil)) pe_int (nomark _))))) (pss_one (ps_ret pe_bl)) pss_nil)
    (pss_cons (ps_asg (pv 0) (pg_tup rfl (pgs_cons (pg_name (i := 2) sc_is_pair.nd rfl (.inl rfl)) (pgs_cons (pg_name (i := 3) sc_is_pair.nd rfl (.inl rfl)) pgs_nil))))
    (pss_cons (ps_if (PW.pt (pw_or (pt_not (pt_val (pe_cl cW hr (pa_cons (pv 2) pa_nil)))) (pw_or1 (pt_not (pt_val (pe_cl cW hr (pa_cons (pv 3) pa_nil))))))) (pss_one (ps_ret pe_bl)) pss_nil)
    (pss_one (ps_ret (pe_and (pe_chain op_le op_lt pe_int (pv 2) (pv 1)) (pe_one (pe_cmpR op_in_seq (pv 3) (pe_tup (pa_cons pe_int (pa_cons pe_int pa_nil))) rfl))))))), ?_⟩
  refine sd_if (b := false) (et_or (a := false) (b := false) (et_not (a := true) (et_DB (ed_isi (ed_var (i := 0) rfl hx) rfl kb_tuple_tuple))) fun _ => et_D (b := false) (ed_is (ed_neI (s := 2) (s' := 2) (ed_is (ed_lenT (ed_var (i := 0) rfl hx)) rfl) (ed_ci 2)) rfl)) (fun z => nomatch z) fun _ H1 e1 => ?_
  refine st_next ?_
  dsimp only
  refine sd_asg2 (d1 := .int e.1) (d2 := .int e.2) (ed_var (i := 0) rfl (hx.mono e1)) fun v1 v2 H2 e2 h1 h2 => ?_
  refine sd_if (b := false) (et_or (a := false) (b := false) (et_not (a := true) (et_DB (ed_call (eas1 (ed_var (i := 2) rfl h1)) (R_whole_int e.1)))) fun _ => et_not (a := true) (et_DB (ed_call (eas1 (ed_var (i := 3) rfl h2)) (R_whole_int e.2)))) (fun z => nomatch z) fun _ H3 e3 => ?_
  refine st_next ?_
  dsimp only
  refine sd_ret (d := .bool (pairB n e)) ?_ fun v H4 e4 hv4 => q v H4 (((e1.trans e2).trans e3).trans e4) hv4
  exact ed_andV (ed_chain (p := fun i j => decide (i ≤ j)) (p' := fun i j => decide (i < j)) (ed_ci 0) (ed_var (i := 2) rfl (h1.mono e3)) (ed_var (i := 1) rfl (((hy.mono e1).mono e2).mono e3))) fun _ => ed_in01 (ed_var (i := 3) rfl (h2.mono e3))
/-! ### are_elders -/
theorem sc_are_elders : FnScope ["elders", "number", "pair"] ["elders", "number"] (defScope s_are_elders) := ⟨rfl, rfl, rfl, by decide +kernel, rfl, by decide +kernel, by decide +kernel⟩
def R_are_elders : List PyData → PyData → Prop := fun ds d => ∃ (es : List (Int × Int)) (n : Int), ds = [.tuple (es.map encE), .int n] ∧ es.length ≤ 3 ∧ (∀ e ∈ es, pairB n e = true) ∧ (es.map (·.1)).Nodup ∧ d = .bool true
theorem ok_are_elders (B : Bt mg) (m3 : ∃ t, mg "MOST_ELDERS" = some (.int 3 t)) (d : Df K mg "are_elders" s_are_elders ["elders", "number"]) (cP : Cl P w K mg base "is_pair" ["pair", "number"] 2 (spD R_is_pair)) : Cl P w K mg base "are_elders" ["elders", "number"] 3 (spD R_are_elders) := by
  obtain ⟨t3, m3⟩ := m3
  refine d.ok sc_are_elders (spD_len (by rintro _ _ ⟨_, _, rfl, _⟩; rfl)) (fun fa cdv A outer s H vs Q E hr h => ?_)
  obtain ⟨ds, ee, hv, ⟨es, n, rfl, lz, pb, nd, rfl⟩, q⟩ := h
  obtain ⟨x, y, rfl, hx, hy⟩ := hv.args2
  refine ⟨_, pss_cons (ps_if (PW.pt (pw_or (pt_not (pt_val (pe_callB call_isi rfl B.isinstance boot_isinstance (pa_cons (pv 0) (pa_cons (pe_bltn (v := .ty "tuple") rfl B.tuple (by decide +kernel) rfl) pa_nil)))))
      (pw_or1 (pt_cmpR op_gt (pe_callB call_len rfl B.len PySem.boot_len (pa_cons (pv 0) pa_nil)) (pe_glob (v := .int 3) rfl m3 ⟨_, rfl⟩) (nomark _))))) (pss_one (ps_ret pe_bl)) pss_nil)
    (pss_cons (ps_if (pt_not (pt_val (pe_callB (cr_all (by rfl)) (by rfl) B.all boot_all (pa_cons (pe_lc (own := [("pair", 2)]) (g := gName 2) (tt := tYes) rfl sc_are_elders.nd (pi_tup (pv 0)) (blkOk_by (N := ["elders", "number", "pair"]) (sc := defScope s_are_elders) (by decide +kernel))
      (fun _ _ _ _ _ => pg_name (i := 2) sc_are_elders.nd rfl (.inl rfl)) (fun _ _ _ _ _ => pts_nil) (fun _ _ _ _ _ => pe_cl cP hr (pa_cons (pv 2) (pa_cons (pv 1) pa_nil)))) pa_nil)))) (pss_one (ps_ret pe_bl)) pss_nil)
    (pss_one (ps_ret (pe_cmpR op_eq (pe_lenSetI (by rfl) B.len (by rfl) B.set (pe_lc (own := [("pair", 2)]) (g := gName 2) (tt := tYes) rfl sc_are_elders.nd (pi_tup (pv 0)) (blkOk_by (N := ["elders", "number", "pair"]) (sc := defScope s_are_elders) (by decide +kernel))
      (fun _ _ _ _ _ => pg_name (i := 2) sc_are_elders.nd rfl (.inl rfl)) (fun _ _ _ _ _ => pts_nil) (fun _ _ _ _ _ => pe_ix (r := rIxT K) ix_tup (pv 2) pe_int (fun _ _ => rfl)))) (pe_callB call_len rfl B.len PySem.boot_len (pa_cons (pv 0) pa_nil)) (nomark _))))), ?_⟩
  refine sd_if (b := false) (et_or (a := false) (b := false) (et_not (a := true) (et_DB (ed_isi (ed_var (i := 0) rfl hx) rfl kb_tuple_tuple))) fun _ => et_D (ed_is (ed_I0 (i := ((es.length : Nat) : Int)) (j := 3) (d := .bool (decide (3 < ((es.length : Nat) : Int)))) (ed_is (ed_lenT (ed_var (i := 0) rfl hx)) (by rw [List.length_map])) (ed_ci 3) fun H => .bl _) (by rw [decide_eq_false (by omega)]))) (fun z => nomatch z) fun _ H1 e1 => ?_
  refine st_next ?_
  dsimp only
  have hx1 := hx.mono e1
  refine sd_if (b := false) (et_not (a := true) (et_DB (ed_is (ed_all (bs := es.map (pairB n)) (EL.ed (el_is (el_lcT (as := es) (enc := encE) (fun _ => true) (fun e => .bool (pairB n e)) (ed_var (i := 0) rfl hx1) (by omega) (fun _ _ _ => rfl) fun e he z H2 e2 hz => ?_) (by rw [filt_true, List.map_map]; rfl)))) ?_))) (fun z => nomatch z) fun _ H2 e2 => ?_
  · exact ⟨[some x, some y, some z], rfl, fun _ _ R h => h, et_yes, fun _ => ed_call (eas2 (ed_var (i := 2) rfl hz) (ed_var (i := 1) rfl ((hy.mono e1).mono e2))) ⟨e, n, rfl, rfl⟩⟩
  · congr 1
    rw [List.all_map, List.all_eq_true]
    exact fun e he => pb e he
  · refine st_next ?_
    dsimp only
    refine sd_ret (d := .bool true) ?_ fun v H3 e3 hv3 => q v H3 ((e1.trans e2).trans e3) hv3
    refine ed_is (ed_eqI (s := ((es.map (·.1)).length : Nat)) (s' := ((es.length : Nat) : Int)) (ed_lenSet (EL.ed (el_is (el_lcT (as := es) (enc := encE) (fun _ => true) (fun e => .int e.1) (ed_var (i := 0) rfl (hx1.mono e2)) (by omega) (fun _ _ _ => rfl) fun e he z H3 e3 hz => ?_) (by rw [filt_true, List.map_map]; rfl))) nd (by rw [List.length_map]; omega)) (ed_is (ed_lenT (ed_var (i := 0) rfl (hx1.mono e2))) (by rw [List.length_map]))) (by rw [List.length_map, decide_eq_true rfl])
    exact ⟨[some x, some y, some z], rfl, fun _ _ R h => h, et_yes, fun _ => ed_ixT (ed_var (i := 2) rfl hz) (ed_ci 0) rfl⟩
/-! ### are_deeds -/
theorem sc_are_deeds : FnScope ["deeds", "letter"] ["deeds"] (defScope s_are_deeds) := ⟨rfl, rfl, rfl, by decide +kernel, rfl, by decide +kernel, by decide +kernel⟩
def R_are_deeds : List PyData → PyData → Prop := fun ds d => ∃ s : Str, ds = [.str s] ∧ d = .bool (decide (s = txt (abc.filter fun c => decide (c ∈ s.cps.toList))))
theorem ok_are_deeds (B : Bt mg) (mL : ∃ t, mg "LETTERS" = some (.str (txt abc) t)) (d : Df K mg "are_deeds" s_are_deeds ["deeds"]) : Cl P w K mg base "are_deeds" ["deeds"] 1 (spD R_are_deeds) := by
  obtain ⟨tL, mL⟩ := mL
  refine d.ok sc_are_deeds (spD_len (by rintro _ _ ⟨_, rfl, _⟩; rfl)) (fun fa cdv A outer s H vs Q E hr h => ?_)
  obtain ⟨ds, ee, hv, ⟨z, rfl, rfl⟩, q⟩ := h
  obtain ⟨x, rfl, hx⟩ := hv.args1
  refine ⟨_, pss_cons (ps_if (pt_not (pt_val (pe_callB call_isi rfl B.isinstance boot_isinstance (pa_cons (pv 0) (pa_cons (pe_bltn (v := .ty "str") rfl B.str (by decide +kernel) rfl) pa_nil))))) (pss_one (ps_ret pe_bl)) pss_nil)
    (pss_one (ps_ret (pe_cmpR op_eq (pv 0) (pe_join pe_str (pe_lc (own := [("letter", 1)]) (g := gName 1) rfl sc_are_deeds.nd (pi_str (pe_glob (v := .str (txt abc)) rfl mL ⟨_, rfl⟩)) (blkOk_by (N := ["deeds", "letter"]) (sc := defScope s_are_deeds) (by decide +kernel))
      (fun _ _ _ _ _ => pg_name (i := 1) sc_are_deeds.nd rfl (.inl rfl)) (fun _ _ _ _ _ => by exact pts_one (pt_cmpR op_inS (pv 1) (pv 0) rfl)) (fun _ _ _ _ _ => pv 1))) (nomark _)))), ?_⟩
  refine sd_if (b := false) (et_not (a := true) (et_DB (ed_isi (ed_var (i := 0) rfl hx) rfl kb_str_str))) (fun z => nomatch z) fun _ H1 e1 => ?_
  refine st_next ?_
  dsimp only
  refine sd_ret (d := .bool (decide (z = txt (abc.filter fun c => decide (c ∈ z.cps.toList))))) ?_ fun v H3 e3 hv3 => q v H3 (e1.trans e3) hv3
  refine ed_eqS (ed_var (i := 0) rfl (hx.mono e1)) (ed_join (Nat.le_trans (List.length_filter_le _ _) (by decide)) (EL.ed (el_is (el_lcS (l := abc) (fun c => decide (c ∈ z.cps.toList)) (fun c => .str (Froz.sing c)) (ed_cs _) (by decide) (fun _ _ _ => rfl) fun c hc H2 e2 => ?_) (by rw [List.map_map]; rfl))))
  exact ⟨[some x, some (.str ⟨#[c]⟩)], rfl, fun _ _ R h => h, et_D (ed_inS (ed_var (i := 1) rfl (.str _)) (ed_var (i := 0) rfl ((hx.mono e1).mono e2))), fun _ => ed_var (i := 1) rfl (.str _)⟩
end
end KS
end
noncomputable section
namespace KS
open PySem PySem.Spec PyProof.Rows L2 Evl
open RZ (tLenSetI pe_lenSetI)
/-- a family as it may be handed in -/
def Valid (f : Fam) : Prop := 1 ≤ f.length ∧ f.length ≤ 7 ∧ FamOk f
theorem Valid.kinds {f : Fam} (h : Valid f) : Kinds f := h.2.2.2.1
theorem Valid.small {f : Fam} (h : Valid f) {k : Int} (h0 : 0 ≤ k) (h1 : k < f.length) : (lm NN f [k]).length ≤ 10000 := by
  have := (h.2.2.2.2 k.toNat (by omega)).1
  have e : ((k.toNat : Nat) : Int) = k := by omega
  rw [e] at this
  omega
theorem sound_true {f : Fam} (L : Low f) {k : Int} (S : Sound f k) : soundB f k = true := by
  unfold soundB
  rw [decide_eq_true S.1, Bool.true_and, List.all_eq_true]
  intro c hc
  obtain ⟨x, hx, ho⟩ := S.2 c (known_iff.mp hc).2
  rw [foremost_of L hx ho]
  rfl
theorem pairs_ok {n : Nat} {k : Kind} (o : KindOk n k) : ∀ e ∈ k.el, pairB n e = true := by
  intro e he
  obtain ⟨h1, h2, h3⟩ := o.low e he
  unfold pairB
  rw [decide_eq_true h1, decide_eq_true h2]
  rcases h3 with h | h
  · rw [decide_eq_true h]; rfl
  · rw [decide_eq_true h, Bool.or_true]; rfl
theorem rise_txt {s : Str} (h : rise s.cps.toList) : s = txt (abc.filter fun c => decide (c ∈ s.cps.toList)) := by
  have e : txt s.cps.toList = txt (abc.filter fun c => decide (c ∈ s.cps.toList)) := congrArg txt h
  rw [txt_tl] at e
  exact e
theorem et_notD {σ : L2.St} {H : Hp} {te : TE} {b : Bool} (h : ED te σ H (.bool b)) : EvT (tNot (tB te)) σ H (!b) := et_not (et_DB h)
section
variable {P : Program} {w : World} {K : PySem.W.Frag} {mg : Str → Option Value} {base : Heap}
/-! ### is_kind -/
abbrev N_is_kind : List Str := ["kind", "number", "elders", "deeds", "cells"]
theorem sc_is_kind : FnScope N_is_kind ["kind", "number"] (defScope s_is_kind) := ⟨rfl, rfl, rfl, by decide +kernel, rfl, by decide +kernel, by decide +kernel⟩
def R_is_kind : List PyData → PyData → Prop := fun ds d => ∃ (k : Kind) (n : Nat), ds = [encK k, .int n] ∧ KindOk n k ∧ d = .bool true
theorem ok_is_kind (B : Bt mg) (m3 : ∃ t, mg "MOST_CELLS" = some (.int 3 t)) (d : Df K mg "is_kind" s_is_kind ["kind", "number"]) (cE : Cl P w K mg base "are_elders" ["elders", "number"] 3 (spD R_are_elders)) (cD : Cl P w K mg base "are_deeds" ["deeds"] 1 (spD R_are_deeds))
    (cW : Cl P w K mg base "is_whole" ["value"] 1 (spD R_is_whole)) : Cl P w K mg base "is_kind" ["kind", "number"] 4 (spD R_is_kind) := by
  obtain ⟨t3, m3⟩ := m3
  refine d.ok sc_is_kind (spD_len (by rintro _ _ ⟨_, _, rfl, _⟩; rfl)) (fun fa cdv A outer s H vs Q E hr h => ?_)
  obtain ⟨ds, ee, hv, ⟨k, n, rfl, o, rfl⟩, q⟩ := h
  obtain ⟨x, y, rfl, hx, hy⟩ := hv.args2
  refine ⟨_, pss_cons (ps_if (PW.pt (pw_or (pt_not (pt_val (pe_callB call_isi rfl B.isinstance boot_isinstance (pa_cons (pv 0) (pa_cons (pe_bltn (v := .ty "tuple") rfl B.tuple (by decide +kernel) rfl) pa_nil)))))
      (pw_or1 (pt_cmpR op_ne (pe_callB call_len rfl B.len PySem.boot_len (pa_cons (pv 0) pa_nil)) pe_int (nomark _))))) (pss_one (ps_ret pe_bl)) pss_nil)
    (pss_cons (ps_asg (pv 0) (pg_tup rfl (pgs_cons (pg_name (i := 2) sc_is_kind.nd rfl (.inl rfl)) (pgs_cons (pg_name (i := 3) sc_is_kind.nd rfl (.inl rfl)) (pgs_cons (pg_name (i := 4) sc_is_kind.nd rfl (.inl rfl)) pgs_nil)))))
    (pss_cons (ps_if (PW.pt (pw_or (pt_not (pt_val (pe_cl cE hr (pa_cons (pv 2) (pa_cons (pv 1) pa_nil))))) (pw_or1 (pt_not (pt_val (pe_cl cD (hr.mono (by decide)) (pa_cons (pv 3) pa_nil))))))) (pss_one (ps_ret pe_bl)) pss_nil)
    (pss_one (ps_ret (pe_and (pe_cl cW (hr.mono (by decide)) (pa_cons (pv 4) pa_nil)) (pe_one (pe_chain op_le op_le pe_int (pv 4) (pe_glob (v := .int 3) rfl m3 ⟨_, rfl⟩)))))))), ?_⟩
  refine sd_if (b := false) (et_or (a := false) (b := false) (et_not (a := true) (et_DB (ed_isi (ed_var (i := 0) rfl hx) rfl kb_tuple_tuple))) fun _ => et_D (b := false) (ed_is (ed_neI (s := 3) (s' := 3) (ed_is (ed_lenT (ed_var (i := 0) rfl hx)) rfl) (ed_ci 3)) rfl)) (fun z => nomatch z) fun _ H1 e1 => ?_
  refine st_next ?_
  dsimp only
  refine sd_asg3 (d1 := .tuple (k.el.map encE)) (d2 := .str k.de) (d3 := .int k.ce) (ed_var (i := 0) rfl (hx.mono e1)) fun v1 v2 v3 H2 e2 h1 h2 h3 => ?_
  have hy2 := (hy.mono e1).mono e2
  refine sd_if (b := false) (et_or (a := false) (b := false) (et_not (a := true) (et_DB (ed_call (eas2 (ed_var (i := 2) rfl h1) (ed_var (i := 1) rfl hy2)) ⟨k.el, n, rfl, o.few, pairs_ok o, o.once, rfl⟩))) fun _ => et_not (a := true) (et_DB (ed_is (ed_call (eas1 (ed_var (i := 3) rfl h2)) ⟨k.de, rfl, rfl⟩) (by rw [decide_eq_true (rise_txt o.rise)])))) (fun z => nomatch z) fun _ H3 e3 => ?_
  refine st_next ?_
  dsimp only
  refine sd_ret (d := .bool true) ?_ fun v H4 e4 hv4 => q v H4 (((e1.trans e2).trans e3).trans e4) hv4
  refine ed_is (ed_andV (a := true) (ed_call (eas1 (ed_var (i := 4) rfl (h3.mono e3))) (R_whole_int k.ce)) fun _ => ed_chain (p := fun i j => decide (i ≤ j)) (p' := fun i j => decide (i ≤ j)) (ed_ci 0) (ed_var (i := 4) rfl (h3.mono e3)) (ed_ci 3)) ?_
  rw [decide_eq_true o.cells.1, decide_eq_true o.cells.2]; rfl
/-! ### need_family -/
theorem sc_need_family : FnScope ["family", "number", "kind"] ["family"] (defScope s_need_family) := ⟨rfl, rfl, rfl, by decide +kernel, rfl, by decide +kernel, by decide +kernel⟩
def R_need_family : List PyData → PyData → Prop := fun ds d => ∃ f : Fam, ds = [encF f] ∧ Valid f ∧ d = .none
theorem ok_need_family (B : Bt mg) (m7 : ∃ t, mg "MOST_KINDS" = some (.int 7 t)) (d : Df K mg "need_family" s_need_family ["family"]) (cK : Cl P w K mg base "is_kind" ["kind", "number"] 4 (spD R_is_kind)) (cS : Cl P w K mg base "is_sound" ["family", "kind"] 20 (spD R_is_sound)) :
    Cl P w K mg base "need_family" ["family"] 21 (spD R_need_family) := by
  obtain ⟨t7, m7⟩ := m7
  refine d.ok sc_need_family (spD_len (by rintro _ _ ⟨_, rfl, _⟩; rfl)) (fun fa cdv A outer s H vs Q E hr h => ?_)
  obtain ⟨ds, ee, hv, ⟨f, rfl, V, rfl⟩, q⟩ := h
  obtain ⟨x, rfl, hx⟩ := hv.args1
  refine ⟨_, pss_cons (ps_if (pt_cmpR op_gt (pe_callB call_len rfl B.len PySem.boot_len (pa_cons (pv 0) pa_nil)) (pe_glob (v := .int 7) rfl m7 ⟨_, rfl⟩) (nomark _)) (pss_one ps_never) pss_nil)
    (pss_cons (ps_if (pt_cmpR op_eq (pe_callB call_len rfl B.len PySem.boot_len (pa_cons (pv 0) pa_nil)) pe_int (nomark _)) (pss_one ps_never) pss_nil)
    (pss_one (ps_for PassesOwn.never rfl (pi_enumT (by rfl) B.enumerate (pa_cons (pv 0) pa_nil)) (pg_tup rfl (pgs_cons (pg_name (i := 1) sc_need_family.nd rfl (.inl rfl)) (pgs_cons (pg_name (i := 2) sc_need_family.nd rfl (.inl rfl)) pgs_nil)))
      (pss_one (ps_if (PW.pt (pw_or (pt_not (pt_val (pe_cl cK (hr.mono (by decide)) (pa_cons (pv 2) (pa_cons (pv 1) pa_nil))))) (pw_or1 (pt_not (pt_val (pe_cl cS hr (pa_cons (pv 0) (pa_cons (pv 1) pa_nil)))))))) (pss_one ps_never) pss_nil))))), ?_⟩
  have hn : ED (tCB (fun xs H Q => ∃ x n, xs = [x] ∧ LenV K x H n ∧ Q (.int n) H) (tCons (tVar 0) tNil)) (start ["family", "number", "kind"] [x]) H (.int ((f.length : Nat) : Int)) := ed_is (ed_lenT (ds := f.map encK) (ed_var (i := 0) rfl hx)) (by rw [List.length_map])
  refine sd_if (b := false) (et_D (ed_is (ed_I0 (d := .bool (decide (7 < ((f.length : Nat) : Int)))) hn (ed_ci 7) fun H => .bl _) (by rw [decide_eq_false (by have := V.2.1; omega)]))) (fun z => nomatch z) fun _ H1 e1 => ?_
  refine st_next ?_
  dsimp only
  refine sd_if (b := false) (et_D (ed_is (ed_eqI (hn.mono e1) (ed_ci 0)) (by rw [decide_eq_false (by have := V.1; omega)]))) (fun z => nomatch z) fun _ H2 e2 => ?_
  refine st_next ?_
  dsimp only
  have hx2 := (hx.mono e1).mono e2
  obtain ⟨a, xs, rfl, ha, hd⟩ := hx2.toTup
  have xl : xs.length = f.length := by rw [hd.len, List.length_map]
  refine ⟨.ref a, rfl, a, xs, rfl, SqT.of ha, for_enumT (K := K) (a := a) (xs := xs) (fun i σ H' => (∃ u1 u2, σ = [some (.ref a), u1, u2]) ∧ Ex H2 H') ⟨⟨_, _, rfl⟩, Ex.refl _⟩ (fun i σ H' _ ⟨_, e⟩ => SqT.of (e _ _ ha)) (fun i y T σ H' hi ⟨⟨u1, u2, es⟩, e3⟩ nT => ?_) (fun σ H' ⟨_, e3⟩ => ?_)⟩
  · subst es
    obtain ⟨dd, hd1, hy⟩ := hd.get2 hi
    obtain ⟨k, h1, h2⟩ : ∃ k, f[i]? = some k ∧ dd = encK k := by
      rw [List.getElem?_map] at hd1
      cases z : f[i]? with
      | none => rw [z] at hd1; cases hd1
      | some k => rw [z] at hd1; exact ⟨k, rfl, (Option.some.inj hd1).symm⟩
    subst h2
    have o := V.kinds i k h1
    have il : i < f.length := (List.getElem?_eq_some_iff.mp h1).1
    have e4 : Ex H' (upd H' T (.tup [.int (i : Nat), y])) := Ex.new nT
    have hy4 := (hy.mono e3).mono e4
    have hf4 : D (upd H' T (.tup [.int (i : Nat), y])) (.ref a) (encF (f ++ [])) := by
      rw [List.append_nil]; exact (hx2.mono e3).mono e4
    refine ⟨T, [.int (i : Nat), y], rfl, SqT.of upd_same, rfl, .int (i : Nat), [y], rfl, y, [], rfl, rfl, ?_⟩
    refine sd_if (b := false) (et_or (a := false) (b := false) (et_not (a := true) (et_DB (ed_call (eas2 (ed_var (σ := [some (.ref a), some (.int (i : Nat)), some y]) (i := 2) rfl hy4) (ed_var (i := 1) rfl (.int _))) ⟨k, i, rfl, o, rfl⟩))) fun _ => et_not (a := true) (et_DB (ed_is (ed_call (eas2 (ed_var (σ := [some (.ref a), some (.int (i : Nat)), some y]) (i := 0) rfl hf4) (ed_var (i := 1) rfl (.int _))) ⟨f, [], i, rfl, V.kinds, V.2.2.1, by omega, by omega, V.small (by omega) (by omega), rfl⟩) (by rw [sound_true (kinds_low V.kinds) (V.2.2.2.2 i il)])))) (fun z => nomatch z) fun _ H5 e5 => ?_
    exact ⟨⟨_, _, rfl⟩, (e3.trans e4).trans e5⟩
  · exact q .non H' ((e1.trans e2).trans e3) .non
/-! ### need_kind -/
theorem sc_need_kind : FnScope ["family", "kind"] ["family", "kind"] (defScope s_need_kind) := ⟨rfl, rfl, rfl, by decide +kernel, rfl, by decide +kernel, by decide +kernel⟩
def R_need_kind : List PyData → PyData → Prop := fun ds d => ∃ (f : Fam) (k : Int), ds = [encF f, .int k] ∧ Valid f ∧ 0 ≤ k ∧ k < f.length ∧ d = .none
theorem sd_drop {σ : L2.St} {H : Hp} {te : TE} {d : PyData} {Dn : Ends} (h : ED te σ H d) (k : ∀ H1, Ex H H1 → Dn.nx σ H1) : tDrop te Dn σ H := h H (Ex.refl H) _ fun v H1 e _ => k H1 e
theorem ok_need_kind (B : Bt mg) (d : Df K mg "need_kind" s_need_kind ["family", "kind"]) (cF : Cl P w K mg base "need_family" ["family"] 21 (spD R_need_family)) (cW : Cl P w K mg base "is_whole" ["value"] 1 (spD R_is_whole)) : Cl P w K mg base "need_kind" ["family", "kind"] 22 (spD R_need_kind) := by
  refine d.ok sc_need_kind (spD_len (by rintro _ _ ⟨_, _, rfl, _⟩; rfl)) (fun fa cdv A outer s H vs Q E hr h => ?_)
  obtain ⟨ds, ee, hv, ⟨f, k, rfl, V, k0, k1, rfl⟩, q⟩ := h
  obtain ⟨x, y, rfl, hx, hy⟩ := hv.args2
  refine ⟨_, pss_cons (ps_expr (pe_cl cF hr (pa_cons (pv 0) pa_nil)))
    (pss_one (ps_if (PW.pt (pw_or (pt_not (pt_val (pe_cl cW (hr.mono (by decide)) (pa_cons (pv 1) pa_nil)))) (pw_or1 (pt_not (pt_chain op_le op_lt pe_int (pv 1) (pe_callB call_len rfl B.len PySem.boot_len (pa_cons (pv 0) pa_nil))))))) (pss_one ps_never) pss_nil)), ?_⟩
  refine sd_drop (ed_call (eas1 (ed_var (i := 0) rfl hx)) ⟨f, rfl, V, rfl⟩) fun H1 e1 => ?_
  refine sd_if (b := false) (et_or (a := false) (b := false) (et_not (a := true) (et_DB (ed_call (eas1 (ed_var (i := 1) rfl (hy.mono e1))) (R_whole_int k)))) fun _ => et_not (a := true) (et_D (ed_is (ed_chain (p := fun i j => decide (i ≤ j)) (p' := fun i j => decide (i < j)) (ed_ci 0) (ed_var (i := 1) rfl (hy.mono e1)) (ed_is (ed_lenT (ds := f.map encK) (ed_var (i := 0) rfl (hx.mono e1))) (d' := .int ((f.length : Nat) : Int)) (by rw [List.length_map]))) (by rw [decide_eq_true k0, decide_eq_true k1]; rfl)))) (fun z => nomatch z) fun _ H2 e2 => ?_
  exact q .non H2 (e1.trans e2) .non
theorem Valid.parts {f : Fam} (V : Valid f) {k : Int} (h0 : 0 ≤ k) (h1 : k < f.length) {p : Part} (hp : p ∈ lm NN f [k]) : PartOk f p := mem_partOk V.kinds V.2.2.1 h0 h1 (V.small h0 h1) hp
end
end KS
end
noncomputable section
namespace KS
open PySem PySem.Spec PyProof.Rows L2 Evl
open RZ (tLenSetI pe_lenSetI)
/-! ### what is drawn from -/
/-- a list of a number, a list of numbers at b, a number -/
def HS (a b : Addr) (H : Hp) : Prop := a ≠ b ∧ ∃ (m k : Int) (ns : List Int), H a = some (.lst [.int m, .ref b, .int k]) ∧ H b = some (.lst (ns.map V.int)) ∧ ns.length ≤ 63 ∧ 0 ≤ m ∧ m < 2147483647 ∧ 0 ≤ k
/-- all but these two stays -/
def Off (a b : Addr) (H H' : Hp) : Prop := ∀ c o, c ≠ a → c ≠ b → H c = some o → H' c = some o
theorem Off.refl (a b : Addr) (H : Hp) : Off a b H H := fun _ _ _ _ h => h
theorem Off.trans {a b : Addr} {H H1 H2 : Hp} (x : Off a b H H1) (y : Off a b H1 H2) : Off a b H H2 := fun c o n1 n2 h => y c o n1 n2 (x c o n1 n2 h)
theorem Off.ex {a b : Addr} {H H' : Hp} (e : Ex H H') : Off a b H H' := fun c o _ _ h => e c o h
theorem Off.upd1 {a b : Addr} {H : Hp} {o : HO} : Off a b H (upd H a o) := fun c u n _ h => by rw [upd_ne n]; exact h
theorem Off.upd2 {a b : Addr} {H : Hp} {o : HO} : Off a b H (upd H b o) := fun c u _ n h => by rw [upd_ne n]; exact h
theorem HS.ex {a b : Addr} {H H' : Hp} (h : HS a b H) (e : Ex H H') : HS a b H' := by
  obtain ⟨ne, m, k, ns, h1, h2, r⟩ := h
  exact ⟨ne, m, k, ns, e _ _ h1, e _ _ h2, r⟩
theorem HS.tu {a b : Addr} {H H' : Hp} (h : HS a b H) (x : Off a b H H') : Tu H H' := by
  obtain ⟨ne, m, k, ns, h1, h2, r⟩ := h
  exact fun c xs hc => x c _ (ne_of hc h1 (by intro z; cases z)) (ne_of hc h2 (by intro z; cases z)) hc
section
variable {P : Program} {w : World} {K : PySem.W.Frag} {mg : Str → Option Value} {base : Heap}
/-! ### _law_mix -/
abbrev N_mix : List Str := ["_law_script", "_law_seed", "_law_mixed", "_law_cell"]
theorem sc_mix : FnScope N_mix ["_law_script", "_law_seed"] (defScope s_law_mix) := ⟨rfl, rfl, rfl, by decide +kernel, rfl, by decide +kernel, by decide +kernel⟩
def spMix (K : PySem.W.Frag) : Sp := fun vs H Q _ => ∃ (a : Addr) (ns : List Int) (sd : Int), vs = [.ref a, .int sd] ∧ SqL K H a (ns.map V.int) ∧ ns.length ≤ 63 ∧ 0 ≤ sd ∧ sd < 2147483647 ∧
  ∀ r b H', H r = none → H b = none → Ex H H' → HS r b H' → Q (.ref r) H'
theorem ok_mix (B : Bt mg) (d : Df K mg "_law_mix" s_law_mix ["_law_script", "_law_seed"]) : Cl P w K mg base "_law_mix" ["_law_script", "_law_seed"] 1 (spMix K) := by
  refine d.ok sc_mix (fun vs H Q E h => by obtain ⟨_, _, _, rfl, _⟩ := h; rfl) (fun fa cdv A outer s H vs Q E hr h => ?_)
  obtain ⟨a, ns, sd, rfl, hS, hl, s0, s1, q⟩ := h
  refine ⟨_, pss_cons (ps_set (i := 2) sc_mix.nd rfl (.inl rfl) (pv 1))
    (pss_cons (ps_for PassesOwn.never rfl (pi_list (pv 0)) (pg_name (i := 3) sc_mix.nd rfl (.inl rfl))
      (pss_one (ps_set (i := 2) sc_mix.nd rfl (.inl rfl) (pe_op op_mod (pe_op op_add (pe_op op_add (pe_op op_mul (pv 2) pe_int) (pe_op op_mod (pv 3) pe_int)) pe_int) pe_int))))
    (pss_one (ps_ret (pe_lst (pa_cons (pv 2) (pa_cons (pe_callTy call_list_of rfl B.list boot_list (pa_cons (pv 0) pa_nil)) (pa_cons pe_int pa_nil))))))), ?_⟩
  refine ⟨_, rfl, .ref a, rfl, a, rfl, ⟨_, hS⟩, for_list (K := K) (a := a) (xs := ns.map V.int) (fun i σ H' => H' = H ∧ ∃ m y, σ = [some (.ref a), some (.int sd), some (.int m), y] ∧ 0 ≤ m ∧ m < 2147483647) ⟨rfl, sd, _, rfl, s0, s1⟩ (fun i σ H' _ ⟨e, _⟩ => e ▸ hS) (fun i x σ H' hi ⟨e, m, y, es, m0, m1⟩ => ?_) (fun σ H' ⟨e, m, y, es, m0, m1⟩ => ?_)⟩
  · subst e es
    obtain ⟨c, hc⟩ : ∃ c, x = V.int c := by
      rw [List.getElem?_map] at hi
      cases k : ns[i]? with
      | none => rw [k] at hi; cases hi
      | some c => rw [k] at hi; exact ⟨c, (Option.some.inj hi).symm⟩
    subst hc
    refine ⟨_, rfl, m, 48271, rfl, rfl, .inr ⟨by decide, by decide⟩, _, rfl, c, 2147483629, rfl, rfl, by show (0 : Int) < 2147483629; decide, _, _, rfl, rfl, _, 1, rfl, rfl, _, 2147483647, rfl, rfl, by show (0 : Int) < 2147483647; decide, rfl, _, _, rfl, Int.emod_nonneg _ (by decide), Int.emod_lt_of_pos _ (by decide)⟩
  · subst e es
    refine ⟨_, rfl, .ref a, rfl, a, _, rfl, .inl hS, fun b hb => ⟨by show 3 ≤ sizeLine; decide, fun r hr => ?_⟩⟩
    have nrb : r ≠ b := by
      intro z
      subst z
      rw [upd_same] at hr
      cases hr
    refine q r b _ (by rw [upd_ne nrb] at hr; exact hr) hb ((Ex.new hb).trans (Ex.new hr)) ⟨nrb, m, 0, ns, upd_same, by rw [upd_ne nrb.symm]; exact upd_same, hl, m0, m1, Int.le_refl 0⟩
/-! ### _law_next -/
abbrev N_next : List Str := ["_law_h", "_law_many", "_law_at", "_law_cell"]
theorem sc_next : FnScope N_next ["_law_h", "_law_many"] (defScope s_law_next) := ⟨rfl, rfl, rfl, by decide +kernel, rfl, by decide +kernel, by decide +kernel⟩
def spNext : Sp := fun vs H Q _ => ∃ (a b : Addr) (n : Int), vs = [.ref a, .int n] ∧ HS a b H ∧ 0 < n ∧ n ≤ 1000000 ∧ ∀ r H', Off a b H H' → HS a b H' → 0 ≤ r → r < n → Q (.int r) H'
theorem set_map_int (ns : List Int) (j : Nat) (x : Int) : (ns.map V.int).set j (.int x) = (ns.set j x).map V.int := by rw [List.map_set]
theorem ok_next (B : Bt mg) (d : Df K mg "_law_next" s_law_next ["_law_h", "_law_many"]) : Cl P w K mg base "_law_next" ["_law_h", "_law_many"] 1 spNext := by
  refine d.ok sc_next (fun vs H Q E h => by obtain ⟨_, _, _, rfl, _⟩ := h; rfl) (fun fa cdv A outer s H vs Q E hr h => ?_)
  obtain ⟨a, b, n, rfl, ⟨nab, m, k, ns, ha, hb, hl, m0, m1, k0⟩, n0, n1, q⟩ := h
  refine ⟨_, pss_cons (ps_set (i := 2) sc_next.nd rfl (.inl rfl) (pe_op op_mod (pe_ix ix_list (pv 0) pe_int (fun _ _ => rfl)) (pe_callB (call_max2 rfl) rfl B.max boot_max (pa_cons pe_int (pa_cons (pe_callB call_len_seq rfl B.len PySem.boot_len (pa_cons (pe_ix ix_list (pv 0) pe_int (fun _ _ => rfl)) pa_nil)) pa_nil)))))
    (pss_cons (ps_set (i := 3) sc_next.nd rfl (.inl rfl) (pe_ifExp (pt_cmpR (op_neD (Nat.lt_of_succ_lt (hu64 hr))) (pe_ix ix_list (pv 0) pe_int (fun _ _ => rfl)) (pe_lst pa_nil) (nomark _)) (pe_ix ix_list (pe_ix ix_list (pv 0) pe_int (fun _ _ => rfl)) (pv 2) (fun _ _ => rfl)) pe_int))
    (pss_cons (ps_if (pt_cmpR op_ge (pv 3) (pe_op op_pow pe_int pe_int) (nomark _))
      (pss_cons (ps_asg (pe_op op_fdivN (pv 3) (pv 1)) (pg_sub (pe_ix ix_list (pv 0) pe_int (fun _ _ => rfl)) (pv 2) set_list (fun _ => rfl))) (pss_one (ps_ret (pe_op op_mod (pv 3) (pv 1))))) pss_nil)
    (pss_cons (ps_asg (pe_op op_mod (pe_op op_add (pe_op op_add (pe_op op_mul (pe_ix ix_list (pv 0) pe_int (fun _ _ => rfl)) pe_int) (pe_op op_mul (pv 3) pe_int)) pe_int) pe_int) (pg_sub (pv 0) pe_int set_list (fun _ => rfl)))
    (pss_cons (ps_asg (pe_op op_add (pe_ix ix_list (pv 0) pe_int (fun _ _ => rfl)) pe_int) (pg_sub (pv 0) pe_int set_list (fun _ => rfl)))
    (pss_one (ps_ret (pe_op op_mod (pe_op op_fdiv (pe_ix ix_list (pv 0) pe_int (fun _ _ => rfl)) pe_int) (pv 1)))))))), ?_⟩
  have i0 : ∀ {xs : List V} {x : V}, atI (x :: xs) 0 = some x := fun {xs x} => atI_nat (j := 0) rfl
  -- at
  refine ⟨.ref a, rfl, a, _, 2, .int k, rfl, rfl, SqL.of ha, atI_nat (j := 2) rfl, .ref a, rfl, a, _, 1, .ref b, rfl, rfl, SqL.of ha, atI_nat (j := 1) rfl, b, _, rfl, .inl (SqL.of hb), 1, _, rfl, k, _, rfl, rfl, ?_⟩
  rw [List.length_map]
  generalize eL : (if ((ns.length : Nat) : Int) > 1 then ((ns.length : Nat) : Int) else 1) = L
  have L0 : 0 < L := by
    subst eL
    split <;> omega
  refine ⟨L0, ?_⟩
  have at0 : 0 ≤ k % L := Int.emod_nonneg _ (by omega)
  have at1 : k % L < L := Int.emod_lt_of_pos _ L0
  -- cell
  have hdata : ∀ H1, Ex H H1 → D H1 (.ref b) (.list (ns.map PyData.int)) := fun H1 e => .lst (e _ _ hb) (DA.ofInts ns)
  have cell : ED (tIf (tTest (tOp (rNeD K) (tOp (rIxL K) (tVar 0) (tC (.int 1))) (tLst tNil))) (tOp (rIxL K) (tOp (rIxL K) (tVar 0) (tC (.int 1))) (tVar 2)) (tC (.int 0))) [some (.ref a), some (.int n), some (.int (k % L)), none] H (.int (if ns = [] then 0 else ns.getD (k % L).toNat 0)) := by
    have dh : D H (.ref a) (.list [.int m, .list (ns.map PyData.int), .int k]) := .lst ha (.cons (.int m) (.cons (hdata H (Ex.refl H)) (.cons (.int k) .nil)))
    have t1 : ED (tOp (rIxL K) (tVar 0) (tC (.int 1))) [some (.ref a), some (.int n), some (.int (k % L)), none] H (.list (ns.map PyData.int)) := ed_ixL (ed_var (i := 0) rfl dh) (ed_ci 1) rfl
    refine ed_if (b := !decide (ns = [])) (et_D (ed_is (ed_neD t1 (EL.ed (el_lst' (ds := []) eas_nil (by decide))) (intsL_shaped ns) (intsL_shaped [])) ?_)) (fun hb => ?_) (fun hb => ?_)
    · cases ns with
      | nil => simp [PyData.eqv, PyData.eqvAll]
      | cons x r => simp [PyData.eqv, PyData.eqvAll]
    · have ne : ¬ ns = [] := by simpa using hb
      rw [if_neg ne]
      have len1 : 1 ≤ ns.length := by
        cases ns with
        | nil => exact absurd rfl ne
        | cons x r => simp
      have lt : (k % L).toNat < ns.length := by
        have : L ≤ ns.length := by
          subst eL
          split <;> omega
        omega
      refine ed_ixL t1 (ed_var (i := 2) rfl (.int (k % L))) ?_
      have e1 : atI ns (((k % L).toNat : Nat) : Int) = some (ns.getD (k % L).toNat 0) := atI_nat (by rw [List.getD_eq_getElem?_getD, List.getElem?_eq_getElem lt]; rfl)
      rw [show (((k % L).toNat : Nat) : Int) = k % L by omega] at e1
      exact atI_map e1
    · have ne : ns = [] := by simpa using hb
      rw [if_pos ne]
      exact ed_ci 0
  refine cell H (Ex.refl H) _ fun v H1 e1 hv => ?_
  have ev := hv.toInt
  subst ev
  generalize hc : (if ns = [] then (0 : Int) else ns.getD (k % L).toNat 0) = c
  have ha1 := e1 _ _ ha
  have hb1 := e1 _ _ hb
  refine ⟨.int c, rfl, 10, 18, rfl, rfl, ⟨by decide, by decide, by decide⟩, c, _, rfl, rfl, _, rfl, ite2 (fun ge => ?_) (fun lt => ?_)⟩
  · -- a great cell
    have big : (10 : Int) ^ (18 : Int).toNat ≤ c := of_decide_eq_true ge
    have ne : ¬ ns = [] := by
      intro z
      rw [if_pos z] at hc
      subst hc
      exact absurd big (by decide)
    have len1 : 1 ≤ ns.length := by
      cases ns with
      | nil => exact absurd rfl ne
      | cons x r => simp
    have lt : (k % L).toNat < ns.length := by
      have : L ≤ ns.length := by
        subst eL
        split <;> omega
      omega
    have ix : ixN (ns.map V.int).length (k % L) = some (k % L).toNat := by
      unfold ixN
      rw [List.length_map, if_pos at0, if_pos (by omega)]
    refine ⟨.int c, rfl, .int n, rfl, c, n, rfl, rfl, ⟨by omega, by omega⟩, .ref a, rfl, a, _, 1, .ref b, rfl, rfl, SqL.of ha1, atI_nat (j := 1) rfl, .int (k % L), rfl, b, _, k % L, _, rfl, rfl, hb1, ix, ?_⟩
    refine ⟨.int c, rfl, .int n, rfl, c, n, rfl, rfl, n0, ?_⟩
    refine q _ _ ((Off.ex e1).trans Off.upd2) ⟨nab, m, k, ns.set (k % L).toNat (c.fdiv n), ?_, ?_, by rw [List.length_set]; exact hl, m0, m1, k0⟩ (Int.emod_nonneg _ (by omega)) (Int.emod_lt_of_pos _ n0)
    · rw [upd_ne nab]; exact ha1
    · rw [upd_same, set_map_int]
  · refine st_next ?_
    dsimp only
    refine ⟨.ref a, rfl, a, _, 0, .int m, rfl, rfl, SqL.of ha1, atI_nat (j := 0) rfl, m, 48271, rfl, rfl, .inr ⟨by decide, by decide⟩, .int c, rfl, c, 69621, rfl, rfl, .inr ⟨by decide, by decide⟩, _, _, rfl, rfl, _, 11, rfl, rfl, _, 2147483647, rfl, rfl, by show (0 : Int) < 2147483647; decide, .ref a, rfl, a, _, 0, 0, rfl, rfl, ha1, rfl, ?_⟩
    show tSeq _ _ _ _ (upd H1 a (.lst [.int ((m * 48271 + c * 69621 + 11) % 2147483647), .ref b, .int k]))
    generalize hm : (m * 48271 + c * 69621 + 11) % 2147483647 = m2
    have m20 : 0 ≤ m2 := by rw [← hm]; exact Int.emod_nonneg _ (by decide)
    have m21 : m2 < 2147483647 := by rw [← hm]; exact Int.emod_lt_of_pos _ (by decide)
    refine ⟨.ref a, rfl, a, [.int m2, .ref b, .int k], 2, .int k, rfl, rfl, SqL.of upd_same, atI_nat (j := 2) rfl, k, 1, rfl, rfl, .ref a, rfl, a, [.int m2, .ref b, .int k], 2, 2, rfl, rfl, upd_same, rfl, ?_⟩
    rw [upd_upd]
    refine ⟨.ref a, rfl, a, [.int m2, .ref b, .int (k + 1)], 0, .int m2, rfl, rfl, SqL.of upd_same, atI_nat (j := 0) rfl, m2, 7, rfl, rfl, by exact ⟨by decide, by decide⟩, .int n, rfl, _, n, rfl, rfl, n0, ?_⟩
    exact q _ _ ((Off.ex e1).trans Off.upd1) ⟨nab, m2, k + 1, ns, upd_same, by rw [upd_ne nab.symm]; exact hb1, hl, m20, m21, by omega⟩ (Int.emod_nonneg _ (by omega)) (Int.emod_lt_of_pos _ n0)
end
end KS
end
noncomputable section
namespace KS
open PySem PySem.Spec PyProof.Rows L2 Evl
open RZ (tLenSetI pe_lenSetI)
section
variable {K : PySem.W.Frag} {σ : L2.St} {H H' : Hp} {ta tb tc te : TE} {tt : TT} {d d1 d2 : PyData} {ds es : List PyData}
/-- over range(n) -/
theorem el_lcR {ta : TA} {n : Nat} {g : TG} {vs : List Nat} (f : Nat → Bool) (ge : Nat → PyData) (h : EAs ta σ H [.int (n : Int)]) (hz : n ≤ 40000) (fl : ∀ i, i < n → f i = true → flatT (ge i) = true)
    (hg : ∀ i, i < n → ∀ H1, Ex H H1 → ∃ σ2, wipe σ2 vs = wipe σ vs ∧ (∀ H2, Ex H1 H2 → ∀ R : L2.St → Hp → Prop, R σ2 H2 → g (.int (i : Int)) (wipe σ vs) H2 R) ∧ EvT tt σ2 H1 (f i) ∧ (f i = true → ED te σ2 H1 (ge i))) :
    EL (tLc (iRng1 ta) g tt te vs) σ H (((List.range n).filter f).map ge) := fun H0 e Q q => h H0 e _ fun xs H1 e1 hx => by
  obtain ⟨x, rfl, hx1⟩ := hx.args1
  have ex := hx1.toInt
  subst ex
  refine ⟨(n : Int), rfl, by omega, by omega, fun Dl hD => ?_⟩
  refine lc_range (lo := 0) (n := n) (fun i H' => CW H1 Dl ((((List.range n).take i).filter f).map ge) H') ⟨hD, Ex.new hD, [], upd_same, .nil⟩ (fun i H' hi c => ?_) (fun H' c => ?_)
  · have h1 : (List.range n)[i]? = some i := List.getElem?_range hi
    obtain ⟨σ2, w1, w2, w3, w4⟩ := hg i hi H1 (e.trans e1)
    have e0 : (0 : Int) + (i : Int) = (i : Int) := Int.zero_add _
    rw [e0]
    refine w2 _ c.2.1 _ ⟨w1, ?_⟩
    have st := cw_step (te := te) (tt := tt) (σ2 := σ2) (d := ge i) c (by have := fm_len ((List.range n).take i) f ge; rw [List.length_take, List.length_range] at this; omega) (flat_fm _ f ge fun d hd => fl d (List.mem_range.mp (List.mem_of_mem_take hd))) w3 (fun hb => ⟨w4 hb, fl i hi hb⟩)
    rw [← take_fm f ge h1] at st
    exact st
  · rw [List.take_of_length_le (by rw [List.length_range]; exact Nat.le_refl _)] at c
    obtain ⟨c1, c2, acc, c3, c4⟩ := c
    exact q Dl acc H' (fresh_back e1 hD) (e1.trans c2) c3 c4
theorem ed_ixSL {i : Int} (ha : ED ta σ H (.list ds)) (hb : ED tb σ H (.int i)) (hd : atI ds i = some d) : ED (tOp (rIx K) ta tb) σ H d := ed_bin' ha hb fun x y H1 _ hx hy Q q => by
  obtain ⟨a, xs, rfl, h1, h2⟩ := hx.toLst
  obtain ⟨z, h3, h4⟩ := h2.at hd
  exact .inl ⟨a, xs, i, z, rfl, hy.toInt, SqL.of h1, h3, q z H1 (Ex.refl H1) h4⟩
theorem ed_ixST {i : Int} (ha : ED ta σ H (.tuple ds)) (hb : ED tb σ H (.int i)) (hd : atI ds i = some d) : ED (tOp (rIx K) ta tb) σ H d := ed_bin' ha hb fun x y H1 _ hx hy Q q => by
  obtain ⟨a, xs, rfl, h1, h2⟩ := hx.toTup
  obtain ⟨z, h3, h4⟩ := h2.at hd
  exact .inr (.inl ⟨a, xs, i, z, rfl, hy.toInt, SqT.of h1, h3, q z H1 (Ex.refl H1) h4⟩)
theorem g_pair {i j : Nat} {v : V} {Q : L2.St → Hp → Prop} (h : D H v (.tuple [d1, d2])) (q : ∀ v1 v2, D H v1 d1 → D H v2 d2 → Q ((σ.set i (some v1)).set j (some v2)) H) : gTup K 2 (gCons (gName i) (gCons (gName j) gNil)) v σ H Q := by
  obtain ⟨a, xs, rfl, h1, h2⟩ := h.toTup
  obtain ⟨x, y, rfl, hx, hy⟩ := h2.args2
  exact ⟨a, [x, y], rfl, SqT.of h1, rfl, x, [y], rfl, y, [], rfl, rfl, q x y hx hy⟩
end
theorem filt_false {α : Type} (l : List α) : (l.filter fun _ => false) = [] := List.filter_eq_nil_iff.mpr fun _ _ => by simp
/-! ### alike -/
def okD : Nat → PyData → Prop
  | 0, _ => False
  | n + 1, .list ds => ds.length ≤ 40000 ∧ ∀ d ∈ ds, okD n d
  | n + 1, .tuple ds => ds.length ≤ 40000 ∧ ∀ d ∈ ds, okD n d
  | _ + 1, .dict _ => False
  | _ + 1, _ => True
def R_alike (n : Nat) : List PyData → PyData → Prop := fun ds d => ∃ x, ds = [x, x] ∧ okD n x ∧ d = .bool true
section
variable {P : Program} {w : World} {K : PySem.W.Frag} {mg : Str → Option Value} {base : Heap}
abbrev N_alike : List Str := ["_law_found", "_law_due", "_law_k"]
theorem sc_alike : FnScope N_alike ["_law_found", "_law_due"] (defScope s_law_alike) := ⟨rfl, rfl, rfl, by decide +kernel, rfl, by decide +kernel, by decide +kernel⟩
theorem alike_step {n : Nat} (B : Bt mg) (d : Df K mg "_law_alike" s_law_alike ["_law_found", "_law_due"]) (G : Cl P w K mg base "_law_alike" ["_law_found", "_law_due"] (n + 1) (spD (R_alike n))) : Cl P w K mg base "_law_alike" ["_law_found", "_law_due"] (n + 2) (spD (R_alike (n + 1))) := by
  refine d.ok sc_alike (spD_len (by rintro _ _ ⟨_, rfl, _⟩; rfl)) (fun fa cdv A outer s H vs Q E hr h => ?_)
  obtain ⟨ds, ee, hv, ⟨x, rfl, ok, rfl⟩, q⟩ := h
  obtain ⟨u, v, rfl, hu, hv⟩ := hv.args2
  refine ⟨_, pss_cons (ps_if (pt_val (pe_callB call_isiT rfl B.isinstance boot_isinstance (pa_cons (pv 1) (pa_cons (pe_tup (pa_cons (pe_bltn (v := .ty "tuple") rfl B.tuple (by decide +kernel) rfl) (pa_cons (pe_bltn (v := .ty "list") rfl B.list (by decide +kernel) rfl) pa_nil))) pa_nil))))
      (pss_cons (ps_if (PW.pt (pw_or (pt_not (pt_val (pe_callB call_isiT rfl B.isinstance boot_isinstance (pa_cons (pv 0) (pa_cons (pe_tup (pa_cons (pe_bltn (v := .ty "tuple") rfl B.tuple (by decide +kernel) rfl) (pa_cons (pe_bltn (v := .ty "list") rfl B.list (by decide +kernel) rfl) pa_nil))) pa_nil)))))
          (pw_or1 (pt_cmpR op_ne (pe_callB call_isi rfl B.isinstance boot_isinstance (pa_cons (pv 0) (pa_cons (pe_bltn (v := .ty "list") rfl B.list (by decide +kernel) rfl) pa_nil))) (pe_callB call_isi rfl B.isinstance boot_isinstance (pa_cons (pv 1) (pa_cons (pe_bltn (v := .ty "list") rfl B.list (by decide +kernel) rfl) pa_nil))) (nomark _))))) (pss_one (ps_ret pe_bl)) pss_nil)
      (pss_cons (ps_if (pt_cmpR op_ne (pe_callB call_len rfl B.len PySem.boot_len (pa_cons (pv 0) pa_nil)) (pe_callB call_len rfl B.len PySem.boot_len (pa_cons (pv 1) pa_nil)) (nomark _)) (pss_one (ps_ret pe_bl)) pss_nil)
      (pss_one (ps_ret (pe_cmpR (op_eqD (Nat.lt_of_succ_lt (hu64 hr))) (pe_lc (own := [("_law_k", 2)]) (g := gName 2) rfl sc_alike.nd (pi_range1 (by rfl) B.range (pa_cons (pe_callB call_len rfl B.len PySem.boot_len (pa_cons (pv 1) pa_nil)) pa_nil)) (blkOk_by (N := N_alike) (sc := defScope s_law_alike) (by decide +kernel))
        (fun _ _ _ _ _ => pg_name (i := 2) sc_alike.nd rfl (.inl rfl)) (fun _ _ _ _ _ => by exact pts_one (pt_not (pt_val (pe_cl G hr (by exact pa_cons (pe_ix (r := rIx K) ix_seq (pv 0) (pv 2) (fun _ _ => rfl)) (pa_cons (pe_ix (r := rIx K) ix_seq (pv 1) (pv 2) (fun _ _ => rfl)) pa_nil)))))) (fun _ _ _ _ _ => pv 2)) (pe_lst pa_nil) (nomark _)))))) pss_nil)
    (pss_cons (ps_if (pt_cmpR op_isN1 (pv 1) pe_non (nomark _)) (pss_one (ps_ret (pe_cmpR op_isN1 (pv 0) pe_non (nomark _)))) pss_nil)
    (pss_cons (ps_if (pt_val (pe_callB call_isi rfl B.isinstance boot_isinstance (pa_cons (pv 1) (pa_cons (pe_bltn (v := .ty "str") rfl B.str (by decide +kernel) rfl) pa_nil)))) (pss_one (ps_ret (pe_and (pe_callB call_isi rfl B.isinstance boot_isinstance (pa_cons (pv 0) (pa_cons (pe_bltn (v := .ty "str") rfl B.str (by decide +kernel) rfl) pa_nil))) (pe_one (pe_cmpR op_eq (pv 0) (pv 1) (nomark _)))))) pss_nil)
    (pss_cons (ps_if (PW.pt (pw_or (pt_val (pe_callB call_isi rfl B.isinstance boot_isinstance (pa_cons (pv 1) (pa_cons (pe_bltn (v := .ty "bool") rfl B.bool (by decide +kernel) rfl) pa_nil)))) (pw_or1 (pt_val (pe_callB call_isi rfl B.isinstance boot_isinstance (pa_cons (pv 0) (pa_cons (pe_bltn (v := .ty "bool") rfl B.bool (by decide +kernel) rfl) pa_nil)))))))
      (pss_one (ps_ret (pe_and (pe_callB call_isi rfl B.isinstance boot_isinstance (pa_cons (pv 1) (pa_cons (pe_bltn (v := .ty "bool") rfl B.bool (by decide +kernel) rfl) pa_nil))) (pe_and (pe_callB call_isi rfl B.isinstance boot_isinstance (pa_cons (pv 0) (pa_cons (pe_bltn (v := .ty "bool") rfl B.bool (by decide +kernel) rfl) pa_nil))) (pe_one (pe_cmpR op_eq (pv 0) (pv 1) (nomark _))))))) pss_nil)
    (pss_one (ps_ret (pe_and (pe_callB call_isi rfl B.isinstance boot_isinstance (pa_cons (pv 0) (pa_cons (pe_bltn (v := .ty "int") rfl B.int (by decide +kernel) rfl) pa_nil))) (pe_one (pe_cmpR op_eq (pv 0) (pv 1) (nomark _))))))))), ?_⟩
  have e0 : ED (tVar 0) (start N_alike [u, v]) H x := ed_var rfl hu
  have e1 : ED (tVar 1) (start N_alike [u, v]) H x := ed_var rfl hv
  cases x with
    | list ds =>
      obtain ⟨dl, dk⟩ : ds.length ≤ 40000 ∧ ∀ d ∈ ds, okD n d := ok
      refine sd_if (b := true) (et_DB (ed_isi2 e1 rfl kb_list_tuple kb_list_list rfl)) (fun _ H1 x1 => ?_) (fun z => nomatch z)
      refine sd_if (b := false) (et_or (a := false) (b := false) (et_not (a := true) (et_DB (ed_isi2 (e0.mono x1) rfl kb_list_tuple kb_list_list rfl))) fun _ => et_D (ed_is (ed_neB (ed_isi (e0.mono x1) rfl kb_list_list) (ed_isi (e1.mono x1) rfl kb_list_list)) rfl)) (fun z => nomatch z) fun _ H2 x2 => ?_
      refine st_next ?_
      dsimp only
      refine sd_if (b := false) (et_D (ed_is (ed_neI (ed_lenL ((e0.mono x1).mono x2)) (ed_lenL ((e1.mono x1).mono x2))) (by rw [decide_eq_true rfl]; rfl))) (fun z => nomatch z) fun _ H3 x3 => ?_
      refine st_next ?_
      dsimp only
      refine sd_ret (d := .bool true) ?_ fun v' H4 x4 hv4 => q v' H4 (((x1.trans x2).trans x3).trans x4) hv4
      have e0' := ((e0.mono x1).mono x2).mono x3
      have e1' := ((e1.mono x1).mono x2).mono x3
      have hu' := ((hu.mono x1).mono x2).mono x3
      have hv' := ((hv.mono x1).mono x2).mono x3
      refine ed_is (ed_eqD (d := .list []) (d' := .list []) (EL.ed (el_is (el_lcR (n := ds.length) (fun _ => false) (fun i => .int (i : Int)) (eas1 (ed_lenL e1')) dl (fun _ _ _ => rfl) fun i hi H5 x5 => ?_) (by rw [filt_false]; rfl))) (EL.ed (el_lst' (ds := []) eas_nil (by decide))) (intsL_shaped []) (intsL_shaped [])) (by simp [PyData.eqv, PyData.eqvAll])
      refine ⟨[some u, some v, some (.int (i : Int))], rfl, fun _ _ R h => h, ?_, fun z => nomatch z⟩
      have at1 : atI ds (i : Int) = some ds[i] := atI_nat (List.getElem?_eq_getElem hi)
      exact et_not (a := true) (et_DB (ed_call (eas2 (ed_ixSL (ed_var (i := 0) rfl (hu'.mono x5)) (ed_var (i := 2) rfl (.int _)) at1) (ed_ixSL (ed_var (i := 1) rfl (hv'.mono x5)) (ed_var (i := 2) rfl (.int _)) at1)) ⟨ds[i], rfl, dk _ (List.getElem_mem hi), rfl⟩))
    | tuple ds =>
      obtain ⟨dl, dk⟩ : ds.length ≤ 40000 ∧ ∀ d ∈ ds, okD n d := ok
      refine sd_if (b := true) (et_DB (ed_isi2 e1 rfl kb_tuple_tuple kb_tuple_list rfl)) (fun _ H1 x1 => ?_) (fun z => nomatch z)
      refine sd_if (b := false) (et_or (a := false) (b := false) (et_not (a := true) (et_DB (ed_isi2 (e0.mono x1) rfl kb_tuple_tuple kb_tuple_list rfl))) fun _ => et_D (ed_is (ed_neB (ed_isi (e0.mono x1) rfl kb_tuple_list) (ed_isi (e1.mono x1) rfl kb_tuple_list)) rfl)) (fun z => nomatch z) fun _ H2 x2 => ?_
      refine st_next ?_
      dsimp only
      refine sd_if (b := false) (et_D (ed_is (ed_neI (ed_lenT ((e0.mono x1).mono x2)) (ed_lenT ((e1.mono x1).mono x2))) (by rw [decide_eq_true rfl]; rfl))) (fun z => nomatch z) fun _ H3 x3 => ?_
      refine st_next ?_
      dsimp only
      refine sd_ret (d := .bool true) ?_ fun v' H4 x4 hv4 => q v' H4 (((x1.trans x2).trans x3).trans x4) hv4
      have e0' := ((e0.mono x1).mono x2).mono x3
      have e1' := ((e1.mono x1).mono x2).mono x3
      have hu' := ((hu.mono x1).mono x2).mono x3
      have hv' := ((hv.mono x1).mono x2).mono x3
      refine ed_is (ed_eqD (d := .list []) (d' := .list []) (EL.ed (el_is (el_lcR (n := ds.length) (fun _ => false) (fun i => .int (i : Int)) (eas1 (ed_lenT e1')) dl (fun _ _ _ => rfl) fun i hi H5 x5 => ?_) (by rw [filt_false]; rfl))) (EL.ed (el_lst' (ds := []) eas_nil (by decide))) (intsL_shaped []) (intsL_shaped [])) (by simp [PyData.eqv, PyData.eqvAll])
      refine ⟨[some u, some v, some (.int (i : Int))], rfl, fun _ _ R h => h, ?_, fun z => nomatch z⟩
      have at1 : atI ds (i : Int) = some ds[i] := atI_nat (List.getElem?_eq_getElem hi)
      exact et_not (a := true) (et_DB (ed_call (eas2 (ed_ixST (ed_var (i := 0) rfl (hu'.mono x5)) (ed_var (i := 2) rfl (.int _)) at1) (ed_ixST (ed_var (i := 1) rfl (hv'.mono x5)) (ed_var (i := 2) rfl (.int _)) at1)) ⟨ds[i], rfl, dk _ (List.getElem_mem hi), rfl⟩))
    | none =>
      refine sd_if (b := false) (et_DB (ed_isi2 e1 rfl kb_none_tuple kb_none_list rfl)) (fun z => nomatch z) fun _ H1 x1 => ?_
      refine st_next ?_
      dsimp only
      refine sd_if (b := true) (et_D (ed_isN (e1.mono x1) rfl)) (fun _ H2 x2 => ?_) (fun z => nomatch z)
      exact sd_ret (ed_isN ((e0.mono x1).mono x2) rfl) fun v' H3 x3 hv3 => q v' H3 ((x1.trans x2).trans x3) hv3
    | str c =>
      refine sd_if (b := false) (et_DB (ed_isi2 e1 rfl kb_str_tuple kb_str_list rfl)) (fun z => nomatch z) fun _ H1 x1 => ?_
      refine st_next ?_
      dsimp only
      refine sd_if (b := false) (et_D (ed_isN (e1.mono x1) rfl)) (fun z => nomatch z) fun _ H2 x2 => ?_
      refine st_next ?_
      dsimp only
      refine sd_if (b := true) (et_DB (ed_isi ((e1.mono x1).mono x2) rfl kb_str_str)) (fun _ H3 x3 => ?_) (fun z => nomatch z)
      refine sd_ret (d := .bool true) ?_ fun v' H4 x4 hv4 => q v' H4 (((x1.trans x2).trans x3).trans x4) hv4
      exact ed_is (ed_andV (a := true) (ed_isi (((e0.mono x1).mono x2).mono x3) rfl kb_str_str) fun _ => ed_eqS (((e0.mono x1).mono x2).mono x3) (((e1.mono x1).mono x2).mono x3)) (by rw [decide_eq_true rfl]; rfl)
    | bool c =>
      refine sd_if (b := false) (et_DB (ed_isi2 e1 rfl kb_bool_tuple kb_bool_list rfl)) (fun z => nomatch z) fun _ H1 x1 => ?_
      refine st_next ?_
      dsimp only
      refine sd_if (b := false) (et_D (ed_isN (e1.mono x1) rfl)) (fun z => nomatch z) fun _ H2 x2 => ?_
      refine st_next ?_
      dsimp only
      refine sd_if (b := false) (et_DB (ed_isi ((e1.mono x1).mono x2) rfl kb_bool_str)) (fun z => nomatch z) fun _ H3 x3 => ?_
      refine st_next ?_
      dsimp only
      have e0' := ((e0.mono x1).mono x2).mono x3
      have e1' := ((e1.mono x1).mono x2).mono x3
      refine sd_if (b := true) (et_or (a := true) (b := true) (et_DB (ed_isi e1' rfl kb_bool_bool)) fun z => nomatch z) (fun _ H4 x4 => ?_) (fun z => nomatch z)
      refine sd_ret (d := .bool true) ?_ fun v' H5 x5 hv4 => q v' H5 ((((x1.trans x2).trans x3).trans x4).trans x5) hv4
      exact ed_is (ed_andV (a := true) (ed_isi (e1'.mono x4) rfl kb_bool_bool) fun _ => ed_andV (a := true) (ed_isi (e0'.mono x4) rfl kb_bool_bool) fun _ => ed_eqB (e0'.mono x4) (e1'.mono x4)) (by rw [decide_eq_true rfl]; rfl)
    | int c =>
      refine sd_if (b := false) (et_DB (ed_isi2 e1 rfl kb_int_tuple kb_int_list rfl)) (fun z => nomatch z) fun _ H1 x1 => ?_
      refine st_next ?_
      dsimp only
      refine sd_if (b := false) (et_D (ed_isN (e1.mono x1) rfl)) (fun z => nomatch z) fun _ H2 x2 => ?_
      refine st_next ?_
      dsimp only
      refine sd_if (b := false) (et_DB (ed_isi ((e1.mono x1).mono x2) rfl kb_int_str)) (fun z => nomatch z) fun _ H3 x3 => ?_
      refine st_next ?_
      dsimp only
      have e0' := ((e0.mono x1).mono x2).mono x3
      have e1' := ((e1.mono x1).mono x2).mono x3
      refine sd_if (b := false) (et_or (a := false) (b := false) (et_DB (ed_isi e1' rfl kb_int_bool)) fun _ => et_DB (ed_isi e0' rfl kb_int_bool)) (fun z => nomatch z) fun _ H4 x4 => ?_
      refine st_next ?_
      dsimp only
      refine sd_ret (d := .bool true) ?_ fun v' H5 x5 hv4 => q v' H5 ((((x1.trans x2).trans x3).trans x4).trans x5) hv4
      exact ed_is (ed_andV (a := true) (ed_isi (e0'.mono x4) rfl kb_int_int) fun _ => ed_eqI (e0'.mono x4) (e1'.mono x4)) (by rw [decide_eq_true rfl]; rfl)
    | dict c => exact ok.elim
theorem ok_alike (B : Bt mg) (d : Df K mg "_law_alike" s_law_alike ["_law_found", "_law_due"]) : ∀ n : Nat, Cl P w K mg base "_law_alike" ["_law_found", "_law_due"] (n + 1) (spD (R_alike n))
  | 0 => Cl.never d fun vs H Q E h => by
    obtain ⟨_, _, _, ⟨_, _, ok, _⟩, _⟩ := h
    exact ok
  | n + 1 => alike_step B d (ok_alike B d n)
end
end KS
end
noncomputable section
namespace KS
open PySem PySem.Spec PyProof.Rows L2 Evl
open RZ (tLenSetI pe_lenSetI)
/-! ### families whose elders are of lesser numbers -/
def Els (f : Fam) : Prop := ∀ (j : Nat) (k : Kind), f[j]? = some k → ∀ e ∈ k.el, 0 ≤ e.1 ∧ e.1 < j ∧ (e.2 = 0 ∨ e.2 = 1)
theorem Kinds.els {f : Fam} (h : Kinds f) : Els f := fun j k e => (h j k e).low
theorem els_low {f : Fam} (h : Els f) : Low f := by
  intro k e he
  cases q : f[k.toNat]? with
  | none =>
    unfold kd at he
    rw [List.getD_eq_getElem?_getD, q] at he
    cases he
  | some z =>
    unfold kd at he
    rw [List.getD_eq_getElem?_getD, q] at he
    have := h _ _ q e he
    exact ⟨this.1, by omega⟩
/-- a family as a tuple or as a list -/
def famD (b : Bool) (f : Fam) : PyData := if b then .tuple (f.map encK) else .list (f.map encK)
theorem foldd_take {α : Type} (g : α → List Part) (cs : List α) (a : List Part) (i : Nat) : ((cs.take i).foldl (fun a c => dd a (g c)) a).length ≤ (cs.foldl (fun a c => dd a (g c)) a).length := by
  obtain ⟨r, e⟩ := fold_prefix g (cs.drop i) ((cs.take i).foldl (fun a c => dd a (g c)) a)
  rw [← List.foldl_append, List.take_append_drop] at e
  rw [e, List.length_append]
  omega
theorem dd_take (a l : List Part) (j : Nat) : (dd a (l.take j)).length ≤ (dd a l).length := by
  obtain ⟨r, e⟩ := dd_prefix (l.drop j) (dd a (l.take j))
  rw [← dd_append, List.take_append_drop] at e
  rw [e, List.length_append]
  omega
section
variable {K : PySem.W.Frag} {σ : L2.St} {H H' : Hp} {ta tb tc te : TE} {tt : TT} {d d1 d2 : PyData} {ds es : List PyData}
theorem ed_famK {b : Bool} {f : Fam} {k : Int} (ha : ED ta σ H (famD b f)) (hb : ED tb σ H (.int k)) (k0 : 0 ≤ k) (k1 : k < f.length) : ED (tOp (rIx K) ta tb) σ H (encK (kd f k)) := by
  cases b with
  | true => exact ed_ixST (ds := f.map encK) ha hb (atI_map (atI_kd k0 k1))
  | false => exact ed_ixSL (ds := f.map encK) ha hb (atI_map (atI_kd k0 k1))
end
def R_lmet (n : Nat) : List PyData → List PyData → Prop := fun ds es => ∃ (f : Fam) (b : Bool) (p : Part), ds = [famD b f, encP p] ∧ Els f ∧ p ≠ [] ∧ 0 ≤ lastP p ∧ lastP p < f.length ∧ lastP p < n ∧ p.length + n ≤ 1000 ∧ (lm n f p).length ≤ 10000 ∧ es = (lm n f p).map encP
section
variable {P : Program} {w : World} {K : PySem.W.Frag} {mg : Str → Option Value} {base : Heap}
/-! ### _law_met -/
abbrev N_lmet : List Str := ["_law_f", "_law_part", "_law_found", "_law_elder", "_law_shared", "_law_one"]
theorem sc_lmet : FnScope N_lmet ["_law_f", "_law_part"] (defScope s_law_met) := ⟨rfl, rfl, rfl, by decide +kernel, rfl, by decide +kernel, by decide +kernel⟩
theorem lmet_step {n : Nat} (d : Df K mg "_law_met" s_law_met ["_law_f", "_law_part"]) (G : Cl P w K mg base "_law_met" ["_law_f", "_law_part"] (n + 1) (spL (R_lmet n))) : Cl P w K mg base "_law_met" ["_law_f", "_law_part"] (n + 2) (spL (R_lmet (n + 1))) := by
  refine d.ok sc_lmet (spL_len (by rintro _ _ ⟨_, _, _, rfl, _⟩; rfl)) (fun fa cdv A outer s H vs Q E hr h => ?_)
  obtain ⟨ds, ee, hv, ⟨f, b, p, rfl, EF, pne, p0, p1, pn, pz, mz, rfl⟩, q⟩ := h
  obtain ⟨u, v, rfl, hu, hv⟩ := hv.args2
  refine ⟨_, pss_cons (ps_set (i := 2) sc_lmet.nd rfl (.inl rfl) (pe_lst (pa_cons (pv 1) pa_nil)))
    (pss_cons (ps_for PassesOwn.never rfl (pi_tup (pe_ix ix_tup (pe_ix ix_seq (pv 0) (pe_ix ix_tup (pv 1) (pe_un un_neg pe_int) (fun _ _ => rfl)) (fun _ _ => rfl)) pe_int (fun _ _ => rfl)))
        (pg_tup rfl (pgs_cons (pg_name (i := 3) sc_lmet.nd rfl (.inl rfl)) (pgs_cons (pg_name (i := 4) sc_lmet.nd rfl (.inl rfl)) pgs_nil)))
      (pss_one (ps_for PassesOwn.never rfl (pi_list (pe_cl G hr (pa_cons (pv 0) (pa_cons (pe_ifExp (pt_cmpR op_eq (pv 4) pe_int (nomark _)) (pe_tup (pa_cons (pv 3) pa_nil)) (pe_op op_catA (pv 1) (pe_tup (pa_cons (pv 3) pa_nil)))) pa_nil)))) (pg_name (i := 5) sc_lmet.nd rfl (.inl rfl))
        (pss_one (ps_if (pt_cmpR (op_notInD (hu64 hr)) (pv 5) (pv 2) rfl) (pss_one (ps_expr (pe_bm PySem.F.plainAttrs_list PySem.F.slot_list_append PySem.F.type_list_append mt_append (pv 2) (pa_cons (pv 5) pa_nil)))) pss_nil)))))
    (pss_one (ps_ret (pv 2)))), ?_⟩
  have L := els_low EF
  have le : lm (n + 1) f p = (kids f p).foldl (fun a c => dd a (lm n f c)) [p] := rfl
  refine sl_asg (ds := [encP p]) (el_lst' (eas1 (ed_var (i := 1) rfl hv)) (by show 1 ≤ 100000; decide)) fun l xs H1 nl e1 hl ha => ?_
  have t1 : ED (tOp (rIxT K) (tOp (rIx K) (tVar 0) (tOp (rIxT K) (tVar 1) (tUn (rU fun i => .int (-i)) (tC (.int 1))))) (tC (.int 0))) [some u, some v, some (.ref l), none, none, none] H1 (.tuple ((kd f (lastP p)).el.map encE)) :=
    ed_ixT (ed_famK (ed_var (i := 0) rfl (hu.mono e1)) (ed_last (ed_var (i := 1) rfl (hv.mono e1)) pne) p0 p1) (ed_ci 0) rfl
  refine t1 H1 (Ex.refl _) _ fun x2 H2 e2 hx2 => ?_
  obtain ⟨a, es, rfl, haT, he⟩ := hx2.toTup
  have el : es.length = (kd f (lastP p)).el.length := by rw [he.len, List.length_map]
  have kel : ∀ e ∈ (kd f (lastP p)).el, 0 ≤ e.1 ∧ e.1 < (lastP p).toNat ∧ (e.2 = 0 ∨ e.2 = 1) := by
    refine EF (lastP p).toNat (kd f (lastP p)) ?_
    unfold kd
    rw [List.getD_eq_getElem?_getD, List.getElem?_eq_getElem (by omega)]; rfl
  refine ⟨a, rfl, ⟨es, SqT.of haT⟩, for_tup (K := K) (a := a) (xs := es) (fun i σ H' => (∃ y3 y4 y5, σ = [some u, some v, some (.ref l), y3, y4, y5]) ∧ Ex H H' ∧ Tu H2 H' ∧ ∃ acc, H' l = some (.lst acc) ∧ DA H' acc ((((kids f p).take i).foldl (fun a c => dd a (lm n f c)) [p]).map encP))
    ⟨⟨_, _, _, rfl⟩, e1.trans e2, Tu.refl _, xs, e2 _ _ hl, ha.mono e2⟩ (fun i σ H' _ ⟨_, _, tu, _⟩ => SqT.of (tu _ _ haT)) (fun i x σ H' hi ⟨⟨y3, y4, y5, es'⟩, eH, tu, acc, lx, ax⟩ => ?_) (fun σ H' ⟨⟨y3, y4, y5, es'⟩, eH, tu, acc, lx, ax⟩ => ?_)⟩
  · subst es'
    obtain ⟨du, hd, hxd⟩ := he.get2 hi
    obtain ⟨ee, h1, h2⟩ : ∃ ee, (kd f (lastP p)).el[i]? = some ee ∧ du = encE ee := by
      rw [List.getElem?_map] at hd
      cases k : (kd f (lastP p)).el[i]? with
      | none => rw [k] at hd; cases hd
      | some a => rw [k] at hd; exact ⟨a, rfl, (Option.some.inj hd).symm⟩
    subst h2
    have em := kel ee (List.mem_of_getElem? h1)
    have kc : (kids f p)[i]? = some (ep p ee) := by unfold kids; rw [List.getElem?_map, h1]; rfl
    have cm : ep p ee ∈ kids f p := List.mem_of_getElem? kc
    have step : ((kids f p).take (i + 1)).foldl (fun a c => dd a (lm n f c)) [p] = dd (((kids f p).take i).foldl (fun a c => dd a (lm n f c)) [p]) (lm n f (ep p ee)) := by
      rw [List.take_add_one, kc, List.foldl_append]; rfl
    have hx4 := hxd.keep tu (flat_E ee)
    refine g_pair (d1 := .int ee.1) (d2 := .int ee.2) hx4 fun v1 v2 w1 w2 => ?_
    have z1 := w1.toInt
    have z2 := w2.toInt
    subst z1 z2
    have hu4 := hu.mono eH
    have hv4 := hv.mono eH
    have clen : (lm n f (ep p ee)).length ≤ 10000 := by
      refine Nat.le_trans (nodup_len (lm_nodup n f (ep p ee)) (k := lm (n + 1) f p) fun y hy => mem_lm.mpr (.inr ⟨_, cm, hy⟩)) mz
    have plen : (ep p ee).length ≤ p.length + 1 := by
      unfold ep
      split <;> simp
    have hc : ED (tIf (tTest (tOp rEq (tVar 4) (tC (.int 1)))) (tTup (tCons (tVar 3) tNil)) (tOp (rCatA K) (tVar 1) (tTup (tCons (tVar 3) tNil)))) [some u, some v, some (.ref l), some (.int ee.1), some (.int ee.2), y5] H' (encP (ep p ee)) := by
      refine ed_if (b := decide (ee.2 = 1)) (et_D (ed_eqI (ed_var (i := 4) rfl (.int _)) (ed_ci 1))) (fun hb => ?_) (fun hb => ?_)
      · have e := of_decide_eq_true hb
        have ne : ¬ ee.2 = 0 := by omega
        have e3 : ep p ee = [ee.1] := if_neg ne
        rw [e3]
        exact ed_tup (ds := [.int ee.1]) (eas1 (ed_var (i := 3) rfl (.int _))) (by show 1 ≤ 100000; decide)
      · have ne := of_decide_eq_false hb
        have e : ee.2 = 0 := by
          rcases em.2.2 with h | h
          · exact h
          · exact absurd h ne
        have e3 : encP (ep p ee) = .tuple (p.map PyData.int ++ [.int ee.1]) := by
          have : ep p ee = p ++ [ee.1] := if_pos e
          rw [this]
          unfold encP
          rw [List.map_append]; rfl
        rw [e3]
        exact ed_catT (ds := p.map PyData.int) (es := [.int ee.1]) (ed_var (i := 1) rfl hv4) (ed_tup (eas1 (ed_var (i := 3) rfl (.int _))) (by show 1 ≤ 100000; decide)) (by rw [List.length_map]; show p.length + 1 ≤ 100000; omega)
    refine (el_call' (R := R_lmet n) (E := E0) (eas2 (ed_var (σ := [some u, some v, some (.ref l), some (.int ee.1), some (.int ee.2), y5]) (i := 0) rfl hu4) hc) ⟨f, b, ep p ee, rfl, EF, ep_ne _ _, by rw [lastP_ep]; omega, by rw [lastP_ep]; omega, by rw [lastP_ep]; omega, by omega, clen, rfl⟩) H' (Ex.refl _) _ fun r xs3 H3 nr e3 hr3 ha3 => ?_
    have lx3 := e3 _ _ lx
    have x3l : xs3.length = (lm n f (ep p ee)).length := by rw [ha3.len, List.length_map]
    have mlen : ∀ j, (dd (((kids f p).take i).foldl (fun a c => dd a (lm n f c)) [p]) ((lm n f (ep p ee)).take j)).length ≤ 10000 := fun j => by
      refine Nat.le_trans (dd_take _ _ _) ?_
      rw [← step]
      exact Nat.le_trans (foldd_take (fun c => lm n f c) (kids f p) [p] (i + 1)) (by rw [← le]; exact mz)
    refine ⟨r, rfl, ⟨xs3, SqL.of hr3⟩, for_list (K := K) (a := r) (xs := xs3) (fun j σ H' => (∃ y5, σ = [some u, some v, some (.ref l), some (.int ee.1), some (.int ee.2), y5]) ∧ But l H3 H' ∧ ∃ acc, H' l = some (.lst acc) ∧ DA H' acc ((dd (((kids f p).take i).foldl (fun a c => dd a (lm n f c)) [p]) ((lm n f (ep p ee)).take j)).map encP))
      ⟨⟨_, rfl⟩, But.refl _ _, acc, lx3, ax.mono e3⟩ (fun j σ H5 _ ⟨_, bt, _⟩ => SqL.of (bt _ _ (ne_of_none lx nr).symm hr3)) (fun j x5 σ H5 hj ⟨⟨y6, es6⟩, bt, acc5, l5, a5⟩ => ?_) (fun σ H5 ⟨⟨y6, es6⟩, bt, acc5, l5, a5⟩ => ?_)⟩
    · subst es6
      obtain ⟨dw, hd5, hx5⟩ := ha3.get2 hj
      obtain ⟨qq, g1, g2⟩ : ∃ qq, (lm n f (ep p ee))[j]? = some qq ∧ dw = encP qq := by
        rw [List.getElem?_map] at hd5
        cases k : (lm n f (ep p ee))[j]? with
        | none => rw [k] at hd5; cases hd5
        | some a => rw [k] at hd5; exact ⟨a, rfl, (Option.some.inj hd5).symm⟩
      subst g2
      have hx6 := hx5.keep (bt.tu lx3) (flat_P qq)
      have dl5 : D H5 (.ref l) (.list ((dd (((kids f p).take i).foldl (fun a c => dd a (lm n f c)) [p]) ((lm n f (ep p ee)).take j)).map encP)) := .lst l5 a5
      have st2 : dd (((kids f p).take i).foldl (fun a c => dd a (lm n f c)) [p]) ((lm n f (ep p ee)).take (j + 1)) = ins (dd (((kids f p).take i).foldl (fun a c => dd a (lm n f c)) [p]) ((lm n f (ep p ee)).take j)) qq := by
        rw [List.take_add_one, g1, dd_append]; rfl
      have tst := ed_notInD (K := K) (σ := [some u, some v, some (.ref l), some (.int ee.1), some (.int ee.2), some x5]) (ed_var (i := 5) rfl hx6) (ed_var (i := 2) rfl dl5) (encP_shaped qq) (encPs_shaped _)
      rw [any_encP] at tst
      have ml := mlen j
      refine sd_if (et_D tst) (fun hb H6 e6 => ?_) (fun hb H6 e6 => ?_)
      · have nm : ¬ qq ∈ dd (((kids f p).take i).foldl (fun a c => dd a (lm n f c)) [p]) ((lm n f (ep p ee)).take j) := by simpa using hb
        refine ⟨_, rfl, .inl ⟨rfl, _, SqL.of (e6 _ _ l5)⟩, _, rfl, l, acc5, x5, rfl, rfl, e6 _ _ l5, sz_lt (by rw [a5.len, List.length_map]; omega), ⟨_, rfl⟩, (bt.trans (But.ex e6)).trans But.upd, _, upd_same, ?_⟩
        rw [st2, ins_of_not nm, List.map_append]
        have tk := tu_upd (ys := acc5 ++ [x5]) (e6 _ _ l5)
        exact ((a5.mono e6).keep tk (flat_Ps _)).append (.one ((hx6.mono e6).keep tk (flat_P qq)))
      · have nm : qq ∈ dd (((kids f p).take i).foldl (fun a c => dd a (lm n f c)) [p]) ((lm n f (ep p ee)).take j) := by simpa using hb
        refine ⟨⟨_, rfl⟩, bt.trans (But.ex e6), acc5, e6 _ _ l5, ?_⟩
        rw [st2, ins_of_mem nm]
        exact a5.mono e6
    · subst es6
      rw [x3l, List.take_length, ← step] at a5
      refine ⟨⟨_, _, _, rfl⟩, fun c o hc => bt c o (ne_of_none hc nl) (e3 _ _ (eH _ _ hc)), (tu.trans (tu_ex e3)).trans (bt.tu lx3), acc5, l5, a5⟩
  · subst es'
    rw [el] at ax
    have ek : (kids f p).take (kd f (lastP p)).el.length = kids f p := List.take_of_length_le (by unfold kids; rw [List.length_map]; exact Nat.le_refl _)
    rw [ek, ← le] at ax
    exact ⟨_, rfl, q l acc H' nl eH lx ax⟩
theorem ok_lmet (d : Df K mg "_law_met" s_law_met ["_law_f", "_law_part"]) : ∀ n : Nat, Cl P w K mg base "_law_met" ["_law_f", "_law_part"] (n + 1) (spL (R_lmet n))
  | 0 => Cl.never d fun vs H Q E h => by
    obtain ⟨_, _, _, ⟨_, _, _, _, _, _, h0, _, h1, _⟩, _⟩ := h
    omega
  | n + 1 => lmet_step d (ok_lmet d n)
end
end KS
end
noncomputable section
namespace KS
open PySem PySem.Spec PyProof.Rows L2 Evl
open RZ (tLenSetI pe_lenSetI)
/-- a family while it is told: elders below, deeds of letters, not too many parts of the kind at hand -/
structure Half (f : Fam) : Prop where
  els : Els f
  few : f.length ≤ 15
  abc : ∀ k ∈ f, ∀ c ∈ k.de.cps.toList, c ∈ abc
theorem Half.part {f : Fam} (h : Half f) {k : Int} (k0 : 0 ≤ k) (k1 : k < f.length) (hz : (lm NN f [k]).length ≤ 10000) {p : Part} (hp : p ∈ lm NN f [k]) : PartOk f p := by
  have L := els_low h.els
  have b := mem_bound L k0 hp
  refine ⟨mem_ne NN (by simp) hp, b.1, by omega, ?_, ?_⟩
  · have := lm_plen (n := NN) hp
    have e : ([k] : Part).length = 1 := rfl
    have : NN = 16 := rfl
    show p.length ≤ 900
    omega
  · have sub : ∀ y ∈ lm NN f p, y ∈ lm NN f [k] := fun y hy => lm_trans L NN (by show lastP [k] < (16 : Int); rw [lastP_one]; have := h.few; omega) hp hy
    have := nodup_len (lm_nodup NN f p) sub
    omega
theorem lmet_ok {f : Fam} (h : Half f) {b : Bool} {p : Part} (o : PartOk f p) : R_lmet NN [famD b f, encP p] ((lm NN f p).map encP) :=
  ⟨f, b, p, rfl, h.els, o.1, o.2.1, o.2.2.1, by show lastP p < (16 : Int); have := h.few; have := o.2.2.1; omega, by have := o.2.2.2.1; show p.length + 16 ≤ 1000; omega, o.2.2.2.2, rfl⟩
theorem strs_lay : ∀ l : List Str, (∀ s ∈ l, ∀ c ∈ s.cps.toList, c ∈ abc) → PyData.canLayAll0 (l.map PyData.str) = true
  | [], _ => by simp [PyData.canLayAll0]
  | x :: l, h => by
    have hx : PyData.strOk x = true := by
      unfold PyData.strOk
      rw [← Array.all_toList, List.all_eq_true]
      intro c hc
      have := h x List.mem_cons_self c hc
      have b : c ≤ 102 := by
        have : ∀ c ∈ abc, c ≤ 102 := by decide
        exact this c ‹c ∈ abc›
      simp
      omega
    simp [PyData.canLayAll0, PyData.canLay0, hx, strs_lay l fun s hs => h s (List.mem_cons_of_mem _ hs)]
theorem strs_depth : ∀ l : List Str, PyData.depthAll (l.map PyData.str) = 0
  | [] => by simp [PyData.depthAll]
  | x :: l => by simp [PyData.depthAll, PyData.depth, strs_depth l]
theorem strs_shaped {l : List Str} (h : ∀ s ∈ l, ∀ c ∈ s.cps.toList, c ∈ abc) : SeqAt.shaped (.list (l.map PyData.str)) = true := by
  have e := strs_depth l
  exact shaped_of (by simp only [PyData.canLay0]; exact strs_lay l h) (by simp only [PyData.depth]; omega)
theorem ed_kdeeds {K : PySem.W.Frag} {σ : L2.St} {H : Hp} {tf tk : TE} {b : Bool} {f : Fam} {k : Int} (h1 : ED tf σ H (famD b f)) (h2 : ED tk σ H (.int k)) (k0 : 0 ≤ k) (k1 : k < f.length) : ED (tOp (rIxT K) (tOp (rIx K) tf tk) (tC (.int 1))) σ H (.str (kd f k).de) :=
  ed_ixT (ed_famK h1 h2 k0 k1) (ed_ci 1) rfl
section
variable {P : Program} {w : World} {K : PySem.W.Frag} {mg : Str → Option Value} {base : Heap}
/-! ### _law_doer -/
abbrev N_ldoer : List Str := ["_law_f", "_law_kind_here", "_law_deed", "_law_some", "_law_part", "_law_hidden", "_law_left"]
theorem sc_ldoer : FnScope N_ldoer ["_law_f", "_law_kind_here", "_law_deed"] (defScope s_law_doer) := ⟨rfl, rfl, rfl, by decide +kernel, rfl, by decide +kernel, by decide +kernel⟩
def R_ldoer : List PyData → PyData → Prop := fun ds d => ∃ (f : Fam) (b : Bool) (k : Int) (c : Nat), ds = [famD b f, .int k, .str (Froz.sing c)] ∧ Half f ∧ 0 ≤ k ∧ k < f.length ∧ (lm NN f [k]).length ≤ 100 ∧ d = optP (ldoer NN f (doing f c (lm NN f [k])))
theorem hidden_take (n : Nat) (f : Fam) {l : List Part} {i : Nat} {p : Part} (h : l[i]? = some p) : hidden n f (l.take (i + 1)) = hidden n f (l.take i) ++ (lm n f p).tail := by
  unfold hidden
  rw [List.take_add_one, h, List.flatMap_append]
  show _ ++ (List.flatMap _ [p]) = _
  rw [List.flatMap_singleton]
theorem cut1' (xs : List V) : cutV xs (some 1) none = xs.tail := by
  unfold cutV
  rw [show HT.sIx xs.length 0 (some 1) = min 1 xs.length from HT.sIx_nat xs.length 0 1, HT.sIx_none]
  cases xs with
  | nil => rfl
  | cons x r =>
    rw [show min 1 (x :: r).length = 1 by rw [List.length_cons]; omega]
    show List.take ((x :: r).length - 1) r = r
    rw [List.length_cons, Nat.add_sub_cancel]
    exact List.take_length
theorem ok_ldoer (B : Bt mg) (d : Df K mg "_law_doer" s_law_doer ["_law_f", "_law_kind_here", "_law_deed"]) (cM : Cl P w K mg base "_law_met" ["_law_f", "_law_part"] 17 (spL (R_lmet NN))) : Cl P w K mg base "_law_doer" ["_law_f", "_law_kind_here", "_law_deed"] 18 (spD R_ldoer) := by
  refine d.ok sc_ldoer (spD_len (by rintro _ _ ⟨_, _, _, _, rfl, _⟩; rfl)) (fun fa cdv A outer s H vs Q E hr h => ?_)
  obtain ⟨ds, ee, hv, ⟨f, b, k, c, rfl, HF, k0, k1, sz, rfl⟩, q⟩ := h
  obtain ⟨x, y, z, rfl, hx, hy, hz⟩ := hv.args3
  refine ⟨_, pss_cons (ps_setLc (i := 3) (own := [("_law_part", 4)]) (g := gName 4) rfl sc_ldoer.nd rfl rfl (sw_true rfl rfl rfl (by decide +kernel)) (pi_list (pe_cl cM hr (pa_cons (pv 0) (pa_cons (pe_tup (pa_cons (pv 1) pa_nil)) pa_nil)))) (blkOk_by (N := N_ldoer) (sc := defScope s_law_doer) (by decide +kernel))
      (fun _ _ _ _ _ => pg_name (i := 4) sc_ldoer.nd rfl (.inl rfl)) (fun _ _ _ _ _ => by exact pts_one (pt_cmpR op_inS (pv 2) (by exact pe_ix (r := rIxT K) ix_tup (pe_ix (r := rIx K) ix_seq (pv 0) (pe_ix (r := rIxT K) ix_tup (pv 4) (pe_un un_neg pe_int) (fun _ _ => rfl)) (fun _ _ => rfl)) pe_int (fun _ _ => rfl)) rfl)) (fun _ _ _ _ _ => pv 4))
    (pss_cons (ps_set (i := 5) sc_ldoer.nd rfl (.inr rfl) (pe_lst pa_nil))
    (pss_cons (ps_for PassesOwn.never rfl (pi_list (pv 3)) (pg_name (i := 4) sc_ldoer.nd rfl (.inl rfl))
      (pss_one (ps_expr (pe_bm PySem.F.plainAttrs_list PySem.F.slot_list_extend PySem.F.type_list_extend mt_extend (pv 5) (pa_cons (pe_slice sl_list (pe_cl cM hr (pa_cons (pv 0) (pa_cons (pv 4) pa_nil))) (po_some pe_int) po_none) pa_nil)))))
    (pss_cons (ps_setLc (i := 6) (own := [("_law_part", 4)]) (g := gName 4) rfl sc_ldoer.nd rfl rfl (sw_true rfl rfl rfl (by decide +kernel)) (pi_list (pv 3)) (blkOk_by (N := N_ldoer) (sc := defScope s_law_doer) (by decide +kernel))
      (fun _ _ _ _ _ => pg_name (i := 4) sc_ldoer.nd rfl (.inl rfl)) (fun _ _ _ _ _ => by exact pts_one (pt_cmpR (r := rNotInD K) (op_notInD (hu64 hr)) (pv 4) (pv 5) rfl)) (fun _ _ _ _ _ => pv 4))
    (pss_one (ps_ret (pe_ifExp (pt_cmpR op_eq (pe_callB call_len rfl B.len PySem.boot_len (pa_cons (pv 6) pa_nil)) pe_int (nomark _)) (pe_ix ix_list (pv 6) pe_int (fun _ _ => rfl)) pe_non)))))), ?_⟩
  have L := els_low HF.els
  have sz' : (lm NN f [k]).length ≤ 10000 := by omega
  have pk := HF.part k0 k1 sz' (root_in f k)
  have dz : (doing f c (lm NN f [k])).length ≤ (lm NN f [k]).length := List.length_filter_le _ _
  have dm : ∀ p ∈ doing f c (lm NN f [k]), p ∈ lm NN f [k] := fun p hp => (List.mem_filter.mp hp).1
  refine sl_asg (ds := (doing f c (lm NN f [k])).map encP) ?_ fun p xs H1 np e1 hp ha => ?_
  · refine el_lcL (as := lm NN f [k]) (enc := encP) (does f c) encP (EL.ed (el_call' (eas2 (ed_var (i := 0) rfl hx) (ed_tup (ds := [.int k]) (eas1 (ed_var (i := 1) rfl hy)) (by show 1 ≤ 100000; decide))) (lmet_ok HF pk))) (by omega) (fun a _ _ => flat_P a) (fun a _ => flat_P a) fun a ha v H2 e2 hv => ?_
    have pa := HF.part k0 k1 sz' ha
    refine ⟨[some x, some y, some z, none, some v, none, none], rfl, fun _ _ R h => h, ?_, fun _ => ed_var (i := 4) rfl hv⟩
    exact et_D (ed_inS (ed_var (i := 2) rfl (hz.mono e2)) (ed_kdeeds (ed_var (i := 0) rfl (hx.mono e2)) (ed_last (ed_var (i := 4) rfl hv) pa.1) pa.2.1 pa.2.2.1))
  · have ds1 : D H1 (.ref p) (.list ((doing f c (lm NN f [k])).map encP)) := .lst hp ha
    refine sl_asg (ds := []) (el_lst' eas_nil (by decide)) fun l xl H2 nl e2 hl al => ?_
    have xn : xs.length = (doing f c (lm NN f [k])).length := by rw [ha.len, List.length_map]
    have hp2 := e2 _ _ hp
    have npl : p ≠ l := ne_of_none hp nl
    refine ⟨.ref p, rfl, p, rfl, ⟨xs, SqL.of hp2⟩, for_list (K := K) (a := p) (xs := xs) (fun i σ H' => (∃ y4, σ = [some x, some y, some z, some (.ref p), y4, some (.ref l), none]) ∧ Ex H1 H' ∧ ∃ acc, H' l = some (.lst acc) ∧ DA H' acc ((hidden NN f ((doing f c (lm NN f [k])).take i)).map encP))
      ⟨⟨_, rfl⟩, e2, xl, hl, al⟩ (fun i σ H' _ ⟨_, e, _⟩ => SqL.of (e _ _ hp)) (fun i v σ H' hi ⟨⟨y4, es⟩, e3, acc, lx, ax⟩ => ?_) (fun σ H' ⟨⟨y4, es⟩, e3, acc, lx, ax⟩ => ?_)⟩
    · subst es
      obtain ⟨du, hd, hv⟩ := ha.get2 hi
      obtain ⟨a, h1, h2⟩ : ∃ a, (doing f c (lm NN f [k]))[i]? = some a ∧ du = encP a := by
        rw [List.getElem?_map] at hd
        cases k : (doing f c (lm NN f [k]))[i]? with
        | none => rw [k] at hd; cases hd
        | some a => rw [k] at hd; exact ⟨a, rfl, (Option.some.inj hd).symm⟩
      subst h2
      have am := dm a (List.mem_of_getElem? h1)
      have pa := HF.part k0 k1 sz' am
      have la : (lm NN f a).length ≤ 100 := by
        have sub : ∀ y ∈ lm NN f a, y ∈ lm NN f [k] := fun y hy => lm_trans L NN (by show lastP [k] < (16 : Int); rw [lastP_one]; have := HF.few; omega) am hy
        have := nodup_len (lm_nodup NN f a) sub
        omega
      have hl0 : ∀ j, (hidden NN f ((doing f c (lm NN f [k])).take j)).length ≤ 100 * j := fun j => by
        induction j with
        | zero => simp [hidden]
        | succ j ih =>
          cases g : (doing f c (lm NN f [k]))[j]? with
          | none =>
            have : (doing f c (lm NN f [k])).take (j + 1) = (doing f c (lm NN f [k])).take j := by rw [List.take_add_one, g]; simp
            rw [this]; omega
          | some r =>
            rw [hidden_take NN f g, List.length_append, List.length_tail]
            have rm := dm r (List.mem_of_getElem? g)
            have sub : ∀ y ∈ lm NN f r, y ∈ lm NN f [k] := fun y hy => lm_trans L NN (by show lastP [k] < (16 : Int); rw [lastP_one]; have := HF.few; omega) rm hy
            have := nodup_len (lm_nodup NN f r) sub
            omega
      have il : i < (doing f c (lm NN f [k])).length := (List.getElem?_eq_some_iff.mp h1).1
      refine ⟨.ref l, rfl, .inl ⟨rfl, _, SqL.of lx⟩, ?_⟩
      refine (el_call' (R := R_lmet NN) (E := E0) (eas2 (ed_var (σ := [some x, some y, some z, some (.ref p), some v, some (.ref l), none]) (i := 0) rfl ((hx.mono e1).mono e3)) (ed_var (i := 4) rfl (hv.mono e3))) (lmet_ok HF pa)) H' (Ex.refl _) _ fun r xr H4 nr e4 hr4 ha4 => ?_
      refine ⟨1, rfl, r, xr, rfl, SqL.of hr4, fun p5 np5 => ?_⟩
      rw [cut1']
      have lx4 := e4 _ _ lx
      have n5 : l ≠ p5 := ne_of_none lx4 np5
      have hacc : acc.length ≤ 100 * i := by
        rw [ax.len, List.length_map]
        exact hl0 i
      have xrl : xr.length ≤ 100 := by rw [ha4.len, List.length_map]; exact la
      refine ⟨l, p5, acc, xr.tail, rfl, rfl, by rw [upd_ne n5]; exact lx4, upd_same, sz_of (by rw [List.length_tail]; omega), ?_⟩
      refine ⟨⟨_, rfl⟩, fun a' o' hc => ?_, acc ++ xr.tail, upd_same, ?_⟩
      · have hc4 := e4 _ _ (e3 _ _ hc)
        rw [upd_ne (ne_of_none hc nl), upd_ne (ne_of_none hc4 np5)]
        exact hc4
      · have tu : Tu H4 (upd (upd H4 p5 (.lst xr.tail)) l (.lst (acc ++ xr.tail))) := fun a' zs hz' => by
          rw [upd_ne (ne_of hz' lx4 (by intro z; cases z)), upd_ne (ne_of_none hz' np5)]
          exact hz'
        rw [hidden_take NN f h1, List.map_append]
        refine ((ax.mono e4).keep tu (flat_Ps _)).append ?_
        have e7 : ((lm NN f a).tail).map encP = ((lm NN f a).map encP).drop 1 := by rw [← List.map_drop, List.drop_one]
        rw [e7]
        have fd : flatTs (((lm NN f a).map encP).drop 1) = true := by rw [← List.map_drop]; exact flat_Ps _
        have t := DA.keep tu fd (ha4.drop 1)
        rw [show xr.drop 1 = xr.tail from List.drop_one] at t
        exact t
    · subst es
      rw [xn, List.take_length] at ax
      have dh : D H' (.ref l) (.list ((hidden NN f (doing f c (lm NN f [k]))).map encP)) := .lst lx ax
      have hleft : left NN f (doing f c (lm NN f [k])) = (doing f c (lm NN f [k])).filter fun p => decide (¬ p ∈ hidden NN f (doing f c (lm NN f [k]))) := rfl
      dsimp only
      refine sl_asg (ds := (left NN f (doing f c (lm NN f [k]))).map encP) ?_ fun p6 x6 H6 np6 e6 hp6 ha6 => ?_
      · refine el_lcL (as := doing f c (lm NN f [k])) (enc := encP) (fun p => decide (¬ p ∈ hidden NN f (doing f c (lm NN f [k])))) encP (ed_var (i := 3) rfl (ds1.mono e3)) (by omega) (fun a _ _ => flat_P a) (fun a _ => flat_P a) fun a ha v H7 e7 hv => ?_
        refine ⟨[some x, some y, some z, some (.ref p), some v, some (.ref l), none], rfl, fun _ _ R h => h, ?_, fun _ => ed_var (i := 4) rfl hv⟩
        have tst := ed_notInD (K := K) (σ := [some x, some y, some z, some (.ref p), some v, some (.ref l), none]) (ed_var (i := 4) rfl hv) (ed_var (i := 5) rfl (dh.mono e7)) (encP_shaped a) (encPs_shaped _)
        rw [any_encP] at tst
        exact et_D (ed_is tst (by rw [decide_not]))
      · have d6 : D H6 (.ref p6) (.list ((left NN f (doing f c (lm NN f [k]))).map encP)) := .lst hp6 ha6
        dsimp only
        refine sd_ret (d := optP (ldoer NN f (doing f c (lm NN f [k])))) ?_ fun v H8 e8 hv8 => q v H8 (((e1.trans e3).trans e6).trans e8) hv8
        refine ed_if (b := decide (((left NN f (doing f c (lm NN f [k]))).length : Int) = 1)) (et_D (ed_eqI (ed_is (ed_lenL (ed_var (i := 6) rfl d6)) (by rw [List.length_map])) (ed_ci 1))) (fun hb => ?_) (fun hb => ?_)
        · have e := of_decide_eq_true hb
          have e1' : (left NN f (doing f c (lm NN f [k]))).length = 1 := by omega
          unfold ldoer
          rw [if_pos e1']
          match g : left NN f (doing f c (lm NN f [k])), e1' with
          | [r], _ =>
            rw [g] at d6
            exact ed_ixL (ed_var (i := 6) rfl d6) (ed_ci 0) rfl
        · have e := of_decide_eq_false hb
          unfold ldoer
          rw [if_neg (by omega)]
          exact ed_cn
/-! ### _law_knows -/
abbrev N_lknows : List Str := ["_law_f", "_law_kind_here", "_law_deeds", "_law_part", "_law_letter", "_law_row"]
theorem sc_lknows : FnScope N_lknows ["_law_f", "_law_kind_here"] (defScope s_law_knows) := ⟨rfl, rfl, rfl, by decide +kernel, rfl, by decide +kernel, by decide +kernel⟩
def R_lknows : List PyData → List PyData → Prop := fun ds es => ∃ (f : Fam) (b : Bool) (k : Int), ds = [famD b f, .int k] ∧ Half f ∧ 0 ≤ k ∧ k < f.length ∧ (lm NN f [k]).length ≤ 100 ∧ es = ((known f (lm NN f [k])).map Froz.sing).map PyData.str
theorem Half.kdAbc {f : Fam} (h : Half f) {k : Int} (k0 : 0 ≤ k) (k1 : k < f.length) : ∀ c ∈ (kd f k).de.cps.toList, c ∈ KS.abc := by
  refine h.abc (kd f k) ?_
  unfold kd
  rw [List.getD_eq_getElem?_getD, List.getElem?_eq_getElem (by omega)]
  exact List.getElem_mem _
theorem ok_lknows (B : Bt mg) (d : Df K mg "_law_knows" s_law_knows ["_law_f", "_law_kind_here"]) (cM : Cl P w K mg base "_law_met" ["_law_f", "_law_part"] 17 (spL (R_lmet NN))) : Cl P w K mg base "_law_knows" ["_law_f", "_law_kind_here"] 18 (spL R_lknows) := by
  refine d.ok sc_lknows (spL_len (by rintro _ _ ⟨_, _, _, rfl, _⟩; rfl)) (fun fa cdv A outer s H vs Q E hr h => ?_)
  obtain ⟨ds, ee, hv, ⟨f, b, k, rfl, HF, k0, k1, sz, rfl⟩, q⟩ := h
  obtain ⟨x, y, rfl, hx, hy⟩ := hv.args2
  refine ⟨_, pss_cons (ps_set (i := 2) sc_lknows.nd rfl (.inr rfl) (pe_lc (own := [("_law_part", 3)]) (g := gName 3) (tt := tYes) rfl sc_lknows.nd (pi_list (pe_cl cM hr (pa_cons (pv 0) (pa_cons (pe_tup (pa_cons (pv 1) pa_nil)) pa_nil)))) (blkOk_by (N := N_lknows) (sc := defScope s_law_knows) (by decide +kernel))
      (fun _ _ _ _ _ => pg_name (i := 3) sc_lknows.nd rfl (.inl rfl)) (fun _ _ _ _ _ => pts_nil) (fun _ _ _ _ _ => by exact pe_ix (r := rIxT K) ix_tup (pe_ix (r := rIx K) ix_seq (pv 0) (pe_ix (r := rIxT K) ix_tup (pv 3) (pe_un un_neg pe_int) (fun _ _ => rfl)) (fun _ _ => rfl)) pe_int (fun _ _ => rfl))))
    (pss_one (ps_ret (pe_lc (own := [("_law_letter", 4)]) (g := gName 4) rfl sc_lknows.nd (pi_str pe_str) (blkOk_by (N := N_lknows) (sc := defScope s_law_knows) (by decide +kernel))
      (fun _ _ _ _ _ => pg_name (i := 4) sc_lknows.nd rfl (.inr rfl)) (fun _ _ _ _ _ => by exact pts_one (pt_cmpR (r := rNeD K) (op_neD (Nat.lt_of_succ_lt (hu64 hr))) (by exact pe_lc (wi := iList K (tVar 2)) (own := [("_law_row", 5)]) (g := gName 5) rfl sc_lknows.nd (pi_list (pv 2)) (blkOk_by (N := N_lknows) (sc := csc [(".0", .local), ("_law_letter", .cell), ("_law_deeds", .cell)]) (by decide +kernel)) (fun _ _ _ _ _ => pg_name (i := 5) sc_lknows.nd rfl (.inl rfl)) (fun _ _ _ _ _ => by exact pts_one (pt_cmpR op_inS (pv 4) (pv 5) rfl)) (fun _ _ _ _ _ => pv 5)) (pe_lst pa_nil) (nomark _))) (fun _ _ _ _ _ => pv 4)))), ?_⟩
  have sz' : (lm NN f [k]).length ≤ 10000 := by omega
  have pk := HF.part k0 k1 sz' (root_in f k)
  refine sl_asg (ds := ((lm NN f [k]).map fun p => (kd f (lastP p)).de).map PyData.str) ?_ fun p xs H1 np e1 hp ha => ?_
  · refine el_is (el_lcL (as := lm NN f [k]) (enc := encP) (fun _ => true) (fun p => .str (kd f (lastP p)).de) (EL.ed (el_call' (eas2 (ed_var (i := 0) rfl hx) (ed_tup (ds := [.int k]) (eas1 (ed_var (i := 1) rfl hy)) (by show 1 ≤ 100000; decide))) (lmet_ok HF pk))) (by omega) (fun _ _ _ => rfl) (fun a _ => flat_P a) fun a ha v H2 e2 hv => ?_) (by rw [filt_true, List.map_map]; rfl)
    have pa := HF.part k0 k1 sz' ha
    exact ⟨[some x, some y, none, some v, none, none], rfl, fun _ _ R h => h, et_yes, fun _ => ed_kdeeds (ed_var (i := 0) rfl (hx.mono e2)) (ed_last (ed_var (i := 3) rfl hv) pa.1) pa.2.1 pa.2.2.1⟩
  · have hd : D H1 (.ref p) (.list (((lm NN f [k]).map fun p => (kd f (lastP p)).de).map PyData.str)) := .lst hp ha
    refine sl_ret (ds := ((known f (lm NN f [k])).map Froz.sing).map PyData.str) (el_is (el_lcS (l := abc) (fun c => (lm NN f [k]).any (does f c)) (fun c => .str (Froz.sing c)) (ed_cs _) (by decide) (fun _ _ _ => rfl) fun c hc H2 e2 => ?_) (by unfold known; rw [List.map_map]; rfl)) fun p2 xs2 H2 np2 e2 hp2 ha2 => q p2 xs2 H2 (fresh_back e1 np2) (e1.trans e2) hp2 ha2
    refine ⟨[some x, some y, some (.ref p), none, some (.str ⟨#[c]⟩), none], rfl, fun _ _ R h => h, ?_, fun _ => ed_var (i := 4) rfl (.str _)⟩
    have okS : ∀ s ∈ ((lm NN f [k]).map fun p => (kd f (lastP p)).de), ∀ c ∈ s.cps.toList, c ∈ abc := fun s hs => by
      obtain ⟨p, hp, e⟩ := List.mem_map.mp hs
      subst e
      have pa := HF.part k0 k1 sz' hp
      exact HF.kdAbc pa.2.1 pa.2.2.1
    refine et_D (ed_is (ed_neD (d := .list ((((lm NN f [k]).map fun p => (kd f (lastP p)).de).filter fun s => decide (c ∈ s.cps.toList)).map PyData.str)) (d' := .list []) (EL.ed (el_lcL (as := (lm NN f [k]).map fun p => (kd f (lastP p)).de) (enc := PyData.str) (fun s => decide (c ∈ s.cps.toList)) PyData.str (ed_var (i := 2) rfl (hd.mono e2)) (by rw [List.length_map]; omega) (fun _ _ _ => rfl) (fun _ _ => rfl) fun a ha v H3 e3 hv => ?_)) (EL.ed (el_lst' (ds := []) eas_nil (by decide))) (strs_shaped fun s hs => okS s (List.mem_filter.mp hs).1) (intsL_shaped [])) ?_)
    · exact ⟨[some x, some y, some (.ref p), none, some (.str ⟨#[c]⟩), some v], rfl, fun _ _ R h => h, et_D (ed_inS (ed_var (i := 4) rfl (.str _)) (ed_var (i := 5) rfl hv)), fun _ => ed_var (i := 5) rfl hv⟩
    · congr 1
      have e5 : (lm NN f [k]).any (does f c) = !((((lm NN f [k]).map fun p => (kd f (lastP p)).de).filter fun s => decide (c ∈ s.cps.toList)).isEmpty) := by
        generalize lm NN f [k] = l
        induction l with
        | nil => rfl
        | cons a l ih =>
          rw [List.any_cons, List.map_cons, List.filter_cons, ih]
          unfold does
          by_cases h : c ∈ (kd f (lastP a)).de.cps.toList
          · simp [h]
          · simp [h]
      rw [e5]
      cases (((lm NN f [k]).map fun p => (kd f (lastP p)).de).filter fun s => decide (c ∈ s.cps.toList)) with
      | nil => simp [PyData.eqv, PyData.eqvAll]
      | cons a l => simp [PyData.eqv, PyData.eqvAll]
end
end KS
end
noncomputable section
namespace KS
open PySem PySem.Spec PyProof.Rows L2 Evl
/-! ### between the steps of a kind that is told -/
structure FC (a b l : Addr) (H0 H : Hp) (g : Fam) : Prop where
  hs : HS a b H
  off : Off a b H0 H
  lst : ∃ xs, H l = some (.lst xs) ∧ DA H xs (g.map encK)
section
variable {a b l c : Addr} {H0 H H' : Hp} {g g' : Fam}
theorem flat_Ks (g : Fam) : flatTs (g.map encK) = true := flat_map flat_K g
theorem flat_Es (g : List (Int × Int)) : flatTs (g.map encE) = true := flat_map flat_E g
theorem FC.ex (f : FC a b l H0 H g) (e : Ex H H') : FC a b l H0 H' g := by
  obtain ⟨h1, h2, xs, h3, h4⟩ := f
  exact ⟨h1.ex e, h2.trans (Off.ex e), xs, e _ _ h3, h4.mono e⟩
theorem FC.step (f : FC a b l H0 H g) (la : l ≠ a) (lb : l ≠ b) (o : Off a b H H') (h : HS a b H') : FC a b l H0 H' g := by
  obtain ⟨h1, h2, xs, h3, h4⟩ := f
  exact ⟨h, h2.trans o, xs, o _ _ la lb h3, h4.keep (h1.tu o) (flat_Ks g)⟩
theorem HS.put {o : HO} (h : HS a b H) (ca : c ≠ a) (cb : c ≠ b) : HS a b (upd H c o) := by
  obtain ⟨ne, m, k, ns, h1, h2, r⟩ := h
  exact ⟨ne, m, k, ns, by rw [upd_ne ca.symm]; exact h1, by rw [upd_ne cb.symm]; exact h2, r⟩
theorem HS.ha (h : HS a b H) : ∃ o, H a = some o := by
  obtain ⟨ne, m, k, ns, h1, h2, r⟩ := h
  exact ⟨_, h1⟩
theorem HS.hb (h : HS a b H) : ∃ o, H b = some o := by
  obtain ⟨ne, m, k, ns, h1, h2, r⟩ := h
  exact ⟨_, h2⟩
theorem HS.ne (h : HS a b H) (n : H c = none) : c ≠ a ∧ c ≠ b := by
  obtain ⟨o1, h1⟩ := h.ha
  obtain ⟨o2, h2⟩ := h.hb
  exact ⟨(ne_of_none h1 n).symm, (ne_of_none h2 n).symm⟩
theorem Off.put {o : HO} (f : Off a b H0 H) (n : H0 c = none) : Off a b H0 (upd H c o) := fun x u xa xb hx => by
  rw [upd_ne (ne_of_none hx n)]
  exact f x u xa xb hx
/-- another list of the call's own is changed -/
theorem FC.put {zs ws : List V} (f : FC a b l H0 H g) (n : H0 c = none) (cl : c ≠ l) (ca : c ≠ a) (cb : c ≠ b) (hc : H c = some (.lst zs)) : FC a b l H0 (upd H c (.lst ws)) g := by
  obtain ⟨h1, h2, xs, h3, h4⟩ := f
  exact ⟨h1.put ca cb, h2.put n, xs, by rw [upd_ne cl.symm]; exact h3, h4.keep (tu_upd hc) (flat_Ks g)⟩
/-- the family's own list is changed -/
theorem FC.own {ws : List V} (f : FC a b l H0 H g) (n : H0 l = none) (la : l ≠ a) (lb : l ≠ b) (h : DA (upd H l (.lst ws)) ws (g'.map encK)) : FC a b l H0 (upd H l (.lst ws)) g' :=
  ⟨f.hs.put la lb, f.off.put n, ws, upd_same, h⟩
theorem DA.set {H : Hp} {v : V} {d : PyData} (h : D H v d) : ∀ {xs : List V} {ds : List PyData} (i : Nat), DA H xs ds → DA H (xs.set i v) (ds.set i d)
  | _, _, _, .nil => .nil
  | _, _, 0, .cons _ t => .cons h t
  | _, _, i + 1, .cons q t => .cons q (DA.set h i t)
theorem set_last (g : Fam) (k k' : Kind) : ((g ++ [k]).map encK).set g.length (encK k') = (g ++ [k']).map encK := by
  rw [List.map_append, List.set_append, if_neg (by rw [List.length_map]; omega), List.length_map, Nat.sub_self, List.map_append]
  rfl
end
structure ElOk (n : Nat) (es : List (Int × Int)) : Prop where
  few : es.length ≤ 3
  low : ∀ e ∈ es, 0 ≤ e.1 ∧ e.1 < n ∧ (e.2 = 0 ∨ e.2 = 1)
  once : (es.map (·.1)).Nodup
theorem ElOk.take {n : Nat} {es : List (Int × Int)} (h : ElOk n es) (k : Nat) : ElOk n (es.take k) :=
  ⟨by rw [List.length_take]; have := h.few; omega, fun e he => h.low e (List.mem_of_mem_take he), by rw [List.map_take]; exact (List.take_sublist _ _).nodup h.once⟩
/-! ### sizes -/
def crude : Nat → Nat
  | 0 => 1
  | n + 1 => 1 + 3 * crude n
theorem dd_len (a : List Part) : ∀ l : List Part, (dd a l).length ≤ a.length + l.length
  | [] => by simp [dd]
  | x :: l => by
    show (dd (ins a x) l).length ≤ _
    have h := dd_len (ins a x) l
    have h2 : (ins a x).length ≤ a.length + 1 := by
      unfold ins
      split
      · omega
      · simp
    rw [List.length_cons]
    omega
theorem fold_len {α : Type} (g : α → List Part) (m : Nat) : ∀ (cs : List α) (a : List Part), (∀ c ∈ cs, (g c).length ≤ m) → (cs.foldl (fun a c => dd a (g c)) a).length ≤ a.length + cs.length * m
  | [], a, _ => by simp
  | c :: cs, a, h => by
    show (cs.foldl _ (dd a (g c))).length ≤ _
    have h1 := fold_len g m cs (dd a (g c)) fun d hd => h d (List.mem_cons_of_mem _ hd)
    have h2 := dd_len a (g c)
    have h3 := h c List.mem_cons_self
    rw [List.length_cons, Nat.succ_mul]
    omega
theorem lm_crude {f : Fam} (h : ∀ k : Int, (kd f k).el.length ≤ 3) : ∀ (n : Nat) (p : Part), (lm n f p).length ≤ crude n
  | 0, p => Nat.le_refl _
  | n + 1, p => by
    have := fold_len (fun c => lm n f c) (crude n) (kids f p) [p] fun c _ => lm_crude h n c
    show ((kids f p).foldl _ [p]).length ≤ 1 + 3 * crude n
    have kl : (kids f p).length ≤ 3 := by unfold kids; rw [List.length_map]; exact h _
    have e : ([p] : List Part).length = 1 := rfl
    have := Nat.mul_le_mul_right (crude n) kl
    omega
theorem lm_small {f : Fam} (L : Low f) (h : ∀ k : Int, (kd f k).el.length ≤ 3) {k : Int} (k0 : 0 ≤ k) (k7 : k < 7) : (lm NN f [k]).length ≤ 10000 := by
  rw [lm_fuel L NN 7 [k] (by show k < (16 : Int); omega) (by show k < (7 : Int); omega)]
  exact Nat.le_trans (lm_crude h 7 [k]) (by decide)
theorem kd_few {f : Fam} (h : ∀ k ∈ f, k.el.length ≤ 3) (k : Int) : (kd f k).el.length ≤ 3 := by
  unfold kd
  rw [List.getD_eq_getElem?_getD]
  cases q : f[k.toNat]? with
  | none => exact Nat.zero_le _
  | some z => exact h z (List.mem_of_getElem? q)
theorem half_new {g : Fam} {es : List (Int × Int)} {m : List Nat} {ce : Int} (G : FamOk g) (g7 : g.length ≤ 14) (o : ElOk g.length es) (ma : ∀ c ∈ m, c ∈ abc) : Half (g ++ [⟨es, txt m, ce⟩]) := by
  refine ⟨fun j k hj e he => ?_, by simp; omega, fun k hk c hc => ?_⟩
  · rcases Nat.lt_trichotomy j g.length with q | q | q
    · rw [List.getElem?_append_left q] at hj
      exact (G.2.1 j k hj).low e he
    · subst q
      simp at hj
      subst hj
      exact o.low e he
    · have : (g ++ [(⟨es, txt m, ce⟩ : Kind)])[j]? = none := List.getElem?_eq_none (by simp; omega)
      rw [this] at hj; cases hj
  · rcases List.mem_append.mp hk with hk | hk
    · obtain ⟨j, hj⟩ := List.getElem?_of_mem hk
      exact rise_abc (G.2.1 j k hj).rise hc
    · rw [List.mem_singleton] at hk
      subst hk
      exact ma c hc
theorem few_new {g : Fam} {es : List (Int × Int)} {m : List Nat} {ce : Int} (G : FamOk g) (o : ElOk g.length es) : ∀ k ∈ g ++ [(⟨es, txt m, ce⟩ : Kind)], k.el.length ≤ 3 := fun k hk => by
  rcases List.mem_append.mp hk with hk | hk
  · obtain ⟨j, hj⟩ := List.getElem?_of_mem hk
    exact (G.2.1 j k hj).few
  · rw [List.mem_singleton] at hk
    subst hk
    exact o.few
theorem rise_filter (p : Nat → Bool) : rise (abc.filter p) := by
  unfold rise
  refine List.filter_congr fun c hc => ?_
  by_cases h : p c = true
  · rw [h, decide_eq_true (List.mem_filter.mpr ⟨hc, h⟩)]
  · have h2 : p c = false := by simpa using h
    rw [h2, decide_eq_false (fun z => h (List.mem_filter.mp z).2)]
theorem cut_abc {r : Int} (r0 : 0 ≤ r) : cutS (txt abc) none (some r) = txt (abc.take r.toNat) := by
  refine TL.ext_tl ?_
  show ((txt abc).cps.toList.drop 0).take (HT.sIx (txt abc).length (txt abc).length (some r) - 0) = abc.take r.toNat
  have e : HT.sIx (txt abc).length (txt abc).length (some r) = min r.toNat 6 := by
    have := HT.sIx_nat (txt abc).length (txt abc).length r.toNat
    rw [show ((r.toNat : Nat) : Int) = r by omega] at this
    exact this
  rw [e, Nat.sub_zero, List.drop_zero]
  show abc.take (min r.toNat 6) = abc.take r.toNat
  rcases Nat.le_total r.toNat 6 with h | h
  · rw [Nat.min_eq_left h]
  · rw [Nat.min_eq_right h, show abc.take 6 = abc from rfl, List.take_of_length_le (by exact h)]
section
variable {P : Program} {w : World} {K : PySem.W.Frag} {σ : L2.St} {H H' : Hp} {ta tb tc te : TE}
theorem ed_addS {i j : List Nat} (ha : ED ta σ H (.str (txt i))) (hb : ED tb σ H (.str (txt j))) (hz : i.length + j.length ≤ 1000) : ED (tOp (fun x y H Q => ∃ i j, x = .str i ∧ y = .str j ∧ i.length + j.length ≤ sizeLine ∧ Q (.str (i ++ j)) H) ta tb) σ H (.str (txt (i ++ j))) := ed_bin' ha hb fun x y H1 _ hx hy Q q => by
  refine ⟨txt i, txt j, hx.toStr, hy.toStr, ?_, ?_⟩
  · have e1 : (txt i).length = i.length := by show i.toArray.size = _; simp
    have e2 : (txt j).length = j.length := by show j.toArray.size = _; simp
    rw [e1, e2]
    exact sz_of (by omega)
  · have e : txt i ++ txt j = txt (i ++ j) := TL.ext_tl (TL.tl_append _ _)
    rw [e]
    exact q _ H1 (Ex.refl _) (.str _)
theorem ed_sortset {s : List Nat} (h : ED te σ H (.str (txt s))) (nd : s.Nodup) (sub : ∀ c ∈ s, c ∈ abc) (few : s.length < 64) : ED (tM1 (fun x xs H Q => ∃ a p, ∃ ys : List Str, x = .str a ∧ xs = [.ref p] ∧ (SqL K H p (ys.map V.str) ∨ SqT K H p (ys.map V.str)) ∧
      (ys.map (·.length)).sum + ys.length * a.length ≤ 16777216 ∧ Q (.str (Txt.join a ys)) H) (tC (.str Str.empty)) (tCB (rSortTx P w) (tCons (tCB (rSetTx P w) (tCons te tNil)) tNil))) σ H (.str (txt (abc.filter fun c => decide (c ∈ s)))) := fun H1 e Q q => ⟨⟨_, rfl⟩,
  h H1 e _ fun x H2 e2 hx => by
    have ex := hx.toStr
    subst ex
    refine ⟨txt s, rfl, ?_, nd, few, fun p1 n1 => ⟨p1, _, rfl, upd_same, ?_, fun ys p2 hs hp n2 => ?_⟩⟩
    · rw [← Array.all_toList, List.all_eq_true]
      intro c hc
      have : ∀ c ∈ abc, c < 128 := by decide
      exact decide_eq_true (this c (sub c hc))
    · refine (List.reverse_perm _).nodup_iff.mpr (List.pairwise_map.mpr (nd.imp fun h e => h (sing_inj e)))
    · obtain ⟨m, rfl, hr, hm⟩ := sorted_set_text nd sub hs hp
      have em : m = abc.filter fun c => decide (c ∈ s) := by
        rw [hr]
        exact List.filter_congr fun c _ => decide_eq_decide.mpr (hm c)
      refine ⟨_, p2, m.map Froz.sing, rfl, rfl, .inl (SqL.of upd_same), ?_, ?_⟩
      · have e4 : (Str.empty).length = 0 := rfl
        rw [e4, Nat.mul_zero, Nat.add_zero, sing_lens, em]
        exact Nat.le_trans (List.length_filter_le _ _) (by decide)
      · rw [join_sing, em]
        exact q _ _ ((e2.trans (Ex.new n1)).trans (Ex.new n2)) (.str _)⟩
/-- t[:k] -/
theorem ed_slTake {ds : List PyData} {k : Int} (h : ED te σ H (.tuple ds)) (hk : ED tb σ H (.int k)) (k0 : 0 ≤ k) : ED (tSl (rSlA K) te tNoPart (tPart tb)) σ H (.tuple (ds.take k.toNat)) := fun H1 e Q q =>
  h H1 e _ fun x H2 e2 hx => hk H2 (e.trans e2) _ fun y H3 e3 hy => by
    obtain ⟨a, xs, rfl, h1, h2⟩ := hx.toTup
    have ek := hy.toInt
    subst ek
    refine ⟨k, rfl, a, xs, rfl, SqT.of (e3 _ _ h1), fun hw => ?_, fun hw p hp => ?_⟩
    · have e1 : HT.sIx xs.length xs.length (some k) = min k.toNat xs.length := by
        have := HT.sIx_nat xs.length xs.length k.toNat
        rwa [show ((k.toNat : Nat) : Int) = k by omega] at this
      rw [e1] at hw
      rw [List.take_of_length_le (by rw [← h2.len]; omega)] at q
      exact q _ _ (e2.trans e3) ((D.tup h1 h2).mono e3)
    · have e1 : cutV xs none (some k) = xs.take k.toNat := by
        unfold cutV
        rw [HT.sIx_none]
        have := HT.sIx_nat xs.length xs.length k.toNat
        rw [show ((k.toNat : Nat) : Int) = k by omega] at this
        rw [this, List.drop_zero, Nat.sub_zero]
        rcases Nat.le_total k.toNat xs.length with g | g
        · rw [Nat.min_eq_left g]
        · rw [Nat.min_eq_right g, List.take_of_length_le (Nat.le_refl _), List.take_of_length_le g]
      rw [e1]
      exact q _ _ ((e2.trans e3).trans (Ex.new hp)) (.tup upd_same (((h2.mono e3).take _).mono (Ex.new hp)))
/-- t[1:] -/
theorem ed_slDrop {ds : List PyData} (h : ED te σ H (.tuple ds)) : ED (tSl (rSlA K) te (tPart (tC (.int 1))) tNoPart) σ H (.tuple (ds.drop 1)) := fun H1 e Q q =>
  h H1 e _ fun x H2 e2 hx => by
    obtain ⟨a, xs, rfl, h1, h2⟩ := hx.toTup
    refine ⟨1, rfl, a, xs, rfl, SqT.of h1, fun hw => ?_, fun hw p hp => ?_⟩
    · have e1 : HT.sIx xs.length 0 (some 1) = min 1 xs.length := HT.sIx_nat xs.length 0 1
      rw [e1] at hw
      have : xs = [] := by
        cases xs with
        | nil => rfl
        | cons y r => rw [List.length_cons] at hw; omega
      subst this
      cases h2
      exact q _ _ e2 (.tup h1 .nil)
    · rw [cut1']
      have t := h2.drop 1
      rw [show xs.drop 1 = xs.tail from List.drop_one] at t
      exact q _ _ (e2.trans (Ex.new hp)) (.tup upd_same (t.mono (Ex.new hp)))
end
end KS
end
noncomputable section
namespace KS
open PySem PySem.Spec PyProof.Rows L2 Evl
open RZ (tLenSetI pe_lenSetI)
section
variable {P : Program} {w : World} {K : PySem.W.Frag} {mg : Str → Option Value} {base : Heap}
theorem sd_st {σ : L2.St} {H : Hp} {te : TE} {d : PyData} {g : TG} {Dn : Ends} (h : ED te σ H d) (k : ∀ v H1, Ex H H1 → D H1 v d → g v σ H1 fun σ' H' => Dn.nx σ' H') : tAsg te g Dn σ H := h H (Ex.refl H) _ fun v H1 e hv => k v H1 e hv
theorem isND_optP (o : Option Part) : isND (optP o) = o.isNone := by cases o <;> rfl
abbrev N_family : List Str := ["_law_h", "_law_most", "_law_f", "_law_often", "_law_number_here", "_law_left", "_law_elders", "_law_k", "_law_deeds", "_law_letter", "_law_keep", "_law_torn_here"]
theorem sc_family : FnScope N_family ["_law_h", "_law_most"] (defScope s_law_family) := ⟨rfl, rfl, rfl, by decide +kernel, rfl, by decide +kernel, by decide +kernel⟩
/-- a family is drawn -/
def spFamily : Sp := fun vs H Q _ => ∃ (a b : Addr) (m : Int), vs = [.ref a, .int m] ∧ HS a b H ∧ 1 ≤ m ∧ m ≤ 7 ∧ ∀ f v H', Off a b H H' → HS a b H' → FamOk f → 1 ≤ f.length → (f.length : Int) ≤ m → D H' v (encF f) → Q v H'
theorem ok_family (B : Bt mg) (d : Df K mg "_law_family" s_law_family ["_law_h", "_law_most"]) (cN : Cl P w K mg base "_law_next" ["_law_h", "_law_many"] 1 spNext) (cM : Cl P w K mg base "_law_met" ["_law_f", "_law_part"] 17 (spL (R_lmet NN)))
    (cD : Cl P w K mg base "_law_doer" ["_law_f", "_law_kind_here", "_law_deed"] 18 (spD R_ldoer)) (cK : Cl P w K mg base "_law_knows" ["_law_f", "_law_kind_here"] 18 (spL R_lknows)) : Cl P w K mg base "_law_family" ["_law_h", "_law_most"] 19 spFamily := by
  refine d.ok sc_family (fun vs H Q E h => by obtain ⟨_, _, _, rfl, _⟩ := h; rfl) (fun fa cdv A outer s H vs Q E hr h => ?_)
  obtain ⟨a, b, most, rfl, hs, m1, m7, q⟩ := h
  have h1 : Room 1 _ := hr.mono (by decide)
  have h17 : Room 17 _ := hr.mono (by decide)
  refine ⟨_, pss_cons (ps_set (i := 2) sc_family.nd rfl (.inr rfl) (pe_lst pa_nil))
    (pss_cons (ps_set (i := 3) sc_family.nd rfl (.inl rfl) (pe_op op_add pe_int (pe_cl cN h1 (pa_cons (pv 0) (pa_cons pe_int pa_nil)))))
    (pss_cons (ps_for PassesOwn.never rfl (pi_range1 rfl B.range (pa_cons (pe_op op_add pe_int (pe_cl cN h1 (pa_cons (pv 0) (pa_cons (pv 1) pa_nil)))) pa_nil)) (pg_name (i := 4) sc_family.nd rfl (.inr rfl))
      (pss_cons (ps_set (i := 5) sc_family.nd rfl (.inl rfl) (pe_listRg rfl rfl B.list (prg_1 rfl B.range (pv 4))))
      (pss_cons (ps_set (i := 6) sc_family.nd rfl (.inl rfl) (pe_lst pa_nil))
      (pss_cut (ps_for PassesOwn.never rfl (pi_range1 rfl B.range (pa_cons (pe_op op_add (pe_cl cN h1 (pa_cons (pv 0) (pa_cons (pe_op op_add pe_int (pe_callB (call_min2 rfl) rfl B.min boot_min (pa_cons pe_int (pa_cons (pv 4) pa_nil)))) pa_nil))) (pe_op op_mul (pe_callTy call_int1 rfl B.int (by decide +kernel) (pa_cons (pe_cmpR op_gt (pv 4) pe_int (nomark _)) pa_nil)) (pe_cl cN h1 (pa_cons (pv 0) (pa_cons pe_int pa_nil))))) pa_nil)) (pg_name (i := 7) sc_family.nd rfl (.inl rfl))
        (pss_one (ps_if (PW.pt (pw_and (pt_cmpR (op_neD (Nat.lt_of_succ_lt (hu64 hr))) (pv 5) (pe_lst pa_nil) (nomark _)) (pw_and1 (pt_cmpR op_lt (pv 7) pe_int (nomark _)))))
          (pss_one (ps_expr (pe_bm PySem.F.plainAttrs_list PySem.F.slot_list_append PySem.F.type_list_append mt_append (pv 6) (pa_cons (pe_tup
            (pa_cons (pe_bm PySem.F.plainAttrs_list PySem.F.slot_list_pop PySem.F.type_list_pop mt_popAt (pv 5) (pa_cons (pe_cl cN h1 (pa_cons (pv 0) (pa_cons (pe_callB call_len_seq rfl B.len PySem.boot_len (pa_cons (pv 5) pa_nil)) pa_nil))) pa_nil))
            (pa_cons (pe_op op_fdivN (pe_cl cN h1 (pa_cons (pv 0) (pa_cons (pv 3) pa_nil))) (pe_op op_sub (pv 3) pe_int)) pa_nil))) pa_nil)))) pss_nil)))
      (pss_cut (ps_set (i := 8) sc_family.nd rfl (.inl rfl) (pe_join pe_str (pe_lc (own := [("_law_letter", 9)]) (g := gName 9) rfl sc_family.nd (pi_str (pe_slice sl_str pe_str po_none (po_some (pe_op op_add pe_int (pe_cl cN h1 (pa_cons (pv 0) (pa_cons pe_int pa_nil))))))) (blkOk_by (N := N_family) (sc := defScope s_law_family) (by decide +kernel))
        (fun _ _ _ _ _ => pg_name (i := 9) sc_family.nd rfl (.inl rfl)) (fun _ _ _ _ _ => by exact pts_one (pt_cmpR op_eq (by exact pe_cl cN h1 (by exact pa_cons (pv 0) (pa_cons pe_int pa_nil))) pe_int (nomark _))) (fun _ _ _ _ _ => pv 9))))
      (pss_cut (ps_expr (pe_bm PySem.F.plainAttrs_list PySem.F.slot_list_append PySem.F.type_list_append mt_append (pv 2) (pa_cons (pe_tup (pa_cons (pe_callTy call_tuple_of rfl B.tuple boot_tuple (pa_cons (pv 6) pa_nil)) (pa_cons (pv 8) (pa_cons (pe_ix ix_list (pe_lst (pa_cons pe_int (pa_cons (pe_cl cN h1 (pa_cons (pv 0) (pa_cons pe_int pa_nil))) pa_nil))) (pe_cl cN h1 (pa_cons (pv 0) (pa_cons pe_int pa_nil))) (fun _ _ => rfl)) pa_nil)))) pa_nil)))
      (pss_cut (ps_for PassesOwn.never rfl (pi_list (pe_lst (pa_cons pe_int (pa_cons pe_int pa_nil)))) (pg_name (i := 10) sc_family.nd rfl (.inl rfl))
        (pss_one (ps_if (pt_cmpR op_gt (pe_callB call_len rfl B.len PySem.boot_len (pa_cons (pe_cl cM h17 (pa_cons (pv 2) (pa_cons (pe_tup (pa_cons (pv 4) pa_nil)) pa_nil))) pa_nil)) pe_int (nomark _))
          (pss_one (ps_asg (pe_op op_catA (pe_tup (pa_cons (pe_slice sl_tupA (pe_ix ix_tup (pe_ix ix_list (pv 2) (pe_un un_neg pe_int) (fun _ _ => rfl)) pe_int (fun _ _ => rfl)) po_none (po_some (pv 10))) pa_nil)) (pe_slice sl_tupA (pe_ix ix_list (pv 2) (pe_un un_neg pe_int) (fun _ _ => rfl)) (po_some pe_int) po_none)) (pg_sub (pv 2) (pe_un un_neg pe_int) set_list (fun _ => rfl)))) pss_nil)))
      (pss_cons (ps_setLc (i := 11) (own := [("_law_letter", 9)]) (g := gName 9) rfl sc_family.nd rfl rfl (sw_true rfl rfl rfl (by decide +kernel)) (pi_list (pe_cl cK hr (pa_cons (pv 2) (pa_cons (pv 4) pa_nil)))) (blkOk_by (N := N_family) (sc := defScope s_law_family) (by decide +kernel))
        (fun _ _ _ _ _ => pg_name (i := 9) sc_family.nd rfl (.inl rfl)) (fun _ _ _ _ _ => by exact pts_one (pt_cmpR op_isN1 (by exact pe_cl cD hr (by exact pa_cons (pv 2) (pa_cons (pv 4) (pa_cons (pv 9) pa_nil)))) pe_non (nomark _))) (fun _ _ _ _ _ => pv 9))
      (pss_one (ps_asg (pe_tup (pa_cons (pe_ix ix_tup (pe_ix ix_list (pv 2) (pe_un un_neg pe_int) (fun _ _ => rfl)) pe_int (fun _ _ => rfl)) (pa_cons (pe_join pe_str (pe_callB (cr_sortTx rfl) rfl B.sorted boot_sorted (pa_cons (pe_callTy (cr_setTx rfl) rfl B.set boot_set (pa_cons (pe_op op_add_str (pv 8) (pe_join pe_str (pv 11))) pa_nil)) pa_nil))) (pa_cons (pe_ix ix_tup (pe_ix ix_list (pv 2) (pe_un un_neg pe_int) (fun _ _ => rfl)) pe_int (fun _ _ => rfl)) pa_nil)))) (pg_sub (pv 2) (pe_un un_neg pe_int) set_list (fun _ => rfl))))))))))))
    (pss_one (ps_ret (pe_callTy call_tuple_of rfl B.tuple boot_tuple (pa_cons (pv 2) pa_nil)))))), ?_⟩
  have la : ∀ {c : Addr}, H c = none → c ≠ a ∧ c ≠ b := fun n => hs.ne n
  refine ⟨Nat.zero_le _, fun l nl => ?_⟩
  have l_a := (la nl).1
  have l_b := (la nl).2
  refine ⟨.ref a, rfl, a, b, 3, rfl, hs.ex (Ex.new nl), by decide, by decide, fun r2 H2 off2 hs2 r20 r21 => ⟨2, r2, rfl, rfl, ?_⟩⟩
  refine ⟨.ref a, rfl, .int most, rfl, a, b, most, rfl, hs2, by omega, by omega, fun r3 H3 off3 hs3 r30 r31 => ⟨1, r3, rfl, rfl, 1 + r3, rfl, by omega, by omega, ?_⟩⟩
  generalize ho : 2 + r2 = often
  have o2 : 2 ≤ often := by omega
  have o4 : often ≤ 4 := by omega
  have fc0 : FC a b l H H3 [] := ⟨hs3, ((Off.ex (Ex.new nl)).trans off2).trans off3, [], off3 _ _ l_a l_b (off2 _ _ l_a l_b upd_same), .nil⟩
  refine for_range (lo := 0) (n := (1 + r3).toNat) (fun i σ H' => (∃ y4 y5 y6 y7 y8 y9 y10 y11, σ = [some (.ref a), some (.int most), some (.ref l), some (.int often), y4, y5, y6, y7, y8, y9, y10, y11]) ∧ ∃ g : Fam, g.length = i ∧ FamOk g ∧ FC a b l H H' g)
    ⟨⟨none, none, none, none, none, none, none, none, by rw [← ho]; rfl⟩, [], rfl, ⟨by decide, fun j k e => by simp at e, fun j e => by simp at e⟩, fc0⟩ (fun i σ H' hi ⟨⟨y4, y5, y6, y7, y8, y9, y10, y11, es⟩, g, gl, G, fc⟩ => ?_) (fun σ H' ⟨⟨y4, y5, y6, y7, y8, y9, y10, y11, es⟩, g, gl, G, fc⟩ => ?_)
  · subst es
    have i7 : i < 7 := by omega
    have e0 : (0 : Int) + (i : Int) = (i : Int) := Int.zero_add _
    rw [e0]
    -- left, elders
    refine ⟨.int (i : Int), rfl, (i : Int), rfl, RgOk.of_le (Int.le_refl _) (by omega) (by decide) (by omega), fun l1 n1 => ?_⟩
    refine ⟨Nat.zero_le _, fun l2 n2 => ?_⟩
    have n1' : ∀ {c : Addr}, H' c = none → H c = none := fun {c} n => by
      cases hc : H c with
      | none => rfl
      | some o =>
        by_cases ca : c = a
        · obtain ⟨u, hu⟩ := fc.hs.ha
          rw [ca, hu] at n; cases n
        · by_cases cb : c = b
          · obtain ⟨u, hu⟩ := fc.hs.hb
            rw [cb, hu] at n; cases n
          · rw [fc.off c o ca cb hc] at n; cases n
    have n2b : H' l2 = none := fresh_back (Ex.new n1) n2
    have l12 : l2 ≠ l1 := (ne_of_none (upd_same (H := H') (a := l1) (o := .lst (rgV 0 i))) n2).symm
    obtain ⟨xs0, hl0, ha0⟩ := fc.lst
    have l1l : l1 ≠ l := (ne_of_none hl0 n1).symm
    have l2l : l2 ≠ l := (ne_of_none hl0 n2b).symm
    have l1ab := fc.hs.ne n1
    have l2ab := fc.hs.ne n2b
    have N1 := n1' n1
    have N2 := n1' n2b
    have fc1 := fc.ex ((Ex.new (o := .lst (rgV 0 i)) n1).trans (Ex.new (o := .lst []) n2))
    generalize hH1 : upd (upd H' l1 (.lst (rgV 0 i))) l2 (.lst []) = HA at fc1
    have hA1 : HA l1 = some (.lst (((List.range i).map fun j => ((j : Nat) : Int)).map V.int)) := by
      rw [← hH1, upd_ne l12.symm, upd_same]
      unfold rgV
      rw [List.map_map]
      have e1 : ((i : Int) - 0).toNat = i := by omega
      rw [e1]
      congr 2
      refine List.map_congr_left fun j _ => ?_
      show V.int (0 + (j : Int)) = V.int (j : Int)
      rw [Int.zero_add]
    have hA2 : HA l2 = some (.lst []) := by rw [← hH1]; exact upd_same
    refine ⟨fun σ H' => (∃ y5 y7 y8 y9 y10 y11, σ = [some (.ref a), some (.int most), some (.ref l), some (.int often), some (.int (i : Int)), y5, some (.ref l2), y7, y8, y9, y10, y11]) ∧ FC a b l H H' g ∧ ∃ xs es, H' l2 = some (.lst xs) ∧ DA H' xs (es.map encE) ∧ ElOk i es, ?_, ?_⟩
    · -- the elders
      show tFor _ _ _ _ _ HA
      refine ⟨.ref a, rfl, .int (i : Int), rfl, 3, (i : Int), rfl, 1, _, rfl, rfl, ?_⟩
      generalize hmn : (1 + (if (i : Int) < 3 then (i : Int) else 3)) = mn
      have mn0 : 1 ≤ mn ∧ mn ≤ 4 := by
        subst hmn
        split <;> omega
      refine ⟨a, b, mn, by rw [← hmn]; rfl, fc1.hs, by omega, by omega, fun r5 H5 off5 hs5 r50 r51 => ?_⟩
      refine ⟨.int (i : Int), rfl, (i : Int), 1, rfl, rfl, .inr ⟨decide (1 < (i : Int)), rfl, ?_⟩⟩
      generalize htt : (if decide (1 < (i : Int)) = true then (1 : Int) else 0) = tf
      have tf0 : tf = 0 ∨ tf = 1 := by
        subst htt
        split
        · exact .inr rfl
        · exact .inl rfl
      refine ⟨.ref a, rfl, a, b, 2, rfl, hs5, by decide, by decide, fun r6 H6 off6 hs6 r60 r61 => ⟨tf, r6, rfl, rfl, .inl ⟨by omega, by omega⟩, r5, tf * r6, rfl, rfl, ?_⟩⟩
      have cnt : 0 ≤ r5 + tf * r6 ∧ r5 + tf * r6 ≤ 10 := by
        rcases tf0 with h | h
        · subst h; omega
        · subst h; omega
      generalize hct : r5 + tf * r6 = count at cnt
      have fc6 := (fc1.step l_a l_b off5 hs5).step l_a l_b off6 hs6
      refine ⟨count, by rw [← hct], by omega, by omega, for_range (lo := 0) (n := count.toNat) (fun j σ H' => (∃ y7 y8 y9 y10 y11, σ = [some (.ref a), some (.int most), some (.ref l), some (.int often), some (.int (i : Int)), some (.ref l1), some (.ref l2), y7, y8, y9, y10, y11]) ∧ FC a b l H H' g ∧
          ∃ (ls : List Int) (xs : List V) (es : List (Int × Int)), H' l1 = some (.lst (ls.map V.int)) ∧ H' l2 = some (.lst xs) ∧ DA H' xs (es.map encE) ∧ es.length ≤ 3 ∧ es.length ≤ j ∧ (∀ e ∈ es, 0 ≤ e.1 ∧ e.1 < (i : Int) ∧ (e.2 = 0 ∨ e.2 = 1)) ∧ (ls ++ es.map (·.1)).Nodup ∧ (∀ v ∈ ls, 0 ≤ v ∧ v < (i : Int)) ∧ ls.length ≤ i) ?_ ?_ ?_⟩
      · refine ⟨⟨_, _, _, _, _, rfl⟩, fc6, (List.range i).map fun j => ((j : Nat) : Int), [], [], off6 _ _ l1ab.1 l1ab.2 (off5 _ _ l1ab.1 l1ab.2 hA1), off6 _ _ l2ab.1 l2ab.2 (off5 _ _ l2ab.1 l2ab.2 hA2), .nil, by decide, Nat.le_refl _, (fun e he => nomatch he), ?_, ?_, by rw [List.length_map, List.length_range]; exact Nat.le_refl _⟩
        · rw [List.map_nil, List.append_nil]
          exact List.pairwise_map.mpr (List.nodup_range.imp fun h e => h (by omega))
        · intro v hv
          obtain ⟨j, hj, e⟩ := List.mem_map.mp hv
          have := List.mem_range.mp hj
          omega
      · rintro j σ H7 hj ⟨⟨y7, y8, y9, y10, y11, es7⟩, fc7, ls, xs, es, h1, h2, ax, e3, ej, elow, nd, lv, ll⟩
        subst es7
        rw [Int.zero_add]
        have dl1 : D H7 (.ref l1) (.list (ls.map PyData.int)) := .lst h1 (DA.ofInts ls)
        refine sd_if (b := !decide (ls = []) && decide ((j : Int) < 3)) (et_and (a := !decide (ls = [])) (et_D (ed_is (ed_neD (ed_var (i := 5) rfl dl1) (EL.ed (el_lst' (ds := []) eas_nil (by decide))) (intsL_shaped ls) (intsL_shaped [])) ?_)) fun _ => et_D (ed_I0 (ed_var (i := 7) rfl (.int _)) (ed_ci 3) fun H => .bl _)) (fun hb H8 e8 => ?_) (fun hb H8 e8 => ?_)
        · cases ls with
          | nil => simp [PyData.eqv, PyData.eqvAll]
          | cons x r => simp [PyData.eqv, PyData.eqvAll]
        · have hb' := Bool.and_eq_true_iff.mp hb
          have lne : ¬ ls = [] := by simpa using hb'.1
          have j3 : (j : Int) < 3 := of_decide_eq_true hb'.2
          have len1 : 1 ≤ ls.length := by
            cases ls with
            | nil => exact absurd rfl lne
            | cons x r => simp
          have fc8 := fc7.ex e8
          have h18 := e8 _ _ h1
          have h28 := e8 _ _ h2
          refine ⟨.ref l2, rfl, .inl ⟨rfl, _, SqL.of h28⟩, .ref l1, rfl, .inl ⟨rfl, _, SqL.of h18⟩, .ref a, rfl, .ref l1, rfl, l1, _, rfl, .inl (SqL.of h18), ?_⟩
          rw [List.length_map]
          refine ⟨a, b, _, rfl, fc8.hs, by omega, by omega, fun r9 H9 off9 hs9 r90 r91 => ?_⟩
          have h19 := off9 _ _ l1ab.1 l1ab.2 h18
          have h29 := off9 _ _ l2ab.1 l2ab.2 h28
          have rl : r9.toNat < ls.length := by omega
          have gv : ls[r9.toNat]? = some ls[r9.toNat] := List.getElem?_eq_getElem rl
          generalize ls[r9.toNat] = v at gv
          refine ⟨l1, _, r9, r9.toNat, .int v, rfl, rfl, h19, by omega, by omega, seqIndex_of r90 (by rw [List.length_map]; exact r91), by rw [List.getElem?_map, gv]; rfl, ?_⟩
          rw [erase_mapI]
          have fc9 := fc8.step l_a l_b off9 hs9
          have fc10 := fc9.put (ws := (ls.eraseIdx r9.toNat).map V.int) N1 l1l l1ab.1 l1ab.2 h19
          refine ⟨.ref a, rfl, .int often, rfl, a, b, often, rfl, fc10.hs, by omega, by omega, fun r11 H11 off11 hs11 r110 r111 => ?_⟩
          refine ⟨.int often, rfl, often, 1, rfl, rfl, r11, often - 1, rfl, rfl, ⟨by omega, by omega⟩, by show 2 ≤ sizeLine; decide, fun T nT => ?_⟩
          have sh01 : r11.fdiv (often - 1) = 0 ∨ r11.fdiv (often - 1) = 1 := by
            rw [Int.fdiv_eq_ediv_of_nonneg _ (by omega)]
            rcases (show often = 2 ∨ often = 3 ∨ often = 4 by omega) with h | h | h <;> subst h <;> omega
          have fc11 := fc10.step l_a l_b off11 hs11
          have h1b : H11 l1 = some (.lst ((ls.eraseIdx r9.toNat).map V.int)) := off11 _ _ l1ab.1 l1ab.2 upd_same
          have h2b : H11 l2 = some (.lst xs) := off11 _ _ l2ab.1 l2ab.2 (by rw [upd_ne l12]; exact h29)
          have fc12 := fc11.ex (Ex.new (o := .tup [.int v, .int (r11.fdiv (often - 1))]) nT)
          have h2c : (upd H11 T (.tup [.int v, .int (r11.fdiv (often - 1))])) l2 = some (.lst xs) := by rw [upd_ne (ne_of_none h2b nT)]; exact h2b
          have h1c : (upd H11 T (.tup [.int v, .int (r11.fdiv (often - 1))])) l1 = some (.lst ((ls.eraseIdx r9.toNat).map V.int)) := by rw [upd_ne (ne_of_none h1b nT)]; exact h1b
          have ax11 : DA (upd H11 T (.tup [.int v, .int (r11.fdiv (often - 1))])) xs (es.map encE) := by
            have t1 := (ax.mono e8).keep (fc8.hs.tu off9) (flat_Es es)
            have t2 := t1.keep (tu_upd (ys := (ls.eraseIdx r9.toNat).map V.int) h19) (flat_Es es)
            have t3 := t2.keep (fc10.hs.tu off11) (flat_Es es)
            exact t3.mono (Ex.new nT)
          refine ⟨l2, xs, .ref T, rfl, rfl, h2c, sz_lt (by rw [ax.len, List.length_map]; omega), ?_⟩
          have pm := erase_perm ls r9.toNat v gv
          have vm : v ∈ ls := List.mem_of_getElem? gv
          refine ⟨⟨_, _, _, _, _, rfl⟩, fc12.put N2 l2l l2ab.1 l2ab.2 h2c, ls.eraseIdx r9.toNat, xs ++ [.ref T], es ++ [(v, r11.fdiv (often - 1))], by rw [upd_ne l12.symm]; exact h1c, upd_same, ?_, ?_, ?_, ?_, ?_, ?_, ?_⟩
          · have tk := tu_upd (ys := xs ++ [.ref T]) h2c
            rw [List.map_append]
            refine (ax11.keep tk (flat_Es es)).append (.one ?_)
            exact D.keep tk (flat_E (v, r11.fdiv (often - 1))) (.tup upd_same (.cons (.int v) (.cons (.int (r11.fdiv (often - 1))) .nil)))
          · rw [List.length_append]; show es.length + 1 ≤ 3; omega
          · rw [List.length_append]; show es.length + 1 ≤ j + 1; omega
          · intro e he
            rcases List.mem_append.mp he with he | he
            · exact elow e he
            · rw [List.mem_singleton] at he
              subst he
              exact ⟨(lv v vm).1, (lv v vm).2, sh01⟩
          · have p2 : (ls.eraseIdx r9.toNat ++ (es ++ [(v, r11.fdiv (often - 1))]).map (·.1)).Perm (ls ++ es.map (·.1)) := by
              rw [List.map_append]
              show (ls.eraseIdx r9.toNat ++ (es.map (·.1) ++ [v])).Perm _
              rw [← List.append_assoc]
              refine List.Perm.trans (List.perm_append_comm (l₁ := ls.eraseIdx r9.toNat ++ es.map (·.1)) (l₂ := [v])) ?_
              show (v :: ls.eraseIdx r9.toNat ++ es.map (·.1)).Perm _
              exact List.Perm.append_right _ pm
            exact p2.nodup_iff.mpr nd
          · intro u hu
            exact lv u (List.mem_of_mem_eraseIdx hu)
          · have := List.length_eraseIdx_le ls r9.toNat
            omega
        · exact ⟨⟨_, _, _, _, _, rfl⟩, fc7.ex e8, ls, xs, es, e8 _ _ h1, e8 _ _ h2, ax.mono e8, e3, by omega, elow, nd, lv, ll⟩
      · rintro σ H7 ⟨⟨y7, y8, y9, y10, y11, es7⟩, fc7, ls, xs, es, h1, h2, ax, e3, ej, elow, nd, lv, ll⟩
        exact ⟨⟨_, _, _, _, _, _, es7⟩, fc7, xs, es, h2, ax, e3, elow, (List.nodup_append.mp nd).2.1⟩
    · rintro σ H7 ⟨⟨y5, y7, y8, y9, y10, y11, es7⟩, fc7, xs, es, h2, ax, eo⟩
      subst es7
      have EO : ElOk g.length es := by rw [gl]; exact eo
      -- deeds
      refine ⟨fun σ H' => (∃ y5 y7 y9 y10 y11 m, σ = [some (.ref a), some (.int most), some (.ref l), some (.int often), some (.int (i : Int)), y5, some (.ref l2), y7, some (.str (txt m)), y9, y10, y11] ∧ m.Nodup ∧ (∀ c ∈ m, c ∈ abc) ∧ m.length ≤ 6 ∧ FC a b l H H' g ∧ ∃ xs, H' l2 = some (.lst xs) ∧ DA H' xs (es.map encE)), ?_, ?_⟩
      · refine ⟨⟨_, rfl⟩, ?_⟩
        refine ⟨.ref a, rfl, a, b, 6, rfl, fc7.hs, by decide, by decide, fun r8 H8 off8 hs8 r80 r81 => ⟨1, r8, rfl, rfl, 1 + r8, rfl, txt abc, rfl, by decide, txt (abc.take (1 + r8).toNat), congrArg V.str (cut_abc (by omega)), fun Dl nD => ?_⟩⟩
        have fc8 := fc7.step l_a l_b off8 hs8
        have h28 := off8 _ _ l2ab.1 l2ab.2 h2
        have ax8 := ax.keep (fc7.hs.tu off8) (flat_Es es)
        have dab := hs8.ne nD
        obtain ⟨xl8, hl8, _⟩ := fc8.lst
        have dl : Dl ≠ l := (ne_of_none hl8 nD).symm
        have dl2 : Dl ≠ l2 := (ne_of_none h28 nD).symm
        have ND : H Dl = none := by
          cases hc : H Dl with
          | none => rfl
          | some o =>
            rw [fc8.off Dl o dab.1 dab.2 hc] at nD
            cases nD
        generalize hL : abc.take (1 + r8).toNat = Lt
        have Lab : Lt.Sublist abc := by rw [← hL]; exact List.take_sublist _ _
        have zl : (txt Lt).cps.size = Lt.length := by simp [txt]
        refine lc_it (walk_str (z := txt Lt)) (fun j H' => ∃ m : List Nat, m.Sublist (Lt.take j) ∧ H' Dl = some (.lst ((m.map Froz.sing).map V.str)) ∧ FC a b l H H' g ∧ H' l2 = some (.lst xs) ∧ DA H' xs (es.map encE))
          ⟨[], List.nil_sublist _, upd_same, fc8.ex (Ex.new nD), by rw [upd_ne dl2.symm]; exact h28, ax8.mono (Ex.new nD)⟩ (fun _ _ _ _ => trivial) (fun j x H9 H10 hj p hy => ?_) (fun H9 p => ?_)
        · obtain ⟨m, ms, hD, fc9, h29, ax9⟩ := p
          obtain ⟨rfl, c, hc, rfl⟩ := hy
          have hc' : Lt[j]? = some c := by rw [← hc]; simp [txt]
          refine ⟨rfl, .ref a, rfl, a, b, 3, rfl, fc9.hs, by decide, by decide, fun r11 H11 off11 hs11 r110 r111 => ⟨rfl, _, rfl, ?_⟩⟩
          have fc11 := fc9.step l_a l_b off11 hs11
          have hD11 := off11 _ _ dab.1 dab.2 hD
          have h211 := off11 _ _ l2ab.1 l2ab.2 h29
          have ax11 := ax9.keep (fc9.hs.tu off11) (flat_Es es)
          have tk : Lt.take (j + 1) = Lt.take j ++ [c] := by rw [List.take_add_one, hc']; rfl
          refine ite2 (fun _ => ?_) (fun _ => ?_)
          · have ml : m.length ≤ 6 := Nat.le_trans (ms.trans ((List.take_sublist _ _).trans Lab)).length_le (by decide)
            refine ⟨.str ⟨#[c]⟩, rfl, _, hD11, sz_lt (by rw [List.length_map, List.length_map]; omega), m ++ [c], by rw [tk]; exact ms.append (List.Sublist.refl _), ?_, fc11.put ND dl dab.1 dab.2 hD11, by rw [upd_ne dl2.symm]; exact h211, ax11.keep (tu_upd hD11) (flat_Es es)⟩
            rw [upd_same, List.map_append, List.map_append]
            rfl
          · exact ⟨m, by rw [tk]; exact ms.trans (List.sublist_append_left _ _), hD11, fc11, h211, ax11⟩
        · obtain ⟨m, ms, hD, fc9, h29, ax9⟩ := p
          have mA : m.Sublist abc := ms.trans ((List.take_sublist _ _).trans Lab)
          have ml : m.length ≤ 6 := Nat.le_trans mA.length_le (by decide)
          refine ⟨_, Dl, m.map Froz.sing, rfl, rfl, .inl (SqL.of hD), ?_, ?_⟩
          · have e4 : (Str.ofString "").length = 0 := rfl
            rw [e4, Nat.mul_zero, Nat.add_zero, sing_lens]
            omega
          · have ej : Txt.join (Str.ofString "") (m.map Froz.sing) = txt m := join_sing m
            rw [ej]
            exact ⟨_, _, _, _, _, m, rfl, mA.nodup (by decide), fun c hc => mA.subset hc, ml, fc9, xs, h29, ax9⟩
      · rintro σ H8 ⟨y5', y7', y9', y10', y11', m, es8, mnd, mab, ml, fc8, xs8, h28, ax8⟩
        subst es8
        -- the new kind
        refine ⟨fun σ H' => (∃ y5 y6 y7 y9 y10 y11 ce, σ = [some (.ref a), some (.int most), some (.ref l), some (.int often), some (.int (i : Int)), y5, y6, y7, some (.str (txt m)), y9, y10, y11] ∧ 0 ≤ ce ∧ ce ≤ 3 ∧ FC a b l H H' (g ++ [⟨es, txt m, ce⟩])), ?_, ?_⟩
        · obtain ⟨xl8, hl8, al8⟩ := fc8.lst
          refine ⟨.ref l, rfl, .inl ⟨rfl, _, SqL.of hl8⟩, .ref l2, rfl, l2, xs8, rfl, .inl ⟨SqL.of h28, fun T1 nT1 => ⟨.str (txt m), rfl, .ref a, rfl, a, b, 4, rfl, fc8.hs.ex (Ex.new nT1), by decide, by decide, fun r9 H9 off9 hs9 r90 r91 => ⟨by show 2 ≤ sizeLine; decide, fun l3 n3 => ⟨.ref a, rfl, a, b, 2, rfl, hs9.ex (Ex.new n3), by decide, by decide, fun r10 H10 off10 hs10 r100 r101 => ?_⟩⟩⟩⟩⟩
          have l3ab := hs9.ne n3
          have h3 : H10 l3 = some (.lst [.int 0, .int r9]) := off10 _ _ l3ab.1 l3ab.2 upd_same
          obtain ⟨ce, hce, c0, c3⟩ : ∃ ce, atI [V.int 0, V.int r9] r10 = some (.int ce) ∧ 0 ≤ ce ∧ ce ≤ 3 := by
            rcases (show r10 = 0 ∨ r10 = 1 by omega) with h | h
            · subst h; exact ⟨0, atI_nat (j := 0) rfl, by decide, by decide⟩
            · subst h; exact ⟨r9, atI_nat (j := 1) rfl, r90, by omega⟩
          have t1ab := fc8.hs.ne nT1
          have fcT := fc8.ex (Ex.new (o := .tup xs8) nT1)
          have fc9 := fcT.step l_a l_b off9 hs9
          have fc9' := fc9.ex (Ex.new (o := .lst [.int 0, .int r9]) n3)
          have fc10 := fc9'.step l_a l_b off10 hs10
          obtain ⟨xl10, hl10, al10⟩ := fc10.lst
          have T1k : H10 T1 = some (.tup xs8) := (fc9'.hs.tu off10) _ _ ((tu_ex (Ex.new n3)) _ _ ((fcT.hs.tu off9) _ _ upd_same))
          have axk : DA H10 xs8 (es.map encE) := (((ax8.mono (Ex.new nT1)).keep (fcT.hs.tu off9) (flat_Es es)).mono (Ex.new n3)).keep (fc9'.hs.tu off10) (flat_Es es)
          refine ⟨l3, _, r10, .int ce, rfl, rfl, SqL.of h3, hce, by show 3 ≤ sizeLine; decide, fun T nT => ⟨l, xl10, .ref T, rfl, rfl, by rw [upd_ne (ne_of_none hl10 nT)]; exact hl10, sz_lt (by rw [al10.len, List.length_map]; omega), ?_⟩⟩
          have hlT : (upd H10 T (.tup [.ref T1, .str (txt m), .int ce])) l = some (.lst xl10) := by rw [upd_ne (ne_of_none hl10 nT)]; exact hl10
          have tk := tu_upd (ys := xl10 ++ [.ref T]) hlT
          refine ⟨_, _, _, _, _, _, ce, rfl, c0, c3, (fc10.ex (Ex.new nT)).own nl l_a l_b ?_⟩
          rw [List.map_append]
          refine DA.append (DA.keep tk (flat_Ks g) (al10.mono (Ex.new nT))) (.one (D.keep tk (flat_K ⟨es, txt m, ce⟩) (.tup upd_same (.cons (.tup ?_ (axk.mono (Ex.new nT))) (.cons (.str _) (.cons (.int ce) .nil))))))
          exact Ex.new nT _ _ T1k
        · rintro σ H9 ⟨y5b, y6b, y7b, y9b, y10b, y11b, ce, es9, c0, c3, fc9⟩
          subst es9
          have G14 : g.length ≤ 14 := by omega
          -- not too many parts
          refine ⟨fun σ H' => (∃ y5 y6 y7 y9 y10 y11 es', σ = [some (.ref a), some (.int most), some (.ref l), some (.int often), some (.int (i : Int)), y5, y6, y7, some (.str (txt m)), y9, y10, y11] ∧ ElOk g.length es' ∧ FC a b l H H' (g ++ [⟨es', txt m, ce⟩]) ∧ (lm NN (g ++ [⟨es', txt m, ce⟩]) [(i : Int)]).length ≤ 16), ?_, ?_⟩
          · refine ⟨by show 2 ≤ sizeLine; decide, fun l4 n4 => ⟨l4, rfl, ⟨_, SqL.of upd_same⟩, ?_⟩⟩
            obtain ⟨xl9, hl9, al9⟩ := fc9.lst
            have l4l : l4 ≠ l := (ne_of_none hl9 n4).symm
            refine for_list (K := K) (a := l4) (xs := [.int 1, .int 0]) (fun j σ H' => (∃ y5 y6 y7 y9 y10 y11 es', σ = [some (.ref a), some (.int most), some (.ref l), some (.int often), some (.int (i : Int)), y5, y6, y7, some (.str (txt m)), y9, y10, y11] ∧ ElOk g.length es' ∧ FC a b l H H' (g ++ [⟨es', txt m, ce⟩]) ∧ H' l4 = some (.lst [.int 1, .int 0]) ∧ (j = 2 → (lm NN (g ++ [⟨es', txt m, ce⟩]) [(i : Int)]).length ≤ 16)))
              ⟨_, _, _, _, _, _, es, rfl, EO, fc9.ex (Ex.new n4), upd_same, fun z => nomatch z⟩ (fun j σ H' _ ⟨_, _, _, _, _, _, _, _, _, _, h, _⟩ => SqL.of h) (fun j x σ H10 hj p => ?_) (fun σ H10 p => ?_)
            · obtain ⟨y5c, y6c, y7c, y9c, y10c, y11c, es', es10, EO', fc10, h4, _⟩ := p
              subst es10
              obtain ⟨kp, hx, hkp⟩ : ∃ kp : Int, x = .int kp ∧ ((j = 0 ∧ kp = 1) ∨ (j = 1 ∧ kp = 0)) := by
                match j, hj with
                | 0, hj => exact ⟨1, (Option.some.inj hj).symm, .inl ⟨rfl, rfl⟩⟩
                | 1, hj => exact ⟨0, (Option.some.inj hj).symm, .inr ⟨rfl, rfl⟩⟩
              subst hx
              have HF := half_new (ce := ce) G G14 EO' mab
              have L' := els_low HF.els
              have fl : (g ++ [(⟨es', txt m, ce⟩ : Kind)]).length = i + 1 := by rw [List.length_append, gl]; rfl
              have small := lm_small L' (kd_few (few_new (m := m) (ce := ce) G EO')) (k := (i : Int)) (by omega) (by omega)
              have pk : PartOk (g ++ [(⟨es', txt m, ce⟩ : Kind)]) [(i : Int)] := HF.part (by omega) (by rw [fl]; omega) small (root_in _ _)
              obtain ⟨xl, hl, al⟩ := fc10.lst
              have dl : D H10 (.ref l) (famD false (g ++ [(⟨es', txt m, ce⟩ : Kind)])) := .lst hl al
              have tlen : ED (tCB (fun xs H Q => ∃ x n, xs = [x] ∧ LenV K x H n ∧ Q (.int n) H) (tCons (tCall (spL (R_lmet NN)) [] E0 (tCons (tVar 2) (tCons (tTup (tCons (tVar 4) tNil)) tNil))) tNil)) [some (.ref a), some (.int most), some (.ref l), some (.int often), some (.int (i : Int)), y5c, y6c, y7c, some (.str (txt m)), y9c, some (.int kp), y11c] H10 (.int (((lm NN (g ++ [(⟨es', txt m, ce⟩ : Kind)]) [(i : Int)]).length : Nat) : Int)) :=
                ed_is (ed_lenL (EL.ed (el_call' (eas2 (ed_var (i := 2) rfl dl) (ed_tup (ds := [.int (i : Int)]) (eas1 (ed_var (i := 4) rfl (.int _))) (by show 1 ≤ 100000; decide))) (lmet_ok HF pk)))) (by rw [List.length_map])
              refine sd_if (b := decide (16 < (((lm NN (g ++ [(⟨es', txt m, ce⟩ : Kind)]) [(i : Int)]).length : Nat) : Int))) (et_D (ed_I0 tlen (ed_ci 16) fun H => .bl _)) (fun hb H11 e11 => ?_) (fun hb H11 e11 => ?_)
              · have fc11 := fc10.ex e11
                obtain ⟨xl1, hl1, al1⟩ := fc11.lst
                have dl1 : D H11 (.ref l) (.list ((g ++ [(⟨es', txt m, ce⟩ : Kind)]).map encK)) := .lst hl1 al1
                have lastK : atI ((g ++ [(⟨es', txt m, ce⟩ : Kind)]).map encK) (-1) = some (encK ⟨es', txt m, ce⟩) := by rw [List.map_append]; exact atI_last _ _
                have neg1 : ∀ {σ : L2.St} {H : Hp}, ED (tUn (rU fun i => .int (-i)) (tC (.int 1))) σ H (.int (-1)) := fun {σ H} H2 e Q q => ⟨1, rfl, q _ H2 (Ex.refl _) (.int _)⟩
                have tk : ∀ {σ : L2.St}, σ[2]? = some (some (.ref l)) → ED (tOp (rIxL K) (tVar 2) (tUn (rU fun i => .int (-i)) (tC (.int 1)))) σ H11 (encK ⟨es', txt m, ce⟩) := fun {σ} h => ed_ixL (ed_var h dl1) neg1 lastK
                have val : ED (tOp (rCatA K) (tTup (tCons (tSl (rSlA K) (tOp (rIxT K) (tOp (rIxL K) (tVar 2) (tUn (rU fun i => .int (-i)) (tC (.int 1)))) (tC (.int 0))) tNoPart (tPart (tVar 10))) tNil)) (tSl (rSlA K) (tOp (rIxL K) (tVar 2) (tUn (rU fun i => .int (-i)) (tC (.int 1)))) (tPart (tC (.int 1))) tNoPart))
                    [some (.ref a), some (.int most), some (.ref l), some (.int often), some (.int (i : Int)), y5c, y6c, y7c, some (.str (txt m)), y9c, some (.int kp), y11c] H11 (encK ⟨es'.take kp.toNat, txt m, ce⟩) := by
                  refine ed_is (ed_catT (ds := [.tuple ((es'.map encE).take kp.toNat)]) (es := [.str (txt m), .int ce]) (ed_tup (eas1 (ed_slTake (ed_ixT (tk rfl) (ed_ci 0) rfl) (ed_var (i := 10) rfl (.int kp)) (by omega))) (by show 1 ≤ 100000; decide)) (ed_slDrop (tk rfl)) (by show 3 ≤ 100000; decide)) ?_
                  rw [← List.map_take]
                  rfl
                refine val H11 (Ex.refl _) _ fun v H12 e12 hv => ?_
                have fc12 := fc11.ex e12
                have hl12 := e12 _ _ hl1
                have al12 := al1.mono e12
                have xn : xl1.length = g.length + 1 := by rw [al1.len, List.length_map, List.length_append]; rfl
                refine ⟨.ref l, rfl, 1, rfl, l, xl1, -1, g.length, rfl, rfl, hl12, ?_, ?_⟩
                · unfold ixN
                  rw [if_neg (by decide), if_pos (by omega)]
                  congr 1
                  omega
                · have fcF : FC a b l H (upd H12 l (.lst (xl1.set g.length v))) (g ++ [⟨es'.take kp.toNat, txt m, ce⟩]) := fc12.own nl l_a l_b (by
                    rw [← set_last g ⟨es', txt m, ce⟩]
                    have tu := tu_upd (ys := xl1.set g.length v) hl12
                    exact DA.set (D.keep tu (flat_K _) hv) g.length (al12.keep tu (flat_Ks _)))
                  refine ⟨_, _, _, _, _, _, es'.take kp.toNat, rfl, EO'.take _, fcF, by rw [upd_ne l4l]; exact e12 _ _ (e11 _ _ h4), fun j2 => ?_⟩
                  have kp0 : kp = 0 := by omega
                  subst kp0
                  have ek : (kd (g ++ [(⟨es'.take (0 : Int).toNat, txt m, ce⟩ : Kind)]) (lastP [(i : Int)])).el = [] := by
                    rw [lastP_one, ← gl, kd_new]; rfl
                  have el : lm NN (g ++ [(⟨es'.take (0 : Int).toNat, txt m, ce⟩ : Kind)]) [(i : Int)] = [[(i : Int)]] := by
                    show (kids _ _).foldl _ _ = _
                    unfold kids
                    rw [ek]; rfl
                  rw [el]
                  show 1 ≤ 16
                  decide
              · have le := of_decide_eq_false hb
                exact ⟨_, _, _, _, _, _, es', rfl, EO', fc10.ex e11, e11 _ _ h4, fun _ => by omega⟩
            · obtain ⟨y5c, y6c, y7c, y9c, y10c, y11c, es', es10, EO', fc10, h4, fin⟩ := p
              exact ⟨_, _, _, _, _, _, es', es10, EO', fc10, fin rfl⟩
          · rintro σ H10 ⟨y5c, y6c, y7c, y9c, y10c, y11c, es', es10, EO', fc10, fin⟩
            subst es10
            subst gl
            have HF := half_new (ce := ce) G G14 EO' mab
            have L' := els_low HF.els
            generalize hF : g ++ [(⟨es', txt m, ce⟩ : Kind)] = F at HF L' fc10 fin
            have fl : F.length = g.length + 1 := by rw [← hF, List.length_append]; rfl
            obtain ⟨xl, hl, al⟩ := fc10.lst
            have dl : D H10 (.ref l) (famD false F) := .lst hl al
            refine sl_asg (ds := ((torn F (g.length : Nat)).map Froz.sing).map PyData.str) ?_ fun p xs11 H11 np e11 hp ha => ?_
            · refine el_is (el_lcL (as := known F (lm NN F [((g.length : Nat) : Int)])) (enc := fun c => .str (Froz.sing c)) (fun c => (ldoer NN F (doing F c (lm NN F [((g.length : Nat) : Int)]))).isNone) (fun c => .str (Froz.sing c))
                (ed_is (EL.ed (el_call' (eas2 (ed_var (i := 2) rfl dl) (ed_var (i := 4) rfl (.int _))) ⟨F, false, _, rfl, HF, by omega, by rw [fl]; omega, by omega, rfl⟩)) (by rw [List.map_map]; rfl)) (Nat.le_trans (List.length_filter_le _ _) (by decide)) (fun _ _ _ => rfl) (fun _ _ => rfl) fun c hc z H11 e11 hz => ?_) (by unfold torn; rw [List.map_map]; rfl)
              refine ⟨[some (.ref a), some (.int most), some (.ref l), some (.int often), some (.int ((g.length : Nat) : Int)), y5c, y6c, y7c, some (.str (txt m)), some z, y10c, y11c], rfl, fun _ _ R h => h, ?_, fun _ => ed_var (i := 9) rfl hz⟩
              refine et_D (ed_isN (d := optP (ldoer NN F (doing F c (lm NN F [((g.length : Nat) : Int)])))) (ed_call (eas_cons (ed_var (i := 2) rfl (dl.mono e11)) (eas2 (ed_var (i := 4) rfl (.int _)) (ed_var (i := 9) rfl hz))) ⟨F, false, _, c, rfl, HF, by omega, by rw [fl]; omega, by omega, rfl⟩) ?_)
              exact isND_optP _
            · dsimp only
              have fc11 := fc10.ex e11
              have hl11 := e11 _ _ hl
              have al11 := al.mono e11
              have dl1 : D H11 (.ref l) (.list (F.map encK)) := .lst hl11 al11
              have lastK : atI (F.map encK) (-1) = some (encK ⟨es', txt m, ce⟩) := by rw [← hF, List.map_append]; exact atI_last _ _
              have neg1 : ∀ {σ : L2.St} {H : Hp}, ED (tUn (rU fun i => .int (-i)) (tC (.int 1))) σ H (.int (-1)) := fun {σ H} H2 e Q q => ⟨1, rfl, q _ H2 (Ex.refl _) (.int _)⟩
              have tk : ∀ {σ : L2.St}, σ[2]? = some (some (.ref l)) → ED (tOp (rIxL K) (tVar 2) (tUn (rU fun i => .int (-i)) (tC (.int 1)))) σ H11 (encK ⟨es', txt m, ce⟩) := fun {σ} h => ed_ixL (ed_var h dl1) neg1 lastK
              have dt : D H11 (.ref p) (.list (((torn F (g.length : Nat)).map Froz.sing).map PyData.str)) := .lst hp ha
              have tlen : (torn F (g.length : Nat)).length ≤ 6 := by
                unfold torn known
                exact Nat.le_trans (List.length_filter_le _ _) (Nat.le_trans (List.length_filter_le _ _) (by decide))
              have snd : (m ++ torn F (g.length : Nat)).Nodup := List.nodup_append.mpr ⟨mnd, torn_nodup _ _, fun x hx y hy e => by
                subst e
                rw [← hF] at hy
                exact torn_other (k := ⟨es', txt m, ce⟩) (hF ▸ L') hx hy⟩
              have sab : ∀ c ∈ m ++ torn F (g.length : Nat), c ∈ abc := fun c hc => by
                rcases List.mem_append.mp hc with h | h
                · exact mab c h
                · exact torn_abc h
              refine sd_st (d := encK ⟨es', txt (abc.filter fun c => decide (c ∈ m ++ torn F (g.length : Nat))), ce⟩) ?_ fun v H12 e12 hv => ?_
              · refine ed_tup (ds := [.tuple (es'.map encE), .str (txt (abc.filter fun c => decide (c ∈ m ++ torn F (g.length : Nat)))), .int ce]) (eas_cons (ed_ixT (tk rfl) (ed_ci 0) rfl) (eas2 ?_ (ed_ixT (tk rfl) (ed_ci 2) rfl))) (by show 3 ≤ 100000; decide)
                exact ed_sortset (ed_addS (ed_var (i := 8) rfl (.str (txt m))) (ed_join (by omega) (ed_var (i := 11) rfl dt)) (by omega)) snd sab (by rw [List.length_append]; omega)
              have fc12 := fc11.ex e12
              have hl12 := e12 _ _ hl11
              have al12 := al11.mono e12
              have xn : xl.length = g.length + 1 := by rw [al.len, List.length_map, fl]
              refine ⟨.ref l, rfl, 1, rfl, l, xl, -1, g.length, rfl, rfl, hl12, ?_, ?_⟩
              · unfold ixN
                rw [if_neg (by decide), if_pos (by omega)]
                congr 1
                omega
              · have fcF : FC a b l H (upd H12 l (.lst (xl.set g.length v))) (g ++ [⟨es', txt (abc.filter fun c => decide (c ∈ m ++ torn F (g.length : Nat))), ce⟩]) := fc12.own nl l_a l_b (by
                  rw [← set_last g ⟨es', txt m, ce⟩, hF]
                  have tu := tu_upd (ys := xl.set g.length v) hl12
                  exact DA.set (D.keep tu (flat_K _) hv) g.length (al12.keep tu (flat_Ks _)))
                refine ⟨⟨_, _, _, _, _, _, _, _, rfl⟩, _, by rw [List.length_append]; rfl, ?_, fcF⟩
                refine sound_torn (k := ⟨es', txt m, ce⟩) G G14 EO'.few EO'.low EO'.once mab ⟨c0, c3⟩ (by rw [hF]; exact fin) (rise_filter _) fun c => ?_
                rw [hF, List.mem_filter]
                constructor
                · rintro ⟨_, h⟩
                  exact List.mem_append.mp (of_decide_eq_true h)
                · intro h
                  exact ⟨sab c (List.mem_append.mpr h), decide_eq_true (List.mem_append.mpr h)⟩
  · subst es
    have gl' : (g.length : Int) = 1 + r3 := by omega
    obtain ⟨xs, hl, ax⟩ := fc.lst
    refine ⟨.ref l, rfl, l, xs, rfl, .inl ⟨SqL.of hl, fun T nT => ?_⟩⟩
    exact q g (.ref T) _ (fc.off.trans (Off.ex (Ex.new nT))) (fc.hs.ex (Ex.new nT)) G (by omega) (by omega) (.tup upd_same (ax.mono (Ex.new nT)))
end
end KS
end
noncomputable section
namespace KS
open PySem PySem.Spec PyProof.Rows L2 Evl
open RZ (tLenSetI pe_lenSetI)
theorem okD_P {n : Nat} {p : Part} (h : p.length ≤ 40000) : okD (n + 2) (encP p) := by
  refine ⟨by rw [List.length_map]; exact h, fun d hd => ?_⟩
  obtain ⟨x, _, e⟩ := List.mem_map.mp hd
  subst e
  exact trivial
theorem okD_Ps {n : Nat} {l : List Part} (h : l.length ≤ 40000) (hp : ∀ p ∈ l, p.length ≤ 40000) : okD (n + 3) (.list (l.map encP)) := by
  refine ⟨by rw [List.length_map]; exact h, fun d hd => ?_⟩
  obtain ⟨x, hx, e⟩ := List.mem_map.mp hd
  subst e
  exact okD_P (hp x hx)
theorem Valid.half {f : Fam} (V : Valid f) : Half f := ⟨V.kinds.els, V.2.2.1, fun k hk c hc => by
  obtain ⟨j, hj⟩ := List.getElem?_of_mem hk
  exact rise_abc (V.kinds j k hj).rise hc⟩
theorem Valid.few {f : Fam} (V : Valid f) {k : Int} (h0 : 0 ≤ k) (h1 : k < f.length) : (lm NN f [k]).length ≤ 16 := by
  have := (V.2.2.2.2 k.toNat (by omega)).1
  have e : ((k.toNat : Nat) : Int) = k := by omega
  rwa [e] at this
theorem Valid.okPs {f : Fam} (V : Valid f) {k : Int} (h0 : 0 ≤ k) (h1 : k < f.length) {p : Part} (hp : p ∈ lm NN f [k]) {n : Nat} : okD (n + 3) (.list ((lm NN f p).map encP)) := by
  have L := kinds_low V.kinds
  have sub : ∀ y ∈ lm NN f p, y ∈ lm NN f [k] := fun y hy => lm_trans L NN (by show lastP [k] < (16 : Int); rw [lastP_one]; have := V.2.1; omega) hp hy
  have h := nodup_len (lm_nodup NN f p) sub
  have h2 := V.few h0 h1
  exact okD_Ps (by omega) fun y hy => by have := (V.parts h0 h1 (sub y hy)).2.2.2.1; omega
end KS
end
namespace KS
open PySem
/-! ### slots: the mathematics -/
/-- the plain elders of a kind, in their order -/
def plain (f : Fam) (k : Int) : List Int := ((kd f k).el.filter fun e => decide (e.2 = 0)).map (·.1)
def cells (f : Fam) (k : Int) : Nat := (kd f k).ce.toNat
def bodyF : Nat → Fam → Int → Nat
  | 0, _, _ => 0
  | n + 1, f, k => (if plain f k = [] then 1 else ((plain f k).map (bodyF n f)).sum) + cells f k
abbrev Slot := Part × Option Nat
def lbody : Nat → Fam → Part → List Slot
  | 0, _, _ => []
  | n + 1, f, p => (if plain f (lastP p) = [] then [(p, none)] else (plain f (lastP p)).flatMap fun e => lbody n f (p ++ [e])) ++ (List.range (cells f (lastP p))).map fun j => (p, some j)
theorem lastP_snoc (p : Part) (e : Int) : lastP (p ++ [e]) = e := by
  unfold lastP
  rw [List.getLastD_eq_getLast?, List.getLast?_append]; rfl
theorem mem_plain {f : Fam} {k e : Int} : e ∈ plain f k ↔ (e, 0) ∈ (kd f k).el := by
  unfold plain
  rw [List.mem_map]
  constructor
  · rintro ⟨⟨a, b⟩, h, rfl⟩
    obtain ⟨h1, h2⟩ := List.mem_filter.mp h
    have : b = 0 := of_decide_eq_true h2
    subst this
    exact h1
  · intro h
    exact ⟨(e, 0), List.mem_filter.mpr ⟨h, rfl⟩, rfl⟩
theorem plain_low {f : Fam} (L : Low f) {k e : Int} (h : e ∈ plain f k) : 0 ≤ e ∧ e < k := L k _ (mem_plain.mp h)
theorem lbody_ne {f : Fam} (L : Low f) : ∀ {n : Nat} {p : Part}, lastP p < n → 0 ≤ lastP p → lbody n f p ≠ []
  | 0, p, h, h0 => by have : ((0 : Nat) : Int) = 0 := rfl; omega
  | n + 1, p, h, h0 => by
    unfold lbody
    split
    · simp
    · rename_i hp
      cases e : plain f (lastP p) with
      | nil => exact absurd e hp
      | cons a r =>
        have ha := plain_low L (f := f) (k := lastP p) (e := a) (by rw [e]; exact List.mem_cons_self)
        have i := lbody_ne L (n := n) (p := p ++ [a]) (by rw [lastP_snoc]; omega) (by rw [lastP_snoc]; omega)
        rw [List.flatMap_cons]
        intro z
        have z := (List.append_eq_nil_iff.mp z).1
        exact i (List.append_eq_nil_iff.mp z).1
theorem bodyF_fuel {f : Fam} (L : Low f) : ∀ (n m : Nat) (k : Int), 0 ≤ k → k < n → k < m → bodyF n f k = bodyF m f k
  | 0, _, k, h0, h, _ => by have : ((0 : Nat) : Int) = 0 := rfl; omega
  | _ + 1, 0, k, h0, _, h => by have : ((0 : Nat) : Int) = 0 := rfl; omega
  | n + 1, m + 1, k, h0, h1, h2 => by
    unfold bodyF
    have e : (plain f k).map (bodyF n f) = (plain f k).map (bodyF m f) := List.map_congr_left fun a ha => by
      have := plain_low L ha
      exact bodyF_fuel L n m a this.1 (by omega) (by omega)
    rw [e]
theorem lbody_len {f : Fam} : ∀ (n : Nat) (p : Part), (lbody n f p).length = bodyF n f (lastP p)
  | 0, p => rfl
  | n + 1, p => by
    unfold lbody bodyF
    rw [List.length_append, List.length_map, List.length_range]
    congr 1
    split
    · rfl
    · rw [List.length_flatMap]
      congr 1
      refine List.map_congr_left fun a _ => ?_
      rw [lbody_len n (p ++ [a]), lastP_snoc]
/-- the slot's part begins as p does -/
def Pre (p : Part) (s : Slot) : Prop := s.1.take p.length = p
theorem Pre.up {p : Part} {e : Int} {s : Slot} (h : Pre (p ++ [e]) s) : Pre p s := by
  unfold Pre at *
  rw [List.length_append, List.length_singleton] at h
  have := congrArg (List.take p.length) h
  rw [List.take_take, List.take_append_of_le_length (Nat.le_refl _), List.take_length, Nat.min_eq_left (Nat.le_succ _)] at this
  exact this
theorem Pre.self (p : Part) (o : Option Nat) : Pre p (p, o) := List.take_length
theorem Pre.other {p : Part} {a e : Int} {s : Slot} (h : Pre (p ++ [a]) s) (h2 : Pre (p ++ [e]) s) : a = e := by
  unfold Pre at *
  rw [List.length_append, List.length_singleton] at h h2
  have := h.symm.trans h2
  exact (List.cons.inj (List.append_cancel_left this)).1
theorem lbody_pre {f : Fam} : ∀ (n : Nat) (p : Part) (s : Slot), s ∈ lbody n f p → Pre p s
  | 0, p, s, h => by cases h
  | n + 1, p, s, h => by
    unfold lbody at h
    rcases List.mem_append.mp h with h | h
    · split at h
      · rw [List.mem_singleton] at h
        subst h
        exact Pre.self p none
      · obtain ⟨e, _, h⟩ := List.mem_flatMap.mp h
        exact (lbody_pre n _ s h).up
    · obtain ⟨j, _, rfl⟩ := List.mem_map.mp h
      exact Pre.self p (some j)
/-- where p's slots lie among all -/
def Block (f : Fam) (sl : List Slot) (p : Part) (o : Nat) : Prop :=
  ∃ u v m, lastP p < ((m : Nat) : Int) ∧ sl = u ++ lbody m f p ++ v ∧ u.length = o ∧ (∀ s ∈ u, ¬ Pre p s) ∧ ∀ s ∈ v, ¬ Pre p s
/-- how far e's part begins behind its holder's -/
def stepF (f : Fam) (k e : Int) : Nat := (((plain f k).take ((plain f k).idxOf e)).map (bodyF NN f)).sum
theorem Block.child {f : Fam} (L : Low f) {sl : List Slot} {p : Part} {o : Nat} {e : Int} (h0 : 0 ≤ lastP p) (hN : lastP p ≤ NN) (nd : (plain f (lastP p)).Nodup) (he : e ∈ plain f (lastP p)) (B : Block f sl p o) : Block f sl (p ++ [e]) (o + stepF f (lastP p) e) := by
  obtain ⟨u, v, m, hm, es, eo, hu, hv⟩ := B
  cases m with
  | zero => have : ((0 : Nat) : Int) = 0 := rfl; omega
  | succ m =>
    have hi : (plain f (lastP p)).idxOf e < (plain f (lastP p)).length := List.idxOf_lt_length_iff.mpr he
    have split : plain f (lastP p) = (plain f (lastP p)).take ((plain f (lastP p)).idxOf e) ++ e :: (plain f (lastP p)).drop ((plain f (lastP p)).idxOf e + 1) := by
      have d := List.drop_eq_getElem_cons hi
      rw [List.getElem_idxOf hi] at d
      rw [← d, List.take_append_drop]
    have sl' := plain_low L he
    unfold stepF
    generalize eA : (plain f (lastP p)).take ((plain f (lastP p)).idxOf e) = A at split ⊢
    generalize (plain f (lastP p)).drop ((plain f (lastP p)).idxOf e + 1) = C at split
    have nd' := nd
    rw [split] at nd'
    obtain ⟨_, ndC, ndX⟩ := List.nodup_append.mp nd'
    have nA : ∀ a ∈ A, a ≠ e := fun a ha => ndX a ha e List.mem_cons_self
    have nC : ∀ a ∈ C, a ≠ e := fun a ha z => (List.nodup_cons.mp ndC).1 (z ▸ ha)
    have lA : ∀ a ∈ A, 0 ≤ a ∧ a < lastP p := fun a ha => plain_low L (by rw [split]; exact List.mem_append_left _ ha)
    have eb : lbody (m + 1) f p = (A.flatMap fun e => lbody m f (p ++ [e])) ++ (lbody m f (p ++ [e]) ++ ((C.flatMap fun e => lbody m f (p ++ [e])) ++ (List.range (cells f (lastP p))).map fun j => (p, some j))) := by
      conv => lhs; unfold lbody
      rw [if_neg (by intro z; rw [z] at he; cases he)]
      conv => lhs; rw [split]
      rw [List.flatMap_append, List.flatMap_cons]
      simp only [List.append_assoc]
    have lenA : (A.flatMap fun e => lbody m f (p ++ [e])).length = (A.map (bodyF NN f)).sum := by
      rw [List.length_flatMap]
      congr 1
      refine List.map_congr_left fun a ha => ?_
      rw [lbody_len, lastP_snoc]
      have := lA a ha
      exact bodyF_fuel L m NN a this.1 (by omega) (by show a < (16 : Int); have : ((NN : Nat) : Int) = 16 := rfl; omega)
    refine ⟨u ++ A.flatMap fun e => lbody m f (p ++ [e]), ((C.flatMap fun e => lbody m f (p ++ [e])) ++ (List.range (cells f (lastP p))).map fun j => (p, some j)) ++ v, m, by rw [lastP_snoc]; omega, ?_, ?_, ?_, ?_⟩
    · rw [es, eb]
      simp only [List.append_assoc]
    · rw [List.length_append, lenA, eo]
    · intro s hs hp
      rcases List.mem_append.mp hs with hs | hs
      · exact hu s hs hp.up
      · obtain ⟨a, ha, hs⟩ := List.mem_flatMap.mp hs
        exact nA a ha ((lbody_pre m _ s hs).other hp)
    · intro s hs hp
      rcases List.mem_append.mp hs with hs | hs
      · rcases List.mem_append.mp hs with hs | hs
        · obtain ⟨a, ha, hs⟩ := List.mem_flatMap.mp hs
          exact nC a ha ((lbody_pre m _ s hs).other hp)
        · obtain ⟨j, _, rfl⟩ := List.mem_map.mp hs
          have := congrArg List.length hp
          unfold Pre at hp
          rw [List.take_of_length_le (by simp)] at hp
          have := congrArg List.length hp
          simp at this
      · exact hv s hs hp.up
/-! indexes of the slots that are of one sort -/
def idx (q : Slot → Bool) : Nat → List Slot → List Nat
  | _, [] => []
  | o, s :: r => if q s = true then o :: idx q (o + 1) r else idx q (o + 1) r
theorem idx_append (q : Slot → Bool) : ∀ (a b : List Slot) (o : Nat), idx q o (a ++ b) = idx q o a ++ idx q (o + a.length) b
  | [], b, o => rfl
  | s :: a, b, o => by
    have i := idx_append q a b (o + 1)
    have e : o + 1 + a.length = o + (s :: a).length := by rw [List.length_cons]; omega
    rw [e] at i
    show (if q s = true then o :: idx q (o + 1) (a ++ b) else idx q (o + 1) (a ++ b)) = (if q s = true then o :: idx q (o + 1) a else idx q (o + 1) a) ++ _
    rw [i]
    split <;> rfl
theorem idx_none (q : Slot → Bool) : ∀ (a : List Slot) (o : Nat), (∀ s ∈ a, q s = false) → idx q o a = []
  | [], _, _ => rfl
  | s :: a, o, h => by
    show (if q s = true then o :: idx q (o + 1) a else idx q (o + 1) a) = []
    rw [if_neg (by rw [h s List.mem_cons_self]; exact Bool.false_ne_true), idx_none q a (o + 1) fun t ht => h t (List.mem_cons_of_mem _ ht)]
theorem idx_all (q : Slot → Bool) : ∀ (a : List Slot) (o : Nat), (∀ s ∈ a, q s = true) → idx q o a = List.range' o a.length
  | [], _, _ => rfl
  | s :: a, o, h => by
    show (if q s = true then o :: idx q (o + 1) a else idx q (o + 1) a) = _
    rw [if_pos (h s List.mem_cons_self), idx_all q a (o + 1) fun t ht => h t (List.mem_cons_of_mem _ ht), List.length_cons, List.range'_succ]
theorem idx_filter (q : Slot → Bool) : ∀ (a : List Slot) (o : Nat) (g : Nat → Bool), (∀ i s, a[i]? = some s → g (o + i) = q s) → (List.range' o a.length).filter g = idx q o a
  | [], _, _, _ => rfl
  | s :: a, o, g, h => by
    have h0 : g o = q s := h 0 s rfl
    have i := idx_filter q a (o + 1) g fun j t ht => by
      have := h (j + 1) t ht
      rwa [show o + (j + 1) = o + 1 + j by omega] at this
    rw [List.length_cons, List.range'_succ, List.filter_cons, h0, i]
    rfl
theorem mem_idx (q : Slot → Bool) : ∀ (a : List Slot) (o i : Nat), i ∈ idx q o a ↔ ∃ j s, a[j]? = some s ∧ i = o + j ∧ q s = true
  | [], o, i => by
    constructor
    · intro h; cases h
    · rintro ⟨j, s, h, _⟩; simp at h
  | s :: a, o, i => by
    have ih := mem_idx q a (o + 1) i
    have e : (∃ j t, (s :: a)[j]? = some t ∧ i = o + j ∧ q t = true) ↔ (i = o ∧ q s = true) ∨ ∃ j t, a[j]? = some t ∧ i = o + 1 + j ∧ q t = true := by
      constructor
      · rintro ⟨j, t, h1, h2, h3⟩
        cases j with
        | zero =>
          have : s = t := Option.some.inj h1
          subst this
          exact .inl ⟨h2, h3⟩
        | succ j => exact .inr ⟨j, t, h1, by omega, h3⟩
      · rintro (⟨h1, h2⟩ | ⟨j, t, h1, h2, h3⟩)
        · exact ⟨0, s, rfl, h1, h2⟩
        · exact ⟨j + 1, t, h1, by omega, h3⟩
    rw [e, ← ih]
    show i ∈ (if q s = true then o :: idx q (o + 1) a else idx q (o + 1) a) ↔ _
    split
    · rename_i h
      rw [List.mem_cons]
      constructor
      · rintro (h' | h')
        · exact .inl ⟨h', h⟩
        · exact .inr h'
      · rintro (⟨h', _⟩ | h')
        · exact .inl h'
        · exact .inr h'
    · rename_i h
      constructor
      · exact .inr
      · rintro (⟨_, h'⟩ | h')
        · exact absurd h' h
        · exact h'
theorem idx_nodup (q : Slot → Bool) (a : List Slot) (o : Nat) : (idx q o a).Nodup := by
  have h : ∀ (a : List Slot) (o : Nat), (idx q o a).Sublist (List.range' o a.length) := by
    intro a
    induction a with
    | nil => intro o; exact List.Sublist.slnil
    | cons s a ih =>
      intro o
      show (if q s = true then o :: idx q (o + 1) a else idx q (o + 1) a).Sublist _
      rw [List.length_cons, List.range'_succ]
      split
      · exact (ih (o + 1)).cons₂ _
      · exact (ih (o + 1)).cons _
  exact (h a o).nodup List.nodup_range'
/-- the first slot that begins as p does -/
theorem Block.first {f : Fam} (L : Low f) {sl : List Slot} {p : Part} {o : Nat} (h0 : 0 ≤ lastP p) (B : Block f sl p o) : (∃ s, sl[o]? = some s ∧ Pre p s) ∧ ∀ i s, sl[i]? = some s → Pre p s → o ≤ i := by
  obtain ⟨u, v, m, hm, es, eo, hu, hv⟩ := B
  have ne := lbody_ne L hm h0
  cases eb : lbody m f p with
  | nil => exact absurd eb ne
  | cons s r =>
    rw [eb] at es
    refine ⟨⟨s, ?_, lbody_pre m p s (by rw [eb]; exact List.mem_cons_self)⟩, fun i t hi hp => ?_⟩
    · rw [es, List.append_assoc, List.getElem?_append_right (by omega), eo, Nat.sub_self]
      rfl
    · rcases Nat.lt_or_ge i o with h | h
      · rw [es, List.append_assoc, List.getElem?_append_left (by omega)] at hi
        exact absurd hp (hu t (List.mem_of_getElem? hi))
      · exact h
theorem Block.uniq {f : Fam} (L : Low f) {sl : List Slot} {p : Part} {o o' : Nat} (h0 : 0 ≤ lastP p) (B : Block f sl p o) (B' : Block f sl p o') : o = o' := by
  obtain ⟨⟨s, h1, h2⟩, h3⟩ := B.first L h0
  obtain ⟨⟨s', h1', h2'⟩, h3'⟩ := B'.first L h0
  exact Nat.le_antisymm (h3 _ _ h1' h2') (h3' _ _ h1 h2)
/-- a part's own cells -/
def own (p : Part) (s : Slot) : Bool := decide (s.1 = p) && s.2.isSome
def before (f : Fam) (k : Int) : Nat := if plain f k = [] then 1 else ((plain f k).map (bodyF NN f)).sum
theorem Block.own {f : Fam} (L : Low f) {sl : List Slot} {p : Part} {o : Nat} (h0 : 0 ≤ lastP p) (hN : lastP p ≤ NN) (B : Block f sl p o) : idx (own p) 0 sl = List.range' (o + before f (lastP p)) (cells f (lastP p)) := by
  obtain ⟨u, v, m, hm, es, eo, hu, hv⟩ := B
  cases m with
  | zero => have : ((0 : Nat) : Int) = 0 := rfl; omega
  | succ m =>
    have far : ∀ s : Slot, ¬ Pre p s → KS.own p s = false := fun s hs => by
      unfold KS.own
      rw [Bool.and_eq_false_iff]
      refine .inl (decide_eq_false fun z => hs ?_)
      unfold Pre
      rw [z]
      exact List.take_length
    rw [es]
    unfold lbody
    rw [idx_append, idx_append, idx_append, idx_none _ u 0 (fun s hs => far s (hu s hs)), idx_none _ v _ (fun s hs => far s (hv s hs)), List.append_nil, List.nil_append]
    rw [idx_none _ (if plain f (lastP p) = [] then _ else _), List.nil_append, idx_all, List.length_map, List.length_range]
    · congr 1
      rw [Nat.zero_add, eo]
      congr 1
      unfold before
      split
      · rfl
      · rw [List.length_flatMap]
        congr 1
        refine List.map_congr_left fun a ha => ?_
        rw [lbody_len, lastP_snoc]
        have := plain_low L ha
        exact bodyF_fuel L m NN a this.1 (by omega) (by have : ((NN : Nat) : Int) = 16 := rfl; omega)
    · intro s hs
      obtain ⟨j, _, rfl⟩ := List.mem_map.mp hs
      unfold KS.own
      simp
    · intro s hs
      split at hs
      · rw [List.mem_singleton] at hs
        subst hs
        unfold KS.own
        simp
      · obtain ⟨e, _, hs⟩ := List.mem_flatMap.mp hs
        have hp := lbody_pre m _ s hs
        unfold KS.own
        rw [Bool.and_eq_false_iff]
        refine .inl (decide_eq_false fun z => ?_)
        unfold Pre at hp
        rw [z, List.take_of_length_le (by simp)] at hp
        have := congrArg List.length hp
        simp at this
end KS
namespace KS
open PySem
/-! ### the order in which parts are met; the slots of a thing -/
/-- a part is the root, a shared one, or a plain elder of one met before -/
def Met (f : Fam) (p0 : Part) (l : List Part) : Prop := ∀ (i : Nat) (y : Part), l[i]? = some y → y = p0 ∨ y.length = 1 ∨ ∃ (q : Part) (e : Int), y = q ++ [e] ∧ q ∈ l.take i ∧ q ≠ [] ∧ e ∈ plain f (lastP q)
theorem met_snoc {f : Fam} {p0 y : Part} {a : List Part} (h : Met f p0 a) (hy : y = p0 ∨ y.length = 1 ∨ ∃ (q : Part) (e : Int), y = q ++ [e] ∧ q ∈ a ∧ q ≠ [] ∧ e ∈ plain f (lastP q)) : Met f p0 (a ++ [y]) := by
  intro i z hz
  rcases Nat.lt_or_ge i a.length with lt | ge
  · rw [List.getElem?_append_left lt] at hz
    rw [List.take_append_of_le_length (Nat.le_of_lt lt)]
    exact h i z hz
  · rw [List.getElem?_append_right ge] at hz
    have e : i - a.length = 0 := by
      cases k : i - a.length with
      | zero => rfl
      | succ k' => rw [k] at hz; simp at hz
    rw [e] at hz
    have : y = z := Option.some.inj hz
    subst this
    have e2 : i = a.length := by omega
    subst e2
    rw [List.take_append_of_le_length (Nat.le_refl _), List.take_length]
    exact hy
theorem met_dd {f : Fam} {p0 c : Part} {e0 : Int × Int} (hc : c = ep p0 e0) (he : e0 ∈ (kd f (lastP p0)).el) (hp0 : p0 ≠ []) :
    ∀ (l2 l1 a : List Part), Met f c (l1 ++ l2) → (∀ y ∈ l1, y ∈ a) → p0 ∈ a → Met f p0 a → Met f p0 (dd a l2)
  | [], _, a, _, _, _, h => h
  | x :: l2, l1, a, hm, hs, hp, h => by
    have hx : x = c ∨ x.length = 1 ∨ ∃ (q : Part) (e : Int), x = q ++ [e] ∧ q ∈ l1 ∧ q ≠ [] ∧ e ∈ plain f (lastP q) := by
      have := hm l1.length x (by rw [List.getElem?_append_right (Nat.le_refl _), Nat.sub_self]; rfl)
      rw [List.take_append_of_le_length (Nat.le_refl _), List.take_length] at this
      exact this
    have hm' : Met f c ((l1 ++ [x]) ++ l2) := by rw [List.append_assoc]; exact hm
    show Met f p0 (dd (ins a x) l2)
    refine met_dd hc he hp0 l2 (l1 ++ [x]) (ins a x) hm' (fun y hy => ?_) (mem_ins.mpr (.inl hp)) ?_
    · rcases List.mem_append.mp hy with hy | hy
      · exact mem_ins.mpr (.inl (hs y hy))
      · rw [List.mem_singleton] at hy
        exact mem_ins.mpr (.inr hy)
    · unfold ins
      split
      · exact h
      · refine met_snoc h ?_
        rcases hx with hx | hx | ⟨q, e, h1, h2, h3, h4⟩
        · rw [hx, hc]
          unfold ep
          split
          · rename_i hz
            refine .inr (.inr ⟨p0, e0.1, rfl, hp, hp0, mem_plain.mpr ?_⟩)
            have : (e0.1, (0 : Int)) = e0 := by rw [← hz]
            rw [this]
            exact he
          · exact .inr (.inl rfl)
        · exact .inr (.inl hx)
        · exact .inr (.inr ⟨q, e, h1, hs q h2, h3, h4⟩)
theorem met_lm {f : Fam} : ∀ (n : Nat) (p : Part), p ≠ [] → Met f p (lm n f p)
  | 0, p, hp => fun i y hy => by
    cases i with
    | zero => exact .inl (Option.some.inj hy).symm
    | succ i => simp [lm] at hy
  | n + 1, p, hp => by
    have base : Met f p [p] := fun i y hy => by
      cases i with
      | zero => exact .inl (Option.some.inj hy).symm
      | succ i => simp at hy
    have go : ∀ (cs : List Part) (a : List Part), (∀ c ∈ cs, c ∈ kids f p) → p ∈ a → Met f p a → Met f p (cs.foldl (fun a c => dd a (lm n f c)) a) := by
      intro cs
      induction cs with
      | nil => intro a _ _ h; exact h
      | cons c cs ih =>
        intro a hcs hp' h
        obtain ⟨e, he, hc⟩ := mem_kids.mp (hcs c List.mem_cons_self)
        refine ih _ (fun d hd => hcs d (List.mem_cons_of_mem _ hd)) (mem_dd.mpr (.inl hp')) ?_
        exact met_dd hc he hp (lm n f c) [] a (met_lm n c (by rw [hc]; exact ep_ne p e)) (fun y hy => by cases hy) hp' h
    exact go (kids f p) [p] (fun c h => h) (List.mem_singleton.mpr rfl) base
/-- all slots of things of kind k -/
def rootB (p : Part) : Bool := decide (p.length = 1)
def rootsOf (l : List Part) : List Part := l.filter rootB
def slots (f : Fam) (k : Int) : List Slot := (rootsOf (lm NN f [k])).flatMap (lbody NN f)
def sizeF (f : Fam) (l : List Part) : Nat := ((rootsOf l).map fun p => bodyF NN f (lastP p)).sum
theorem slots_len (f : Fam) (k : Int) : (slots f k).length = sizeF f (lm NN f [k]) := by
  unfold slots sizeF
  rw [List.length_flatMap]
  congr 1
  exact List.map_congr_left fun p _ => lbody_len NN p
theorem one_of {p : Part} (h : p.length = 1) : p = [lastP p] := by
  match p, h with
  | [x], _ => rfl
theorem block_root {f : Fam} {k : Int} {A C : List Part} {r : Part} (hl : lm NN f [k] = A ++ r :: C) (h1 : r.length = 1) (hN : lastP r < ((NN : Nat) : Int)) : Block f (slots f k) r (sizeF f A) := by
  have nd := lm_nodup NN f [k]
  rw [hl] at nd
  obtain ⟨_, ndC, ndX⟩ := List.nodup_append.mp nd
  have nA : ∀ a ∈ A, a ≠ r := fun a ha => ndX a ha r List.mem_cons_self
  have nC : ∀ a ∈ C, a ≠ r := fun a ha z => (List.nodup_cons.mp ndC).1 (z ▸ ha)
  have far : ∀ (X : List Part), (∀ a ∈ X, a ≠ r) → ∀ s ∈ (rootsOf X).flatMap (lbody NN f), ¬ Pre r s := fun X hX s hs hp => by
    obtain ⟨a, ha, hs⟩ := List.mem_flatMap.mp hs
    obtain ⟨ha, hr⟩ := List.mem_filter.mp ha
    have h2 : a.length = 1 := of_decide_eq_true hr
    have hp2 := lbody_pre NN a s hs
    unfold Pre at hp hp2
    rw [h1] at hp
    rw [h2] at hp2
    exact hX a ha (hp2.symm.trans hp)
  refine ⟨(rootsOf A).flatMap (lbody NN f), (rootsOf C).flatMap (lbody NN f), NN, hN, ?_, ?_, far A nA, far C nC⟩
  · unfold slots rootsOf
    rw [hl, List.filter_append, List.filter_cons, if_pos (by unfold rootB; exact decide_eq_true h1), List.flatMap_append, List.flatMap_cons, List.append_assoc]
  · unfold sizeF
    rw [List.length_flatMap]
    congr 1
    exact List.map_congr_left fun p _ => lbody_len NN p
/-- where the part's slots begin -/
def preB (p : Part) (s : Slot) : Bool := decide (s.1.take p.length = p)
def atF (f : Fam) (k : Int) (p : Part) : Nat := (slots f k).findIdx (preB p)
theorem Block.at {f : Fam} (L : Low f) {k : Int} {p : Part} {o : Nat} (h0 : 0 ≤ lastP p) (B : Block f (slots f k) p o) : atF f k p = o := by
  obtain ⟨⟨s, h1, h2⟩, h3⟩ := B.first L h0
  have hlt : o < (slots f k).length := (List.getElem?_eq_some_iff.mp h1).1
  have e1 : (slots f k)[o] = s := (List.getElem?_eq_some_iff.mp h1).2
  unfold atF
  have lt : (slots f k).findIdx (preB p) < (slots f k).length := List.findIdx_lt_length.mpr ⟨s, List.mem_of_getElem? h1, decide_eq_true h2⟩
  refine Nat.le_antisymm ?_ ?_
  · rcases Nat.lt_or_ge o ((slots f k).findIdx (preB p)) with h | h
    · have := List.not_of_lt_findIdx h
      rw [e1] at this
      have h2' : preB p s = true := decide_eq_true h2
      rw [h2'] at this
      exact absurd this (by decide)
    · exact h
  · refine h3 _ _ (List.getElem?_eq_getElem lt) ?_
    have hh : preB p (slots f k)[(slots f k).findIdx (preB p)] = true := List.findIdx_getElem (w := lt)
    unfold preB at hh
    unfold Pre
    exact of_decide_eq_true hh
/-- the facts of a family that the slots want -/
structure Flat (f : Fam) : Prop where
  low : Low f
  nd : ∀ k, (plain f k).Nodup
theorem part_low {f : Fam} (L : Low f) {k : Int} (k0 : 0 ≤ k) (k16 : k < 16) {p : Part} (h : p ∈ lm NN f [k]) : 0 ≤ lastP p ∧ lastP p < 16 := by
  have := mem_bound L k0 h
  omega
/-- each part has its slots in one row -/
theorem block_all {f : Fam} (F : Flat f) {k : Int} (k0 : 0 ≤ k) (k16 : k < 16) : ∀ (i : Nat) (p : Part), (lm NN f [k])[i]? = some p → Block f (slots f k) p (atF f k p) := by
  intro i
  induction i using Nat.strongRecOn with
  | ind i ih =>
    intro p hp
    have pm := List.mem_of_getElem? hp
    have pl := part_low F.low k0 k16 pm
    have hlt : i < (lm NN f [k]).length := (List.getElem?_eq_some_iff.mp hp).1
    have hpi : (lm NN f [k])[i] = p := (List.getElem?_eq_some_iff.mp hp).2
    by_cases h1 : p.length = 1
    · have hl : lm NN f [k] = (lm NN f [k]).take i ++ p :: (lm NN f [k]).drop (i + 1) := by
        rw [← hpi, ← List.drop_eq_getElem_cons hlt, List.take_append_drop]
      have B := block_root hl h1 (by have : ((NN : Nat) : Int) = 16 := rfl; omega)
      rw [B.at F.low pl.1]
      exact B
    · rcases met_lm NN [k] (by simp) i p hp with h | h | ⟨q, e, rfl, hq, qn, he⟩
      · exact absurd (by rw [h]; rfl) h1
      · exact absurd h h1
      · obtain ⟨j, hj, hqj⟩ := List.mem_take_iff_getElem.mp hq
        have jl : j < (lm NN f [k]).length := by omega
        have B := ih j (by omega) q (by rw [List.getElem?_eq_getElem jl, hqj])
        have ql := part_low F.low k0 k16 (List.mem_of_mem_take hq)
        have B2 := B.child F.low ql.1 (by have : ((NN : Nat) : Int) = 16 := rfl; omega) (F.nd _) he
        rw [B2.at F.low pl.1]
        exact B2
/-- a plain elder's part begins its step behind -/
theorem at_child {f : Fam} (F : Flat f) {k : Int} (k0 : 0 ≤ k) (k16 : k < 16) {q : Part} {e : Int} (hq : q ∈ lm NN f [k]) (he : e ∈ plain f (lastP q)) : atF f k (q ++ [e]) = atF f k q + stepF f (lastP q) e := by
  obtain ⟨i, hi⟩ := List.getElem?_of_mem hq
  have ql := part_low F.low k0 k16 hq
  have B := (block_all F k0 k16 i q hi).child F.low ql.1 (by have : ((NN : Nat) : Int) = 16 := rfl; omega) (F.nd _) he
  have := plain_low F.low he
  exact B.at F.low (by rw [lastP_snoc]; exact this.1)
theorem at_root {f : Fam} (F : Flat f) {k : Int} (k0 : 0 ≤ k) (k16 : k < 16) {i : Nat} {p : Part} (hp : (lm NN f [k])[i]? = some p) (h1 : p.length = 1) : atF f k p = sizeF f ((lm NN f [k]).take i) := by
  have hlt : i < (lm NN f [k]).length := (List.getElem?_eq_some_iff.mp hp).1
  have hpi : (lm NN f [k])[i] = p := (List.getElem?_eq_some_iff.mp hp).2
  have pl := part_low F.low k0 k16 (List.mem_of_getElem? hp)
  have hl : lm NN f [k] = (lm NN f [k]).take i ++ p :: (lm NN f [k]).drop (i + 1) := by
    rw [← hpi, ← List.drop_eq_getElem_cons hlt, List.take_append_drop]
  exact (block_root hl h1 (by have : ((NN : Nat) : Int) = 16 := rfl; omega)).at F.low pl.1
theorem size_snoc {f : Fam} {l : List Part} {i : Nat} {p : Part} (hp : l[i]? = some p) : sizeF f (l.take (i + 1)) = sizeF f (l.take i) + if p.length = 1 then bodyF NN f (lastP p) else 0 := by
  unfold sizeF rootsOf
  rw [List.take_add_one, hp]
  show ((List.filter rootB (l.take i ++ [p])).map _).sum = _
  rw [List.filter_append, List.map_append, List.sum_append]
  congr 1
  by_cases h : p.length = 1
  · rw [if_pos h, List.filter_cons, if_pos (by unfold rootB; exact decide_eq_true h)]
    simp
  · rw [if_neg h, List.filter_cons, if_neg (by unfold rootB; rw [decide_eq_false h]; exact Bool.false_ne_true)]
    simp
/-- each slot is of a part of the thing -/
theorem lbody_lm {f : Fam} : ∀ (n : Nat) (p : Part) (s : Slot), s ∈ lbody n f p → s.1 ∈ lm n f p
  | 0, p, s, h => by cases h
  | n + 1, p, s, h => by
    unfold lbody at h
    rcases List.mem_append.mp h with h | h
    · split at h
      · rw [List.mem_singleton] at h
        subst h
        exact self_mem _ f p
      · obtain ⟨e, he, h⟩ := List.mem_flatMap.mp h
        refine mem_lm.mpr (.inr ⟨p ++ [e], mem_kids.mpr ⟨(e, 0), mem_plain.mp he, ?_⟩, lbody_lm n _ s h⟩)
        unfold ep
        rw [if_pos rfl]
    · obtain ⟨j, _, rfl⟩ := List.mem_map.mp h
      exact self_mem _ f p
theorem slots_lm {f : Fam} (L : Low f) {k : Int} (k16 : k < 16) {s : Slot} (h : s ∈ slots f k) : s.1 ∈ lm NN f [k] := by
  obtain ⟨r, hr, h⟩ := List.mem_flatMap.mp h
  exact lm_trans L NN (by rw [lastP_one]; exact k16) (List.mem_filter.mp hr).1 (lbody_lm NN r s h)
def headB (s : Slot) : Bool := s.2.isNone
/-- heads and own cells are all slots, each once -/
theorem all_slots {f : Fam} (L : Low f) {k : Int} (k16 : k < 16) : (((lm NN f [k]).flatMap fun p => idx (own p) 0 (slots f k)) ++ idx headB 0 (slots f k)).Perm (List.range (slots f k).length) := by
  refine (List.perm_ext_iff_of_nodup ?_ List.nodup_range).mpr fun i => ?_
  · refine List.nodup_append.mpr ⟨?_, idx_nodup _ _ _, ?_⟩
    · unfold List.Nodup
      rw [List.pairwise_flatMap]
      refine ⟨fun p _ => idx_nodup _ _ _, (lm_nodup NN f [k]).imp fun {p q} hpq x hx y hy e => ?_⟩
      obtain ⟨j, s, h1, h2, h3⟩ := (mem_idx _ _ _ _).mp hx
      obtain ⟨j', s', h1', h2', h3'⟩ := (mem_idx _ _ _ _).mp hy
      have : j = j' := by omega
      subst this
      have : s = s' := Option.some.inj (h1.symm.trans h1')
      subst this
      unfold own at h3 h3'
      rw [Bool.and_eq_true] at h3 h3'
      exact hpq ((of_decide_eq_true h3.1).symm.trans (of_decide_eq_true h3'.1))
    · intro x hx y hy e
      obtain ⟨p, _, hx⟩ := List.mem_flatMap.mp hx
      obtain ⟨j, s, h1, h2, h3⟩ := (mem_idx _ _ _ _).mp hx
      obtain ⟨j', s', h1', h2', h3'⟩ := (mem_idx _ _ _ _).mp hy
      have : j = j' := by omega
      subst this
      have : s = s' := Option.some.inj (h1.symm.trans h1')
      subst this
      unfold own at h3
      unfold headB at h3'
      rw [Bool.and_eq_true] at h3
      have := h3.2
      cases z : s.2 with
      | none => rw [z] at this; cases this
      | some c => rw [z] at h3'; cases h3'
  · rw [List.mem_append, List.mem_range]
    constructor
    · rintro (h | h)
      · obtain ⟨p, _, hx⟩ := List.mem_flatMap.mp h
        obtain ⟨j, s, h1, h2, h3⟩ := (mem_idx _ _ _ _).mp hx
        have := (List.getElem?_eq_some_iff.mp h1).1
        omega
      · obtain ⟨j, s, h1, h2, h3⟩ := (mem_idx _ _ _ _).mp h
        have := (List.getElem?_eq_some_iff.mp h1).1
        omega
    · intro h
      have g := List.getElem?_eq_getElem h
      have sm := List.mem_of_getElem? g
      cases z : ((slots f k)[i]).2 with
      | none =>
        refine .inr ((mem_idx _ _ _ _).mpr ⟨i, _, g, by omega, ?_⟩)
        unfold headB
        rw [z]; rfl
      | some c =>
        refine .inl (List.mem_flatMap.mpr ⟨((slots f k)[i]).1, slots_lm L k16 sm, (mem_idx _ _ _ _).mpr ⟨i, _, g, by omega, ?_⟩⟩)
        unfold own
        rw [z, decide_eq_true rfl]; rfl
end KS
noncomputable section
namespace KS
open PySem PySem.Spec PyProof.Rows L2 Evl
open RZ (tLenSetI pe_lenSetI)
section
variable {K : PySem.W.Frag} {σ : L2.St} {H H' : Hp} {ta tb tc te : TE} {tt : TT} {d d1 d2 : PyData} {ds es : List PyData}
def tTru (K : PySem.W.Frag) (ta : TE) : TT := fun σ H Q => ta σ H fun x H' => ∃ k, TruV K x H' k ∧ Q k H'
theorem ed_sum {ns : List Int} (ha : ED ta σ H (.list (ns.map PyData.int))) : ED (tCB (rSum K) (tCons ta tNil)) σ H (.int ns.sum) := fun H1 e Q q =>
  ha H1 e _ fun x H2 e2 hx => by
    obtain ⟨a, xs, rfl, h, t⟩ := hx.toLst
    have e3 := t.ints
    subst e3
    exact ⟨a, ns, rfl, SqL.of h, q _ H2 e2 (.int _)⟩
theorem et_truL (h : ED te σ H (.list ds)) : EvT (fun σ H Q => te σ H fun x H' => ∃ k, TruV K x H' k ∧ Q k H') σ H (!ds.isEmpty) := fun H1 e Q q => h H1 e _ fun v H2 e2 hv => by
  obtain ⟨a, xs, rfl, h, t⟩ := hv.toLst
  refine ⟨!ds.isEmpty, .inl ⟨xs, SqL.of h, ?_⟩, q H2 e2⟩
  cases t <;> rfl
theorem ed_indexI {ns : List Int} {e : Int} (ha : ED ta σ H (.list (ns.map PyData.int))) (hb : ED tb σ H (.int e)) (he : e ∈ ns) : ED (tBM K "list" (rIndex K) ta (tCons tb tNil)) σ H (.int ((ns.idxOf e : Nat) : Int)) := fun H1 e1 Q q =>
  ha H1 e1 _ fun x H2 e2 hx => by
    obtain ⟨a, xs, rfl, h, t⟩ := hx.toLst
    have e3 := t.ints
    subst e3
    refine ⟨.inl ⟨rfl, _, SqL.of h⟩, hb H2 (e1.trans e2) _ fun y H3 e4 hy => ?_⟩
    have ey := hy.toInt
    subst ey
    have hi : ns.idxOf e < ns.length := List.idxOf_lt_length_iff.mpr he
    refine ⟨a, ns.map V.int, .int e, ns.idxOf e, .int e, rfl, rfl, SqL.of (e4 _ _ h), rfl, ?_, ?_, ?_, ?_, q _ H3 (e2.trans e4) (.int _)⟩
    · rw [List.all_map, List.all_eq_true]
      intro _ _; rfl
    · rw [List.getElem?_map, List.getElem?_eq_getElem hi, List.getElem_idxOf hi]; rfl
    · show (e == e) = true
      simp
    · intro m z hm hz
      rw [List.getElem?_map] at hz
      cases g : ns[m]? with
      | none => rw [g] at hz; cases hz
      | some y =>
        rw [g] at hz
        have : V.int y = z := Option.some.inj hz
        subst this
        have hne : y ≠ e := fun z => by
          have hml : m < ns.length := by omega
          have := List.not_of_lt_findIdx (p := (· == e)) (xs := ns) (by exact hm)
          rw [List.getElem?_eq_getElem hml] at g
          have g' : ns[m] = y := Option.some.inj g
          rw [g', z] at this
          simp at this
        show (y == e) = false
        simp [hne]
theorem el_slTakeL {ds : List PyData} {k : Int} (h : ED te σ H (.list ds)) (hk : ED tb σ H (.int k)) (k0 : 0 ≤ k) : EL (tSl (rSlL K) te tNoPart (tPart tb)) σ H (ds.take k.toNat) := fun H1 e Q q =>
  h H1 e _ fun x H2 e2 hx => hk H2 (e.trans e2) _ fun y H3 e3 hy => by
    obtain ⟨a, xs, rfl, h1, h2⟩ := hx.toLst
    have ek := hy.toInt
    subst ek
    refine ⟨k, rfl, a, xs, rfl, SqL.of (e3 _ _ h1), fun p hp => ?_⟩
    have e1 : cutV xs none (some k) = xs.take k.toNat := by
      unfold cutV
      rw [HT.sIx_none]
      have := HT.sIx_nat xs.length xs.length k.toNat
      rw [show ((k.toNat : Nat) : Int) = k by omega] at this
      rw [this, List.drop_zero, Nat.sub_zero]
      rcases Nat.le_total k.toNat xs.length with g | g
      · rw [Nat.min_eq_left g]
      · rw [Nat.min_eq_right g, List.take_of_length_le (Nat.le_refl _), List.take_of_length_le g]
    rw [e1]
    exact q p _ _ (fresh_back (e2.trans e3) hp) ((e2.trans e3).trans (Ex.new hp)) upd_same (((h2.mono e3).take _).mono (Ex.new hp))
end
section
variable {P : Program} {w : World} {K : PySem.W.Frag} {mg : Str → Option Value} {base : Heap}
theorem Valid.flat {f : Fam} (V : Valid f) : Flat f := ⟨kinds_low V.kinds, fun k => by
  unfold plain kd
  rw [List.getD_eq_getElem?_getD]
  cases h : f[k.toNat]? with
  | none => exact List.Pairwise.nil
  | some kk => exact (V.kinds _ kk h).once.sublist (List.filter_sublist.map _)⟩
theorem Valid.kok {f : Fam} (V : Valid f) {k : Int} (k0 : 0 ≤ k) (k1 : k < f.length) : KindOk k.toNat (kd f k) := by
  refine V.kinds k.toNat (kd f k) ?_
  unfold kd
  rw [List.getD_eq_getElem?_getD, List.getElem?_eq_getElem (by omega)]
  rfl
theorem Valid.plain {f : Fam} (V : Valid f) {k e : Int} (k1 : k < f.length) (h : e ∈ plain f k) : 0 ≤ e ∧ e < k ∧ e < f.length := by
  have := plain_low V.flat.low h
  omega
/-! ### cells_of, plain_elders -/
abbrev N_plain : List Str := ["family", "kind", "elder", "shared"]
theorem sc_plain_elders : FnScope N_plain ["family", "kind"] (defScope s_plain_elders) := ⟨rfl, rfl, rfl, by decide +kernel, rfl, by decide +kernel, by decide +kernel⟩
def R_plain : List PyData → List PyData → Prop := fun ds es => ∃ (f : Fam) (k : Int), ds = [encF f, .int k] ∧ Valid f ∧ 0 ≤ k ∧ k < f.length ∧ es = (plain f k).map PyData.int
theorem ok_plain (d : Df K mg "plain_elders" s_plain_elders ["family", "kind"]) (cE : Cl P w K mg base "elders_of" ["family", "kind"] 1 (spD R_elders_of)) : Cl P w K mg base "plain_elders" ["family", "kind"] 2 (spL R_plain) := by
  refine d.ok sc_plain_elders (spL_len (by rintro _ _ ⟨_, _, rfl, _⟩; rfl)) (fun fa cdv A outer s H vs Q E hr h => ?_)
  obtain ⟨ds, es, hv, ⟨f, k, rfl, V, k0, k1, rfl⟩, q⟩ := h
  obtain ⟨x, y, rfl, hx, hy⟩ := hv.args2
  refine ⟨_, pss_one (ps_ret (pe_lc (own := [("elder", 2), ("shared", 3)]) (g := gTup K 2 (gCons (gName 2) (gCons (gName 3) gNil))) rfl sc_plain_elders.nd (pi_tup (pe_cl cE hr (pa_cons (pv 0) (pa_cons (pv 1) pa_nil)))) (blkOk_by (N := N_plain) (sc := defScope s_plain_elders) (by decide +kernel))
    (fun _ _ _ _ _ => pg_tup rfl (pgs_cons (pg_name (i := 2) sc_plain_elders.nd rfl (.inl rfl)) (pgs_cons (pg_name (i := 3) sc_plain_elders.nd rfl (.inl rfl)) pgs_nil))) (fun _ _ _ _ _ => by exact pts_one (pt_not (show PT _ _ (tTru K (tVar 3)) from pt_truth (pv 3) (by intro _; rfl)))) (fun _ _ _ _ _ => pv 2))), ?_⟩
  have o := V.kok k0 k1
  refine sl_ret (el_is (el_lcT (as := (kd f k).el) (enc := encE) (fun e => decide (e.2 = 0)) (fun e => .int e.1) (ed_call (eas2 (ed_var (i := 0) rfl hx) (ed_var (i := 1) rfl hy)) ⟨f, k, rfl, k0, k1, rfl⟩) (by have := o.few; omega) (fun _ _ _ => rfl) fun e he v H1 e1 hv => ?_) (by unfold plain; rw [List.map_map]; rfl)) fun p xs H2 np e2 hp ha => q p xs H2 np e2 hp ha
  refine ⟨[some x, some y, some (.int e.1), some (.int e.2)], rfl, fun H2 e2 R hR => g_pair (hv.mono e2) fun v1 v2 h1 h2 => ?_, ?_, fun _ => ed_var (i := 2) rfl (.int _)⟩
  · have a1 := h1.toInt
    have a2 := h2.toInt
    subst a1 a2
    exact hR
  · refine et_is (et_not (et_truI (ed_var (i := 3) rfl (.int e.2)))) ?_
    by_cases h : e.2 = 0 <;> simp [h]
end
end KS
end
noncomputable section
namespace KS
open PySem PySem.Spec PyProof.Rows L2
open PySem.Froz (SD sObj addTx tailTx sing runD TxOk add_ok add_x is_str)
/-! ### a set of texts, made of a list -/
def addL (l : List Str) (x : Str) : List Str := if x ∈ l then l else x :: l
theorem addL_old {l : List Str} {x : Str} (h : x ∈ l) : addL l x = l := if_pos h
theorem addL_new {l : List Str} {x : Str} (h : ¬ x ∈ l) : addL l x = x :: l := if_neg h
theorem addL_nodup {l : List Str} (x : Str) (h : l.Nodup) : (addL l x).Nodup := by
  unfold addL
  split
  · exact h
  · rename_i n; exact List.nodup_cons.mpr ⟨n, h⟩
theorem mem_addL {l : List Str} {x y : Str} : y ∈ addL l x ↔ y ∈ l ∨ y = x := by
  unfold addL
  split
  · rename_i n
    constructor
    · exact .inl
    · rintro (h | rfl)
      · exact h
      · exact n
  · rw [List.mem_cons]; exact Or.comm
theorem foldA_nodup : ∀ (xs l : List Str), l.Nodup → (xs.foldl addL l).Nodup
  | [], _, h => h
  | x :: xs, l, h => foldA_nodup xs (addL l x) (addL_nodup x h)
theorem mem_foldA : ∀ (xs l : List Str) (y : Str), y ∈ xs.foldl addL l ↔ y ∈ l ∨ y ∈ xs
  | [], l, y => by simp
  | x :: xs, l, y => by
    show y ∈ xs.foldl addL (addL l x) ↔ _
    rw [mem_foldA xs, mem_addL, List.mem_cons, or_assoc]
theorem foldA_len : ∀ (xs l : List Str), (xs.foldl addL l).length ≤ l.length + xs.length
  | [], l => by simp
  | x :: xs, l => by
    have := foldA_len xs (addL l x)
    have h2 : (addL l x).length ≤ l.length + 1 := by
      unfold addL
      split
      · omega
      · simp
    show (xs.foldl addL (addL l x)).length ≤ _
    rw [List.length_cons]
    omega
section
variable {P : Program} {w : World} {A : Around} {E : Value → Shared → Prop} {s : Shared}
theorem add_old {a : Addr} {T : String} {Z : SD} {l : List Str} {k : Str} {u : Tok} {Q : Bool → Shared → Prop} (ho : s.heap.get? a = some (sObj T Z)) (F : TxOk P w Z l) (hk : k ∈ l) (hb : l.length < scanBound)
    (h : Q false s) : wpAny (model P w) A (setAddHashed a (.str k u) (hashStr w k)) Q E s := by
  obtain ⟨es, ep, t⟩ := Z
  have hd : (sObj T (es, ep, t)).data = .set es ep t := rfl
  have hf : t.fits es.size = true := F.fit
  have hel : ElemsOf (strKind P w) es.toList := F.el
  have hsz : es.size = l.length := F.sz
  have hb0 : es.size < scanBound := by omega
  have hkey : (strKind P w).is k (.str k u) = true := is_str k u
  unfold setAddHashed setAddHashedIn
  refine wpAny_holding (wpAny_bind (wpAny_setState_of ho hd hf ?_))
  dsimp only
  rw [byScan_of rfl hb0 hel]
  simp only [↓reduceIte]
  unfold setAddByScan
  refine wpAny_bind ?_
  refine wpAny_bind (wpAny_rule ?_)
  refine wpAny_bind (wpAny_setScan_of (knd := strKind P w) (k := k) hkey ho hd hf hel ?_)
  cases hr : List.findIdx? (fun e => (strKind P w).is k e.2) es.toList with
  | none =>
    obtain ⟨e, he, hp⟩ := (F.mem k).mp hk
    have := List.findIdx?_eq_none_iff.mp hr e he
    rw [hp] at this
    cases this
  | some j =>
    dsimp only
    exact wpAny_pure (wpAny_pure h)
def SetHere (P : Program) (w : World) (b : Bool) (h : Heap) (a : Addr) (l : List Str) : Prop := ∃ Z : SD, h.get? a = some (sObj "set" Z) ∧ TxOk P w Z l ∧ TabOk b Z
end
section
variable {prog : Program} {w : World} {A : Around} {R : Result → Shared → Prop} {I : Addr} {fp wr : List Addr} {G : Array GenState → Array GenState → Prop} {n : Nat} {Pv : Nat → Value → Prop} {St : Nat → Shared → Prop}
theorem loopTx (W : WalksS prog w A.in1 I fp wr G n Pv St) (S : Addr) (hSf : S ∉ fp) (xs : List Str) (hsz : xs.length = n) (hn1 : n < 1000) {b : Bool}
    (hval : ∀ i v, Pv i v → ∃ t, v = .str (xs.getD i Str.empty) t) :
    ∀ (k i : Nat) (s : Shared), n - i = k → i ≤ n → St i s → SetHere prog w b s.heap S ((xs.take i).foldl addL []) →
      (∀ s', Moved (S :: wr) G s s' → SetHere prog w b s'.heap S (xs.foldl addL []) → R (.ok (.ret .none)) s') →
      codeAny (model prog w) A (.builtin "set.update.loop" ⟨[.ref S, .ref I], []⟩) R s := by
  have hSw : S ∉ wr := fun h => hSf (W.sub _ h)
  have hsub : ∀ b ∈ wr, b ∈ S :: wr := fun b hb => List.mem_cons_of_mem _ hb
  intro k
  induction k with
  | zero =>
    intro i s hk hi hst hS hR
    have hin : i = n := by omega
    subst hin
    refine codeAny_builtin PyProof.Rows.F.entry_set_update_loop ?_
    rw [Around.under_plainId PyProof.Rows.F.plain_set_update_loop _]
    show wpAny _ A.in1 (pyNext (.ref I) >>= _) _ _ s
    refine wpAny_bind (W.done s _ _ hst fun s' hm => ?_)
    show wpAny _ A.in1 (ret Value.none) _ _ s'
    refine wpAny_pure (hR s' (hm.mono hsub) ?_)
    rw [← hsz, List.take_length] at hS
    obtain ⟨Z, ho, rest⟩ := hS
    exact ⟨Z, hm.heap S _ hSw ho, rest⟩
  | succ k ih =>
    intro i s hk hi hst hS hR
    have hlt : i < n := by omega
    refine codeAny_builtin PyProof.Rows.F.entry_set_update_loop ?_
    rw [Around.under_plainId PyProof.Rows.F.plain_set_update_loop _]
    show wpAny _ A.in1 (pyNext (.ref I) >>= _) _ _ s
    refine wpAny_bind (W.item i s _ _ hlt hst fun v s' hP hst' hm => ?_)
    obtain ⟨t, rfl⟩ := hval i v hP
    have e1 : (xs.take (i + 1)).foldl addL [] = addL ((xs.take i).foldl addL []) (xs.getD i Str.empty) := by
      have hi2 : i < xs.length := by omega
      rw [List.take_add_one, List.getElem?_eq_getElem hi2, List.foldl_append, List.getD_eq_getElem?_getD, List.getElem?_eq_getElem hi2]
      rfl
    obtain ⟨Z, ho, F, T⟩ := hS
    have ho' := hm.heap S _ hSw ho
    have lb : ((xs.take i).foldl addL []).length + 1 < scanBound := by
      have := foldA_len (xs.take i) []
      rw [List.length_take, List.length_nil] at this
      unfold scanBound
      omega
    generalize xs.getD i Str.empty = x at e1 ⊢
    show wpAny _ A.in1 (holding [Value.str x t] (setAdd S (.str x t)) >>= _) _ _ s'
    refine wpAny_bind (wpAny_holding ?_)
    unfold setAdd
    refine wpAny_holding ?_
    refine wpAny_bind ((PySem.strKind prog w).pyHash (k := x) (is_str _ _) ?_)
    by_cases hx : x ∈ (xs.take i).foldl addL []
    · refine add_old (s := { s' with toks := s'.toks + 1 }) ho' F hx (by omega) ?_
      refine wpAny_pure ⟨plainId_quiet PyProof.Rows.F.plain_set_update_loop _, ih (i + 1) _ (by omega) hlt (W.frame _ s' _ _ hst' (Nat.le_succ _) fun b hb o e => e) ⟨Z, ho', by rw [e1, addL_old hx]; exact F, T⟩ fun s'' hm'' hS'' => ?_⟩
      exact hR s'' (Moved.trans W.gtrans ((hm.mono hsub).then_heap (Nat.le_succ _) fun b o hb e => e) hm'') hS''
    · refine add_x (s := { s' with toks := s'.toks + 1 }) ho' F hx lb ?_
      have up : ∀ b o, b ≠ S → s'.heap.get? b = some o → (s'.heap.update S (fun _ => sObj "set" (addTx (hashStr w x) (.str x t) Z))).get? b = some o := fun b o ne e => PySem.Heap.get?_update_of_ne _ (Ne.symm ne) e
      refine wpAny_pure ⟨plainId_quiet PyProof.Rows.F.plain_set_update_loop _, ih (i + 1) _ (by omega) hlt (W.frame _ s' _ _ hst' (Nat.le_succ _) fun b hb o e => up b o (fun h => hSf (by rw [← h]; exact hb)) e) ⟨_, Froz.get_upd _ ho' rfl, by rw [e1, addL_new hx]; exact add_ok t F, tab_add _ _ T⟩ fun s'' hm'' hS'' => ?_⟩
      exact hR s'' (Moved.trans W.gtrans ((hm.mono hsub).then_heap (Nat.le_succ _) fun b o hb e => up b o (fun h => hb (by rw [h]; exact List.mem_cons_self)) e) hm'') hS''
end
section
variable {P : Program} {w : World} {A : Around} {E : Value → Shared → Prop} {s : Shared}
set_option maxHeartbeats 8000000 in
theorem call_set_texts {l : Addr} {items : Array Value} {xs : List Str} {Q : Value → Shared → Prop} (quiet : A.handled = none) (hl : s.heap.IsList l items) (hi : StrsAre items.toList xs) (few : xs.length < 64)
    (fin : ∀ (h' : Heap) (tk : Nat), STx P w h' s.heap.objs.size (xs.foldl addL []) → (∀ b o, s.heap.get? b = some o → h'.get? b = some o) → Q (.ref s.heap.objs.size) { s with heap := h', toks := tk }) :
    wpAny (model P w) A (call (.type "set") [.ref l]) Q E s := by
  let lb : Bool := !w.params.followText "set-order"
  let Z0 : SD := (#[], 0, .fresh 0 0 lb)
  obtain ⟨c, tl, hmro⟩ := F.called_set.mro
  have madeF := F.called_set.made
  have subF := F.called_set.sub
  refine wpAny_call (codeAny_of_tree ?_)
  show wpAny _ _ (callAny (.type "set") ⟨[.ref l], []⟩) _ _ s
  refine wpAny_pure ⟨Code.quiet_builtin _ (by decide +kernel), codeAny_builtin F.entry_type_call ?_⟩
  rw [Around.under_plain (weight_type_call_type "set" [.ref l] []) rfl]
  have n1 := F.called_set.notType
  have n2 := F.called_set.canCreate
  have n3 := F.typeCall_set_1 (.ref l)
  repeat (any_goals (first | assumption | wp_step))
  refine codeAny_mono (code_set_led1 (.ref l) (E := E) (Q₁ := fun ob t => ob = .ref s.heap.objs.size ∧ t = { s with heap := s.heap.push (sObj "set" Z0) }) ⟨rfl, rfl⟩) fun r t hr => ?_
  cases r with
  | error e => exact hr
  | ok fl =>
    cases fl with
    | ret ob =>
      obtain ⟨rfl, rfl⟩ := hr
      have here : (s.heap.push (sObj "set" Z0)).get? s.heap.objs.size = some (sObj "set" Z0) := Heap.get?_push_size _ rfl
      have isSet : Shared.TypeIs { s with heap := s.heap.push (sObj "set" Z0) } (.ref s.heap.objs.size) "set" := ⟨_, here, rfl⟩
      have i1 := F.called_set.init.lookup
      have i2 := F.called_set.init.bind (.ref s.heap.objs.size)
      repeat (any_goals (first | assumption | wp_step))
      refine codeAny_mono (codeAny_call_builtin (R := wants (fun r t₂ => r = .none ∧ ∃ h' tk, t₂ = { s with heap := h', toks := tk } ∧ STx P w h' s.heap.objs.size (xs.foldl addL []) ∧
          (∀ b o, s.heap.get? b = some o → h'.get? b = some o)) E) F.called_set.init.plain F.entry_set_init (check_set_init_1 isSet ?_)) fun r₂ t₂ hr₂ => ?_
      · obtain ⟨ol, hol, hcl, nl, hdl⟩ := hl
        obtain ⟨ocls, odict, odata, oslots⟩ := ol
        simp only at hcl hdl
        subst hcl; subst hdl
        have hol' : (s.heap.push (sObj "set" Z0)).get? l = some { cls := .type "list", dict := odict, data := .seq items nl, slots := oslots } := Heap.get?_push_of_some _ hol
        have hsls := PySem.F.sub_list_set
        have hslf := PySem.F.sub_list_frozenset
        have hne : (Value.type "list" == Value.type "dict") = false := by decide
        have hl1 : (s.heap.push (sObj "set" Z0)).IsList l items := ⟨_, hol', rfl, nl, rfl⟩
        unfold Builtin.«set.__init__» noKeywords Builtin.Frozenset.updateFrom
        generalize hPI : pyIter = PI
        wp_walk
        subst hPI
        refine wpAny_pyIter_list hl1 ?_
        refine wpAny_bind (wpAny_runValue ?_)
        have hlS : l < s.heap.objs.size := Heap.lt_size hol
        have hh3 : A.in1.in1.in1.handled = none := by simp [quiet]
        have hneI : l ≠ (s.heap.push (sObj "set" Z0)).objs.size := by
          rw [Heap.size_push]; exact Nat.ne_of_lt (Nat.lt_succ_of_lt hlS)
        have hSf : s.heap.objs.size ∉ [(s.heap.push (sObj "set" Z0)).objs.size, l] := by
          rw [Heap.size_push]; simp only [List.mem_cons, List.mem_singleton, List.not_mem_nil, or_false, not_or]
          exact ⟨Nat.ne_of_lt (Nat.lt_succ_self _), Nat.ne_of_gt hlS⟩
        have hsz : xs.length = items.size := by rw [← StrsAre.len_eq hi, Array.length_toList]
        have hval : ∀ (i : Nat) (v : Value), items[i]? = some v → ∃ t, v = .str (xs.getD i Str.empty) t := fun i v hv => SS.strs_at hi i v (by rw [Array.getElem?_toList]; exact hv)
        have t0 : TxOk P w Z0 [] := TxOk.nil (by rfl)
        have b0 : TabOk lb Z0 := ⟨List.Pairwise.nil, rfl⟩
        refine loopTx (b := lb) ((Walks.list hh3 _ l hneI items).toS) s.heap.objs.size
          hSf xs hsz (by omega) hval (items.size - 0) 0 _ (by omega) (Nat.zero_le _)
          ⟨⟨_, Heap.get?_push_size _ rfl, rfl, rfl⟩, (hl1.push _)⟩ ⟨Z0, Heap.get?_push_of_some _ here, t0, b0⟩ ?hR
        case hR =>
          intro s' hm hS'
          obtain ⟨h', g', d', tk', os'⟩ := s'
          have eg : g' = s.gens := hm.gens
          have ed : d' = s.drawn := hm.drawn
          have eo : os' = s.os := hm.os
          subst eg; subst ed; subst eo
          show wpAny _ _ _ _ _ _
          refine wpAny_pure ?_
          show wpAny _ _ (ret Value.none) _ _ _
          obtain ⟨Z, z1, z2, z3⟩ := hS'
          refine wpAny_pure ⟨rfl, h', tk', rfl, ⟨Z, z1, z2, ?_, z3⟩, fun b o e => ?_⟩
          · have := foldA_len xs []
            rw [List.length_nil] at this
            omega
          · have hb := Heap.lt_size e
            have hb1 : b ≠ s.heap.objs.size := Nat.ne_of_lt hb
            have hb2 : b ≠ (s.heap.push (sObj "set" Z0)).objs.size := by
              rw [Heap.size_push]; exact Nat.ne_of_lt (Nat.lt_succ_of_lt hb)
            exact hm.heap b o (by simp only [List.mem_cons, List.mem_singleton, List.not_mem_nil, or_false, not_or]; exact ⟨hb1, hb2⟩) (Heap.get?_push_of_some _ (Heap.get?_push_of_some _ e))
      · cases r₂ with
        | error e => exact hr₂
        | ok fl₂ =>
          cases fl₂ with
          | ret r =>
            obtain ⟨rfl, h', tk, rfl, z1, z2⟩ := hr₂
            repeat (any_goals (first | assumption | wp_step))
            exact fin _ _ z1 z2
          | _ => exact hr₂.elim
    | _ => exact hr.elim
end
/-! ### the rules -/
def rSetTxs (K : PySem.W.Frag) (P : Program) (w : World) : List V → Hp → VK → Prop := fun xs H Q => ∃ (a : Addr) (ys : List Str), xs = [.ref a] ∧ SqL K H a (ys.map V.str) ∧ ys.length < 64 ∧
  ∀ p, H p = none → Q (.ref p) (upd H p (SetTx P w p (ys.foldl addL [])))
def rLenTx (P : Program) (w : World) : List V → Hp → VK → Prop := fun xs H Q => ∃ (a : Addr) (l : List Str), xs = [.ref a] ∧ H a = some (SetTx P w a l) ∧ Q (.int ((l.length : Nat) : Int)) H
section
variable {X : Cx}
theorem cr_setTxs (hc : X.calm = true) : CallR X (.type "set") (rSetTxs X.K X.prog X.w) := by
  intro pins s σ H xs us Q I r h
  obtain ⟨a, ys, rfl, hl, few, q⟩ := h
  rw [Vals.ref1 r]
  obtain ⟨its, rv, pl, hz⟩ := I.list hl
  refine call_set_texts (I.ok.hd hc) pl.isList (by simpa using L2.strsAre_of rv) few fun h' tk R keep => ?_
  have ob : ObjOk X.prog X.w (upd H s.heap.objs.size (SetTx X.prog X.w s.heap.objs.size (ys.foldl addL []))) h' s.heap.objs.size (SetTx X.prog X.w s.heap.objs.size (ys.foldl addL [])) := by
    have R2 := R
    obtain ⟨Z, e, _⟩ := R2
    exact ⟨R, ⟨_, e⟩, fun h1 h2 p k => stx_at p k⟩
  exact ⟨.ref _, _, I.laid (t' := tk) keep (Nat.le_refl _) ob, rfl, q _ (I.hok.fresh (Nat.le_refl _))⟩
theorem cr_lenTx : CallR X (.builtin "len") (rLenTx X.prog X.w) := by
  intro pins s σ H xs us Q I r h
  obtain ⟨a, l, rfl, ha, q⟩ := h
  rw [Vals.ref1 r]
  have R : STx X.prog X.w s.heap a l := (I.hok a _ ha).1
  obtain ⟨⟨es, ep, tb⟩, here, T, few, tabs⟩ := R
  have sz : es.size = l.length := T.sz
  have fit : tb.fits es.size = true := T.fit
  refine call_len_set here ⟨rfl, rfl, rfl⟩ rfl fit (by rw [sz] <;> omega) ⟨.int l.length, H, I.tok _, ⟨_, by rw [sz]⟩, q⟩
end
end KS
end
namespace KS
open PySem
/-! ### numbers: the mathematics -/
abbrev Pair := Int × Nat
abbrev NumP := Nat × Int
def upOf (g : Int → List NumP) : List Int → List NumP
  | [] => []
  | e :: _ => g e
def fresh (A : List Pair) (k : Int) (up : List NumP) (c : Nat) : Bool := decide ((k, c) ∈ A) && !decide (c ∈ up.map (·.1))
def more (A : List Pair) (k : Int) (up : List NumP) : List NumP := (abc.filter (fresh A k up)).map fun c => (c, k)
def numF : Nat → Fam → List Pair → Int → List NumP
  | 0, _, _, _ => []
  | n + 1, f, A, k => upOf (numF n f A) (plain f k) ++ more A k (upOf (numF n f A) (plain f k))
theorem upOf_congr {g h : Int → List NumP} : ∀ {l : List Int}, (∀ e ∈ l, g e = h e) → upOf g l = upOf h l
  | [], _ => rfl
  | e :: _, H => H e List.mem_cons_self
theorem numF_fuel {f : Fam} (L : Low f) (A : List Pair) : ∀ (n m : Nat) (k : Int), 0 ≤ k → k < n → k < m → numF n f A k = numF m f A k
  | 0, _, k, h0, h1, _ => by have : ((0 : Nat) : Int) = 0 := rfl; omega
  | _ + 1, 0, k, h0, _, h2 => by have : ((0 : Nat) : Int) = 0 := rfl; omega
  | n + 1, m + 1, k, h0, h1, h2 => by
    have e : upOf (numF n f A) (plain f k) = upOf (numF m f A) (plain f k) := upOf_congr fun e he => by
      have := plain_low L he
      exact numF_fuel L A n m e this.1 (by omega) (by omega)
    unfold numF
    rw [e]
theorem more_names (A : List Pair) (k : Int) (up : List NumP) : (more A k up).map (·.1) = abc.filter (fresh A k up) := by
  unfold more
  rw [List.map_map]
  exact (List.map_congr_left fun c _ => rfl).trans (List.map_id _)
def NamesOk (l : List NumP) : Prop := (l.map (·.1)).Nodup ∧ ∀ c ∈ l.map (·.1), c ∈ abc
theorem names_more {A : List Pair} {k : Int} {up : List NumP} (h : NamesOk up) : NamesOk (up ++ more A k up) := by
  unfold NamesOk
  rw [List.map_append, more_names]
  refine ⟨List.nodup_append.mpr ⟨h.1, List.Pairwise.filter _ (by decide), fun a ha b hb e => ?_⟩, fun c hc => ?_⟩
  · subst e
    have := (List.mem_filter.mp hb).2
    unfold fresh at this
    rw [Bool.and_eq_true, Bool.not_eq_true', decide_eq_false_iff_not] at this
    exact this.2 ha
  · rcases List.mem_append.mp hc with hc | hc
    · exact h.2 c hc
    · exact (List.mem_filter.mp hc).1
theorem names_numF (f : Fam) (A : List Pair) : ∀ (n : Nat) (k : Int), NamesOk (numF n f A k)
  | 0, _ => ⟨List.nodup_nil, fun _ h => nomatch h⟩
  | n + 1, k => by
    unfold numF
    refine names_more ?_
    cases plain f k with
    | nil => exact ⟨List.nodup_nil, fun _ h => nomatch h⟩
    | cons e r => exact names_numF f A n e
theorem names_len {l : List NumP} (h : NamesOk l) : l.length ≤ 6 := by
  have go : ∀ (l m : List Nat), l.Nodup → (∀ c ∈ l, c ∈ m) → l.length ≤ m.length := by
    intro l
    induction l with
    | nil => intro m _ _; exact Nat.zero_le _
    | cons x l ih =>
      intro m nd sub
      obtain ⟨n1, n2⟩ := List.nodup_cons.mp nd
      have hx := sub x List.mem_cons_self
      have := ih (m.erase x) n2 fun y hy => (List.mem_erase_of_ne (fun e => n1 (by rw [← e]; exact hy))).mpr (sub y (List.mem_cons_of_mem _ hy))
      rw [List.length_erase_of_mem hx] at this
      have := List.length_pos_of_mem hx
      rw [List.length_cons]
      omega
  have := go _ abc h.1 h.2
  rw [List.length_map] at this
  exact this
theorem numF_congr {f : Fam} {A B : List Pair} (h : ∀ p, p ∈ A ↔ p ∈ B) : ∀ (n : Nat) (k : Int), numF n f A k = numF n f B k
  | 0, _ => rfl
  | n + 1, k => by
    have e : upOf (numF n f A) (plain f k) = upOf (numF n f B) (plain f k) := upOf_congr fun e _ => numF_congr h n e
    have e2 : ∀ up, more A k up = more B k up := fun up => by
      unfold more
      congr 1
      refine List.filter_congr fun c _ => ?_
      unfold fresh
      rw [decide_eq_decide.mpr (h (k, c))]
    unfold numF
    rw [e, e2]
/-- the way up to the asker of a deed -/
def roadF : Nat → Fam → List Pair → Int → Nat → List Int
  | 0, _, _, _, _ => []
  | n + 1, f, A, k, c => k :: (if (c, k) ∈ numF NN f A k then [] else match plain f k with
    | [] => []
    | e :: _ => roadF n f A e c)
def knowsN (f : Fam) (A : List Pair) (k : Int) (c : Nat) : Bool := decide (c ∈ (numF NN f A k).map (·.1))
def reasonF (f : Fam) (A : List Pair) (k : Int) (c : Nat) : Option (List Int) := if c ∈ (numF NN f A k).map (·.1) then some (roadF NN f A k c) else none
theorem numF_split {n : Nat} {f : Fam} {A : List Pair} {k : Int} {c : Nat} {a : Int} (h : (c, a) ∈ numF (n + 1) f A k) : (a = k ∧ c ∈ abc ∧ (k, c) ∈ A) ∨ ∃ e r, plain f k = e :: r ∧ (c, a) ∈ numF n f A e := by
  unfold numF at h
  rcases List.mem_append.mp h with h | h
  · cases hp : plain f k with
    | nil => rw [hp] at h; cases h
    | cons e r => rw [hp] at h; exact .inr ⟨e, r, rfl, h⟩
  · obtain ⟨d, hd, e⟩ := List.mem_map.mp h
    obtain ⟨h1, h2⟩ := List.mem_filter.mp hd
    unfold fresh at h2
    rw [Bool.and_eq_true, decide_eq_true_eq] at h2
    have e1 : d = c := congrArg Prod.fst e
    have e2 : k = a := congrArg Prod.snd e
    subst e1
    exact .inl ⟨e2.symm, h1, h2.1⟩
theorem numF_asker_le {f : Fam} (L : Low f) {A : List Pair} : ∀ (n : Nat) (k : Int) (c : Nat) (a : Int), (c, a) ∈ numF n f A k → a ≤ k
  | 0, _, _, _, h => nomatch h
  | n + 1, k, c, a, h => by
    rcases numF_split h with ⟨e, _⟩ | ⟨e, r, hp, h⟩
    · omega
    · have := plain_low L (k := k) (e := e) (by rw [hp]; exact List.mem_cons_self)
      have := numF_asker_le L n e c a h
      omega
/-- what is told of the first plain elder is told of the kind -/
theorem numF_up {n : Nat} {f : Fam} {A : List Pair} {k e : Int} {r : List Int} (hp : plain f k = e :: r) : ∃ t, numF (n + 1) f A k = numF n f A e ++ t := by
  show ∃ t, upOf (numF n f A) (plain f k) ++ KS.more A k (upOf (numF n f A) (plain f k)) = numF n f A e ++ t
  rw [hp]
  exact ⟨_, rfl⟩
theorem asker_uniq {l : List NumP} (h : NamesOk l) {c : Nat} {a b : Int} (ha : (c, a) ∈ l) (hb : (c, b) ∈ l) : a = b := by
  obtain ⟨i, hi⟩ := List.getElem?_of_mem ha
  obtain ⟨j, hj⟩ := List.getElem?_of_mem hb
  have h1 : (l.map (·.1))[i]? = some c := by rw [List.getElem?_map, hi]; rfl
  have h2 : (l.map (·.1))[j]? = some c := by rw [List.getElem?_map, hj]; rfl
  have := (List.getElem?_inj (List.getElem?_eq_some_iff.mp h1).1 h.1).mp (h1.trans h2.symm)
  subst this
  rw [hi] at hj
  exact congrArg Prod.snd (Option.some.inj hj)
/-- a step up the road -/
theorem road_step {f : Fam} (L : Low f) {A : List Pair} {k a : Int} {c : Nat} (k0 : 0 ≤ k) (k16 : k < 16) (h : (c, a) ∈ numF NN f A k) (n : Nat) :
    (k = a ∧ roadF (n + 1) f A k c = [k]) ∨ (k ≠ a ∧ ∃ e r, plain f k = e :: r ∧ 0 ≤ e ∧ e < k ∧ (c, a) ∈ numF NN f A e ∧ roadF (n + 1) f A k c = k :: roadF n f A e c) := by
  by_cases hk : k = a
  · subst hk
    refine .inl ⟨rfl, ?_⟩
    show k :: _ = _
    rw [if_pos h]
  · refine .inr ⟨hk, ?_⟩
    have no : ¬ (c, k) ∈ numF NN f A k := fun z => hk (asker_uniq (names_numF f A NN k) z h)
    rcases numF_split (n := 15) h with ⟨e, _⟩ | ⟨e, r, hp, h2⟩
    · exact absurd e.symm hk
    · have pl := plain_low L (k := k) (e := e) (by rw [hp]; exact List.mem_cons_self)
      refine ⟨e, r, hp, pl.1, pl.2, ?_, ?_⟩
      · rw [numF_fuel L A NN 15 e pl.1 (by show e < (16 : Int); omega) (by show e < (15 : Int); omega)]
        exact h2
      · show k :: _ = _
        rw [if_neg no, hp]
/-- the askers of a deed among the numbers -/
theorem askers_of {l : List NumP} {c : Nat} : (l.filter fun p => decide (p.1 = c)) = [] ↔ ¬ c ∈ l.map (·.1) := by
  rw [List.filter_eq_nil_iff]
  constructor
  · intro h z
    obtain ⟨p, hp, e⟩ := List.mem_map.mp z
    exact h p hp (decide_eq_true e)
  · intro h p hp z
    exact h (List.mem_map.mpr ⟨p, hp, of_decide_eq_true z⟩)
end KS
noncomputable section
namespace KS
open PySem PySem.Spec PyProof.Rows L2 Evl
open RZ (tLenSetI pe_lenSetI)
/-! ### lists of new lists -/
inductive LL (H0 H : Hp) (l : Addr) : List V → List (List PyData) → Prop
  | nil : LL H0 H l [] []
  | cons {p : Addr} {xs vs : List V} {ds : List PyData} {rs : List (List PyData)} : H0 p = none → p ≠ l → H p = some (.lst xs) → DA H xs ds → flatTs ds = true → LL H0 H l vs rs → LL H0 H l (.ref p :: vs) (ds :: rs)
section
variable {H0 H H' : Hp} {l : Addr}
theorem LL.mono (e : Ex H H') : ∀ {vs : List V} {rs : List (List PyData)}, LL H0 H l vs rs → LL H0 H' l vs rs
  | _, _, .nil => .nil
  | _, _, .cons a b c d f t => .cons a b (e _ _ c) (d.mono e) f (t.mono e)
theorem LL.put {zs ws : List V} (h : H l = some (.lst zs)) : ∀ {vs : List V} {rs : List (List PyData)}, LL H0 H l vs rs → LL H0 (upd H l (.lst ws)) l vs rs
  | _, _, .nil => .nil
  | _, _, .cons a b c d f t => .cons a b (by rw [upd_ne b]; exact c) (DA.keep (tu_upd h) f d) f (t.put h)
theorem LL.snoc {p : Addr} {xs : List V} {ds : List PyData} (a : H0 p = none) (b : p ≠ l) (c : H p = some (.lst xs)) (d : DA H xs ds) (f : flatTs ds = true) : ∀ {vs : List V} {rs : List (List PyData)}, LL H0 H l vs rs → LL H0 H l (vs ++ [.ref p]) (rs ++ [ds])
  | _, _, .nil => .cons a b c d f .nil
  | _, _, .cons a' b' c' d' f' t => .cons a' b' c' d' f' (t.snoc a b c d f)
theorem LL.da : ∀ {vs : List V} {rs : List (List PyData)}, LL H0 H l vs rs → DA H vs (rs.map PyData.list)
  | _, _, .nil => .nil
  | _, _, .cons _ _ c d _ t => .cons (.lst c d) t.da
theorem LL.len : ∀ {vs : List V} {rs : List (List PyData)}, LL H0 H l vs rs → vs.length = rs.length
  | _, _, .nil => rfl
  | _, _, .cons _ _ _ _ _ t => congrArg (· + 1) t.len
theorem LL.low {H1 : Hp} (e : Ex H0 H1) : ∀ {vs : List V} {rs : List (List PyData)}, LL H1 H l vs rs → LL H0 H l vs rs
  | _, _, .nil => .nil
  | _, _, .cons a b c d f t => .cons (fresh_back e a) b c d f (t.low e)
theorem LL.at : ∀ {vs : List V} {rs : List (List PyData)} {i : Nat} {ds : List PyData}, LL H0 H l vs rs → rs[i]? = some ds → ∃ p xs, vs[i]? = some (.ref p) ∧ H0 p = none ∧ p ≠ l ∧ H p = some (.lst xs) ∧ DA H xs ds
  | _, _, _, _, .nil, e => by simp at e
  | _, _, 0, _, .cons a b c d f t, e => by
    simp at e; subst e; exact ⟨_, _, rfl, a, b, c, d⟩
  | _, _, i + 1, ds, .cons a b c d f t, e => by
    obtain ⟨p, xs, h1, h2⟩ := t.at (i := i) (ds := ds) (by simpa using e)
    exact ⟨p, xs, by simpa using h1, h2⟩
end
section
variable {σ : L2.St} {H : Hp} {ds : List PyData}
theorem s_call {sp : Sp} {E : XK} {ta : TA} {g : TG} {Dn : Ends} (h : EAs ta σ H ds) (k : ∀ vs H1, Ex H H1 → DA H1 vs ds → sp vs H1 (fun v H2 => g v σ H2 Dn.nx) E) : tAsg (tCall sp [] E ta) g Dn σ H := h H (Ex.refl H) _ fun vs H1 e hv => (List.append_nil vs).symm ▸ k vs H1 e hv
theorem s_callOp {sp : Sp} {E : XK} {ta : TA} {tb : TE} {r : R2} {g : TG} {Dn : Ends} (h : EAs ta σ H ds) (k : ∀ vs H1, Ex H H1 → DA H1 vs ds → sp vs H1 (fun v H2 => tb σ H2 fun y H3 => r v y H3 fun z H4 => g z σ H4 Dn.nx) E) : tAsg (tOp r (tCall sp [] E ta) tb) g Dn σ H := h H (Ex.refl H) _ fun vs H1 e hv => (List.append_nil vs).symm ▸ k vs H1 e hv
end
def rLenK (K : PySem.W.Frag) : List L2.V → Hp → VK → Prop := fun xs H Q => ∃ x n, xs = [x] ∧ LenV K x H n ∧ Q (.int ((n : Nat) : Int)) H
theorem DA.args4 {H : Hp} {vs : List V} {a b c e : PyData} (h : DA H vs [a, b, c, e]) : ∃ x y z u, vs = [x, y, z, u] ∧ D H x a ∧ D H y b ∧ D H z c ∧ D H u e := by
  cases h with
  | cons h t =>
    obtain ⟨y, z, u, rfl, hy, hz, hu⟩ := t.args3
    exact ⟨_, _, _, _, rfl, h, hy, hz, hu⟩
theorem DA.args5 {H : Hp} {vs : List V} {a b c e f : PyData} (h : DA H vs [a, b, c, e, f]) : ∃ x y z u v, vs = [x, y, z, u, v] ∧ D H x a ∧ D H y b ∧ D H z c ∧ D H u e ∧ D H v f := by
  cases h with
  | cons h t =>
    obtain ⟨y, z, u, v, rfl, hy, hz, hu, hv⟩ := t.args4
    exact ⟨_, _, _, _, _, rfl, h, hy, hz, hu, hv⟩
theorem eas3 {σ : L2.St} {H : Hp} {ta tb tc : TE} {a b c : PyData} (h1 : ED ta σ H a) (h2 : ED tb σ H b) (h3 : ED tc σ H c) : EAs (tCons ta (tCons tb (tCons tc tNil))) σ H [a, b, c] := eas_cons h1 (eas2 h2 h3)
theorem eas4 {σ : L2.St} {H : Hp} {ta tb tc td : TE} {a b c d : PyData} (h1 : ED ta σ H a) (h2 : ED tb σ H b) (h3 : ED tc σ H c) (h4 : ED td σ H d) : EAs (tCons ta (tCons tb (tCons tc (tCons td tNil)))) σ H [a, b, c, d] := eas_cons h1 (eas3 h2 h3 h4)
theorem eas5 {σ : L2.St} {H : Hp} {ta tb tc td te : TE} {a b c d e : PyData} (h1 : ED ta σ H a) (h2 : ED tb σ H b) (h3 : ED tc σ H c) (h4 : ED td σ H d) (h5 : ED te σ H e) : EAs (tCons ta (tCons tb (tCons tc (tCons td (tCons te tNil))))) σ H [a, b, c, d, e] := eas_cons h1 (eas4 h2 h3 h4 h5)
section
variable {K : PySem.W.Frag} {σ : L2.St} {H H' : Hp} {ta tb : TE} {ds es : List PyData}
theorem el_cat (ha : ED ta σ H (.list ds)) (hb : ED tb σ H (.list es)) (hz : ds.length + es.length ≤ 10000000) : EL (tOp rCat ta tb) σ H (ds ++ es) := fun H1 e Q q =>
  ha H1 e _ fun x H2 e2 hx => hb H2 (e.trans e2) _ fun y H3 e3 hy => by
    obtain ⟨p, xs, rfl, h1, a1⟩ := (hx.mono e3).toLst
    obtain ⟨r, ys, rfl, h2, a2⟩ := hy.toLst
    refine ⟨p, r, xs, ys, rfl, rfl, h1, h2, ?_, fun t nt => ?_⟩
    · rw [a1.len, a2.len]
      show _ ≤ 16777216
      omega
    · exact q t _ _ (fresh_back (e2.trans e3) nt) ((e2.trans e3).trans (Ex.new nt)) upd_same ((a1.append a2).mono (Ex.new nt))
end
theorem ed_m1 {σ : L2.St} {H : Hp} {i : Int} : ED (tUn (rU fun i => .int (-i)) (tC (.int i))) σ H (.int (-i)) := fun H2 e Q q => ⟨i, rfl, q _ H2 (Ex.refl _) (.int _)⟩
/-- a while by a measure that its invariant carries -/
theorem while_ev {c : TT} {tb : TS} {Dn : Ends} {σ : L2.St} {H : Hp} (Pv : Nat → L2.St → Hp → Prop) (m0 : Nat) (h0 : Pv m0 σ H)
    (hs : ∀ m σ H, Pv m σ H → ∃ b, EvT c σ H b ∧ (b = true → ∀ H1, Ex H H1 → tb { Dn with nx := fun σ' H' => ∃ m', m' < m ∧ Pv m' σ' H', ct := fun σ' H' => ∃ m', m' < m ∧ Pv m' σ' H', bk := Dn.nx } σ H1) ∧ (b = false → ∀ H1, Ex H H1 → Dn.nx σ H1)) : tWhile c tb Dn σ H :=
  ⟨Pv, ⟨m0, h0⟩, fun m σ H p => by
    obtain ⟨b, e, h1, h2⟩ := hs m σ H p
    refine e H (Ex.refl H) _ fun H1 e1 => ?_
    cases b with
    | true => exact ⟨_, fun σ' H' q => q, h1 rfl H1 e1⟩
    | false => exact h2 rfl H1 e1⟩
/-- a new list of new lists -/
def ELL (te : TE) (σ : L2.St) (H : Hp) (rs : List (List PyData)) : Prop := ∀ H1, Ex H H1 → ∀ Q : VK, (∀ p acc H2, H1 p = none → Ex H1 H2 → H2 p = some (.lst acc) → LL H1 H2 p acc rs → Q (.ref p) H2) → te σ H1 Q
def spLL (R : List PyData → List (List PyData) → Prop) : Sp := fun vs H Q _ => ∃ ds rs, DA H vs ds ∧ R ds rs ∧ ∀ p acc H', H p = none → Ex H H' → H' p = some (.lst acc) → LL H H' p acc rs → Q (.ref p) H'
theorem spLL_len {R : List PyData → List (List PyData) → Prop} {n : Nat} (h : ∀ ds d, R ds d → ds.length = n) : ∀ vs H Q E, spLL R vs H Q E → vs.length = n := fun vs H Q E ⟨ds, d, ha, r, _⟩ => ha.len.trans (h ds d r)
section
variable {K : PySem.W.Frag} {σ : L2.St} {H H' : Hp} {ta tb te tl : TE} {t u tt : TT} {v : V} {r : R2} {d d' z : PyData} {ds es : List PyData} {rs : List (List PyData)} {Dn : Ends}
theorem ELL.ed (h : ELL te σ H rs) : ED te σ H (.list (rs.map PyData.list)) := fun H1 e Q q => h H1 e Q fun p xs H2 _ e2 h2 a => q _ H2 e2 (.lst h2 a.da)
theorem ell_call {R : List PyData → List (List PyData) → Prop} {E : XK} {ta : TA} (h : EAs ta σ H ds) (hR : R ds rs) : ELL (tCall (spLL R) [] E ta) σ H rs := fun H1 e Q q =>
  h H1 e _ fun vs H2 e2 ha => ⟨ds, rs, by rw [List.append_nil]; exact ha, hR, fun p xs H3 hp e3 hv a => q p xs H3 (fresh_back e2 hp) (e2.trans e3) hv (a.low e2)⟩
theorem sll_asg {i : Nat} (h : ELL te σ H rs) (k : ∀ p acc H1, H p = none → Ex H H1 → H1 p = some (.lst acc) → LL H H1 p acc rs → Dn.nx (σ.set i (some (.ref p))) H1) : tAsg te (gName i) Dn σ H := h H (Ex.refl H) _ k
theorem sll_ret (h : ELL te σ H rs) (k : ∀ p acc H1, H p = none → Ex H H1 → H1 p = some (.lst acc) → LL H H1 p acc rs → Dn.rt (.ref p) H1) : tRet te Dn σ H := h H (Ex.refl H) _ k
theorem el_if {b : Bool} (h : EvT t σ H b) (h1 : b = true → EL ta σ H ds) (h2 : b = false → EL tb σ H ds) : EL (tIf t ta tb) σ H ds := fun H1 e Q q => h H1 e _ fun H2 e2 => by
  cases b with
  | true => exact h1 rfl H2 (e.trans e2) Q fun p xs H3 np e3 hp ha => q p xs H3 (fresh_back e2 np) (e2.trans e3) hp ha
  | false => exact h2 rfl H2 (e.trans e2) Q fun p xs H3 np e3 hp ha => q p xs H3 (fresh_back e2 np) (e2.trans e3) hp ha
def rListOf (K : PySem.W.Frag) : List V → Hp → VK → Prop := fun xs H Q => ∃ p ys, xs = [.ref p] ∧ (SqL K H p ys ∨ SqT K H p ys) ∧ ∀ l, H l = none → Q (.ref l) (upd H l (.lst ys))
theorem el_listL (ha : ED ta σ H (.list ds)) : EL (tCB (rListOf K) (tCons ta tNil)) σ H ds := fun H1 e Q q =>
  ha H1 e _ fun x H2 e2 hx => by
    obtain ⟨a, xs, rfl, h, t⟩ := hx.toLst
    exact ⟨a, xs, rfl, .inl (SqL.of h), fun l nl => q l xs _ (fresh_back e2 nl) (e2.trans (Ex.new nl)) upd_same (t.mono (Ex.new nl))⟩
theorem el_listT (ha : ED ta σ H (.tuple ds)) : EL (tCB (rListOf K) (tCons ta tNil)) σ H ds := fun H1 e Q q =>
  ha H1 e _ fun x H2 e2 hx => by
    obtain ⟨a, xs, rfl, h, t⟩ := hx.toTup
    exact ⟨a, xs, rfl, .inr (SqT.of h), fun l nl => q l xs _ (fresh_back e2 nl) (e2.trans (Ex.new nl)) upd_same (t.mono (Ex.new nl))⟩
def LW2 (H1 : Hp) (Dl : Addr) (rs : List (List PyData)) (H' : Hp) : Prop := H1 Dl = none ∧ Ex H1 H' ∧ ∃ acc, H' Dl = some (.lst acc) ∧ LL H1 H' Dl acc rs
theorem lw_step {H1 H' : Hp} {Dl : Addr} {σ2 : L2.St} (p : LW2 H1 Dl rs H') (hz : rs.length < 50000) (fl : flatTs ds = true) (he : EL te σ2 H1 ds) :
    tYes σ2 H' fun c H3 => if c = true then te σ2 H3 fun y H4 => ∃ acc, H4 Dl = some (.lst acc) ∧ acc.length < sizeLine ∧ LW2 H1 Dl (rs ++ [ds]) (upd H4 Dl (.lst (acc ++ [y]))) else LW2 H1 Dl (rs ++ [ds]) H3 := by
  obtain ⟨p1, p2, acc, p3, p4⟩ := p
  refine (et_yes : EvT tYes σ2 H' true) H' (Ex.refl _) _ fun H3 e3 => ?_
  rw [if_pos rfl]
  refine he H3 (p2.trans e3) _ fun p xs H4 np e4 hp hd => ⟨acc, e4 _ _ (e3 _ _ p3), sz_lt (by rw [p4.len]; omega), p1, Ex.mut ((p2.trans e3).trans e4) p1, acc ++ [.ref p], upd_same, ?_⟩
  have hD := e4 _ _ (e3 _ _ p3)
  have ne : p ≠ Dl := (ne_of_none (e3 _ _ p3) np).symm
  exact LL.snoc (fresh_back (p2.trans e3) np) ne (by rw [upd_ne ne]; exact hp) (DA.keep (tu_upd hD) fl hd) fl (((p4.mono e3).mono e4).put hD)
theorem take_map1 {α : Type} {ds : List α} {i : Nat} {d : α} (g : α → List PyData) (h : ds[i]? = some d) : (ds.take (i + 1)).map g = (ds.take i).map g ++ [g d] := by
  rw [List.take_add_one, h]
  show (ds.take i ++ [d]).map g = _
  rw [List.map_append]; rfl
/-- over a list of data of any kind -/
theorem el_lcL2 {α : Type} {as : List α} {enc : α → PyData} {g : TG} {vs : List Nat} (f : α → Bool) (ge : α → PyData) (h : ED tl σ H (.list (as.map enc))) (hz : as.length ≤ 40000) (fl : ∀ a ∈ as, f a = true → flatT (ge a) = true)
    (hg : ∀ a ∈ as, ∀ x H1, Ex H H1 → D H1 x (enc a) → ∃ σ2, wipe σ2 vs = wipe σ vs ∧ (∀ H2, Ex H1 H2 → ∀ R : L2.St → Hp → Prop, R σ2 H2 → g x (wipe σ vs) H2 R) ∧ EvT tt σ2 H1 (f a) ∧ (f a = true → ED te σ2 H1 (ge a))) :
    EL (tLc (iList K tl) g tt te vs) σ H ((as.filter f).map ge) := fun H0 e Q q => h H0 e _ fun x H1 e1 hx => by
  obtain ⟨p, xs, rfl, hp, ha⟩ := hx.toLst
  refine ⟨p, rfl, ⟨xs, SqL.of hp⟩, fun Dl hD => ?_⟩
  have xl : xs.length = as.length := by rw [ha.len, List.length_map]
  refine lc_list (xs := xs) (fun i H' => CW H1 Dl (((as.take i).filter f).map ge) H') ⟨hD, Ex.new hD, [], upd_same, .nil⟩ (fun i H' _ c => SqL.of (c.2.1 _ _ hp)) (fun i y H' hi c => ?_) (fun H' c => ?_)
  · obtain ⟨dd, hd, hy⟩ := ha.get2 hi
    obtain ⟨a, h1, h2⟩ : ∃ a, as[i]? = some a ∧ dd = enc a := by
      rw [List.getElem?_map] at hd
      cases k : as[i]? with
      | none => rw [k] at hd; cases hd
      | some a => rw [k] at hd; exact ⟨a, rfl, (Option.some.inj hd).symm⟩
    subst h2
    have am := List.mem_of_getElem? h1
    obtain ⟨σ2, w1, w2, w3, w4⟩ := hg a am y H1 (e.trans e1) hy
    refine w2 H' c.2.1 _ ⟨w1, ?_⟩
    have st := cw_step (te := te) (tt := tt) (σ2 := σ2) (d := ge a) c (by have := fm_len (as.take i) f ge; rw [List.length_take] at this; omega) (flat_fm _ f ge fun d hd => fl d (List.mem_of_mem_take hd)) w3 (fun hb => ⟨w4 hb, fl a am hb⟩)
    rw [← take_fm f ge h1] at st
    exact st
  · rw [xl, List.take_length] at c
    obtain ⟨c1, c2, acc, c3, c4⟩ := c
    exact q Dl acc H' (fresh_back e1 hD) (e1.trans c2) c3 c4
/-- a new list for each item of a list -/
theorem el_lcLN {α : Type} {as : List α} {enc : α → PyData} {g : TG} {vs : List Nat} (ge : α → List PyData) (h : ED tl σ H (.list (as.map enc))) (hz : as.length ≤ 40000) (fl : ∀ a ∈ as, flatTs (ge a) = true)
    (hg : ∀ a ∈ as, ∀ x H1, Ex H H1 → D H1 x (enc a) → ∃ σ2, wipe σ2 vs = wipe σ vs ∧ (∀ H2, Ex H1 H2 → ∀ R : L2.St → Hp → Prop, R σ2 H2 → g x (wipe σ vs) H2 R) ∧ EL te σ2 H1 (ge a)) :
    ELL (tLc (iList K tl) g tYes te vs) σ H (as.map ge) := fun H0 e Q q => h H0 e _ fun x H1 e1 hx => by
  obtain ⟨p, xs, rfl, hp, ha⟩ := hx.toLst
  refine ⟨p, rfl, ⟨xs, SqL.of hp⟩, fun Dl hD => ?_⟩
  have xl : xs.length = as.length := by rw [ha.len, List.length_map]
  refine lc_list (xs := xs) (fun i H' => LW2 H1 Dl ((as.take i).map ge) H') ⟨hD, Ex.new hD, [], upd_same, .nil⟩ (fun i H' _ c => SqL.of (c.2.1 _ _ hp)) (fun i y H' hi c => ?_) (fun H' c => ?_)
  · obtain ⟨dd, hd, hy⟩ := ha.get2 hi
    obtain ⟨a, h1, h2⟩ : ∃ a, as[i]? = some a ∧ dd = enc a := by
      rw [List.getElem?_map] at hd
      cases k : as[i]? with
      | none => rw [k] at hd; cases hd
      | some a => rw [k] at hd; exact ⟨a, rfl, (Option.some.inj hd).symm⟩
    subst h2
    have am := List.mem_of_getElem? h1
    obtain ⟨σ2, w1, w2, w4⟩ := hg a am y H1 (e.trans e1) hy
    refine w2 H' c.2.1 _ ⟨w1, ?_⟩
    have st := lw_step (te := te) (σ2 := σ2) (ds := ge a) c (by rw [List.length_map, List.length_take]; omega) (fl a am) w4
    rw [← take_map1 ge h1] at st
    exact st
  · rw [xl, List.take_length] at c
    obtain ⟨c1, c2, acc, c3, c4⟩ := c
    exact q Dl acc H' (fresh_back e1 hD) (e1.trans c2) c3 (c4.low e1)
/-- a new list for each number of a range -/
theorem el_lcRN {ta : TA} {n : Nat} {g : TG} {vs : List Nat} (ge : Nat → List PyData) (h : EAs ta σ H [.int (n : Int)]) (hz : n ≤ 40000) (fl : ∀ i, i < n → flatTs (ge i) = true)
    (hg : ∀ i, i < n → ∀ H1, Ex H H1 → ∃ σ2, wipe σ2 vs = wipe σ vs ∧ (∀ H2, Ex H1 H2 → ∀ R : L2.St → Hp → Prop, R σ2 H2 → g (.int (i : Int)) (wipe σ vs) H2 R) ∧ EL te σ2 H1 (ge i)) :
    ELL (tLc (iRng1 ta) g tYes te vs) σ H ((List.range n).map ge) := fun H0 e Q q => h H0 e _ fun xs H1 e1 hx => by
  obtain ⟨x, rfl, hx1⟩ := hx.args1
  have ex := hx1.toInt
  subst ex
  refine ⟨(n : Int), rfl, by omega, by omega, fun Dl hD => ?_⟩
  refine lc_range (lo := 0) (n := n) (fun i H' => LW2 H1 Dl (((List.range n).take i).map ge) H') ⟨hD, Ex.new hD, [], upd_same, .nil⟩ (fun i H' hi c => ?_) (fun H' c => ?_)
  · have h1 : (List.range n)[i]? = some i := List.getElem?_range hi
    obtain ⟨σ2, w1, w2, w4⟩ := hg i hi H1 (e.trans e1)
    have e0 : (0 : Int) + (i : Int) = (i : Int) := Int.zero_add _
    rw [e0]
    refine w2 _ c.2.1 _ ⟨w1, ?_⟩
    have st := lw_step (te := te) (σ2 := σ2) (ds := ge i) c (by rw [List.length_map, List.length_take, List.length_range]; omega) (fl i hi) w4
    rw [← take_map1 ge h1] at st
    exact st
  · rw [List.take_of_length_le (by rw [List.length_range]; exact Nat.le_refl _)] at c
    obtain ⟨c1, c2, acc, c3, c4⟩ := c
    exact q Dl acc H' (fresh_back e1 hD) (e1.trans c2) c3 (c4.low e1)
end
/-! ### pairs that are asked -/
open PySem.Froz (sing)
def encA (p : Pair) : PyData := .tuple [.int p.1, .str (sing p.2)]
def encN (p : NumP) : PyData := .tuple [.str (sing p.1), .int p.2]
theorem flat_A (p : Pair) : flatT (encA p) = true := rfl
theorem flat_N (p : NumP) : flatT (encN p) = true := rfl
theorem flat_Ns (l : List NumP) : flatTs (l.map encN) = true := flat_map flat_N l
theorem flat_As (l : List Pair) : flatTs (l.map encA) = true := flat_map flat_A l
theorem sing_inj' {a b : Nat} : (sing a = sing b) ↔ a = b := ⟨sing_inj, fun h => by rw [h]⟩
theorem eqv_str (a b : Str) : PyData.eqv (.str a) (.str b) = decide (a = b) := by
  simp only [PyData.eqv]
  by_cases h : a = b
  · subst h; simp
  · rw [decide_eq_false h]
    exact beq_eq_false_iff_ne.mpr h
theorem eqv_encA (p q : Pair) : PyData.eqv (encA p) (encA q) = decide (p = q) := by
  obtain ⟨a, b⟩ := p
  obtain ⟨c, d⟩ := q
  simp only [encA, PyData.eqv, PyData.eqvAll]
  have h1 : (sing b == sing d) = decide (b = d) := by
    by_cases h : b = d
    · subst h; simp
    · rw [decide_eq_false h]
      exact beq_eq_false_iff_ne.mpr fun e => h (sing_inj e)
  rw [h1]
  by_cases h : a = c
  · subst h
    by_cases h2 : b = d
    · subst h2; simp
    · simp [h2]
  · have : (a == c) = false := beq_eq_false_iff_ne.mpr h
    rw [this]
    simp [h]
theorem any_encA (l : List Pair) (p : Pair) : ((l.map encA).any fun z => PyData.eqv z (encA p)) = decide (p ∈ l) := by
  induction l with
  | nil => simp
  | cons x l ih =>
    rw [List.map_cons, List.any_cons, ih, eqv_encA]
    by_cases h : x = p
    · subst h; simp
    · have h2 : ¬ p = x := fun e => h e.symm
      simp [h, h2]
theorem any_sing (l : List Nat) (c : Nat) : (((l.map sing).map PyData.str).any fun z => PyData.eqv z (.str (sing c))) = decide (c ∈ l) := by
  induction l with
  | nil => simp
  | cons x l ih =>
    rw [List.map_cons, List.map_cons, List.any_cons, ih, eqv_str]
    by_cases h : x = c
    · subst h; simp
    · have h2 : ¬ c = x := fun e => h e.symm
      have h3 : ¬ sing x = sing c := fun e => h (sing_inj e)
      simp [h2, h3]
theorem lay_sing {c : Nat} (h : c ∈ abc) : (PyData.str (sing c)).canLay0 = true := by
  have := strs_lay [sing c] fun s hs c' hc' => by
    rw [List.mem_singleton] at hs
    subst hs
    have : c' = c := by simpa [sing] using hc'
    rw [this]; exact h
  simpa [PyData.canLayAll0] using this
theorem sings_shaped {l : List Nat} (h : ∀ c ∈ l, c ∈ abc) : SeqAt.shaped (.list ((l.map sing).map PyData.str)) = true := strs_shaped fun s hs c hc => by
  obtain ⟨d, hd, rfl⟩ := List.mem_map.mp hs
  have : c = d := by simpa [sing] using hc
  rw [this]; exact h d hd
theorem sing_shaped {c : Nat} (h : c ∈ abc) : SeqAt.shaped (.str (sing c)) = true := shaped_of (lay_sing h) (by simp [PyData.depth])
theorem encAs_lay : ∀ l : List Pair, (∀ p ∈ l, p.2 ∈ abc) → PyData.canLayAll0 (l.map encA) = true
  | [], _ => by simp [PyData.canLayAll0]
  | p :: l, h => by
    have i := encAs_lay l fun q hq => h q (List.mem_cons_of_mem _ hq)
    have e := lay_sing (h p List.mem_cons_self)
    simp [PyData.canLayAll0, PyData.canLay0, encA, i, e]
    simpa [PyData.canLay0] using e
theorem encAs_depth : ∀ l : List Pair, PyData.depthAll (l.map encA) ≤ 1
  | [] => by simp [PyData.depthAll]
  | p :: l => by
    have := encAs_depth l
    simp [PyData.depthAll, PyData.depth, encA]
    omega
theorem encAs_shaped {l : List Pair} (h : ∀ p ∈ l, p.2 ∈ abc) : SeqAt.shaped (.list (l.map encA)) = true := by
  refine shaped_of ?_ ?_
  · simp only [PyData.canLay0]; exact encAs_lay l h
  · have := encAs_depth l
    simp only [PyData.depth]; omega
theorem encA_shaped {p : Pair} (h : p.2 ∈ abc) : SeqAt.shaped (encA p) = true := by
  refine shaped_of ?_ ?_
  · have := encAs_lay [p] fun q hq => by rw [List.mem_singleton] at hq; rw [hq]; exact h
    simpa [PyData.canLayAll0] using this
  · simp [encA, PyData.depth, PyData.depthAll]
theorem eqv_encAs : ∀ a b : List Pair, PyData.eqvAll (a.map encA) (b.map encA) = decide (a = b)
  | [], [] => by simp [PyData.eqvAll]
  | [], _ :: _ => by simp [PyData.eqvAll]
  | _ :: _, [] => by simp [PyData.eqvAll]
  | x :: a, y :: b => by
    simp only [List.map_cons, PyData.eqvAll, eqv_encAs a b, eqv_encA]
    by_cases h : x = y
    · subst h
      by_cases h2 : a = b
      · subst h2; simp
      · simp [h2]
    · simp [h]
section
variable {σ : L2.St} {H : Hp} {ta tb : TE}
theorem ed_neS {s s' : Str} (ha : ED ta σ H (.str s)) (hb : ED tb σ H (.str s')) : ED (tOp rNe ta tb) σ H (.bool (!decide (s = s'))) := ed_bin' ha hb fun x y H1 _ hx hy Q q => by
  have e1 := hx.toStr
  have e2 := hy.toStr
  subst e1 e2
  refine ⟨rfl, ?_⟩
  have e : decide (V.str s = V.str s') = decide (s = s') := by
    by_cases h : s = s'
    · subst h; simp
    · rw [decide_eq_false h]; exact decide_eq_false (fun z => h (V.str.inj z))
  rw [e]
  exact q _ H1 (Ex.refl H1) (.bl _)
theorem any_int (l : List Int) (c : Int) : ((l.map PyData.int).any fun z => PyData.eqv z (.int c)) = decide (c ∈ l) := by
  induction l with
  | nil => simp
  | cons x l ih =>
    rw [List.map_cons, List.any_cons, ih]
    simp only [PyData.eqv]
    by_cases h : x = c
    · subst h; simp
    · have h2 : ¬ c = x := fun e => h e.symm
      have h3 : (x == c) = false := beq_eq_false_iff_ne.mpr h
      simp [h2, h3]
end
theorem for_rng2 {ta : TA} {g : TG} {tb : TS} {Dn : Ends} {σ : L2.St} {H : Hp} {i j : Int} (h : EAs ta σ H [.int i, .int j]) (b : -(2 ^ 62) ≤ i ∧ i < 2 ^ 62 ∧ -(2 ^ 62) ≤ j ∧ j < 2 ^ 62)
    (k : ∀ H1, Ex H H1 → ∃ W : Nat → Nat → L2.St → Hp → Prop, (∃ m, W 0 m σ H1) ∧ ∀ n m σ H, W n m σ H →
      ((Itr i (j - i).toNat).stop n H ∧ Dn.nx σ H) ∨ ((Itr i (j - i).toNat).go n H ∧ ∃ N : L2.St → Hp → Prop, (∀ σ' H', N σ' H' → ∃ m', m' < m ∧ W (n + 1) m' σ' H') ∧ ∀ x H', (Itr i (j - i).toNat).yld n H x H' → g x σ H' fun σ2 H2 => tb { Dn with nx := N, ct := N, bk := Dn.nx } σ2 H2)) : tFor (iRng2 ta) g tb Dn σ H :=
  h H (Ex.refl _) _ fun vs H1 e a => by
    obtain ⟨v1, v2, rfl, g1, g2⟩ := a.args2
    obtain rfl := g1.toInt
    obtain rfl := g2.toInt
    exact ⟨i, j, rfl, b, k H1 e⟩
/-- a for over a new list of data -/
theorem for_elL {K : PySem.W.Frag} {α : Type} {as : List α} {enc : α → PyData} {te : TE} {g : TG} {tb : TS} {Dn : Ends} {σ : L2.St} {H : Hp} (h : EL te σ H (as.map enc)) (Pv : Hp → Nat → L2.St → Hp → Prop) (h0 : ∀ H1, Ex H H1 → Pv H1 0 σ H1) (hl : ∀ H1 i σ' H', Pv H1 i σ' H' → Ex H1 H')
    (hs : ∀ H1 i a x σ' H', Ex H H1 → as[i]? = some a → Pv H1 i σ' H' → D H' x (enc a) → g x σ' H' fun σ2 H2 => tb { Dn with nx := Pv H1 (i + 1), ct := Pv H1 (i + 1), bk := Dn.nx } σ2 H2) (hd : ∀ H1 σ' H', Ex H H1 → Pv H1 as.length σ' H' → Dn.nx σ' H') : tFor (iList K te) g tb Dn σ H :=
  h H (Ex.refl _) _ fun p xs H1 np e hp ha => by
    have xl : xs.length = as.length := by rw [ha.len, List.length_map]
    refine ⟨p, rfl, ⟨xs, SqL.of hp⟩, for_list (K := K) (a := p) (xs := xs) (Pv H1) (h0 H1 e) (fun i σ' H' _ q => SqL.of (hl H1 i σ' H' q _ _ hp)) (fun i v σ' H' hi q => ?_) (fun σ' H' q => hd H1 σ' H' e (xl ▸ q))⟩
    obtain ⟨dp, hdp, hv⟩ := ha.get2 hi
    obtain ⟨a, g1, g2⟩ : ∃ a, as[i]? = some a ∧ dp = enc a := by
      rw [List.getElem?_map] at hdp
      cases z : as[i]? with
      | none => rw [z] at hdp; cases hdp
      | some a => rw [z] at hdp; exact ⟨a, rfl, (Option.some.inj hdp).symm⟩
    subst g2
    exact hs H1 i a v σ' H' e g1 q (hv.mono (hl H1 i σ' H' q))
/-- a for over a new list of flat data, in which one list that stood is changed -/
theorem for_elLr {K : PySem.W.Frag} {α : Type} {as : List α} {enc : α → PyData} {te : TE} {g : TG} {tb : TS} {Dn : Ends} {σ : L2.St} {H : Hp} {r : Addr} {zs : List V} (hr : H r = some (.lst zs)) (fl : ∀ a ∈ as, flatT (enc a) = true) (h : EL te σ H (as.map enc)) (Pv : Hp → Nat → L2.St → Hp → Prop) (h0 : ∀ H1, Ex H H1 → Pv H1 0 σ H1)
    (hl : ∀ H1 i σ' H', Ex H H1 → Pv H1 i σ' H' → ∀ a o, a ≠ r → H1 a = some o → H' a = some o)
    (hs : ∀ H1 i a x σ' H', Ex H H1 → as[i]? = some a → Pv H1 i σ' H' → D H' x (enc a) → g x σ' H' fun σ2 H2 => tb { Dn with nx := Pv H1 (i + 1), ct := Pv H1 (i + 1), bk := Dn.nx } σ2 H2) (hd : ∀ H1 σ' H', Ex H H1 → Pv H1 as.length σ' H' → Dn.nx σ' H') : tFor (iList K te) g tb Dn σ H :=
  h H (Ex.refl _) _ fun p xs H1 np e hp ha => by
    have xl : xs.length = as.length := by rw [ha.len, List.length_map]
    have pr : p ≠ r := (ne_of_none hr np).symm
    refine ⟨p, rfl, ⟨xs, SqL.of hp⟩, for_list (K := K) (a := p) (xs := xs) (Pv H1) (h0 H1 e) (fun i σ' H' _ q => SqL.of (hl H1 i σ' H' e q _ _ pr hp)) (fun i v σ' H' hi q => ?_) (fun σ' H' q => hd H1 σ' H' e (xl ▸ q))⟩
    obtain ⟨dp, hdp, hv⟩ := ha.get2 hi
    obtain ⟨a, g1, g2⟩ : ∃ a, as[i]? = some a ∧ dp = enc a := by
      rw [List.getElem?_map] at hdp
      cases z : as[i]? with
      | none => rw [z] at hdp; cases hdp
      | some a => rw [z] at hdp; exact ⟨a, rfl, (Option.some.inj hdp).symm⟩
    subst g2
    exact hs H1 i a v σ' H' e g1 q (D.keep (fun b ys hb => hl H1 i σ' H' e q _ _ (ne_of hb (e _ _ hr) (by intro z; cases z)) hb) (fl a (List.mem_of_getElem? g1)) hv)
end KS
end
noncomputable section
namespace KS
open PySem PySem.Spec PyProof.Rows L2 Evl LamX
/-! ### _law_kind -/
structure Cls8 where
  c0 : Addr
  c1 : Addr
  c2 : Addr
  c3 : Addr
  c4 : Addr
  c5 : Addr
  c6 : Addr
  c7 : Addr
structure Mg8 (mg : Str → Option Value) (CS : Addr) (c : Cls8) : Prop where
  s : mg "SlotError" = some (.ref CS)
  c0 : mg "BadFamily" = some (.ref c.c0)
  c1 : mg "NoKind" = some (.ref c.c1)
  c2 : mg "NoPart" = some (.ref c.c2)
  c3 : mg "NoElder" = some (.ref c.c3)
  c4 : mg "BadAsked" = some (.ref c.c4)
  c5 : mg "NotAsked" = some (.ref c.c5)
  c6 : mg "NoMatch" = some (.ref c.c6)
  c7 : mg "BadText" = some (.ref c.c7)
  ve : mg "ValueError" = none
  isi : mg "isinstance" = none
def wrdL : List Str := ["BadFamily", "NoKind", "NoPart", "NoElder", "BadAsked", "NotAsked", "NoMatch", "BadText"]
structure KindW (K : PySem.W.Frag) (CS : Addr) (c : Cls8) (C : Addr) (j : Nat) : Prop where
  exc : ExcC K C
  ex : PySem.W.exmOne K (.ref C) (.ref CS) = some true
  k0 : PySem.W.kitOne K (.ref C) (.ref c.c0) = some (decide (j = 0))
  k1 : PySem.W.kitOne K (.ref C) (.ref c.c1) = some (decide (j = 1))
  k2 : PySem.W.kitOne K (.ref C) (.ref c.c2) = some (decide (j = 2))
  k3 : PySem.W.kitOne K (.ref C) (.ref c.c3) = some (decide (j = 3))
  k4 : PySem.W.kitOne K (.ref C) (.ref c.c4) = some (decide (j = 4))
  k5 : PySem.W.kitOne K (.ref C) (.ref c.c5) = some (decide (j = 5))
  k6 : PySem.W.kitOne K (.ref C) (.ref c.c6) = some (decide (j = 6))
  k7 : PySem.W.kitOne K (.ref C) (.ref c.c7) = some (decide (j = 7))
  ve : PySem.W.kitOne K (.ref C) (.type "ValueError") = some true
/-- what _law_kind makes of a lambda's reading -/
def TTk (K : PySem.W.Frag) (CS : Addr) (c : Cls8) : (XK → Hp → VK → Prop) → Hp → VK → Prop := fun tl H Q =>
  tl (fun cls d H' => ∃ C j wd, cls = .ref C ∧ KindW K CS c C j ∧ wrdL[j]? = some wd ∧ DictOk d H' ∧ ∀ H'', Ex H' H'' → Q (.str wd) H'') H fun _ H' => Q (.str Str.empty) H'
theorem Takes.len {X : Cx} {W : WX} (t : Takes X W) : Takes X (fun cls d σ H => σ.length = X.N.length → W cls d σ H) := fun u s' ⟨a, B, sI, pins, σ, H, cls, d, e, I, nb, up, sky, na, os, ag, w⟩ =>
  t u s' ⟨a, B, sI, pins, σ, H, cls, d, e, I, nb, up, sky, na, os, ag, w I.len⟩
section
variable {K : PySem.W.Frag} {σ : L2.St} {H : Hp} {ta tb : TE}
theorem ed_isE {a C : Addr} {d : Option Addr} {i : Nat} {c : V} {t : Value} {b : Bool} (hi : σ[i]? = some (some (.ref a))) (F : ExcC K C) (hc : ClsV c t) (hk : PySem.W.kitOne K (.ref C) t = some b) (hd : DictOk d H) : ED (tCB (rIsE K a (.ref C) d) (tCons (tVar i) (tCons (tC c) tNil))) σ H (.bool b) := fun H1 e Q q =>
  ⟨.ref a, hi, C, c, t, b, rfl, F, rfl, hc, hk, hd.ex e, q _ H1 (Ex.refl _) (.bl b)⟩
theorem ed_cntB {bs : List Bool} (ha : ED ta σ H (.list (bs.map PyData.bool))) : ED (tBM K "list" (rCntB K) ta (tCons (tC (.bl true)) tNil)) σ H (.int ((bs.count true : Nat) : Int)) := fun H1 e Q q =>
  ha H1 e _ fun x H2 e2 hx => by
    obtain ⟨a, xs, rfl, h, t⟩ := hx.toLst
    have e3 := t.bools
    subst e3
    exact ⟨.inl ⟨rfl, _, SqL.of h⟩, a, bs, rfl, rfl, SqL.of h, q _ H2 e2 (.int _)⟩
theorem ed_idxB {bs : List Bool} {j : Nat} (ha : ED ta σ H (.list (bs.map PyData.bool))) (hj : bs[j]? = some true) (hno : ∀ m, m < j → bs[m]? = some false) : ED (tBM K "list" (rIndex K) ta (tCons (tC (.bl true)) tNil)) σ H (.int ((j : Nat) : Int)) := fun H1 e Q q =>
  ha H1 e _ fun x H2 e2 hx => by
    obtain ⟨a, xs, rfl, h, t⟩ := hx.toLst
    have e3 := t.bools
    subst e3
    refine ⟨.inl ⟨rfl, _, SqL.of h⟩, a, bs.map V.bl, .bl true, j, .bl true, rfl, rfl, SqL.of h, rfl, ?_, by rw [List.getElem?_map, hj]; rfl, rfl, fun m z' hm hz => ?_, q _ H2 e2 (.int _)⟩
    · rw [List.all_map, List.all_eq_true]
      intro _ _; rfl
    · rw [List.getElem?_map, hno m hm] at hz
      have : z' = .bl false := (Option.some.inj hz).symm
      rw [this]; rfl
end
abbrev N_kind : List Str := ["_law_work", "e", "_law_kinds", "_law_words"]
theorem sc_kind : FnScope N_kind ["_law_work"] (defScope s_law_kind) := ⟨rfl, rfl, rfl, by decide +kernel, rfl, by decide +kernel, by decide +kernel⟩
def suiteK : List Stmt := match defBody s_law_kind with
  | .Try _ [.ExceptHandler _ _ s _] _ _ _ :: _ => s
  | _ => []
abbrev kindCx (X : Cx) (g : Addr) (cdg : Value) (s : Shared) (H : Hp) : Cx := (cxOf C8.CX0 X.prog X.w X.K X.mg X.base N_kind "_law_kind" (defScope s_law_kind) g cdg X.A X.stack s H C8.E0).nox
theorem kind_gives {X : Cx} {g CS : Addr} {cdg : Value} {q : Str} {c : Cls8} (m : Mg8 X.mg CS c) : GivesTo X N_kind "_law_kind" (defScope s_law_kind) g cdg (defBody s_law_kind) "_law_work" q (TTk X.K CS c) := by
  intro f c' s H Q tl act hc h
  refine' ⟨_, pss_cons (ps_try_as (X := kindCx X g cdg s H) (c := .ref CS) (i := 1)
      (tb := fun W D σ H => ∃ Ech : XK, (∀ cls d σ' H', σ'.length = 4 → Ech cls d H' → W cls d σ' H') ∧ σ[0]? = some (some (.ref f)) ∧ H c' = some (CodeO c' q) ∧ tl Ech H fun _ H2 => D.nx σ H2)
      rfl rfl sc_kind.nd rfl rfl ⟨rfl, by decide, .inl m.s⟩ LamX.takes0 (fun W pn xe tk _ => ?body) (fun a oe cls d pn hz hf => ?suite)) (pss_one (ps_ret pe_str)), ?_⟩
  case suite =>
    have S : PSs ((kindCx X g cdg s H).suite a ((a, oe) :: pn)) suiteK _ := pss_cons (ps_set (i := 2) sc_kind.nd rfl (.inl rfl) (pe_lst (pa_cons (pe_callB (cr_isE (X := kindCx X g cdg s H) (a := a) (pn := pn) hz hf) (by rfl) m.isi boot_isinstance (pa_cons (pv 1) (pa_cons (pe_glob (v := .ref c.c0) (by rfl) m.c0 rfl) pa_nil))) (pa_cons (pe_callB (cr_isE (X := kindCx X g cdg s H) (a := a) (pn := pn) hz hf) (by rfl) m.isi boot_isinstance (pa_cons (pv 1) (pa_cons (pe_glob (v := .ref c.c1) (by rfl) m.c1 rfl) pa_nil)))
          (pa_cons (pe_callB (cr_isE (X := kindCx X g cdg s H) (a := a) (pn := pn) hz hf) (by rfl) m.isi boot_isinstance (pa_cons (pv 1) (pa_cons (pe_glob (v := .ref c.c2) (by rfl) m.c2 rfl) pa_nil))) (pa_cons (pe_callB (cr_isE (X := kindCx X g cdg s H) (a := a) (pn := pn) hz hf) (by rfl) m.isi boot_isinstance (pa_cons (pv 1) (pa_cons (pe_glob (v := .ref c.c3) (by rfl) m.c3 rfl) pa_nil))) pa_nil))))))
        (pss_cons (ps_set (i := 2) sc_kind.nd rfl (.inl rfl) (pe_op op_cat (pv 2) (pe_lst (pa_cons (pe_callB (cr_isE (X := kindCx X g cdg s H) (a := a) (pn := pn) hz hf) (by rfl) m.isi boot_isinstance (pa_cons (pv 1) (pa_cons (pe_glob (v := .ref c.c4) (by rfl) m.c4 rfl) pa_nil))) (pa_cons (pe_callB (cr_isE (X := kindCx X g cdg s H) (a := a) (pn := pn) hz hf) (by rfl) m.isi boot_isinstance (pa_cons (pv 1) (pa_cons (pe_glob (v := .ref c.c5) (by rfl) m.c5 rfl) pa_nil)))
          (pa_cons (pe_callB (cr_isE (X := kindCx X g cdg s H) (a := a) (pn := pn) hz hf) (by rfl) m.isi boot_isinstance (pa_cons (pv 1) (pa_cons (pe_glob (v := .ref c.c6) (by rfl) m.c6 rfl) pa_nil))) pa_nil))))))
        (pss_cons (ps_expr (pe_bm PySem.F.plainAttrs_list PySem.F.slot_list_append PySem.F.type_list_append mt_append (pv 2) (pa_cons (pe_callB (cr_isE (X := kindCx X g cdg s H) (a := a) (pn := pn) hz hf) (by rfl) m.isi boot_isinstance (pa_cons (pv 1) (pa_cons (pe_glob (v := .ref c.c7) (by rfl) m.c7 rfl) pa_nil))) pa_nil)))
        (pss_cons (ps_set (i := 3) sc_kind.nd rfl (.inl rfl) (pe_lst (pa_cons pe_str (pa_cons pe_str (pa_cons pe_str (pa_cons pe_str (pa_cons pe_str (pa_cons pe_str (pa_cons pe_str (pa_cons pe_str pa_nil))))))))))
        (pss_cons (ps_if (PW.pt (pw_or (pt_cmpR op_ne (pe_bm PySem.F.plainAttrs_list PySem.F.slot_list_count PySem.F.type_list_count mt_countB (pv 2) (pa_cons pe_bl pa_nil)) pe_int (nomark _)) (pw_or1 (pt_not (pt_val (pe_callB (cr_isE (X := kindCx X g cdg s H) (a := a) (pn := pn) hz hf) (by rfl) m.isi boot_isinstance (pa_cons (pv 1) (pa_cons (pe_bltn (v := .ty "ValueError") (by rfl) m.ve (by decide +kernel) rfl) pa_nil)))))))) (pss_one (ps_ret pe_str)) pss_nil)
        (pss_one (ps_ret (pe_ix (r := rIxL X.K) ix_list (pv 3) (pe_bm PySem.F.plainAttrs_list PySem.F.slot_list_index PySem.F.type_list_index mt_index (pv 2) (pa_cons pe_bl pa_nil)) (fun _ _ => rfl))))))))
    dsimp only [Cx.suite, kindCx, Cx.nox, Cx.wish, cxOf] at S
    exact S
  case body =>
    refine ⟨fun pins s' σ H' D I h' => ?_⟩
    obtain ⟨Ech, hW, h1, h2, h3⟩ := h'
    refine (pss_one (ps_expr (act (fun cls d σ H => σ.length = ((kindCx X g cdg s H').tr pn xe).N.length → W cls d σ H) pn xe Ech ?_ ?_ (KS.Takes.len tk) (fun cls d σ' H' he hl => hW cls d σ' H' hl he)))).run pins s' σ H' D I ⟨h1, h2, h3⟩
  · refine ⟨fun cls d H' => ∃ C j wd, cls = .ref C ∧ KindW X.K CS c C j ∧ wrdL[j]? = some wd ∧ DictOk d H' ∧ ∀ H'', Ex H' H'' → Q (.str wd) H'', ?_, rfl, hc, h⟩
    intro cls d σ' H' hl ⟨C, j, wd, ec, kw, hw, hd, hq⟩
    subst ec
    obtain ⟨s0, s1, s2, s3, rfl⟩ : ∃ s0 s1 s2 s3, σ' = [s0, s1, s2, s3] := by
      match σ', hl with
      | [a, b, c, d], _ => exact ⟨a, b, c, d, rfl⟩
    refine ⟨true, kw.ex, fun _ a na => ?_, fun z => nomatch z⟩
    have F := kw.exc
    have V1 : ∀ (u2 u3 : Option V), ([s0, some (.ref a), u2, u3] : L2.St)[1]? = some (some (.ref a)) := fun _ _ => rfl
    try dsimp only
    refine sl_asg (ds := [.bool (decide (j = 0)), .bool (decide (j = 1)), .bool (decide (j = 2)), .bool (decide (j = 3))]) (el_lst' (eas4 (ed_isE (V1 _ _) F (.own _) kw.k0 hd) (ed_isE (V1 _ _) F (.own _) kw.k1 hd) (ed_isE (V1 _ _) F (.own _) kw.k2 hd) (ed_isE (V1 _ _) F (.own _) kw.k3 hd)) (by show 4 ≤ 100000; decide)) fun p1 x1 H1 n1 e1 h1 a1 => ?_
    try dsimp only
    have hd1 := hd.ex e1
    refine sl_asg (ds := [.bool (decide (j = 0)), .bool (decide (j = 1)), .bool (decide (j = 2)), .bool (decide (j = 3)), .bool (decide (j = 4)), .bool (decide (j = 5)), .bool (decide (j = 6))]) (el_cat (ds := [.bool (decide (j = 0)), .bool (decide (j = 1)), .bool (decide (j = 2)), .bool (decide (j = 3))]) (es := [.bool (decide (j = 4)), .bool (decide (j = 5)), .bool (decide (j = 6))]) (ed_var (i := 2) rfl (.lst h1 a1)) (EL.ed (el_lst' (eas3 (ed_isE (V1 _ _) F (.own _) kw.k4 hd1) (ed_isE (V1 _ _) F (.own _) kw.k5 hd1) (ed_isE (V1 _ _) F (.own _) kw.k6 hd1)) (by show 3 ≤ 100000; decide))) (by show 7 ≤ 10000000; decide)) fun p2 x2 H2 n2 e2 h2 a2 => ?_
    try dsimp only
    have hd2 := hd1.ex e2
    refine ⟨.ref p2, rfl, .inl ⟨rfl, _, SqL.of h2⟩, ?_⟩
    refine (ed_isE (K := X.K) (σ := [s0, some (.ref a), some (.ref p2), s3]) (i := 1) (d := d) rfl F (.own c.c7) kw.k7 hd2) H2 (Ex.refl _) _ fun v H3 e3 hv => ?_
    have l2 : x2.length = 7 := by rw [a2.len]; rfl
    refine ⟨p2, x2, v, rfl, rfl, e3 _ _ h2, sz_lt (by omega), ?_⟩
    have n2' : H' p2 = none := fresh_back e1 n2
    have ex4 : Ex H' (upd H3 p2 (.lst (x2 ++ [v]))) := Ex.mut ((e1.trans e2).trans e3) n2'
    have tk := tu_upd (ys := x2 ++ [v]) (e3 _ _ h2)
    generalize hB : [decide (j = 0), decide (j = 1), decide (j = 2), decide (j = 3), decide (j = 4), decide (j = 5), decide (j = 6), decide (j = 7)] = bs
    have a4 : DA (upd H3 p2 (.lst (x2 ++ [v]))) (x2 ++ [v]) (bs.map PyData.bool) := by
      rw [← hB]
      exact DA.append (DA.keep tk rfl (a2.mono e3)) (DA.one (D.keep tk rfl hv))
    have d4 : D (upd H3 p2 (.lst (x2 ++ [v]))) (.ref p2) (.list (bs.map PyData.bool)) := .lst upd_same a4
    have hd4 := hd.ex ex4
    generalize upd H3 p2 (.lst (x2 ++ [v])) = H4 at ex4 d4 hd4 ⊢
    try dsimp only
    refine sl_asg (ds := wrdL.map PyData.str) (el_lst' (eas_cons (ed_cs _) (eas_cons (ed_cs _) (eas_cons (ed_cs _) (eas_cons (ed_cs _) (eas4 (ed_cs _) (ed_cs _) (ed_cs _) (ed_cs _)))))) (by show 8 ≤ 100000; decide)) fun p5 x5 H5 n5 e5 h5 a5 => ?_
    try dsimp only
    have d5 := d4.mono e5
    have hd5 := hd4.ex e5
    have jl : j < 8 := (List.getElem?_eq_some_iff.mp hw).1
    have cnt : bs.count true = 1 := by
      rw [← hB]
      have : j = 0 ∨ j = 1 ∨ j = 2 ∨ j = 3 ∨ j = 4 ∨ j = 5 ∨ j = 6 ∨ j = 7 := by omega
      rcases this with z | z | z | z | z | z | z | z <;> subst z <;> rfl
    have idx : bs[j]? = some true ∧ ∀ m, m < j → bs[m]? = some false := by
      rw [← hB]
      have : j = 0 ∨ j = 1 ∨ j = 2 ∨ j = 3 ∨ j = 4 ∨ j = 5 ∨ j = 6 ∨ j = 7 := by omega
      rcases this with z | z | z | z | z | z | z | z <;> subst z <;> refine ⟨rfl, fun m hm => ?_⟩ <;>
      · have : m = 0 ∨ m = 1 ∨ m = 2 ∨ m = 3 ∨ m = 4 ∨ m = 5 ∨ m = 6 := by omega
        rcases this with y | y | y | y | y | y | y <;> subst y <;> first | rfl | omega
    refine sd_if (b := false) (et_or (a := false) (b := false) (et_D (ed_is (ed_neI (ed_cntB (ed_var (i := 2) rfl d5)) (ed_ci 1)) (by rw [cnt]; rfl))) fun _ => et_not (a := true) (et_DB (ed_isE (V1 _ _) F (.ty _) kw.ve hd5))) (fun z => nomatch z) fun _ H6 e6 => ?_
    refine st_next ?_
    try dsimp only
    have d6 := d5.mono e6
    refine sd_ret (d := .str wd) (ed_ixL (ds := wrdL.map PyData.str) (i := (j : Nat)) (ed_var (i := 3) rfl ((D.lst h5 a5).mono e6)) (ed_idxB (ed_var (i := 2) rfl d6) idx.1 idx.2) (atI_nat (j := j) (by rw [List.getElem?_map, hw]; rfl))) fun v7 H7 e7 hv7 => ?_
    have ev := hv7.toStr
    subst ev
    exact hq H7 (((ex4.trans e5).trans e6).trans e7)
end KS
end
noncomputable section
namespace KS
open PySem PySem.Spec PyProof.Rows L2 Evl
/-! ### defs that may raise -/
structure ClX (P : Program) (w : World) (K : PySem.W.Frag) (mg : Str → Option Value) (base : Heap) (x : Str) (ps : List Str) (k : Nat) (sp : Sp) : Prop where
  ex : ∃ (f : Addr) (fd : FuncData), FnOk P w K mg base (L2.CX P w) k f fd ps sp ∧ mg x = some (.ref f) ∧ PySem.W.keepIn K (.ref f) = true ∧ Binds K fd ps []
section
variable {P : Program} {w : World} {K : PySem.W.Frag} {mg : Str → Option Value} {base : Heap}
theorem ClX.mono {x : Str} {ps : List Str} {j k : Nat} {sp : Sp} (c : ClX P w K mg base x ps j sp) (h : j ≤ k) : ClX P w K mg base x ps k sp := by
  obtain ⟨f, fd, G, g, kp, b⟩ := c.ex
  exact ⟨f, fd, G.mono h, g, kp, b⟩
theorem ClX.imp {x : Str} {ps : List Str} {k : Nat} {sp sp' : Sp} (c : ClX P w K mg base x ps k sp) (h : ∀ vs H Q E, sp' vs H Q E → sp vs H Q E) : ClX P w K mg base x ps k sp' := by
  obtain ⟨f, fd, G, g, kp, b⟩ := c.ex
  exact ⟨f, fd, G.imp h, g, kp, b⟩
theorem Df.okX {x : Str} {st : Stmt} {ps N : List Str} {k : Nat} {sp : Sp} (d : Df K mg x st ps) (S : FnScope N ps (defScope st)) (len : ∀ vs H Q E, sp vs H Q E → vs.length = ps.length)
    (body : ∀ (f : Addr) (cdv : Value) (A : Around) (outer : List Env) (s : Shared) (H : Hp) (vs : List V) (Q : VK) (E : XK), Room k (A.deeper (envOfC x (defScope st) s.heap.objs.size f cdv)) → sp vs H Q E →
      ∃ t, PSs (cxOf (L2.CX P w) P w K mg base N x (defScope st) f cdv A outer s H E) (defBody st) t ∧ t { nx := fun _ H' => Q .non H', rt := Q } (start N vs) H) : ClX P w K mg base x ps (k + 1) sp := by
  obtain ⟨f, fd, F, g, b⟩ := d.ex
  exact ⟨f, fd, F.okX S len (fun cdv A outer s H vs Q E hr h => body f cdv A outer s H vs Q E hr h), g, F.kp, b⟩
/-- called where it raises nothing -/
theorem pe_clX {X : Cx} {x : Str} {ps : List Str} {k : Nat} {sp : Sp} {e : Expr} {es : List Expr} {t : TA} {p pos : Pos} (c : ClX X.prog X.w X.K X.mg X.base x ps k sp) (hr : Room k X.A) (ha : PA X (e :: es) t) (hg : Gl X x := by rfl)
    (hdb : (x == ("__debug__" : Str)) = false := by decide) (he : starEach (e :: es) X.env = (false, eval e X.env) :: starEach es X.env := by rfl) (hpl : (backTo pos (starEach es X.env)).any (·.1) = false := by rfl) :
    PE X (.Call (.Name x p) (e :: es) [] pos) (tCall sp [] E0 t) := by
  obtain ⟨f, fd, G, g, kp, b⟩ := c.ex
  exact pe_call G hr hg g kp b .nil passL ha hdb he hpl
/-- .. where it may raise, and the wish is the def's own -/
theorem pe_clW {X : Cx} {W : WX} {x : Str} {ps : List Str} {k : Nat} {sp : Sp} {e : Expr} {es : List Expr} {t : TA} {p pos : Pos} (c : ClX X.prog X.w X.K X.mg X.base x ps k sp) (hr : Room k X.A) (tk : Takes X W) (ha : PA X (e :: es) t) (hg : Gl X x := by rfl)
    (hdb : (x == ("__debug__" : Str)) = false := by decide) (he : starEach (e :: es) X.env = (false, eval e X.env) :: starEach es X.env := by rfl) (hpl : (backTo pos (starEach es X.env)).any (·.1) = false := by rfl) :
    PE X (.Call (.Name x p) (e :: es) [] pos) (tCallS sp (WE W) t) := by
  obtain ⟨f, fd, G, g, kp, b⟩ := c.ex
  exact pe_callS G hr hg g kp b (fun σ => passAt tk σ) ha hdb he hpl
end
/-- a class of errors without an __init__ of its own -/
structure ErrC (K : PySem.W.Frag) (mg : Str → Option Value) (x : Str) (C : Addr) (bmB : List Value) : Prop where
  g : mg x = some (.ref C)
  x : PySem.W.excIn K C bmB "ValueError.__new__" = true
  k : PySem.W.keepIn K (.ref C) = true
  b : PySem.W.subIn K (.ref C) (.type "BaseException") = some true
  t : PySem.W.typeIn K (.ref C) = some (.type "type")
abbrev bmV : List Value := [.type "ValueError", .type "Exception", .type "BaseException", .type "object"]
end KS
end
noncomputable section
namespace KS
open PySem PySem.Spec PyProof.Rows L2
/-! ### dict(a list of pairs), the keys tuples -/
abbrev TKd (P : Program) (w : World) := tupleKind (mixKind P w)
def mergedH (acc : List (List Key × Addr × Value)) (rest : List (List Key × Addr × Value)) : List (List Key × Addr × Value) := rest.foldl (fun xs q => storedH xs q.1 q.2.1 q.2.2) acc
theorem storedH_len (xs : List (List Key × Addr × Value)) (k : List Key) (a : Addr) (v : Value) : (storedH xs k a v).length ≤ xs.length + 1 := by
  unfold storedH
  split
  · rw [List.length_map]; omega
  · rw [List.length_append]; exact Nat.le_refl _
/-- where a key's tuple stands, and that it is none of the two -/
def KAt (P : Program) (w : World) (S I : Addr) (h : Heap) (x : List Key × Addr × Value) : Prop := (TKd P w).is h x.1 x.2.1 ∧ x.2.1 ≠ S ∧ x.2.1 ≠ I
theorem is_keep {P : Program} {w : World} {h h' : Heap} {k : List Key} {b : Addr} (x : (TKd P w).is h k b) (e : ∀ o, h.get? b = some o → h'.get? b = some o) : (TKd P w).is h' k b := by
  obtain ⟨o, its, n, h1, h2, h3, h4⟩ := x
  exact ⟨o, its, n, e _ h1, h2, h3, h4⟩
theorem KAt.keep {P : Program} {w : World} {S I : Addr} {h h' : Heap} {x : List Key × Addr × Value} (q : KAt P w S I h x) (e : ∀ b o, b ≠ S → b ≠ I → h.get? b = some o → h'.get? b = some o) : KAt P w S I h' x :=
  ⟨is_keep q.1 fun o ho => e _ o q.2.1 q.2.2 ho, q.2⟩
theorem dicth_keep {P : Program} {w : World} {S I : Addr} {h h' : Heap} {acc : List (List Key × Addr × Value)} (hm : h.DictOfH (TKd P w) S acc) (ha : ∀ x ∈ acc, KAt P w S I h x) (hSI : S ≠ I) (e : ∀ b o, b ≠ I → h.get? b = some o → h'.get? b = some o) : h'.DictOfH (TKd P w) S acc := by
  obtain ⟨o, es, ep, ho, hc, hd, he, his, hn⟩ := hm
  exact ⟨o, es, ep, e _ _ hSI ho, hc, hd, he, fun x hx => is_keep (his x hx) fun o ho => e _ o (ha x hx).2.2 ho, hn⟩
theorem mem_storedH {xs : List (List Key × Addr × Value)} {k : List Key} {a : Addr} {v : Value} {x : List Key × Addr × Value} (h : x ∈ storedH xs k a v) : (∃ y ∈ xs, x.1 = y.1 ∧ x.2.1 = y.2.1) ∨ x = (k, a, v) := by
  unfold storedH at h
  split at h
  · obtain ⟨y, hy, rfl⟩ := List.mem_map.mp h
    refine .inl ⟨y, hy, ?_⟩
    unfold putAt
    split <;> exact ⟨rfl, rfl⟩
  · rcases List.mem_append.mp h with h | h
    · exact .inl ⟨x, h, rfl, rfl⟩
    · exact .inr (List.mem_singleton.mp h)
section
variable {prog : Program} {w : World} {A : Around} {E : Value → Shared → Prop}
theorem upd_loopT {R : Result → Shared → Prop} {S I l : Addr} {items : Array Value} {res : Value} (hu : A.units + 1 < cLine) (hh : A.handled = none) (hlI : l ≠ I) (hSI : S ≠ I) (hSl : S ≠ l) :
    ∀ (rest : List (List Key × Addr × Value)) (i : Nat) (acc : List (List Key × Addr × Value)) (ix : Int) (t : Tok) (s : Shared), items.size = i + rest.length → acc.length + rest.length ≤ sizeLine →
      (∀ (j : Nat) (q : List Key × Addr × Value), rest[j]? = some q → ∃ b : Addr, items[i + j]? = some (.ref b) ∧ b ≠ S ∧ b ≠ I ∧ IsTup s.heap b #[.ref q.2.1, q.2.2] ∧ KAt prog w S I s.heap q) →
      (∀ x ∈ acc, KAt prog w S I s.heap x) → s.heap.IsListIter I l i → s.heap.IsList l items → s.heap.DictOfH (TKd prog w) S acc →
      (∀ h' tk, h'.DictOfH (TKd prog w) S (mergedH acc rest) → (∀ b o, b ≠ S → b ≠ I → s.heap.get? b = some o → h'.get? b = some o) → R (.ok (.ret res)) { s with heap := h', toks := tk }) →
      codeAny (model prog w) A (.builtin "dict.update.loop" ⟨[.ref S, .ref I, .int ix t, res], []⟩) R s
  | [], i, acc, ix, t, s, hsz, hln, ht, ha, hit, hl, hm, hR => by
    refine codeAny_builtin ud_entry ?_
    rw [Around.under_plainId ud_plain _]
    show wpAny _ A.in1 (pyNext (.ref I) >>= _) _ _ s
    refine wpAny_bind (wpAny_pyNext_list_end (A := A.in1) hh hit hl (by first | exact Array.getElem?_eq_none (Nat.le_of_eq hsz) | (simp at hsz; simp; omega)) fun h' he => ?_)
    show wpAny _ A.in1 (Builtin.Dict.addKeywords S [] >>= _) _ _ _
    refine wpAny_bind (wpAny_pure (wpAny_pure ?_))
    exact hR h' s.toks (dicth_keep hm ha hSI fun b o hb e => he b o hb e) fun b o _ hb e => he b o hb e
  | q :: rest, i, acc, ix, t, s, hsz, hln, ht, ha, hit, hl, hm, hR => by
    obtain ⟨b, hb, hbS, hbI, htup, hk⟩ := ht 0 q rfl
    rw [List.length_cons] at hsz hln
    refine codeAny_builtin ud_entry ?_
    rw [Around.under_plainId ud_plain _]
    show wpAny _ A.in1 (pyNext (.ref I) >>= _) _ _ s
    refine wpAny_bind (wpAny_pyNext_list_item (x := .ref b) hit hl (by simpa using hb) fun h1 hit1 hs1 => ?_)
    have ht1 : IsTup h1 b #[.ref q.2.1, q.2.2] := htup.extBut hs1.extBut hbI
    have hl1 : h1.IsList l items := hl.extBut hs1.extBut hlI
    have hm1 : h1.DictOfH (TKd prog w) S acc := dicth_keep hm ha hSI fun b o hb e => hs1.extBut b o hb e
    have k1 : ∀ b o, b ≠ S → b ≠ I → s.heap.get? b = some o → h1.get? b = some o := fun b o _ hb e => hs1.extBut b o hb e
    obtain ⟨o, ho, hc, n, hd⟩ := id ht1
    show wpAny _ A.in1 (holding [Value.ref b] _ >>= _) _ _ _
    refine wpAny_bind (wpAny_holding ?_)
    refine wpAny_bind (wpAny_tryCatch ?_)
    unfold Builtin.Dict.pairItems
    refine wpAny_bind (wpAny_typeOf (T := "tuple") ⟨o, ho, hc⟩ ?_)
    rw [if_pos (by first | decide | rfl | simp)]
    refine wpAny_bind (wpAny_seqItems ho hd (wpAny_pure ?_))
    show wpAny _ A.in1 (holding [.ref q.2.1, q.2.2] (dictSet S (.ref q.2.1) q.2.2)) _ _ _
    refine wpAny_holding (wpAny_dictSet_heap (knd := TKd prog w) (k := q.1) (tupleKind_room_in1 hu) (hk.keep k1).1 hm1 (fun h2 hm2 hs2 => ?_) (by omega))
    have k2 : ∀ b o, b ≠ S → b ≠ I → s.heap.get? b = some o → h2.get? b = some o := fun b o hb hi e => hs2.extBut b o hb (k1 b o hb hi e)
    refine wpAny_pure ⟨plainId_quiet ud_plain _, upd_loopT (items := items) hu hh hlI hSI hSl rest (i + 1) (storedH acc q.1 q.2.1 q.2.2) (ix + 1) 0 _ (show items.size = i + 1 + rest.length by omega) ?_ (fun j q' e => ?_) (fun x hx => ?_) ?_ ?_ hm2 fun h' tk hd' k => ?_⟩
    · have z := storedH_len acc q.1 q.2.1 q.2.2
      omega
    · obtain ⟨b', hb', hbS', hbI', htup', hk'⟩ := ht (j + 1) q' (by simpa using e)
      refine ⟨b', ?_, hbS', hbI', (htup'.extBut hs1.extBut hbI').extBut hs2.extBut hbS', hk'.keep k2⟩
      rw [show i + 1 + j = i + (j + 1) by omega]
      exact hb'
    · rcases mem_storedH hx with ⟨y, hy, e1, e2⟩ | e1
      · have := (ha y hy).keep k2
        unfold KAt
        rw [e1, e2]
        exact this
      · rw [e1]
        exact hk.keep k2
    · exact hit1.at fun o' e => hs2.extBut I o' (Ne.symm hSI) e
    · exact hl1.extBut hs2.extBut (Ne.symm hSl)
    · exact hR h' tk hd' fun c oc h3 h4 e => k c oc h3 h4 (k2 c oc h3 h4 e)
end
end KS
end
noncomputable section
namespace KS
open PySem PySem.Spec PyProof.Rows L2
section
variable {prog : Program} {w : World} {A : Around} {E : Value → Shared → Prop}
theorem call_dict_pairsT {s : Shared} {l : Addr} {ol : Obj} {items : Array Value} {n : Nat} {prs : List (List Key × Addr × Value)} {Q : Value → Shared → Prop} (hu : A.units + 2 < cLine) (hh : A.handled = none) (hl : s.heap.get? l = some ol) (hc : ol.cls = .type "list") (hd : ol.dict = none)
    (hdat : ol.data = .seq items n) (hsz : items.size = prs.length) (hln : prs.length ≤ sizeLine)
    (ht : ∀ (j : Nat) (q : List Key × Addr × Value), prs[j]? = some q → ∃ b : Addr, items[j]? = some (.ref b) ∧ IsTup s.heap b #[.ref q.2.1, q.2.2] ∧ (TKd prog w).is s.heap q.1 q.2.1)
    (h : ∀ h' tk, h'.DictOfH (TKd prog w) s.heap.objs.size (mergedH [] prs) → (∀ b o, s.heap.get? b = some o → h'.get? b = some o) → Q (.ref s.heap.objs.size) { s with heap := h', toks := tk }) :
    wpAny (model prog w) A (call (.type "dict") [.ref l]) Q E s := by
  refine callType_codes (Q₁ := fun obj s₁ => obj = .ref s.heap.objs.size ∧ s₁ = { s with heap := s.heap.push { cls := .type "dict", data := .dict #[] } }) PySem.F.kt_called_dict (PySem.F.kt_typeCall_dict_1 _) PySem.F.entry_dict_init (kt_code_dict_new _ ⟨rfl, rfl⟩) ?_
  rintro obj s₁ ⟨rfl, rfl⟩
  have hnew : (s.heap.push { cls := .type "dict", data := .dict #[] }).DictOfH (TKd prog w) s.heap.objs.size [] := Heap.DictOfH.new s.heap
  have hnewT : Shared.TypeIs { s with heap := s.heap.push { cls := .type "dict", data := .dict #[] } } (.ref s.heap.objs.size) "dict" := hnew.typeIs
  have k0 : ∀ b o, s.heap.get? b = some o → (s.heap.push { cls := .type "dict", data := .dict #[] }).get? b = some o := fun b o e => Heap.get?_push_of_some _ e
  refine ⟨hnewT, PySem.F.args_dict_init_2 _ _, ?_⟩
  unfold Builtin.«dict.__init__»
  refine wpAny_bind ?_
  unfold Builtin.Dict.selfAndRest
  refine wpAny_bind (wpAny_notOrdered_dict hnewT ?_)
  show wpAny _ _ (pure (s.heap.objs.size, [Value.ref l])) _ _ _
  refine wpAny_pure ?_
  show wpAny _ _ (Builtin.Dict.updateFrom "dict.__init__" s.heap.objs.size (.ref l) [] .none) _ _ _
  unfold Builtin.Dict.updateFrom
  refine wpAny_bind (wpAny_typeOf (T := "list") ⟨ol, k0 _ _ hl, hc⟩ ?_)
  rw [if_pos (by first | decide | rfl | simp)]
  refine wpAny_bind (miss_list (k0 _ _ hl) hc hdat hd hh fun h1 tk1 hk1 => ?_)
  rw [if_pos (show (none : Option Value).isNone = true from rfl)]
  refine wpAny_bind (wpAny_rule ?_)
  have hl1 : h1.IsList l items := ⟨ol, hk1 _ _ (k0 _ _ hl), hc, n, hdat⟩
  have eS : (s.heap.push { cls := .type "dict", data := .dict #[] }).get? s.heap.objs.size = some { cls := .type "dict", data := .dict #[] } := Heap.get?_push_size _ rfl
  have hS1 : s.heap.objs.size < h1.objs.size := Heap.lt_size (hk1 _ _ eS)
  refine wpAny_bind (wpAny_pyIter_list hl1 ?_)
  have k2 : ∀ b o, h1.get? b = some o → (h1.push { cls := .type "list_iterator", data := .fields #[.ref l, .int 0 0] }).get? b = some o := fun b o e => Heap.get?_push_of_some _ e
  have kk : ∀ b o, s.heap.get? b = some o → (h1.push { cls := .type "list_iterator", data := .fields #[.ref l, .int 0 0] }).get? b = some o := fun b o e => k2 _ _ (hk1 _ _ (k0 _ _ e))
  have hlt : l < s.heap.objs.size := Heap.lt_size hl
  have hnew2 : (h1.push { cls := .type "list_iterator", data := .fields #[.ref l, .int 0 0] }).DictOfH (TKd prog w) s.heap.objs.size [] := by
    obtain ⟨o, es, ep, ho, r1, r2, r3, r4, r5⟩ := hnew
    exact ⟨o, es, ep, k2 _ _ (hk1 _ _ ho), r1, r2, r3, (fun x hx => nomatch hx), r5⟩
  have key := upd_loopT (prog := prog) (w := w) (A := A.in1) (R := wants (fun r s₂ => r = .none ∧ Q (.ref s.heap.objs.size) s₂) E) (S := s.heap.objs.size) (I := h1.objs.size) (l := l) (items := items) (res := Value.none) hu hh
    (Nat.ne_of_lt (Nat.lt_trans hlt hS1)) (Nat.ne_of_lt hS1) (Nat.ne_of_gt hlt) prs 0 [] 0 0
    { s with heap := h1.push { cls := .type "list_iterator", data := .fields #[.ref l, .int 0 0] }, toks := tk1 } (by rw [hsz, Nat.zero_add]) (by rw [List.length_nil, Nat.zero_add]; exact hln)
    (fun j q e => by
      obtain ⟨b, e1, e2, e3⟩ := ht j q e
      have hb : b < s.heap.objs.size := e2.lt
      have hq : q.2.1 < s.heap.objs.size := by
        obtain ⟨o, its, m, h1, _⟩ := e3
        exact Heap.lt_size h1
      exact ⟨b, by rw [Nat.zero_add]; exact e1, Nat.ne_of_lt hb, Nat.ne_of_lt (Nat.lt_trans hb hS1), e2.keeps fun c o z => kk _ _ z, is_keep e3 fun o ho => kk _ _ ho, Nat.ne_of_lt hq, Nat.ne_of_lt (Nat.lt_trans hq hS1)⟩)
    (fun x hx => nomatch hx) ⟨_, Heap.get?_push_size _ rfl, rfl, rfl⟩ (hl1.at fun o e => k2 _ _ e) hnew2
    (fun h' tk hd' k => ⟨rfl, h h' tk hd' fun b o e => k b o (Nat.ne_of_lt (Heap.lt_size e)) (Nat.ne_of_lt (Nat.lt_trans (Heap.lt_size e) hS1)) (kk _ _ e)⟩)
  first
    | exact wpAny_pure ⟨plainId_quiet ud_plain _, key⟩
    | exact wpAny_bind (wpAny_pure (wpAny_pure ⟨plainId_quiet ud_plain _, key⟩))
end
theorem merged_new : ∀ (rest acc : List (List Key × Addr × Value)), ((acc ++ rest).map (·.1)).Nodup → mergedH acc rest = acc ++ rest
  | [], acc, _ => by rw [List.append_nil]; rfl
  | q :: rest, acc, nd => by
    have no : atKey acc q.1 = none := by
      unfold atKey
      rw [Option.map_eq_none_iff, List.find?_eq_none]
      intro x hx e
      rw [List.map_append, List.map_cons, List.nodup_append] at nd
      exact nd.2.2 x.1 (List.mem_map.mpr ⟨x, hx, rfl⟩) q.1 List.mem_cons_self (by simpa using e)
    show mergedH (storedH acc q.1 q.2.1 q.2.2) rest = _
    rw [storedH_new no]
    have e : acc ++ [(q.1, q.2.1, q.2.2)] = acc ++ [q] := rfl
    rw [e, merged_new rest (acc ++ [q]) (by rw [List.append_assoc]; exact nd), List.append_assoc]
    rfl
def rDictT (K : PySem.W.Frag) : List V → Hp → VK → Prop := fun xs H Q => ∃ (a : Addr) (ps : List Addr) (kvs : List (List Key × V)), xs = [.ref a] ∧ SqL K H a (ps.map V.ref) ∧ Paired (fun p kv => ∃ b, H p = some (.tup [.ref b, kv.2]) ∧ H b = some (.tup (kv.1.map kV))) ps kvs ∧ (kvs.map (·.1)).Nodup ∧
  ∀ p, H p = none → Q (.ref p) (upd H p (.dT kvs))
section
variable {X : Cx}
theorem pairs_ofT {pins : List (Addr × Obj)} {σ : L2.St} {H : Hp} {s : Shared} (I : Inv X pins σ H s) : ∀ {ps : List Addr} {kvs : List (List Key × V)}, Paired (fun p kv => ∃ b, H p = some (.tup [.ref b, kv.2]) ∧ H b = some (.tup (kv.1.map kV))) ps kvs →
    ∃ prs : List (List Key × Addr × Value), KT H kvs prs ∧ prs.length = ps.length ∧ prs.map (·.1) = kvs.map (·.1) ∧ ∀ (j : Nat) (q : List Key × Addr × Value), prs[j]? = some q → ∃ b : Addr, ps[j]? = some b ∧ IsTup s.heap b #[.ref q.2.1, q.2.2] ∧ (TKd X.prog X.w).is s.heap q.1 q.2.1
  | _, _, .nil => ⟨[], .nil, rfl, rfl, fun j q e => by simp at e⟩
  | _, _, .cons (a := p) (b := kv) h t => by
    obtain ⟨prs, r, hl, hm, hp⟩ := pairs_ofT I t
    obtain ⟨b, h1, h2⟩ := h
    obtain ⟨its, rv, ht, _⟩ := I.tuple (SqT.of h1)
    obtain ⟨u, y, ei, ru, ry⟩ := vals2 rv
    subst ei
    obtain rfl : u = Value.ref b := ru
    have hk := key_of I.hok h2
    refine ⟨(kv.1, b, y) :: prs, .cons ⟨rfl, h2, ry⟩ r, by rw [List.length_cons, List.length_cons, hl], by rw [List.map_cons, List.map_cons, hm], fun j q e => ?_⟩
    cases j with
    | zero =>
      have e' : (kv.1, b, y) = q := Option.some.inj e
      subst e'
      exact ⟨p, rfl, ht, hk⟩
    | succ j =>
      obtain ⟨b', e1, e2, e3⟩ := hp j q (by simpa using e)
      exact ⟨b', by simpa using e1, e2, e3⟩
theorem cr_dictT (hu : X.A.units + 2 < cLine) (hcalm : X.calm = true) : CallR X (.type "dict") (rDictT X.K) := by
  intro pins s σ H xs us Q I r q
  obtain ⟨a, ps, kvs, ex, hq, hp, nd, q⟩ := q
  subst ex
  obtain ⟨u, eu, rx⟩ := vals1 r
  subst eu
  cases rx
  obtain ⟨its, rv, pl, hz⟩ := I.list hq
  have ei := refs_at rv
  subst ei
  rw [List.length_map] at hz
  obtain ⟨prs, rel, hl, hm1, hpr⟩ := pairs_ofT I hp
  obtain ⟨o, n, ho, hc, hd, hdat⟩ := pl
  refine call_dict_pairsT (prs := prs) hu (I.ok.hd hcalm) ho hc hd hdat (by simp [hl]) (by rw [hl]; exact hz) (fun j q' e => ?_) fun h' tk hd' k => ?_
  · obtain ⟨b, e1, e2, e3⟩ := hpr j q' e
    exact ⟨b, by simp [e1], e2, e3⟩
  · have hm : (s.heap.objs.size == sysModules) = false := beq_eq_false_iff_ne.mpr (Nat.ne_of_gt I.big)
    rw [merged_new prs [] (by rw [List.nil_append, hm1]; exact nd), List.nil_append] at hd'
    have hlen : kvs.length ≤ sizeLine := by
      have := Paired.length rel
      rw [this, hl]
      exact hz
    have nn := I.hok.fresh (Nat.le_refl s.heap.objs.size)
    have KT' : KT (upd H s.heap.objs.size (.dT kvs)) kvs prs := rel.keeps fun b ys e => by rw [upd_ne (ne_of_none e nn)]; exact e
    obtain ⟨od, es, ep, g1, g2, g3, g4, g5, g6⟩ := hd'
    exact ⟨.ref s.heap.objs.size, upd H s.heap.objs.size (.dT kvs), I.laid (t' := tk) k (Nat.le_refl _) (show ObjOk X.prog X.w _ _ _ (.dT kvs) from ⟨hlen, hm, prs, KT', od, es, ep, g1, g2, g3, g4, g6⟩), rfl, q _ nn⟩
end
end KS
end
noncomputable section
namespace KS
open PySem PySem.Spec PyProof.Rows L2 Evl
open RZ (tLenSetI pe_lenSetI)
section
variable {P : Program} {w : World} {K : PySem.W.Frag} {mg : Str → Option Value} {base : Heap}
theorem sc_cells_of : FnScope ["family", "kind"] ["family", "kind"] (defScope s_cells_of) := ⟨rfl, rfl, rfl, by decide +kernel, rfl, by decide +kernel, by decide +kernel⟩
def R_cells_of : List PyData → PyData → Prop := fun ds d => ∃ (f : Fam) (k : Int), ds = [encF f, .int k] ∧ 0 ≤ k ∧ k < f.length ∧ d = .int (kd f k).ce
theorem ok_cells_of (d : Df K mg "cells_of" s_cells_of ["family", "kind"]) : Cl P w K mg base "cells_of" ["family", "kind"] 1 (spD R_cells_of) := by
  refine d.ok sc_cells_of (spD_len (by rintro _ _ ⟨_, _, rfl, _⟩; rfl)) (fun f cdv A outer s H vs Q E hr h => ?_)
  obtain ⟨ds, dd, hv, ⟨f, k, rfl, h0, h1, rfl⟩, q⟩ := h
  obtain ⟨x, y, rfl, hx, hy⟩ := hv.args2
  refine ⟨_, pss_one (ps_ret (pe_ix ix_tup (pe_ix ix_tup (pv 0) (pv 1) (fun _ _ => rfl)) pe_int (fun _ _ => rfl))), ?_⟩
  exact sd_ret (ed_ixT (ed_ixT (ds := f.map encK) (ed_var rfl hx) (ed_var rfl hy) (atI_map (atI_kd h0 h1))) (ed_ci 2) rfl) fun v H1 e hv => q v H1 e hv
/-! ### before_cells, body_size -/
abbrev N_before : List Str := ["family", "kind", "plain", "elder"]
theorem sc_before : FnScope N_before ["family", "kind"] (defScope s_before_cells) := ⟨rfl, rfl, rfl, by decide +kernel, rfl, by decide +kernel, by decide +kernel⟩
theorem sc_body : FnScope ["family", "kind"] ["family", "kind"] (defScope s_body_size) := ⟨rfl, rfl, rfl, by decide +kernel, rfl, by decide +kernel, by decide +kernel⟩
def R_body (n : Nat) : List PyData → PyData → Prop := fun ds d => ∃ (f : Fam) (k : Int), ds = [encF f, .int k] ∧ Valid f ∧ 0 ≤ k ∧ k < f.length ∧ k < n ∧ d = .int ((bodyF n f k : Nat) : Int)
def R_before (n : Nat) : List PyData → PyData → Prop := fun ds d => ∃ (f : Fam) (k : Int), ds = [encF f, .int k] ∧ Valid f ∧ 0 ≤ k ∧ k < f.length ∧ k ≤ n ∧ d = .int (((if plain f k = [] then 1 else ((plain f k).map (bodyF n f)).sum : Nat)) : Int)
theorem cast_sum (l : List Nat) : ((l.sum : Nat) : Int) = (l.map fun n => ((n : Nat) : Int)).sum := by
  induction l with
  | nil => rfl
  | cons a l ih => rw [List.sum_cons, List.map_cons, List.sum_cons, ← ih]; omega
theorem ok_before (B : Bt mg) (ms : mg "sum" = none) (d : Df K mg "before_cells" s_before_cells ["family", "kind"]) (cP : Cl P w K mg base "plain_elders" ["family", "kind"] 2 (spL R_plain)) {n j : Nat} (cB : Cl P w K mg base "body_size" ["family", "kind"] (j + 2) (spD (R_body n))) : Cl P w K mg base "before_cells" ["family", "kind"] (j + 3) (spD (R_before n)) := by
  refine d.ok sc_before (spD_len (by rintro _ _ ⟨_, _, rfl, _⟩; rfl)) (fun fa cdv A outer s H vs Q E hr h => ?_)
  obtain ⟨ds, es, hv, ⟨f, k, rfl, V, k0, k1, kn, rfl⟩, q⟩ := h
  obtain ⟨x, y, rfl, hx, hy⟩ := hv.args2
  refine ⟨_, pss_cons (ps_set (i := 2) sc_before.nd rfl (.inl rfl) (pe_cl cP (hr.mono (by omega)) (pa_cons (pv 0) (pa_cons (pv 1) pa_nil))))
    (pss_cons (ps_if (pt_not (pt_truth (pv 2) (by intro _; rfl))) (pss_one (ps_ret pe_int)) pss_nil)
    (pss_one (ps_ret (pe_callB (cr_sum (by rfl)) (by rfl) ms boot_sum (pa_cons (pe_lc (own := [("elder", 3)]) (g := gName 3) (tt := tYes) rfl sc_before.nd (pi_list (pv 2)) (blkOk_by (N := N_before) (sc := defScope s_before_cells) (by decide +kernel))
      (fun _ _ _ _ _ => pg_name (i := 3) sc_before.nd rfl (.inl rfl)) (fun _ _ _ _ _ => pts_nil) (fun _ _ _ _ _ => pe_cl cB hr (pa_cons (pv 0) (pa_cons (pv 3) pa_nil)))) pa_nil))))), ?_⟩
  refine sl_asg (ds := (plain f k).map PyData.int) (el_call' (eas2 (ed_var (i := 0) rfl hx) (ed_var (i := 1) rfl hy)) ⟨f, k, rfl, V, k0, k1, rfl⟩) fun p xs H1 np e1 hp ha => ?_
  dsimp only
  have hd : D H1 (.ref p) (.list ((plain f k).map PyData.int)) := .lst hp ha
  by_cases hn : plain f k = []
  · refine sd_if (b := true) (et_is (et_not (et_truL (ed_var (i := 2) rfl hd))) (by rw [hn]; rfl)) (fun _ H2 e2 => ?_) (fun z => nomatch z)
    rw [if_pos hn] at q
    exact sd_ret (ed_ci 1) fun v H3 e3 hv => q v H3 ((e1.trans e2).trans e3) hv
  · refine sd_if (b := false) (et_is (et_not (et_truL (ed_var (i := 2) rfl hd))) (by cases z : plain f k with | nil => exact absurd z hn | cons a r => rfl)) (fun z => nomatch z) fun _ H2 e2 => ?_
    refine st_next ?_
    dsimp only
    rw [if_neg hn] at q
    refine sd_ret (ed_is (ed_sum (ns := (plain f k).map fun a => ((bodyF n f a : Nat) : Int)) (EL.ed (el_is (el_lcL (as := plain f k) (enc := PyData.int) (fun _ => true) (fun a => .int ((bodyF n f a : Nat) : Int)) (ed_var (i := 2) rfl (hd.mono e2)) (by have := (V.kok k0 k1).few; unfold KS.plain; rw [List.length_map]; exact Nat.le_trans (List.length_filter_le _ _) (by omega)) (fun _ _ _ => rfl) (fun _ _ => rfl) fun a ha v H3 e3 hv => ?_) (by rw [filt_true, List.map_map]; rfl)))) ?_) fun v H3 e3 hv => q v H3 ((e1.trans e2).trans e3) hv
    · have pl := V.plain k1 ha
      exact ⟨[some x, some y, some (.ref p), some v], rfl, fun _ _ R h => h, et_yes, fun _ => ed_call (eas2 (ed_var (i := 0) rfl (((hx.mono e1).mono e2).mono e3)) (ed_var (i := 3) rfl hv)) ⟨f, a, rfl, V, pl.1, pl.2.2, by omega, rfl⟩⟩
    · rw [cast_sum, List.map_map]; rfl
theorem ok_body (B : Bt mg) (ms : mg "sum" = none) (dB : Df K mg "before_cells" s_before_cells ["family", "kind"]) (d : Df K mg "body_size" s_body_size ["family", "kind"]) (cP : Cl P w K mg base "plain_elders" ["family", "kind"] 2 (spL R_plain)) (cC : Cl P w K mg base "cells_of" ["family", "kind"] 1 (spD R_cells_of)) :
    ∀ n : Nat, Cl P w K mg base "body_size" ["family", "kind"] (2 * n + 2) (spD (R_body n))
  | 0 => Cl.never d fun vs H Q E h => by
    obtain ⟨_, _, _, ⟨_, k, _, _, k0, _, kn, _⟩, _⟩ := h
    have : ((0 : Nat) : Int) = 0 := rfl
    omega
  | n + 1 => by
    have G := ok_before B ms dB cP (ok_body B ms dB d cP cC n)
    refine d.ok sc_body (spD_len (by rintro _ _ ⟨_, _, rfl, _⟩; rfl)) (fun fa cdv A outer s H vs Q E hr h => ?_)
    obtain ⟨ds, es, hv, ⟨f, k, rfl, V, k0, k1, kn, rfl⟩, q⟩ := h
    obtain ⟨x, y, rfl, hx, hy⟩ := hv.args2
    refine ⟨_, pss_one (ps_ret (pe_op op_add (pe_cl G hr (pa_cons (pv 0) (pa_cons (pv 1) pa_nil))) (pe_cl cC (hr.mono (by omega)) (pa_cons (pv 0) (pa_cons (pv 1) pa_nil))))), ?_⟩
    have o := (V.kok k0 k1).cells
    refine sd_ret (ed_I0 (ed_call (eas2 (ed_var (i := 0) rfl hx) (ed_var (i := 1) rfl hy)) ⟨f, k, rfl, V, k0, k1, by omega, rfl⟩) (ed_call (eas2 (ed_var (i := 0) rfl hx) (ed_var (i := 1) rfl hy)) ⟨f, k, rfl, k0, k1, rfl⟩) fun H => ?_) fun v H3 e3 hv => q v H3 e3 hv
    have e : ((bodyF (n + 1) f k : Nat) : Int) = (((if plain f k = [] then 1 else ((plain f k).map (bodyF n f)).sum : Nat)) : Int) + (kd f k).ce := by
      unfold bodyF cells
      omega
    rw [e]
    exact .int _
/-! ### plain_step -/
abbrev N_pstep : List Str := ["family", "kind", "elder", "plain", "earlier"]
theorem sc_pstep : FnScope N_pstep ["family", "kind", "elder"] (defScope s_plain_step) := ⟨rfl, rfl, rfl, by decide +kernel, rfl, by decide +kernel, by decide +kernel⟩
def R_pstep : List PyData → PyData → Prop := fun ds d => ∃ (f : Fam) (k e : Int), ds = [encF f, .int k, .int e] ∧ Valid f ∧ 0 ≤ k ∧ k < f.length ∧ e ∈ plain f k ∧ d = .int ((stepF f k e : Nat) : Int)
theorem ok_pstep (B : Bt mg) (ms : mg "sum" = none) (d : Df K mg "plain_step" s_plain_step ["family", "kind", "elder"]) (cP : Cl P w K mg base "plain_elders" ["family", "kind"] 2 (spL R_plain)) (cB : Cl P w K mg base "body_size" ["family", "kind"] 34 (spD (R_body NN))) : Cl P w K mg base "plain_step" ["family", "kind", "elder"] 35 (spD R_pstep) := by
  refine d.ok sc_pstep (spD_len (by rintro _ _ ⟨_, _, _, rfl, _⟩; rfl)) (fun fa cdv A outer s H vs Q E hr h => ?_)
  obtain ⟨ds, es, hv, ⟨f, k, e, rfl, V, k0, k1, he, rfl⟩, q⟩ := h
  obtain ⟨x, y, z, rfl, hx, hy, hz⟩ := hv.args3
  refine ⟨_, pss_cons (ps_set (i := 3) sc_pstep.nd rfl (.inl rfl) (pe_cl cP (hr.mono (by omega)) (pa_cons (pv 0) (pa_cons (pv 1) pa_nil))))
    (pss_one (ps_ret (pe_callB (cr_sum (by rfl)) (by rfl) ms boot_sum (pa_cons (pe_lc (own := [("earlier", 4)]) (g := gName 4) (tt := tYes) rfl sc_pstep.nd (pi_list (pe_slice sl_list (pv 3) po_none (po_some (pe_bm PySem.F.plainAttrs_list PySem.F.slot_list_index PySem.F.type_list_index mt_index (pv 3) (pa_cons (pv 2) pa_nil))))) (blkOk_by (N := N_pstep) (sc := defScope s_plain_step) (by decide +kernel))
      (fun _ _ _ _ _ => pg_name (i := 4) sc_pstep.nd rfl (.inl rfl)) (fun _ _ _ _ _ => pts_nil) (fun _ _ _ _ _ => pe_cl cB hr (pa_cons (pv 0) (pa_cons (pv 4) pa_nil)))) pa_nil)))), ?_⟩
  refine sl_asg (ds := (plain f k).map PyData.int) (el_call' (eas2 (ed_var (i := 0) rfl hx) (ed_var (i := 1) rfl hy)) ⟨f, k, rfl, V, k0, k1, rfl⟩) fun p xs H1 np e1 hp ha => ?_
  dsimp only
  have hd : D H1 (.ref p) (.list ((plain f k).map PyData.int)) := .lst hp ha
  have pz : (plain f k).length ≤ 3 := by have := (V.kok k0 k1).few; unfold KS.plain; rw [List.length_map]; exact Nat.le_trans (List.length_filter_le _ _) this
  refine sd_ret (ed_is (ed_sum (ns := ((plain f k).take ((plain f k).idxOf e)).map fun a => ((bodyF NN f a : Nat) : Int)) (EL.ed (el_is (el_lcL (as := (plain f k).take ((plain f k).idxOf e)) (enc := PyData.int) (fun _ => true) (fun a => .int ((bodyF NN f a : Nat) : Int)) (ed_is (EL.ed (el_slTakeL (ed_var (i := 3) rfl hd) (ed_indexI (ed_var (i := 3) rfl hd) (ed_var (i := 2) rfl (hz.mono e1)) he) (by omega))) (by rw [List.map_take]; rfl)) (by rw [List.length_take]; omega) (fun _ _ _ => rfl) (fun _ _ => rfl) fun a ha v H3 e3 hv => ?_) (by rw [filt_true, List.map_map]; rfl)))) ?_) fun v H3 e3 hv => q v H3 (e1.trans e3) hv
  · have pl := V.plain k1 (List.mem_of_mem_take ha)
    exact ⟨[some x, some y, some z, some (.ref p), some v], rfl, fun _ _ R h => h, et_yes, fun _ => ed_call (eas2 (ed_var (i := 0) rfl ((hx.mono e1).mono e3)) (ed_var (i := 4) rfl hv)) ⟨f, a, rfl, V, pl.1, pl.2.2, by have := V.2.1; show a < (16 : Int); omega, rfl⟩⟩
  · unfold stepF
    rw [cast_sum, List.map_map]; rfl
end
end KS
end
noncomputable section
namespace KS
open PySem PySem.Spec PyProof.Rows L2 Evl
open RZ (tLenSetI pe_lenSetI)
/-- all but d's object stays -/
def Exd (d : Addr) (H H' : Hp) : Prop := ∀ a o, a ≠ d → H a = some o → H' a = some o
theorem Exd.refl (d : Addr) (H : Hp) : Exd d H H := fun _ _ _ h => h
theorem Exd.ex {d : Addr} {H H1 H2 : Hp} (a : Exd d H H1) (b : Ex H1 H2) : Exd d H H2 := fun x o n h => b x o (a x o n h)
theorem Exd.put {d : Addr} {H H1 : Hp} {o : HO} (a : Exd d H H1) : Exd d H (upd H1 d o) := fun x u n h => by rw [upd_ne n]; exact a x u n h
theorem Exd.tu {d : Addr} {H H1 : Hp} {kvs : List (List L2.Key × V)} (a : Exd d H H1) (h : H d = some (.dT kvs)) : Tu H H1 := fun x xs hx => a x _ (fun e => by rw [e, h] at hx; cases hx) hx
abbrev keyP (p : Part) : List L2.Key := p.map Sum.inl
def ents (f : Fam) (k : Int) (l : List Part) : List (List L2.Key × V) := l.map fun p => (keyP p, V.int ((atF f k p : Nat) : Int))
theorem keyP_inj : ∀ {a b : Part}, keyP a = keyP b → a = b
  | [], [], _ => rfl
  | [], _ :: _, h => by cases h
  | _ :: _, [], h => by cases h
  | x :: a, y :: b, h => by
    obtain ⟨h1, h2⟩ := List.cons.inj h
    rw [Sum.inl.inj h1, keyP_inj h2]
theorem keyP_kV (p : Part) : (keyP p).map kV = p.map V.int := by unfold keyP; rw [List.map_map]; rfl
theorem ents_in {f : Fam} {k : Int} : ∀ {l : List Part} {p : Part}, p ∈ l → valV (ents f k l) (keyP p) = some (.int ((atF f k p : Nat) : Int))
  | a :: l, p, h => by
    by_cases e : a = p
    · subst e
      exact valV_pos rfl
    · rw [show ents f k (a :: l) = (keyP a, V.int ((atF f k a : Nat) : Int)) :: ents f k l from rfl, valV_neg (fun z => e (keyP_inj z))]
      rcases List.mem_cons.mp h with h | h
      · exact absurd h.symm e
      · exact ents_in h
theorem ents_out {f : Fam} {k : Int} : ∀ {l : List Part} {p : Part}, ¬ p ∈ l → valV (ents f k l) (keyP p) = none
  | [], p, _ => rfl
  | a :: l, p, h => by
    rw [show ents f k (a :: l) = (keyP a, V.int ((atF f k a : Nat) : Int)) :: ents f k l from rfl, valV_neg (fun z => h (by rw [keyP_inj z]; exact List.mem_cons_self))]
    exact ents_out fun z => h (List.mem_cons_of_mem _ z)
theorem not_before {α : Type} {l : List α} (nd : l.Nodup) {i : Nat} {p : α} (h : l[i]? = some p) : ¬ p ∈ l.take i := by
  intro z
  obtain ⟨j, hj, e⟩ := List.mem_take_iff_getElem.mp z
  have hi := (List.getElem?_eq_some_iff.mp h).1
  have hj' : j < l.length := by omega
  have e2 : l[j]? = some p := by rw [List.getElem?_eq_getElem hj', e]
  have : i = j := (List.getElem?_inj hi nd).mp (h.trans e2.symm)
  omega
theorem atI_end2 {q : Part} {e : Int} (h : q ≠ []) : atI (q ++ [e]) (-2) = some (lastP q) := by
  have e1 : q = q.dropLast ++ [q.getLast h] := (List.dropLast_concat_getLast h).symm
  have e2 : lastP q = q.getLast h := by
    unfold lastP
    rw [List.getLastD_eq_getLast?, List.getLast?_eq_getLast h]; rfl
  have hp : 0 < q.length := List.length_pos_iff.mpr h
  have hl : (q ++ [e]).length = q.length + 1 := by simp
  have e3 : ixN (q ++ [e]).length (-2) = some (q.length - 1) := by
    unfold ixN
    rw [hl, if_neg (by decide), if_pos (by omega)]
    congr 1
    omega
  unfold atI
  rw [e3]
  show (q ++ [e])[q.length - 1]? = _
  rw [List.getElem?_append_left (by omega), e2, ← List.getLast?_eq_getElem?, List.getLast?_eq_getLast h]
section
variable {K : PySem.W.Frag} {σ : L2.St} {H H' : Hp} {ta tb tc te ty : TE} {tt : TT} {d d1 d2 z : PyData} {ds es : List PyData}
theorem ed_neg1 {i : Int} : ED (tUn (rU fun i => .int (-i)) (tC (.int i))) σ H (.int (-i)) := fun H2 e Q q => ⟨i, rfl, q _ H2 (Ex.refl _) (.int _)⟩
theorem ed_slInit (h : ED te σ H (.tuple ds)) (h1 : ds ≠ []) : ED (tSl (rSlA K) te tNoPart (tPart (tUn (rU fun i => .int (-i)) (tC (.int 1))))) σ H (.tuple ds.dropLast) := fun H1 e Q q =>
  h H1 e _ fun x H2 e2 hx => by
    obtain ⟨a, xs, rfl, h1', h2⟩ := hx.toTup
    have pos : 0 < xs.length := by rw [h2.len]; exact List.length_pos_iff.mpr h1
    have e1 : HT.sIx xs.length xs.length (some (-1)) = xs.length - 1 := by
      show (if (-1 : Int) < 0 then ((-1 : Int) + (xs.length : Int)).toNat else min (-1 : Int).toNat xs.length) = _
      rw [if_pos (by decide)]
      omega
    refine ⟨1, rfl, -1, rfl, a, xs, rfl, SqT.of h1', fun hw => ?_, fun hw p hp => ?_⟩
    · rw [e1] at hw
      omega
    · have e3 : cutV xs none (some (-1)) = xs.dropLast := by
        unfold cutV
        rw [HT.sIx_none, e1, List.drop_zero, Nat.sub_zero, List.dropLast_eq_take]
      rw [e3, List.dropLast_eq_take]
      have t := h2.take (xs.length - 1)
      rw [show ds.dropLast = ds.take (xs.length - 1) by rw [List.dropLast_eq_take, h2.len]] at q
      exact q _ _ (e2.trans (Ex.new hp)) (.tup upd_same (t.mono (Ex.new hp)))
theorem ed_dgetT {i : Nat} {dd : Addr} {kvs : List (List L2.Key × V)} {p : Part} {v : V} (hi : σ[i]? = some (some (.ref dd))) (hd : H dd = some (.dT kvs)) (hk : ED ty σ H (encP p)) (hv : valV kvs (keyP p) = some v) (hz : ∀ H, D H v z) : ED (tDGet (tVar i) ty) σ H z := fun H1 e Q q =>
  ⟨.ref dd, hi, hk H1 e _ fun y H2 e2 hy => by
    obtain ⟨b, xs, rfl, hb, ha⟩ := hy.toTup
    have ex := ha.ints
    subst ex
    refine ⟨dd, v, rfl, ?_, q _ H2 e2 (hz H2)⟩
    rw [← hv]
    exact DGet.t (k := keyP p) (e2 _ _ (e _ _ hd)) (by rw [keyP_kV]; exact hb)⟩
end
section
variable {P : Program} {w : World} {K : PySem.W.Frag} {mg : Str → Option Value} {base : Heap}
/-! ### place -/
abbrev N_place : List Str := ["family", "kind", "size", "begins", "part"]
theorem sc_place : FnScope N_place ["family", "kind"] (defScope s_place) := ⟨rfl, rfl, rfl, by decide +kernel, rfl, by decide +kernel, by decide +kernel⟩
def spPlace : Sp := fun vs H Q _ => ∃ (f : Fam) (k : Int), DA H vs [encF f, .int k] ∧ Valid f ∧ 0 ≤ k ∧ k < f.length ∧ ∀ t d H', H d = none → Ex H H' → H' t = some (.tup [.int ((sizeF f (lm NN f [k]) : Nat) : Int), .ref d]) → H' d = some (.dT (ents f k (lm NN f [k]))) → Q (.ref t) H'
theorem ok_place (B : Bt mg) (d : Df K mg "place" s_place ["family", "kind"]) (cM : Cl P w K mg base "met_from" ["family", "part"] 18 (spL R_met_from)) (cB : Cl P w K mg base "body_size" ["family", "kind"] 34 (spD (R_body NN))) (cS : Cl P w K mg base "plain_step" ["family", "kind", "elder"] 35 (spD R_pstep)) :
    Cl P w K mg base "place" ["family", "kind"] 36 spPlace := by
  refine d.ok sc_place (fun vs H Q E h => by obtain ⟨f, k, h, _⟩ := h; exact h.len) (fun fa cdv A outer s H vs Q E hr h => ?_)
  obtain ⟨f, k, hv, V, k0, k1, q⟩ := h
  obtain ⟨x, y, rfl, hx, hy⟩ := hv.args2
  have hu : (A.deeper (envOfC "place" (defScope s_place) s.heap.objs.size fa cdv)).units + 1 < cLine := by have := hu64 hr; omega
  refine ⟨_, pss_cons (ps_set (i := 2) sc_place.nd rfl (.inl rfl) pe_int)
    (pss_cons (ps_set (i := 3) sc_place.nd rfl (.inl rfl) pe_dnewT)
    (pss_cons (ps_for PassesOwn.never rfl (pi_list (pe_cl cM (hr.mono (by omega)) (pa_cons (pv 0) (pa_cons (pe_tup (pa_cons (pv 1) pa_nil)) pa_nil)))) (pg_name (i := 4) sc_place.nd rfl (.inl rfl))
      (pss_one (ps_if (pt_cmpR op_eq (pe_callB call_len rfl B.len PySem.boot_len (pa_cons (pv 4) pa_nil)) pe_int (nomark _))
        (pss_cons (ps_dput hu (pv 3) (pv 4) (pv 2) rfl)
        (pss_one (ps_aug (i := 2) sc_place.nd rfl (.inl rfl) (pe_cl cB (hr.mono (by omega)) (pa_cons (pv 0) (pa_cons (pe_ix (r := rIxT K) ix_tup (pv 4) pe_int (fun _ _ => rfl)) pa_nil))) ip_add)))
        (pss_one (ps_dput hu (pv 3) (pv 4) (pe_op op_add (pe_dget hu (pv 3) (pe_slice sl_tupA (pv 4) po_none (po_some (pe_un un_neg pe_int))) (fun _ _ => rfl))
          (pe_cl cS hr (pa_cons (pv 0) (pa_cons (pe_ix (r := rIxT K) ix_tup (pv 4) (pe_un un_neg pe_int) (fun _ _ => rfl)) (pa_cons (pe_ix (r := rIxT K) ix_tup (pv 4) (pe_un un_neg pe_int) (fun _ _ => rfl)) pa_nil))))) rfl)))))
    (pss_one (ps_ret (pe_tup (pa_cons (pv 2) (pa_cons (pv 3) pa_nil))))))), ?_⟩
  have F := V.flat
  have L := F.low
  have k16 : k < 16 := by have := V.2.1; omega
  refine fun dd nd => ?_
  have e1 : Ex H (upd H dd (.dT [])) := Ex.new nd
  have d1 : (upd H dd (.dT [])) dd = some (.dT []) := upd_same
  generalize upd H dd (.dT []) = H1 at e1 d1 ⊢
  have hf1 : D H1 x (encF (f ++ [])) := by rw [List.append_nil]; exact hx.mono e1
  refine (el_call' (eas2 (ed_var (i := 0) rfl hf1) (ed_tup (ds := [.int k]) (eas1 (ed_var (i := 1) rfl (hy.mono e1))) (by show 1 ≤ 100000; decide))) ⟨f, [], [k], rfl, V.kinds, V.2.2.1, V.parts k0 k1 (root_in f k), rfl⟩) H1 (Ex.refl _) _ fun m xm H2 nm e2 hm am => ?_
  have d2 := e2 _ _ d1
  have md : m ≠ dd := (ne_of_none d1 nm).symm
  have xl : xm.length = (lm NN f [k]).length := by rw [am.len, List.length_map]
  have hx2 := (hx.mono e1).mono e2
  refine ⟨m, rfl, ⟨xm, SqL.of hm⟩, for_list (K := K) (a := m) (xs := xm) (fun i σ H' => (∃ y4, σ = [some x, some y, some (.int ((sizeF f ((lm NN f [k]).take i) : Nat) : Int)), some (.ref dd), y4]) ∧ Exd dd H2 H' ∧ H' dd = some (.dT (ents f k ((lm NN f [k]).take i)))) ⟨⟨_, rfl⟩, Exd.refl _ _, d2⟩ (fun i σ H' _ ⟨_, ed, _⟩ => SqL.of (ed _ _ md hm)) (fun i v σ H3 hi ⟨⟨y4, es⟩, e3, d3⟩ => ?_) (fun σ H3 ⟨⟨y4, es⟩, e3, d3⟩ => ?_)⟩
  · subst es
    obtain ⟨dp, hdp, hv⟩ := am.get2 hi
    obtain ⟨p, g1, g2⟩ : ∃ p, (lm NN f [k])[i]? = some p ∧ dp = encP p := by
      rw [List.getElem?_map] at hdp
      cases z : (lm NN f [k])[i]? with
      | none => rw [z] at hdp; cases hdp
      | some p => rw [z] at hdp; exact ⟨p, rfl, (Option.some.inj hdp).symm⟩
    subst g2
    have pm := List.mem_of_getElem? g1
    have pp := V.parts k0 k1 pm
    have few := V.few k0 k1
    obtain ⟨pa, xp, rfl, hpa, hap⟩ := hv.toTup
    have ex := hap.ints
    subst ex
    have tu := e3.tu d2
    have hpa3 := tu _ _ hpa
    have hp3 : D H3 (.ref pa) (encP p) := .tup hpa3 (DA.ofInts p)
    have hf3 := hx2.keep tu (flat_F f)
    have tk : ∀ r, r = (keyP p, L2.V.int ((atF f k p : Nat) : Int)) → ents f k ((lm NN f [k]).take i) ++ [r] = ents f k ((lm NN f [k]).take (i + 1)) := fun r hr => by
      rw [hr, List.take_add_one, g1]
      unfold ents
      rw [List.map_append]; rfl
    have new : valV (ents f k ((lm NN f [k]).take i)) (keyP p) = none := ents_out (not_before (lm_nodup NN f [k]) g1)
    have sz : (ents f k ((lm NN f [k]).take i)).length < sizeLine := by
      unfold ents
      rw [List.length_map, List.length_take]
      exact small1000 (by omega)
    have hlen : ED (tCB (fun xs H Q => ∃ x n, xs = [x] ∧ LenV K x H n ∧ Q (.int n) H) (tCons (tVar 4) tNil)) [some x, some y, some (.int ((sizeF f ((lm NN f [k]).take i) : Nat) : Int)), some (.ref dd), some (.ref pa)] H3 (.int ((p.length : Nat) : Int)) := ed_is (ed_lenT (ds := p.map PyData.int) (ed_var (i := 4) rfl hp3)) (by rw [List.length_map])
    have zs := size_snoc (f := f) g1
    by_cases h1 : p.length = 1
    · refine sd_if (b := true) (et_D (ed_is (ed_eqI hlen (ed_ci 1)) (by rw [h1]; rfl))) (fun _ H4 e4 => ?_) (fun z => nomatch z)
      have d4 := e4 _ _ d3
      refine ⟨.int ((sizeF f ((lm NN f [k]).take i) : Nat) : Int), rfl, .ref dd, rfl, .ref pa, rfl, dd, _, rfl, DPut.t (k := keyP p) d4 (by rw [keyP_kV]; exact e4 _ _ hpa3) sz, ?_⟩
      rw [putK_new _ new, tk _ (by rw [at_root F k0 k16 g1 h1])]
      have e5 : Exd dd H2 (upd H4 dd (.dT (ents f k ((lm NN f [k]).take (i + 1))))) := (e3.ex e4).put
      have d5 : (upd H4 dd (.dT (ents f k ((lm NN f [k]).take (i + 1))))) dd = some (.dT (ents f k ((lm NN f [k]).take (i + 1)))) := upd_same
      generalize upd H4 dd (.dT (ents f k ((lm NN f [k]).take (i + 1)))) = H5 at e5 d5 ⊢
      have tu5 := e5.tu d2
      have hp5 : D H5 (.ref pa) (encP p) := .tup (tu5 _ _ hpa) (DA.ofInts p)
      have l1 : atI (p.map PyData.int) 0 = some (.int (lastP p)) := by rw [one_of h1]; rfl
      refine ⟨_, rfl, (ed_call (eas2 (ed_var (i := 0) rfl (hx2.keep tu5 (flat_F f))) (ed_ixT (ed_var (i := 4) rfl hp5) (ed_ci 0) l1)) ⟨f, lastP p, rfl, V, pp.2.1, pp.2.2.1, by have := V.2.1; have := pp.2.2.1; show lastP p < (16 : Int); omega, rfl⟩) H5 (Ex.refl _) _ fun v6 H6 e6 hv6 => ?_⟩
      refine ⟨_, _, rfl, hv6.toInt, ?_⟩
      refine ⟨⟨some (.ref pa), ?_⟩, e5.ex e6, e6 _ _ d5⟩
      rw [zs, if_pos h1, Int.natCast_add]
      rfl
    · refine sd_if (b := false) (et_D (ed_is (ed_eqI hlen (ed_ci 1)) (by rw [decide_eq_false (by omega)]))) (fun z => nomatch z) fun _ H4 e4 => ?_
      have d4 := e4 _ _ d3
      rcases met_lm NN [k] (by simp) i p g1 with h | h | ⟨r, e, rfl, hr', rn, he⟩
      · exact absurd (by rw [h]; rfl) h1
      · exact absurd h h1
      · have rm := List.mem_of_mem_take hr'
        have rp := V.parts k0 k1 rm
        have hp4 : D H4 (.ref pa) (encP (r ++ [e])) := hp3.mono e4
        have hf4 := hf3.mono e4
        have ei : encP (r ++ [e]) = .tuple (r.map PyData.int ++ [.int e]) := by unfold encP; rw [List.map_append]; rfl
        have hp4' : D H4 (.ref pa) (.tuple (r.map PyData.int ++ [.int e])) := by rw [← ei]; exact hp4
        refine (ed_I0 (ed_dgetT (p := r) (v := .int ((atF f k r : Nat) : Int)) (i := 3) rfl d4 (ed_is (ed_slInit (ed_var (i := 4) rfl hp4') (by simp)) (by rw [List.dropLast_concat]; rfl)) (ents_in hr') fun H => .int _) (ed_call (eas_cons (ed_var (i := 0) rfl hf4) (eas2 (ed_ixT (ds := (r ++ [e]).map PyData.int) (d := .int (lastP r)) (ed_var (i := 4) rfl hp4) ed_neg1 (atI_map (atI_end2 rn))) (ed_ixT (ds := (r ++ [e]).map PyData.int) (d := .int e) (ed_var (i := 4) rfl hp4) ed_neg1 (atI_map (atI_last r e))))) ⟨f, lastP r, e, rfl, V, rp.2.1, rp.2.2.1, he, rfl⟩) fun H => .int _) H4 (Ex.refl _) _ fun v H6 e6 hv6 => ?_
        have ev := hv6.toInt
        subst ev
        have d6 := e6 _ _ d4
        refine ⟨.ref dd, rfl, .ref pa, rfl, dd, _, rfl, DPut.t (k := keyP (r ++ [e])) d6 (by rw [keyP_kV]; exact e6 _ _ (e4 _ _ hpa3)) sz, ?_⟩
        rw [putK_new _ new, tk _ (by rw [at_child F k0 k16 rm he, Int.natCast_add])]
        refine ⟨⟨some (.ref pa), ?_⟩, ((e3.ex e4).ex e6).put, upd_same⟩
        rw [zs, if_neg h1, Nat.add_zero]
        rfl
  · subst es
    rw [xl, List.take_length] at d3 ⊢
    refine ⟨_, rfl, _, rfl, by show 2 ≤ sizeLine; decide, fun t ht => ?_⟩
    have td : t ≠ dd := (ne_of_none d3 ht).symm
    have up : Ex H H3 := fun a o ha => e3 a o (ne_of_none ha nd) (e2 a o (e1 a o ha))
    exact q t dd _ nd (up.trans (Ex.new ht)) upd_same (by rw [upd_ne td.symm]; exact d3)
end
end KS
end
noncomputable section
namespace KS
open PySem PySem.Spec PyProof.Rows L2 Evl
open RZ (tLenSetI pe_lenSetI)
theorem bodyF_le {f : Fam} (few : ∀ k, (plain f k).length ≤ 3) (ce : ∀ k, cells f k ≤ 3) : ∀ (n : Nat) (k : Int), bodyF n f k ≤ 4 ^ (n + 1)
  | 0, _ => by unfold bodyF; omega
  | n + 1, k => by
    have i := bodyF_le few ce n
    have c := ce k
    have pw : 4 ^ (n + 1 + 1) = 4 * 4 ^ (n + 1) := by rw [Nat.pow_succ]; omega
    have p1 : 4 ≤ 4 ^ (n + 1) := by
      have : 1 ≤ 4 ^ n := Nat.pos_of_ne_zero (by simp)
      rw [Nat.pow_succ]; omega
    have s : ∀ l : List Int, (l.map (bodyF n f)).sum ≤ l.length * 4 ^ (n + 1) := by
      intro l
      induction l with
      | nil => simp
      | cons a l ih =>
        rw [List.map_cons, List.sum_cons, List.length_cons, Nat.add_mul]
        have := i a
        omega
    have s' := s (plain f k)
    have fw := few k
    have m : (plain f k).length * 4 ^ (n + 1) ≤ 3 * 4 ^ (n + 1) := Nat.mul_le_mul_right _ fw
    unfold bodyF
    split <;> omega
theorem Valid.fewP {f : Fam} (V : Valid f) (k : Int) : (KS.plain f k).length ≤ 3 := by
  unfold KS.plain kd
  rw [List.getD_eq_getElem?_getD, List.length_map]
  refine Nat.le_trans (List.length_filter_le _ _) ?_
  cases h : f[k.toNat]? with
  | none => show 0 ≤ 3; omega
  | some kk => exact (V.kinds _ kk h).few
theorem Valid.fewC {f : Fam} (V : Valid f) (k : Int) : cells f k ≤ 3 := by
  unfold cells kd
  rw [List.getD_eq_getElem?_getD]
  cases h : f[k.toNat]? with
  | none => show (0 : Int).toNat ≤ 3; decide
  | some kk =>
    have := (V.kinds _ kk h).cells
    show kk.ce.toNat ≤ 3
    omega
theorem Valid.body {f : Fam} (V : Valid f) {k : Int} (k0 : 0 ≤ k) (k1 : k < f.length) : bodyF NN f k ≤ 65536 := by
  have l := V.2.1
  rw [bodyF_fuel V.flat.low NN 7 k k0 (by show k < (16 : Int); omega) (by show k < (7 : Int); omega)]
  exact bodyF_le V.fewP V.fewC 7 k
theorem Valid.size {f : Fam} (V : Valid f) {k : Int} (k0 : 0 ≤ k) (k1 : k < f.length) : (slots f k).length ≤ 1048576 := by
  rw [slots_len]
  unfold sizeF
  have few := V.few k0 k1
  have s : ∀ l : List Part, (∀ p ∈ l, p ∈ lm NN f [k]) → (l.map fun p => bodyF NN f (lastP p)).sum ≤ l.length * 65536 := by
    intro l
    induction l with
    | nil => intro _; simp
    | cons a l ih =>
      intro h
      rw [List.map_cons, List.sum_cons, List.length_cons, Nat.add_mul]
      have pp := V.parts k0 k1 (h a List.mem_cons_self)
      have := V.body pp.2.1 pp.2.2.1
      have := ih fun p hp => h p (List.mem_cons_of_mem _ hp)
      omega
  have s' := s (rootsOf (lm NN f [k])) fun p hp => (List.mem_filter.mp hp).1
  have : (rootsOf (lm NN f [k])).length ≤ (lm NN f [k]).length := List.length_filter_le _ _
  omega
theorem at_lt {f : Fam} (V : Valid f) {k : Int} (k0 : 0 ≤ k) (k1 : k < f.length) {p : Part} (h : p ∈ lm NN f [k]) : atF f k p < (slots f k).length := by
  have l := V.2.1
  obtain ⟨i, hi⟩ := List.getElem?_of_mem h
  have B := block_all V.flat k0 (by omega) i p hi
  obtain ⟨⟨s, h1, _⟩, _⟩ := B.first V.flat.low (V.parts k0 k1 h).2.1
  exact (List.getElem?_eq_some_iff.mp h1).1
theorem own_at {f : Fam} (V : Valid f) {k : Int} (k0 : 0 ≤ k) (k1 : k < f.length) {p : Part} (h : p ∈ lm NN f [k]) : idx (own p) 0 (slots f k) = List.range' (atF f k p + before f (lastP p)) (cells f (lastP p)) := by
  have l := V.2.1
  obtain ⟨i, hi⟩ := List.getElem?_of_mem h
  have pp := V.parts k0 k1 h
  exact (block_all V.flat k0 (by omega) i p hi).own V.flat.low pp.2.1 (by show lastP p ≤ (16 : Int); have := pp.2.2.1; omega)
theorem before_le {f : Fam} (k : Int) : before f k ≤ bodyF (NN + 1) f k := by
  unfold before
  show _ ≤ (if plain f k = [] then 1 else ((plain f k).map (bodyF NN f)).sum) + cells f k
  omega
theorem head_at {f : Fam} (F : Flat f) {k : Int} (k0 : 0 ≤ k) (k16 : k < 16) {i : Nat} {s : Slot} (h : (slots f k)[i]? = some s) (hs : s.2 = none) : i = atF f k s.1 := by
  have sm := slots_lm F.low k16 (List.mem_of_getElem? h)
  obtain ⟨j, hj⟩ := List.getElem?_of_mem sm
  have pl := part_low F.low k0 k16 sm
  have B := block_all F k0 k16 j _ hj
  have ha := B.at F.low pl.1
  have ps : Pre s.1 s := List.take_length
  obtain ⟨u, v, m, hm, es, eo, hu, hv⟩ := B
  rw [es, List.append_assoc] at h
  have ge : u.length ≤ i := by
    rcases Nat.lt_or_ge i u.length with lt | ge
    · rw [List.getElem?_append_left lt] at h
      exact absurd ps (hu s (List.mem_of_getElem? h))
    · exact ge
  rw [List.getElem?_append_right ge] at h
  have lt : i - u.length < (lbody m f s.1).length := by
    rcases Nat.lt_or_ge (i - u.length) (lbody m f s.1).length with lt | ge
    · exact lt
    · rw [List.getElem?_append_right ge] at h
      exact absurd ps (hv s (List.mem_of_getElem? h))
  rw [List.getElem?_append_left lt] at h
  cases m with
  | zero => have : ((0 : Nat) : Int) = 0 := rfl; omega
  | succ m =>
    have cell : ∀ t ∈ (List.range (cells f (lastP s.1))).map (fun j => (s.1, some j)), t ≠ s := fun t ht e => by
      obtain ⟨c, _, rfl⟩ := List.mem_map.mp ht
      rw [← e] at hs
      cases hs
    unfold lbody at h
    by_cases hp : plain f (lastP s.1) = []
    · rw [if_pos hp] at h
      cases z : i - u.length with
      | zero => omega
      | succ c =>
        rw [z] at h
        have h : ((List.range (cells f (lastP s.1))).map fun j => (s.1, some j))[c]? = some s := h
        exact absurd rfl (cell s (List.mem_of_getElem? h))
    · rw [if_neg hp] at h
      rcases List.mem_append.mp (List.mem_of_getElem? h) with h | h
      · obtain ⟨e, _, h⟩ := List.mem_flatMap.mp h
        have hq := lbody_pre m _ s h
        unfold Pre at hq
        rw [List.take_of_length_le (by simp)] at hq
        have := congrArg List.length hq
        simp at this
      · exact absurd rfl (cell s h)
theorem Valid.few64 {f : Fam} (V : Valid f) {k : Int} (k0 : 0 ≤ k) (k1 : k < f.length) : (slots f k).length ≤ 64 := by
  have l := V.2.1
  have few := V.few k0 k1
  have pm := (all_slots V.flat.low (k := k) (by omega)).length_eq
  rw [List.length_range, List.length_append] at pm
  have h1 : (idx headB 0 (slots f k)).length ≤ ((lm NN f [k]).map (atF f k)).length := nodup_len (idx_nodup _ _ _) fun i hi => by
    obtain ⟨j, s, a1, a2, a3⟩ := (mem_idx _ _ _ _).mp hi
    have hs : s.2 = none := by
      unfold headB at a3
      cases z : s.2 with
      | none => rfl
      | some c => rw [z] at a3; cases a3
    have e := head_at V.flat k0 (by omega) a1 hs
    refine List.mem_map.mpr ⟨s.1, slots_lm V.flat.low (by omega) (List.mem_of_getElem? a1), ?_⟩
    omega
  rw [List.length_map] at h1
  have h2 : ∀ l : List Part, (∀ p ∈ l, p ∈ lm NN f [k]) → (l.flatMap fun p => idx (own p) 0 (slots f k)).length ≤ l.length * 3 := by
    intro l
    induction l with
    | nil => intro _; simp
    | cons p l ih =>
      intro h
      rw [List.flatMap_cons, List.length_append, List.length_cons, Nat.add_mul, own_at V k0 k1 (h p List.mem_cons_self), List.length_range']
      have := V.fewC (lastP p)
      have := ih fun q hq => h q (List.mem_cons_of_mem _ hq)
      omega
  have h3 := h2 (lm NN f [k]) fun p hp => hp
  omega
end KS
end
noncomputable section
namespace KS
open PySem PySem.W PySem.Calls PyProof.Rows PyProof.V PySem.Spec
/-! ### list(view of a dict's items), its keys tuples -/
section
variable {pg : Program} {w : World} {A : Around} {E : Value → Shared → Prop} {s : Shared} {vw dc : Addr} {en : Array DictEntry} {epo : Nat}
theorem fill_items {R : Result → Shared → Prop} (calm : A.handled = none) (hvw : s.heap.IsItemsView vw dc) (hdc : DT.Raw s.heap dc en epo) (l : Addr) (lv : l ≠ vw) (ld : dc ≠ l)
    (hl : s.heap.get? l = some { cls := .type "list", data := .seq #[] }) (few : en.size ≤ sizeLine)
    (k : ∀ g tk its cap ts, (∀ b o, b ≠ l → s.heap.get? b = some o → g.get? b = some o) → g.get? l = some { cls := .type "list", dict := none, data := .seq its cap, slots := #[] } → ts.length = en.size → DT.Made en l g ts →
      its.toList = ts.map Value.ref → R (.ok (.ret .none)) { s with heap := g, toks := tk }) :
    wpAny (model pg w) A.in1 (Builtin.«list.__init__» ⟨[.ref l, .ref vw], []⟩)
      (fun z s' => match z with | .done y => R (.ok y) s' | .again c => c.quiet = true ∧ codeAny (model pg w) A c R s') (fun x s' => R (.error x) s') s := by
  show wpAny _ _ (do let was ← Builtin.List.listItems (.ref l); Builtin.List.listUpdate (.ref l) (fun _ => #[]); letGo was.toList.reverse; Builtin.List.listExtendWith (.ref l) (.ref vw) .none) _ _ s
  refine wpAny_bind ?_
  unfold Builtin.List.listItems
  refine wpAny_bind (wpAny_seqItems hl rfl (wpAny_pure ?_))
  show wpAny _ _ (updateSeq l (fun _ => #[]) >>= fun _ => letGo (#[] : Array Value).toList.reverse >>= fun _ => Builtin.List.listExtendWith (.ref l) (.ref vw) .none) _ _ s
  refine wpAny_bind (wpAny_updateSeq hl rfl ?_)
  have hl2 := Heap.get?_update_self (Obj.mapSeq (fun _ => (#[] : Array Value))) hl rfl
  have rest : ∀ b o, b ≠ l → s.heap.get? b = some o → (s.heap.update l (Obj.mapSeq (fun _ => (#[] : Array Value)))).get? b = some o := fun b o n x => (Heap.get?_update_other _ _ (Ne.symm n)).trans x
  refine wpAny_bind (wpAny_letGo ?_)
  refine DT.extI (es := en) (ep := epo) calm (let ⟨o, ho, x⟩ := hvw; ⟨o, rest vw o lv.symm ho, x⟩) (hdc.at' fun o x => rest dc o ld x) l lv ld .none _ hl2 (fun g tk its cap ts k1 k2 k3 k4 k5 => ?_) few
  exact k g tk its cap ts (fun b o n x => k1 b o n (rest b o n x)) k2 k3 (k4.low (Nat.le_of_lt (Heap.lt_size hl2))) k5
theorem call_items {Q : Value → Shared → Prop} (calm : A.handled = none) (hvw : s.heap.IsItemsView vw dc) (hdc : DT.Raw s.heap dc en epo) (few : en.size ≤ sizeLine)
    (k : ∀ g tk its cap ts, (∀ b o, s.heap.get? b = some o → g.get? b = some o) → g.get? s.heap.objs.size = some { cls := .type "list", dict := none, data := .seq its cap, slots := #[] } → ts.length = en.size → DT.Made en s.heap.objs.size g ts →
      its.toList = ts.map Value.ref → Q (.ref s.heap.objs.size) { s with heap := g, toks := tk }) : wpAny (model pg w) A (call (.type "list") [.ref vw]) Q E s := by
  refine callType_codes (Q₁ := fun ob t => ob = .ref s.heap.objs.size ∧ t = { s with heap := s.heap.push { cls := .type "list", data := .seq #[] } }) PySem.F.called_list (PySem.F.typeCall_list_1 _) PySem.F.entry_list_init
    (code_list_new _ ⟨rfl, rfl⟩) fun ob t ht => ?_
  obtain ⟨rfl, rfl⟩ := ht
  have new : (s.heap.push { cls := .type "list", data := .seq #[] }).get? s.heap.objs.size = some { cls := .type "list", data := .seq #[] } := Heap.get?_push_size _ rfl
  have lv : vw < s.heap.objs.size := let ⟨_, ho, _⟩ := hvw; Heap.lt_size ho
  refine ⟨⟨_, new, rfl⟩, PySem.F.args_list_init_2 _ _, fill_items (A := A.in1) calm (let ⟨o, ho, x⟩ := hvw; ⟨o, Heap.get?_push_of_some _ ho, x⟩) (hdc.push _) _ (Nat.ne_of_gt lv) (Nat.ne_of_lt hdc.lt) new few (fun g tk its cap ts k1 k2 k3 k4 k5 => ?_)⟩
  exact ⟨rfl, k g tk its cap ts (fun b o x => k1 b o (Nat.ne_of_lt (Heap.lt_size x)) (Heap.get?_push_of_some _ x)) k2 k3 k4 k5⟩
end
open L2 L2.DX
/-- the pairs at ts are those of kvs, each with a tuple as the key -/
def PairsAt (H : Hp) (ts : List Addr) (kvs : List (List L2.Key × V)) : Prop := Paired (fun (t : Addr) (kv : List L2.Key × V) => ∃ q, H t = some (.tup [.ref q, kv.2]) ∧ H q = some (.tup (kv.1.map kV))) ts kvs
def rListIt : List V → Hp → VK → Prop := fun vs H Q => ∃ (p a : Addr) (kvs : List (List L2.Key × V)), vs = [.ref p] ∧ H p = some (itemsO p a) ∧ H a = some (.dT kvs) ∧
  ∀ (H' : Hp) (l : Addr) (ts : List Addr), (∀ b o, H b = some o → H' b = some o) → H l = none → H' l = some (.lst (ts.map V.ref)) → PairsAt H' ts kvs → Q (.ref l) H'
theorem paired_of {α β : Type} {F : α → β → Prop} : ∀ {xs : List α} {ys : List β}, xs.length = ys.length → (∀ (i : Nat) (x : α) (y : β), xs[i]? = some x → ys[i]? = some y → F x y) → Paired F xs ys
  | [], [], _, _ => .nil
  | [], _ :: _, h, _ => by cases h
  | _ :: _, [], h, _ => by cases h
  | x :: xs, y :: ys, h, f => .cons (f 0 x y rfl rfl) (paired_of (Nat.succ.inj h) fun i a b ha hb => f (i + 1) a b ha hb)
theorem cr_listItems {X : Cx} (hc : X.calm = true) : CallR X (.type "list") rListIt := by
  intro pins s σ H xs us Q I r h
  obtain ⟨p, a, kvs, rfl, hp, ha, q⟩ := h
  obtain rfl := Vals.ref1 r
  have view : s.heap.IsItemsView p a := (show ObjOk X.prog X.w H s.heap p (itemsO p a) from I.hok p _ hp).1
  obtain ⟨z, hd, ys, rel, o, en, epo, ho, hx, hdat, hen, his, hn⟩ := dt_of I.hok ha
  have l1 : kvs.length = ys.length := Paired.length rel
  have l2 : en.size = ys.length := size_of_entries hen
  refine call_items (en := en) (epo := epo) (I.ok.hd hc) view ⟨o, ho, hx, hdat⟩ (by omega) fun g tk its cap ts k1 k2 k3 k4 k5 => ?_
  have tl : ts.length = kvs.length := by omega
  have nd : ts.Nodup := List.Pairwise.imp (fun h => Nat.ne_of_lt h) k4.rise
  have made : ∀ (j : Nat) (b : Addr), ts[j]? = some b → ∃ (e : List L2.Key × V) (kq : Addr) (vv : Value), kvs[j]? = some e ∧ H kq = some (.tup (e.1.map kV)) ∧ RelV e.2 vv ∧ g.get? b = some { cls := .type "tuple", data := .seq #[Value.ref kq, vv] } := by
    intro j b hj
    obtain ⟨e1, he, hg⟩ := k4.pairs j b hj
    rw [entry_at hen j] at he
    cases hxj : ys[j]? with
    | none =>
      rw [hxj] at he
      exact nomatch (show (none : Option DictEntry) = some e1 from he)
    | some x =>
      rw [hxj] at he
      have ee : entryOfKey (tupleKind (mixKind X.prog X.w)) x = e1 := Option.some.inj he
      obtain ⟨e0, he0, r1, r2, r3⟩ := pget rel hxj
      refine ⟨e0, x.2.1, x.2.2, he0, r2, r3, ?_⟩
      rw [hg, ← ee]
      all_goals rfl
  have hn0 : H s.heap.objs.size = none := I.hok.fresh (Nat.le_refl _)
  have I1 : Inv X pins σ H { s with heap := g, toks := tk } := I.kept (t' := tk) k1
  have I2 : Inv X pins σ (upd H s.heap.objs.size (.lst (ts.map V.ref))) { s with heap := g, toks := tk } :=
    I1.take (h' := g) (t' := tk) (fun b ob _ x => x) (I.fpOk (Nat.le_refl _) hn0) ⟨by rw [List.length_map]; omega, its.toList, cap, by rw [k5]; exact vals_maps V.ref Value.ref ts fun _ _ => rfl, by rw [Array.toArray_toList]; exact k2⟩
  obtain ⟨H2, I3, gr, qt⟩ := takeT (P := fun b vs => ∃ (j : Nat) (e : List L2.Key × V) (kq : Addr), ts[j]? = some b ∧ kvs[j]? = some e ∧ vs = [.ref kq, e.2] ∧ H kq = some (.tup (e.1.map kV))) I ts _ I2 nd fun b hb => by
    obtain ⟨j, hj⟩ := List.mem_iff_getElem?.mp hb
    obtain ⟨e, kq, vv, he, hkq, hv, hg⟩ := made j b hj
    have above : s.heap.objs.size < b := k4.above b hb
    refine ⟨Nat.le_of_lt above, ?_, [.ref kq, e.2], ⟨j, e, kq, hj, he, rfl, hkq⟩, fun H3 => ⟨(by rw [sizeLine_eq]; show 2 ≤ 16777216; omega), [Value.ref kq, vv], .cons rfl (.cons hv .nil), ⟨_, hg, rfl, 0, rfl⟩⟩⟩
    rw [upd_ne (Nat.ne_of_gt above)]
    exact I.hok.fresh (Nat.le_of_lt above)
  have up : ∀ b o, H b = some o → H2 b = some o := fun b o x => gr b o (by rw [upd_ne (ne_of_none x hn0)]; exact x)
  refine ⟨.ref s.heap.objs.size, H2, I3, rfl, q H2 s.heap.objs.size ts up hn0 (gr _ _ upd_same) (paired_of tl fun i t kv ht hkv => ?_)⟩
  obtain ⟨vs, ⟨j, e, kq, j1, j2, ev, hkq⟩, hH⟩ := qt t (List.mem_of_getElem? ht)
  have eij : i = j := (List.getElem?_inj (List.getElem?_eq_some_iff.mp ht).1 nd).mp (ht.trans j1.symm)
  subst eij
  have ee : e = kv := Option.some.inj (j2.symm.trans hkv)
  subst ee
  rw [ev] at hH
  exact ⟨kq, hH, up _ _ hkq⟩
end KS
end
noncomputable section
namespace KS
open PySem PySem.Spec PyProof.Rows L2 Evl
open RZ (tLenSetI pe_lenSetI)
section
variable {P : Program} {w : World} {K : PySem.W.Frag} {mg : Str → Option Value} {base : Heap}
/-! ### laid -/
def encAt (f : Fam) (k : Int) (p : Part) : PyData := .tuple [encP p, .int ((atF f k p : Nat) : Int)]
theorem pairs_DA {H : Hp} {f : Fam} {k : Int} : ∀ {ts : List Addr} {l : List Part}, PairsAt H ts (ents f k l) → DA H (ts.map V.ref) (l.map (encAt f k))
  | [], [], _ => .nil
  | [], _ :: _, h => by cases h
  | _ :: _, [], h => by cases h
  | t :: ts, p :: l, h => by
    cases h with
    | cons h r =>
      obtain ⟨q, h1, h2⟩ := h
      have h2' : H q = some (.tup (p.map V.int)) := by rw [← keyP_kV]; exact h2
      exact .cons (.tup h1 (.cons (.tup h2' (DA.ofInts p)) (.cons (.int _) .nil))) (pairs_DA r)
abbrev N_laid : List Str := ["family", "kind", "size", "begins"]
theorem sc_laid : FnScope N_laid ["family", "kind"] (defScope s_laid) := ⟨rfl, rfl, rfl, by decide +kernel, rfl, by decide +kernel, by decide +kernel⟩
def spLaid : Sp := fun vs H Q _ => ∃ (f : Fam) (k : Int), DA H vs [encF f, .int k] ∧ Valid f ∧ 0 ≤ k ∧ k < f.length ∧ ∀ t l xs H', H l = none → Ex H H' → H' t = some (.tup [.int (((slots f k).length : Nat) : Int), .ref l]) → H' l = some (.lst xs) → DA H' xs ((lm NN f [k]).map (encAt f k)) → Q (.ref t) H'
theorem ok_laid (B : Bt mg) (d : Df K mg "laid" s_laid ["family", "kind"]) (cK : Cl P w K mg base "need_kind" ["family", "kind"] 22 (spD R_need_kind)) (cP : Cl P w K mg base "place" ["family", "kind"] 36 spPlace) : Cl P w K mg base "laid" ["family", "kind"] 37 spLaid := by
  refine d.ok sc_laid (fun vs H Q E h => by obtain ⟨f, k, h, _⟩ := h; exact h.len) (fun fa cdv A outer s H vs Q E hr h => ?_)
  obtain ⟨f, k, hv, V, k0, k1, q⟩ := h
  obtain ⟨x, y, rfl, hx, hy⟩ := hv.args2
  refine ⟨_, pss_cons (ps_expr (pe_cl cK (hr.mono (by omega)) (pa_cons (pv 0) (pa_cons (pv 1) pa_nil))))
    (pss_cons (ps_asg (pe_cl cP hr (pa_cons (pv 0) (pa_cons (pv 1) pa_nil))) (pg_tup rfl (pgs_cons (pg_name (i := 2) sc_laid.nd rfl (.inl rfl)) (pgs_cons (pg_name (i := 3) sc_laid.nd rfl (.inl rfl)) pgs_nil))))
    (pss_one (ps_ret (pe_tup (pa_cons (pv 2) (pa_cons (pe_callTy (cr_listItems (by rfl)) (by rfl) B.list boot_list (pa_cons (pe_bm0 PySem.F.plainAttrs_dict PySem.F.slot_dict_items PySem.F.type_dict_items DX.mt_itemsT (pv 3)) pa_nil)) pa_nil)))))), ?_⟩
  refine sd_drop (ed_call (eas2 (ed_var (i := 0) rfl hx) (ed_var (i := 1) rfl hy)) ⟨f, k, rfl, V, k0, k1, rfl⟩) fun H1 e1 => ?_
  refine s_call (eas2 (ed_var (i := 0) rfl (hx.mono e1)) (ed_var (i := 1) rfl (hy.mono e1))) fun vs H2 e2 hvs => ?_
  refine ⟨f, k, hvs, V, k0, k1, fun t d H3 nd e3 ht hd => ?_⟩
  refine ⟨t, _, rfl, SqT.of ht, rfl, _, _, rfl, _, [], rfl, rfl, ?_⟩
  refine ⟨_, rfl, _, rfl, ⟨?ty, d, _, rfl, rfl, hd, fun p np => ?_⟩⟩
  case ty => exact .inr (.inr (.inl ⟨rfl, .inr ⟨_, hd⟩⟩))
  have dp : d ≠ p := ne_of_none hd np
  refine ⟨p, d, _, rfl, upd_same, by rw [upd_ne dp]; exact hd, fun H4 l ts e4 nl hl hps => ?_⟩
  have up : Ex H H4 := (((e1.trans e2).trans e3).trans (Ex.new np)).trans e4
  refine ⟨by show 2 ≤ sizeLine; decide, fun u nu => ?_⟩
  have lu : l ≠ u := ne_of_none hl nu
  refine q u l _ _ (fresh_back (((e1.trans e2).trans e3).trans (Ex.new np)) nl) (up.trans (Ex.new nu)) ?_ (by rw [upd_ne lu]; exact hl) ((pairs_DA hps).mono (Ex.new nu))
  rw [upd_same, slots_len]
end
end KS
end
noncomputable section
namespace KS
open PySem PySem.Spec PyProof.Rows L2 Evl LamX
/-! ### what stays, tables aside -/
def OffN (a b : Addr) (H H' : Hp) : Prop := ∀ c o, c ≠ a → c ≠ b → (∀ ps, o ≠ .tbl ps) → H c = some o → H' c = some o
section
variable {a b : Addr} {H H1 H' : Hp} {T : List (Addr × Str)}
theorem OffN.refl : OffN a b H H := fun _ _ _ _ _ h => h
theorem OffN.trans (x : OffN a b H H1) (y : OffN a b H1 H') : OffN a b H H' := fun c o h1 h2 h3 h => y c o h1 h2 h3 (x c o h1 h2 h3 h)
theorem OffN.ofOff (x : Off a b H H') : OffN a b H H' := fun c o h1 h2 _ h => x c o h1 h2 h
theorem OffN.ofEx (x : Ex H H') : OffN a b H H' := fun c o _ _ _ h => x c o h
theorem OffN.ofN (x : ExtN H H') : OffN a b H H' := fun c o _ _ h3 h => x c o h h3
theorem HS.tuN (h : HS a b H) (x : OffN a b H H') : Tu H H' := fun c xs hc => by
  obtain ⟨_, m, k, ns, ha, hb, _⟩ := h
  exact x c _ (ne_of hc ha (by intro z; cases z)) (ne_of hc hb (by intro z; cases z)) (fun ps z => by cases z) hc
theorem HS.extN (h : HS a b H) (x : ExtN H H') : HS a b H' := by
  obtain ⟨h0, m, k, ns, ha, hb, r⟩ := h
  exact ⟨h0, m, k, ns, x _ _ ha (fun ps z => by cases z), x _ _ hb (fun ps z => by cases z), r⟩
theorem Tabs.off (h : HS a b H) (x : Off a b H H') (t : Tabs T H) : Tabs T H' := fun p hp => by
  obtain ⟨ps, h1, h2, h3⟩ := t p hp
  obtain ⟨_, m, k, ns, ha, hb, _⟩ := h
  refine ⟨ps, x _ _ (ne_of h1 ha (by intro z; cases z)) (ne_of h1 hb (by intro z; cases z)) h1, h2, fun pos cv hc => ?_⟩
  obtain ⟨c, e, hcc⟩ := h3 pos cv hc
  exact ⟨c, e, x _ _ (ne_of hcc ha (by intro z; unfold CodeO at z; cases z)) (ne_of hcc hb (by intro z; unfold CodeO at z; cases z)) hcc⟩
theorem Tabs.ex (t : Tabs T H) (e : Ex H H') : Tabs T H' := t.ext e
/-- a dict is locked, or free again -/
theorem Tabs.putD {d : Addr} {u u' : HO} (t : Tabs T H) (hd : H d = some u) (hu : (∀ ps, u ≠ .tbl ps) ∧ ∀ c q, u ≠ CodeO c q) : Tabs T (upd H d u') := fun p hp => by
  obtain ⟨ps, h1, h2, h3⟩ := t p hp
  refine ⟨ps, by rw [upd_ne (ne_of h1 hd (fun z => hu.1 ps z.symm))]; exact h1, h2, fun pos cv hc => ?_⟩
  obtain ⟨c, e, hcc⟩ := h3 pos cv hc
  exact ⟨c, e, by rw [upd_ne (ne_of hcc hd (fun z => hu.2 _ _ z.symm))]; exact hcc⟩
end
/-- a list of plain data, none of the two -/
def LstAt (a b : Addr) (H : Hp) (p : Addr) (ds : List PyData) : Prop := p ≠ a ∧ p ≠ b ∧ flatTs ds = true ∧ ∃ xs, H p = some (.lst xs) ∧ DA H xs ds
section
variable {a b p : Addr} {H H' : Hp} {ds : List PyData}
theorem LstAt.d (h : LstAt a b H p ds) : D H (.ref p) (.list ds) := by
  obtain ⟨_, _, _, xs, h1, h2⟩ := h
  exact .lst h1 h2
theorem LstAt.offN (h : LstAt a b H p ds) (hs : HS a b H) (x : OffN a b H H') : LstAt a b H' p ds := by
  obtain ⟨h1, h2, h3, xs, h4, h5⟩ := h
  exact ⟨h1, h2, h3, xs, x _ _ h1 h2 (fun ps z => by cases z) h4, h5.keep (hs.tuN x) h3⟩
theorem LstAt.ofEL {xs : List V} {H0 : Hp} (hs : HS a b H0) (np : H0 p = none) (fl : flatTs ds = true) (hp : H p = some (.lst xs)) (ha : DA H xs ds) : LstAt a b H p ds := ⟨(hs.ne np).1, (hs.ne np).2, fl, xs, hp, ha⟩
end
/-! ### _law_kind(lambda: ..) -/
theorem pe_kind {X : Cx} {T : List (Addr × Str)} {c P CS : Addr} {c8 : Cls8} {k : Nat} {params : Arguments} {body : Expr} {scope : Scope} {t : XK → TE} {p lpos pos : Pos} (d : Df X.K X.mg "_law_kind" s_law_kind ["_law_work"]) (m : Mg8 X.mg CS c8)
    (TB : TabB X.base X.mg c P) (hcode : X.env.code = .ref c) (hmT : (P, X.env.qual ++ "<lambda>") ∈ T) (hu : ∀ p ∈ T, p.1 = P → p.2 = X.env.qual ++ "<lambda>") (hr : Room (k + 2) X.A) (L : LamS X.env.scope scope) (hdef : defaultsOf params X.env = ([], []))
    (hbind : ∀ (q : Str) (cl : List (Str × Addr)) (pm cv ctv : Value), bindArgs (PySem.W.kla_fn "<lambda>" q params body scope cl pm cv ctv) ⟨[], []⟩ = pure [])
    (hbody : ∀ (A : Around) (outer : List Env) (s : Shared) (H : Hp) (E : XK) (f c' : Addr), Room k (A.deeper (lamEnv X scope s.heap.objs.size f c')) → PE (lamCx X A outer s H E scope f c') body (t E)) (hg : Gl X "_law_kind") :
    PE X (.Call (.Name "_law_kind" p) [.Lambda params body scope lpos] [] pos) (tLam T (TTk X.K CS c8) t) := by
  obtain ⟨g, fd, F, hm, hb⟩ := d.ex
  obtain ⟨oc, od, kV, doc, pm, an, cdv, ct, osl, rfl, lk, hcd⟩ := F.ex
  exact pe_lamcall (Ng := N_kind) (a := "_law_work") hg hm F.kp lk hcd hb sc_kind rfl (.inl rfl) (kind_gives m) TB hcode hmT hu hr L hdef hbind hbody
/-! ### readings -/
section
variable {K : PySem.W.Frag} {σ : L2.St} {H : Hp} {ta tb ty : TE} {d d' : PyData} {ds : List PyData} {Dn : Ends}
theorem ed_dgetF {i : Nat} {dd : Addr} {od : Obj} {kvs : List (List L2.Key × V)} {p : Part} {v : V} {z : PyData} (hi : σ[i]? = some (some (.ref dd))) (hd : H dd = some (.frz od (.dT kvs))) (hk : ED ty σ H (encP p)) (hv : valV kvs (keyP p) = some v) (hz : ∀ H, D H v z) : ED (tDGet (tVar i) ty) σ H z := fun H1 e Q q =>
  ⟨.ref dd, hi, hk H1 e _ fun y H2 e2 hy => by
    obtain ⟨b, xs, rfl, hb, ha⟩ := hy.toTup
    have ex := ha.ints
    subst ex
    refine ⟨dd, v, rfl, ?_, q _ H2 e2 (hz H2)⟩
    rw [← hv]
    exact .inr ⟨kvs, keyP p, b, .inr ⟨od, e2 _ _ (e _ _ hd)⟩, rfl, by rw [keyP_kV]; exact hb, rfl⟩⟩
theorem s_andN {t u : TT} {A B : TS} {b : Bool} (h : EvT t σ H b) (h0 : b = false → ∀ H1, Ex H H1 → B Dn σ H1) (h1 : b = true → ∀ H1, Ex H H1 → u σ H1 (fun c H2 => if c = true then A Dn σ H2 else B Dn σ H2)) : tIfS (tAnd t u) A B Dn σ H := h H (Ex.refl H) _ fun H1 e => by
  cases b with
  | true => exact h1 rfl H1 e
  | false => exact h0 rfl H1 e
theorem s_callCB {sp : Sp} {E : XK} {rc : List V → Hp → VK → Prop} {r : R2} {g : TG} {ta : TA} {tb : TE} (h : EAs ta σ H ds) (k : ∀ vs H1, Ex H H1 → DA H1 vs ds → sp vs H1 (fun v H2 => tb σ H2 fun y H3 => r v y H3 fun z H4 => rc [z] H4 fun u H5 => g u σ H5 Dn.nx) E) :
    tAsg (tCB rc (tCons (tOp r (tCall sp [] E ta) tb) tNil)) g Dn σ H := h H (Ex.refl H) _ fun vs H1 e hv => (List.append_nil vs).symm ▸ k vs H1 e hv
theorem rne_same {s : Str} {Q : VK} {H : Hp} (q : Q (.bl false) H) : rNe (.str s) (.str s) H Q := ⟨rfl, by rw [decide_eq_true rfl]; exact q⟩
end
theorem laid_pairs {H : Hp} {f : Fam} {k : Int} : ∀ {xs : List V} {l : List Part}, DA H xs (l.map (encAt f k)) → ∃ ps : List Addr, xs = ps.map V.ref ∧ Paired (fun p kv => ∃ b, H p = some (.tup [.ref b, kv.2]) ∧ H b = some (.tup (kv.1.map kV))) ps (ents f k l)
  | _, [], .nil => ⟨[], rfl, .nil⟩
  | _, p :: l, .cons h t => by
    obtain ⟨ps, e, pr⟩ := laid_pairs t
    obtain ⟨tt, ys, rfl, ht, hy⟩ := h.toTup
    obtain ⟨y1, y2, rfl, h1, h2⟩ := hy.args2
    obtain ⟨q, zs, rfl, hq, hz⟩ := h1.toTup
    have ez := hz.ints
    subst ez
    have e2 := h2.toInt
    subst e2
    exact ⟨tt :: ps, by rw [e]; rfl, .cons ⟨q, ht, by show H q = some (.tup ((keyP p).map kV)); rw [keyP_kV]; exact hq⟩ pr⟩
theorem ents_nodup {f : Fam} {k : Int} {l : List Part} (nd : l.Nodup) : ((ents f k l).map (·.1)).Nodup := by
  unfold ents
  rw [List.map_map]
  exact List.pairwise_map.mpr (nd.imp fun h e => h (keyP_inj e))
/-- one class and the word for it -/
def KOk (K : PySem.W.Frag) (CS : Addr) (c8 : Cls8) (C : Addr) (j : Nat) (wd : Str) : Prop := KindW K CS c8 C j ∧ wrdL[j]? = some wd
end KS
end
noncomputable section
namespace KS
open PySem PySem.Spec PyProof.Rows L2 Evl
open PySem.Froz (SD sObj addTx tailTx sing runD TxOk add_ok add_x is_str code_update itObj finU finU_step two two_over itEnd tupObj stopObj at_of at_end end_x next_x endHeap two_only get_upd)
/-! ### a set of signs, made of a text with twins -/
theorem two_past {a b : Addr} (hne : a ≠ b) (h : Heap) (X Y Y' : Obj) : two (h.update b (fun _ => Y')) a X b Y = two h a X b Y := by
  rw [← two_over hne h X X Y Y']
  unfold two
  rw [PySem.Froz.upd_upd]
theorem finU_past {s : Shared} {a it : Addr} (hne : a ≠ it) (T : String) (X : SD) (Y : Obj) (n m : Nat) :
    finU { s with heap := s.heap.update it (fun _ => Y), toks := s.toks + 1 + 1 } a T it X n m = finU s a T it X n (m + 1) := by
  unfold finU
  dsimp only
  rw [two_past hne, Heap.size_after_update]
  congr 1
  omega
section
variable {P : Program} {w : World} {A : Around} {E : Value → Shared → Prop} {s : Shared} {R : Result → Shared → Prop}
theorem code_updateD {a it : Addr} (hne : a ≠ it) {T : String} {x : Str} {u : Tok} (hh : A.handled = none) {b : Bool} : ∀ (cs : List Nat) (i : Nat) (D : SD) (l : List Str) (s : Shared), x.cps.toList.drop i = cs →
    s.heap.get? a = some (sObj T D) → s.heap.get? it = some (itObj x u i) → TxOk P w D l → TabOk b D → l.length + cs.length < scanBound →
    (∀ Z : SD, TxOk P w Z ((cs.map sing).foldl addL l) → TabOk b Z → R (.ok (.ret .none)) (finU s a T it Z (i + cs.length) cs.length)) → codeAny (model P w) A (.builtin "set.update.loop" ⟨[.ref a, .ref it], []⟩) R s
  | [], i, D, l, s, hd, ha, hit, F, tb, _, h => by
    refine codeAny_builtin PyProof.Rows.F.entry_set_update_loop ?_
    rw [Around.under_plainId PyProof.Rows.F.plain_set_update_loop _]
    refine wpAny_bind (end_x (u := u) (by exact hh) hit (at_end hd) ?_)
    refine wpAny_pure ?_
    have hq := h D F tb
    unfold finU at hq
    rw [two_only ha] at hq
    exact hq
  | c :: r, i, D, l, s, hd, ha, hit, F, tb, hb, h => by
    obtain ⟨hx, hd2⟩ := at_of hd
    rw [List.length_cons] at hb
    refine codeAny_builtin PyProof.Rows.F.entry_set_update_loop ?_
    rw [Around.under_plainId PyProof.Rows.F.plain_set_update_loop _]
    refine wpAny_bind (next_x (u := u) hit hx ?_)
    refine wpAny_bind (wpAny_holding ?_)
    unfold setAdd
    refine wpAny_holding ?_
    refine wpAny_bind ((strKind P w).pyHash (k := sing c) (is_str _ _) ?_)
    have ha1 : (s.heap.update it (fun _ => itObj x u (i + 1))).get? a = some (sObj T D) := PySem.Heap.get?_update_of_ne _ (Ne.symm hne) ha
    have hit1 : (s.heap.update it (fun _ => itObj x u (i + 1))).get? it = some (itObj x u (i + 1)) := get_upd _ hit rfl
    have ei : i + 1 + r.length = i + (c :: r).length := by rw [List.length_cons]; omega
    by_cases hc : sing c ∈ l
    · refine add_old (s := { s with heap := s.heap.update it (fun _ => itObj x u (i + 1)), toks := s.toks + 1 + 1 }) ha1 F hc (by omega) ?_
      refine wpAny_pure ⟨plainId_quiet PyProof.Rows.F.plain_set_update_loop _, code_updateD hne hh r (i + 1) D l _ hd2 ha1 hit1 F tb (by omega) fun Z t1 t2 => ?_⟩
      have hq := h Z (by rw [List.map_cons, List.foldl_cons, addL_old hc]; exact t1) t2
      rw [← ei] at hq
      rw [finU_past hne]
      exact hq
    · refine add_x (l := l) (D := D) (s := { s with heap := s.heap.update it (fun _ => itObj x u (i + 1)), toks := s.toks + 1 + 1 }) ha1 F hc (by omega) ?_
      have ha2 := get_upd (sObj T (addTx (hashStr w (sing c)) (.str (sing c) s.toks) D)) ha1 rfl
      have hit2 : ((s.heap.update it (fun _ => itObj x u (i + 1))).update a (fun _ => sObj T (addTx (hashStr w (sing c)) (.str (sing c) s.toks) D))).get? it = some (itObj x u (i + 1)) := PySem.Heap.get?_update_of_ne _ hne hit1
      refine wpAny_pure ⟨plainId_quiet PyProof.Rows.F.plain_set_update_loop _, code_updateD hne hh r (i + 1) _ (sing c :: l) _ hd2 ha2 hit2 (add_ok s.toks F) (tab_add _ _ tb) (by rw [List.length_cons]; omega) fun Z t1 t2 => ?_⟩
      have hq := h Z (by rw [List.map_cons, List.foldl_cons, addL_new hc]; exact t1) t2
      rw [← ei] at hq
      exact (finU_step hne T Z _ _ _ _).symm ▸ hq
set_option maxHeartbeats 8000000 in
theorem call_set_textD {x : Str} {u : Tok} {Q : Value → Shared → Prop} (quiet : A.handled = none) (asc : x.cps.all (· < 128) = true) (few : x.cps.toList.length ≤ 3000) (fewD : ((x.cps.toList.map sing).foldl addL []).length < 64)
    (fin : ∀ (h' : Heap) (tk : Nat), STx P w h' s.heap.objs.size ((x.cps.toList.map sing).foldl addL []) → (∀ b o, s.heap.get? b = some o → h'.get? b = some o) → Q (.ref s.heap.objs.size) { s with heap := h', toks := tk }) :
    wpAny (model P w) A (call (.type "set") [.str x u]) Q E s := by
  let lb : Bool := !w.params.followText "set-order"
  let Z0 : SD := (#[], 0, .fresh 0 0 lb)
  obtain ⟨c, tl, hmro⟩ := F.called_set.mro
  have madeF := F.called_set.made
  have subF := F.called_set.sub
  refine wpAny_call (codeAny_of_tree ?_)
  show wpAny _ _ (callAny (.type "set") ⟨[.str x u], []⟩) _ _ s
  refine wpAny_pure ⟨Code.quiet_builtin _ (by decide +kernel), codeAny_builtin F.entry_type_call ?_⟩
  rw [Around.under_plain (weight_type_call_type "set" [.str x u] []) rfl]
  have n1 := F.called_set.notType
  have n2 := F.called_set.canCreate
  have n3 := F.typeCall_set_1 (.str x u)
  repeat (any_goals (first | assumption | wp_step))
  refine codeAny_mono (code_set_led1 (.str x u) (E := E) (Q₁ := fun ob t => ob = .ref s.heap.objs.size ∧ t = { s with heap := s.heap.push (sObj "set" Z0) }) ⟨rfl, rfl⟩) fun r t hr => ?_
  cases r with
  | error e => exact hr
  | ok fl =>
    cases fl with
    | ret ob =>
      obtain ⟨rfl, rfl⟩ := hr
      have here : (s.heap.push (sObj "set" Z0)).get? s.heap.objs.size = some (sObj "set" Z0) := Heap.get?_push_size _ rfl
      have isSet : Shared.TypeIs { s with heap := s.heap.push (sObj "set" Z0) } (.ref s.heap.objs.size) "set" := ⟨_, here, rfl⟩
      have i1 := F.called_set.init.lookup
      have i2 := F.called_set.init.bind (.ref s.heap.objs.size)
      repeat (any_goals (first | assumption | wp_step))
      refine codeAny_mono (codeAny_call_builtin (R := wants (fun r t₂ => r = .none ∧ ∃ h' tk, t₂ = { s with heap := h', toks := tk } ∧ STx P w h' s.heap.objs.size ((x.cps.toList.map sing).foldl addL []) ∧
          (∀ b o, s.heap.get? b = some o → h'.get? b = some o)) E) F.called_set.init.plain F.entry_set_init (check_set_init_1 isSet ?_)) fun r₂ t₂ hr₂ => ?_
      · have k1 := F.sub_str_set
        have k2 := F.sub_str_frozenset
        have k3 : (Value.type "str" == Value.type "dict") = false := by decide
        unfold Builtin.«set.__init__» noKeywords Builtin.Frozenset.updateFrom
        generalize hPI : pyIter = PI
        wp_walk
        subst hPI
        have far : s.heap.objs.size ≠ (s.heap.push (sObj "set" Z0)).objs.size := by
          rw [Heap.size_push]; exact Nat.ne_of_lt (Nat.lt_succ_self _)
        have t0 : TxOk P w Z0 [] := TxOk.nil (by rfl)
        have b0 : TabOk lb Z0 := ⟨List.Pairwise.nil, rfl⟩
        have q3 : A.in1.in1.in1.handled = none := by simp [quiet]
        refine wpAny_pyIter_ascii asc ?_
        refine wpAny_bind (wpAny_runValue ?_)
        refine code_updateD (T := "set") (x := x) (u := u) (l := []) (b := lb) far (by first | exact q3 | simp [quiet]) x.cps.toList 0 Z0 _ rfl (pushed here) (Heap.get?_push_size _ rfl) t0 b0 (by rw [List.length_nil]; unfold scanBound; omega) fun Z1 t1 b1 => ?_
        show wpAny _ _ (pure ()) _ _ _
        refine wpAny_pure ?_
        show wpAny _ _ (ret Value.none) _ _ _
        refine wpAny_pure ⟨rfl, _, _, rfl, ⟨Z1, ?_, t1, fewD, b1⟩, fun b o e => ?_⟩
        · refine pushed (pushed ?_)
          exact Heap.get?_update_of_ne _ (Ne.symm far) (Froz.get_upd _ (pushed here) rfl)
        · have lt := Heap.lt_size e
          have ne1 : s.heap.objs.size ≠ b := Nat.ne_of_gt lt
          have ne2 : (s.heap.push (sObj "set" Z0)).objs.size ≠ b := by
            rw [Heap.size_push]; exact Nat.ne_of_gt (Nat.lt_succ_of_lt lt)
          refine pushed (pushed ?_)
          exact Heap.get?_update_of_ne _ ne2 (Heap.get?_update_of_ne _ ne1 (pushed (pushed e)))
      · cases r₂ with
        | error e => exact hr₂
        | ok fl₂ =>
          cases fl₂ with
          | ret r =>
            obtain ⟨rfl, h', tk, rfl, z1, z2⟩ := hr₂
            repeat (any_goals (first | assumption | wp_step))
            exact fin _ _ z1 z2
          | _ => exact hr₂.elim
    | _ => exact hr.elim
end
/-! ### the rule -/
def rSetTxD (P : Program) (w : World) : List V → Hp → VK → Prop := fun xs H Q => ∃ x : Str, xs = [.str x] ∧ x.cps.all (· < 128) = true ∧ x.cps.toList.length ≤ 3000 ∧ ((x.cps.toList.map sing).foldl addL []).length < 64 ∧
  ∀ p, H p = none → Q (.ref p) (upd H p (SetTx P w p ((x.cps.toList.map sing).foldl addL [])))
theorem cr_setTxD {X : Cx} (hc : X.calm = true) : CallR X (.type "set") (rSetTxD X.prog X.w) := by
  intro pins s σ H xs us Q I r h
  obtain ⟨x, rfl, asc, few, fewD, q⟩ := h
  cases r with
  | cons r1 r2 =>
    cases r2
    obtain ⟨t, rfl⟩ := r1
    refine call_set_textD (I.ok.hd hc) asc few fewD fun h' tk R keep => ?_
    have ob : ObjOk X.prog X.w (upd H s.heap.objs.size (SetTx X.prog X.w s.heap.objs.size ((x.cps.toList.map sing).foldl addL []))) h' s.heap.objs.size (SetTx X.prog X.w s.heap.objs.size ((x.cps.toList.map sing).foldl addL [])) := by
      obtain ⟨Z, e, _⟩ := id R
      exact ⟨R, ⟨_, e⟩, fun h1 h2 p k => stx_at p k⟩
    exact ⟨.ref _, _, I.laid (t' := tk) keep (Nat.le_refl _) ob, rfl, q _ (I.hok.fresh (Nat.le_refl _))⟩
/-- the signs of a text, each once, rising -/
theorem foldA_singsX (l : List Nat) : ∃ m : List Nat, (l.map sing).foldl addL [] = m.map sing ∧ m.Nodup ∧ ∀ c, c ∈ m ↔ c ∈ l := by
  obtain ⟨m, e, h⟩ := map_sing_of (ys := (l.map sing).foldl addL []) (l := l) fun y hy => by
    rcases (mem_foldA (l.map sing) [] y).mp hy with h | h
    · cases h
    · obtain ⟨c, hc, e⟩ := List.mem_map.mp h
      exact ⟨c, hc, e.symm⟩
  have nd := foldA_nodup (l.map sing) [] List.nodup_nil
  rw [e] at nd
  refine ⟨m, e, (List.pairwise_map.mp nd).imp fun h e => h (congrArg sing e), fun c => ⟨h c, fun hc => ?_⟩⟩
  have : sing c ∈ (l.map sing).foldl addL [] := (mem_foldA _ _ _).mpr (.inr (List.mem_map.mpr ⟨c, hc, rfl⟩))
  rw [e] at this
  obtain ⟨d, hd, e2⟩ := List.mem_map.mp this
  rw [← sing_inj e2]
  exact hd
theorem sorted_sgs {l : List Nat} {ys : List Str} (nd : l.Nodup) (hs : sortedS ys = true) (hp : ys.Perm (l.map sing)) : ∃ m : List Nat, ys = m.map sing ∧ m.Pairwise (· < ·) ∧ ∀ c, c ∈ m ↔ c ∈ l := by
  obtain ⟨m, e, h⟩ := map_sing_of (ys := ys) (l := l) fun y hy => by
    obtain ⟨c, hc, e⟩ := List.mem_map.mp (hp.mem_iff.mp hy)
    exact ⟨c, hc, e.symm⟩
  subst e
  have hm : ∀ c, c ∈ m ↔ c ∈ l := fun c => ⟨h c, fun hc => by
    obtain ⟨d, hd, e⟩ := List.mem_map.mp (hp.mem_iff.mpr (List.mem_map.mpr ⟨c, hc, rfl⟩))
    rw [← sing_inj e]; exact hd⟩
  have ndm : m.Nodup := by
    have q : (m.map sing).Nodup := hp.nodup_iff.mpr (List.pairwise_map.mpr (nd.imp fun h e => h (sing_inj e)))
    exact (List.pairwise_map.mp q).imp fun h e => h (congrArg sing e)
  have le : m.Pairwise (· ≤ ·) := by
    cases m with
    | nil => exact .nil
    | cons x m => exact sorted_sings x m (by simpa [sortedS] using hs)
  refine ⟨m, rfl, (le.and ndm).imp fun ⟨h1, h2⟩ => ?_, hm⟩
  omega
/-- two rising lists of the same numbers -/
theorem rising_eq : ∀ {a b : List Nat}, a.Pairwise (· < ·) → b.Pairwise (· < ·) → (∀ c, c ∈ a ↔ c ∈ b) → a = b
  | [], [], _, _, _ => rfl
  | [], y :: b, _, _, h => by have := (h y).mpr List.mem_cons_self; cases this
  | x :: a, [], _, _, h => by have := (h x).mp List.mem_cons_self; cases this
  | x :: a, y :: b, ha, hb, h => by
    rw [List.pairwise_cons] at ha hb
    have e : x = y := by
      rcases List.mem_cons.mp ((h x).mp List.mem_cons_self) with z | z
      · exact z
      · rcases List.mem_cons.mp ((h y).mpr List.mem_cons_self) with z2 | z2
        · exact z2.symm
        · have := hb.1 x z; have := ha.1 y z2; omega
    subst e
    rw [rising_eq ha.2 hb.2 fun c => ⟨fun hc => ?_, fun hc => ?_⟩]
    · rcases List.mem_cons.mp ((h c).mp (List.mem_cons_of_mem _ hc)) with z | z
      · have := ha.1 c hc; omega
      · exact z
    · rcases List.mem_cons.mp ((h c).mpr (List.mem_cons_of_mem _ hc)) with z | z
      · have := hb.1 c hc; omega
      · exact z
def rJoL (K : PySem.W.Frag) : V → List V → Hp → VK → Prop := fun x xs H Q => ∃ a p, ∃ ys : List Str, x = .str a ∧ xs = [.ref p] ∧ (SqL K H p (ys.map V.str) ∨ SqT K H p (ys.map V.str)) ∧ (ys.map (·.length)).sum + ys.length * a.length ≤ 16777216 ∧ Q (.str (Txt.join a ys)) H
/-- "".join(sorted(set(text))), whether it is the text -/
theorem ed_sortsetD {P : Program} {w : World} {K : PySem.W.Frag} {σ : L2.St} {H : Hp} {te : TE} {l : List Nat} (h : ED te σ H (.str (txt l))) (asc : ∀ c ∈ l, c < 128) (few : l.length ≤ 3000) (fewD : ∀ m : List Nat, m.Nodup → (∀ c ∈ m, c ∈ l) → m.length < 64) :
    ∃ m : List Nat, m.Pairwise (· < ·) ∧ (∀ c, c ∈ m ↔ c ∈ l) ∧ ED (tM1 (rJoL K) (tC (.str Str.empty)) (tCB (rSortTx P w) (tCons (tCB (rSetTxD P w) (tCons te tNil)) tNil))) σ H (.str (txt m)) := by
  obtain ⟨k, ek, ndk, hk⟩ := foldA_singsX l
  have lk := fewD k ndk fun c hc => (hk c).mp hc
  obtain ⟨ys, hys⟩ : ∃ m : List Nat, m.Pairwise (· < ·) ∧ ∀ c, c ∈ m ↔ c ∈ l := by
    have ex : ∀ k : List Nat, k.Nodup → ∃ m : List Nat, m.Pairwise (· < ·) ∧ ∀ c, c ∈ m ↔ c ∈ k := fun k nk => by
      refine ⟨k.mergeSort (fun a b => decide (a ≤ b)), ?_, fun c => (List.mergeSort_perm k _).mem_iff⟩
      have s1 := List.pairwise_mergeSort (le := fun a b : Nat => decide (a ≤ b)) (fun a b c h1 h2 => by simp only [decide_eq_true_eq] at *; omega) (fun a b => by simp only [Bool.or_eq_true, decide_eq_true_eq]; omega) k
      have s2 : (k.mergeSort (fun a b => decide (a ≤ b))).Nodup := (List.mergeSort_perm k _).nodup_iff.mpr nk
      refine (s1.and s2).imp fun ⟨h1, h2⟩ => ?_
      have := of_decide_eq_true h1
      omega
    obtain ⟨m, h1, h2⟩ := ex k ndk
    exact ⟨m, h1, fun c => (h2 c).trans (hk c)⟩
  refine ⟨ys, hys.1, hys.2, fun H1 e Q q => ⟨⟨_, rfl⟩, h H1 e _ fun x H2 e2 hx => ?_⟩⟩
  have ex := hx.toStr
  subst ex
  have lk' : (l.map sing).foldl addL [] = k.map sing := ek
  refine ⟨txt l, rfl, ?_, few, ?_, fun p1 n1 => ⟨p1, _, rfl, upd_same, foldA_nodup _ _ List.nodup_nil, fun zs p2 hs hp n2 => ?_⟩⟩
  · rw [← Array.all_toList, List.all_eq_true]
    exact fun c hc => decide_eq_true (asc c hc)
  · show ((l.map sing).foldl addL []).length < 64
    rw [lk', List.length_map]; exact lk
  · have hp' : zs.Perm (k.map sing) := by rw [← lk']; exact hp
    obtain ⟨m, rfl, hr, hm⟩ := sorted_sgs ndk hs hp'
    have em : m = ys := rising_eq hr hys.1 fun c => ((hm c).trans (hk c)).trans (hys.2 c).symm
    subst em
    refine ⟨_, p2, m.map sing, rfl, rfl, .inl (SqL.of upd_same), ?_, ?_⟩
    · have e4 : (Str.empty).length = 0 := rfl
      have lm : m.length < 64 := fewD m (hr.imp fun h => Nat.ne_of_lt h) fun c hc => (hys.2 c).mp hc
      rw [e4, Nat.mul_zero, Nat.add_zero, sing_lens]
      omega
    · rw [join_sing]
      exact q _ _ ((e2.trans (Ex.new n1)).trans (Ex.new n2)) (.str _)
end KS
end
noncomputable section
namespace KS
open PySem PySem.Spec PyProof.Rows L2 Evl
/-! ### Base.__init__(self, ..), Base an own class -/
structure BaseC (K : PySem.W.Frag) (mg : Str → Option Value) (B : Addr) : Prop where
  g : mg "SlotError" = some (.ref B)
  ga : PySem.W.specialIn K (.ref B) "__getattribute__" = some (some (.builtin "type.__getattribute__"))
  rd : PySem.W.readsIn K B (.type "type") = true
  v : PySem.W.findCls K (.ref B) (.type "type") "__init__" = some (.val (.builtin "ValueError.__init__"))
section
variable {X : Cx} {e : Expr} {es : List Expr} {ta : TA} {p1 p2 pos : Pos}
theorem pe_bainit {B : Addr} {pl : Sem Bool} (T : BaseC X.K X.mg B) (hg : Gl X "SlotError") (ha : PA X (e :: es) ta)
    (hc : eval (.Call (.Attribute (.Name "SlotError" p1) "__init__" p2) (e :: es) [] pos) X.env = (do
      let ov ← eval (.Name "SlotError" p1) X.env
      standAt p2.atName
      let (f, first) ← holding [ov] (getMethod ov "__init__" pl)
      callWith pos f first (backTo pos (starEach (e :: es) X.env)) (backToKw pos (keywordEach [] X.env))) := by rfl)
    (he : starEach (e :: es) X.env = (false, eval e X.env) :: starEach es X.env := by rfl) (hpl : (backTo pos (starEach es X.env)).any (·.1) = false := by rfl) :
    PE X (.Call (.Attribute (.Name "SlotError" p1) "__init__" p2) (e :: es) [] pos) (tVeI X.K ta) := by
  refine ⟨fun pins s σ H Q I h => ?_⟩
  refine PySem.W.methodCall_KW (ld_glob I hg T.g ?_ (by decide)) hc
  refine PySem.W.method_cls I.kIn T.ga (PySem.W.cls_value I.kIn T.rd T.v (by decide +kernel) ?_)
  show wpAny _ _ (callWith pos (Value.builtin "ValueError.__init__") [] (backTo pos (starEach (e :: es) X.env)) []) _ _ _
  refine PyProof.Rows.callWith_method1 (thn (ha.run pos pins _ σ H _ (I.tok _) h) fun us s1 ⟨vs, H1, I1, r1, a, C, ws, ev, hl, T, ea, q⟩ => ?_) he hpl
  subst ev
  cases r1 with
  | @cons _ u0 _ ur ra rw' =>
    obtain rfl : u0 = Value.ref a := ra
    have hlen : ur.length ≤ sizeLine := by
      rw [← Paired.length rw', sizeLine_eq]
      omega
    exact oinit_ok T I1 ea hlen fun s' J => ⟨.non, H1, J, rfl, q⟩
end
/-- what such a class's __init__ does: the field holds the number -/
def spIni (K : PySem.W.Frag) (f : Str) : Sp := fun vs H Q _ => ∃ (a C : Addr) (n : Int), vs = [.ref a, .int n] ∧ H a = some (exo a C none) ∧ OexC K C ∧ PySem.W.findIn K (.ref C) f = some none ∧ n.natAbs.log2 < 1920 ∧
  ∀ dx, H dx = none → dx ≠ a → Q .non (upd (upd H dx (exd dx [(f, .int n)])) a (exo a C (some dx)))
structure ErrN (P : Program) (w : World) (K : PySem.W.Frag) (mg : Str → Option Value) (base : Heap) (x f : Str) (C : Addr) : Prop where
  g : mg x = some (.ref C)
  T : OexC K C
  no : PySem.W.findIn K (.ref C) f = some none
  ex : ∃ (fI : Addr) (fd : FuncData) (ps : List Str), PySem.W.findIn K (.ref C) "__init__" = some (some (.ref fI)) ∧ PySem.W.typeIn K (.ref fI) = some (.type "function") ∧ FnOk P w K mg base CX0 1 fI fd ps (spIni K f) ∧ Binds K fd ps []
theorem mk_num {σ : L2.St} {H : Hp} {K : PySem.W.Frag} {ta : TA} {C : Addr} {f : Str} {n : Int} {Q : XK} (T : OexC K C) (no : PySem.W.findIn K (.ref C) f = some none) (hn : n.natAbs.log2 < 1920) (h : EAs ta σ H [.int n])
    (k : ∀ d H', Ex H H' → H' d = some (.xd [(f, .int n)]) → Q (.ref C) (some d) H') : tMkO C (spIni K f) [] ta σ H Q := h H (Ex.refl _) _ fun vs H1 e hv => by
  obtain ⟨v, rfl, h1⟩ := hv.args1
  have e1 := h1.toInt
  subst e1
  refine ⟨by show 1 ≤ 1000; decide, fun a na => ⟨a, C, n, rfl, upd_same, T, no, hn, fun dx nd ne => ?_⟩⟩
  have nd1 : H1 dx = none := by rw [upd_ne ne] at nd; exact nd
  refine ⟨rfl, dx, [(f, .int n)], upd_same, by rw [upd_ne ne, upd_same], nd1, ?_⟩
  refine k dx _ (e.trans fun b o hb => ?_) upd_same
  have hbd : b ≠ dx := fun z => by rw [z, nd1] at hb; cases hb
  have hba : b ≠ a := fun z => by rw [z, na] at hb; cases hb
  rw [upd_ne hbd, del_ne hba, upd_ne hba, upd_ne hbd, upd_ne hba]
  exact hb
/-- raise X(e) -/
theorem pmk_num {X : Cx} {x f : Str} {C : Addr} {k : Nat} {e : Expr} {ta : TA} {p pos : Pos} (N : ErrN X.prog X.w X.K X.mg X.base x f C) (hr : Room k X.A) (hk : 2 ≤ k) (ha : PA X [e] ta) (hg : Gl X x := by rfl)
    (hdb : (x == ("__debug__" : Str)) = false := by decide) (he : starEach [e] X.env = (false, eval e X.env) :: starEach [] X.env := by rfl) (hpl : (backTo pos (starEach [] X.env)).any (·.1) = false := by rfl) : PMk X (.Call (.Name x p) [e] [] pos) (tMkO C (spIni X.K f) [] ta) := by
  obtain ⟨fI, fd, ps, iC, tI, F, b⟩ := N.ex
  exact pmk_oex N.T iC tI F (hr.mono hk) b .nil pass0 hg N.g ha hdb he hpl
/-- what raising a class with a number leaves -/
def RaisesN (C : Addr) (f : Str) (n : Nat) (H : Hp) (E : XK) : Prop := ∀ d H', Ex H H' → H' d = some (.xd [(f, .int ((n : Nat) : Int))]) → E (.ref C) (some d) H'
theorem RaisesN.ex {C : Addr} {f : Str} {n : Nat} {H H' : Hp} {E : XK} (h : RaisesN C f n H E) (e : Ex H H') : RaisesN C f n H' E := fun d H2 e2 hd => h d H2 (e.trans e2) hd
theorem mem_fields {σ : L2.St} {H : Hp} {s : Str} : ED (tC (.str s)) σ H (.str s) := ed_cs s
/-! ### BadFamily -/
theorem sc_iBadFamily : FnScope ["self", "number"] ["self", "number"] (defScope i_BadFamily) := ⟨rfl, rfl, rfl, by decide +kernel, rfl, by decide +kernel, by decide +kernel⟩
theorem ok_iBadFamily {P : Program} {w : World} {K : PySem.W.Frag} {mg : Str → Option Value} {base : Heap} {B fI : Addr} {fd : FuncData} (T : BaseC K mg B) (F : Fun K "__init__" "BadFamily.__init__" i_BadFamily fI fd) : FnOk P w K mg base CX0 1 fI fd ["self", "number"] (spIni K "number") := by
  refine F.ok sc_iBadFamily (fun vs H Q E h => by obtain ⟨_, _, _, rfl, _⟩ := h; rfl) (fun cdv A outer s H vs Q E hr h => ?_)
  obtain ⟨a, C, n, rfl, ha, O, no, hn, q⟩ := h
  refine ⟨_, pss_cons (ps_expr (pe_bainit T rfl (pa_cons (pv 0) (pa_cons (pe_joined (.cons pe_str (.cons (pe_fmt (pv 1)) .nil))) pa_nil)))) (pss_one (ps_ost (pv 0) (pv 1))), ?_⟩
  refine ⟨.ref a, rfl, ?_⟩
  refine ⟨_, rfl, by decide, .int n, rfl, .inr ⟨n, rfl, hn, _, rfl, ?_, ?_⟩⟩
  · rw [PySem.Str.length_append, sizeLine_eq]
    have := int_text_len_1921 hn
    refine Nat.le_trans (Nat.add_le_add_left this _) (by decide)
  refine ⟨a, C, _, rfl, by show 1 ≤ 1000; decide, O, ha, ?_⟩
  refine ⟨.int n, rfl, .ref a, rfl, a, C, rfl, O, no, .inl ⟨ha, fun dx nd ne => q dx nd ne⟩⟩
/-! ### BadAsked -/
theorem sc_iBadAsked : FnScope ["self", "number"] ["self", "number"] (defScope i_BadAsked) := ⟨rfl, rfl, rfl, by decide +kernel, rfl, by decide +kernel, by decide +kernel⟩
theorem ok_iBadAsked {P : Program} {w : World} {K : PySem.W.Frag} {mg : Str → Option Value} {base : Heap} {B fI : Addr} {fd : FuncData} (T : BaseC K mg B) (F : Fun K "__init__" "BadAsked.__init__" i_BadAsked fI fd) : FnOk P w K mg base CX0 1 fI fd ["self", "number"] (spIni K "number") := by
  refine F.ok sc_iBadAsked (fun vs H Q E h => by obtain ⟨_, _, _, rfl, _⟩ := h; rfl) (fun cdv A outer s H vs Q E hr h => ?_)
  obtain ⟨a, C, n, rfl, ha, O, no, hn, q⟩ := h
  refine ⟨_, pss_cons (ps_expr (pe_bainit T rfl (pa_cons (pv 0) (pa_cons (pe_joined (.cons pe_str (.cons (pe_fmt (pv 1)) .nil))) pa_nil)))) (pss_one (ps_ost (pv 0) (pv 1))), ?_⟩
  refine ⟨.ref a, rfl, ?_⟩
  refine ⟨_, rfl, by decide, .int n, rfl, .inr ⟨n, rfl, hn, _, rfl, ?_, ?_⟩⟩
  · rw [PySem.Str.length_append, sizeLine_eq]
    have := int_text_len_1921 hn
    refine Nat.le_trans (Nat.add_le_add_left this _) (by decide)
  refine ⟨a, C, _, rfl, by show 1 ≤ 1000; decide, O, ha, ?_⟩
  refine ⟨.int n, rfl, .ref a, rfl, a, C, rfl, O, no, .inl ⟨ha, fun dx nd ne => q dx nd ne⟩⟩
/-! ### BadText -/
theorem sc_iBadText : FnScope ["self", "row"] ["self", "row"] (defScope i_BadText) := ⟨rfl, rfl, rfl, by decide +kernel, rfl, by decide +kernel, by decide +kernel⟩
theorem ok_iBadText {P : Program} {w : World} {K : PySem.W.Frag} {mg : Str → Option Value} {base : Heap} {B fI : Addr} {fd : FuncData} (T : BaseC K mg B) (F : Fun K "__init__" "BadText.__init__" i_BadText fI fd) : FnOk P w K mg base CX0 1 fI fd ["self", "row"] (spIni K "row") := by
  refine F.ok sc_iBadText (fun vs H Q E h => by obtain ⟨_, _, _, rfl, _⟩ := h; rfl) (fun cdv A outer s H vs Q E hr h => ?_)
  obtain ⟨a, C, n, rfl, ha, O, no, hn, q⟩ := h
  refine ⟨_, pss_cons (ps_expr (pe_bainit T rfl (pa_cons (pv 0) (pa_cons (pe_joined (.cons pe_str (.cons (pe_fmt (pv 1)) .nil))) pa_nil)))) (pss_one (ps_ost (pv 0) (pv 1))), ?_⟩
  refine ⟨.ref a, rfl, ?_⟩
  refine ⟨_, rfl, by decide, .int n, rfl, .inr ⟨n, rfl, hn, _, rfl, ?_, ?_⟩⟩
  · rw [PySem.Str.length_append, sizeLine_eq]
    have := int_text_len_1921 hn
    refine Nat.le_trans (Nat.add_le_add_left this _) (by decide)
  refine ⟨a, C, _, rfl, by show 1 ≤ 1000; decide, O, ha, ?_⟩
  refine ⟨.int n, rfl, .ref a, rfl, a, C, rfl, O, no, .inl ⟨ha, fun dx nd ne => q dx nd ne⟩⟩
end KS
end
noncomputable section
namespace KS
open PySem PySem.Spec PyProof.Rows L2 Evl
/-! ### len(set(xs)), xs with or without twins -/
def dist (ns : List Int) : Nat := (PyProof.Rows.firstMet (fun i => ns.getD i 0) ns.length).length
theorem met_all (val : Nat → Int) : ∀ n : Nat, (PyProof.Rows.firstMet val n).length = n → ∀ a b : Nat, a < b → b < n → val a ≠ val b
  | 0, _ => fun a b _ h => absurd h (Nat.not_lt_zero _)
  | n + 1, h => fun a b hab hb => by
    have le := PyProof.Rows.firstMet_length_le val n
    rw [PyProof.Rows.firstMet_succ] at h
    have h' : (if (PyProof.Rows.firstMet val n).any (· == val n) then PyProof.Rows.firstMet val n else PyProof.Rows.firstMet val n ++ [val n]).length = n + 1 := h
    cases hc : (PyProof.Rows.firstMet val n).any (· == val n) with
    | true =>
      rw [hc, if_pos rfl] at h'
      omega
    | false =>
      rw [hc, if_neg (by decide), List.length_append, List.length_singleton] at h'
      rcases Nat.lt_succ_iff_lt_or_eq.mp hb with z | z
      · exact met_all val n (by omega) a b hab z
      · subst z
        rw [PyProof.Rows.firstMet_any] at hc
        intro e
        have : ((List.range b).map val).any (· == val b) = true := List.any_eq_true.mpr ⟨val a, List.mem_map.mpr ⟨a, List.mem_range.mpr hab, rfl⟩, by rw [e]; exact beq_self_eq_true _⟩
        rw [this] at hc
        cases hc
theorem dist_iff (ns : List Int) : dist ns = ns.length ↔ ns.Nodup := by
  refine ⟨fun h => ?_, fun h => ?_⟩
  · refine List.pairwise_iff_getElem.mpr fun i j hi hj hij => ?_
    have := met_all _ ns.length h i j hij hj
    rw [List.getD_eq_getElem?_getD, List.getD_eq_getElem?_getD, List.getElem?_eq_getElem hi, List.getElem?_eq_getElem hj] at this
    exact this
  · unfold dist
    rw [RZ.firstMet_nodup h ns.length (Nat.le_refl _), List.take_length]
def tLenSetX (K : PySem.W.Frag) (ta : TE) : TE := fun σ H Q => ta σ H fun x H1 => ∃ (l : Addr) (ns : List Int), x = .ref l ∧ SqL K H1 l (ns.map V.int) ∧ ns.length ≤ 4000 ∧ Q (.int ((dist ns : Nat) : Int)) H1
theorem pe_lenSetX {X : Cx} {a : Expr} {ta : TE} {p p2 q pos : Pos} (hg : Gl X "len") (hm : X.mg "len" = none) (hg2 : Gl X "set") (hm2 : X.mg "set" = none) (ha : PE X a ta) (hc : X.calm = true := by rfl)
    (na : starEach [a] X.env = (false, eval a X.env) :: starEach [] X.env := by rfl) : PE X (.Call (.Name "len" p) [.Call (.Name "set" p2) [a] [] q] [] pos) (tLenSetX X.K ta) := by
  refine ⟨fun pins s σ H Q I h => ?_⟩
  refine Call_ (ld_blt I hg hm boot_len ?_)
  refine PyProof.Rows.callWith_builtin1 (PyProof.Rows.args_cons ?_ rfl) rfl rfl
  refine Call_ (ld_blt I hg2 hm2 boot_set ?_)
  refine PyProof.Rows.callWith_type1 (PyProof.Rows.args_cons (thn (ha.run pins s σ H _ I h) fun v s1 ⟨x, H1, I1, r1, q1⟩ => PyProof.Rows.args_nil ?_) na) na rfl
  obtain ⟨l, ns, rfl, hq, hl, q1⟩ := q1
  cases r1
  obtain ⟨its, r, pl, hz⟩ := I1.list hq
  have hlen : its.toArray.size = ns.length := by rw [List.size_toArray, ← r.length, List.length_map]
  refine call_set_list (I1.ok.hd hc) pl.isList (by simpa using RZ.intsAre_vals r) (by rw [hlen]; unfold scanBound; omega) fun h' tk hS hk => ?_
  refine PyProof.Rows.args_nil ?_
  rw [hlen] at hS
  obtain ⟨o, es, ep, t, ho, hex, hd, _, _, _, hf, hn⟩ := hS
  have I2 : Inv X pins σ H1 { s1 with heap := h', toks := tk } := I1.kept fun b o e => hk b o (Heap.lt_size e) e
  have le := PyProof.Rows.firstMet_length_le (fun i => ns.getD i 0) ns.length
  exact call_len_set ho hex hd hf (by rw [hn] <;> omega) ⟨.int ((dist ns : Nat) : Int), H1, I2.tok _, ⟨_, by rw [hn] <;> rfl⟩, q1⟩
theorem ed_lenSetX {K : PySem.W.Frag} {σ : L2.St} {H : Hp} {ta : TE} {ns : List Int} (ha : ED ta σ H (.list (ns.map PyData.int))) (hz : ns.length ≤ 4000) : ED (tLenSetX K ta) σ H (.int ((dist ns : Nat) : Int)) := fun H1 e Q q =>
  ha H1 e _ fun x H2 e2 hx => by
    obtain ⟨a, xs, rfl, h, t⟩ := hx.toLst
    have e3 := t.ints
    subst e3
    exact ⟨a, ns, rfl, SqL.of h, hz, q _ H2 e2 (.int _)⟩
/-! ### kinds as they may be told -/
def elsB (n : Int) (es : List (Int × Int)) : Bool := decide (es.length ≤ 3) && (es.all (pairB n) && decide (es.map (·.1)).Nodup)
def deedsB (s : Str) : Bool := decide (s = txt (abc.filter fun c => decide (c ∈ s.cps.toList)))
def kindB (n : Int) (k : Kind) : Bool := (elsB n k.el && deedsB k.de) && (decide (0 ≤ k.ce) && decide (k.ce ≤ 3))
theorem deedsB_iff (s : Str) : deedsB s = true ↔ rise s.cps.toList := by
  unfold deedsB
  rw [decide_eq_true_eq]
  refine ⟨fun h => ?_, fun h => rise_txt h⟩
  unfold rise
  have e : s.cps.toList = (txt (abc.filter fun c => decide (c ∈ s.cps.toList))).cps.toList := congrArg (fun z : Str => z.cps.toList) h
  have e2 : ∀ l : List Nat, (txt l).cps.toList = l := fun l => rfl
  rw [e2] at e
  exact e
theorem kindB_iff (n : Nat) (k : Kind) : kindB n k = true ↔ KindOk n k := by
  unfold kindB elsB
  simp only [Bool.and_eq_true, decide_eq_true_eq, List.all_eq_true]
  rw [deedsB_iff]
  refine ⟨fun ⟨⟨⟨a, b, c⟩, d⟩, e, f⟩ => ⟨a, fun x hx => ?_, c, d, e, f⟩, fun o => ⟨⟨⟨o.few, pairs_ok o, o.once⟩, o.rise⟩, o.cells⟩⟩
  have := b x hx
  unfold pairB at this
  simp only [Bool.and_eq_true, Bool.or_eq_true, decide_eq_true_eq] at this
  exact ⟨this.1.1, this.1.2, this.2⟩
section
variable {P : Program} {w : World} {K : PySem.W.Frag} {mg : Str → Option Value} {base : Heap}
def R_are_eldersX : List PyData → PyData → Prop := fun ds d => ∃ (es : List (Int × Int)) (n : Int), ds = [.tuple (es.map encE), .int n] ∧ d = .bool (elsB n es)
theorem ok_are_eldersX (B : Bt mg) (m3 : ∃ t, mg "MOST_ELDERS" = some (.int 3 t)) (d : Df K mg "are_elders" s_are_elders ["elders", "number"]) (cP : Cl P w K mg base "is_pair" ["pair", "number"] 2 (spD R_is_pair)) : Cl P w K mg base "are_elders" ["elders", "number"] 3 (spD R_are_eldersX) := by
  obtain ⟨t3, m3⟩ := m3
  refine d.ok sc_are_elders (spD_len (by rintro _ _ ⟨_, _, rfl, _⟩; rfl)) (fun fa cdv A outer s H vs Q E hr h => ?_)
  obtain ⟨ds, ee, hv, ⟨es, n, rfl, rfl⟩, q⟩ := h
  obtain ⟨x, y, rfl, hx, hy⟩ := hv.args2
  refine ⟨_, pss_cons (ps_if (PW.pt (pw_or (pt_not (pt_val (pe_callB call_isi rfl B.isinstance boot_isinstance (pa_cons (pv 0) (pa_cons (pe_bltn (v := .ty "tuple") rfl B.tuple (by decide +kernel) rfl) pa_nil)))))
      (pw_or1 (pt_cmpR op_gt (pe_callB call_len rfl B.len PySem.boot_len (pa_cons (pv 0) pa_nil)) (pe_glob (v := .int 3) rfl m3 ⟨_, rfl⟩) (nomark _))))) (pss_one (ps_ret pe_bl)) pss_nil)
    (pss_cons (ps_if (pt_not (pt_val (pe_callB (cr_all (by rfl)) (by rfl) B.all boot_all (pa_cons (pe_lc (own := [("pair", 2)]) (g := gName 2) (tt := tYes) rfl sc_are_elders.nd (pi_tup (pv 0)) (blkOk_by (N := ["elders", "number", "pair"]) (sc := defScope s_are_elders) (by decide +kernel))
      (fun _ _ _ _ _ => pg_name (i := 2) sc_are_elders.nd rfl (.inl rfl)) (fun _ _ _ _ _ => pts_nil) (fun _ _ _ _ _ => pe_cl cP hr (pa_cons (pv 2) (pa_cons (pv 1) pa_nil)))) pa_nil)))) (pss_one (ps_ret pe_bl)) pss_nil)
    (pss_one (ps_ret (pe_cmpR op_eq (pe_lenSetX (by rfl) B.len (by rfl) B.set (pe_lc (own := [("pair", 2)]) (g := gName 2) (tt := tYes) rfl sc_are_elders.nd (pi_tup (pv 0)) (blkOk_by (N := ["elders", "number", "pair"]) (sc := defScope s_are_elders) (by decide +kernel))
      (fun _ _ _ _ _ => pg_name (i := 2) sc_are_elders.nd rfl (.inl rfl)) (fun _ _ _ _ _ => pts_nil) (fun _ _ _ _ _ => pe_ix (r := rIxT K) ix_tup (pv 2) pe_int (fun _ _ => rfl)))) (pe_callB call_len rfl B.len PySem.boot_len (pa_cons (pv 0) pa_nil)) (nomark _))))), ?_⟩
  have tst : ∀ b, decide (3 < ((es.length : Nat) : Int)) = b → EvT (tTest (tOp (rI0 fun i j => .bl (decide (j < i))) (tCB (fun xs H Q => ∃ x n, xs = [x] ∧ LenV K x H n ∧ Q (.int n) H) (tCons (tVar 0) tNil)) (tC (.int 3)))) [some x, some y, none] H b := fun b hb => et_D (ed_is (ed_I0 (i := ((es.length : Nat) : Int)) (j := 3) (d := .bool (decide (3 < ((es.length : Nat) : Int)))) (ed_is (ed_lenT (ed_var (i := 0) rfl hx)) (by rw [List.length_map])) (ed_ci 3) fun H => .bl _) (by rw [hb]))
  by_cases h3 : es.length ≤ 3
  · refine sd_if (b := false) (et_or (a := false) (b := false) (et_not (a := true) (et_DB (ed_isi (ed_var (i := 0) rfl hx) rfl kb_tuple_tuple))) fun _ => tst false (by rw [decide_eq_false (by omega)])) (fun z => nomatch z) fun _ H1 e1 => ?_
    refine st_next ?_
    dsimp only
    have hx1 := hx.mono e1
    have e3 : elsB n es = (es.all (pairB n) && decide (es.map (·.1)).Nodup) := by unfold elsB; rw [decide_eq_true h3, Bool.true_and]
    refine sd_if (b := !es.all (pairB n)) (et_not (a := es.all (pairB n)) (et_DB (ed_is (ed_all (bs := es.map (pairB n)) (EL.ed (el_is (el_lcT (as := es) (enc := encE) (fun _ => true) (fun e => .bool (pairB n e)) (ed_var (i := 0) rfl hx1) (by omega) (fun _ _ _ => rfl) fun e he z H2 e2 hz => ?_) (by rw [filt_true, List.map_map]; rfl)))) (by rw [List.all_map]; rfl)))) (fun hb H2 e2 => ?_) fun hb H2 e2 => ?_
    · exact ⟨[some x, some y, some z], rfl, fun _ _ R h => h, et_yes, fun _ => ed_call (eas2 (ed_var (i := 2) rfl hz) (ed_var (i := 1) rfl ((hy.mono e1).mono e2))) ⟨e, n, rfl, rfl⟩⟩
    · have hb' : es.all (pairB n) = false := by simpa using hb
      rw [e3, hb', Bool.false_and] at q
      refine sd_ret (ed_cb false) fun v H3 e3 hv3 => q v H3 ((e1.trans e2).trans e3) hv3
    · have hb' : es.all (pairB n) = true := by simpa using hb
      rw [e3, hb', Bool.true_and] at q
      refine st_next ?_
      dsimp only
      refine sd_ret (d := .bool (decide (es.map (·.1)).Nodup)) ?_ fun v H3 e3 hv3 => q v H3 ((e1.trans e2).trans e3) hv3
      refine ed_is (ed_eqI (s := ((dist (es.map (·.1)) : Nat) : Int)) (s' := ((es.length : Nat) : Int)) (ed_lenSetX (EL.ed (el_is (el_lcT (as := es) (enc := encE) (fun _ => true) (fun e => .int e.1) (ed_var (i := 0) rfl (hx1.mono e2)) (by omega) (fun _ _ _ => rfl) fun e he z H3 e3 hz => ?_) (by rw [filt_true, List.map_map]; rfl))) (by rw [List.length_map]; omega)) (ed_is (ed_lenT (ed_var (i := 0) rfl (hx1.mono e2))) (by rw [List.length_map]))) ?_
      · exact ⟨[some x, some y, some z], rfl, fun _ _ R h => h, et_yes, fun _ => ed_ixT (ed_var (i := 2) rfl hz) (ed_ci 0) rfl⟩
      · congr 1
        refine decide_eq_decide.mpr ⟨fun h => (dist_iff _).mp (by rw [List.length_map]; omega), fun h => ?_⟩
        have := (dist_iff _).mpr h
        rw [List.length_map] at this
        omega
  · have e3 : elsB n es = false := by unfold elsB; rw [decide_eq_false h3, Bool.false_and]
    rw [e3] at q
    refine sd_if (b := true) (et_or (a := false) (b := true) (et_not (a := true) (et_DB (ed_isi (ed_var (i := 0) rfl hx) rfl kb_tuple_tuple))) fun _ => tst true (by rw [decide_eq_true (by omega)])) (fun _ H1 e1 => ?_) (fun z => nomatch z)
    refine sd_ret (ed_cb false) fun v H3 e3 hv3 => q v H3 (e1.trans e3) hv3
def R_is_kindX : List PyData → PyData → Prop := fun ds d => ∃ (k : Kind) (n : Nat), ds = [encK k, .int n] ∧ d = .bool (kindB n k)
theorem ok_is_kindX (B : Bt mg) (m3 : ∃ t, mg "MOST_CELLS" = some (.int 3 t)) (d : Df K mg "is_kind" s_is_kind ["kind", "number"]) (cE : Cl P w K mg base "are_elders" ["elders", "number"] 3 (spD R_are_eldersX)) (cD : Cl P w K mg base "are_deeds" ["deeds"] 1 (spD R_are_deeds))
    (cW : Cl P w K mg base "is_whole" ["value"] 1 (spD R_is_whole)) : Cl P w K mg base "is_kind" ["kind", "number"] 4 (spD R_is_kindX) := by
  obtain ⟨t3, m3⟩ := m3
  refine d.ok sc_is_kind (spD_len (by rintro _ _ ⟨_, _, rfl, _⟩; rfl)) (fun fa cdv A outer s H vs Q E hr h => ?_)
  obtain ⟨ds, ee, hv, ⟨k, n, rfl, rfl⟩, q⟩ := h
  obtain ⟨x, y, rfl, hx, hy⟩ := hv.args2
  refine ⟨_, pss_cons (ps_if (PW.pt (pw_or (pt_not (pt_val (pe_callB call_isi rfl B.isinstance boot_isinstance (pa_cons (pv 0) (pa_cons (pe_bltn (v := .ty "tuple") rfl B.tuple (by decide +kernel) rfl) pa_nil)))))
      (pw_or1 (pt_cmpR op_ne (pe_callB call_len rfl B.len PySem.boot_len (pa_cons (pv 0) pa_nil)) pe_int (nomark _))))) (pss_one (ps_ret pe_bl)) pss_nil)
    (pss_cons (ps_asg (pv 0) (pg_tup rfl (pgs_cons (pg_name (i := 2) sc_is_kind.nd rfl (.inl rfl)) (pgs_cons (pg_name (i := 3) sc_is_kind.nd rfl (.inl rfl)) (pgs_cons (pg_name (i := 4) sc_is_kind.nd rfl (.inl rfl)) pgs_nil)))))
    (pss_cons (ps_if (PW.pt (pw_or (pt_not (pt_val (pe_cl cE hr (pa_cons (pv 2) (pa_cons (pv 1) pa_nil))))) (pw_or1 (pt_not (pt_val (pe_cl cD (hr.mono (by decide)) (pa_cons (pv 3) pa_nil))))))) (pss_one (ps_ret pe_bl)) pss_nil)
    (pss_one (ps_ret (pe_and (pe_cl cW (hr.mono (by decide)) (pa_cons (pv 4) pa_nil)) (pe_one (pe_chain op_le op_le pe_int (pv 4) (pe_glob (v := .int 3) rfl m3 ⟨_, rfl⟩)))))))), ?_⟩
  refine sd_if (b := false) (et_or (a := false) (b := false) (et_not (a := true) (et_DB (ed_isi (ed_var (i := 0) rfl hx) rfl kb_tuple_tuple))) fun _ => et_D (b := false) (ed_is (ed_neI (s := 3) (s' := 3) (ed_is (ed_lenT (ed_var (i := 0) rfl hx)) rfl) (ed_ci 3)) rfl)) (fun z => nomatch z) fun _ H1 e1 => ?_
  refine st_next ?_
  dsimp only
  refine sd_asg3 (d1 := .tuple (k.el.map encE)) (d2 := .str k.de) (d3 := .int k.ce) (ed_var (i := 0) rfl (hx.mono e1)) fun v1 v2 v3 H2 e2 h1 h2 h3 => ?_
  have hy2 := (hy.mono e1).mono e2
  refine sd_if (b := !elsB n k.el || !deedsB k.de) (et_or (et_not (et_DB (ed_call (eas2 (ed_var (i := 2) rfl h1) (ed_var (i := 1) rfl hy2)) ⟨k.el, n, rfl, rfl⟩))) fun _ => et_not (et_DB (ed_call (eas1 (ed_var (i := 3) rfl h2)) ⟨k.de, rfl, rfl⟩))) (fun hb H3 e3 => ?_) fun hb H3 e3 => ?_
  · have e0 : kindB n k = false := by
      unfold kindB
      rw [← Bool.not_and] at hb
      have : (elsB n k.el && deedsB k.de) = false := by simpa only [Bool.not_eq_true'] using hb
      rw [this, Bool.false_and]
    rw [e0] at q
    refine sd_ret (ed_cb false) fun v H4 e4 hv4 => q v H4 (((e1.trans e2).trans e3).trans e4) hv4
  · have e0 : kindB n k = (decide (0 ≤ k.ce) && decide (k.ce ≤ 3)) := by
      unfold kindB
      rw [← Bool.not_and] at hb
      have : (elsB n k.el && deedsB k.de) = true := by simpa only [Bool.not_eq_false'] using hb
      rw [this, Bool.true_and]
    rw [e0] at q
    refine st_next ?_
    dsimp only
    refine sd_ret (d := .bool (decide (0 ≤ k.ce) && decide (k.ce ≤ 3))) ?_ fun v H4 e4 hv4 => q v H4 (((e1.trans e2).trans e3).trans e4) hv4
    exact ed_andV (a := true) (ed_call (eas1 (ed_var (i := 4) rfl (h3.mono e3))) (R_whole_int k.ce)) fun _ => ed_chain (p := fun i j => decide (i ≤ j)) (p' := fun i j => decide (i ≤ j)) (ed_ci 0) (ed_var (i := 4) rfl (h3.mono e3)) (ed_ci 3)
end
end KS
end
noncomputable section
namespace KS
open PySem PySem.Spec PyProof.Rows L2 Evl
/-! ### the first bad kind -/
theorem find_congr' {α : Type} {p q : α → Bool} : ∀ {l : List α}, (∀ a ∈ l, p a = q a) → l.find? p = l.find? q
  | [], _ => rfl
  | x :: l, h => by
    rw [List.find?_cons, List.find?_cons, h x List.mem_cons_self, find_congr' fun a ha => h a (List.mem_cons_of_mem _ ha)]
theorem soundB_app {g l : Fam} (L : Low (g ++ l)) {j : Nat} (h : j < g.length) : soundB (g ++ l) j = soundB g j := by
  have e : lm NN (g ++ l) [(j : Int)] = lm NN g [(j : Int)] := lm_append L (by rw [lastP_one]; omega) (by rw [lastP_one]; omega) NN
  have bd : ∀ y ∈ lm NN g [(j : Int)], 0 ≤ lastP y ∧ lastP y < g.length := fun y hy => by
    rw [← e] at hy
    have b := mem_bound L (by omega) hy
    exact ⟨b.1, by omega⟩
  have ed : ∀ c, doing (g ++ l) c (lm NN g [(j : Int)]) = doing g c (lm NN g [(j : Int)]) := fun c => by
    unfold doing
    exact List.filter_congr fun y hy => does_append (bd y hy).1 (bd y hy).2 c
  have ek : known (g ++ l) (lm NN g [(j : Int)]) = known g (lm NN g [(j : Int)]) := by
    unfold known
    refine List.filter_congr fun c _ => ?_
    rw [Bool.eq_iff_iff, List.any_eq_true, List.any_eq_true]
    refine ⟨fun ⟨y, hy, z⟩ => ⟨y, hy, by rw [← does_append (l := l) (bd y hy).1 (bd y hy).2 c]; exact z⟩, fun ⟨y, hy, z⟩ => ⟨y, hy, by rw [does_append (l := l) (bd y hy).1 (bd y hy).2 c]; exact z⟩⟩
  have ef : ∀ c, foremost NN (g ++ l) (doing g c (lm NN g [(j : Int)])) = foremost NN g (doing g c (lm NN g [(j : Int)])) := fun c => by
    unfold foremost
    refine find_congr' fun y hy => over_congr (lm_append L ?_ ?_ NN)
    · exact (bd y (List.mem_filter.mp hy).1).1
    · exact (bd y (List.mem_filter.mp hy).1).2
  unfold soundB
  rw [e, ek]
  congr 1
  congr 1
  funext c
  rw [ed, ef]
theorem sound_of {f : Fam} (K : Kinds f) {j : Nat} (h : j < f.length) (S : soundB f j = true) : Sound f j := by
  unfold soundB at S
  rw [Bool.and_eq_true, decide_eq_true_eq, List.all_eq_true] at S
  refine ⟨S.1, fun c hc => ?_⟩
  obtain ⟨p, hp⟩ := List.exists_mem_of_ne_nil _ hc
  have hp' := List.mem_filter.mp hp
  have b := mem_bound (kinds_low K) (show (0 : Int) ≤ (j : Int) by omega) hp'.1
  have ca : c ∈ abc := by
    have hd := of_decide_eq_true hp'.2
    have l0 : (lastP p).toNat < f.length := by omega
    have hk := K (lastP p).toNat f[(lastP p).toNat] (List.getElem?_eq_getElem l0)
    have e : kd f (lastP p) = f[(lastP p).toNat] := by
      have := kd_at (List.getElem?_eq_getElem l0)
      rwa [show (((lastP p).toNat : Nat) : Int) = lastP p by omega] at this
    rw [e] at hd
    exact rise_abc hk.rise hd
  have := S.2 c (known_iff.mpr ⟨ca, hc⟩)
  cases hx : foremost NN f (doing f c (lm NN f [(j : Int)])) with
  | none => rw [hx] at this; cases this
  | some x => exact ⟨x, List.mem_of_find?_eq_some hx, List.find?_some hx⟩
def goodK (f : Fam) (j : Nat) : Bool := kindB j (kd f j) && soundB (f.take (j + 1)) j
def famBad (f : Fam) : Option Nat := if 7 < f.length then some 7 else if f.length = 0 then some 0 else (List.range f.length).find? fun j => !goodK f j
theorem kinds_take {f : Fam} {i : Nat} (hi : i ≤ f.length) (h : ∀ j, j < i → kindB j (kd f j) = true) : Kinds (f.take i) := fun j k hk => by
  have hj : j < i := by
    have := (List.getElem?_eq_some_iff.mp hk).1
    rw [List.length_take] at this
    omega
  rw [List.getElem?_take, if_pos hj] at hk
  rw [← kd_at hk]
  exact (kindB_iff j _).mp (h j hj)
theorem fam_good {f : Fam} (f1 : 1 ≤ f.length) (f7 : f.length ≤ 7) (h : ∀ j, j < f.length → goodK f j = true) : Valid f := by
  have hk : ∀ j, j < f.length → kindB j (kd f j) = true := fun j hj => by
    have := h j hj
    unfold goodK at this
    rw [Bool.and_eq_true] at this
    exact this.1
  have K : Kinds f := by
    have := kinds_take (Nat.le_refl _) hk
    rwa [List.take_length] at this
  refine ⟨f1, f7, by omega, K, fun j hj => sound_of K hj ?_⟩
  have := h j hj
  unfold goodK at this
  rw [Bool.and_eq_true] at this
  have e := soundB_app (g := f.take (j + 1)) (l := f.drop (j + 1)) (j := j) (by rw [List.take_append_drop]; exact kinds_low K) (by rw [List.length_take]; omega)
  rw [List.take_append_drop] at e
  rw [e]
  exact this.2
theorem valid_good {f : Fam} (V : Valid f) {j : Nat} (hj : j < f.length) : goodK f j = true := by
  unfold goodK
  have L := kinds_low V.kinds
  have e := soundB_app (g := f.take (j + 1)) (l := f.drop (j + 1)) (j := j) (by rw [List.take_append_drop]; exact L) (by rw [List.length_take]; omega)
  rw [List.take_append_drop] at e
  have o := V.kinds j f[j] (List.getElem?_eq_getElem hj)
  rw [← kd_at (List.getElem?_eq_getElem hj)] at o
  rw [(kindB_iff j _).mpr o, Bool.true_and, ← e]
  exact sound_true L (V.2.2.2.2 j hj)
theorem famBad_none {f : Fam} : famBad f = none ↔ Valid f := by
  unfold famBad
  refine ⟨fun h => ?_, fun V => ?_⟩
  · split at h
    · cases h
    · split at h
      · cases h
      · refine fam_good (by omega) (by omega) fun j hj => ?_
        have := List.find?_eq_none.mp h j (List.mem_range.mpr hj)
        simpa using this
  · rw [if_neg (by have := V.2.1; omega), if_neg (by have := V.1; omega)]
    refine List.find?_eq_none.mpr fun j hj => ?_
    rw [valid_good V (List.mem_range.mp hj)]
    decide
/-- the first of a range -/
theorem find_range {n i : Nat} {p : Nat → Bool} (hi : i < n) (h : p i = true) (hb : ∀ j, j < i → p j = false) : (List.range n).find? p = some i := by
  rw [List.find?_eq_some_iff_getElem]
  exact ⟨h, i, by rw [List.length_range]; exact hi, List.getElem_range _, fun j hj => by rw [List.getElem_range]; rw [hb j hj]; rfl⟩
theorem famBad_at {f : Fam} {i : Nat} (f7 : f.length ≤ 7) (hi : i < f.length) (hb : goodK f i = false) (h : ∀ j, j < i → goodK f j = true) : famBad f = some i := by
  unfold famBad
  rw [if_neg (by omega), if_neg (by omega)]
  exact find_range hi (by rw [hb]; rfl) fun j hj => by rw [h j hj]; rfl
theorem kdeP {f : Fam} {i : Nat} (K : Kinds (f.take i)) (hi : i ≤ f.length) (i7 : i ≤ 7) (k : Int) : (kd (f.take i) k).el.length ≤ 3 := kd_few (fun k hk => by
  obtain ⟨j, hj⟩ := List.mem_iff_getElem?.mp hk
  exact (K j k hj).few) k
section
variable {P : Program} {w : World} {K : PySem.W.Frag} {mg : Str → Option Value} {base : Heap}
def spNfX (CB : Addr) : Sp := fun vs H Q E => ∃ f : Fam, DA H vs [encF f] ∧ f.length ≤ 10000 ∧ ((famBad f = none ∧ ∀ H', Ex H H' → Q .non H') ∨ ∃ n, famBad f = some n ∧ RaisesN CB "number" n H E)
theorem ok_nfX {CB : Addr} (B : Bt mg) (N : ErrN P w K mg base "BadFamily" "number" CB) (m7 : ∃ t, mg "MOST_KINDS" = some (.int 7 t)) (d : Df K mg "need_family" s_need_family ["family"]) (cK : Cl P w K mg base "is_kind" ["kind", "number"] 4 (spD R_is_kindX)) (cS : Cl P w K mg base "is_sound" ["family", "kind"] 20 (spD R_is_sound)) :
    ClX P w K mg base "need_family" ["family"] 21 (spNfX CB) := by
  obtain ⟨t7, m7⟩ := m7
  refine d.okX sc_need_family (fun vs H Q E h => by obtain ⟨_, h, _⟩ := h; exact h.len) (fun fa cdv A outer s H vs Q E hr h => ?_)
  obtain ⟨f, hv, fz, q⟩ := h
  obtain ⟨x, rfl, hx⟩ := hv.args1
  refine ⟨_, pss_cons (ps_if (pt_cmpR op_gt (pe_callB call_len rfl B.len PySem.boot_len (pa_cons (pv 0) pa_nil)) (pe_glob (v := .int 7) rfl m7 ⟨_, rfl⟩) (nomark _)) (pss_one (ps_raise rfl (takes_of rfl rfl rfl rfl) (pmk_num N hr (by omega) (pa_cons (pe_glob (v := .int 7) rfl m7 ⟨_, rfl⟩) pa_nil)))) pss_nil)
    (pss_cons (ps_if (pt_cmpR op_eq (pe_callB call_len rfl B.len PySem.boot_len (pa_cons (pv 0) pa_nil)) pe_int (nomark _)) (pss_one (ps_raise rfl (takes_of rfl rfl rfl rfl) (pmk_num N hr (by omega) (pa_cons pe_int pa_nil)))) pss_nil)
    (pss_one (ps_for (passes_of rfl) rfl (pi_enumT (by rfl) B.enumerate (pa_cons (pv 0) pa_nil)) (pg_tup rfl (pgs_cons (pg_name (i := 1) sc_need_family.nd rfl (.inl rfl)) (pgs_cons (pg_name (i := 2) sc_need_family.nd rfl (.inl rfl)) pgs_nil)))
      (pss_one (ps_if (PW.pt (pw_or (pt_not (pt_val (pe_cl cK (hr.mono (by decide)) (pa_cons (pv 2) (pa_cons (pv 1) pa_nil))))) (pw_or1 (pt_not (pt_val (pe_cl cS hr (pa_cons (pv 0) (pa_cons (pv 1) pa_nil)))))))) (pss_one (ps_raise rfl (takes_of rfl rfl rfl rfl) (pmk_num N hr (by omega) (pa_cons (pv 1) pa_nil)))) pss_nil))))), ?_⟩
  have hn : ED (tCB (fun xs H Q => ∃ x n, xs = [x] ∧ LenV K x H n ∧ Q (.int n) H) (tCons (tVar 0) tNil)) (start ["family", "number", "kind"] [x]) H (.int ((f.length : Nat) : Int)) := ed_is (ed_lenT (ds := f.map encK) (ed_var (i := 0) rfl hx)) (by rw [List.length_map])
  have stop : ∀ (n : Nat) (te : TE) (σ : L2.St) (H1 : Hp), famBad f = some n → n ≤ 10000 → Ex H H1 → ED te σ H1 (.int ((n : Nat) : Int)) → tMkO CB (spIni K "number") [] (tCons te tNil) σ H1 (fun cls d H' => E cls d H') := fun n te σ H1 hb hn e1 he => by
    rcases q with ⟨hb2, _⟩ | ⟨m, hb2, q⟩
    · rw [hb] at hb2; cases hb2
    · rw [hb] at hb2
      have hb2 := Option.some.inj hb2
      subst hb2
      refine mk_num N.T N.no ?_ (eas1 he) fun d H' e hd => q d H' (e1.trans e) hd
      rw [Int.natAbs_natCast]
      rcases Nat.eq_zero_or_pos n with z | z
      · rw [z]; decide
      · exact Nat.lt_of_lt_of_le ((Nat.log2_lt (by omega)).mpr (show n < 2 ^ 20 by omega)) (by decide)
  by_cases h7 : 7 < f.length
  · refine sd_if (b := true) (et_D (ed_is (ed_I0 (d := .bool (decide (7 < ((f.length : Nat) : Int)))) hn (ed_ci 7) fun H => .bl _) (by rw [decide_eq_true (by omega)]))) (fun _ H1 e1 => ?_) (fun z => nomatch z)
    exact stop 7 _ _ H1 (by unfold famBad; rw [if_pos h7]) (by decide) e1 (ed_ci 7)
  refine sd_if (b := false) (et_D (ed_is (ed_I0 (d := .bool (decide (7 < ((f.length : Nat) : Int)))) hn (ed_ci 7) fun H => .bl _) (by rw [decide_eq_false (by omega)]))) (fun z => nomatch z) fun _ H1 e1 => ?_
  refine st_next ?_
  dsimp only
  by_cases h0 : f.length = 0
  · refine sd_if (b := true) (et_D (ed_is (ed_eqI (hn.mono e1) (ed_ci 0)) (by rw [decide_eq_true (by omega)]))) (fun _ H2 e2 => ?_) (fun z => nomatch z)
    exact stop 0 _ _ H2 (by unfold famBad; rw [if_neg h7, if_pos h0]) (by decide) (e1.trans e2) (ed_ci 0)
  refine sd_if (b := false) (et_D (ed_is (ed_eqI (hn.mono e1) (ed_ci 0)) (by rw [decide_eq_false (by omega)]))) (fun z => nomatch z) fun _ H2 e2 => ?_
  refine st_next ?_
  dsimp only
  have hx2 := (hx.mono e1).mono e2
  obtain ⟨a, xs, rfl, ha, hd⟩ := hx2.toTup
  have xl : xs.length = f.length := by rw [hd.len, List.length_map]
  refine ⟨.ref a, rfl, a, xs, rfl, SqT.of ha, for_enumT (K := K) (a := a) (xs := xs) (fun i σ H' => (∃ u1 u2, σ = [some (.ref a), u1, u2]) ∧ Ex H2 H' ∧ ∀ j, j < i → goodK f j = true) ⟨⟨_, _, rfl⟩, Ex.refl _, fun j z => absurd z (Nat.not_lt_zero _)⟩ (fun i σ H' _ ⟨_, e, _⟩ => SqT.of (e _ _ ha)) (fun i y T σ H' hi ⟨⟨u1, u2, es⟩, e3, all_⟩ nT => ?_) (fun σ H' ⟨_, e3, all_⟩ => ?_)⟩
  · subst es
    obtain ⟨dd, hd1, hy⟩ := hd.get2 hi
    obtain ⟨k, h1, h2⟩ : ∃ k, f[i]? = some k ∧ dd = encK k := by
      rw [List.getElem?_map] at hd1
      cases z : f[i]? with
      | none => rw [z] at hd1; cases hd1
      | some k => rw [z] at hd1; exact ⟨k, rfl, (Option.some.inj hd1).symm⟩
    subst h2
    have il : i < f.length := (List.getElem?_eq_some_iff.mp h1).1
    have ek := kd_at h1
    have e4 : Ex H' (upd H' T (.tup [.int (i : Nat), y])) := Ex.new nT
    have hy4 := (hy.mono e3).mono e4
    have hf4 : D (upd H' T (.tup [.int (i : Nat), y])) (.ref a) (encF (f.take (i + 1) ++ f.drop (i + 1))) := by
      rw [List.take_append_drop]; exact (hx2.mono e3).mono e4
    have kall : ∀ j, j < i → kindB j (kd f j) = true := fun j hj => by
      have := all_ j hj
      unfold goodK at this
      rw [Bool.and_eq_true] at this
      exact this.1
    refine ⟨T, [.int (i : Nat), y], rfl, SqT.of upd_same, rfl, .int (i : Nat), [y], rfl, y, [], rfl, rfl, ?_⟩
    have tst : EvT (tOr (tNot (tB (tCall (spD R_is_kindX) [] E0 (tCons (tVar 2) (tCons (tVar 1) tNil))))) (tNot (tB (tCall (spD R_is_sound) [] E0 (tCons (tVar 0) (tCons (tVar 1) tNil)))))) [some (.ref a), some (.int (i : Nat)), some y] (upd H' T (.tup [.int (i : Nat), y])) (!goodK f i) := by
      have t1 : EvT (tNot (tB (tCall (spD R_is_kindX) [] E0 (tCons (tVar 2) (tCons (tVar 1) tNil))))) [some (.ref a), some (.int (i : Nat)), some y] (upd H' T (.tup [.int (i : Nat), y])) (!kindB i k) := et_not (et_DB (ed_call (eas2 (ed_var (i := 2) rfl hy4) (ed_var (i := 1) rfl (.int _))) ⟨k, i, rfl, rfl⟩))
      by_cases hk : kindB i k = true
      · have KT : Kinds (f.take (i + 1)) := kinds_take (by omega) fun j hj => by
          rcases Nat.lt_succ_iff_lt_or_eq.mp hj with z | z
          · exact kall j z
          · subst z; rw [ek]; exact hk
        have lt : (f.take (i + 1)).length = i + 1 := by rw [List.length_take]; omega
        refine et_is (et_or (a := !kindB i k) (b := !soundB (f.take (i + 1)) i) t1 fun _ => et_not (et_DB (ed_call (eas2 (ed_var (i := 0) rfl hf4) (ed_var (i := 1) rfl (.int _))) ⟨f.take (i + 1), f.drop (i + 1), (i : Int), rfl, KT, by omega, by omega, by omega, lm_small (kinds_low KT) (kdeP KT (by omega) (by omega)) (by omega) (by omega), rfl⟩))) ?_
        unfold goodK
        rw [ek, Bool.not_and]
      · rw [Bool.not_eq_true] at hk
        refine et_is (et_or (a := !kindB i k) (b := true) t1 fun z => by rw [hk] at z; cases z) ?_
        unfold goodK
        rw [ek, hk]; rfl
    refine sd_if (b := !goodK f i) tst (fun hb H5 e5 => ?_) fun hb H5 e5 => ?_
    · have hb' : goodK f i = false := by simpa using hb
      exact stop i _ _ H5 (famBad_at (by omega) il hb' all_) (by omega) ((((e1.trans e2).trans e3).trans e4).trans e5) (ed_var (i := 1) rfl (.int _))
    · have hb' : goodK f i = true := by simpa using hb
      refine ⟨⟨_, _, rfl⟩, (e3.trans e4).trans e5, fun j hj => ?_⟩
      rcases Nat.lt_succ_iff_lt_or_eq.mp hj with z | z
      · exact all_ j z
      · subst z; exact hb'
  · have hv : famBad f = none := famBad_none.mpr (fam_good (by omega) (by omega) fun j hj => all_ j (by omega))
    rcases q with ⟨_, q⟩ | ⟨n, hb, _⟩
    · exact q H' ((e1.trans e2).trans e3)
    · rw [hv] at hb; cases hb
end
end KS
end
noncomputable section
namespace KS
open PySem PySem.Spec PyProof.Rows L2 Evl
open RZ (tLenSetI pe_lenSetI)
section
variable {K : PySem.W.Frag} {σ : L2.St} {H H' : Hp} {ta tb tc te : TE} {tt : TT} {d d1 d2 : PyData} {ds es : List PyData}
theorem ed_famKX {b : Bool} {f t : Fam} {k : Int} (ha : ED ta σ H (famD b (f ++ t))) (hb : ED tb σ H (.int k)) (k0 : 0 ≤ k) (k1 : k < f.length) : ED (tOp (rIx K) ta tb) σ H (encK (kd f k)) := by
  have := ed_famK (K := K) ha hb k0 (by rw [List.length_append]; omega)
  rwa [kd_append k0 k1] at this
theorem ed_kdeedsX {tf tk : TE} {b : Bool} {f t : Fam} {k : Int} (h1 : ED tf σ H (famD b (f ++ t))) (h2 : ED tk σ H (.int k)) (k0 : 0 ≤ k) (k1 : k < f.length) : ED (tOp (rIxT K) (tOp (rIx K) tf tk) (tC (.int 1))) σ H (.str (kd f k).de) := by
  have := ed_kdeeds (K := K) h1 h2 k0 (by rw [List.length_append]; omega)
  rwa [kd_append k0 k1] at this
end
def R_lmetX (n : Nat) : List PyData → List PyData → Prop := fun ds es => ∃ (f t : Fam) (b : Bool) (p : Part), ds = [famD b (f ++ t), encP p] ∧ Els f ∧ p ≠ [] ∧ 0 ≤ lastP p ∧ lastP p < f.length ∧ lastP p < n ∧ p.length + n ≤ 1000 ∧ (lm n f p).length ≤ 10000 ∧ es = (lm n f p).map encP
theorem lmet_okX {f t : Fam} (h : Half f) {b : Bool} {p : Part} (o : PartOk f p) : R_lmetX NN [famD b (f ++ t), encP p] ((lm NN f p).map encP) :=
  ⟨f, t, b, p, rfl, h.els, o.1, o.2.1, o.2.2.1, by show lastP p < (16 : Int); have := h.few; have := o.2.2.1; omega, by have := o.2.2.2.1; show p.length + 16 ≤ 1000; omega, o.2.2.2.2, rfl⟩
def R_ldoerX : List PyData → PyData → Prop := fun ds d => ∃ (f t : Fam) (b : Bool) (k : Int) (c : Nat), ds = [famD b (f ++ t), .int k, .str (Froz.sing c)] ∧ Half f ∧ 0 ≤ k ∧ k < f.length ∧ (lm NN f [k]).length ≤ 100 ∧ d = optP (ldoer NN f (doing f c (lm NN f [k])))
def R_lknowsX : List PyData → List PyData → Prop := fun ds es => ∃ (f t : Fam) (b : Bool) (k : Int), ds = [famD b (f ++ t), .int k] ∧ Half f ∧ 0 ≤ k ∧ k < f.length ∧ (lm NN f [k]).length ≤ 100 ∧ es = ((known f (lm NN f [k])).map Froz.sing).map PyData.str
theorem lmet_back (n : Nat) : ∀ vs H Q E, spL (R_lmet n) vs H Q E → spL (R_lmetX n) vs H Q E := fun vs H Q E ⟨ds, es, hv, ⟨f, b, p, e, r⟩, q⟩ => ⟨ds, es, hv, ⟨f, [], b, p, by rw [List.append_nil]; exact e, r⟩, q⟩
theorem ldoer_back : ∀ vs H Q E, spD R_ldoer vs H Q E → spD R_ldoerX vs H Q E := fun vs H Q E ⟨ds, es, hv, ⟨f, b, k, c, e, r⟩, q⟩ => ⟨ds, es, hv, ⟨f, [], b, k, c, by rw [List.append_nil]; exact e, r⟩, q⟩
theorem lknows_back : ∀ vs H Q E, spL R_lknows vs H Q E → spL R_lknowsX vs H Q E := fun vs H Q E ⟨ds, es, hv, ⟨f, b, k, e, r⟩, q⟩ => ⟨ds, es, hv, ⟨f, [], b, k, by rw [List.append_nil]; exact e, r⟩, q⟩
section
variable {P : Program} {w : World} {K : PySem.W.Frag} {mg : Str → Option Value} {base : Heap}
theorem lmet_stepX {n : Nat} (d : Df K mg "_law_met" s_law_met ["_law_f", "_law_part"]) (G : Cl P w K mg base "_law_met" ["_law_f", "_law_part"] (n + 1) (spL (R_lmetX n))) : Cl P w K mg base "_law_met" ["_law_f", "_law_part"] (n + 2) (spL (R_lmetX (n + 1))) := by
  refine d.ok sc_lmet (spL_len (by rintro _ _ ⟨_, _, _, _, rfl, _⟩; rfl)) (fun fa cdv A outer s H vs Q E hr h => ?_)
  obtain ⟨ds, ee, hv, ⟨f, t, b, p, rfl, EF, pne, p0, p1, pn, pz, mz, rfl⟩, q⟩ := h
  obtain ⟨u, v, rfl, hu, hv⟩ := hv.args2
  refine ⟨_, pss_cons (ps_set (i := 2) sc_lmet.nd rfl (.inl rfl) (pe_lst (pa_cons (pv 1) pa_nil)))
    (pss_cons (ps_for PassesOwn.never rfl (pi_tup (pe_ix ix_tup (pe_ix ix_seq (pv 0) (pe_ix ix_tup (pv 1) (pe_un un_neg pe_int) (fun _ _ => rfl)) (fun _ _ => rfl)) pe_int (fun _ _ => rfl)))
        (pg_tup rfl (pgs_cons (pg_name (i := 3) sc_lmet.nd rfl (.inl rfl)) (pgs_cons (pg_name (i := 4) sc_lmet.nd rfl (.inl rfl)) pgs_nil)))
      (pss_one (ps_for PassesOwn.never rfl (pi_list (pe_cl G hr (pa_cons (pv 0) (pa_cons (pe_ifExp (pt_cmpR op_eq (pv 4) pe_int (nomark _)) (pe_tup (pa_cons (pv 3) pa_nil)) (pe_op op_catA (pv 1) (pe_tup (pa_cons (pv 3) pa_nil)))) pa_nil)))) (pg_name (i := 5) sc_lmet.nd rfl (.inl rfl))
        (pss_one (ps_if (pt_cmpR (op_notInD (hu64 hr)) (pv 5) (pv 2) rfl) (pss_one (ps_expr (pe_bm PySem.F.plainAttrs_list PySem.F.slot_list_append PySem.F.type_list_append mt_append (pv 2) (pa_cons (pv 5) pa_nil)))) pss_nil)))))
    (pss_one (ps_ret (pv 2)))), ?_⟩
  have L := els_low EF
  have le : lm (n + 1) f p = (kids f p).foldl (fun a c => dd a (lm n f c)) [p] := rfl
  refine sl_asg (ds := [encP p]) (el_lst' (eas1 (ed_var (i := 1) rfl hv)) (by show 1 ≤ 100000; decide)) fun l xs H1 nl e1 hl ha => ?_
  have t1 : ED (tOp (rIxT K) (tOp (rIx K) (tVar 0) (tOp (rIxT K) (tVar 1) (tUn (rU fun i => .int (-i)) (tC (.int 1))))) (tC (.int 0))) [some u, some v, some (.ref l), none, none, none] H1 (.tuple ((kd f (lastP p)).el.map encE)) :=
    ed_ixT (ed_famKX (ed_var (i := 0) rfl (hu.mono e1)) (ed_last (ed_var (i := 1) rfl (hv.mono e1)) pne) p0 p1) (ed_ci 0) rfl
  refine t1 H1 (Ex.refl _) _ fun x2 H2 e2 hx2 => ?_
  obtain ⟨a, es, rfl, haT, he⟩ := hx2.toTup
  have el : es.length = (kd f (lastP p)).el.length := by rw [he.len, List.length_map]
  have kel : ∀ e ∈ (kd f (lastP p)).el, 0 ≤ e.1 ∧ e.1 < (lastP p).toNat ∧ (e.2 = 0 ∨ e.2 = 1) := by
    refine EF (lastP p).toNat (kd f (lastP p)) ?_
    unfold kd
    rw [List.getD_eq_getElem?_getD, List.getElem?_eq_getElem (by omega)]; rfl
  refine ⟨a, rfl, ⟨es, SqT.of haT⟩, for_tup (K := K) (a := a) (xs := es) (fun i σ H' => (∃ y3 y4 y5, σ = [some u, some v, some (.ref l), y3, y4, y5]) ∧ Ex H H' ∧ Tu H2 H' ∧ ∃ acc, H' l = some (.lst acc) ∧ DA H' acc ((((kids f p).take i).foldl (fun a c => dd a (lm n f c)) [p]).map encP))
    ⟨⟨_, _, _, rfl⟩, e1.trans e2, Tu.refl _, xs, e2 _ _ hl, ha.mono e2⟩ (fun i σ H' _ ⟨_, _, tu, _⟩ => SqT.of (tu _ _ haT)) (fun i x σ H' hi ⟨⟨y3, y4, y5, es'⟩, eH, tu, acc, lx, ax⟩ => ?_) (fun σ H' ⟨⟨y3, y4, y5, es'⟩, eH, tu, acc, lx, ax⟩ => ?_)⟩
  · subst es'
    obtain ⟨du, hd, hxd⟩ := he.get2 hi
    obtain ⟨ee, h1, h2⟩ : ∃ ee, (kd f (lastP p)).el[i]? = some ee ∧ du = encE ee := by
      rw [List.getElem?_map] at hd
      cases k : (kd f (lastP p)).el[i]? with
      | none => rw [k] at hd; cases hd
      | some a => rw [k] at hd; exact ⟨a, rfl, (Option.some.inj hd).symm⟩
    subst h2
    have em := kel ee (List.mem_of_getElem? h1)
    have kc : (kids f p)[i]? = some (ep p ee) := by unfold kids; rw [List.getElem?_map, h1]; rfl
    have cm : ep p ee ∈ kids f p := List.mem_of_getElem? kc
    have step : ((kids f p).take (i + 1)).foldl (fun a c => dd a (lm n f c)) [p] = dd (((kids f p).take i).foldl (fun a c => dd a (lm n f c)) [p]) (lm n f (ep p ee)) := by
      rw [List.take_add_one, kc, List.foldl_append]; rfl
    have hx4 := hxd.keep tu (flat_E ee)
    refine g_pair (d1 := .int ee.1) (d2 := .int ee.2) hx4 fun v1 v2 w1 w2 => ?_
    have z1 := w1.toInt
    have z2 := w2.toInt
    subst z1 z2
    have hu4 := hu.mono eH
    have hv4 := hv.mono eH
    have clen : (lm n f (ep p ee)).length ≤ 10000 := by
      refine Nat.le_trans (nodup_len (lm_nodup n f (ep p ee)) (k := lm (n + 1) f p) fun y hy => mem_lm.mpr (.inr ⟨_, cm, hy⟩)) mz
    have plen : (ep p ee).length ≤ p.length + 1 := by
      unfold ep
      split <;> simp
    have hc : ED (tIf (tTest (tOp rEq (tVar 4) (tC (.int 1)))) (tTup (tCons (tVar 3) tNil)) (tOp (rCatA K) (tVar 1) (tTup (tCons (tVar 3) tNil)))) [some u, some v, some (.ref l), some (.int ee.1), some (.int ee.2), y5] H' (encP (ep p ee)) := by
      refine ed_if (b := decide (ee.2 = 1)) (et_D (ed_eqI (ed_var (i := 4) rfl (.int _)) (ed_ci 1))) (fun hb => ?_) (fun hb => ?_)
      · have e := of_decide_eq_true hb
        have ne : ¬ ee.2 = 0 := by omega
        have e3 : ep p ee = [ee.1] := if_neg ne
        rw [e3]
        exact ed_tup (ds := [.int ee.1]) (eas1 (ed_var (i := 3) rfl (.int _))) (by show 1 ≤ 100000; decide)
      · have ne := of_decide_eq_false hb
        have e : ee.2 = 0 := by
          rcases em.2.2 with h | h
          · exact h
          · exact absurd h ne
        have e3 : encP (ep p ee) = .tuple (p.map PyData.int ++ [.int ee.1]) := by
          have : ep p ee = p ++ [ee.1] := if_pos e
          rw [this]
          unfold encP
          rw [List.map_append]; rfl
        rw [e3]
        exact ed_catT (ds := p.map PyData.int) (es := [.int ee.1]) (ed_var (i := 1) rfl hv4) (ed_tup (eas1 (ed_var (i := 3) rfl (.int _))) (by show 1 ≤ 100000; decide)) (by rw [List.length_map]; show p.length + 1 ≤ 100000; omega)
    refine (el_call' (R := R_lmetX n) (E := E0) (eas2 (ed_var (σ := [some u, some v, some (.ref l), some (.int ee.1), some (.int ee.2), y5]) (i := 0) rfl hu4) hc) ⟨f, t, b, ep p ee, rfl, EF, ep_ne _ _, by rw [lastP_ep]; omega, by rw [lastP_ep]; omega, by rw [lastP_ep]; omega, by omega, clen, rfl⟩) H' (Ex.refl _) _ fun r xs3 H3 nr e3 hr3 ha3 => ?_
    have lx3 := e3 _ _ lx
    have x3l : xs3.length = (lm n f (ep p ee)).length := by rw [ha3.len, List.length_map]
    have mlen : ∀ j, (dd (((kids f p).take i).foldl (fun a c => dd a (lm n f c)) [p]) ((lm n f (ep p ee)).take j)).length ≤ 10000 := fun j => by
      refine Nat.le_trans (dd_take _ _ _) ?_
      rw [← step]
      exact Nat.le_trans (foldd_take (fun c => lm n f c) (kids f p) [p] (i + 1)) (by rw [← le]; exact mz)
    refine ⟨r, rfl, ⟨xs3, SqL.of hr3⟩, for_list (K := K) (a := r) (xs := xs3) (fun j σ H' => (∃ y5, σ = [some u, some v, some (.ref l), some (.int ee.1), some (.int ee.2), y5]) ∧ But l H3 H' ∧ ∃ acc, H' l = some (.lst acc) ∧ DA H' acc ((dd (((kids f p).take i).foldl (fun a c => dd a (lm n f c)) [p]) ((lm n f (ep p ee)).take j)).map encP))
      ⟨⟨_, rfl⟩, But.refl _ _, acc, lx3, ax.mono e3⟩ (fun j σ H5 _ ⟨_, bt, _⟩ => SqL.of (bt _ _ (ne_of_none lx nr).symm hr3)) (fun j x5 σ H5 hj ⟨⟨y6, es6⟩, bt, acc5, l5, a5⟩ => ?_) (fun σ H5 ⟨⟨y6, es6⟩, bt, acc5, l5, a5⟩ => ?_)⟩
    · subst es6
      obtain ⟨dw, hd5, hx5⟩ := ha3.get2 hj
      obtain ⟨qq, g1, g2⟩ : ∃ qq, (lm n f (ep p ee))[j]? = some qq ∧ dw = encP qq := by
        rw [List.getElem?_map] at hd5
        cases k : (lm n f (ep p ee))[j]? with
        | none => rw [k] at hd5; cases hd5
        | some a => rw [k] at hd5; exact ⟨a, rfl, (Option.some.inj hd5).symm⟩
      subst g2
      have hx6 := hx5.keep (bt.tu lx3) (flat_P qq)
      have dl5 : D H5 (.ref l) (.list ((dd (((kids f p).take i).foldl (fun a c => dd a (lm n f c)) [p]) ((lm n f (ep p ee)).take j)).map encP)) := .lst l5 a5
      have st2 : dd (((kids f p).take i).foldl (fun a c => dd a (lm n f c)) [p]) ((lm n f (ep p ee)).take (j + 1)) = ins (dd (((kids f p).take i).foldl (fun a c => dd a (lm n f c)) [p]) ((lm n f (ep p ee)).take j)) qq := by
        rw [List.take_add_one, g1, dd_append]; rfl
      have tst := ed_notInD (K := K) (σ := [some u, some v, some (.ref l), some (.int ee.1), some (.int ee.2), some x5]) (ed_var (i := 5) rfl hx6) (ed_var (i := 2) rfl dl5) (encP_shaped qq) (encPs_shaped _)
      rw [any_encP] at tst
      have ml := mlen j
      refine sd_if (et_D tst) (fun hb H6 e6 => ?_) (fun hb H6 e6 => ?_)
      · have nm : ¬ qq ∈ dd (((kids f p).take i).foldl (fun a c => dd a (lm n f c)) [p]) ((lm n f (ep p ee)).take j) := by simpa using hb
        refine ⟨_, rfl, .inl ⟨rfl, _, SqL.of (e6 _ _ l5)⟩, _, rfl, l, acc5, x5, rfl, rfl, e6 _ _ l5, sz_lt (by rw [a5.len, List.length_map]; omega), ⟨_, rfl⟩, (bt.trans (But.ex e6)).trans But.upd, _, upd_same, ?_⟩
        rw [st2, ins_of_not nm, List.map_append]
        have tk := tu_upd (ys := acc5 ++ [x5]) (e6 _ _ l5)
        exact ((a5.mono e6).keep tk (flat_Ps _)).append (.one ((hx6.mono e6).keep tk (flat_P qq)))
      · have nm : qq ∈ dd (((kids f p).take i).foldl (fun a c => dd a (lm n f c)) [p]) ((lm n f (ep p ee)).take j) := by simpa using hb
        refine ⟨⟨_, rfl⟩, bt.trans (But.ex e6), acc5, e6 _ _ l5, ?_⟩
        rw [st2, ins_of_mem nm]
        exact a5.mono e6
    · subst es6
      rw [x3l, List.take_length, ← step] at a5
      refine ⟨⟨_, _, _, rfl⟩, fun c o hc => bt c o (ne_of_none hc nl) (e3 _ _ (eH _ _ hc)), (tu.trans (tu_ex e3)).trans (bt.tu lx3), acc5, l5, a5⟩
  · subst es'
    rw [el] at ax
    have ek : (kids f p).take (kd f (lastP p)).el.length = kids f p := List.take_of_length_le (by unfold kids; rw [List.length_map]; exact Nat.le_refl _)
    rw [ek, ← le] at ax
    exact ⟨_, rfl, q l acc H' nl eH lx ax⟩
theorem ok_lmetX (d : Df K mg "_law_met" s_law_met ["_law_f", "_law_part"]) : ∀ n : Nat, Cl P w K mg base "_law_met" ["_law_f", "_law_part"] (n + 1) (spL (R_lmetX n))
  | 0 => Cl.never d fun vs H Q E h => by
    obtain ⟨_, _, _, ⟨_, _, _, _, _, _, h0, _, h1, _⟩, _⟩ := h
    omega
  | n + 1 => lmet_stepX d (ok_lmetX d n)
theorem ok_ldoerX (B : Bt mg) (d : Df K mg "_law_doer" s_law_doer ["_law_f", "_law_kind_here", "_law_deed"]) (cM : Cl P w K mg base "_law_met" ["_law_f", "_law_part"] 17 (spL (R_lmetX NN))) : Cl P w K mg base "_law_doer" ["_law_f", "_law_kind_here", "_law_deed"] 18 (spD R_ldoerX) := by
  refine d.ok sc_ldoer (spD_len (by rintro _ _ ⟨_, _, _, _, _, rfl, _⟩; rfl)) (fun fa cdv A outer s H vs Q E hr h => ?_)
  obtain ⟨ds, ee, hv, ⟨f, t, b, k, c, rfl, HF, k0, k1, sz, rfl⟩, q⟩ := h
  obtain ⟨x, y, z, rfl, hx, hy, hz⟩ := hv.args3
  refine ⟨_, pss_cons (ps_setLc (i := 3) (own := [("_law_part", 4)]) (g := gName 4) rfl sc_ldoer.nd rfl rfl (sw_true rfl rfl rfl (by decide +kernel)) (pi_list (pe_cl cM hr (pa_cons (pv 0) (pa_cons (pe_tup (pa_cons (pv 1) pa_nil)) pa_nil)))) (blkOk_by (N := N_ldoer) (sc := defScope s_law_doer) (by decide +kernel))
      (fun _ _ _ _ _ => pg_name (i := 4) sc_ldoer.nd rfl (.inl rfl)) (fun _ _ _ _ _ => by exact pts_one (pt_cmpR op_inS (pv 2) (by exact pe_ix (r := rIxT K) ix_tup (pe_ix (r := rIx K) ix_seq (pv 0) (pe_ix (r := rIxT K) ix_tup (pv 4) (pe_un un_neg pe_int) (fun _ _ => rfl)) (fun _ _ => rfl)) pe_int (fun _ _ => rfl)) rfl)) (fun _ _ _ _ _ => pv 4))
    (pss_cons (ps_set (i := 5) sc_ldoer.nd rfl (.inr rfl) (pe_lst pa_nil))
    (pss_cons (ps_for PassesOwn.never rfl (pi_list (pv 3)) (pg_name (i := 4) sc_ldoer.nd rfl (.inl rfl))
      (pss_one (ps_expr (pe_bm PySem.F.plainAttrs_list PySem.F.slot_list_extend PySem.F.type_list_extend mt_extend (pv 5) (pa_cons (pe_slice sl_list (pe_cl cM hr (pa_cons (pv 0) (pa_cons (pv 4) pa_nil))) (po_some pe_int) po_none) pa_nil)))))
    (pss_cons (ps_setLc (i := 6) (own := [("_law_part", 4)]) (g := gName 4) rfl sc_ldoer.nd rfl rfl (sw_true rfl rfl rfl (by decide +kernel)) (pi_list (pv 3)) (blkOk_by (N := N_ldoer) (sc := defScope s_law_doer) (by decide +kernel))
      (fun _ _ _ _ _ => pg_name (i := 4) sc_ldoer.nd rfl (.inl rfl)) (fun _ _ _ _ _ => by exact pts_one (pt_cmpR (r := rNotInD K) (op_notInD (hu64 hr)) (pv 4) (pv 5) rfl)) (fun _ _ _ _ _ => pv 4))
    (pss_one (ps_ret (pe_ifExp (pt_cmpR op_eq (pe_callB call_len rfl B.len PySem.boot_len (pa_cons (pv 6) pa_nil)) pe_int (nomark _)) (pe_ix ix_list (pv 6) pe_int (fun _ _ => rfl)) pe_non)))))), ?_⟩
  have L := els_low HF.els
  have sz' : (lm NN f [k]).length ≤ 10000 := by omega
  have pk := HF.part k0 k1 sz' (root_in f k)
  have dz : (doing f c (lm NN f [k])).length ≤ (lm NN f [k]).length := List.length_filter_le _ _
  have dm : ∀ p ∈ doing f c (lm NN f [k]), p ∈ lm NN f [k] := fun p hp => (List.mem_filter.mp hp).1
  refine sl_asg (ds := (doing f c (lm NN f [k])).map encP) ?_ fun p xs H1 np e1 hp ha => ?_
  · refine el_lcL (as := lm NN f [k]) (enc := encP) (does f c) encP (EL.ed (el_call' (eas2 (ed_var (i := 0) rfl hx) (ed_tup (ds := [.int k]) (eas1 (ed_var (i := 1) rfl hy)) (by show 1 ≤ 100000; decide))) (lmet_okX HF pk))) (by omega) (fun a _ _ => flat_P a) (fun a _ => flat_P a) fun a ha v H2 e2 hv => ?_
    have pa := HF.part k0 k1 sz' ha
    refine ⟨[some x, some y, some z, none, some v, none, none], rfl, fun _ _ R h => h, ?_, fun _ => ed_var (i := 4) rfl hv⟩
    exact et_D (ed_inS (ed_var (i := 2) rfl (hz.mono e2)) (ed_kdeedsX (ed_var (i := 0) rfl (hx.mono e2)) (ed_last (ed_var (i := 4) rfl hv) pa.1) pa.2.1 pa.2.2.1))
  · have ds1 : D H1 (.ref p) (.list ((doing f c (lm NN f [k])).map encP)) := .lst hp ha
    refine sl_asg (ds := []) (el_lst' eas_nil (by decide)) fun l xl H2 nl e2 hl al => ?_
    have xn : xs.length = (doing f c (lm NN f [k])).length := by rw [ha.len, List.length_map]
    have hp2 := e2 _ _ hp
    have npl : p ≠ l := ne_of_none hp nl
    refine ⟨.ref p, rfl, p, rfl, ⟨xs, SqL.of hp2⟩, for_list (K := K) (a := p) (xs := xs) (fun i σ H' => (∃ y4, σ = [some x, some y, some z, some (.ref p), y4, some (.ref l), none]) ∧ Ex H1 H' ∧ ∃ acc, H' l = some (.lst acc) ∧ DA H' acc ((hidden NN f ((doing f c (lm NN f [k])).take i)).map encP))
      ⟨⟨_, rfl⟩, e2, xl, hl, al⟩ (fun i σ H' _ ⟨_, e, _⟩ => SqL.of (e _ _ hp)) (fun i v σ H' hi ⟨⟨y4, es⟩, e3, acc, lx, ax⟩ => ?_) (fun σ H' ⟨⟨y4, es⟩, e3, acc, lx, ax⟩ => ?_)⟩
    · subst es
      obtain ⟨du, hd, hv⟩ := ha.get2 hi
      obtain ⟨a, h1, h2⟩ : ∃ a, (doing f c (lm NN f [k]))[i]? = some a ∧ du = encP a := by
        rw [List.getElem?_map] at hd
        cases k : (doing f c (lm NN f [k]))[i]? with
        | none => rw [k] at hd; cases hd
        | some a => rw [k] at hd; exact ⟨a, rfl, (Option.some.inj hd).symm⟩
      subst h2
      have am := dm a (List.mem_of_getElem? h1)
      have pa := HF.part k0 k1 sz' am
      have la : (lm NN f a).length ≤ 100 := by
        have sub : ∀ y ∈ lm NN f a, y ∈ lm NN f [k] := fun y hy => lm_trans L NN (by show lastP [k] < (16 : Int); rw [lastP_one]; have := HF.few; omega) am hy
        have := nodup_len (lm_nodup NN f a) sub
        omega
      have hl0 : ∀ j, (hidden NN f ((doing f c (lm NN f [k])).take j)).length ≤ 100 * j := fun j => by
        induction j with
        | zero => simp [hidden]
        | succ j ih =>
          cases g : (doing f c (lm NN f [k]))[j]? with
          | none =>
            have : (doing f c (lm NN f [k])).take (j + 1) = (doing f c (lm NN f [k])).take j := by rw [List.take_add_one, g]; simp
            rw [this]; omega
          | some r =>
            rw [hidden_take NN f g, List.length_append, List.length_tail]
            have rm := dm r (List.mem_of_getElem? g)
            have sub : ∀ y ∈ lm NN f r, y ∈ lm NN f [k] := fun y hy => lm_trans L NN (by show lastP [k] < (16 : Int); rw [lastP_one]; have := HF.few; omega) rm hy
            have := nodup_len (lm_nodup NN f r) sub
            omega
      have il : i < (doing f c (lm NN f [k])).length := (List.getElem?_eq_some_iff.mp h1).1
      refine ⟨.ref l, rfl, .inl ⟨rfl, _, SqL.of lx⟩, ?_⟩
      refine (el_call' (R := R_lmetX NN) (E := E0) (eas2 (ed_var (σ := [some x, some y, some z, some (.ref p), some v, some (.ref l), none]) (i := 0) rfl ((hx.mono e1).mono e3)) (ed_var (i := 4) rfl (hv.mono e3))) (lmet_okX HF pa)) H' (Ex.refl _) _ fun r xr H4 nr e4 hr4 ha4 => ?_
      refine ⟨1, rfl, r, xr, rfl, SqL.of hr4, fun p5 np5 => ?_⟩
      rw [cut1']
      have lx4 := e4 _ _ lx
      have n5 : l ≠ p5 := ne_of_none lx4 np5
      have hacc : acc.length ≤ 100 * i := by
        rw [ax.len, List.length_map]
        exact hl0 i
      have xrl : xr.length ≤ 100 := by rw [ha4.len, List.length_map]; exact la
      refine ⟨l, p5, acc, xr.tail, rfl, rfl, by rw [upd_ne n5]; exact lx4, upd_same, sz_of (by rw [List.length_tail]; omega), ?_⟩
      refine ⟨⟨_, rfl⟩, fun a' o' hc => ?_, acc ++ xr.tail, upd_same, ?_⟩
      · have hc4 := e4 _ _ (e3 _ _ hc)
        rw [upd_ne (ne_of_none hc nl), upd_ne (ne_of_none hc4 np5)]
        exact hc4
      · have tu : Tu H4 (upd (upd H4 p5 (.lst xr.tail)) l (.lst (acc ++ xr.tail))) := fun a' zs hz' => by
          rw [upd_ne (ne_of hz' lx4 (by intro z; cases z)), upd_ne (ne_of_none hz' np5)]
          exact hz'
        rw [hidden_take NN f h1, List.map_append]
        refine ((ax.mono e4).keep tu (flat_Ps _)).append ?_
        have e7 : ((lm NN f a).tail).map encP = ((lm NN f a).map encP).drop 1 := by rw [← List.map_drop, List.drop_one]
        rw [e7]
        have fd : flatTs (((lm NN f a).map encP).drop 1) = true := by rw [← List.map_drop]; exact flat_Ps _
        have t := DA.keep tu fd (ha4.drop 1)
        rw [show xr.drop 1 = xr.tail from List.drop_one] at t
        exact t
    · subst es
      rw [xn, List.take_length] at ax
      have dh : D H' (.ref l) (.list ((hidden NN f (doing f c (lm NN f [k]))).map encP)) := .lst lx ax
      have hleft : left NN f (doing f c (lm NN f [k])) = (doing f c (lm NN f [k])).filter fun p => decide (¬ p ∈ hidden NN f (doing f c (lm NN f [k]))) := rfl
      dsimp only
      refine sl_asg (ds := (left NN f (doing f c (lm NN f [k]))).map encP) ?_ fun p6 x6 H6 np6 e6 hp6 ha6 => ?_
      · refine el_lcL (as := doing f c (lm NN f [k])) (enc := encP) (fun p => decide (¬ p ∈ hidden NN f (doing f c (lm NN f [k])))) encP (ed_var (i := 3) rfl (ds1.mono e3)) (by omega) (fun a _ _ => flat_P a) (fun a _ => flat_P a) fun a ha v H7 e7 hv => ?_
        refine ⟨[some x, some y, some z, some (.ref p), some v, some (.ref l), none], rfl, fun _ _ R h => h, ?_, fun _ => ed_var (i := 4) rfl hv⟩
        have tst := ed_notInD (K := K) (σ := [some x, some y, some z, some (.ref p), some v, some (.ref l), none]) (ed_var (i := 4) rfl hv) (ed_var (i := 5) rfl (dh.mono e7)) (encP_shaped a) (encPs_shaped _)
        rw [any_encP] at tst
        exact et_D (ed_is tst (by rw [decide_not]))
      · have d6 : D H6 (.ref p6) (.list ((left NN f (doing f c (lm NN f [k]))).map encP)) := .lst hp6 ha6
        dsimp only
        refine sd_ret (d := optP (ldoer NN f (doing f c (lm NN f [k])))) ?_ fun v H8 e8 hv8 => q v H8 (((e1.trans e3).trans e6).trans e8) hv8
        refine ed_if (b := decide (((left NN f (doing f c (lm NN f [k]))).length : Int) = 1)) (et_D (ed_eqI (ed_is (ed_lenL (ed_var (i := 6) rfl d6)) (by rw [List.length_map])) (ed_ci 1))) (fun hb => ?_) (fun hb => ?_)
        · have e := of_decide_eq_true hb
          have e1' : (left NN f (doing f c (lm NN f [k]))).length = 1 := by omega
          unfold ldoer
          rw [if_pos e1']
          match g : left NN f (doing f c (lm NN f [k])), e1' with
          | [r], _ =>
            rw [g] at d6
            exact ed_ixL (ed_var (i := 6) rfl d6) (ed_ci 0) rfl
        · have e := of_decide_eq_false hb
          unfold ldoer
          rw [if_neg (by omega)]
          exact ed_cn
theorem ok_lknowsX (B : Bt mg) (d : Df K mg "_law_knows" s_law_knows ["_law_f", "_law_kind_here"]) (cM : Cl P w K mg base "_law_met" ["_law_f", "_law_part"] 17 (spL (R_lmetX NN))) : Cl P w K mg base "_law_knows" ["_law_f", "_law_kind_here"] 18 (spL R_lknowsX) := by
  refine d.ok sc_lknows (spL_len (by rintro _ _ ⟨_, _, _, _, rfl, _⟩; rfl)) (fun fa cdv A outer s H vs Q E hr h => ?_)
  obtain ⟨ds, ee, hv, ⟨f, t, b, k, rfl, HF, k0, k1, sz, rfl⟩, q⟩ := h
  obtain ⟨x, y, rfl, hx, hy⟩ := hv.args2
  refine ⟨_, pss_cons (ps_set (i := 2) sc_lknows.nd rfl (.inr rfl) (pe_lc (own := [("_law_part", 3)]) (g := gName 3) (tt := tYes) rfl sc_lknows.nd (pi_list (pe_cl cM hr (pa_cons (pv 0) (pa_cons (pe_tup (pa_cons (pv 1) pa_nil)) pa_nil)))) (blkOk_by (N := N_lknows) (sc := defScope s_law_knows) (by decide +kernel))
      (fun _ _ _ _ _ => pg_name (i := 3) sc_lknows.nd rfl (.inl rfl)) (fun _ _ _ _ _ => pts_nil) (fun _ _ _ _ _ => by exact pe_ix (r := rIxT K) ix_tup (pe_ix (r := rIx K) ix_seq (pv 0) (pe_ix (r := rIxT K) ix_tup (pv 3) (pe_un un_neg pe_int) (fun _ _ => rfl)) (fun _ _ => rfl)) pe_int (fun _ _ => rfl))))
    (pss_one (ps_ret (pe_lc (own := [("_law_letter", 4)]) (g := gName 4) rfl sc_lknows.nd (pi_str pe_str) (blkOk_by (N := N_lknows) (sc := defScope s_law_knows) (by decide +kernel))
      (fun _ _ _ _ _ => pg_name (i := 4) sc_lknows.nd rfl (.inr rfl)) (fun _ _ _ _ _ => by exact pts_one (pt_cmpR (r := rNeD K) (op_neD (Nat.lt_of_succ_lt (hu64 hr))) (by exact pe_lc (wi := iList K (tVar 2)) (own := [("_law_row", 5)]) (g := gName 5) rfl sc_lknows.nd (pi_list (pv 2)) (blkOk_by (N := N_lknows) (sc := csc [(".0", .local), ("_law_letter", .cell), ("_law_deeds", .cell)]) (by decide +kernel)) (fun _ _ _ _ _ => pg_name (i := 5) sc_lknows.nd rfl (.inl rfl)) (fun _ _ _ _ _ => by exact pts_one (pt_cmpR op_inS (pv 4) (pv 5) rfl)) (fun _ _ _ _ _ => pv 5)) (pe_lst pa_nil) (nomark _))) (fun _ _ _ _ _ => pv 4)))), ?_⟩
  have sz' : (lm NN f [k]).length ≤ 10000 := by omega
  have pk := HF.part k0 k1 sz' (root_in f k)
  refine sl_asg (ds := ((lm NN f [k]).map fun p => (kd f (lastP p)).de).map PyData.str) ?_ fun p xs H1 np e1 hp ha => ?_
  · refine el_is (el_lcL (as := lm NN f [k]) (enc := encP) (fun _ => true) (fun p => .str (kd f (lastP p)).de) (EL.ed (el_call' (eas2 (ed_var (i := 0) rfl hx) (ed_tup (ds := [.int k]) (eas1 (ed_var (i := 1) rfl hy)) (by show 1 ≤ 100000; decide))) (lmet_okX HF pk))) (by omega) (fun _ _ _ => rfl) (fun a _ => flat_P a) fun a ha v H2 e2 hv => ?_) (by rw [filt_true, List.map_map]; rfl)
    have pa := HF.part k0 k1 sz' ha
    exact ⟨[some x, some y, none, some v, none, none], rfl, fun _ _ R h => h, et_yes, fun _ => ed_kdeedsX (ed_var (i := 0) rfl (hx.mono e2)) (ed_last (ed_var (i := 3) rfl hv) pa.1) pa.2.1 pa.2.2.1⟩
  · have hd : D H1 (.ref p) (.list (((lm NN f [k]).map fun p => (kd f (lastP p)).de).map PyData.str)) := .lst hp ha
    refine sl_ret (ds := ((known f (lm NN f [k])).map Froz.sing).map PyData.str) (el_is (el_lcS (l := abc) (fun c => (lm NN f [k]).any (does f c)) (fun c => .str (Froz.sing c)) (ed_cs _) (by decide) (fun _ _ _ => rfl) fun c hc H2 e2 => ?_) (by unfold known; rw [List.map_map]; rfl)) fun p2 xs2 H2 np2 e2 hp2 ha2 => q p2 xs2 H2 (fresh_back e1 np2) (e1.trans e2) hp2 ha2
    refine ⟨[some x, some y, some (.ref p), none, some (.str ⟨#[c]⟩), none], rfl, fun _ _ R h => h, ?_, fun _ => ed_var (i := 4) rfl (.str _)⟩
    have okS : ∀ s ∈ ((lm NN f [k]).map fun p => (kd f (lastP p)).de), ∀ c ∈ s.cps.toList, c ∈ abc := fun s hs => by
      obtain ⟨p, hp, e⟩ := List.mem_map.mp hs
      subst e
      have pa := HF.part k0 k1 sz' hp
      exact HF.kdAbc pa.2.1 pa.2.2.1
    refine et_D (ed_is (ed_neD (d := .list ((((lm NN f [k]).map fun p => (kd f (lastP p)).de).filter fun s => decide (c ∈ s.cps.toList)).map PyData.str)) (d' := .list []) (EL.ed (el_lcL (as := (lm NN f [k]).map fun p => (kd f (lastP p)).de) (enc := PyData.str) (fun s => decide (c ∈ s.cps.toList)) PyData.str (ed_var (i := 2) rfl (hd.mono e2)) (by rw [List.length_map]; omega) (fun _ _ _ => rfl) (fun _ _ => rfl) fun a ha v H3 e3 hv => ?_)) (EL.ed (el_lst' (ds := []) eas_nil (by decide))) (strs_shaped fun s hs => okS s (List.mem_filter.mp hs).1) (intsL_shaped [])) ?_)
    · exact ⟨[some x, some y, some (.ref p), none, some (.str ⟨#[c]⟩), some v], rfl, fun _ _ R h => h, et_D (ed_inS (ed_var (i := 4) rfl (.str _)) (ed_var (i := 5) rfl hv)), fun _ => ed_var (i := 5) rfl hv⟩
    · congr 1
      have e5 : (lm NN f [k]).any (does f c) = !((((lm NN f [k]).map fun p => (kd f (lastP p)).de).filter fun s => decide (c ∈ s.cps.toList)).isEmpty) := by
        generalize lm NN f [k] = l
        induction l with
        | nil => rfl
        | cons a l ih =>
          rw [List.any_cons, List.map_cons, List.filter_cons, ih]
          unfold does
          by_cases h : c ∈ (kd f (lastP a)).de.cps.toList
          · simp [h]
          · simp [h]
      rw [e5]
      cases (((lm NN f [k]).map fun p => (kd f (lastP p)).de).filter fun s => decide (c ∈ s.cps.toList)) with
      | nil => simp [PyData.eqv, PyData.eqvAll]
      | cons a l => simp [PyData.eqv, PyData.eqvAll]
end
end KS
end
set_option maxHeartbeats 1000000
noncomputable section
namespace KS
open PySem PySem.Spec PyProof.Rows L2 Evl
/-! ### texts that tell a family -/
def weldL (e : Int × Int) : List Nat := (48 + e.1.toNat) :: (if e.2 = 0 then [] else [42])
def nameL (k : Kind) : List Nat := if k.el = [] then [45] else TL.joinL [44] (k.el.map weldL)
def deedL (k : Kind) : List Nat := if k.de.cps.toList = [] then [45] else k.de.cps.toList
def cellL (k : Kind) : List Nat := [48 + k.ce.toNat]
def kindL : List Nat := [107, 105, 110, 100]
def rowW (k : Kind) : List (List Nat) := [kindL, nameL k, deedL k, cellL k]
def rowL (k : Kind) : List Nat := TL.joinL [32] (rowW k)
def famL (f : Fam) : List Nat := TL.joinL [10] (f.map rowL)
theorem tl_txt (l : List Nat) : TL.tl (txt l) = l := rfl
theorem txt_app (a b : List Nat) : txt a ++ txt b = txt (a ++ b) := TL.ext_tl (by rw [TL.tl_append]; rfl)
theorem txt_len (l : List Nat) : (txt l).length = l.length := by rw [TL.len_tl]; rfl
theorem txt_inj {a b : List Nat} (h : txt a = txt b) : a = b := by
  have := congrArg TL.tl h
  exact this
theorem join_txt (s : List Nat) (ls : List (List Nat)) : Txt.join (txt s) (ls.map txt) = txt (TL.joinL s ls) := by
  refine TL.ext_tl ?_
  rw [TL.join_eq, TL.tl_join, List.map_map]
  show TL.joinL s (ls.map fun l => l) = TL.joinL s ls
  rw [List.map_id']
theorem split_txt {s : Nat} (hs : s < 256) {ls : List (List Nat)} (hne : ls ≠ []) (h : ∀ l ∈ ls, s ∉ l) : Txt.split (txt (TL.joinL [s] ls)) (txt [s]) = ls.map txt := by
  rw [← join_txt]
  refine TL.split_join (s := s) (S := []) rfl ?_ (by simpa using hne) fun p hp => ?_
  · show (#[s] : Array Nat).all _ = true
    simp [hs]
  · obtain ⟨l, hl, rfl⟩ := List.mem_map.mp hp
    exact h l hl
theorem join_mem {s x : Nat} : ∀ {ls : List (List Nat)}, x ∈ TL.joinL [s] ls → x = s ∨ ∃ l ∈ ls, x ∈ l
  | [], h => by simp [TL.joinL] at h
  | [l], h => .inr ⟨l, List.mem_singleton.mpr rfl, h⟩
  | l :: m :: r, h => by
    have h' : x ∈ l ++ ([s] ++ TL.joinL [s] (m :: r)) := h
    rcases List.mem_append.mp h' with h | h
    · exact .inr ⟨l, List.mem_cons_self, h⟩
    · rcases List.mem_append.mp h with h | h
      · exact .inl (List.mem_singleton.mp h)
      · rcases join_mem h with h | ⟨z, hz, h⟩
        · exact .inl h
        · exact .inr ⟨z, List.mem_cons_of_mem _ hz, h⟩
theorem join_len {s m : Nat} : ∀ {ls : List (List Nat)}, (∀ l ∈ ls, l.length ≤ m) → (TL.joinL [s] ls).length ≤ ls.length * (m + 1)
  | [], _ => Nat.zero_le _
  | [l], h => by
    have := h l (List.mem_singleton.mpr rfl)
    show l.length ≤ 1 * (m + 1)
    omega
  | l :: k :: r, h => by
    have h1 := h l List.mem_cons_self
    have h2 := join_len (s := s) (m := m) (ls := k :: r) fun z hz => h z (List.mem_cons_of_mem _ hz)
    show (l ++ ([s] ++ TL.joinL [s] (k :: r))).length ≤ _
    rw [List.length_append, List.length_append]
    show l.length + (1 + _) ≤ (r.length + 1 + 1) * (m + 1)
    have e : (r.length + 1 + 1) * (m + 1) = (r.length + 1) * (m + 1) + (m + 1) := Nat.succ_mul _ _
    rw [e]
    have h3 : (TL.joinL [s] (k :: r)).length ≤ (r.length + 1) * (m + 1) := h2
    omega
theorem join_lens {y : Nat} (ls : List (List Nat)) {m : Nat} (h : ∀ l ∈ ls, l.length ≤ m) : ((ls.map txt).map (·.length)).sum + (ls.map txt).length * (txt [y]).length ≤ ls.length * (m + 1) := by
  have e : (txt [y]).length = 1 := rfl
  rw [e, Nat.mul_one, List.length_map]
  induction ls with
  | nil => exact Nat.zero_le _
  | cons l r ih =>
    have h1 := h l List.mem_cons_self
    have h2 := ih fun z hz => h z (List.mem_cons_of_mem _ hz)
    rw [List.map_cons, List.map_cons, List.sum_cons, txt_len, List.length_cons]
    have e : (r.length + 1) * (m + 1) = r.length * (m + 1) + (m + 1) := Nat.succ_mul _ _
    rw [e]
    omega
/-- elders that can be told in one figure -/
def WdOk (e : Int × Int) : Prop := 0 ≤ e.1 ∧ e.1 < 10 ∧ (e.2 = 0 ∨ e.2 = 1)
theorem weld_len (e : Int × Int) : (weldL e).length ≤ 2 := by
  unfold weldL
  split <;> simp
theorem weld_sign {e : Int × Int} (h : WdOk e) {x : Nat} (hx : x ∈ weldL e) : (48 ≤ x ∧ x < 58) ∨ x = 42 := by
  obtain ⟨h0, h1, _⟩ := h
  unfold weldL at hx
  rcases List.mem_cons.mp hx with hx | hx
  · subst hx; left; omega
  · split at hx
    · cases hx
    · right; exact List.mem_singleton.mp hx
theorem abc_sign {x : Nat} (h : x ∈ abc) : 97 ≤ x ∧ x ≤ 102 := by
  simp only [abc, List.mem_cons, List.not_mem_nil, or_false] at h
  omega
theorem rise_abc2 {l : List Nat} (h : rise l) {x : Nat} (hx : x ∈ l) : x ∈ abc := by
  rw [h] at hx
  exact (List.mem_filter.mp hx).1
theorem rise_len6 {l : List Nat} (h : rise l) : l.length ≤ 6 := by
  rw [h]
  exact Nat.le_trans (List.length_filter_le _ _) (by decide)
section
variable {n : Nat} {k : Kind}
theorem KindOk.els (o : KindOk n k) (hn : n ≤ 10) : ∀ e ∈ k.el, WdOk e := fun e he => by
  obtain ⟨a, b, c⟩ := o.low e he
  exact ⟨a, by omega, c⟩
theorem name_sign (o : KindOk n k) (hn : n ≤ 10) {x : Nat} (hx : x ∈ nameL k) : 42 ≤ x ∧ x < 58 := by
  unfold nameL at hx
  split at hx
  · have := List.mem_singleton.mp hx; omega
  · rcases join_mem hx with h | ⟨l, hl, h⟩
    · omega
    · obtain ⟨e, he, rfl⟩ := List.mem_map.mp hl
      have := weld_sign (o.els hn e he) h
      omega
theorem name_len (o : KindOk n k) : (nameL k).length ≤ 9 := by
  unfold nameL
  split
  · decide
  · have := join_len (s := 44) (m := 2) (ls := k.el.map weldL) fun l hl => by
      obtain ⟨e, _, rfl⟩ := List.mem_map.mp hl
      exact weld_len e
    rw [List.length_map] at this
    have := o.few
    omega
theorem deed_sign (o : KindOk n k) {x : Nat} (hx : x ∈ deedL k) : x = 45 ∨ (97 ≤ x ∧ x ≤ 102) := by
  unfold deedL at hx
  split at hx
  · exact .inl (List.mem_singleton.mp hx)
  · exact .inr (abc_sign (rise_abc2 o.rise hx))
theorem deed_len (o : KindOk n k) : (deedL k).length ≤ 6 := by
  unfold deedL
  split
  · decide
  · exact rise_len6 o.rise
theorem roww_sign (o : KindOk n k) (hn : n ≤ 10) {l : List Nat} (hl : l ∈ rowW k) {x : Nat} (hx : x ∈ l) : 42 ≤ x := by
  simp only [rowW, List.mem_cons, List.not_mem_nil, or_false] at hl
  rcases hl with rfl | rfl | rfl | rfl
  · simp only [kindL, List.mem_cons, List.not_mem_nil, or_false] at hx
    omega
  · exact (name_sign o hn hx).1
  · have := deed_sign o hx; omega
  · have := List.mem_singleton.mp hx; omega
theorem roww_len (o : KindOk n k) {l : List Nat} (hl : l ∈ rowW k) : l.length ≤ 9 := by
  simp only [rowW, List.mem_cons, List.not_mem_nil, or_false] at hl
  rcases hl with rfl | rfl | rfl | rfl
  · decide
  · exact name_len o
  · have := deed_len o; omega
  · show 1 ≤ 9; decide
theorem row_len (o : KindOk n k) : (rowL k).length ≤ 40 := join_len (s := 32) (m := 9) (ls := rowW k) fun l hl => roww_len o hl
theorem row_sign (o : KindOk n k) (hn : n ≤ 10) {x : Nat} (hx : x ∈ rowL k) : 32 ≤ x := by
  rcases join_mem hx with h | ⟨l, hl, h⟩
  · omega
  · have := roww_sign o hn hl h; omega
theorem row_split (o : KindOk n k) (hn : n ≤ 10) : Txt.split (txt (rowL k)) (txt [32]) = (rowW k).map txt := split_txt (by decide) (by simp [rowW]) fun l hl hx => by
  have := roww_sign o hn hl hx; omega
theorem name_split (o : KindOk n k) (hn : n ≤ 10) (ne : k.el ≠ []) : Txt.split (txt (nameL k)) (txt [44]) = (k.el.map weldL).map txt := by
  unfold nameL
  rw [if_neg ne]
  refine split_txt (by decide) (by simpa using ne) fun l hl hx => ?_
  obtain ⟨e, he, rfl⟩ := List.mem_map.mp hl
  have := weld_sign (o.els hn e he) hx
  omega
end
theorem Valid.okAt {f : Fam} (V : Valid f) {k : Kind} (h : k ∈ f) : ∃ n, n ≤ 10 ∧ KindOk n k := by
  obtain ⟨i, hi⟩ := List.mem_iff_getElem?.mp h
  have := V.2.1
  have il : i < f.length := (List.getElem?_eq_some_iff.mp hi).1
  exact ⟨i, by omega, V.kinds i k hi⟩
theorem fam_split {f : Fam} (V : Valid f) : Txt.split (txt (famL f)) (txt [10]) = (f.map rowL).map txt := by
  refine split_txt (by decide) (by have := V.1; intro e; rw [List.map_eq_nil_iff] at e; subst e; exact absurd this (by decide)) fun l hl hx => ?_
  obtain ⟨k, hk, rfl⟩ := List.mem_map.mp hl
  obtain ⟨n, hn, o⟩ := V.okAt hk
  have := row_sign o hn hx
  omega
theorem fam_len {f : Fam} (V : Valid f) : (famL f).length ≤ 300 := by
  have := join_len (s := 10) (m := 40) (ls := f.map rowL) fun l hl => by
    obtain ⟨k, hk, rfl⟩ := List.mem_map.mp hl
    obtain ⟨n, hn, o⟩ := V.okAt hk
    exact row_len o
  rw [List.length_map] at this
  have := V.2.1
  unfold famL
  omega
theorem name_ne (k : Kind) : nameL k ≠ [] := by
  unfold nameL
  split
  · simp
  · rename_i h
    cases e : k.el with
    | nil => exact absurd e h
    | cons a r =>
      cases r with
      | nil => simp [TL.joinL, weldL]
      | cons b r => simp [TL.joinL, weldL]
theorem name_dash {n : Nat} {k : Kind} (o : KindOk n k) (hn : n ≤ 10) (ne : k.el ≠ []) : nameL k ≠ [45] := by
  unfold nameL
  rw [if_neg ne]
  cases e : k.el with
  | nil => exact absurd e ne
  | cons a r =>
    have h := o.els hn a (by rw [e]; exact List.mem_cons_self)
    obtain ⟨h0, h1, _⟩ := h
    cases r with
    | nil =>
      intro z
      have : weldL a = [45] := z
      have : 48 + a.1.toNat = 45 := (List.cons.inj this).1
      omega
    | cons b r =>
      intro z
      have : weldL a ++ ([44] ++ TL.joinL [44] (weldL b :: r.map weldL)) = [45] := z
      have : 48 + a.1.toNat = 45 := (List.cons.inj this).1
      omega
theorem deed_dash {n : Nat} {k : Kind} (o : KindOk n k) (ne : k.de.cps.toList ≠ []) : deedL k ≠ [45] := by
  unfold deedL
  rw [if_neg ne]
  intro z
  have : (45 : Nat) ∈ k.de.cps.toList := by rw [z]; exact List.mem_singleton.mpr rfl
  have := abc_sign (rise_abc2 o.rise this)
  omega
theorem num_txt {i : Int} (h0 : 0 ≤ i) (h1 : i < 10) : ((toString i : String) : Str) = txt [48 + i.toNat] := by
  obtain ⟨n, rfl⟩ := Int.eq_ofNat_of_zero_le h0
  refine TL.ext_tl ?_
  have := TL.tl_num n
  rw [TL.numL_lt (by omega)] at this
  exact this
theorem int_txt {i : Int} (h0 : 0 ≤ i) (h1 : i < 10) : intText? (txt [48 + i.toNat]) = some i := by
  rw [← num_txt h0 h1]
  obtain ⟨n, rfl⟩ := Int.eq_ofNat_of_zero_le h0
  exact TL.int_num (by rw [TL.numL_lt (by omega)]; exact (by decide : (1 : Nat) ≤ 4300))
end KS
end
set_option maxHeartbeats 1000000
noncomputable section
namespace KS
open PySem PySem.Spec PyProof.Rows L2 Evl
/-! ### texts joined, cut and filled -/
def rJn (K : PySem.W.Frag) : V → List V → Hp → VK → Prop := fun x xs H Q => ∃ a p, ∃ ys : List Str, x = .str a ∧ xs = [.ref p] ∧ (SqL K H p (ys.map V.str) ∨ SqT K H p (ys.map V.str)) ∧ (ys.map (·.length)).sum + ys.length * a.length ≤ 16777216 ∧ Q (.str (Txt.join a ys)) H
def rSpl : V → List V → Hp → VK → Prop := fun x xs H Q => ∃ a b, x = .str a ∧ xs = [.str b] ∧ (b.length == 0) = false ∧ a.length + 2 ≤ sizeLine ∧ rNewStrs (Txt.split a b) H Q
def rEnds : V → List V → Hp → VK → Prop := fun x xs H Q => ∃ a b, x = .str a ∧ xs = [.str b] ∧ Q (.bl (Txt.endswith a b)) H
section
variable {K : PySem.W.Frag} {σ : L2.St} {H : Hp} {ta tb te : TE} {d : PyData} {ds : List PyData}
theorem ed_cst {x : Str} {l : List Nat} (h : x = txt l) : ED (tC (.str x)) σ H (.str (txt l)) := h ▸ ed_cs x
theorem ed_joinT {y m : Nat} {ls : List (List Nat)} (h : ∀ l ∈ ls, l.length ≤ m) (hz : ls.length * (m + 1) ≤ 100000) (ha : ED ta σ H (.str (txt [y]))) (hb : ED tb σ H (.list ((ls.map txt).map PyData.str))) : ED (tM1 (rJn K) ta tb) σ H (.str (txt (TL.joinL [y] ls))) := fun H1 e Q q =>
  ha H1 e _ fun x H2 e2 hx => ⟨⟨_, hx.toStr⟩, hb H2 (e.trans e2) _ fun z H3 e3 hz' => by
    obtain ⟨p, xs, rfl, h1, t⟩ := hz'.toLst
    have e4 := t.strs
    subst e4
    refine ⟨txt [y], p, ls.map txt, hx.toStr, rfl, .inl (SqL.of h1), ?_, ?_⟩
    · have := join_lens (y := y) ls h
      omega
    · rw [join_txt]
      exact q _ H3 (e2.trans e3) (.str _)⟩
theorem el_split {s : Nat} {l : List Nat} {ls : List (List Nat)} (hs : Txt.split (txt l) (txt [s]) = ls.map txt) (hz : l.length ≤ 100000) (ha : ED ta σ H (.str (txt l))) (hb : ED tb σ H (.str (txt [s]))) : EL (tM1 rSpl ta tb) σ H ((ls.map txt).map PyData.str) := fun H1 e Q q =>
  ha H1 e _ fun x H2 e2 hx => ⟨⟨_, hx.toStr⟩, hb H2 (e.trans e2) _ fun z H3 e3 hz' => by
    refine ⟨txt l, txt [s], hx.toStr, by rw [hz'.toStr], rfl, by rw [txt_len]; show _ ≤ 16777216; omega, fun p np => ?_⟩
    rw [hs]
    exact q p _ _ (fresh_back (e2.trans e3) np) ((e2.trans e3).trans (Ex.new np)) upd_same (DA.ofStrs _)⟩
theorem ed_ends {a b : Str} {k : Bool} (hk : Txt.endswith a b = k) (ha : ED ta σ H (.str a)) (hb : ED tb σ H (.str b)) : ED (tM1 rEnds ta tb) σ H (.bool k) := fun H1 e Q q =>
  ha H1 e _ fun x H2 e2 hx => ⟨⟨_, hx.toStr⟩, hb H2 (e.trans e2) _ fun z H3 e3 hz' => ⟨a, b, hx.toStr, by rw [hz'.toStr], by rw [hk]; exact q _ H3 (e2.trans e3) (.bl _)⟩⟩
def EJs : List TE → L2.St → Hp → List (List Nat) → Prop
  | [], _, _, [] => True
  | t :: ts, σ, H, y :: ys => ED t σ H (.str (txt y)) ∧ EJs ts σ H ys
  | _, _, _, _ => False
theorem js_go : ∀ (ts : List TE) (ys : List (List Nat)), EJs ts σ H ys → ∀ (acc : List Nat), (acc ++ ys.flatten).length ≤ 10000 → ∀ H1, Ex H H1 → ∀ Q : Str → Hp → Prop, (∀ H2, Ex H1 H2 → Q (txt (acc ++ ys.flatten)) H2) → tJs ts (txt acc) σ H1 Q
  | [], [], _, acc, _, H1, _, Q, q => by
    have := q H1 (Ex.refl _)
    rw [List.flatten_nil, List.append_nil] at this
    exact this
  | t :: ts, y :: ys, h, acc, hz, H1, e, Q, q => by
    refine h.1 H1 e _ fun x H2 e2 hx => ⟨txt y, hx.toStr, ?_, ?_⟩
    · rw [txt_app, txt_len]
      rw [List.flatten_cons, List.length_append, List.length_append] at hz
      rw [List.length_append]
      show _ ≤ 16777216
      omega
    · rw [txt_app]
      refine js_go ts ys h.2 (acc ++ y) (by rw [List.flatten_cons, ← List.append_assoc] at hz; exact hz) H2 (e.trans e2) Q fun H3 e3 => ?_
      have := q H3 (e2.trans e3)
      rw [List.flatten_cons, ← List.append_assoc] at this
      exact this
  | [], _ :: _, h, _, _, _, _, _, _ => h.elim
  | _ :: _, [], h, _, _, _, _, _, _ => h.elim
theorem ed_js {ts : List TE} {ys : List (List Nat)} {l : List Nat} (h : EJs ts σ H ys) (hl : ys.flatten = l) (hz : l.length ≤ 10000) : ED (fun σ H Q => tJs ts Str.empty σ H fun out H1 => Q (.str out) H1) σ H (.str (txt l)) := fun H1 e Q q => by
  subst hl
  exact js_go ts ys h [] (by rw [List.nil_append]; exact hz) H1 e _ fun H2 e2 => q _ H2 e2 (.str _)
theorem ed_fmtS {l : List Nat} (hz : l.length ≤ 10000) (h : ED te σ H (.str (txt l))) : ED (tFmt te) σ H (.str (txt l)) := fun H1 e Q q =>
  h H1 e _ fun x H2 e2 hx => .inl ⟨txt l, hx.toStr, by rw [txt_len]; show _ ≤ 16777216; omega, q _ H2 e2 (.str _)⟩
theorem ed_fmtI {i : Int} (h0 : 0 ≤ i) (h1 : i < 10) (h : ED te σ H (.int i)) : ED (tFmt te) σ H (.str (txt [48 + i.toNat])) := fun H1 e Q q =>
  h H1 e _ fun x H2 e2 hx => .inr ⟨i, hx.toInt, by
    have : i.natAbs < 10 := by omega
    rcases Nat.eq_zero_or_pos i.natAbs with z | z
    · rw [z]; decide
    · exact Nat.lt_of_lt_of_le ((Nat.log2_lt (by omega)).mpr (show i.natAbs < 2 ^ 4 by omega)) (by decide), by
    rw [num_txt h0 h1]
    exact q _ H2 e2 (.str _)⟩
theorem ed_orS {l m : List Nat} (hz : l.length ≤ 10000) (ha : ED ta σ H (.str (txt l))) (hb : ED tb σ H (.str (txt m))) : ED (tOrT K ta tb) σ H (.str (txt (if l = [] then m else l))) := fun H1 e Q q =>
  ha H1 e _ fun x H2 e2 hx => by
    have ex := hx.toStr
    subst ex
    refine ⟨decide (l ≠ []), ⟨by rw [txt_len]; show _ ≤ 16777216; omega, ?_⟩, ?_⟩
    · rw [txt_len]
      cases l with
      | nil => rfl
      | cons a r =>
        rw [decide_eq_true (by simp)]
        have : ((a :: r).length : Int) ≠ 0 := by simp; omega
        exact (bne_iff_ne.mpr this).symm
    · by_cases h : l = []
      · rw [if_neg (by simp [h])]
        refine hb H2 (e.trans e2) _ fun v H3 e3 hv => q v H3 (e2.trans e3) ?_
        rw [if_pos h]; exact hv
      · rw [if_pos (by simp [h])]
        refine q _ H2 e2 ?_
        rw [if_neg h]; exact .str _
theorem ed_ixTx {l : List Nat} {i : Int} {c : Nat} (hz : l.length ≤ 10000) (hc : atI l i = some c) (ha : ED ta σ H (.str (txt l))) (hb : ED tb σ H (.int i)) : ED (tOp rIxS ta tb) σ H (.str (txt [c])) := ed_bin' ha hb fun x y H1 _ hx hy Q q =>
  ⟨txt l, i, c, hx.toStr, hy.toInt, by rw [txt_len]; show _ ≤ 16777216; omega, hc, q _ H1 (Ex.refl _) (.str _)⟩
theorem ed_lenTx {l : List Nat} (hz : l.length ≤ 10000) (ha : ED ta σ H (.str (txt l))) : ED (tCB (fun xs H Q => ∃ x n, xs = [x] ∧ LenV K x H n ∧ Q (.int n) H) (tCons ta tNil)) σ H (.int ((l.length : Nat) : Int)) := ed_len ha ⟨txt_len l, by show _ ≤ 16777216; omega⟩
def rIntS : List V → Hp → VK → Prop := fun xs H Q => ∃ a n, xs = [.str a] ∧ PySem.intText? a = some n ∧ a.length ≤ 640 ∧ Q (.int n) H
theorem ed_intS {i : Int} (h0 : 0 ≤ i) (h1 : i < 10) (ha : ED ta σ H (.str (txt [48 + i.toNat]))) : ED (tCB rIntS (tCons ta tNil)) σ H (.int i) := fun H1 e Q q =>
  ha H1 e _ fun x H2 e2 hx => ⟨_, i, by rw [hx.toStr], int_txt h0 h1, by rw [txt_len]; show 1 ≤ 640; decide, q _ H2 e2 (.int _)⟩
def rStrI : List V → Hp → VK → Prop := fun xs H Q => ∃ i, xs = [.int i] ∧ i.natAbs.log2 < 1920 ∧ Q (.str (toString i)) H
theorem ed_strI {i : Int} (h0 : 0 ≤ i) (h1 : i < 10) (ha : ED ta σ H (.int i)) : ED (tCB rStrI (tCons ta tNil)) σ H (.str (txt [48 + i.toNat])) := fun H1 e Q q =>
  ha H1 e _ fun x H2 e2 hx => ⟨i, by rw [hx.toInt], by
    rcases Nat.eq_zero_or_pos i.natAbs with z | z
    · rw [z]; decide
    · exact Nat.lt_of_lt_of_le ((Nat.log2_lt (by omega)).mpr (show i.natAbs < 2 ^ 4 by omega)) (by decide), by
    rw [num_txt h0 h1]
    exact q _ H2 e2 (.str _)⟩
def rTupOf (K : PySem.W.Frag) : List V → Hp → VK → Prop := fun xs H Q => ∃ p ys, xs = [.ref p] ∧ ((SqL K H p ys ∧ ∀ l, H l = none → Q (.ref l) (upd H l (.tup ys))) ∨ (SqT K H p ys ∧ Q (.ref p) H))
theorem ed_tupOf {ds : List PyData} (ha : ED ta σ H (.list ds)) : ED (tCB (rTupOf K) (tCons ta tNil)) σ H (.tuple ds) := fun H1 e Q q =>
  ha H1 e _ fun x H2 e2 hx => by
    obtain ⟨a, xs, rfl, h, t⟩ := hx.toLst
    exact ⟨a, xs, rfl, .inl ⟨SqL.of h, fun l nl => q _ _ (e2.trans (Ex.new nl)) (.tup upd_same (t.mono (Ex.new nl)))⟩⟩
theorem ed_eqT {a b : List Nat} (ha : ED ta σ H (.str (txt a))) (hb : ED tb σ H (.str (txt b))) : ED (tOp rEq ta tb) σ H (.bool (decide (a = b))) := ed_is (ed_eqS ha hb) (by
  by_cases h : a = b
  · subst h; simp
  · rw [decide_eq_false h, decide_eq_false fun e => h (txt_inj e)])
theorem ed_neT {a b : List Nat} (ha : ED ta σ H (.str (txt a))) (hb : ED tb σ H (.str (txt b))) : ED (tOp rNe ta tb) σ H (.bool (!decide (a = b))) := ed_is (ed_neS ha hb) (by
  by_cases h : a = b
  · subst h; simp
  · rw [decide_eq_false h, decide_eq_false fun e => h (txt_inj e)])
end
end KS
end
noncomputable section
namespace KS
open PySem PySem.Spec PyProof.Rows L2 Evl
open PySem.Froz (sing)
/-! ### families told otherwise -/
/-- the letters of deeds, and two that are none -/
def abcX : List Nat := abc ++ [103, 65]
structure Wild (b : Nat) (f : Fam) : Prop where
  el : ∀ k ∈ f, k.el.length ≤ b
  de : ∀ k ∈ f, k.de.cps.toList.length ≤ b ∧ ∀ c ∈ k.de.cps.toList, c ∈ abcX
theorem abcX_lt {c : Nat} (h : c ∈ abcX) : c < 128 := by
  have : ∀ c ∈ abcX, c < 128 := by decide
  exact this c h
def lbadD (f : Fam) : PyData := match famBad f with
  | some n => .int ((n : Nat) : Int)
  | none => .none
theorem halfK {f : Fam} (K : Kinds f) (l7 : f.length ≤ 7) : Half f := ⟨K.els, by omega, fun k hk c hc => by
  obtain ⟨j, hj⟩ := List.getElem?_of_mem hk
  exact rise_abc (K j k hj).rise hc⟩
theorem for_rngB {ta : TA} {g : TG} {tb : TS} {Dn : Ends} {σ : L2.St} {H : Hp} {n : Nat} (h : EAs ta σ H [.int ((n : Nat) : Int)]) (hz : n ≤ 1000000) (Pv : Hp → Nat → L2.St → Hp → Prop) (h0 : ∀ H1, Ex H H1 → Pv H1 0 σ H1)
    (hs : ∀ H1 i σ' H', Ex H H1 → i < n → Pv H1 i σ' H' → g (.int (0 + (i : Int))) σ' H' fun σ2 H2 => tb { Dn with nx := Pv H1 (i + 1), ct := Pv H1 (i + 1), bk := Dn.nx } σ2 H2) (hd : ∀ H1 σ' H', Ex H H1 → Pv H1 n σ' H' → Dn.nx σ' H') : tFor (iRng1 ta) g tb Dn σ H := h H (Ex.refl _) _ fun vs H1 e a => by
  obtain ⟨v, rfl, g1⟩ := a.args1
  obtain rfl := g1.toInt
  exact ⟨(n : Int), rfl, by omega, by omega, for_range (lo := 0) (n := n) (Pv H1) (h0 H1 e) (fun i σ' H' hi p => hs H1 i σ' H' e hi p) (fun σ' H' p => hd H1 σ' H' e p)⟩
/-- a name out of its range -/
def outB (n : Int) (i : Int) : Bool := !(decide (0 ≤ i) && decide (i < n))
def oddB (s : Int) : Bool := !([PyData.int 0, .int 1].any fun z => PyData.eqv z (.int s))
theorem eqv_intI (a b : Int) : PyData.eqv (.int a) (.int b) = decide (a = b) := by
  have := eqv_ints [a] [b]
  simpa [PyData.eqvAll] using this
theorem oddB_eq (s : Int) : oddB s = !(decide (s = 0) || decide (s = 1)) := by
  unfold oddB
  rw [List.any_cons, List.any_cons, List.any_nil, eqv_intI, eqv_intI, Bool.or_false]
  congr 2
  · exact decide_eq_decide.mpr eq_comm
  · exact decide_eq_decide.mpr eq_comm
theorem kind_law {n : Nat} {k : Kind} : ((((decide (k.el.length < 4) && (decide ((k.el.map (·.1)).Nodup) && (decide (0 ≤ k.ce) && decide (k.ce ≤ 3)))) && decide (((k.el.map (·.1)).filter (outB n)) = [])) && decide ((k.el.filter fun e => oddB e.2) = [])) && deedsB k.de) = kindB n k := by
  unfold kindB elsB
  have e1 : (k.el.all (pairB n)) = (decide (((k.el.map (·.1)).filter (outB n)) = []) && decide ((k.el.filter fun e => oddB e.2) = [])) := by
    rw [Bool.eq_iff_iff, Bool.and_eq_true, decide_eq_true_eq, decide_eq_true_eq, List.all_eq_true, List.filter_eq_nil_iff, List.filter_eq_nil_iff]
    refine ⟨fun h => ⟨fun i hi => ?_, fun e hm => ?_⟩, fun ⟨h1, h2⟩ e hm => ?_⟩
    · obtain ⟨e, hm, rfl⟩ := List.mem_map.mp hi
      have := h e hm
      unfold pairB at this
      unfold outB
      simp only [Bool.and_eq_true, decide_eq_true_eq] at this
      rw [decide_eq_true this.1.1, decide_eq_true this.1.2]
      decide
    · have := h e hm
      unfold pairB at this
      rw [oddB_eq]
      simp only [Bool.and_eq_true] at this
      rw [this.2]
      decide
    · have a := h1 e.1 (List.mem_map.mpr ⟨e, hm, rfl⟩)
      have b := h2 e hm
      rw [oddB_eq] at b
      unfold outB at a
      unfold pairB
      rw [Bool.not_eq_true, Bool.not_eq_false'] at a b
      rw [a, b]; rfl
  rw [e1]
  have e2 : decide (k.el.length < 4) = decide (k.el.length ≤ 3) := decide_eq_decide.mpr (by omega)
  rw [e2]
  cases decide (k.el.length ≤ 3) <;> cases decide ((k.el.map (·.1)).Nodup) <;> cases decide (0 ≤ k.ce) <;> cases decide (k.ce ≤ 3) <;> cases decide (((k.el.map (·.1)).filter (outB n)) = []) <;> cases decide ((k.el.filter fun e => oddB e.2) = []) <;> cases deedsB k.de <;> rfl
theorem eqv_nilL (l : List PyData) : PyData.eqv (.list l) (.list []) = decide (l = []) := by
  cases l <;> simp [PyData.eqv, PyData.eqvAll]
theorem intsX_shaped (l : List Int) : SeqAt.shaped (.list (l.map PyData.int)) = true := intsL_shaped l
def rIntB : List V → Hp → VK → Prop := fun xs H Q => (∃ i, xs = [.int i] ∧ Q (.int i) H) ∨ ∃ k, xs = [.bl k] ∧ Q (.int (if k then 1 else 0)) H
def rNotInD2 (K : PySem.W.Frag) : R2 := fun x y H Q => ∃ d ds, Dp K H x d ∧ Dp K H y (.tuple ds) ∧ SeqAt.shaped d = true ∧ SeqAt.shaped (.tuple ds) = true ∧ Q (.bl (!ds.any fun z => PyData.eqv z d)) H
theorem op_notInD2 {X : Cx} (hu : X.A.units + 65 < cLine) : OpR X (compareOp .NotIn) (rNotInD2 X.K) := by
  intro pins s σ H x y v u Q I rx ry h
  obtain ⟨d, ds, hd, he, sd, se, q⟩ := h
  obtain ⟨as, r1⟩ := Dp.reads I d x v hd rx
  obtain ⟨bs, r2⟩ := Dp.reads I (.tuple ds) y u he ry
  exact SeqAt.notIn_tuple_reads r2 r1 (SeqAt.canLay_of_shaped se) (SeqAt.canLay_of_shaped sd) (room_in_shaped sd hu) ⟨.bl _, H, I, rfl, q⟩
section
variable {K : PySem.W.Frag} {σ : L2.St} {H : Hp} {ta tb : TE}
theorem ed_notInD2 {d : PyData} {ds : List PyData} (ha : ED ta σ H d) (hb : ED tb σ H (.tuple ds)) (s1 : SeqAt.shaped d = true) (s2 : SeqAt.shaped (.tuple ds) = true) : ED (tOp (rNotInD2 K) ta tb) σ H (.bool (!ds.any fun z => PyData.eqv z d)) := ed_bin' ha hb fun x y H1 _ hx hy Q q =>
  ⟨d, ds, hx.dp, hy.dp, s1, s2, q _ H1 (Ex.refl H1) (.bl _)⟩
theorem ed_notInSg {c : Nat} {z : Str} (ha : ED ta σ H (.str ⟨#[c]⟩)) (hb : ED tb σ H (.str z)) : ED (tOp rNotInS ta tb) σ H (.bool (!decide (c ∈ z.cps.toList))) := ed_bin' ha hb fun x y H1 _ hx hy Q q =>
  ⟨c, z, hx.toStr, hy.toStr, q _ H1 (Ex.refl H1) (.bl _)⟩
theorem ed_intB {b : Bool} (ha : ED ta σ H (.bool b)) : ED (tCB rIntB (tCons ta tNil)) σ H (.int (if b then 1 else 0)) := fun H1 e Q q => ha H1 e _ fun x H2 e2 hx => show rIntB [x] H2 Q from Or.inr ⟨b, by rw [hx.toBool], q _ H2 e2 (.int _)⟩
end
theorem singX_lay {c : Nat} (h : c ∈ abcX) : (PyData.str (sing c)).canLay0 = true := by
  have : ∀ c ∈ abcX, (PyData.str (sing c)).canLay0 = true := by decide +kernel
  exact this c h
theorem singsX_lay : ∀ l : List Nat, (∀ c ∈ l, c ∈ abcX) → PyData.canLayAll0 (l.map fun c => PyData.str (sing c)) = true
  | [], _ => by simp [PyData.canLayAll0]
  | c :: l, h => by
    have i := singsX_lay l fun q hq => h q (List.mem_cons_of_mem _ hq)
    have e := singX_lay (h c List.mem_cons_self)
    simp [PyData.canLayAll0, i, e]
theorem singsX_depth : ∀ l : List Nat, PyData.depthAll (l.map fun c => PyData.str (sing c)) = 0
  | [] => by simp [PyData.depthAll]
  | c :: l => by
    have := singsX_depth l
    simp [PyData.depthAll, PyData.depth, this]
theorem singsX_shaped {l : List Nat} (h : ∀ c ∈ l, c ∈ abcX) : SeqAt.shaped (.list (l.map fun c => PyData.str (sing c))) = true := by
  refine shaped_of ?_ ?_
  · simp only [PyData.canLay0]; exact singsX_lay l h
  · have := singsX_depth l
    simp only [PyData.depth]; omega
/-- whether a text's signs rise and are letters -/
theorem deeds_law {s : Str} {m : List Nat} (mr : m.Pairwise (· < ·)) (mm : ∀ c, c ∈ m ↔ c ∈ s.cps.toList) : (!decide (txt m = s) || !decide ((s.cps.toList.filter fun c => !decide (c ∈ abc)) = [])) = !deedsB s := by
  have fr : (abc.filter fun c => decide (c ∈ s.cps.toList)).Pairwise (· < ·) := List.Pairwise.filter _ (by decide)
  rw [← Bool.not_and]
  congr 1
  rw [Bool.eq_iff_iff, Bool.and_eq_true, decide_eq_true_eq, decide_eq_true_eq]
  unfold deedsB
  rw [decide_eq_true_eq, List.filter_eq_nil_iff]
  have em : (∀ c ∈ s.cps.toList, c ∈ abc) → m = abc.filter fun c => decide (c ∈ s.cps.toList) := fun ha => by
    refine rising_eq mr fr fun c => ?_
    rw [mm c, List.mem_filter, decide_eq_true_eq]
    exact ⟨fun h => ⟨ha c h, h⟩, fun h => h.2⟩
  refine ⟨fun ⟨h1, h2⟩ => ?_, fun h => ?_⟩
  · rw [← em fun c hc => by have := h2 c hc; simpa using this]
    exact h1.symm
  · have ha : ∀ c ∈ s.cps.toList, c ∈ abc := fun c hc => rise_abc ((deedsB_iff s).mp (by unfold deedsB; exact decide_eq_true h)) hc
    refine ⟨by rw [em ha]; exact h.symm, fun c hc => ?_⟩
    rw [decide_eq_true (ha c hc)]
    decide
section
variable {P : Program} {w : World} {K : PySem.W.Frag} {mg : Str → Option Value} {base : Heap}
abbrev N_lbd : List Str := ["_law_f", "_law_number_here", "_law_elders", "_law_deeds", "_law_cells", "_law_names", "_law_good", "_law_elder", "_law_shared", "_law_one", "_law_deed"]
theorem sc_lbd : FnScope N_lbd ["_law_f"] (defScope s_law_bad) := ⟨rfl, rfl, rfl, by decide +kernel, rfl, by decide +kernel, by decide +kernel⟩
def R_lbd : List PyData → PyData → Prop := fun ds d => ∃ f : Fam, ds = [encF f] ∧ Wild 1000 f ∧ f.length ≤ 10000 ∧ d = lbadD f
set_option maxHeartbeats 16000000 in
theorem ok_lbd (B : Bt mg) (d : Df K mg "_law_bad" s_law_bad ["_law_f"]) (cM : Cl P w K mg base "_law_met" ["_law_f", "_law_part"] 17 (spL (R_lmetX NN))) (cD : Cl P w K mg base "_law_doer" ["_law_f", "_law_kind_here", "_law_deed"] 18 (spD R_ldoerX)) (cN : Cl P w K mg base "_law_knows" ["_law_f", "_law_kind_here"] 18 (spL R_lknowsX)) : Cl P w K mg base "_law_bad" ["_law_f"] 19 (spD R_lbd) := by
  refine d.ok sc_lbd (spD_len (by rintro _ _ ⟨_, rfl, _⟩; rfl)) (fun fa cdv A outer s H vs Q E hr h => ?_)
  obtain ⟨ds, dd, hv, ⟨f, rfl, RO, fz, rfl⟩, q⟩ := h
  obtain ⟨x, rfl, hx⟩ := hv.args1
  have hu := hu64 hr
  refine ⟨_, pss_cons (ps_if (pt_not (pt_chain op_le op_le pe_int (pe_callB call_len rfl B.len PySem.boot_len (pa_cons (pv 0) pa_nil)) pe_int)) (pss_one (ps_ret (pe_op op_mul pe_int (pe_callTy call_int1 rfl B.int (by decide +kernel) (pa_cons (pe_cmpR op_gt (pe_callB call_len rfl B.len PySem.boot_len (pa_cons (pv 0) pa_nil)) pe_int (nomark _)) pa_nil))))) pss_nil)
    (pss_cons (ps_for PassesOwn.never rfl (pi_range1 rfl B.range (pa_cons (pe_callB call_len rfl B.len PySem.boot_len (pa_cons (pv 0) pa_nil)) pa_nil)) (pg_name (i := 1) sc_lbd.nd rfl (.inr rfl))
      (pss_cons (ps_asg (pe_ix (r := rIxT K) ix_tup (pv 0) (pv 1) (fun _ _ => rfl)) (pg_tup rfl (pgs_cons (pg_name (i := 2) sc_lbd.nd rfl (.inl rfl)) (pgs_cons (pg_name (i := 3) sc_lbd.nd rfl (.inl rfl)) (pgs_cons (pg_name (i := 4) sc_lbd.nd rfl (.inl rfl)) pgs_nil)))))
      (pss_cons (ps_setLc (i := 5) (own := [("_law_elder", 7), ("_law_shared", 8)]) (g := gTup K 2 (gCons (gName 7) (gCons (gName 8) gNil))) (tt := tYes) rfl sc_lbd.nd rfl rfl (sw_true rfl rfl rfl (by decide +kernel)) (pi_tup (pv 2)) (blkOk_by (N := N_lbd) (sc := defScope s_law_bad) (by decide +kernel))
        (fun _ _ _ _ _ => pg_tup rfl (pgs_cons (pg_name (i := 7) sc_lbd.nd rfl (.inl rfl)) (pgs_cons (pg_name (i := 8) sc_lbd.nd rfl (.inl rfl)) pgs_nil))) (fun _ _ _ _ _ => pts_nil) (fun _ _ _ _ _ => pv 7))
      (pss_cons (ps_set (i := 6) sc_lbd.nd rfl (.inl rfl) (pe_and (pe_cmpR op_lt (pe_callB call_len rfl B.len PySem.boot_len (pa_cons (pv 2) pa_nil)) pe_int (nomark _)) (pe_and (pe_cmpR op_eq (pe_lenSetX (by rfl) B.len (by rfl) B.set (pv 5)) (pe_callB call_len rfl B.len PySem.boot_len (pa_cons (pv 5) pa_nil)) (nomark _)) (pe_one (pe_chain op_le op_le pe_int (pv 4) pe_int)))))
      (pss_cons (ps_set (i := 6) sc_lbd.nd rfl (.inl rfl) (pe_and (pv 6) (pe_one (pe_cmpR (r := rEqD K) (op_eqD (Nat.lt_of_succ_lt hu)) (pe_lc (own := [("_law_one", 9)]) (g := gName 9) rfl sc_lbd.nd (pi_list (pv 5)) (blkOk_by (N := N_lbd) (sc := defScope s_law_bad) (by decide +kernel))
          (fun _ _ _ _ _ => pg_name (i := 9) sc_lbd.nd rfl (.inl rfl)) (fun _ _ _ _ _ => by exact pts_one (pt_not (pt_chain op_le op_lt pe_int (pv 9) (pv 1)))) (fun _ _ _ _ _ => pv 9)) (pe_lst pa_nil) (nomark _)))))
      (pss_cons (ps_set (i := 6) sc_lbd.nd rfl (.inl rfl) (pe_and (pv 6) (pe_one (pe_cmpR (r := rEqD K) (op_eqD (Nat.lt_of_succ_lt hu)) (pe_lc (own := [("_law_one", 9), ("_law_shared", 8)]) (g := gTup K 2 (gCons (gName 9) (gCons (gName 8) gNil))) rfl sc_lbd.nd (pi_tup (pv 2)) (blkOk_by (N := N_lbd) (sc := defScope s_law_bad) (by decide +kernel))
          (fun _ _ _ _ _ => pg_tup rfl (pgs_cons (pg_name (i := 9) sc_lbd.nd rfl (.inl rfl)) (pgs_cons (pg_name (i := 8) sc_lbd.nd rfl (.inl rfl)) pgs_nil))) (fun _ _ _ _ _ => by exact pts_one (pt_cmpR (r := rNotInD2 K) (op_notInD2 hu) (by exact pv 8) (by exact pe_tup (pa_cons pe_int (pa_cons pe_int pa_nil))) rfl)) (fun _ _ _ _ _ => pv 9)) (pe_lst pa_nil) (nomark _)))))
      (pss_cons (ps_if (PW.pt (pw_or (pt_not (pt_val (pv 6))) (pw_or (pt_cmpR op_ne (show PE _ _ (tM1 (rJoL K) _ _) from pe_join pe_str (pe_callB (cr_sortTx rfl) rfl B.sorted boot_sorted (pa_cons (pe_callTy (cr_setTxD rfl) rfl B.set boot_set (pa_cons (pv 3) pa_nil)) pa_nil))) (pv 3) (nomark _)) (pw_or1 (pt_cmpR (r := rNeD K) (op_neD (Nat.lt_of_succ_lt hu)) (pe_lc (own := [("_law_one", 9)]) (g := gName 9) rfl sc_lbd.nd (pi_str (pv 3)) (blkOk_by (N := N_lbd) (sc := defScope s_law_bad) (by decide +kernel))
          (fun _ _ _ _ _ => pg_name (i := 9) sc_lbd.nd rfl (.inl rfl)) (fun _ _ _ _ _ => by exact pts_one (pt_cmpR op_notInS (pv 9) pe_str rfl)) (fun _ _ _ _ _ => pv 9)) (pe_lst pa_nil) (nomark _)))))) (pss_one (ps_ret (pv 1))) pss_nil)
      (pss_cons (ps_if (pt_cmpR op_gt (pe_callB call_len rfl B.len PySem.boot_len (pa_cons (pe_cl cM (hr.mono (by decide)) (pa_cons (pv 0) (pa_cons (pe_tup (pa_cons (pv 1) pa_nil)) pa_nil))) pa_nil)) pe_int (nomark _)) (pss_one (ps_ret (pv 1))) pss_nil)
      (pss_one (ps_if (pt_cmpR (r := rNeD K) (op_neD (Nat.lt_of_succ_lt hu)) (pe_lc (own := [("_law_deed", 10)]) (g := gName 10) rfl sc_lbd.nd (pi_list (pe_cl cN hr (pa_cons (pv 0) (pa_cons (pv 1) pa_nil)))) (blkOk_by (N := N_lbd) (sc := defScope s_law_bad) (by decide +kernel))
          (fun _ _ _ _ _ => pg_name (i := 10) sc_lbd.nd rfl (.inl rfl)) (fun _ _ _ _ _ => by exact pts_one (pt_cmpR op_isN1 (by exact pe_cl cD hr (by exact (pa_cons (pv 0) (pa_cons (pv 1) (pa_cons (pv 10) pa_nil))))) pe_non (nomark _))) (fun _ _ _ _ _ => pv 10)) (pe_lst pa_nil) (nomark _)) (pss_one (ps_ret (pv 1))) pss_nil))))))))))
    (pss_one (ps_ret pe_non))), ?_⟩
  have hn : ∀ σ1 H1, σ1[0]? = some (some x) → Ex H H1 → ED (tCB (fun xs H Q => ∃ x n, xs = [x] ∧ LenV K x H n ∧ Q (.int n) H) (tCons (tVar 0) tNil)) σ1 H1 (.int ((f.length : Nat) : Int)) := fun σ1 H1 h0 e => ed_is (ed_lenT (ds := f.map encK) (ed_var (i := 0) h0 (hx.mono e))) (by rw [List.length_map])
  try dsimp only
  refine sd_if (b := !(decide ((1 : Int) ≤ ((f.length : Nat) : Int)) && decide (((f.length : Nat) : Int) ≤ 7))) (et_not (et_D (ed_chain (p := fun i j => decide (i ≤ j)) (p' := fun i j => decide (i ≤ j)) (ed_ci 1) (hn _ H rfl (Ex.refl _)) (ed_ci 7)))) (fun hb H1 e1 => ?_) (fun hb H1 e1 => ?_)
  · try dsimp only
    refine sd_ret (d := lbadD f) (ed_is (ed_I (d := .int (7 * (if decide ((0 : Int) < ((f.length : Nat) : Int)) then 1 else 0))) (ed_ci 7) (ed_intB (b := decide ((0 : Int) < ((f.length : Nat) : Int))) (ed_I0 (d := .bool (decide ((0 : Int) < ((f.length : Nat) : Int)))) (hn _ H1 rfl e1) (ed_ci 0) fun H => .bl _)) (.inl ⟨by decide, by decide⟩) fun H => .int _) ?_) fun v H2 e2 hv => q v H2 (e1.trans e2) hv
    unfold lbadD famBad
    by_cases h7 : 7 < f.length
    · rw [if_pos h7, if_pos (decide_eq_true (by omega))]; rfl
    · have h0 : f.length = 0 := by
        by_cases h0 : f.length = 0
        · exact h0
        · rw [decide_eq_true (by omega), decide_eq_true (by omega)] at hb
          cases hb
      rw [if_neg h7, if_pos h0, if_neg (by rw [h0]; decide)]; rfl
  have f1 : 1 ≤ f.length ∧ f.length ≤ 7 := by
    rw [Bool.not_eq_false', Bool.and_eq_true, decide_eq_true_eq, decide_eq_true_eq] at hb
    omega
  obtain ⟨f1, h7⟩ := f1
  refine st_next ?_
  try dsimp only
  refine for_rngB (n := f.length) (eas1 (hn _ H1 rfl e1)) (by omega) (fun H2 i σ H' => (∃ u1 u2 u3 u4 u5 u6, σ = [some x, u1, u2, u3, u4, u5, u6, none, none, none, none]) ∧ Ex H2 H' ∧ ∀ j, j < i → goodK f j = true) (fun H2 e2 => ⟨⟨_, _, _, _, _, _, rfl⟩, Ex.refl _, fun j z => absurd z (Nat.not_lt_zero _)⟩) (fun H2 i σ H' e2 il ⟨⟨u1, u2, u3, u4, u5, u6, es⟩, e3, all_⟩ => ?_) (fun H2 σ H' e2 ⟨⟨u1, u2, u3, u4, u5, u6, es⟩, e3, all_⟩ => ?_)
  · subst es
    have i0 : (0 : Int) + (i : Int) = (i : Int) := Int.zero_add _
    rw [i0]
    have hx3 := ((hx.mono e1).mono e2).mono e3
    have e03 := (e1.trans e2).trans e3
    obtain ⟨k, h1⟩ : ∃ k, f[i]? = some k := ⟨_, List.getElem?_eq_getElem il⟩
    have ek := kd_at h1
    have km := List.mem_of_getElem? h1
    have hez := RO.el k km
    obtain ⟨hdz, hd⟩ := RO.de k km
    have stop : ∀ (σ : L2.St) (H1 : Hp), goodK f i = false → σ[1]? = some (some (.int (i : Int))) → Ex H H1 → tRet (tVar 1) { nx := fun _ H' => Q .non H', rt := Q } σ H1 := fun σ H1 hb h1' e => by
      have eb : lbadD f = .int (i : Nat) := by unfold lbadD; rw [famBad_at (by omega) il hb all_]
      rw [eb] at q
      exact sd_ret (ed_var (i := 1) h1' (.int _)) fun v H2 e2 hv => q v H2 (e.trans e2) hv
    try dsimp only
    refine sd_asg3 (d1 := .tuple (k.el.map encE)) (d2 := .str k.de) (d3 := .int k.ce) (ed_ixT (ds := f.map encK) (i := (i : Int)) (ed_var (i := 0) rfl hx3) (ed_var (i := 1) rfl (.int (i : Int))) (atI_nat (by rw [List.getElem?_map, h1]; rfl))) fun v2 v3 v4 H4 e4 g2 g3 g4 => ?_
    try dsimp only
    refine sl_asg (ds := (k.el.map (·.1)).map PyData.int) (el_is (el_lcT (as := k.el) (enc := encE) (fun _ => true) (fun e => .int e.1) (ed_var (i := 2) rfl g2) (by omega) (fun _ _ _ => rfl) fun e hm z H5 e5 hz => ?_) (by rw [filt_true, List.map_map]; rfl)) fun p5 x5 H5 n5 e5 h5 a5 => ?_
    · refine ⟨[some x, some (.int (i : Int)), some v2, some v3, some v4, u5, u6, some (.int e.1), some (.int e.2), none, none], rfl, fun H6 e6 R hR => g_pair (hz.mono e6) fun w1 w2 a1 a2 => ?_, et_yes, fun _ => ed_var (i := 7) rfl (.int _)⟩
      have b1 := a1.toInt
      have b2 := a2.toInt
      subst b1 b2
      exact hR
    try dsimp only
    have g25 := g2.mono e5
    have g35 := g3.mono e5
    have g45 := g4.mono e5
    have d5 : D H5 (.ref p5) (.list ((k.el.map (·.1)).map PyData.int)) := .lst h5 a5
    have nl : (k.el.map (·.1)).length = k.el.length := List.length_map ..
    refine sd_asg (d := .bool (decide (k.el.length < 4) && (decide ((k.el.map (·.1)).Nodup) && (decide (0 ≤ k.ce) && decide (k.ce ≤ 3))))) (ed_andV (a := decide (k.el.length < 4)) (ed_is (ed_I0 (d := .bool (decide (((k.el.length : Nat) : Int) < 4))) (ed_is (ed_lenT (ds := k.el.map encE) (ed_var (i := 2) rfl g25)) (by rw [List.length_map])) (ed_ci 4) fun H => .bl _) (by congr 1; exact decide_eq_decide.mpr (by omega))) fun hl => ed_andV (a := decide ((k.el.map (·.1)).Nodup)) (ed_is (ed_eqI (s := ((dist (k.el.map (·.1)) : Nat) : Int)) (s' := ((k.el.length : Nat) : Int)) (ed_lenSetX (ed_var (i := 5) rfl d5) (by have := of_decide_eq_true hl; omega)) (ed_is (ed_lenL (ed_var (i := 5) rfl d5)) (by rw [List.length_map, nl]))) ?_) fun _ => ed_chain (p := fun i j => decide (i ≤ j)) (p' := fun i j => decide (i ≤ j)) (ed_ci 0) (b := k.ce) (ed_var (i := 4) rfl (g45)) (ed_ci 3)) fun v6 H6 e6 g6 => ?_
    · congr 1
      refine decide_eq_decide.mpr ⟨fun h => (dist_iff _).mp (by omega), fun h => ?_⟩
      have := (dist_iff _).mpr h
      omega
    try dsimp only
    refine sd_asg (d := .bool ((decide (k.el.length < 4) && (decide ((k.el.map (·.1)).Nodup) && (decide (0 ≤ k.ce) && decide (k.ce ≤ 3)))) && decide (((k.el.map (·.1)).filter (outB i)) = []))) (ed_andV (ed_var (i := 6) rfl g6) fun _ => ed_is (ed_eqD (K := K) (d := .list (((k.el.map (·.1)).filter (outB i)).map PyData.int)) (d' := .list []) (EL.ed (el_lcL (as := k.el.map (·.1)) (enc := PyData.int) (outB i) PyData.int (ed_var (i := 5) rfl (d5.mono e6)) (by omega) (fun _ _ _ => rfl) (fun _ _ => rfl) fun j hj z H7 e7 hz => ?_)) (EL.ed (el_lst' (ds := []) eas_nil (by decide))) (intsX_shaped _) (intsX_shaped [])) ?_) fun v7 H7 e7 g7 => ?_
    · refine ⟨[some x, some (.int (i : Int)), some v2, some v3, some v4, some (.ref p5), some v6, none, none, some z, none], rfl, fun _ _ R h => h, et_not (et_D (ed_chain (p := fun i j => decide (i ≤ j)) (p' := fun i j => decide (i < j)) (ed_ci 0) (b := j) (ed_var (i := 9) rfl hz) (ed_var (i := 1) rfl (.int _)))), fun _ => ed_var (i := 9) rfl hz⟩
    · rw [eqv_nilL]
      congr 1
      exact decide_eq_decide.mpr ⟨fun h => List.map_eq_nil_iff.mp h, fun h => by rw [h]; rfl⟩
    try dsimp only
    have g27 := (g25.mono e6).mono e7
    refine sd_asg (d := .bool (((decide (k.el.length < 4) && (decide ((k.el.map (·.1)).Nodup) && (decide (0 ≤ k.ce) && decide (k.ce ≤ 3)))) && decide (((k.el.map (·.1)).filter (outB i)) = [])) && decide ((k.el.filter fun e => oddB e.2) = []))) (ed_andV (ed_var (i := 6) rfl g7) fun _ => ed_is (ed_eqD (K := K) (d := .list (((k.el.filter fun e => oddB e.2)).map fun e => PyData.int e.1)) (d' := .list []) (EL.ed (el_lcT (as := k.el) (enc := encE) (fun e => oddB e.2) (fun e => PyData.int e.1) (ed_var (i := 2) rfl g27) (by omega) (fun _ _ _ => rfl) fun e hm z H8 e8 hz => ?_)) (EL.ed (el_lst' (ds := []) eas_nil (by decide))) ?_ (intsX_shaped [])) ?_) fun v8 H8 e8 g8 => ?_
    · refine ⟨[some x, some (.int (i : Int)), some v2, some v3, some v4, some (.ref p5), some v7, none, some (.int e.2), some (.int e.1), none], rfl, fun H9 e9 R hR => g_pair (hz.mono e9) fun w1 w2 a1 a2 => ?_, ?_, fun _ => ed_var (i := 9) rfl (.int _)⟩
      · have b1 := a1.toInt
        have b2 := a2.toInt
        subst b1 b2
        exact hR
      · exact et_D (ed_notInD2 (K := K) (d := .int e.2) (ds := [.int 0, .int 1]) (ed_var (i := 8) rfl (.int _)) (ed_tup (ds := [.int 0, .int 1]) (eas2 (ed_ci 0) (ed_ci 1)) (by show 2 ≤ 100000; decide)) (shaped_of (by simp [PyData.canLay0]) (by simp [PyData.depth])) (shaped_of (by simp [PyData.canLay0, PyData.canLayAll0]) (by simp [PyData.depth, PyData.depthAll])))
    · have := intsX_shaped ((k.el.filter fun e => oddB e.2).map (·.1))
      rw [List.map_map] at this
      exact this
    · rw [eqv_nilL]
      congr 1
      exact decide_eq_decide.mpr ⟨fun h => List.map_eq_nil_iff.mp h, fun h => by rw [h]; rfl⟩
    try dsimp only
    have g38 := ((g35.mono e6).mono e7).mono e8
    have hd6 : D H8 v3 (.str (txt k.de.cps.toList)) := by rw [txt_tl]; exact g38
    obtain ⟨m, mr, mm, em⟩ := ed_sortsetD (P := P) (w := w) (K := K) (σ := [some x, some (.int (i : Int)), some v2, some v3, some v4, some (.ref p5), some v8, none, none, none, none]) (te := tVar 3) (ed_var (i := 3) rfl hd6) (fun c hc => abcX_lt (hd c hc)) (by omega) (fun m nd hs => by
      have := nodup_len nd (k := abcX) fun c hc => hd c (hs c hc)
      have h6 : abcX.length = 8 := rfl
      omega)
    have ekb := kind_law (n := i) (k := k)
    generalize hgd : (((decide (k.el.length < 4) && (decide ((k.el.map (·.1)).Nodup) && (decide (0 ≤ k.ce) && decide (k.ce ≤ 3)))) && decide (((k.el.map (·.1)).filter (outB i)) = [])) && decide ((k.el.filter fun e => oddB e.2) = [])) = gd at *
    have dl := deeds_law mr mm
    have e48 := (((e4.trans e5).trans e6).trans e7).trans e8
    refine sd_if (b := !kindB i k) ?_ (fun hb H9 e9 => ?_) (fun hb H9 e9 => ?_)
    · refine et_is (a := !gd || (!decide (txt m = k.de) || !decide ((k.de.cps.toList.filter fun c => !decide (c ∈ abc)) = []))) (et_or (et_not (et_DB (ed_var (i := 6) rfl g8))) fun _ => et_or (et_D (ed_neS em (ed_var (i := 3) rfl g38))) fun _ => et_D (ed_is (ed_neD (K := K) (d := .list ((k.de.cps.toList.filter fun c => !decide (c ∈ abc)).map fun c => .str (sing c))) (d' := .list []) (EL.ed (el_lcS (l := k.de.cps.toList) (fun c => !decide (c ∈ abc)) (fun c => .str (sing c)) (ed_var (i := 3) rfl hd6) (by omega) (fun _ _ _ => rfl) fun c hc He ee => ?_)) (EL.ed (el_lst' (ds := []) eas_nil (by decide))) ?_ (intsX_shaped [])) ?_)) ?_
      · exact ⟨[some x, some (.int (i : Int)), some v2, some v3, some v4, some (.ref p5), some v8, none, none, some (.str ⟨#[c]⟩), none], rfl, fun _ _ R h => h, et_D (ed_notInSg (ed_var (i := 9) rfl (.str _)) (ed_cst (l := abc) rfl)), fun _ => ed_var (i := 9) rfl (.str _)⟩
      · exact singsX_shaped fun c hc => hd c (List.mem_filter.mp hc).1
      · rw [eqv_nilL]
        congr 2
        exact decide_eq_decide.mpr ⟨fun h => List.map_eq_nil_iff.mp h, fun h => by rw [h]; rfl⟩
      · rw [dl, ← ekb, Bool.not_and]
    · refine stop _ H9 ?_ rfl ((e03.trans e48).trans e9)
      unfold goodK
      rw [ek]
      have : kindB i k = false := by simpa using hb
      rw [this, Bool.false_and]
    have hk : kindB i k = true := by simpa using hb
    refine st_next ?_
    try dsimp only
    have e49 := e48.trans e9
    have hx9 := hx3.mono e49
    have kall : ∀ j, j < i → kindB j (kd f j) = true := fun j hj => by
      have := all_ j hj
      unfold goodK at this
      rw [Bool.and_eq_true] at this
      exact this.1
    have KT : Kinds (f.take (i + 1)) := kinds_take (by omega) fun j hj => by
      rcases Nat.lt_succ_iff_lt_or_eq.mp hj with z | z
      · exact kall j z
      · subst z; rw [ek]; exact hk
    have lt : (f.take (i + 1)).length = i + 1 := by rw [List.length_take]; omega
    have HT := halfK KT (by omega)
    have LT := kinds_low KT
    have sm : (lm NN (f.take (i + 1)) [(i : Int)]).length ≤ 10000 := lm_small LT (kdeP KT (by omega) (by omega)) (by omega) (by omega)
    have k0 : (0 : Int) ≤ (i : Int) := by omega
    have k1 : (i : Int) < (f.take (i + 1)).length := by omega
    have pk := HT.part k0 k1 sm (root_in (f.take (i + 1)) (i : Int))
    have hF : ∀ H1, Ex H9 H1 → D H1 x (famD true (f.take (i + 1) ++ f.drop (i + 1))) := fun H1 e => by
      rw [List.take_append_drop]
      exact hx9.mono e
    generalize hg : f.take (i + 1) = g at *
    have egd : goodK f i = soundB g i := by unfold goodK; rw [ek, hk, Bool.true_and, hg]
    refine sd_if (b := decide (16 < ((lm NN g [(i : Int)]).length : Int))) (et_D (ed_I0 (i := ((lm NN g [(i : Int)]).length : Int)) (j := 16) (d := .bool (decide (16 < ((lm NN g [(i : Int)]).length : Int)))) (ed_is (ed_lenL (ds := (lm NN g [(i : Int)]).map encP) (EL.ed (el_call' (eas2 (ed_var (i := 0) rfl (hF H9 (Ex.refl _))) (ed_tup (ds := [.int (i : Int)]) (eas1 (ed_var (i := 1) rfl (.int (i : Int)))) (by show 1 ≤ 100000; decide))) (lmet_okX HT pk)))) (by rw [List.length_map])) (ed_ci 16) fun H => .bl _)) (fun hb H10 e10 => ?_) (fun hb H10 e10 => ?_)
    · refine stop _ H10 ?_ rfl ((e03.trans e49).trans e10)
      rw [egd]
      have h16 := of_decide_eq_true hb
      unfold soundB
      rw [decide_eq_false (by omega), Bool.false_and]
    have h16 : (lm NN g [(i : Int)]).length ≤ 16 := by have := of_decide_eq_false hb; omega
    refine st_next ?_
    try dsimp only
    have kn : ∀ c ∈ known g (lm NN g [(i : Int)]), c ∈ abc := fun c hc => (known_iff.mp hc).1
    have kl : (known g (lm NN g [(i : Int)])).length ≤ 6 := by unfold known; exact List.length_filter_le _ abc
    refine sd_if (b := !soundB g i) (et_D (ed_is (ed_neD (K := K) (d := .list (((known g (lm NN g [(i : Int)])).filter fun c => (ldoer NN g (doing g c (lm NN g [(i : Int)]))).isNone).map fun c => .str (sing c))) (d' := .list []) (EL.ed (el_lcL (as := known g (lm NN g [(i : Int)])) (enc := fun c => .str (sing c)) (fun c => (ldoer NN g (doing g c (lm NN g [(i : Int)]))).isNone) (fun c => .str (sing c)) (EL.ed (el_is (el_call' (eas2 (ed_var (i := 0) rfl (hF H10 e10)) (ed_var (i := 1) rfl (.int (i : Int)))) ⟨g, f.drop (i + 1), true, (i : Int), rfl, HT, k0, k1, by omega, rfl⟩) (by rw [List.map_map]; rfl))) (by omega) (fun _ _ _ => rfl) (fun _ _ => rfl) fun c hc z H11 e11 hz => ?_)) (EL.ed (el_lst' (ds := []) eas_nil (by decide))) ?_ (intsX_shaped [])) ?_)) (fun hb2 H11 e11 => ?_) (fun hb2 H11 e11 => ?_)
    · have ez := hz.toStr
      subst ez
      refine ⟨[some x, some (.int (i : Int)), some v2, some v3, some v4, some (.ref p5), some v8, none, none, none, some (.str (sing c))], rfl, fun _ _ R h => h, ?_, fun _ => ed_var (i := 10) rfl (.str _)⟩
      refine et_D (ed_isN (d := optP (ldoer NN g (doing g c (lm NN g [(i : Int)])))) (ed_call (eas3 (ed_var (i := 0) rfl (hF H11 (e10.trans e11))) (ed_var (i := 1) rfl (.int (i : Int))) (ed_var (i := 10) rfl (.str (sing c)))) ⟨g, f.drop (i + 1), true, (i : Int), c, rfl, HT, k0, k1, by omega, rfl⟩) (isND_optP _))
    · have := sings_shaped (l := (known g (lm NN g [(i : Int)])).filter fun c => (ldoer NN g (doing g c (lm NN g [(i : Int)]))).isNone) fun c hc => kn c (List.mem_filter.mp hc).1
      rw [List.map_map] at this
      exact this
    · rw [eqv_nilL]
      congr 2
      unfold soundB
      rw [decide_eq_true h16, Bool.true_and, Bool.eq_iff_iff, decide_eq_true_eq, List.map_eq_nil_iff, List.filter_eq_nil_iff, List.all_eq_true]
      have e5 : ∀ c, ldoer NN g (doing g c (lm NN g [(i : Int)])) = foremost NN g (doing g c (lm NN g [(i : Int)])) := fun c => ldoer_eq LT ((lm_nodup NN g [(i : Int)]).filter _) fun y hy => by
        have := (mem_bound LT k0 (List.mem_filter.mp hy).1).2
        show lastP y < (16 : Int)
        omega
      refine ⟨fun h c hc => ?_, fun h c hc => ?_⟩
      · have := h c hc
        rw [e5] at this
        cases hq : foremost NN g (doing g c (lm NN g [(i : Int)])) with
        | none => rw [hq] at this; exact absurd rfl this
        | some _ => rfl
      · have := h c hc
        rw [e5]
        cases hq : foremost NN g (doing g c (lm NN g [(i : Int)])) with
        | none => rw [hq] at this; cases this
        | some _ => exact fun z => nomatch z
    · refine stop _ H11 ?_ rfl (((e03.trans e49).trans e10).trans e11)
      rw [egd]
      simpa using hb2
    · refine ⟨⟨_, _, _, _, _, _, rfl⟩, ((e3.trans e49).trans e10).trans e11, fun j hj => ?_⟩
      rcases Nat.lt_succ_iff_lt_or_eq.mp hj with z | z
      · exact all_ j z
      · subst z
        rw [egd]
        simpa using hb2
  · subst es
    have V : Valid f := fam_good f1 h7 all_
    have eb : lbadD f = .none := by unfold lbadD; rw [famBad_none.mpr V]
    rw [eb] at q
    try dsimp only
    exact sd_ret (d := .none) ed_cn fun v H2 e2' hv => q v H2 (((e1.trans e2).trans e3).trans e2') hv
end
end KS
end
noncomputable section
namespace KS
open PySem PySem.Spec PyProof.Rows L2 Evl
/-! ### a text turned about: which signs, not which order -/
def tRevS (te : TE) : TE := fun σ H Q => te σ H fun x H1 => ∃ z : Str, x = .str z ∧ z.length ≤ sizeLine ∧ ∀ y : Str, y.length ≤ z.length → (∀ c ∈ y.cps.toList, c ∈ z.cps.toList) → Q (.str y) H1
theorem mem_sliceBy (x : Str) (l u : Option (Int × Tok)) (st : Int × Tok) : ∀ c ∈ (Txt.sliceBy x l u st).cps.toList, c ∈ x.cps.toList := by
  intro c hc
  unfold Txt.sliceBy at hc
  split at hc
  · exact hc
  · have hc' : c ∈ (slicePicked x l u (some st)).filterMap (x.cps[·]?) := hc
    obtain ⟨i, _, hi⟩ := List.mem_filterMap.mp hc'
    rw [Array.mem_toList_iff]
    exact Array.mem_of_getElem? hi
theorem pe_revS {X : Cx} {e : Expr} {te : TE} {k : Nat} {p1 p2 p3 pos : Pos} (he : PE X e te) : PE X (.Subscript e (.Slice none none (some (.UnaryOp .USub (.Constant (.int 1) k p1) p2)) p3) pos) (tRevS te) := by
  refine ⟨fun pins s σ H Q I h => ?_⟩
  refine Subscript_ (thn (he.run pins s σ H _ I h) fun v s1 ⟨x, H1, I1, r1, q1⟩ => ?_)
  obtain ⟨z, rfl, hz, q⟩ := q1
  obtain ⟨t, rfl⟩ := r1
  have hst : PO X (some (.UnaryOp .USub (.Constant (.int 1) k p1) p2)) (tPart (tUn (rU fun i => .int (-i)) (tC (.int 1)))) := po_some (pe_un un_neg pe_int)
  refine wpAny_Slice (thn (po_none.run pins s1 σ H1 (fun o H2 => o = none ∧ H2 = H1) I1 ⟨rfl, rfl⟩) fun vl s2 ⟨l, H2, I2, pl, el, e2⟩ => ?_)
  subst el e2
  refine thn (po_none.run pins s2 σ H2 (fun o H3 => o = none ∧ H3 = H2) I2 ⟨rfl, rfl⟩) fun vu s3 ⟨u, H3, I3, pu, eu, e3⟩ => ?_
  subst eu e3
  refine thn (hst.run pins s3 σ H3 (fun o H4 => o = some (-1) ∧ H4 = H3) I3 ⟨1, rfl, -1, rfl, rfl, rfl⟩) fun vs s4 ⟨o, H4, I4, ps, eo, e4⟩ => ?_
  subst eo e4
  have I5 : Inv X pins σ H4 { s4 with heap := s4.heap.push { cls := .type "slice", data := .fields #[vl, vu, vs] } } := I4.kept (t' := s4.toks) fun b ob q => Heap.get?_push_of_some _ q
  cases pl
  cases pu
  cases ps with
  | int i ti =>
  refine tail_any (ops := [.ref s4.heap.objs.size, .str z t]) (typeIs_str _ _ _) F.slot_str_getitem.lookup ?_ (by with_unfolding_all rfl)
  refine wpAny_getItem_str_slice (l := none) (u := none) (st := some (-1, ti)) ⟨_, Heap.get?_push_size _ rfl, rfl, rfl⟩ rfl ?_
  have len := Txt.sliceBy_le z none none (-1, ti) (by show (-1 : Int) ≠ 0; decide)
  refine post_val_or_str ⟨Nat.le_trans len hz, fun t' c => ⟨.str (Txt.sliceBy z none none (-1, ti)), H4, I5.tok _, ⟨_, rfl⟩, q _ len (mem_sliceBy z none none (-1, ti))⟩⟩
section
variable {σ : L2.St} {H : Hp} {te : TE}
end
end KS
end
noncomputable section
namespace KS
open PySem PySem.Spec PyProof.Rows L2 Evl
open PySem.Froz (sing)
/-! ### what an expression tells that may draw: data without a list, of which something is known -/
def OE (a b : Addr) (te : TE) (σ : L2.St) (H : Hp) (p : PyData → Prop) : Prop := ∀ H1, Off a b H H1 → HS a b H1 → ∀ Q : VK, (∀ v d H2, Off a b H1 H2 → HS a b H2 → p d → flatT d = true → D H2 v d → Q v H2) → te σ H1 Q
def OAs (a b : Addr) (ta : TA) (σ : L2.St) (H : Hp) (ps : List PyData → Prop) : Prop := ∀ H1, Off a b H H1 → HS a b H1 → ∀ Q : List V → Hp → Prop, (∀ vs ds H2, Off a b H1 H2 → HS a b H2 → ps ds → flatTs ds = true → DA H2 vs ds → Q vs H2) → ta σ H1 Q
/-- a new list -/
def OL (a b : Addr) (te : TE) (σ : L2.St) (H : Hp) (ps : List PyData → Prop) : Prop := ∀ H1, Off a b H H1 → HS a b H1 → ∀ Q : VK, (∀ p ds H2, Off a b H1 H2 → HS a b H2 → ps ds → LstAt a b H2 p ds → Q (.ref p) H2) → te σ H1 Q
section
variable {K : PySem.W.Frag} {a b : Addr} {te ta tb tl tn : TE} {ts tr : TA} {σ : L2.St} {H H' : Hp} {p p' q : PyData → Prop} {ps qs : List PyData → Prop} {r : R2} {Dn : Ends} {i : Nat} {v : V} {d : PyData} {ds : List PyData}
theorem OE.off (o : Off a b H H') (h : OE a b te σ H p) : OE a b te σ H' p := fun H1 o1 hs Q q => h H1 (o.trans o1) hs Q q
theorem OE.imp (h : OE a b te σ H p) (g : ∀ d, p d → p' d) : OE a b te σ H p' := fun H1 o hs Q q => h H1 o hs Q fun v d H2 o2 hs2 pd fl hv => q v d H2 o2 hs2 (g d pd) fl hv
theorem OL.imp (h : OL a b te σ H ps) (g : ∀ d, ps d → qs d) : OL a b te σ H qs := fun H1 o hs Q q => h H1 o hs Q fun v d H2 o2 hs2 pd hv => q v d H2 o2 hs2 (g d pd) hv
theorem oe_of (fl : flatT d = true) (h : ∀ H1, Off a b H H1 → HS a b H1 → ED te σ H1 d) : OE a b te σ H (· = d) := fun H1 o hs Q q => h H1 o hs H1 (Ex.refl _) Q fun v H2 e hv => q v d H2 (Off.ex e) (hs.ex e) rfl fl hv
theorem oe_var (hs : HS a b H) (hi : σ[i]? = some (some v)) (fl : flatT d = true) (hd : D H v d) : OE a b (tVar i) σ H (· = d) := oe_of fl fun H1 o _ => ed_var hi (hd.keep (hs.tu o) fl)
theorem oe_ci (n : Int) : OE a b (tC (.int n)) σ H (· = .int n) := oe_of rfl fun _ _ _ => ed_ci n
theorem oe_cs (s : Str) : OE a b (tC (.str s)) σ H (· = .str s) := oe_of rfl fun _ _ _ => ed_cs s
theorem oe_op (ha : OE a b ta σ H p) (hb : OE a b tb σ H q) (hr : ∀ d e x y H1, p d → q e → HS a b H1 → D H1 x d → D H1 y e → ∀ Q : VK, (∀ v z H2, Ex H1 H2 → p' z → flatT z = true → D H2 v z → Q v H2) → r x y H1 Q) : OE a b (tOp r ta tb) σ H p' := fun H1 o hs Q q =>
  ha H1 o hs _ fun x d H2 o2 hs2 pd fd hx => hb H2 (o.trans o2) hs2 _ fun y e H3 o3 hs3 pe fe hy => hr d e x y H3 pd pe hs3 (hx.keep (hs2.tu o3) fd) hy Q fun v z H4 e4 pz fz hz => q v z H4 ((o2.trans o3).trans (Off.ex e4)) (hs3.ex e4) pz fz hz
theorem oas_nil : OAs a b tNil σ H (· = []) := fun H1 o hs Q q => q [] [] H1 (Off.refl _ _ _) hs rfl rfl .nil
theorem oas_cons (h : OE a b ta σ H p) (hr : OAs a b tr σ H ps) : OAs a b (tCons ta tr) σ H (fun l => ∃ d r, l = d :: r ∧ p d ∧ ps r) := fun H1 o hs Q q =>
  h H1 o hs _ fun v d H2 o2 hs2 pd fd hv => hr H2 (o.trans o2) hs2 _ fun vs ds H3 o3 hs3 pr fr ha => q (v :: vs) (d :: ds) H3 (o2.trans o3) hs3 ⟨d, ds, rfl, pd, pr⟩ (by show (flatT d && flatTs ds) = true; rw [fd, fr]; rfl) (.cons (hv.keep (hs2.tu o3) fd) ha)
theorem OAs.imp (h : OAs a b ts σ H ps) (g : ∀ l, ps l → qs l) : OAs a b ts σ H qs := fun H1 o hs Q q => h H1 o hs Q fun v d H2 o2 hs2 pd fl hv => q v d H2 o2 hs2 (g d pd) fl hv
theorem oe_tup (h : OAs a b ts σ H ps) (hz : ∀ l, ps l → l.length ≤ 100000) : OE a b (tTup ts) σ H (fun z => ∃ l, z = .tuple l ∧ ps l) := fun H1 o hs Q q =>
  h H1 o hs _ fun vs ds H2 o2 hs2 pd fl ha => ⟨sz_of (by rw [ha.len]; exact hz ds pd), fun t nt => q _ (.tuple ds) _ (o2.trans (Off.ex (Ex.new nt))) (hs2.ex (Ex.new nt)) ⟨ds, rfl, pd⟩ fl (.tup upd_same (ha.mono (Ex.new nt)))⟩
theorem ol_lst (h : OAs a b ts σ H ps) (hz : ∀ l, ps l → l.length ≤ 100000) : OL a b (tLst ts) σ H ps := fun H1 o hs Q q =>
  h H1 o hs _ fun vs ds H2 o2 hs2 pd fl ha => ⟨sz_of (by rw [ha.len]; exact hz ds pd), fun t nt => q t ds _ (o2.trans (Off.ex (Ex.new nt))) (hs2.ex (Ex.new nt)) pd (LstAt.ofEL hs2 nt fl upd_same (ha.mono (Ex.new nt)))⟩
theorem ol_var {t : Addr} (hs : HS a b H) (hi : σ[i]? = some (some (.ref t))) (l : LstAt a b H t ds) : OL a b (tVar i) σ H (· = ds) := fun H1 o hs1 Q q => ⟨.ref t, hi, q t ds H1 (Off.refl _ _ _) hs1 rfl (l.offN hs (OffN.ofOff o))⟩
theorem oe_next {n : Int} {j : Nat} {E : XK} (hi : σ[j]? = some (some (.ref a))) (hn : OE a b tn σ H (· = .int n)) (n0 : 0 < n) (n1 : n ≤ 1000000) : OE a b (tCall spNext [] E (tCons (tVar j) (tCons tn tNil))) σ H (fun d => ∃ r : Int, d = .int r ∧ 0 ≤ r ∧ r < n) := fun H1 o hs Q q =>
  ⟨.ref a, hi, hn H1 o hs _ fun v d H2 o2 hs2 pd fl hv => ⟨a, b, n, by subst pd; rw [hv.toInt]; rfl, hs2, n0, n1, fun r H3 o3 hs3 r0 r1 => q _ (.int r) H3 (o2.trans o3) hs3 ⟨r, rfl, r0, r1⟩ rfl (.int r)⟩⟩
/-- an item of a list, at a drawn place -/
theorem oe_pick {n : Nat} (hl : OL a b tl σ H ps) (hn : OE a b tn σ H (fun d => ∃ r : Int, d = .int r ∧ 0 ≤ r ∧ r < n)) (len : ∀ l, ps l → n ≤ l.length) : OE a b (tOp (rIxL K) tl tn) σ H (fun d => ∃ l, ps l ∧ d ∈ l) := fun H1 o hs Q q =>
  hl H1 o hs _ fun t ds H2 o2 hs2 pd l2 => hn H2 (o.trans o2) hs2 _ fun y e H3 o3 hs3 ⟨r, er, r0, r1⟩ fe hy => by
    subst er
    have ey := hy.toInt
    subst ey
    obtain ⟨_, _, fl, xs, hx, ha⟩ := l2.offN hs2 (OffN.ofOff o3)
    have hlen := len ds pd
    obtain ⟨j, rfl⟩ : ∃ j : Nat, r = (j : Int) := ⟨r.toNat, by omega⟩
    have hj : j < ds.length := by omega
    have hd : ds[j]? = some ds[j] := List.getElem?_eq_getElem hj
    obtain ⟨z, h3, h4⟩ := ha.at (atI_nat hd)
    have dm := List.mem_of_getElem? hd
    have fz : flatT ds[j] = true := by
      have : ∀ (l : List PyData), flatTs l = true → ∀ d ∈ l, flatT d = true := by
        intro l
        induction l with
        | nil => intro _ d hd; cases hd
        | cons x l ih =>
          intro h d hd
          rw [flatTs, Bool.and_eq_true] at h
          rcases List.mem_cons.mp hd with rfl | hd
          · exact h.1
          · exact ih h.2 d hd
      exact this ds fl _ dm
    exact ⟨t, xs, _, z, rfl, rfl, SqL.of hx, h3, q z _ H3 (o2.trans o3) hs3 ⟨ds, pd, dm⟩ fz h4⟩
/-- a sign of a text, at a drawn place -/
theorem oe_sign {s : Str} {n : Nat} (hn : OE a b tn σ H (fun d => ∃ r : Int, d = .int r ∧ 0 ≤ r ∧ r < n)) (len : s.cps.toList.length = n) (hz : n ≤ 1000) : OE a b (tOp rIxS (tC (.str s)) tn) σ H (fun d => ∃ c ∈ s.cps.toList, d = .str ⟨#[c]⟩) := fun H1 o hs Q q =>
  hn H1 o hs _ fun y e H3 o3 hs3 ⟨r, er, r0, r1⟩ fe hy => by
    subst er
    have ey := hy.toInt
    subst ey
    obtain ⟨j, rfl⟩ : ∃ j : Nat, r = (j : Int) := ⟨r.toNat, by omega⟩
    have hj : j < s.cps.toList.length := by omega
    have hd : s.cps.toList[j]? = some s.cps.toList[j] := List.getElem?_eq_getElem hj
    have sl : s.length = s.cps.toList.length := by show s.cps.size = _; simp
    refine ⟨s, _, _, rfl, rfl, ?_, atI_nat hd, q _ (.str ⟨#[s.cps.toList[j]]⟩) H3 o3 hs3 ⟨_, List.mem_of_getElem? hd, rfl⟩ rfl (.str _)⟩
    show s.length ≤ 16777216
    omega
/-! ### texts -/
/-- a text of few signs, all of them letters or nearly -/
def TxP (n : Nat) (d : PyData) : Prop := ∃ s : Str, d = .str s ∧ s.cps.toList.length ≤ n ∧ ∀ c ∈ s.cps.toList, c ∈ abcX
theorem TxP.mono {n m : Nat} {d : PyData} (h : TxP n d) (le : n ≤ m) : TxP m d := by
  obtain ⟨s, e, h1, h2⟩ := h
  exact ⟨s, e, Nat.le_trans h1 le, h2⟩
theorem mem_cutS {z : Str} {lo hi : Option Int} : ∀ c ∈ (cutS z lo hi).cps.toList, c ∈ z.cps.toList := fun c hc => List.mem_of_mem_drop (List.mem_of_mem_take (show c ∈ (z.cps.toList.drop _).take _ from hc))
theorem len_tl (s : Str) : s.length = s.cps.toList.length := by show s.cps.size = _; simp
theorem oe_addS {n m : Nat} (ha : OE a b ta σ H (TxP n)) (hb : OE a b tb σ H (TxP m)) (hz : n + m ≤ 1000000) : OE a b (tOp (fun x y H Q => ∃ i j, x = .str i ∧ y = .str j ∧ i.length + j.length ≤ sizeLine ∧ Q (.str (i ++ j)) H) ta tb) σ H (TxP (n + m)) :=
  oe_op ha hb fun d e x y H1 ⟨s, e1, l1, c1⟩ ⟨t, e2, l2, c2⟩ hs hx hy Q q => by
    subst e1 e2
    have a1 := hx.toStr
    have a2 := hy.toStr
    subst a1 a2
    have tl : (s ++ t).cps.toList = s.cps.toList ++ t.cps.toList := by
      show (s.cps ++ t.cps).toList = _
      simp
    refine ⟨s, t, rfl, rfl, ?_, q _ (.str (s ++ t)) H1 (Ex.refl _) ⟨_, rfl, by rw [tl, List.length_append]; omega, fun c hc => ?_⟩ rfl (.str _)⟩
    · rw [len_tl, len_tl]
      show _ ≤ 16777216
      omega
    · rw [tl] at hc
      rcases List.mem_append.mp hc with h | h
      · exact c1 c h
      · exact c2 c h
theorem oe_rev {n : Nat} (ha : OE a b ta σ H (TxP n)) (hz : n ≤ 1000000) : OE a b (tRevS ta) σ H (TxP n) := fun H1 o hs Q q =>
  ha H1 o hs _ fun x d H2 o2 hs2 ⟨s, e1, l1, c1⟩ fd hx => by
    subst e1
    have a1 := hx.toStr
    subst a1
    refine ⟨s, rfl, ?_, fun y ly cy => q _ (.str y) H2 o2 hs2 ⟨y, rfl, ?_, fun c hc => c1 c (cy c hc)⟩ rfl (.str _)⟩
    · rw [len_tl]
      show _ ≤ 16777216
      omega
    · rw [len_tl, len_tl] at ly
      omega
/-- a text from a place on -/
theorem oe_from {n : Nat} (ha : OE a b ta σ H (TxP n)) (hk : OE a b tb σ H (fun d => ∃ r : Int, d = .int r)) (hz : n ≤ 1000000) : OE a b (tSl rSlS ta (tPart tb) tNoPart) σ H (TxP n) := fun H1 o hs Q q =>
  ha H1 o hs _ fun x d H2 o2 hs2 ⟨s, e1, l1, c1⟩ fd hx => hk H2 (o.trans o2) hs2 _ fun y e H3 o3 hs3 ⟨r, er⟩ fe hy => by
    subst e1 er
    have a1 := hx.toStr
    have a2 := hy.toInt
    subst a1 a2
    refine ⟨r, rfl, s, rfl, ?_, q _ (.str (cutS s (some r) none)) H3 (o2.trans o3) hs3 ⟨_, rfl, ?_, fun c hc => c1 c (mem_cutS c hc)⟩ rfl (.str _)⟩
    · rw [len_tl]
      show _ ≤ 16777216
      omega
    · have := cutS_length s (some r) none
      rw [len_tl, len_tl] at this
      omega
/-! ### tuples -/
theorem r_catA {x y : V} {ds es : List PyData} {Q : VK} (hx : D H x (.tuple ds)) (hy : D H y (.tuple es)) (hz : ds.length + es.length ≤ 100000) (k : ∀ v H1, Ex H H1 → D H1 v (.tuple (ds ++ es)) → Q v H1) : rCatA K x y H Q := by
  obtain ⟨v, e1, w, e2, h⟩ := (ed_catT (K := K) (σ := [some x, some y]) (ta := tVar 0) (tb := tVar 1) (ed_var (i := 0) rfl hx) (ed_var (i := 1) rfl hy) hz) H (Ex.refl _) Q k
  cases e1
  cases e2
  exact h
theorem oe_catA (ha : OE a b ta σ H (fun z => ∃ l, z = .tuple l ∧ ps l)) (hb : OE a b tb σ H (fun z => ∃ l, z = .tuple l ∧ qs l)) (hz : ∀ l m, ps l → qs m → l.length + m.length ≤ 100000) : OE a b (tOp (rCatA K) ta tb) σ H (fun z => ∃ l m, z = .tuple (l ++ m) ∧ ps l ∧ qs m) := fun H1 o hs Q q =>
  ha H1 o hs _ fun x d H2 o2 hs2 ⟨l, e1, pl⟩ fd hx => hb H2 (o.trans o2) hs2 _ fun y e H3 o3 hs3 ⟨m, e2, pm⟩ fe hy => by
    subst e1 e2
    exact r_catA (hx.keep (hs2.tu o3) fd) hy (hz l m pl pm) fun v H4 e4 hv => q v (.tuple (l ++ m)) H4 ((o2.trans o3).trans (Off.ex e4)) (hs3.ex e4) ⟨l, m, rfl, pl, pm⟩ (by show flatTs (l ++ m) = true; exact flatTs_append fd fe) hv
/-- a comprehension over numbers whose items draw -/
theorem ol_range {it : TI} {lo : Int} {n j : Nat} (hr : ∀ H1, Off a b H H1 → HS a b H1 → ∀ R : It → Hp → Prop, (∀ H2, Ex H1 H2 → R (Itr lo n) H2) → it σ H1 R) (hz : n ≤ 1000) (hw : ∀ x : V, wipe ((wipe σ [j]).set j (some x)) [j] = wipe σ [j])
    (he : ∀ (i : Nat) H1, Off a b H H1 → HS a b H1 → i < n → OE a b te ((wipe σ [j]).set j (some (.int (lo + i)))) H1 p) : OL a b (tLc it (gName j) tYes te [j]) σ H (fun l => l.length = n ∧ ∀ d ∈ l, p d) := fun H1 o hs Q q => by
  refine hr H1 o hs _ fun H2 e2 Dl hD => ?_
  have hs2 := hs.ex e2
  have nD := hs2.ne hD
  refine lc_range (lo := lo) (n := n) (fun i H' => Off a b H2 H' ∧ HS a b H' ∧ ∃ acc ds, H' Dl = some (.lst acc) ∧ DA H' acc ds ∧ flatTs ds = true ∧ ds.length = i ∧ ∀ d ∈ ds, p d) ⟨Off.ex (Ex.new hD), hs2.ex (Ex.new hD), [], [], upd_same, .nil, rfl, rfl, fun _ h => nomatch h⟩ (fun i H' hi ⟨o3, hs3, acc, ds, hacc, hda, fl, dl, pd⟩ => ?_) (fun H' ⟨o3, hs3, acc, ds, hacc, hda, fl, dl, pd⟩ => ?_)
  · refine ⟨hw _, ?_⟩
    refine (et_yes : EvT tYes _ H' true) H' (Ex.refl _) _ fun H3 e3 => ?_
    rw [if_pos rfl]
    have o13 : Off a b H H3 := (o.trans (Off.ex e2)).trans (o3.trans (Off.ex e3))
    refine he i H3 o13 (hs3.ex e3) hi H3 (Off.refl _ _ _) (hs3.ex e3) _ fun y d H4 o4 hs4 py fy hy => ?_
    have hacc4 := o4 _ _ nD.1 nD.2 (e3 _ _ hacc)
    have tk := tu_upd (ys := acc ++ [y]) hacc4
    have o34 := (Off.ex e3).trans o4
    refine ⟨acc, hacc4, sz_lt (by rw [hda.len, dl]; omega), ?_, hs4.put nD.1 nD.2, acc ++ [y], ds ++ [d], upd_same, ?_, flatTs_append fl (by show (flatT d && true) = true; rw [fy]; rfl), by rw [List.length_append, dl]; rfl, fun z hz => ?_⟩
    · intro c u c1 c2 hc
      have nc : c ≠ Dl := fun z => by rw [z, hD] at hc; cases hc
      rw [upd_ne nc]
      exact o34 _ _ c1 c2 (o3 _ _ c1 c2 hc)
    · exact DA.append (DA.keep tk fl (hda.keep (hs3.tu o34) fl)) (.one (D.keep tk fy hy))
    · rcases List.mem_append.mp hz with h | h
      · exact pd z h
      · rw [List.mem_singleton.mp h]; exact py
  · exact q Dl ds H' ((Off.ex e2).trans o3) hs3 ⟨dl, pd⟩ ⟨nD.1, nD.2, fl, acc, hacc, hda⟩
/-! ### statements -/
theorem s_oe (h : OE a b te σ H p) (hs : HS a b H) (k : ∀ v d H1, Off a b H H1 → HS a b H1 → p d → flatT d = true → D H1 v d → Dn.nx (σ.set i (some v)) H1) : tAsg te (gName i) Dn σ H := h H (Off.refl _ _ _) hs _ k
theorem s_ol (h : OL a b te σ H ps) (hs : HS a b H) (k : ∀ t ds H1, Off a b H H1 → HS a b H1 → ps ds → LstAt a b H1 t ds → Dn.nx (σ.set i (some (.ref t))) H1) : tAsg te (gName i) Dn σ H := h H (Off.refl _ _ _) hs _ k
theorem s_oret (h : OE a b te σ H p) (hs : HS a b H) (k : ∀ v d H1, Off a b H H1 → HS a b H1 → p d → flatT d = true → D H1 v d → Dn.rt v H1) : tRet te Dn σ H := h H (Off.refl _ _ _) hs _ k
/-- the tuple of a list -/
theorem oe_tupOf (h : OL a b tl σ H ps) : OE a b (tCB (rTupOf K) (tCons tl tNil)) σ H (fun z => ∃ l, z = .tuple l ∧ ps l) := fun H1 o hs Q q =>
  h H1 o hs _ fun t ds H2 o2 hs2 pd l2 => by
    obtain ⟨_, _, fl, xs, hx, ha⟩ := l2
    exact ⟨t, xs, rfl, .inl ⟨SqL.of hx, fun l nl => q (.ref l) (.tuple ds) _ (o2.trans (Off.ex (Ex.new nl))) (hs2.ex (Ex.new nl)) ⟨ds, rfl, pd⟩ fl (.tup upd_same (ha.mono (Ex.new nl)))⟩⟩
end
end KS
end
noncomputable section
namespace KS
open PySem PySem.Spec PyProof.Rows L2 Evl
open PySem.Froz (sing)
/-! ### pairs, kinds, families, as predicates -/
def EP (d : PyData) : Prop := ∃ e : Int × Int, d = encE e
def EsP (n : Nat) (d : PyData) : Prop := ∃ es : List (Int × Int), d = .tuple (es.map encE) ∧ es.length ≤ n
def InP (d : PyData) : Prop := ∃ r : Int, d = .int r
def KP (n : Nat) (d : PyData) : Prop := ∃ k : Kind, d = encK k ∧ k.el.length ≤ n ∧ k.de.cps.toList.length ≤ n ∧ ∀ c ∈ k.de.cps.toList, c ∈ abcX
theorem es_of : ∀ {l : List PyData}, (∀ d ∈ l, EP d) → ∃ es : List (Int × Int), l = es.map encE ∧ es.length = l.length
  | [], _ => ⟨[], rfl, rfl⟩
  | d :: l, h => by
    obtain ⟨e, he⟩ := h d List.mem_cons_self
    obtain ⟨es, h1, h2⟩ := es_of fun d hd => h d (List.mem_cons_of_mem _ hd)
    exact ⟨e :: es, by rw [he, h1]; rfl, by rw [List.length_cons, List.length_cons, h2]⟩
theorem EsP.mono {n m : Nat} {d : PyData} (h : EsP n d) (le : n ≤ m) : EsP m d := by
  obtain ⟨es, e, l⟩ := h
  exact ⟨es, e, Nat.le_trans l le⟩
theorem esP_of {n : Nat} {l : List PyData} (h : ∀ d ∈ l, EP d) (hn : l.length ≤ n) : EsP n (.tuple l) := by
  obtain ⟨es, e, el⟩ := es_of h
  exact ⟨es, by rw [e], by omega⟩
theorem esP_all {n : Nat} {l : List PyData} (h : EsP n (.tuple l)) : (∀ d ∈ l, EP d) ∧ l.length ≤ n := by
  obtain ⟨es, e, el⟩ := h
  cases e
  refine ⟨fun d hd => ?_, by rw [List.length_map]; exact el⟩
  obtain ⟨e, _, rfl⟩ := List.mem_map.mp hd
  exact ⟨e, rfl⟩
/-- as many, each of them such -/
def AllP (n : Nat) (p : PyData → Prop) (l : List PyData) : Prop := l.length = n ∧ ∀ d ∈ l, p d
section
variable {K : PySem.W.Frag} {a b : Addr} {te ta tb tl tn : TE} {ts tr : TA} {σ : L2.St} {H H' : Hp} {p p' q : PyData → Prop} {ps qs : List PyData → Prop} {n m : Nat}
theorem oas_nilU : OAs a b tNil σ H (AllP 0 p) := fun H1 o hs Q q => q [] [] H1 (Off.refl _ _ _) hs ⟨rfl, fun _ h => nomatch h⟩ rfl .nil
theorem oas_consU (h : OE a b ta σ H p) (hr : OAs a b tr σ H (AllP n p)) : OAs a b (tCons ta tr) σ H (AllP (n + 1) p) := (oas_cons h hr).imp fun l ⟨d, r, e, pd, h1, h2⟩ => by
  subst e
  refine ⟨by rw [List.length_cons, h1], fun z hz => ?_⟩
  rcases List.mem_cons.mp hz with rfl | hz
  · exact pd
  · exact h2 z hz
theorem oe_pair (h1 : OE a b ta σ H InP) (h2 : OE a b tb σ H InP) : OE a b (tTup (tCons ta (tCons tb tNil))) σ H EP :=
  (oe_tup (oas_cons h1 (oas_cons h2 oas_nil)) (by rintro l ⟨d, r, rfl, _, e, r', rfl, _, rfl⟩; show 2 ≤ 100000; decide)).imp fun z ⟨l, ez, d, r, e1, ⟨i, hi⟩, d', r', e2, ⟨j, hj⟩, e3⟩ => by
    subst ez e1 e2 e3 hi hj
    exact ⟨(i, j), rfl⟩
theorem oe_in (h : OE a b te σ H (fun d => ∃ r : Int, d = .int r ∧ 0 ≤ r ∧ r < n)) : OE a b te σ H InP := h.imp fun d ⟨r, e, _⟩ => ⟨r, e⟩
theorem oe_inI {i : Int} (h : OE a b te σ H (· = .int i)) : OE a b te σ H InP := h.imp fun d e => ⟨i, e⟩
theorem oe_pickU (hl : OL a b tl σ H (AllP n p)) (hn : OE a b tn σ H (fun d => ∃ r : Int, d = .int r ∧ 0 ≤ r ∧ r < ((n : Nat) : Int))) : OE a b (tOp (rIxL K) tl tn) σ H p :=
  (oe_pick hl hn fun l h => by rw [h.1]; exact Nat.le_refl _).imp fun d ⟨l, h, hd⟩ => h.2 d hd
theorem oe_lstU (h : OAs a b ts σ H (AllP n p)) (hz : n ≤ 100000) : OL a b (tLst ts) σ H (AllP n p) := ol_lst h fun l hl => by rw [hl.1]; exact hz
theorem oe_txt {s : Str} (hz : s.cps.toList.length ≤ n) (hc : ∀ c ∈ s.cps.toList, c ∈ abcX) : OE a b (tC (.str s)) σ H (TxP n) := (oe_cs s).imp fun d e => ⟨s, e, hz, hc⟩
/-- a tuple of pairs and another one -/
theorem oe_catE (ha : OE a b ta σ H (EsP n)) (hb : OE a b tb σ H (EsP m)) (hz : n + m ≤ 100000) : OE a b (tOp (rCatA K) ta tb) σ H (EsP (n + m)) :=
  (oe_catA (ps := fun l => EsP n (.tuple l)) (qs := fun l => EsP m (.tuple l)) (ha.imp fun d h => by obtain ⟨es, e, l⟩ := h; exact ⟨_, e, es, rfl, l⟩) (hb.imp fun d h => by obtain ⟨es, e, l⟩ := h; exact ⟨_, e, es, rfl, l⟩) fun l m h1 h2 => by have := (esP_all h1).2; have := (esP_all h2).2; omega).imp fun z ⟨l, m, ez, h1, h2⟩ => by
    subst ez
    obtain ⟨a1, l1⟩ := esP_all h1
    obtain ⟨a2, l2⟩ := esP_all h2
    refine esP_of (fun d hd => ?_) (by rw [List.length_append]; omega)
    rcases List.mem_append.mp hd with h | h
    · exact a1 d h
    · exact a2 d h
theorem oe_esU (h : OAs a b ts σ H (AllP n EP)) (hz : n ≤ 1000) : OE a b (tTup ts) σ H (EsP n) := (oe_tup h fun l hl => by rw [hl.1]; omega).imp fun z ⟨l, ez, hl⟩ => by subst ez; exact esP_of hl.2 (by rw [hl.1]; exact Nat.le_refl _)
theorem oe_esOf (h : OL a b tl σ H (fun l => l.length = n ∧ ∀ d ∈ l, EP d)) (hn : n ≤ m) : OE a b (tCB (rTupOf K) (tCons tl tNil)) σ H (EsP m) := (oe_tupOf h).imp fun z ⟨l, ez, hl⟩ => by subst ez; exact esP_of hl.2 (by rw [hl.1]; exact hn)
theorem rng1 {ta : TA} {n : Nat} (h : ∀ H1, Off a b H H1 → HS a b H1 → EAs ta σ H1 [.int ((n : Nat) : Int)]) (hz : n ≤ 1000000) : ∀ H1, Off a b H H1 → HS a b H1 → ∀ R : It → Hp → Prop, (∀ H2, Ex H1 H2 → R (Itr 0 n) H2) → iRng1 ta σ H1 R := fun H1 o hs R q => h H1 o hs H1 (Ex.refl _) _ fun vs H2 e ha => by
  obtain ⟨v, rfl, g⟩ := ha.args1
  obtain rfl := g.toInt
  exact ⟨(n : Int), rfl, by omega, by omega, by rw [show ((n : Nat) : Int).toNat = n from Int.toNat_natCast n]; exact q H2 e⟩
theorem rng2 {ta : TA} {lo hi : Int} {n : Nat} (h : ∀ H1, Off a b H H1 → HS a b H1 → EAs ta σ H1 [.int lo, .int hi]) (h0 : 0 ≤ lo) (h1 : lo ≤ 1000000) (h2 : 0 ≤ hi) (h3 : hi ≤ 1000000) (e : (hi - lo).toNat = n) : ∀ H1, Off a b H H1 → HS a b H1 → ∀ R : It → Hp → Prop, (∀ H2, Ex H1 H2 → R (Itr lo n) H2) → iRng2 ta σ H1 R := fun H1 o hs R q => h H1 o hs H1 (Ex.refl _) _ fun vs H2 ee ha => by
  obtain ⟨v, w, rfl, g, g2⟩ := ha.args2
  obtain rfl := g.toInt
  obtain rfl := g2.toInt
  exact ⟨lo, hi, rfl, ⟨by omega, by omega, by omega, by omega⟩, by rw [e]; exact q H2 ee⟩
theorem ed_min2 {i j : Int} (h1 : ED ta σ H (.int i)) (h2 : ED tb σ H (.int j)) : ED (tCB (fun xs H Q => ∃ i j, xs = [.int i, .int j] ∧ Q (.int (if j < i then j else i)) H) (tCons ta (tCons tb tNil))) σ H (.int (if j < i then j else i)) := ed_bc (eas2 h1 h2) fun xs H1 e ha Q q => by
  obtain ⟨v, w, rfl, g, g2⟩ := ha.args2
  obtain rfl := g.toInt
  obtain rfl := g2.toInt
  exact ⟨i, j, rfl, q _ H1 (Ex.refl _) (.int _)⟩
theorem ed_max2 {i j : Int} (h1 : ED ta σ H (.int i)) (h2 : ED tb σ H (.int j)) : ED (tCB (fun xs H Q => ∃ i j, xs = [.int i, .int j] ∧ Q (.int (if j > i then j else i)) H) (tCons ta (tCons tb tNil))) σ H (.int (if j > i then j else i)) := ed_bc (eas2 h1 h2) fun xs H1 e ha Q q => by
  obtain ⟨v, w, rfl, g, g2⟩ := ha.args2
  obtain rfl := g.toInt
  obtain rfl := g2.toInt
  exact ⟨i, j, rfl, q _ H1 (Ex.refl _) (.int _)⟩
theorem ed_lenF {i : Nat} {v : V} {f : Fam} (hi : σ[i]? = some (some v)) (hd : D H v (encF f)) : ED (tCB (fun xs H Q => ∃ x n, xs = [x] ∧ LenV K x H n ∧ Q (.int n) H) (tCons (tVar i) tNil)) σ H (.int ((f.length : Nat) : Int)) := ed_is (ed_lenT (ds := f.map encK) (ed_var hi hd)) (by rw [List.length_map])
/-- t[k:] -/
theorem ed_slFrom {ds : List PyData} {k : Int} (h : ED te σ H (.tuple ds)) (hk : ED tb σ H (.int k)) (k0 : 0 ≤ k) : ED (tSl (rSlA K) te (tPart tb) tNoPart) σ H (.tuple (ds.drop k.toNat)) := fun H1 e Q q =>
  h H1 e _ fun x H2 e2 hx => hk H2 (e.trans e2) _ fun y H3 e3 hy => by
    obtain ⟨a, xs, rfl, h1, h2⟩ := hx.toTup
    have ek := hy.toInt
    subst ek
    have e1 : HT.sIx xs.length 0 (some k) = min k.toNat xs.length := by
      have := HT.sIx_nat xs.length 0 k.toNat
      rwa [show ((k.toNat : Nat) : Int) = k by omega] at this
    refine ⟨k, rfl, a, xs, rfl, SqT.of (e3 _ _ h1), fun hw => ?_, fun hw p hp => ?_⟩
    · rw [e1] at hw
      have dk : ds.drop k.toNat = ds := by
        rcases Nat.eq_zero_or_pos k.toNat with z | z
        · rw [z]; rfl
        · have : xs.length = 0 := by omega
          rw [h2.len] at this
          rw [List.eq_nil_of_length_eq_zero this]; simp
      rw [dk] at q
      exact q _ _ (e2.trans e3) ((D.tup h1 h2).mono e3)
    · have e4 : cutV xs (some k) none = xs.drop k.toNat := by
        unfold cutV
        rw [HT.sIx_none, e1]
        rcases Nat.le_total k.toNat xs.length with g | g
        · rw [Nat.min_eq_left g, List.take_of_length_le (by rw [List.length_drop]; exact Nat.le_refl _)]
        · rw [Nat.min_eq_right g, List.drop_eq_nil_of_le (Nat.le_refl _), List.drop_eq_nil_of_le g]; simp
      rw [e4]
      exact q _ _ ((e2.trans e3).trans (Ex.new hp)) (.tup upd_same (((h2.mono e3).drop _).mono (Ex.new hp)))
end
theorem flat_Et' (l : List (Int × Int)) : flatT (.tuple (l.map encE)) = true := by show flatTs _ = true; exact flat_map (fun _ => rfl) l
theorem EvT.ex' {tt : TT} {σ : L2.St} {H H' : Hp} {c : Bool} (h : EvT tt σ H c) (e : Ex H H') : EvT tt σ H' c := fun H1 e1 Q q => h H1 (e.trans e1) Q q
theorem Wild.mono {n m : Nat} {f : Fam} (h : Wild n f) (le : n ≤ m) : Wild m f := ⟨fun k hk => Nat.le_trans (h.el k hk) le, fun k hk => ⟨Nat.le_trans (h.de k hk).1 le, (h.de k hk).2⟩⟩
section
variable {P : Program} {w : World} {K : PySem.W.Frag} {mg : Str → Option Value} {base : Heap}
/-! ### _law_turned -/
abbrev N_tu : List Str := ["_law_h", "_law_f", "_law_number_here", "_law_elders", "_law_deeds", "_law_cells", "_law_far", "_law_way", "_law_odd", "_law_k"]
theorem sc_tu : FnScope N_tu ["_law_h", "_law_f"] (defScope s_law_turned) := ⟨rfl, rfl, rfl, by decide +kernel, rfl, by decide +kernel, by decide +kernel⟩
def spTu : Sp := fun vs H Q _ => ∃ (a b : Addr) (f : Fam) (fv : V) (bd : Nat), vs = [.ref a, fv] ∧ HS a b H ∧ D H fv (encF f) ∧ 1 ≤ f.length ∧ f.length ≤ 7 ∧ Wild bd f ∧ 2 ≤ bd ∧ bd ≤ 200 ∧ ∀ g v H', Off a b H H' → HS a b H' → g.length = f.length → Wild (4 * bd) g → D H' v (encF g) → Q v H'
set_option maxHeartbeats 16000000 in
theorem ok_tu (B : Bt mg) (d : Df K mg "_law_turned" s_law_turned ["_law_h", "_law_f"]) (cN : Cl P w K mg base "_law_next" ["_law_h", "_law_many"] 1 spNext) : Cl P w K mg base "_law_turned" ["_law_h", "_law_f"] 2 spTu := by
  refine d.ok sc_tu (fun vs H Q E h => by obtain ⟨_, _, _, _, _, rfl, _⟩ := h; rfl) (fun fa cdv A outer s H vs Q E hr h => ?_)
  obtain ⟨a, b, f, fv, bd, rfl, hs, hf, f1, f7, Wf, b2, b200, q⟩ := h
  have h1 : Room 1 _ := hr
  have hu := hu64 hr
  refine ⟨_, pss_cons (ps_set (i := 2) sc_tu.nd rfl (.inl rfl) (pe_cl cN h1 (pa_cons (pv 0) (pa_cons (pe_callB call_len rfl B.len PySem.boot_len (pa_cons (pv 1) pa_nil)) pa_nil))))
 (pss_cons (ps_asg (pe_ix (r := rIxT K) ix_tup (pv 1) (pv 2) (fun _ _ => rfl)) (pg_tup rfl (pgs_cons (pg_name (i := 3) sc_tu.nd rfl (.inl rfl)) (pgs_cons (pg_name (i := 4) sc_tu.nd rfl (.inl rfl)) (pgs_cons (pg_name (i := 5) sc_tu.nd rfl (.inl rfl)) pgs_nil)))))
 (pss_cons (ps_set (i := 6) sc_tu.nd rfl (.inl rfl) (pe_cl cN h1 (pa_cons (pv 0) (pa_cons (pe_op op_pow pe_int pe_int) pa_nil))))
 (pss_cons (ps_set (i := 7) sc_tu.nd rfl (.inl rfl) (pe_cl cN h1 (pa_cons (pv 0) (pa_cons pe_int pa_nil))))
 (pss_cut (ps_if (pt_cmpR op_eq (pv 7) pe_int (nomark _)) (pss_cons (ps_set (i := 8) sc_tu.nd rfl (.inl rfl) (pe_lst (pa_cons (pe_tup (pa_cons (pv 2) (pa_cons pe_int pa_nil))) (pa_cons (pe_tup (pa_cons (pe_un un_neg pe_int) (pa_cons pe_int pa_nil))) (pa_cons (pe_tup (pa_cons (pe_op op_add (pv 2) (pv 6)) (pa_cons pe_int pa_nil))) (pa_cons (pe_tup (pa_cons pe_int (pa_cons pe_int pa_nil))) (pa_cons (pe_tup (pa_cons pe_int (pa_cons pe_int pa_nil))) (pa_cons (pe_tup (pa_cons pe_int (pa_cons (pe_un un_neg pe_int) pa_nil))) pa_nil))))))))
 (pss_one (ps_set (i := 3) sc_tu.nd rfl (.inl rfl) (pe_ix (r := rIxL K) ix_list (pe_lst (pa_cons (pe_op op_catA (pv 3) (pe_tup (pa_cons (pe_ix (r := rIxL K) ix_list (pv 8) (pe_cl cN h1 (pa_cons (pv 0) (pa_cons pe_int pa_nil))) (fun _ _ => rfl)) pa_nil))) (pa_cons (pe_callTy (show CallR _ _ (rTupOf K) from call_tuple_of) rfl B.tuple boot_tuple (pa_cons (pe_lc (own := [("_law_k", 9)]) (g := gName 9) (tt := tYes) rfl sc_tu.nd (pi_range1 rfl B.range (pa_cons (pe_callB (call_min2 rfl) rfl B.min boot_min (pa_cons pe_int (pa_cons (pv 2) pa_nil))) pa_nil)) (blkOk_by (N := N_tu) (sc := defScope s_law_turned) (by decide +kernel)) (fun _ _ _ _ _ => pg_name (i := 9) sc_tu.nd rfl (.inl rfl)) (fun _ _ _ _ _ => pts_nil) (fun _ _ _ _ _ => by exact (pe_tup (pa_cons (pv 9) (pa_cons pe_int pa_nil))))) pa_nil)) pa_nil))) (pe_cl cN h1 (pa_cons (pv 0) (pa_cons pe_int pa_nil))) (fun _ _ => rfl)))))
 (pss_one (ps_if (pt_cmpR op_eq (pv 7) pe_int (nomark _)) (pss_one (ps_set (i := 4) sc_tu.nd rfl (.inl rfl) (pe_ix (r := rIxL K) ix_list (pe_lst (pa_cons (pe_revS (pv 4)) (pa_cons (pe_op op_add_str (pv 4) (pv 4)) (pa_cons (pe_op op_add_str (pv 4) pe_str) (pa_cons (pe_op op_add_str (pv 4) pe_str) (pa_cons (pe_op op_add_str (pv 4) pe_str) (pa_cons (pe_op op_add_str pe_str (pv 4)) pa_nil))))))) (pe_cl cN h1 (pa_cons (pv 0) (pa_cons pe_int pa_nil))) (fun _ _ => rfl))))
 (pss_one (ps_if (pt_cmpR op_eq (pv 7) pe_int (nomark _)) (pss_one (ps_set (i := 5) sc_tu.nd rfl (.inl rfl) (pe_ix (r := rIxL K) ix_list (pe_lst (pa_cons (pe_un un_neg pe_int) (pa_cons pe_int (pa_cons (pe_op op_add pe_int (pv 6)) (pa_cons (pe_op op_sub (pe_un un_neg pe_int) (pv 6)) pa_nil))))) (pe_cl cN h1 (pa_cons (pv 0) (pa_cons pe_int pa_nil))) (fun _ _ => rfl))))
 (pss_one (ps_if (pt_cmpR op_eq (pv 7) pe_int (nomark _)) (pss_one (ps_set (i := 4) sc_tu.nd rfl (.inl rfl) (pe_slice sl_str (pv 4) (po_some pe_int) po_none)))
 (pss_cons (ps_set (i := 3) sc_tu.nd rfl (.inl rfl) (pe_callTy (show CallR _ _ (rTupOf K) from call_tuple_of) rfl B.tuple boot_tuple (pa_cons (pe_lc (own := [("_law_k", 9)]) (g := gName 9) (tt := tYes) rfl sc_tu.nd (pi_range2 rfl B.range (pa_cons (pe_callB (call_max2 rfl) rfl B.max boot_max (pa_cons pe_int (pa_cons (pe_op op_sub (pv 2) pe_int) pa_nil))) (pa_cons (pv 2) pa_nil))) (blkOk_by (N := N_tu) (sc := defScope s_law_turned) (by decide +kernel)) (fun _ _ _ _ _ => pg_name (i := 9) sc_tu.nd rfl (.inl rfl)) (fun _ _ _ _ _ => pts_nil) (fun _ _ _ _ _ => by exact (pe_tup (pa_cons (pv 9) (pa_cons (by exact (pe_cl cN h1 (pa_cons (pv 0) (pa_cons pe_int pa_nil)))) pa_nil))))) pa_nil)))
 (pss_one (ps_set (i := 4) sc_tu.nd rfl (.inl rfl) (pe_ix (r := rIxL K) ix_list (pe_lst (pa_cons pe_str (pa_cons (pv 4) pa_nil))) (pe_cl cN h1 (pa_cons (pv 0) (pa_cons pe_int pa_nil))) (fun _ _ => rfl))))))))))))
 (pss_one (ps_ret (pe_op op_catA (pe_op op_catA (pe_slice sl_tupA (pv 1) po_none (po_some (pv 2))) (pe_tup (pa_cons (pe_tup (pa_cons (pv 3) (pa_cons (pv 4) (pa_cons (pv 5) pa_nil)))) pa_nil))) (pe_slice sl_tupA (pv 1) (po_some (pe_op op_add (pv 2) pe_int)) po_none)))))))), ?_⟩
  try dsimp only
  -- a kind's number
  refine s_oe (a := a) (b := b) (σ := [some (.ref a), some fv, none, none, none, none, none, none, none, none]) (oe_next (n := ((f.length : Nat) : Int)) rfl (oe_of rfl fun H1 o _ => ed_lenF (i := 1) rfl (hf.keep (hs.tu o) (flat_F f))) (by omega) (by omega)) hs fun v2 d2 H1 o1 hs1 ⟨r, ed, r0, r1⟩ _ hv2 => ?_
  subst ed
  have ev := hv2.toInt
  subst ev
  obtain ⟨n, rfl⟩ : ∃ n : Nat, r = (n : Int) := ⟨r.toNat, by omega⟩
  have nl : n < f.length := by omega
  obtain ⟨k, hk⟩ : ∃ k, f[n]? = some k := ⟨_, List.getElem?_eq_getElem nl⟩
  have km := List.mem_of_getElem? hk
  have hf1 := hf.keep (hs.tu o1) (flat_F f)
  obtain ⟨kd1, kc1⟩ := Wf.de k km
  have ke1 := Wf.el k km
  try dsimp only
  refine sd_asg3 (d1 := .tuple (k.el.map encE)) (d2 := .str k.de) (d3 := .int k.ce) (ed_ixT (ds := f.map encK) (i := (n : Int)) (ed_var (i := 1) rfl hf1) (ed_var (i := 2) rfl (.int _)) (atI_nat (by rw [List.getElem?_map, hk]; rfl))) fun v3 v4 v5 H2 e2 g3 g4 g5 => ?_
  have ev4 := g4.toStr
  have ev5 := g5.toInt
  subst ev4 ev5
  have hs2 := hs1.ex e2
  have o2 := o1.trans (Off.ex e2)
  try dsimp only
  refine s_oe (a := a) (b := b) (σ := [some (.ref a), some fv, some (.int (n : Int)), some v3, some (.str k.de), some (.int k.ce), none, none, none, none]) (oe_next (n := (10 : Int) ^ (6 : Int).toNat) rfl (oe_of rfl fun H1 o _ => ed_I (ed_ci 10) (ed_ci 6) ⟨by decide, by decide, by decide⟩ fun _ => .int _) (by decide) (by decide)) hs2 fun v6 d6 H3 o3 hs3 ⟨far, ed, _, _⟩ _ hv6 => ?_
  subst ed
  have ev := hv6.toInt
  subst ev
  try dsimp only
  refine s_oe (a := a) (b := b) (σ := [some (.ref a), some fv, some (.int (n : Int)), some v3, some (.str k.de), some (.int k.ce), some (.int far), none, none, none]) (oe_next (n := 6) rfl (oe_of rfl fun H1 o _ => ed_ci 6) (by decide) (by decide)) hs3 fun v7 d7 H4 o4 hs4 ⟨way, ed, _, _⟩ _ hv7 => ?_
  subst ed
  have ev := hv7.toInt
  subst ev
  have o24 := o3.trans o4
  have g34 := g3.keep (hs2.tu o24) (flat_Et' k.el)
  have o04 := o2.trans o24
  have hf4 := hf.keep (hs.tu o04) (flat_F f)
  have oth : ∀ (i : Int), EvT (tTest (tOp rEq (tVar 7) (tC (.int i)))) [some (.ref a), some fv, some (.int (n : Int)), some v3, some (.str k.de), some (.int k.ce), some (.int far), some (.int way), none, none] H4 (decide (way = i)) := fun i => et_D (ed_eqI (ed_var (i := 7) rfl (.int _)) (ed_ci i))
  try dsimp only
  refine ⟨fun σ H' => ∃ (es : List (Int × Int)) (s : Str) (ce : Int) (w3 : V) (y8 : Option V), σ = [some (.ref a), some fv, some (.int (n : Int)), some w3, some (.str s), some (.int ce), some (.int far), some (.int way), y8, none] ∧ Off a b H4 H' ∧ HS a b H' ∧ D H' w3 (.tuple (es.map encE)) ∧ es.length ≤ 4 * bd ∧ s.cps.toList.length ≤ 4 * bd ∧ ∀ c ∈ s.cps.toList, c ∈ abcX, ?_, ?_⟩
  · have same : ∀ H', Ex H4 H' → Off a b H4 H' ∧ HS a b H' ∧ D H' v3 (.tuple (k.el.map encE)) := fun H' e => ⟨Off.ex e, hs4.ex e, g34.mono e⟩
    refine sd_if (oth 0) (fun _ H5 e5 => ?_) (fun _ H5 e5 => ?_)
    · have hs5 := hs4.ex e5
      try dsimp only
      refine s_ol (a := a) (b := b) (σ := [some (.ref a), some fv, some (.int (n : Int)), some v3, some (.str k.de), some (.int k.ce), some (.int far), some (.int way), none, none]) (ps := AllP 6 EP) (oe_lstU (oas_consU (oe_pair (oe_inI (oe_var hs5 (i := 2) rfl rfl (.int _))) (oe_inI (oe_ci 0))) (oas_consU (oe_pair (oe_inI (oe_of rfl fun _ _ _ => ed_m1)) (oe_inI (oe_ci 0))) (oas_consU (oe_pair (oe_inI (oe_of rfl fun _ _ _ => ed_I0 (ed_var (i := 2) rfl (.int _)) (ed_var (i := 6) rfl (.int _)) fun _ => .int _)) (oe_inI (oe_ci 1))) (oas_consU (oe_pair (oe_inI (oe_ci 0)) (oe_inI (oe_ci 0))) (oas_consU (oe_pair (oe_inI (oe_ci 0)) (oe_inI (oe_ci 2))) (oas_consU (oe_pair (oe_inI (oe_ci 0)) (oe_inI (oe_of rfl fun _ _ _ => ed_m1))) oas_nilU)))))) (by decide)) hs5 fun po ds H6 o6 hs6 pds lds => ?_
      have g36 := g34.keep (hs4.tu ((Off.ex e5).trans o6)) (flat_Et' k.el)
      have lz : n ≤ 7 := by omega
      try dsimp only
      refine s_oe (a := a) (b := b) (σ := [some (.ref a), some fv, some (.int (n : Int)), some v3, some (.str k.de), some (.int k.ce), some (.int far), some (.int way), some (.ref po), none]) (p := EsP (4 * bd)) (oe_pickU (n := 2) (oe_lstU (oas_consU ((oe_catE (n := bd) (m := 1) ((oe_var hs6 (i := 3) rfl (flat_Et' k.el) g36).imp fun d e => ⟨k.el, e, ke1⟩) (oe_esU (oas_consU (oe_pickU (n := 6) ((ol_var hs6 (i := 8) rfl lds).imp fun l e => by subst e; exact pds) (oe_next (n := 6) rfl (oe_ci 6) (by decide) (by decide))) oas_nilU) (by decide)) (by omega)).imp fun d h => h.mono (by omega)) (oas_consU (oe_esOf (n := min 4 n) (ol_range (lo := 0) (rng1 (n := min 4 n) (fun H7 o7 hs7 => eas1 (ed_is (ed_min2 (ed_ci 4) (ed_var (i := 2) rfl (.int _))) (by congr 1; split <;> omega))) (by omega)) (by omega) (fun _ => rfl) fun i H7 o7 hs7 hi => oe_pair (oe_inI (oe_var hs7 (i := 9) rfl rfl (.int _))) (oe_inI (oe_ci 0))) (by omega)) oas_nilU)) (by decide)) (oe_next (n := 2) rfl (oe_ci 2) (by decide) (by decide))) hs6 fun w3 d3 H7 o7 hs7 ⟨es, ed, le⟩ _ hw3 => ?_
      subst ed
      exact ⟨es, k.de, k.ce, w3, _, rfl, ((Off.ex e5).trans o6).trans o7, hs7, hw3, le, by omega, kc1⟩
    try dsimp only
    refine sd_if (EvT.ex' (oth 1) e5) (fun _ H6 e6 => ?_) (fun _ H6 e6 => ?_)
    · have hs6 := hs4.ex (e5.trans e6)
      have tx : OE a b (tVar 4) [some (.ref a), some fv, some (.int (n : Int)), some v3, some (.str k.de), some (.int k.ce), some (.int far), some (.int way), none, none] H6 (TxP bd) := (oe_var hs6 (i := 4) rfl rfl (.str _)).imp fun d e => ⟨k.de, e, kd1, kc1⟩
      try dsimp only
      refine s_oe (a := a) (b := b) (σ := [some (.ref a), some fv, some (.int (n : Int)), some v3, some (.str k.de), some (.int k.ce), some (.int far), some (.int way), none, none]) (p := TxP (4 * bd)) (oe_pickU (n := 6) (oe_lstU (oas_consU ((oe_rev tx (by omega)).imp fun d h => h.mono (by omega)) (oas_consU ((oe_addS tx tx (by omega)).imp fun d h => h.mono (by omega)) (oas_consU ((oe_addS tx (oe_txt (n := 1) (by decide) (by decide)) (by omega)).imp fun d h => h.mono (by omega)) (oas_consU ((oe_addS tx (oe_txt (n := 1) (by decide) (by decide)) (by omega)).imp fun d h => h.mono (by omega)) (oas_consU ((oe_addS tx (oe_txt (n := 2) (by decide) (by decide)) (by omega)).imp fun d h => h.mono (by omega)) (oas_consU ((oe_addS (oe_txt (n := 2) (by decide) (by decide)) tx (by omega)).imp fun d h => h.mono (by omega)) oas_nilU)))))) (by decide)) (oe_next (n := 6) rfl (oe_ci 6) (by decide) (by decide))) hs6 fun w4 d4 H7 o7 hs7 ⟨s, ed, ls, cs⟩ _ hw4 => ?_
      subst ed
      have ev := hw4.toStr
      subst ev
      exact ⟨k.el, s, k.ce, v3, _, rfl, (Off.ex (e5.trans e6)).trans o7, hs7, g34.keep (hs4.tu ((Off.ex (e5.trans e6)).trans o7)) (flat_Et' k.el), by omega, ls, cs⟩
    try dsimp only
    refine sd_if (EvT.ex' (oth 2) (e5.trans e6)) (fun _ H7 e7 => ?_) (fun _ H7 e7 => ?_)
    · have e47 := (e5.trans e6).trans e7
      have hs7 := hs4.ex e47
      try dsimp only
      refine s_oe (a := a) (b := b) (σ := [some (.ref a), some fv, some (.int (n : Int)), some v3, some (.str k.de), some (.int k.ce), some (.int far), some (.int way), none, none]) (p := InP) (oe_pickU (n := 4) (oe_lstU (oas_consU (oe_inI (oe_of rfl fun _ _ _ => ed_m1)) (oas_consU (oe_inI (oe_ci 4)) (oas_consU (oe_inI (oe_of rfl fun _ _ _ => ed_I0 (ed_ci 4) (ed_var (i := 6) rfl (.int _)) fun _ => .int _)) (oas_consU (oe_inI (oe_of rfl fun _ _ _ => ed_I0 ed_m1 (ed_var (i := 6) rfl (.int _)) fun _ => .int _)) oas_nilU)))) (by decide)) (oe_next (n := 4) rfl (oe_ci 4) (by decide) (by decide))) hs7 fun w5 d5 H8 o8 hs8 ⟨ce, ed⟩ _ hw5 => ?_
      subst ed
      have ev := hw5.toInt
      subst ev
      exact ⟨k.el, k.de, ce, v3, _, rfl, (Off.ex e47).trans o8, hs8, g34.keep (hs4.tu ((Off.ex e47).trans o8)) (flat_Et' k.el), by omega, by omega, kc1⟩
    try dsimp only
    refine sd_if (EvT.ex' (oth 3) ((e5.trans e6).trans e7)) (fun _ H8 e8 => ?_) (fun _ H8 e8 => ?_)
    · have e48 := ((e5.trans e6).trans e7).trans e8
      have hs8 := hs4.ex e48
      have tx : OE a b (tVar 4) [some (.ref a), some fv, some (.int (n : Int)), some v3, some (.str k.de), some (.int k.ce), some (.int far), some (.int way), none, none] H8 (TxP bd) := (oe_var hs8 (i := 4) rfl rfl (.str _)).imp fun d e => ⟨k.de, e, kd1, kc1⟩
      try dsimp only
      refine s_oe (a := a) (b := b) (σ := [some (.ref a), some fv, some (.int (n : Int)), some v3, some (.str k.de), some (.int k.ce), some (.int far), some (.int way), none, none]) (p := TxP bd) (oe_from tx ((oe_ci 1).imp fun d e => ⟨1, e⟩) (by omega)) hs8 fun w4 d4 H9 o9 hs9 ⟨s, ed, ls, cs⟩ _ hw4 => ?_
      subst ed
      have ev := hw4.toStr
      subst ev
      exact ⟨k.el, s, k.ce, v3, _, rfl, (Off.ex e48).trans o9, hs9, g34.keep (hs4.tu ((Off.ex e48).trans o9)) (flat_Et' k.el), by omega, by omega, cs⟩
    · have e48 := ((e5.trans e6).trans e7).trans e8
      have hs8 := hs4.ex e48
      try dsimp only
      refine s_oe (a := a) (b := b) (σ := [some (.ref a), some fv, some (.int (n : Int)), some v3, some (.str k.de), some (.int k.ce), some (.int far), some (.int way), none, none]) (p := EsP 7) (oe_esOf (n := min 3 n) (ol_range (lo := (if (n : Int) - 3 > 0 then (n : Int) - 3 else 0)) (rng2 (lo := (if (n : Int) - 3 > 0 then (n : Int) - 3 else 0)) (hi := (n : Int)) (fun H9 o9 hs9 => eas2 (ed_max2 (ed_ci 0) (ed_I0 (i := (n : Int)) (j := 3) (d := .int ((n : Int) - 3)) (ed_var (i := 2) rfl (.int _)) (ed_ci 3) fun _ => .int _)) (ed_var (i := 2) rfl (.int _))) (by split <;> omega) (by split <;> omega) (by omega) (by omega) (by split <;> omega)) (by omega) (fun _ => rfl) fun i H9 o9 hs9 hi => oe_pair (oe_inI (oe_var hs9 (i := 9) rfl rfl (.int _))) (oe_in (n := 2) (oe_next (n := 2) rfl (oe_ci 2) (by decide) (by decide)))) (by omega)) hs8 fun w3 d3 H9 o9 hs9 ⟨es, ed, le⟩ _ hw3 => ?_
      subst ed
      have tx : OE a b (tVar 4) [some (.ref a), some fv, some (.int (n : Int)), some w3, some (.str k.de), some (.int k.ce), some (.int far), some (.int way), none, none] H9 (TxP bd) := (oe_var hs9 (i := 4) rfl rfl (.str _)).imp fun d e => ⟨k.de, e, kd1, kc1⟩
      try dsimp only
      refine s_oe (a := a) (b := b) (σ := [some (.ref a), some fv, some (.int (n : Int)), some w3, some (.str k.de), some (.int k.ce), some (.int far), some (.int way), none, none]) (p := TxP bd) (oe_pickU (n := 2) (oe_lstU (oas_consU (oe_txt (s := "") (by show 0 ≤ bd; omega) (by decide)) (oas_consU tx oas_nilU)) (by decide)) (oe_next (n := 2) rfl (oe_ci 2) (by decide) (by decide))) hs9 fun w4 d4 H10 o10 hs10 ⟨s, ed, ls, cs⟩ _ hw4 => ?_
      subst ed
      have ev := hw4.toStr
      subst ev
      exact ⟨es, s, k.ce, w3, _, rfl, ((Off.ex e48).trans o9).trans o10, hs10, hw3.keep (hs9.tu o10) (flat_Et' es), by omega, by omega, cs⟩
  rintro σ H5 ⟨es, s, ce, w3, y8, rfl, o5, hs5, g35, les, lss, cs⟩
  try dsimp only
  have hf5 : D H5 fv (.tuple (f.map encK)) := hf4.keep (hs4.tu o5) (flat_F f)
  refine sd_ret (d := encF (f.take n ++ [⟨es, s, ce⟩] ++ f.drop (n + 1))) (ed_is (ed_catT (ds := (f.map encK).take n ++ [encK ⟨es, s, ce⟩]) (es := (f.map encK).drop (n + 1)) (ed_catT (ds := (f.map encK).take n) (es := [encK ⟨es, s, ce⟩]) (ed_is (ed_slTake (k := (n : Int)) (ed_var (i := 1) rfl hf5) (ed_var (i := 2) rfl (.int _)) (by omega)) (by rw [Int.toNat_natCast])) (ed_tup (ds := [encK ⟨es, s, ce⟩]) (eas1 (ed_tup (ds := [.tuple (es.map encE), .str s, .int ce]) (eas3 (ed_var (i := 3) rfl g35) (ed_var (i := 4) rfl (.str _)) (ed_var (i := 5) rfl (.int _))) (by show 3 ≤ 100000; decide))) (by show 1 ≤ 100000; decide)) (by rw [List.length_take, List.length_map]; show _ + 1 ≤ _; omega)) (ed_is (ed_slFrom (k := (n : Int) + 1) (ed_var (i := 1) rfl hf5) (ed_I0 (i := (n : Int)) (j := 1) (ed_var (i := 2) rfl (.int _)) (ed_ci 1) fun _ => .int _) (by omega)) (by rw [show ((n : Int) + 1).toNat = n + 1 by omega])) (by rw [List.length_append, List.length_take, List.length_drop, List.length_map]; show _ + 1 + _ ≤ _; omega)) (by unfold encF; rw [List.map_append, List.map_append, List.map_take, List.map_drop]; rfl)) fun v H6 e6 hv => ?_
  refine q _ v H6 ((o04.trans o5).trans (Off.ex e6)) (hs5.ex e6) (by rw [List.length_append, List.length_append, List.length_take, List.length_drop]; show _ + 1 + _ = _; omega) ⟨fun k' hk' => ?_, fun k' hk' => ?_⟩ hv
  · rcases List.mem_append.mp hk' with h | h
    · rcases List.mem_append.mp h with h | h
      · have := Wf.el k' (List.mem_of_mem_take h); omega
      · rw [List.mem_singleton.mp h]; exact les
    · have := Wf.el k' (List.mem_of_mem_drop h); omega
  · rcases List.mem_append.mp hk' with h | h
    · rcases List.mem_append.mp h with h | h
      · have := Wf.de k' (List.mem_of_mem_take h); exact ⟨by omega, this.2⟩
      · rw [List.mem_singleton.mp h]; exact ⟨lss, cs⟩
    · have := Wf.de k' (List.mem_of_mem_drop h); exact ⟨by omega, this.2⟩
end
end KS
end
noncomputable section
namespace KS
open PySem PySem.Spec PyProof.Rows L2 Evl
open PySem.Froz (sing)
theorem fam_of {n : Nat} : ∀ {l : List PyData}, (∀ d ∈ l, KP n d) → ∃ g : Fam, l = g.map encK ∧ g.length = l.length ∧ Wild n g
  | [], _ => ⟨[], rfl, rfl, fun k h => (nomatch h), fun k h => (nomatch h)⟩
  | d :: l, h => by
    obtain ⟨k, hk, h1, h2, h3⟩ := h d List.mem_cons_self
    obtain ⟨g, g1, g2, W⟩ := fam_of fun d hd => h d (List.mem_cons_of_mem _ hd)
    refine ⟨k :: g, by rw [hk, g1]; rfl, by rw [List.length_cons, List.length_cons, g2], fun k' hk' => ?_, fun k' hk' => ?_⟩
    · rcases List.mem_cons.mp hk' with rfl | hk'
      · exact h1
      · exact W.el k' hk'
    · rcases List.mem_cons.mp hk' with rfl | hk'
      · exact ⟨h2, h3⟩
      · exact W.de k' hk'
section
variable {K : PySem.W.Frag} {a b : Addr} {te ta tb tc tl tn : TE} {ts tr : TA} {σ : L2.St} {H H' : Hp} {p p' q : PyData → Prop} {n m : Nat}
theorem oe_kind (h1 : OE a b ta σ H (EsP n)) (h2 : OE a b tb σ H (TxP n)) (h3 : OE a b tc σ H InP) : OE a b (tTup (tCons ta (tCons tb (tCons tc tNil)))) σ H (KP n) :=
  (oe_tup (oas_cons h1 (oas_cons h2 (oas_cons h3 oas_nil))) (by rintro l ⟨d, r, rfl, _, e, r', rfl, _, e', r'', rfl, _, rfl⟩; show 3 ≤ 100000; decide)).imp fun z ⟨l, ez, d, r, e1, ⟨es, e2, l2⟩, d', r', e3, ⟨s, e4, l4, c4⟩, d'', r'', e5, ⟨j, e6⟩, e7⟩ => by
    subst ez e1 e2 e3 e4 e5 e6 e7
    exact ⟨⟨es, s, j⟩, rfl, l2, l4, c4⟩
theorem oe_fam (h : OAs a b ts σ H (AllP n (KP m))) (hz : n ≤ 1000) : OE a b (tTup ts) σ H (fun d => ∃ g : Fam, d = encF g ∧ g.length = n ∧ Wild m g) := (oe_tup h fun l hl => by rw [hl.1]; omega).imp fun z ⟨l, ez, hl⟩ => by
  subst ez
  obtain ⟨g, g1, g2, W⟩ := fam_of hl.2
  exact ⟨g, by rw [g1]; rfl, by rw [g2, hl.1], W⟩
theorem oe_fdiv {k : Int} (h1 : OE a b ta σ H InP) (h2 : OE a b tb σ H (· = .int k)) (k0 : 0 < k) (k1 : k < 1000) : OE a b (tOp (rI CDivN fun i j => .int (i.fdiv j)) ta tb) σ H InP := oe_op h1 h2 fun d e x y H1 ⟨i, hi⟩ he hs hx hy Q q => by
  subst hi he
  exact ⟨i, k, hx.toInt, hy.toInt, ⟨by omega, by omega⟩, q _ (.int _) H1 (Ex.refl _) ⟨_, rfl⟩ rfl (.int _)⟩
end
section
variable {P : Program} {w : World} {K : PySem.W.Frag} {mg : Str → Option Value} {base : Heap}
def spFam (n m : Nat) : Sp := fun vs H Q _ => ∃ (a b : Addr), vs = [.ref a] ∧ HS a b H ∧ ∀ g v H', Off a b H H' → HS a b H' → g.length ≤ n → Wild m g → D H' v (encF g) → Q v H'
/-! ### _law_torn -/
abbrev N_to : List Str := ["_law_h", "_law_sign", "_law_low", "_law_elders", "_law_last", "_law_k"]
theorem sc_to : FnScope N_to ["_law_h"] (defScope s_law_torn) := ⟨rfl, rfl, rfl, by decide +kernel, rfl, by decide +kernel, by decide +kernel⟩
set_option maxHeartbeats 16000000 in
theorem ok_to (B : Bt mg) (d : Df K mg "_law_torn" s_law_torn ["_law_h"]) (cN : Cl P w K mg base "_law_next" ["_law_h", "_law_many"] 1 spNext) : Cl P w K mg base "_law_torn" ["_law_h"] 2 (spFam 4 6) := by
  refine d.ok sc_to (fun vs H Q E h => by obtain ⟨_, _, rfl, _⟩ := h; rfl) (fun fa cdv A outer s H vs Q E hr h => ?_)
  obtain ⟨a, b, rfl, hs, q⟩ := h
  have h1 : Room 1 _ := hr
  have hu := hu64 hr
  refine ⟨_, pss_cons (ps_set (i := 1) sc_to.nd rfl (.inl rfl) (pe_ix (r := rIxS) ix_str pe_str (pe_cl cN h1 (pa_cons (pv 0) (pa_cons pe_int pa_nil))) (fun _ _ => rfl)))
 (pss_cons (ps_set (i := 2) sc_to.nd rfl (.inl rfl) (pe_slice sl_str pe_str (po_some (pe_cl cN h1 (pa_cons (pv 0) (pa_cons pe_int pa_nil)))) po_none))
 (pss_cons (ps_setLc (i := 3) (own := [("_law_k", 5)]) (g := gName 5) (tt := tYes) rfl sc_to.nd rfl rfl (sw_true rfl rfl rfl (by decide +kernel)) (pi_range1 rfl B.range (pa_cons pe_int pa_nil)) (blkOk_by (N := N_to) (sc := defScope s_law_torn) (by decide +kernel)) (fun _ _ _ _ _ => pg_name (i := 5) sc_to.nd rfl (.inl rfl)) (fun _ _ _ _ _ => pts_nil) (fun _ _ _ _ _ => by exact (pe_tup (pa_cons (pe_tup (pa_cons pe_int (pa_cons (by exact (pe_cl cN h1 (pa_cons (pv 0) (pa_cons pe_int pa_nil)))) pa_nil))) pa_nil))))
 (pss_cons (ps_set (i := 4) sc_to.nd rfl (.inl rfl) (pe_ix (r := rIxL K) ix_list (pe_lst (pa_cons pe_str (pa_cons (pv 1) (pa_cons pe_str pa_nil)))) (pe_cl cN h1 (pa_cons (pv 0) (pa_cons pe_int pa_nil))) (fun _ _ => rfl)))
 (pss_one (ps_ret (pe_tup (pa_cons (pe_tup (pa_cons (pe_tup pa_nil) (pa_cons pe_str (pa_cons pe_int pa_nil)))) (pa_cons (pe_tup (pa_cons (pe_ix (r := rIxL K) ix_list (pv 3) pe_int (fun _ _ => rfl)) (pa_cons (pv 1) (pa_cons pe_int pa_nil)))) (pa_cons (pe_tup (pa_cons (pe_ix (r := rIxL K) ix_list (pv 3) pe_int (fun _ _ => rfl)) (pa_cons (pe_ix (r := rIxL K) ix_list (pe_lst (pa_cons pe_str (pa_cons (pv 1) (pa_cons (pv 2) pa_nil)))) (pe_cl cN h1 (pa_cons (pv 0) (pa_cons pe_int pa_nil))) (fun _ _ => rfl)) (pa_cons pe_int pa_nil)))) (pa_cons (pe_tup (pa_cons (pe_tup (pa_cons (pe_tup (pa_cons pe_int (pa_cons (pe_cl cN h1 (pa_cons (pv 0) (pa_cons pe_int pa_nil))) pa_nil))) (pa_cons (pe_tup (pa_cons pe_int (pa_cons pe_int pa_nil))) pa_nil))) (pa_cons (pv 4) (pa_cons pe_int pa_nil)))) pa_nil)))))))))), ?_⟩
  try dsimp only
  refine s_oe (a := a) (b := b) (σ := [some (.ref a), none, none, none, none, none]) (p := TxP 1) ((oe_sign (n := 6) (s := "abcdef") (oe_next (n := 6) rfl (oe_ci 6) (by decide) (by decide)) (by decide) (by decide)).imp fun d ⟨c, hc, e⟩ => ⟨_, e, Nat.le_refl 1, fun c' hc' => ?_⟩) hs fun v1 d1 H1 o1 hs1 ⟨s1, ed, l1, c1⟩ _ hv1 => ?_
  · have e1 : c' = c := by simpa using hc'
    have : ∀ c ∈ ("abcdef" : Str).cps.toList, c ∈ abcX := by decide
    rw [e1]; exact this c hc
  subst ed
  have ev := hv1.toStr
  subst ev
  have six : ∀ c ∈ ("abcdef" : Str).cps.toList, c ∈ abcX := by decide
  try dsimp only
  refine s_oe (a := a) (b := b) (σ := [some (.ref a), some (.str s1), none, none, none, none]) (p := TxP 6) (oe_from (oe_txt (by decide) six) (oe_in (n := 6) (oe_next (n := 6) rfl (oe_ci 6) (by decide) (by decide))) (by decide)) hs1 fun v2 d2 H2 o2 hs2 ⟨s2, ed, l2, c2⟩ _ hv2 => ?_
  subst ed
  have ev := hv2.toStr
  subst ev
  try dsimp only
  refine s_ol (a := a) (b := b) (σ := [some (.ref a), some (.str s1), some (.str s2), none, none, none]) (ps := AllP 2 (EsP 6)) (ol_range (lo := 0) (rng1 (n := 2) (fun _ _ _ => eas1 (ed_ci 2)) (by decide)) (by decide) (fun _ => rfl) fun i H3 o3 hs3 hi => (oe_esU (oas_consU (oe_pair (oe_inI (oe_ci 0)) (oe_in (n := 2) (oe_next (n := 2) rfl (oe_ci 2) (by decide) (by decide)))) oas_nilU) (by decide)).imp fun d h => h.mono (by decide)) hs2 fun pe de H3 o3 hs3 pde lde => ?_
  have tx1 : ∀ (H' : Hp) (y3 y4 : Option V), HS a b H' → OE a b (tVar 1) [some (.ref a), some (.str s1), some (.str s2), y3, y4, none] H' (TxP 6) := fun H' y3 y4 hs' => (oe_var hs' (i := 1) rfl rfl (.str _)).imp fun d e => ⟨s1, e, by omega, c1⟩
  have tx2 : ∀ (H' : Hp) (y3 y4 : Option V), HS a b H' → OE a b (tVar 2) [some (.ref a), some (.str s1), some (.str s2), y3, y4, none] H' (TxP 6) := fun H' y3 y4 hs' => (oe_var hs' (i := 2) rfl rfl (.str _)).imp fun d e => ⟨s2, e, l2, c2⟩
  have tx0 : ∀ (σ : L2.St) (H' : Hp), OE a b (tC (.str ("" : Str))) σ H' (TxP 6) := fun σ H' => oe_txt (by decide) (by decide)
  have txA : ∀ (σ : L2.St) (H' : Hp), OE a b (tC (.str ("abcdef" : Str))) σ H' (TxP 6) := fun σ H' => oe_txt (by decide) six
  try dsimp only
  refine s_oe (a := a) (b := b) (σ := [some (.ref a), some (.str s1), some (.str s2), some (.ref pe), none, none]) (p := TxP 6) (oe_pickU (n := 3) (oe_lstU (oas_consU (tx0 _ _) (oas_consU (tx1 _ _ _ hs3) (oas_consU (txA _ _) oas_nilU))) (by decide)) (oe_next (n := 3) rfl (oe_ci 3) (by decide) (by decide))) hs3 fun v4 d4 H4 o4 hs4 ⟨s4, ed, l4, c4⟩ _ hv4 => ?_
  subst ed
  have ev := hv4.toStr
  subst ev
  have lde4 := lde.offN hs3 (OffN.ofOff o4)
  have ixE : ∀ (j : Nat), j < 2 → OE a b (tOp (rIxL K) (tVar 3) (tC (.int ((j : Nat) : Int)))) [some (.ref a), some (.str s1), some (.str s2), some (.ref pe), some (.str s4), none] H4 (EsP 6) := fun j hj => oe_pickU (n := 2) ((ol_var hs4 (i := 3) rfl lde4).imp fun l e => by subst e; exact pde) ((oe_ci _).imp fun d e => ⟨_, e, by omega, by omega⟩)
  try dsimp only
  refine s_oret (a := a) (b := b) (σ := [some (.ref a), some (.str s1), some (.str s2), some (.ref pe), some (.str s4), none]) (oe_fam (n := 4) (m := 6) (oas_consU (oe_kind ((oe_esU oas_nilU (by decide)).imp fun d h => h.mono (by decide)) (txA _ _) (oe_inI (oe_ci 0))) (oas_consU (oe_kind (ixE 0 (by decide)) (tx1 _ _ _ hs4) (oe_inI (oe_ci 1))) (oas_consU (oe_kind (ixE 1 (by decide)) (oe_pickU (n := 3) (oe_lstU (oas_consU (tx0 _ _) (oas_consU (tx1 _ _ _ hs4) (oas_consU (tx2 _ _ _ hs4) oas_nilU))) (by decide)) (oe_next (n := 3) rfl (oe_ci 3) (by decide) (by decide))) (oe_inI (oe_ci 1))) (oas_consU (oe_kind ((oe_esU (oas_consU (oe_pair (oe_inI (oe_ci 1)) (oe_in (n := 2) (oe_next (n := 2) rfl (oe_ci 2) (by decide) (by decide)))) (oas_consU (oe_pair (oe_inI (oe_ci 2)) (oe_inI (oe_ci 0))) oas_nilU)) (by decide)).imp fun d h => h.mono (by decide)) ((oe_var hs4 (i := 4) rfl rfl (.str _)).imp fun d e => ⟨s4, e, l4, c4⟩) (oe_inI (oe_ci 0))) oas_nilU)))) (by decide)) hs4 fun v d H5 o5 hs5 ⟨g, ed, gl, W⟩ _ hv => ?_
  subst ed
  exact q g v H5 ((((o1.trans o2).trans o3).trans o4).trans o5) hs5 (by omega) W hv
/-! ### _law_deep -/
abbrev N_de : List Str := ["_law_h", "_law_often", "_law_found", "_law_number_here", "_law_elders", "_law_k"]
theorem sc_de : FnScope N_de ["_law_h"] (defScope s_law_deep) := ⟨rfl, rfl, rfl, by decide +kernel, rfl, by decide +kernel, by decide +kernel⟩
set_option maxHeartbeats 16000000 in
theorem ok_de (B : Bt mg) (d : Df K mg "_law_deep" s_law_deep ["_law_h"]) (cN : Cl P w K mg base "_law_next" ["_law_h", "_law_many"] 1 spNext) : Cl P w K mg base "_law_deep" ["_law_h"] 2 (spFam 7 6) := by
  refine d.ok sc_de (fun vs H Q E h => by obtain ⟨_, _, rfl, _⟩ := h; rfl) (fun fa cdv A outer s H vs Q E hr h => ?_)
  obtain ⟨a, b, rfl, hs, q⟩ := h
  have h1 : Room 1 _ := hr
  have hu := hu64 hr
  refine ⟨_, pss_cons (ps_set (i := 1) sc_de.nd rfl (.inr rfl) (pe_op op_add pe_int (pe_cl cN h1 (pa_cons (pv 0) (pa_cons pe_int pa_nil)))))
 (pss_cons (ps_set (i := 2) sc_de.nd rfl (.inl rfl) (pe_lst pa_nil))
 (pss_cons (ps_for PassesOwn.never rfl (pi_range1 rfl B.range (pa_cons (pe_op op_add pe_int (pe_cl cN h1 (pa_cons (pv 0) (pa_cons pe_int pa_nil)))) pa_nil)) (pg_name (i := 3) sc_de.nd rfl (.inl rfl))
 (pss_cons (ps_setLc (i := 4) (own := [("_law_k", 5)]) (g := gName 5) (tt := tYes) rfl sc_de.nd rfl rfl (sw_true rfl rfl rfl (by decide +kernel)) (pi_range2 rfl B.range (pa_cons (pe_callB (call_max2 rfl) rfl B.max boot_max (pa_cons pe_int (pa_cons (pe_op op_sub (pv 3) pe_int) pa_nil))) (pa_cons (pv 3) pa_nil))) (blkOk_by (N := N_de) (sc := defScope s_law_deep) (by decide +kernel)) (fun _ _ _ _ _ => pg_name (i := 5) sc_de.nd rfl (.inl rfl)) (fun _ _ _ _ _ => pts_nil) (fun _ _ _ _ _ => by exact (pe_tup (pa_cons (pv 5) (pa_cons (pe_op op_fdivN (by exact (pe_cl cN h1 (pa_cons (pv 0) (pa_cons (pv 1) pa_nil)))) (pe_op op_sub (pv 1) pe_int)) pa_nil)))))
 (pss_one (ps_expr (pe_bm PySem.F.plainAttrs_list PySem.F.slot_list_append PySem.F.type_list_append mt_append (pv 2) (pa_cons (pe_tup (pa_cons (pe_callTy (show CallR _ _ (rTupOf K) from call_tuple_of) rfl B.tuple boot_tuple (pa_cons (pv 4) pa_nil)) (pa_cons pe_str (pa_cons (pe_cl cN h1 (pa_cons (pv 0) (pa_cons pe_int pa_nil))) pa_nil)))) pa_nil))))))
 (pss_one (ps_ret (pe_callTy (show CallR _ _ (rTupOf K) from call_tuple_of) rfl B.tuple boot_tuple (pa_cons (pv 2) pa_nil)))))), ?_⟩
  try dsimp only
  refine s_oe (a := a) (b := b) (σ := [some (.ref a), none, none, none, none, none]) (p := fun d => ∃ r : Int, d = .int r ∧ 3 ≤ r ∧ r < 23) (oe_op (r := rI0 fun i j => .int (i + j)) (oe_ci 3) (oe_next (n := 20) rfl (oe_ci 20) (by decide) (by decide)) fun d e x y H1 hd ⟨r, he, r0, r1⟩ hs hx hy Q q => ?_) hs fun v1 d1 H1 o1 hs1 ⟨often, ed, f0, f1⟩ _ hv1 => ?_
  · subst hd he
    exact ⟨3, r, hx.toInt, hy.toInt, q _ (.int (3 + r)) H1 (Ex.refl _) ⟨_, rfl, by omega, by omega⟩ rfl (.int _)⟩
  subst ed
  have ev := hv1.toInt
  subst ev
  try dsimp only
  refine sl_asg (ds := []) (el_lst' eas_nil (by decide)) fun p xs H2 np e2 hp ha => ?_
  have xs0 : xs = [] := by cases ha; rfl
  subst xs0
  have hs2 := hs1.ex e2
  have pab := hs1.ne np
  try dsimp only
  -- how many
  refine (oe_op (a := a) (b := b) (σ := [some (.ref a), some (.int often), some (.ref p), none, none, none]) (r := rI0 fun i j => .int (i + j)) (p' := fun d => ∃ r : Int, d = .int r ∧ 4 ≤ r ∧ r < 8) (oe_ci 4) (oe_next (n := 4) rfl (oe_ci 4) (by decide) (by decide)) fun d e x y H1 hd ⟨r, he, r0, r1⟩ hs hx hy Q q => ?_) H2 (Off.refl _ _ _) hs2 _ fun v3 d3 H3 o3 hs3 ⟨many, ed, m0, m1⟩ _ hv3 => ?_
  · subst hd he
    exact ⟨4, r, hx.toInt, hy.toInt, q _ (.int (4 + r)) H1 (Ex.refl _) ⟨_, rfl, by omega, by omega⟩ rfl (.int _)⟩
  subst ed
  have ev := hv3.toInt
  subst ev
  have hp3 := o3 _ _ pab.1 pab.2 hp
  refine ⟨many, rfl, by omega, by omega, for_range (lo := 0) (n := many.toNat) (fun i σ H' => (∃ y3 y4, σ = [some (.ref a), some (.int often), some (.ref p), y3, y4, none]) ∧ Off a b H1 H' ∧ HS a b H' ∧ ∃ acc g, H' p = some (.lst acc) ∧ DA H' acc (g.map encK) ∧ g.length = i ∧ Wild 6 g) ⟨⟨_, _, rfl⟩, (Off.ex e2).trans o3, hs3, [], [], hp3, .nil, rfl, ⟨fun k h => (nomatch h), fun k h => (nomatch h)⟩⟩ (fun i σ H4 hi ⟨⟨y3, y4, es⟩, o4, hs4, acc, g, hacc, hda, gl, W⟩ => ?_) (fun σ H4 ⟨⟨y3, y4, es⟩, o4, hs4, acc, g, hacc, hda, gl, W⟩ => ?_)⟩
  · subst es
    have i0 : (0 : Int) + (i : Int) = (i : Int) := Int.zero_add _
    rw [i0]
    try dsimp only
    refine s_ol (a := a) (b := b) (σ := [some (.ref a), some (.int often), some (.ref p), some (.int (i : Int)), y4, none]) (ps := AllP (min 3 i) EP) (ol_range (lo := (if (i : Int) - 3 > 0 then (i : Int) - 3 else 0)) (rng2 (lo := (if (i : Int) - 3 > 0 then (i : Int) - 3 else 0)) (hi := (i : Int)) (fun H9 o9 hs9 => eas2 (ed_max2 (ed_ci 0) (ed_I0 (i := (i : Int)) (j := 3) (d := .int ((i : Int) - 3)) (ed_var (i := 3) rfl (.int _)) (ed_ci 3) fun _ => .int _)) (ed_var (i := 3) rfl (.int _))) (by split <;> omega) (by split <;> omega) (by omega) (by omega) (by split <;> omega)) (by omega) (fun _ => rfl) fun j H9 o9 hs9 hj => oe_pair (oe_inI (oe_var hs9 (i := 5) rfl rfl (.int _))) (oe_fdiv (k := often - 1) (oe_next (n := often) rfl (oe_var hs9 (i := 1) rfl rfl (.int _)) (by omega) (by omega) |>.imp fun d ⟨r, e, _⟩ => ⟨r, e⟩) (oe_of rfl fun _ _ _ => ed_I0 (ed_var (i := 1) rfl (.int _)) (ed_ci 1) fun _ => .int _) (by omega) (by omega))) hs4 fun pe de H5 o5 hs5 pde lde => ?_
    have hacc5 := o5 _ _ pab.1 pab.2 hacc
    try dsimp only
    refine ⟨.ref p, rfl, .inl ⟨rfl, _, SqL.of hacc5⟩, ?_⟩
    refine (oe_kind (a := a) (b := b) (σ := [some (.ref a), some (.int often), some (.ref p), some (.int (i : Int)), some (.ref pe), none]) (n := 6) (oe_esOf (n := min 3 i) ((ol_var hs5 (i := 4) rfl lde).imp fun l e => by subst e; exact pde) (by omega)) (oe_txt (s := "") (by decide) (by decide)) (oe_in (n := 4) (oe_next (n := 4) rfl (oe_ci 4) (by decide) (by decide)))) H5 (Off.refl _ _ _) hs5 _ fun v d H6 o6 hs6 ⟨k, ed, k1, k2, k3⟩ _ hv => ?_
    subst ed
    have hacc6 := o6 _ _ pab.1 pab.2 hacc5
    have tk := tu_upd (ys := acc ++ [v]) hacc6
    have o46 := o5.trans o6
    refine ⟨p, acc, v, rfl, rfl, hacc6, sz_lt (by rw [hda.len, List.length_map, gl]; omega), ⟨_, _, rfl⟩, ?_, hs6.put pab.1 pab.2, acc ++ [v], g ++ [k], upd_same, ?_, by rw [List.length_append, gl]; rfl, ⟨fun k' hk' => ?_, fun k' hk' => ?_⟩⟩
    · intro c u c1 c2 hc
      have nc : c ≠ p := fun z => by rw [z, np] at hc; cases hc
      rw [upd_ne nc]
      exact o46 _ _ c1 c2 (o4 _ _ c1 c2 hc)
    · rw [List.map_append]
      exact DA.append (DA.keep tk (flat_map flat_K g) (hda.keep (hs4.tu o46) (flat_map flat_K g))) (.one (D.keep tk (flat_K k) hv))
    · rcases List.mem_append.mp hk' with h | h
      · exact W.el k' h
      · rw [List.mem_singleton.mp h]; exact k1
    · rcases List.mem_append.mp hk' with h | h
      · exact W.de k' h
      · rw [List.mem_singleton.mp h]; exact ⟨k2, k3⟩
  · subst es
    try dsimp only
    refine sd_ret (d := encF g) (ed_tupOf (K := K) (ed_var (σ := [some (.ref a), some (.int often), some (.ref p), y3, y4, none]) (i := 2) rfl (.lst hacc hda))) fun v H5 e5 hv => q g v H5 ((o1.trans o4).trans (Off.ex e5)) (hs4.ex e5) (by omega) W hv
end
end KS
end
noncomputable section
namespace KS
open PySem PySem.Spec PyProof.Rows L2 Evl
open LamX (CodeO Tabs TabS TabB ExtN codeO_ne)
/-! ### cells and lambdas that outlive the def that made them -/
def CellO (c : Addr) (v : V) : HO := .ext fun h => ∃ u, RelV v u ∧ h.IsCell c (some u)
def LamO (f : Addr) (q : Str) (pr : Arguments) (b : Expr) (sc : Scope) (cl : List (Str × Addr)) (dV : Value) (c' : Addr) : HO :=
  .ext fun h => ∃ doc pm ctv : Value, h.get? f = some (PySem.W.kdv_obj "<lambda>" q pr (.expr b) sc cl dV doc pm c' ctv)
def cut (C : List (Addr × V)) (H : Hp) : Hp := fun b => if b ∈ C.map (·.1) then none else H b
def put (C : List (Addr × V)) (H : Hp) : Hp := fun b => match C.lookup b with
  | some v => some (CellO b v)
  | none => H b
def CellsIn (C : List (Addr × V)) (H : Hp) : Prop := ∀ p ∈ C, H p.1 = some (CellO p.1 p.2)
theorem look_mem {v : V} {b : Addr} : ∀ {C : List (Addr × V)}, C.lookup b = some v → (b, v) ∈ C
  | [], h => by cases h
  | (c, u) :: C, h => by
    unfold List.lookup at h
    split at h
    · rename_i e
      have : b = c := by simpa using e
      cases h; rw [this]; exact List.mem_cons_self
    · exact List.mem_cons_of_mem _ (look_mem h)
theorem look_none {b : Addr} : ∀ {C : List (Addr × V)}, ¬ b ∈ C.map (·.1) → C.lookup b = none
  | [], _ => rfl
  | (c, u) :: C, h => by
    have h1 : ¬ b = c := fun z => h (by rw [z]; exact List.mem_cons_self)
    have h2 : ¬ b ∈ C.map (·.1) := fun z => h (List.mem_cons_of_mem _ z)
    unfold List.lookup
    have : (b == c) = false := by simpa using h1
    rw [this]
    exact look_none h2
theorem look_some {b : Addr} : ∀ {C : List (Addr × V)}, b ∈ C.map (·.1) → ∃ v, C.lookup b = some v
  | [], h => by cases h
  | (c, u) :: C, h => by
    unfold List.lookup
    cases e : b == c with
    | true => exact ⟨u, rfl⟩
    | false =>
      have ne : ¬ b = c := by simpa using e
      rcases List.mem_cons.mp h with z | z
      · exact absurd z ne
      · exact look_some z
section
variable {P : Program} {w : World} {H H' : Hp} {h h' : Heap} {C : List (Addr × V)} {fs : List Addr}
theorem cellO_ok {c : Addr} {v : V} {u : Value} (r : RelV v u) (i : h.IsCell c (some u)) : ObjOk P w H h c (CellO c v) := by
  obtain ⟨o, e, d⟩ := id i
  exact ⟨⟨u, r, i⟩, ⟨o, e⟩, fun h1 h2 ⟨u', r', o', e', d'⟩ st => ⟨u', r', o', st _ e', d'⟩⟩
theorem lamO_ok {f c' : Addr} {q : Str} {pr : Arguments} {b : Expr} {sc : Scope} {cl : List (Str × Addr)} {dV doc pm ctv : Value} (e : h.get? f = some (PySem.W.kdv_obj "<lambda>" q pr (.expr b) sc cl dV doc pm c' ctv)) : ObjOk P w H h f (LamO f q pr b sc cl dV c') :=
  ⟨⟨doc, pm, ctv, e⟩, ⟨_, e⟩, fun h1 h2 ⟨d, p, t, e'⟩ st => ⟨d, p, t, st _ e'⟩⟩
theorem cut_in {b : Addr} (m : b ∈ C.map (·.1)) : cut C H b = none := if_pos m
theorem cut_out {b : Addr} (m : ¬ b ∈ C.map (·.1)) : cut C H b = H b := if_neg m
theorem cut_non {b : Addr} (n : H b = none) : cut C H b = none := by
  unfold cut
  split
  · rfl
  · exact n
theorem put_some {b : Addr} {v : V} (e : C.lookup b = some v) : put C H b = some (CellO b v) := by unfold put; rw [e]
theorem put_none {b : Addr} (e : C.lookup b = none) : put C H b = H b := by unfold put; rw [e]
theorem CellsIn.at {b : Addr} (hC : CellsIn C H) (m : b ∈ C.map (·.1)) : ∃ φ, H b = some (.ext φ) := by
  obtain ⟨⟨c, v⟩, hp, rfl⟩ := List.mem_map.mp m
  exact ⟨_, hC _ hp⟩
theorem CellsIn.off {b : Addr} {o : HO} (hC : CellsIn C H) (e : H b = some o) (n : ∀ φ, o ≠ .ext φ) : ¬ b ∈ C.map (·.1) := fun m => by
  obtain ⟨φ, z⟩ := hC.at m
  rw [e] at z
  exact n φ (Option.some.inj z)
theorem CellsIn.off0 {b : Addr} (hC : CellsIn C H) (e : H b = none) : ¬ b ∈ C.map (·.1) := fun m => by
  obtain ⟨φ, z⟩ := hC.at m
  rw [e] at z
  cases z
theorem put_ex (n : ∀ p ∈ C, H p.1 = none) : Ex H (put C H) := fun b o e => by
  rw [put_none (look_none fun m => ?_)]
  · exact e
  · obtain ⟨p, hp, rfl⟩ := List.mem_map.mp m
    rw [n p hp] at e
    cases e
theorem cut_hok (x : HOk P w H h) (hC : CellsIn C H) : HOk P w (cut C H) h := fun a o e => by
  have na : ¬ a ∈ C.map (·.1) := fun z => by rw [cut_in z] at e; cases e
  rw [cut_out na] at e
  have kp : ∀ b o, H b = some o → (∀ φ, o ≠ .ext φ) → cut C H b = some o := fun b o q n => by rw [cut_out (hC.off q n)]; exact q
  exact (x a o e).stay (fun b u _ q => q) (fun b q => kp b _ q fun φ z => by cases z) fun b xs q => kp b _ q fun φ z => by cases z
theorem put_hok (x : HOk P w H h) (n : ∀ p ∈ C, H p.1 = none) (hc : ∀ p ∈ C, ∃ u, RelV p.2 u ∧ h.IsCell p.1 (some u)) : HOk P w (put C H) h := fun a o e => by
  cases l : C.lookup a with
  | some v =>
    rw [put_some l] at e
    cases e
    obtain ⟨u, r, i⟩ := hc _ (look_mem l)
    exact cellO_ok r i
  | none =>
    rw [put_none l] at e
    have kp := put_ex n
    exact (x a o e).stay (fun b u _ q => q) (fun b q => kp b _ q) fun b xs q => kp b _ q
theorem put_off {b : Addr} (m : ¬ b ∈ C.map (·.1)) : put C H b = H b := put_none (look_none m)
/-- the cells in the heap, before -/
theorem cells_at (x : HOk P w H h) (hC : CellsIn C H) {p : Addr × V} (hp : p ∈ C) : ∃ u o, RelV p.2 u ∧ h.get? p.1 = some o ∧ o.data = .cell (some u) := by
  obtain ⟨⟨u, r, o, e, d⟩, _⟩ := x _ _ (hC p hp)
  exact ⟨u, o, r, e, d⟩
theorem cut_free (x : HOk P w H h) (hC : CellsIn C H) (free : ∀ b o, h.get? b = some o → cut C H b = none → H' b = none) : ∀ p ∈ C, H' p.1 = none := fun p hp => by
  obtain ⟨u, o, _, e, _⟩ := cells_at x hC hp
  exact free _ o e (cut_in (List.mem_map.mpr ⟨p, hp, rfl⟩))
theorem put_un (u : Un fs [] (cut C H) H' h h') (x : HOk P w H h) (hC : CellsIn C H) : Un fs [] H (put C H') h h' := by
  have n := cut_free x hC fun b o e z => u.free b o e z (fun m => nomatch m)
  have kp := put_ex n
  refine ⟨fun b o e z => u.keep b o e (cut_non z), fun b o e z => u.slot b o e (cut_non z), fun b o e z m => ?_, u.there, fun b xs e => ?_, fun b o y e => ?_, fun b ps e => ?_⟩
  · rw [put_off (hC.off0 z)]
    exact u.free b o e (cut_non z) m
  · exact kp _ _ (u.tups b xs (by rw [cut_out (hC.off e fun φ z => by cases z)]; exact e))
  · exact kp _ _ (u.frzs b o y (by rw [cut_out (hC.off e fun φ z => by cases z)]; exact e))
  · obtain ⟨more, z⟩ := u.tbls b ps (by rw [cut_out (hC.off e fun φ z => by cases z)]; exact e)
    exact ⟨more, kp _ _ z⟩
theorem put_cells (u : Un fs [] (cut C H) H' h h') (x : HOk P w H h) (hC : CellsIn C H) : ∀ p ∈ C, ∃ v, RelV p.2 v ∧ h'.IsCell p.1 (some v) := fun p hp => by
  obtain ⟨v, o, r, e, d⟩ := cells_at x hC hp
  obtain ⟨sl, q⟩ := u.any e (cut_in (List.mem_map.mpr ⟨p, hp, rfl⟩)) (fun m => nomatch m)
  exact ⟨v, r, _, q, d⟩
theorem put_ub {B : Heap} (u : UB fs (cut C H) H' h B h') (x : HOk P w H h) (hC : CellsIn C H) : UB fs H (put C H') h B h' := by
  have n := cut_free x hC u.free
  have kp := put_ex n
  refine ⟨fun b o e z => u.keep b o e (cut_non z), u.slot, fun b o e z => ?_, u.there, fun b xs e => ?_, fun b o y e => ?_, fun b ps e => ?_⟩
  · rw [put_off (hC.off0 z)]
    exact u.free b o e (cut_non z)
  · exact kp _ _ (u.tups b xs (by rw [cut_out (hC.off e fun φ z => by cases z)]; exact e))
  · exact kp _ _ (u.frzs b o y (by rw [cut_out (hC.off e fun φ z => by cases z)]; exact e))
  · obtain ⟨more, z⟩ := u.tbls b ps (by rw [cut_out (hC.off e fun φ z => by cases z)]; exact e)
    exact ⟨more, kp _ _ z⟩
theorem put_cellsB {B : Heap} (u : UB fs (cut C H) H' h B h') (x : HOk P w H h) (hC : CellsIn C H) (hf : ∀ b ∈ fs, H b = none) : ∀ p ∈ C, ∃ v, RelV p.2 v ∧ B.IsCell p.1 (some v) := fun p hp => by
  obtain ⟨v, o, r, e, d⟩ := cells_at x hC hp
  have m : p.1 ∈ C.map (·.1) := List.mem_map.mpr ⟨p, hp, rfl⟩
  exact ⟨v, r, o, u.keep _ o e (cut_in m) (fun z => hC.off0 (hf _ z) m), d⟩
end
/-- an exception leaves a call that ran without the cells -/
theorem cx_put {P : Program} {w : World} {outer : List Env} {H : Hp} {s : Shared} {E : XK} {u : Value} {s' : Shared} {C : List (Addr × V)} (x : HOk P w H s.heap) (hC : CellsIn C H) (hf : ∀ b ∈ frs outer, H b = none)
    (h : L2.CX P w outer (cut C H) s (fun cls d H' => (∀ p ∈ C, H' p.1 = none) → E cls d (put C H')) u s') : L2.CX P w outer H s E u s' := by
  obtain ⟨a, B, H', cls, d, e, fl, ok, ub, na, os, ba, q⟩ := h
  have n := cut_free x hC ub.free
  have cb := put_cellsB ub x hC hf
  refine ⟨a, B, put C H', cls, d, e, fl, put_hok ok n cb, put_ub ub x hC, ?_, os, ba, q n⟩
  rw [put_off fun m => ?_]
  · exact na
  · obtain ⟨p, hp, rfl⟩ := List.mem_map.mp m
    obtain ⟨v, _, o, eo, _⟩ := cb p hp
    have z : B.get? p.1 = none := fl.2.1
    rw [eo] at z
    cases z
theorem ce_put {P : Program} {w : World} {outer : List Env} {H : Hp} {s : Shared} {Q : VK} {u : Value} {s' : Shared} {C : List (Addr × V)} (x : HOk P w H s.heap) (hC : CellsIn C H)
    (h : CE outer P w (cut C H) s (fun v H' => (∀ p ∈ C, H' p.1 = none) → Q v (put C H')) u s') : CE outer P w H s Q u s' := by
  obtain ⟨v, H', os, ba, un, ok, r, q⟩ := h
  have n := cut_free x hC fun b o e z => un.free b o e z (fun m => nomatch m)
  exact ⟨v, put C H', os, ba, put_un un x hC, put_hok ok n (put_cells un x hC), r, q n⟩
/-! ### the lambda's body -/
abbrev lamE (q : Str) (sc : Scope) (L f c' : Addr) (cl : List (Str × Addr)) : Env := PySem.W.envX q sc L f (.ref c') cl
def lamC (P : Program) (w : World) (K : PySem.W.Frag) (mg : Str → Option Value) (base : Heap) (N : List Str) (A : Around) (outer : List Env) (s : Shared) (H : Hp) (E : XK) (q : Str) (sc : Scope) (f c' : Addr) (cl : List (Str × Addr)) : Cx :=
  { prog := P, w := w, K := K, mg := mg, base := base, A := A.deeper (lamE q sc s.heap.objs.size f c' cl), N := N, s_0 := s, H_0 := H, env := lamE q sc s.heap.objs.size f c' cl, outer := outer, stack := lamE q sc s.heap.objs.size f c' cl :: outer, ex := [], fn := fun _ => false, calm := true, pn := [],
    xe := fun e s' => wpAny (model P w) (A.deeper (lamE q sc s.heap.objs.size f c' cl)) (leaving (lamE q sc s.heap.objs.size f c' cl) e) (fun _ s'' => L2.CX P w outer H s E e s'') (fun e' s'' => L2.CX P w outer H s E e' s'') s' }
/-- the closure's names and what their cells hold -/
structure Clo (sc : Scope) (cl : List (Str × Addr)) (vals : List (Str × V)) (C : List (Addr × V)) : Prop where
  kind : sc.kind = .function
  co : sc.isCoroutine = false
  gen : sc.isGenerator = false
  own : ∀ y ∈ sc.names, y.2 ≠ .cell
  free : ∀ y ∈ sc.names, y.2 = .free → ∃ c, cl.lookup y.1 = some c
  look : ∀ y c, cl.lookup y = some c → ∃ v, vals.lookup y = some v ∧ (c, v) ∈ C
  inj : ∀ y z c, cl.lookup y = some c → cl.lookup z = some c → y = z
/-- what the lambda's own parameter gets -/
def dfl (ps : List Str) (vs : List Value) : List (Str × Value) := ps.zip vs
theorem lam_in {P : Program} {w : World} {K : PySem.W.Frag} {mg : Str → Option Value} {base : Heap} {N : List Str} {A : Around} {outer : List Env} {s1 : Shared} {H HZ : Hp} {E : XK} {q : Str} {sc : Scope} {f c' : Addr} {cl : List (Str × Addr)} {vals : List (Str × V)} {C : List (Addr × V)} {σ : L2.St} {h₁ : Heap} {tk : Nat} {mm : Str → Option Value}
    (K0 : Clo sc cl vals C) (e0 : Env0 P w K mg base A outer s1 HZ) (hd : A.handled = none) (hC : CellsIn C HZ) (hH : H = cut C HZ) (hns : h₁.Ns s1.heap.objs.size mm) (kp : ∀ b o, s1.heap.get? b = some o → h₁.get? b = some o)
    (hl : σ.length = N.length) (hσ : ∀ (i : Nat) (y : Str) (v : V), N[i]? = some y → σ[i]? = some (some v) → vals.lookup y = some v ∧ sc.names.lookup y ≠ some .local) :
    Inv (lamC P w K mg base N A outer s1 H E q sc f c' cl) [] σ H { s1 with heap := h₁, toks := tk } := by
  subst hH
  have ok1 := cut_hok e0.hok hC
  have cellK : ∀ {c v}, (c, v) ∈ C → ∃ u, RelV v u ∧ h₁.IsCell c (some u) := fun {c v} m => by
    obtain ⟨u, o, r, e, d⟩ := cells_at e0.hok hC m
    exact ⟨u, r, o, kp _ _ e, d⟩
  have noA : ∀ b : Addr, ¬ b ∈ ([] : List Addr) := fun b z => nomatch z
  refine ⟨⟨e0.mod, K0.kind, rfl, rfl, Nat.le_refl _, fun y z c e1 e2 => K0.inj y z c e1 e2, fun y hy => ?_, fun y c z _ => ?_, fun _ => hd, Around.frames_deeper e0.frames, .inr ⟨rfl, rfl⟩, fun b z => absurd z (noA b), fun b o e => ⟨(e0.bs b o e).1, cut_non (e0.bs b o e).2⟩, e0.bsz, fun b _ _ => noA b, fun b z => absurd z (noA b), e0.funs, fun b hb => cut_non (e0.frf b hb)⟩,
    rfl, e0.bare, Un.kept kp, ⟨_, hns, fun i y v e1 e2 e3 => ?_⟩, fun y c e => ?_, ok1.fresh (Nat.le_refl _), fun y c e => ?_, fun p hp => absurd (show p ∈ ([] : List (Addr × Obj)) ++ [] from hp) (by simp), ok1.kept kp, hl⟩
  · rcases (show sc.names.lookup y = some .cell ∨ sc.names.lookup y = some .free from hy) with k | k
    · exact absurd rfl (K0.own _ (PySem.mem_of_lookup k))
    · exact K0.free _ (PySem.mem_of_lookup k) rfl
  · exact absurd (show false = true from z) (by decide)
  · obtain ⟨hv, nl⟩ := hσ i y v e1 e2
    rcases (show Vis sc y from e3) with k | k | k
    · exact absurd k nl
    · exact absurd rfl (K0.own _ (PySem.mem_of_lookup k))
    · obtain ⟨c, hc⟩ := K0.free _ (PySem.mem_of_lookup k) rfl
      obtain ⟨v', hv', m⟩ := K0.look y c hc
      rw [hv] at hv'
      cases hv'
      obtain ⟨u, r, i⟩ := cellK m
      exact ⟨u, r, .inr ⟨.inr k, c, hc, i⟩⟩
  · obtain ⟨v, _, m⟩ := K0.look y c e
    obtain ⟨u, _, i⟩ := cellK m
    exact ⟨_, i⟩
  · obtain ⟨v, _, m⟩ := K0.look y c e
    exact cut_in (List.mem_map.mpr ⟨_, m, rfl⟩)
end KS
end
noncomputable section
namespace KS
open PySem PySem.Spec PyProof.Rows L2 Evl
open LamX (CodeO Tabs TabS TabB ExtN codeO_ne)
/-- a lambda as the heap holds it; df: whether it has the one parameter that is nought if it is not given -/
def LamAt (H : Hp) (f : Addr) (q : Str) (pr : Arguments) (b : Expr) (sc : Scope) (cl : List (Str × Addr)) (df : Bool) : Prop :=
  ∃ dV c', H f = some (LamO f q pr b sc cl dV c') ∧ H c' = some (CodeO c' q) ∧ (if df then ∃ t, dV = .ref t ∧ H t = some (.tup [.int 0]) else dV = .none)
/-- all but lists and tables stays -/
def Ste (H H' : Hp) : Prop := ∀ a o, H a = some o → (∀ xs, o ≠ .lst xs) → (∀ ps, o ≠ .tbl ps) → H' a = some o
theorem Ste.ex {H H' : Hp} (e : Ex H H') : Ste H H' := fun a o h _ _ => e a o h
theorem Ste.extN {H H' : Hp} (e : ExtN H H') : Ste H H' := fun a o h _ n => e a o h n
theorem Ste.trans {H H1 H2 : Hp} (a : Ste H H1) (b : Ste H1 H2) : Ste H H2 := fun c o h x y => b c o (a c o h x y) x y
theorem Ste.upd {H : Hp} {a : Addr} {xs ys : List V} (h : H a = some (.lst xs)) : Ste H (upd H a (.lst ys)) := fun c o e n _ => by
  rw [upd_ne fun z => by rw [z, h] at e; exact n xs (Option.some.inj e).symm]
  exact e
theorem LamAt.ste {H H' : Hp} {f : Addr} {q : Str} {pr : Arguments} {b : Expr} {sc : Scope} {cl : List (Str × Addr)} {df : Bool} (l : LamAt H f q pr b sc cl df) (e : Ste H H') : LamAt H' f q pr b sc cl df := by
  obtain ⟨dV, c', h1, h2, h3⟩ := l
  refine ⟨dV, c', e _ _ h1 (fun _ z => by unfold LamO at z; cases z) (fun _ z => by unfold LamO at z; cases z), e _ _ h2 (fun _ z => by unfold CodeO at z; cases z) (fun _ z => by unfold CodeO at z; cases z), ?_⟩
  cases df with
  | false => exact h3
  | true =>
    obtain ⟨t, e1, e2⟩ := h3
    exact ⟨t, e1, e _ _ e2 (fun _ z => by cases z) (fun _ z => by cases z)⟩
theorem CellsIn.ste {C : List (Addr × V)} {H H' : Hp} (h : CellsIn C H) (e : Ste H H') : CellsIn C H' := fun p hp => e _ _ (h p hp) (fun _ z => by unfold CellO at z; cases z) (fun _ z => by unfold CellO at z; cases z)
/-- how such a lambda's parameters bind -/
structure LamB (pr : Arguments) (b : Expr) (sc : Scope) (df : Bool) : Prop where
  no : df = false → ∀ (q : Str) (cl : List (Str × Addr)) (doc pm cv ctv : Value), bindArgs (PySem.W.kdv_fn "<lambda>" q pr (.expr b) sc cl .none doc pm cv ctv) ⟨[], []⟩ = pure []
  yes : df = true → ∃ x : Str, sc.names.lookup x = some .local ∧ ∀ (s : Shared) (q : Str) (cl : List (Str × Addr)) (t : Addr) (doc pm cv ctv u : Value) (o : Obj) (n : Nat), s.heap.get? t = some o → o.data = .seq #[u] n → BindsTo s (PySem.W.kdv_fn "<lambda>" q pr (.expr b) sc cl (.ref t) doc pm cv ctv) ⟨[], []⟩ [(x, u)]
/-- what is known of a lambda: it may be called, and then it is read so -/
structure LamV (P : Program) (w : World) (K : PySem.W.Frag) (mg : Str → Option Value) (base : Heap) (k : Nat) (f : Addr) (cond : Hp → Prop) (tl : XK → Hp → VK → Prop) : Prop where
  at_ : ∀ H, cond H → ∃ q pr b sc cl df, LamAt H f q pr b sc cl df
  run : ∀ (A : Around) (outer : List Env) (s : Shared) (H : Hp) (Q : VK) (E : XK), Room (k + 1) A → Env0 P w K mg base A outer s H → cond H → tl E H Q → codeAny (model P w) A (.call (.ref f) ⟨[], []⟩) (CR (L2.CX P w) outer P w H s Q E) s
section
variable {P : Program} {w : World} {K : PySem.W.Frag} {mg : Str → Option Value} {base : Heap}
theorem LamAt.obj {H : Hp} {h : Heap} {f : Addr} {q : Str} {pr : Arguments} {b : Expr} {sc : Scope} {cl : List (Str × Addr)} {df : Bool} (l : LamAt H f q pr b sc cl df) (x : HOk P w H h) :
    ∃ (dV doc pm ctv : Value) (c' : Addr), h.get? f = some (PySem.W.kdv_obj "<lambda>" q pr (.expr b) sc cl dV doc pm c' ctv) ∧ H c' = some (CodeO c' q) ∧ h.CodeRec (.ref c') q ∧ (if df then ∃ (t : Addr) (u : Value) (o : Obj) (n : Nat), dV = .ref t ∧ h.get? t = some o ∧ o.data = .seq #[u] n else dV = .none) := by
  obtain ⟨dV, c', h1, h2, h3⟩ := l
  obtain ⟨⟨doc, pm, ctv, e⟩, _⟩ := x _ _ h1
  obtain ⟨⟨oc, vs, t, hoc, hd, hv⟩, _⟩ := x _ _ h2
  refine ⟨dV, doc, pm, ctv, c', e, h2, ⟨c', oc, vs, t, rfl, hoc, hd, hv⟩, ?_⟩
  cases df with
  | false => exact h3
  | true =>
    obtain ⟨t', e1, e2⟩ := h3
    obtain ⟨_, its, rv, o, ho, _, n, hn⟩ := (show ObjOk P w H h t' (.tup [.int 0]) from x _ _ e2)
    cases rv with
    | cons r1 r2 =>
      cases r2
      exact ⟨t', _, o, n, e1, ho, hn⟩
/-- a lambda of a made list is called -/
theorem lamV_mk {N : List Str} {k : Nat} {f : Addr} {q : Str} {pr : Arguments} {b : Expr} {sc : Scope} {cl : List (Str × Addr)} {df : Bool} {vals : List (Str × V)} {C : List (Addr × V)} {σ : L2.St} {tb : XK → TE}
    (K0 : Clo sc cl vals C) (BB : LamB pr b sc df) (hl : σ.length = N.length) (hσ : ∀ (i : Nat) (y : Str) (v : V), N[i]? = some y → σ[i]? = some (some v) → vals.lookup y = some v ∧ sc.names.lookup y ≠ some .local)
    (hbody : ∀ (A : Around) (outer : List Env) (s : Shared) (H : Hp) (E : XK) (c' : Addr), Room k (A.deeper (lamE q sc s.heap.objs.size f c' cl)) → PE (lamC P w K mg base N A outer s H E q sc f c' cl) b (tb E)) :
    LamV P w K mg base k f (fun H => LamAt H f q pr b sc cl df ∧ CellsIn C H) (fun E H Q => tb (fun cls d H' => (∀ p ∈ C, H' p.1 = none) → E cls d (put C H')) σ (cut C H) fun v H' => (∀ p ∈ C, H' p.1 = none) → Q v (put C H')) := by
  refine ⟨fun H h => ⟨q, pr, b, sc, cl, df, h.1⟩, fun A outer s H Q E hr e0 ⟨hL, hC⟩ ht => ?_⟩
  obtain ⟨dV, doc, pm, ctv, c', hf, hc', hrec, hdf⟩ := hL.obj e0.hok
  have lim : s.heap.NoLimit := e0.mod.nolimit.keeps fun b o e => (e0.bs b o e).1
  have go : ∀ binds : List (Str × Value), BindsTo s (PySem.W.kdv_fn "<lambda>" q pr (.expr b) sc cl dV doc pm (.ref c') ctv) ⟨[], []⟩ binds → (∀ y ∈ binds, sc.names.lookup y.1 = some .local) → codeAny (model P w) A (.call (.ref f) ⟨[], []⟩) (CR (L2.CX P w) outer P w H s Q E) s := fun binds hb hloc => by
    refine PySem.W.kla_callFunE hr.depth hf rfl K0.co K0.gen rfl hrec (hb _ _ _ _ ?_)
    refine wpAny_newFunctionEnv K0.own hloc (fun h₁ hns hsb => ⟨lim.fresh _ hsb, ?_⟩) K0.kind
    show codeAny _ _ (.expr b (lamE q sc s.heap.objs.size f c' cl)) _ _
    have kp : ∀ b o, s.heap.get? b = some o → h₁.get? b = some o := fun b o e => hsb.extBut b o (Nat.ne_of_lt (Heap.lt_size e)) (Heap.get?_push_of_some _ e)
    have J := lam_in (N := N) (σ := σ) (E := fun cls d H' => (∀ p ∈ C, H' p.1 = none) → E cls d (put C H')) (q := q) (f := f) (c' := c') (tk := s.toks + binds.length) K0 e0 hr.hd hC rfl hns kp hl hσ
    refine PySem.W.kla_codeExpr (wpAny_mono ((hbody A outer s (cut C H) _ c' (hr.deeper _)).run [] _ _ _ _ J ht) (fun v s' hq => ?_) fun e s' hq => ?_)
    · obtain ⟨w', H', J', rv, qq⟩ := hq
      exact ce_put e0.hok hC ⟨w', H', J'.os, J'.bare, J'.base, J'.hok, rv, qq⟩
    · exact wpAny_mono hq (fun _ s'' c => cx_put e0.hok hC e0.frf c) fun e' s'' c => cx_put e0.hok hC e0.frf c
  cases df with
  | false =>
    have e : dV = .none := hdf
    subst e
    exact go [] (BindsTo.of_eq (BB.no rfl _ _ _ _ _ _)) fun y hy => nomatch hy
  | true =>
    obtain ⟨t, u, o, n, rfl, ho, hn⟩ := hdf
    obtain ⟨x, hx, hb⟩ := BB.yes rfl
    exact go [(x, u)] (hb _ _ _ _ _ _ _ _ _ _ _ ho hn) fun y hy => by
      rw [List.mem_singleton] at hy
      subst hy
      exact hx
/-- x(), x a local name that holds such a lambda -/
theorem pe_lamV {X : Cx} {k i : Nat} {f : Addr} {a : Str} {cond : Hp → Prop} {tl : XK → Hp → VK → Prop} {E : XK} {p1 p2 : Pos} (L : LamV X.prog X.w X.K X.mg X.base k f cond tl) (hr : Room (k + 1) X.A) (hx : Passes (L2.CX X.prog X.w) X E)
    (hN : X.N[i]? = some a) (hv : Vis X.env.scope a) (hd : (a == ("__debug__" : Str)) = false := by decide) (hcd : (a == ("__classdict__" : Str)) = false := by decide) :
    PE X (.Call (.Name a p1) [] [] p2) (fun σ H Q => σ[i]? = some (some (.ref f)) ∧ cond H ∧ tl E H Q) := by
  refine ⟨fun pins s σ H Q I h => ?_⟩
  obtain ⟨hs, hc, ht⟩ := h
  refine wpAny_Call_Name_kw (thn ((pe_var (pos := p1) (i := i) hN hv hd hcd).run pins s σ H (fun v H1 => v = .ref f ∧ H1 = H) I ⟨.ref f, hs, rfl, rfl⟩) fun u s1 ⟨v, H1, I1, r1, ev, eH⟩ => ?_)
  subst ev eH
  obtain rfl : u = Value.ref f := r1
  obtain ⟨q, pr, b, sc, cl, df, hL⟩ := L.at_ _ hc
  obtain ⟨dV, doc, pm, ctv, c', hf, _⟩ := hL.obj I1.hok
  refine PySem.W.callWith_F0 ⟨_, _, _, _, hf⟩ ?_
  refine wpAny_call (codeAny_mono (L.run X.A X.stack s1 H1 Q E hr I1.env0 hc ht) fun r s' hq => ?_)
  cases r with
  | error e => exact hx pins σ H1 s1 e s' I1 hq
  | ok fl =>
    cases fl with
    | ret u => exact I1.after hq
    | next => exact False.elim hq
    | brk => exact False.elim hq
    | cont => exact False.elim hq
end
/-! ### a def whose cells are known behind it -/
structure PR (X : Cx) (st : List Stmt) (t : (V → L2.St → Hp → Prop) → L2.St → Hp → Prop) : Prop where
  run : ∀ (s : Shared) (σ : L2.St) (H : Hp) (R : V → L2.St → Hp → Prop), Inv X [] σ H s → t R σ H → wpAny (model X.prog X.w) X.A (execs st X.env) (fun fl s' => ∃ u v σ' H', fl = .ret u ∧ Inv X [] σ' H' s' ∧ RelV v u ∧ R v σ' H') X.xe s
theorem pr_ret {X : Cx} {e : Expr} {te : TE} {pos : Pos} (h : PE X e te) : PR X [.Return (some e) pos] (fun R σ H => te σ H fun v H' => R v σ H') := by
  refine ⟨fun s σ H R I ht => wpAny_execs_cons (wpAny_Return_some (thn (h.run [] s σ H _ I ht) fun u s1 ⟨v, H1, I1, r, q⟩ => ?_))⟩
  exact ⟨u, v, σ, H1, rfl, I1, r, q⟩
theorem pr_cons {X : Cx} {st : Stmt} {rest : List Stmt} {t : TS} {t2 : (V → L2.St → Hp → Prop) → L2.St → Hp → Prop} (h1 : PS X st t) (h2 : PR X rest t2) : PR X (st :: rest) (fun R σ H => t { nx := t2 R, rt := fun _ _ => False } σ H) := by
  refine ⟨fun s σ H R I ht => wpAny_execs_cons (thn (h1.run [] s σ H _ I ht) fun fl s1 q => ?_)⟩
  cases fl with
  | next =>
    obtain ⟨σ', H', I', q⟩ := q
    exact h2.run s1 σ' H' R I' q
  | ret v =>
    obtain ⟨_, _, _, _, _, q⟩ := q
    exact q.elim
  | brk =>
    obtain ⟨_, _, _, q⟩ := q
    exact q.elim
  | cont =>
    obtain ⟨_, _, _, q⟩ := q
    exact q.elim
def capL (cells : List (Str × Addr)) (vals : List (Str × V)) : List (Addr × V) := vals.filterMap fun p => (cells.lookup p.1).map fun c => (c, p.2)
theorem mem_capL {cells : List (Str × Addr)} {vals : List (Str × V)} {p : Addr × V} (h : p ∈ capL cells vals) : ∃ y, (y, p.2) ∈ vals ∧ cells.lookup y = some p.1 := by
  obtain ⟨⟨y, v⟩, hm, e⟩ := List.mem_filterMap.mp h
  cases l : cells.lookup y with
  | none => rw [l] at e; cases e
  | some c =>
    rw [l] at e
    cases e
    exact ⟨y, hm, l⟩
/-- what such a def's end wants -/
def RC (sc : Scope) (N : List Str) (cells : List (Str × Addr)) (Q : VK) : V → L2.St → Hp → Prop := fun v σ H => ∃ vals : List (Str × V), (∀ p ∈ vals, ∃ i : Nat, N[i]? = some p.1 ∧ σ[i]? = some (some p.2) ∧ sc.names.lookup p.1 = some .cell) ∧
  ((∀ p ∈ capL cells vals, H p.1 = none) → (∀ y z c, cells.lookup y = some c → cells.lookup z = some c → y = z) → Q v (put (capL cells vals) H))
section
variable {P : Program} {w : World} {K : PySem.W.Frag} {mg : Str → Option Value} {base : Heap}
theorem fn_ofR {k : Nat} {f : Addr} {name qual : Str} {params : Arguments} {body : List Stmt} {scope : Scope} {dV kV doc pm cdv ct oc : Value} {an od : Option Addr} {osl : Array (Option Value)} {N ps : List Str} {sp : Sp}
    (lk : K.lookup f = some ⟨oc, od, .func (PySem.W.fnOf name qual params body scope dV kV doc pm an cdv ct), osl⟩) (hcd : PySem.W.codeIn K cdv qual = true) (S : FnScope N ps scope) (len : ∀ vs H Q E, sp vs H Q E → vs.length = ps.length)
    (hbody : ∀ (A : Around) (outer : List Env) (s : Shared) (H : Hp) (vs : List V) (Q : VK) (E : XK), Room k (A.deeper (envOfC qual scope s.heap.objs.size f cdv)) → sp vs H Q E →
      ∃ t, PR (cxOf CX0 P w K mg base N qual scope f cdv A outer s H E) body t ∧ t (RC scope N (cellsFrom (s.heap.objs.size + 1) scope.names []) Q) (start N vs) H) :
    FnOk P w K mg base CX0 (k + 1) f (PySem.W.fnOf name qual params body scope dV kV doc pm an cdv ct) ps sp := by
  refine ⟨len, fun A outer s H args us vs Q E hr e0 hb r hsp => ?_⟩
  have hl := len _ _ _ _ hsp
  have kx : K.In s.heap := e0.mod.kin.keeps fun b o e => (e0.bs b o e).1
  have lim : s.heap.NoLimit := e0.mod.nolimit.keeps fun b o e => (e0.bs b o e).1
  have hk : ∀ y ∈ ps.zip us, scope.names.lookup y.1 = some .local ∨ (scope.names.lookup y.1 = some .cell ∧ ((cellsFrom (s.heap.objs.size + 1) scope.names []).lookup y.1).isSome = true) := fun y hy => by
    obtain ⟨n, v⟩ := y
    rcases S.par n (List.of_mem_zip hy).1 with z | z
    · exact .inl z
    · exact .inr ⟨z, PySem.W.cellsFrom_some _ _ _ (.inl z)⟩
  refine codeAny_call_function hr.depth (kx _ _ lk) rfl S.co S.gen rfl (PySem.W.codeRec_of kx hcd) (hb _ _ _ _ ?_)
  refine wpAny_newFunctionEnv_cells S.kind hk fun env he s1 x => ?_
  subst he
  refine ⟨lim.keeps x.toInCall.keep, codeAny_func ?_⟩
  obtain ⟨t, ht, hq⟩ := hbody A outer s H vs Q E (hr.deeper _) hsp
  have I := inv_start (CX := CX0) (E := E) (f := f) (cd := cdv) (qual := qual) S hr.hd e0 hl r x
  refine wpAny_mono (ht.run s1 (start N vs) H _ I hq) (fun fl s' hs => ?_) fun e s' hs => hs
  obtain ⟨u, v, σ', H', rfl, J, rv, vals, hv, qq⟩ := hs
  have fr : ∀ p ∈ capL (cellsFrom (s.heap.objs.size + 1) scope.names []) vals, H' p.1 = none ∧ s.heap.objs.size ≤ p.1 ∧ ∃ z, RelV p.2 z ∧ s'.heap.IsCell p.1 (some z) := fun p hp => by
    obtain ⟨y, hm, hc⟩ := mem_capL hp
    obtain ⟨i, h1, h2, h3⟩ := hv _ hm
    refine ⟨J.freeC y p.1 hc, J.ok.cab y p.1 rfl hc, ?_⟩
    obtain ⟨m, _, hl⟩ := J.loc
    obtain ⟨z, rz, lz⟩ := hl i y p.2 h1 h2 (.inr (.inl h3))
    rcases lz with ⟨k1, _⟩ | ⟨_, c2, e2, ic⟩
    · rw [show scope.names.lookup y = some .local from k1] at h3
      cases h3
    · have e3 : c2 = p.1 := by
        have a1 : (cellsFrom (s.heap.objs.size + 1) scope.names []).lookup y = some c2 := e2
        rw [hc] at a1
        exact (Option.some.inj a1).symm
      subst e3
      exact ⟨z, rz, ic⟩
  have n : ∀ p ∈ capL (cellsFrom (s.heap.objs.size + 1) scope.names []) vals, H' p.1 = none := fun p hp => (fr p hp).1
  have kp := put_ex n
  have b0 := J.base
  refine ⟨v, put (capL (cellsFrom (s.heap.objs.size + 1) scope.names []) vals) H', J.os, J.bare, ?_, put_hok J.hok n fun p hp => (fr p hp).2.2, rv, qq n fun y z c h1 h2 => J.ok.inj y z c h1 h2⟩
  refine ⟨b0.keep, b0.slot, fun b o e z m => ?_, b0.there, fun b xs e => kp _ _ (b0.tups b xs e), fun b o y e => kp _ _ (b0.frzs b o y e), fun b ps e => ?_⟩
  · rw [put_off fun mm => ?_]
    · exact b0.free b o e z m
    · obtain ⟨p, hp, rfl⟩ := List.mem_map.mp mm
      exact absurd (Heap.lt_size e) (Nat.not_lt.mpr (fr p hp).2.1)
  · obtain ⟨more, e2⟩ := b0.tbls b ps e
    exact ⟨more, kp _ _ e2⟩
end
end KS
end
noncomputable section
namespace KS
open PySem PySem.Spec PyProof.Rows L2 Evl
open LamX (CodeO Tabs TabS TabB ExtN codeO_ne)
/-! ### a lambda is made, and known from then on -/
section
variable {X : Cx} {pins : List (Addr × Obj)} {σ : L2.St} {H : Hp} {s : Shared} {T : List (Addr × Str)} {c Pt : Addr} {pr : Arguments} {b : Expr} {sc : Scope} {pos : Pos}
/-- one more code object in the table -/
theorem tabs_more {q : Str} {ps : Array Value} {c' : Addr} (hT : Tabs T H) (hP : H Pt = some (.tbl ps)) (nC : H c' = none) (hu : ∀ p ∈ T, p.1 = Pt → p.2 = q) :
    ExtN H (upd (upd H Pt (.tbl (ps ++ #[rawInt pos.line, rawInt pos.col, .ref c']))) c' (CodeO c' q)) ∧ Tabs T (upd (upd H Pt (.tbl (ps ++ #[rawInt pos.line, rawInt pos.col, .ref c']))) c' (CodeO c' q)) := by
  have eN : ExtN H (upd (upd H Pt (.tbl (ps ++ #[rawInt pos.line, rawInt pos.col, .ref c']))) c' (CodeO c' q)) := fun a o e n => by
    have n1 : a ≠ c' := ne_of_none e nC
    have n2 : a ≠ Pt := fun z => by subst z; rw [hP] at e; exact n ps (Option.some.inj e).symm
    rw [upd_ne n1, upd_ne n2]; exact e
  refine ⟨eN, fun p hp => ?_⟩
  obtain ⟨qs, h1, h2, h3⟩ := hT p hp
  by_cases z : p.1 = Pt
  · have eq := hu p hp z
    rw [z] at h1 ⊢
    rw [eq] at h3 ⊢
    rw [hP] at h1
    obtain rfl : ps = qs := by cases h1; rfl
    refine ⟨_, (upd_ne (ne_of_none hP nC)).trans upd_same, ?_, fun p' cv hcv => ?_⟩
    · rw [Array.toList_append]; exact PySem.TriplesOk_snoc _ _ _ _ h2
    · rw [Array.toList_append] at hcv
      rcases LamX.among_app _ h2 hcv with y | y
      · obtain ⟨c0, e1, e2⟩ := h3 p' cv y
        exact ⟨c0, e1, eN _ _ e2 codeO_ne⟩
      · exact ⟨c', y, upd_same⟩
  · refine ⟨qs, by rw [upd_ne (ne_of_none h1 nC), upd_ne z]; exact h1, h2, fun p' cv hcv => ?_⟩
    obtain ⟨c0, e1, e2⟩ := h3 p' cv hcv
    exact ⟨c0, e1, eN _ _ e2 codeO_ne⟩
theorem lam_tail {dV : Value} {E : Value → Shared → Prop} {Q : Value → Shared → Prop} (I : Inv X pins σ H s) (TB : TabB X.base X.mg c Pt) (hcode : X.env.code = .ref c) (hm : (Pt, X.env.qual ++ "<lambda>") ∈ T) (hu : ∀ p ∈ T, p.1 = Pt → p.2 = X.env.qual ++ "<lambda>") (hT : Tabs T H)
    (hfree : ∀ y ∈ sc.names, y.2 = .free → ∃ c, X.env.cells.lookup y.1 = some c)
    (h : ∀ (f c' : Addr) (H1 : Hp) (s' : Shared), Inv X pins σ H1 s' → ExtN H H1 → Tabs T H1 → H f = none → H1 f = some (LamO f (X.env.qual ++ "<lambda>") pr b sc (cloFrom X.env.cells sc.names []) dV c') → H1 c' = some (CodeO c' (X.env.qual ++ "<lambda>")) → Q (.ref f) s') :
    wpAny (model X.prog X.w) X.A (makeTail "<lambda>" (X.env.qual ++ "<lambda>") pr (.expr b) sc X.env dV .none none pos pos.line) Q E s := by
  obtain ⟨ps, hP, ht, ha⟩ := hT _ hm
  have oP : s.heap.get? Pt = some { cls := .none, data := .fields ps } := I.hok Pt _ hP
  have enter : ∀ (H1 : Hp) (h1 : Heap) (tk : Nat) (doc ctv : Value) (c' : Addr), Inv X pins σ H1 { s with heap := h1, toks := tk } → ExtN H H1 → Tabs T H1 → s.heap.objs.size ≤ h1.objs.size → H1 c' = some (CodeO c' (X.env.qual ++ "<lambda>")) →
      Q (.ref h1.objs.size) { s with heap := h1.push (PySem.W.kdv_obj "<lambda>" (X.env.qual ++ "<lambda>") pr (.expr b) sc (cloFrom X.env.cells sc.names []) dV doc ((X.mg "__name__").getD .none) c' ctv), toks := tk } := fun H1 h1 tk doc ctv c' I1 eN T1 le hc => by
    have nf : H1 h1.objs.size = none := I1.hok.fresh (Nat.le_refl _)
    have ex : Ex H1 (upd H1 h1.objs.size (LamO h1.objs.size (X.env.qual ++ "<lambda>") pr b sc (cloFrom X.env.cells sc.names []) dV c')) := Ex.new nf
    refine h _ c' _ _ (I1.laid (t' := tk) (fun b o e => Heap.get?_push_of_some _ e) (Nat.le_refl _) (lamO_ok (doc := doc) (pm := (X.mg "__name__").getD .none) (ctv := ctv) (Heap.get?_push_size _ rfl))) (eN.trans (ExtN.of ex)) (T1.ext ex) (I.hok.fresh le) upd_same (ex _ _ hc)
  cases hc : codeAmong pos ps.toList with
  | none =>
    refine PySem.W.kdv_makeTail (mg := X.mg) (c := c) (P := Pt) (ps := ps) (closure_ok hfree) I.ok.glob (I.mod.glob.keeps I.bk) hcode (TB.code.keeps I.bk) oP ht hc TB.gP (TB.bm.keeps I.bk) fun c' ctv doc h' tk hx hge hlt hrec htb => ?_
    obtain ⟨c2, oc, vs, t, e2, hoc, hd, hv⟩ := hrec
    cases e2
    have nC : H c' = none := I.hok.fresh hge
    obtain ⟨eN, T1⟩ := tabs_more (pos := pos) hT hP nC hu
    exact enter _ h' tk doc ctv c' (LamX.inv_table (t' := tk) I hP hx htb hge ⟨oc, vs, t, hoc, hd, hv⟩) eN T1 (Nat.le_trans hge (Nat.le_of_lt hlt)) upd_same
  | some cv =>
    obtain ⟨c', e, hco⟩ := ha pos cv hc
    subst e
    refine PySem.W.kdv_makeTailHit (mg := X.mg) (c := c) (P := Pt) (ps := ps) (closure_ok hfree) I.ok.glob (I.mod.glob.keeps I.bk) hcode (TB.code.keeps I.bk) oP ht hc (TB.bm.keeps I.bk) fun ctv doc h' tk hx hsz => ?_
    exact enter H h' tk doc ctv c' (I.kept hx) (ExtN.refl H) hT hsz hco
def tMk (T : List (Addr × Str)) (q : Str) (pr : Arguments) (b : Expr) (sc : Scope) (cl : List (Str × Addr)) (df : Bool) : TE := fun σ H Q => Tabs T H ∧ ∀ f H1, ExtN H H1 → Tabs T H1 → H f = none → LamAt H1 f q pr b sc cl df → Q (.ref f) H1
/-- lambda: b -/
theorem pe_mk0 (TB : TabB X.base X.mg c Pt) (hcode : X.env.code = .ref c) (hm : (Pt, X.env.qual ++ "<lambda>") ∈ T) (hu : ∀ p ∈ T, p.1 = Pt → p.2 = X.env.qual ++ "<lambda>") (hfree : X.Ok → ∀ y ∈ sc.names, y.2 = .free → ∃ c, X.env.cells.lookup y.1 = some c) (hdef : defaultsOf pr X.env = ([], [])) :
    PE X (.Lambda pr b sc pos) (tMk T (X.env.qual ++ "<lambda>") pr b sc (cloFrom X.env.cells sc.names []) false) := by
  refine ⟨fun pins s σ H Q I h => PySem.W.kla_eval hdef ?_⟩
  obtain ⟨hT, h⟩ := h
  rw [makeFunction_eq]
  simp only [List.zip_nil_right, List.filterMap_nil, List.isEmpty_nil, if_true, pure_bind]
  exact lam_tail I TB hcode hm hu hT (hfree I.ok) fun f c' H1 s' I1 eN T1 nf hf hc => ⟨.ref f, H1, I1, rfl, h f H1 eN T1 nf ⟨.none, c', hf, hc, rfl⟩⟩
/-- lambda x=0: b -/
theorem pe_mk1 {k0 : Nat} {p0 : Pos} (TB : TabB X.base X.mg c Pt) (hcode : X.env.code = .ref c) (hm : (Pt, X.env.qual ++ "<lambda>") ∈ T) (hu : ∀ p ∈ T, p.1 = Pt → p.2 = X.env.qual ++ "<lambda>") (hfree : X.Ok → ∀ y ∈ sc.names, y.2 = .free → ∃ c, X.env.cells.lookup y.1 = some c)
    (hd : pr.defaults = [.Constant (.int 0) k0 p0]) (hk : pr.kw_defaults = []) :
    PE X (.Lambda pr b sc pos) (tMk T (X.env.qual ++ "<lambda>") pr b sc (cloFrom X.env.cells sc.names []) true) := by
  refine ⟨fun pins s σ H Q I h => ?_⟩
  obtain ⟨hT, h⟩ := h
  refine PySem.W.kdv_lam (by rw [hd]; rfl) hk ?_
  rw [hd]
  refine PySem.W.kdv_all1 (thn (pe_int.run pins s σ H (fun v H1 => v = .int 0 ∧ H1 = H) I ⟨rfl, rfl⟩) fun u s1 ⟨v, H1, I1, r, ev, eH⟩ => PySem.W.kdv_all0 ?_)
  subst ev eH
  rw [makeFunction_eq]
  simp only [List.zip_nil_right, List.filterMap_nil, List.isEmpty_nil, List.isEmpty_cons, Bool.false_eq_true, if_false, if_true, pure_bind]
  refine wpAny_bind (wpAny_newTextTuple ?_)
  have nt : H1 s1.heap.objs.size = none := I1.hok.fresh (Nat.le_refl _)
  have ex : Ex H1 (upd H1 s1.heap.objs.size (.tup [.int 0])) := Ex.new nt
  have ob : ObjOk X.prog X.w (upd H1 s1.heap.objs.size (.tup [.int 0])) (s1.heap.push { cls := .type "tuple", data := .seq [u].toArray }) s1.heap.objs.size (.tup [.int 0]) :=
    ⟨by show 1 ≤ sizeLine; decide, [u], .cons r .nil, _, Heap.get?_push_size _ rfl, rfl, 0, rfl⟩
  have I2 := I1.laid (t' := s1.toks) (fun b o e => Heap.get?_push_of_some _ e) (Nat.le_refl _) ob
  refine lam_tail I2 TB hcode hm hu (hT.ext ex) (hfree I.ok) fun f c' H2 s' I3 eN T1 nf hf hc => ⟨.ref f, H2, I3, rfl, h f H2 ((ExtN.of ex).trans eN) T1 ?_ ⟨_, c', hf, hc, s1.heap.objs.size, rfl, eN _ _ upd_same (fun _ z => by cases z)⟩⟩
  cases z : H1 f with
  | none => rfl
  | some o => rw [ex _ _ z] at nf; cases nf
end
end KS
end
noncomputable section
namespace KS
open PySem PySem.Spec PyProof.Rows L2 Evl
open LamX (CodeO Tabs TabS TabB ExtN codeO_ne)
/-! ### data that stays while cells come and go -/
section
variable {H H' : Hp}
mutual
theorem D.solid (e : ∀ a o, H a = some o → (∀ φ, o ≠ .ext φ) → H' a = some o) : ∀ {v : V} {d : PyData}, D H v d → D H' v d
  | _, _, .non => .non
  | _, _, .bl b => .bl b
  | _, _, .int b => .int b
  | _, _, .str b => .str b
  | _, _, .lst h a => .lst (e _ _ h fun _ z => by cases z) (DA.solid e a)
  | _, _, .tup h a => .tup (e _ _ h fun _ z => by cases z) (DA.solid e a)
theorem DA.solid (e : ∀ a o, H a = some o → (∀ φ, o ≠ .ext φ) → H' a = some o) : ∀ {xs : List V} {ds : List PyData}, DA H xs ds → DA H' xs ds
  | _, _, .nil => .nil
  | _, _, .cons h t => .cons (D.solid e h) (DA.solid e t)
end
end
theorem D.cut {C : List (Addr × V)} {H : Hp} {v : V} {d : PyData} (hC : CellsIn C H) (h : D H v d) : D (cut C H) v d := D.solid (fun a o e n => by rw [cut_out (hC.off e n)]; exact e) h
theorem put_back {C : List (Addr × V)} {H H1 : Hp} (hC : CellsIn C H) (e : Ex (cut C H) H1) (n : ∀ p ∈ C, H1 p.1 = none) : Ex H (put C H1) := fun a o h => by
  by_cases m : a ∈ C.map (·.1)
  · obtain ⟨v, l⟩ := look_some m
    have z := hC _ (look_mem l)
    rw [h] at z
    rw [put_some l]
    exact z.symm
  · rw [put_off m]
    exact e _ _ (by rw [cut_out m]; exact h)
/-- how a lambda's names stand to its maker's -/
def lamOk (S sc : Scope) (caps : List Str) : Bool :=
  decide (sc.kind = .function) && (!sc.isCoroutine && (!sc.isGenerator && ((sc.names.all fun y => !decide (y.2 = .cell) && (!decide (y.2 = .free) || (decide (S.names.lookup y.1 = some .cell) && decide (y.1 ∈ caps)))) && caps.all fun y => !decide (sc.names.lookup y = some .local))))
theorem lookup_fst {y : Str} : ∀ {vals : List (Str × V)}, y ∈ vals.map (·.1) → ∃ v, vals.lookup y = some v ∧ (y, v) ∈ vals
  | [], h => by cases h
  | (z, u) :: vals, h => by
    unfold List.lookup
    cases e : y == z with
    | true =>
      have : y = z := by simpa using e
      exact ⟨u, rfl, by rw [this]; exact List.mem_cons_self⟩
    | false =>
      have ne : ¬ y = z := by simpa using e
      rcases List.mem_cons.mp h with k | k
      · exact absurd k ne
      · obtain ⟨v, h1, h2⟩ := lookup_fst k
        exact ⟨v, h1, List.mem_cons_of_mem _ h2⟩
theorem lookup_nd {y : Str} {v : V} : ∀ {vals : List (Str × V)}, (vals.map (·.1)).Nodup → (y, v) ∈ vals → vals.lookup y = some v
  | [], _, h => by cases h
  | (z, u) :: vals, nd, h => by
    rw [List.map_cons, List.nodup_cons] at nd
    unfold List.lookup
    rcases List.mem_cons.mp h with k | k
    · cases k
      have : (y == y) = true := beq_self_eq_true y
      rw [this]
    · have ne : ¬ y = z := fun e => nd.1 (by rw [← e]; exact List.mem_map.mpr ⟨_, k, rfl⟩)
      have : (y == z) = false := by simpa using ne
      rw [this]
      exact lookup_nd nd.2 k
theorem clo_mk {S sc : Scope} {L : Nat} {vals : List (Str × V)} (hb : lamOk S sc (vals.map (·.1)) = true) (inj : ∀ y z c, (cellsFrom L S.names []).lookup y = some c → (cellsFrom L S.names []).lookup z = some c → y = z) :
    Clo sc (cloFrom (cellsFrom L S.names []) sc.names []) vals (capL (cellsFrom L S.names []) vals) := by
  unfold lamOk at hb
  simp only [Bool.and_eq_true, Bool.or_eq_true, Bool.not_eq_true', decide_eq_true_eq, decide_eq_false_iff_not, List.all_eq_true] at hb
  obtain ⟨h1, h2, h3, h4, h5⟩ := hb
  have fr : ∀ y ∈ sc.names, y.2 = .free → ∃ c, (cellsFrom L S.names []).lookup y.1 = some c := fun y hy e => by
    rcases (h4 y hy).2 with z | z
    · exact absurd e z
    · exact cell_has z.1
  have cm : ∀ y c, (cloFrom (cellsFrom L S.names []) sc.names []).lookup y = some c → (cellsFrom L S.names []).lookup y = some c ∧ (y, NameKind.free) ∈ sc.names := fun y c e => by
    rcases cloFrom_mem (PySem.mem_of_lookup e) with hm | ⟨g1, g2⟩
    · cases hm
    · obtain ⟨c1, hc⟩ := fr _ g1 rfl
      have hc : (cellsFrom L S.names []).lookup y = some c1 := hc
      have e2 : c = c1 := by rw [g2, hc] <;> rfl
      exact ⟨by rw [e2]; exact hc, g1⟩
  refine ⟨h1, h2, h3, fun y hy => (h4 y hy).1, fun y hy e => mem_lookup (cloFrom_has (cells := cellsFrom L S.names []) (acc := []) (by obtain ⟨a, b⟩ := y; cases e; exact hy)), fun y c e => ?_, fun y z c e1 e2 => inj y z c (cm y c e1).1 (cm z c e2).1⟩
  obtain ⟨hc, hy⟩ := cm y c e
  rcases (h4 _ hy).2 with k | k
  · exact absurd rfl k
  · obtain ⟨v, g1, g2⟩ := lookup_fst k.2
    exact ⟨v, g1, List.mem_filterMap.mpr ⟨(y, v), g2, by rw [hc]; rfl⟩⟩
theorem sig_ok {S sc : Scope} {vals : List (Str × V)} (hb : lamOk S sc (vals.map (·.1)) = true) (nd : (vals.map (·.1)).Nodup) : ∀ (i : Nat) (y : Str) (v : V), (vals.map (·.1))[i]? = some y → (vals.map fun p => some p.2)[i]? = some (some v) → vals.lookup y = some v ∧ sc.names.lookup y ≠ some .local := fun i y v h1 h2 => by
  unfold lamOk at hb
  simp only [Bool.and_eq_true, Bool.not_eq_true', decide_eq_false_iff_not, List.all_eq_true] at hb
  obtain ⟨_, _, _, _, h5⟩ := hb
  rw [List.getElem?_map] at h1 h2
  cases e : vals[i]? with
  | none => rw [e] at h1; cases h1
  | some p =>
    rw [e] at h1 h2
    cases h1
    cases h2
    have m := List.mem_of_getElem? e
    exact ⟨lookup_nd nd m, h5 _ (List.mem_map.mpr ⟨p, m, rfl⟩)⟩
/-! ### lambdas that refuse -/
/-- what stays: lists aside, but for those told -/
def Sto (l : List Addr) (H H' : Hp) : Prop := Ste H H' ∧ ∀ a ∈ l, ∀ xs, H a = some (.lst xs) → H' a = some (.lst xs)
theorem Sto.ex {l : List Addr} {H H' : Hp} (e : Ex H H') : Sto l H H' := ⟨Ste.ex e, fun a _ xs h => e _ _ h⟩
theorem Sto.extN {l : List Addr} {H H' : Hp} (e : ExtN H H') : Sto l H H' := ⟨Ste.extN e, fun a _ xs h => e _ _ h fun _ z => by cases z⟩
theorem Sto.trans {l : List Addr} {H H1 H2 : Hp} (a : Sto l H H1) (b : Sto l H1 H2) : Sto l H H2 := ⟨a.1.trans b.1, fun c m xs h => b.2 c m xs (a.2 c m xs h)⟩
theorem Sto.tu {l : List Addr} {H H' : Hp} (a : Sto l H H') : Tu H H' := fun c xs h => a.1 _ _ h (fun _ z => by cases z) (fun _ z => by cases z)
structure Rf (P : Program) (w : World) (K : PySem.W.Frag) (mg : Str → Option Value) (base : Heap) (k : Nat) (f CE : Addr) (dOk : Option Addr → Hp → Prop) (cond : Hp → Prop) : Prop where
  ex : ∃ tl, LamV P w K mg base k f cond tl ∧ ∀ (H : Hp) (E : XK) (Q : VK), cond H → (∀ d H', Ex H H' → dOk d H' → E (.ref CE) d H') → tl E H Q
/-- a thing of the list that a maker gave back -/
def RfAt (P : Program) (w : World) (K : PySem.W.Frag) (mg : Str → Option Value) (base : Heap) (k : Nat) (CE : Addr) (dOk : Option Addr → Hp → Prop) (l : List Addr) (f : Addr) (H : Hp) : Prop :=
  ∃ cond : Hp → Prop, cond H ∧ (∀ H1 H2, cond H1 → Sto l H1 H2 → cond H2) ∧ Rf P w K mg base k f CE dOk cond ∧ ∃ c' q, ∀ H1, cond H1 → H1 c' = some (CodeO c' q)
theorem RfAt.sto {P : Program} {w : World} {K : PySem.W.Frag} {mg : Str → Option Value} {base : Heap} {k : Nat} {CE : Addr} {dOk : Option Addr → Hp → Prop} {l : List Addr} {f : Addr} {H H' : Hp} (r : RfAt P w K mg base k CE dOk l f H) (e : Sto l H H') : RfAt P w K mg base k CE dOk l f H' := by
  obtain ⟨cond, h1, h2, h3, h4⟩ := r
  exact ⟨cond, h2 _ _ h1 e, h2, h3, h4⟩
theorem rf_at {P : Program} {w : World} {K : PySem.W.Frag} {mg : Str → Option Value} {base : Heap} {k : Nat} {f CE : Addr} {dOk : Option Addr → Hp → Prop} {l : List Addr} {q : Str} {pr : Arguments} {b : Expr} {S sc : Scope} {df : Bool} {L : Nat} {vals : List (Str × V)} {H : Hp} {tb : XK → TE} (data : Hp → Prop)
    (hb : lamOk S sc (vals.map (·.1)) = true) (nd : (vals.map (·.1)).Nodup) (inj : ∀ y z c, (cellsFrom L S.names []).lookup y = some c → (cellsFrom L S.names []).lookup z = some c → y = z) (BB : LamB pr b sc df)
    (hL : LamAt H f q pr b sc (cloFrom (cellsFrom L S.names []) sc.names []) df) (hC : CellsIn (capL (cellsFrom L S.names []) vals) H) (hd : data H) (hds : ∀ H1 H2, data H1 → Sto l H1 H2 → data H2) (hdk : ∀ d H1 H2, dOk d H1 → Ex H1 H2 → dOk d H2)
    (hbody : ∀ (A : Around) (outer : List Env) (s : Shared) (H : Hp) (E : XK) (c' : Addr), Room k (A.deeper (lamE q sc s.heap.objs.size f c' (cloFrom (cellsFrom L S.names []) sc.names []))) → PE (lamC P w K mg base (vals.map (·.1)) A outer s H E q sc f c' (cloFrom (cellsFrom L S.names []) sc.names [])) b (tb E))
    (hr : ∀ (H : Hp) (E : XK) (Q : VK), CellsIn (capL (cellsFrom L S.names []) vals) H → data H → (∀ d H1, Ex (cut (capL (cellsFrom L S.names []) vals) H) H1 → dOk d H1 → E (.ref CE) d H1) → tb E (vals.map fun p => some p.2) (cut (capL (cellsFrom L S.names []) vals) H) Q) :
    RfAt P w K mg base k CE dOk l f H := by
  have lv := lamV_mk (k := k) (f := f) (q := q) (clo_mk hb inj) BB (N := vals.map (·.1)) (σ := vals.map fun p => some p.2) (by rw [List.length_map, List.length_map]) (sig_ok hb nd) hbody
  obtain ⟨c', hc⟩ : ∃ c', H c' = some (CodeO c' q) := by
    obtain ⟨_, c', _, e2, _⟩ := id hL
    exact ⟨c', e2⟩
  refine ⟨fun H1 => (LamAt H1 f q pr b sc (cloFrom (cellsFrom L S.names []) sc.names []) df ∧ CellsIn (capL (cellsFrom L S.names []) vals) H1) ∧ data H1 ∧ H1 c' = some (CodeO c' q), ⟨⟨hL, hC⟩, hd, hc⟩, fun H1 H2 ⟨⟨a, b⟩, c, d⟩ e => ⟨⟨a.ste e.1, b.ste e.1⟩, hds _ _ c e, e.1 _ _ d (fun _ z => by unfold CodeO at z; cases z) (fun _ z => by unfold CodeO at z; cases z)⟩, ⟨_, ⟨fun H1 h => lv.at_ _ h.1, fun A outer s H1 Q E r e0 h t => lv.run A outer s H1 Q E r e0 h.1 t⟩, fun H1 E Q ⟨⟨_, hC1⟩, hd1, _⟩ hE => ?_⟩, c', q, fun H1 h => h.2.2⟩
  exact hr H1 _ _ hC1 hd1 fun d H2 e2 ok n => hE d _ (put_back hC1 e2 n) (hdk _ _ _ ok (put_ex n))
end KS
end
noncomputable section
namespace KS
open PySem PySem.Spec PyProof.Rows L2 Evl
/-! ### try, where the first clause, one with a name, takes whatever comes -/
def endsU (i : Nat) (D : Ends) : Ends := { nx := fun σ H => D.nx (σ.set i none) H, rt := D.rt, bk := fun σ H => D.bk (σ.set i none) H, ct := fun σ H => D.ct (σ.set i none) H }
def wFst (K : PySem.W.Frag) (c : Value) (i : Nat) (ts : Addr → Value → Option Addr → TS) (D : Ends) : WX := fun cls d σ H => PySem.W.exmOne K cls c = some true ∧ ∀ a, H a = none → ts a cls d (endsU i D) (σ.set i (some (.ref a))) H
theorem pssJ {X : Cx} (l : List Stmt) : PSs X l (fun _ _ _ => False) := ⟨fun _ _ _ _ _ _ h => h.elim⟩
theorem ps_try_fst {X : Cx} {x n : Str} {c : Value} {i : Nat} {body su : List Stmt} {b0 : Stmt} {more : List ExceptHandler} {np pos ps : Pos} {tb : WX → TS} {ts : Addr → Value → Option Addr → TS} (stk : X.stack = X.env :: X.outer) (frm : X.env.frame = some X.env.locals) (nd : X.N.Nodup) (hi : X.N[i]? = some n) (loc : X.env.kindOf n = some .local) (nm : Names X x c)
    (hb : ∀ (W : WX) (pn : List (Addr × Obj)) (xe : Value → Shared → Prop), Takes (X.tr pn xe) W → PassesOwn (model X.prog X.w) X.A X.env xe → PSs (X.tr pn xe) body (tb W))
    (hsu : ∀ (a : Addr) (oe : Obj) (cls : Value) (d : Option Addr) (pn : List (Addr × Obj)), Zc cls d oe → (∃ vs, oe.data = .fields vs) → PSs (X.suite a ((a, oe) :: pn)) (b0 :: su) (ts a cls d)) :
    PS X (.Try body (.ExceptHandler (some (.Name x np)) (some n) (b0 :: su) ps :: more) [] [] pos) (fun D σ H => tb (wFst X.K c i ts D) D σ H) := by
  refine ⟨fun pins s σ H D I ht => wpAny_Try_except ?_⟩
  have okX := I.ok
  have frA : X.A.frames = some (X.env :: X.outer) := okX.frames.trans (by rw [stk])
  refine wpAny_mono ((hb (wFst X.K c i ts D) (X.pn ++ pins) (fun e t1 => wpAny (model X.prog X.w) X.A (noteFrame e X.env) (fun _ t2 => wpAny (model X.prog X.w) X.A (setFlight e none) (fun _ t3 =>
    wpAny (model X.prog X.w) X.A (handleBy e X.env (.ExceptHandler (some (.Name x np)) (some n) (b0 :: su) ps :: more)) (SP X pins D) X.xe t3) X.xe t2) X.xe t1) (fun u t xx => ?_) PassesOwn.looking).run [] s σ H D (I.toTry _) ht) (fun fl t hsp => ?_) (fun _ _ z => z)
  · obtain ⟨a, B, t0, pins1, σ1, H1, cls, d, rfl, I0, nb, up, sky, na, os, ag, hyes, go⟩ := xx
    have I1 : Inv X pins σ1 H1 t0 := I0.ofTry okX
    have sky1 : Sky B (X.env :: X.outer) a (Zc cls d) X.env.locals t.heap := stk ▸ sky
    show wpAny (model X.prog X.w) X.A (noteFrame (.ref a) X.env) _ _ _
    refine Sky.land Zc.steady frA frm sky1 fun g fl up2 => ?_
    have I2 : Inv X pins σ1 H1 { t with heap := g } := I1.landed nb fl.1 (up.trans up2) os ag
    obtain ⟨oe, vs, he, hz, hd⟩ := fl.there
    have out : ¬ a ∈ frs (X.env :: X.outer) := fun m => by
      obtain ⟨_, o', e', hn⟩ := fl.2.2.1.mem m
      rw [he] at e'
      cases e'
      exact hn _ hd
    have a1 : a ≠ X.env.locals := fun z => out (List.mem_filterMap.mpr ⟨X.env, List.mem_cons_self, by rw [frm, z]⟩)
    have a2 : ¬ a ∈ X.fs := fun m => by
      obtain ⟨e, m1, m2⟩ := List.mem_filterMap.mp m
      exact out (List.mem_filterMap.mpr ⟨e, List.mem_cons_of_mem _ m1, m2⟩)
    have S := I2.suite he hd na a1 a2
    refine wpAny_handleBy_cons (codeAny_handlers_test ?_) (by intro q; cases q)
    have ty : PySem.W.Looks (model X.prog X.w) g (typeOf (.ref a)) cls := fun A Q E s k q => wpAny_typeOf_ref (k _ _ he) (by rw [hz.1]; exact q)
    have yes := PySem.W.exm_one (M := model X.prog X.w) I2.kIn ty hyes
    have test : ∀ {Q : Value → Shared → Prop} {E : Value → Shared → Prop}, Q c { t with heap := g } → wpAny (model X.prog X.w) (X.A.mark (some (.ref a))) (eval (.Name x np) X.env) Q E { t with heap := g } := fun {Q E} q => by
      obtain ⟨g1, g2, g3 | ⟨g3, g4, g5⟩⟩ := nm
      · exact ld_glob (X := X.suite a ((a, oe) :: (X.pn ++ pins))) S g1 g3 q g2
      · exact ld_blt (X := X.suite a ((a, oe) :: (X.pn ++ pins))) S g1 g3 g4 q g5 g2
    refine test (yes.here (codeAny_handlers_suite_as ?_))
    refine HandSPX.lands_againZ fl fun g2 fl2 up3 => ?_
    obtain ⟨oe2, vs2, he2, hz2, hd2⟩ := fl2.there
    have S2 := (I1.landed (s' := { t with heap := g2 }) nb fl2.1 ((up.trans up2).trans up3) os ag).suite he2 hd2 na a1 a2
    refine store_ok (X := X.suite a ((a, oe2) :: (X.pn ++ pins))) (v := .ref a) S2 nd hi (.inl loc) rfl (fun t5 S5 => ?_) (.inr loc)
    refine wpAny_mono ((hsu a oe2 cls d (X.pn ++ pins) hz2 ⟨_, hd2⟩).run [] t5 _ H1 _ S5 (go a na)) (fun w t6 hw => ?_) (fun _ _ z => False.elim z)
    have fin : ∀ {σ6 : L2.St} {H6 : Hp} {Q : Shared → Prop}, Inv (X.suite a ((a, oe2) :: (X.pn ++ pins))) [] σ6 H6 t6 → (∀ t7, Inv X pins (σ6.set i none) H6 t7 → Q t7) → wpAny (model X.prog X.w) X.A (do bindName X.env n .none; unbindBehindTheSuite X.env n ps) (fun _ t7 => Q t7) X.xe t6 := fun {σ6 H6 Q} S6 hq => gone_ok (S6.unsuite okX) nd hi loc hq
    cases w with
    | next =>
      obtain ⟨σ6, H6, S6, q6⟩ := hw
      exact fin S6 fun t7 J7 => ⟨_, _, J7, q6⟩
    | brk =>
      obtain ⟨σ6, H6, S6, q6⟩ := hw
      exact fin S6 fun t7 J7 => ⟨_, _, J7, q6⟩
    | cont =>
      obtain ⟨σ6, H6, S6, q6⟩ := hw
      exact fin S6 fun t7 J7 => ⟨_, _, J7, q6⟩
    | ret u =>
      obtain ⟨v6, σ6, H6, S6, r6, q6⟩ := hw
      exact fin S6 fun t7 J7 => ⟨_, _, _, J7, r6, q6⟩
  · cases fl with
    | next =>
      obtain ⟨σ1, H1, I1, q⟩ := hsp
      exact wpAny_execs_nil ⟨σ1, H1, I1.ofTry okX, q⟩
    | brk =>
      obtain ⟨σ1, H1, I1, q⟩ := hsp
      exact ⟨σ1, H1, I1.ofTry okX, q⟩
    | cont =>
      obtain ⟨σ1, H1, I1, q⟩ := hsp
      exact ⟨σ1, H1, I1.ofTry okX, q⟩
    | ret u =>
      obtain ⟨v, σ1, H1, I1, r, q⟩ := hsp
      exact ⟨v, σ1, H1, I1.ofTry okX, r, q⟩
end KS
end
noncomputable section
namespace KS
open PySem PySem.Spec PyProof.Rows L2 Evl
open LamX (CodeO Tabs TabS TabB ExtN codeO_ne)
/-! ### _law_kind and _law_number of such a lambda -/
def dNone : Option Addr → Hp → Prop := fun d _ => d = none
def dNum (f : Str) (n : Nat) : Option Addr → Hp → Prop := fun d H => ∃ dx, d = some dx ∧ H dx = some (.xd [(f, .int ((n : Nat) : Int))])
theorem dNone_ok : (∀ d H, dNone d H → DictOk d H) ∧ ∀ d H1 H2, dNone d H1 → Ex H1 H2 → dNone d H2 := ⟨fun d H h => .inl h, fun _ _ _ h _ => h⟩
theorem dNum_ok {f : Str} {n : Nat} : (∀ d H, dNum f n d H → DictOk d H) ∧ ∀ d H1 H2, dNum f n d H1 → Ex H1 H2 → dNum f n d H2 := ⟨fun d H ⟨dx, h1, h2⟩ => .inr ⟨dx, _, h1, h2⟩, fun _ _ _ ⟨dx, h1, h2⟩ e => ⟨dx, h1, e _ _ h2⟩⟩
theorem ed_xfJ {a C dd : Addr} {f : Str} {n : Int} {i : Nat} {σ : L2.St} {H : Hp} (hi : σ[i]? = some (some (.ref a))) (hd : H dd = some (.xd [(f, .int n)])) : ED (tXf a (.ref C) (some dd) C f (tVar i)) σ H (.int n) := fun H1 e Q q =>
  ⟨.ref a, hi, rfl, rfl, dd, _, .int n, rfl, e _ _ hd, by unfold List.lookup; rw [beq_self_eq_true], q _ H1 (Ex.refl _) (.int n)⟩
section
variable {P : Program} {w : World} {K : PySem.W.Frag} {mg : Str → Option Value} {base : Heap}
def spRfKind (P : Program) (w : World) (K : PySem.W.Frag) (mg : Str → Option Value) (base : Heap) (CS : Addr) (c8 : Cls8) (kL : Nat) : Sp := fun vs H Q _ => ∃ f CE j wd dOk l, vs = [.ref f] ∧ RfAt P w K mg base kL CE dOk l f H ∧ KindW K CS c8 CE j ∧ wrdL[j]? = some wd ∧ (∀ d H, dOk d H → DictOk d H) ∧ ∀ H', Ex H H' → Q (.str wd) H'
theorem ok_rfKind {CS : Addr} {c8 : Cls8} {kL : Nat} (m : Mg8 mg CS c8) (d : Df K mg "_law_kind" s_law_kind ["_law_work"]) : Cl P w K mg base "_law_kind" ["_law_work"] (kL + 2) (spRfKind P w K mg base CS c8 kL) := by
  refine d.ok sc_kind (fun vs H Q E h => by obtain ⟨_, _, _, _, _, _, rfl, _⟩ := h; rfl) (fun fa cdv A outer s H vs Q E hr h => ?_)
  obtain ⟨f, CE, j, wd, dOk, l, rfl, ⟨cond, hc, hst, ⟨tl, lv, hrf⟩, c', q, hcq⟩, kw, hw, hdk, hq⟩ := h
  let X0 : Cx := { cxOf CX0 P w K mg base N_kind "_law_kind" (defScope s_law_kind) fa cdv A outer s H E with A := A, stack := outer }
  exact kind_gives (X := X0) (g := fa) (cdg := cdv) (q := q) m f c' s H Q (fun E H Q => cond H ∧ tl E H Q)
    (fun W pn xe E p1 p2 tk hW => ⟨fun pins s σ H Q I h => (pe_lamV (i := 0) (E := E) lv hr (passes_call tk hW) rfl (.inl rfl)).run pins s σ H Q I ⟨h.1, h.2.2.1, h.2.2.2⟩⟩) (hcq H hc)
    ⟨hc, hrf H _ _ hc fun d H' e ok => ⟨CE, j, wd, rfl, kw, hw, hdk d H' ok, fun H'' e'' => hq H'' (e.trans e'')⟩⟩
abbrev N_num : List Str := ["_law_work", "e"]
theorem sc_num : FnScope N_num ["_law_work"] (defScope s_law_number) := ⟨rfl, rfl, rfl, by decide +kernel, rfl, by decide +kernel, by decide +kernel⟩
def suiteN : List Stmt := match defBody s_law_number with
  | .Try _ (.ExceptHandler _ _ s _ :: _) _ _ _ :: _ => s
  | _ => []
abbrev numCx (P : Program) (w : World) (K : PySem.W.Frag) (mg : Str → Option Value) (base : Heap) (fa : Addr) (cdv : Value) (A : Around) (outer : List Env) (s : Shared) (H : Hp) (E : XK) : Cx := (cxOf CX0 P w K mg base N_num "_law_number" (defScope s_law_number) fa cdv A outer s H E).nox
def spRfNum (P : Program) (w : World) (K : PySem.W.Frag) (mg : Str → Option Value) (base : Heap) (CB : Addr) (kL : Nat) : Sp := fun vs H Q _ => ∃ f n l, vs = [.ref f] ∧ RfAt P w K mg base kL CB (dNum "number" n) l f H ∧ ∀ H', Ex H H' → Q (.int ((n : Nat) : Int)) H'
theorem ok_rfNum {CB : Addr} {kL : Nat} (g : mg "BadFamily" = some (.ref CB)) (xB : XfC K CB) (nB : PySem.W.findIn K (.ref CB) "number" = some none) (ex : PySem.W.exmOne K (.ref CB) (.ref CB) = some true) (d : Df K mg "_law_number" s_law_number ["_law_work"]) : Cl P w K mg base "_law_number" ["_law_work"] (kL + 2) (spRfNum P w K mg base CB kL) := by
  refine d.ok sc_num (fun vs H Q E h => by obtain ⟨_, _, _, rfl, _⟩ := h; rfl) (fun fa cdv A outer s H vs Q E hr h => ?_)
  obtain ⟨f, n, l, rfl, ⟨cond, hc, hst, ⟨tl, lv, hrf⟩, c', q, hcq⟩, hq⟩ := h
  refine' ⟨_, pss_cons (ps_try_fst (X := numCx P w K mg base fa cdv A outer s H E) (c := .ref CB) (i := 1)
      (tb := fun W D σ H => ∃ Ech : XK, (∀ cls d σ' H', σ'.length = 2 → Ech cls d H' → W cls d σ' H') ∧ σ[0]? = some (some (.ref f)) ∧ cond H ∧ tl Ech H fun _ H2 => D.nx σ H2)
      rfl rfl sc_num.nd rfl rfl ⟨rfl, by decide, .inl g⟩ (fun W pn xe tk _ => ?body) (fun a oe cls d pn hz hf => ?suite)) (pssJ _), ?_⟩
  case body =>
    refine ⟨fun pins s' σ H' D I h' => ?_⟩
    obtain ⟨Ech, hW, h1, h2, h3⟩ := h'
    exact (pss_one (ps_expr (pe_lamV (X := (numCx P w K mg base fa cdv A outer s H E).tr pn xe) (i := 0) (E := Ech) lv hr (passes_call (W := fun cls d σ H => σ.length = ((numCx P w K mg base fa cdv A outer s H E).tr pn xe).N.length → W cls d σ H) (KS.Takes.len tk) (fun cls d σ' H' he hl => hW cls d σ' H' hl he)) rfl (.inl rfl)))).run pins s' σ H' D I ⟨h1, h2, h3⟩
  case suite =>
    have S : PSs ((numCx P w K mg base fa cdv A outer s H E).suite a ((a, oe) :: pn)) suiteN _ := pss_one (ps_ret (pe_xf (X := numCx P w K mg base fa cdv A outer s H E) xB nB hz hf (pv 1)))
    dsimp only [Cx.suite, numCx, Cx.nox, Cx.wish, cxOf] at S
    exact S
  · refine ⟨fun cls d H' => cls = .ref CB ∧ dNum "number" n d H' ∧ Ex H H', ?_, rfl, hc, hrf H _ _ hc fun d H' e ok => ⟨rfl, ok, e⟩⟩
    intro cls d σ' H' hl ⟨ec, ⟨dx, ed, hx⟩, e⟩
    subst ec ed
    obtain ⟨s0, s1, rfl⟩ : ∃ s0 s1, σ' = [s0, s1] := by
      match σ', hl with
      | [a, b], _ => exact ⟨a, b, rfl⟩
    refine ⟨ex, fun a na => ?_⟩
    refine sd_ret (ed_xfJ (i := 1) rfl hx) fun v H2 e2 hv => ?_
    have ev := hv.toInt
    subst ev
    exact hq H2 (e.trans e2)
end
end KS
end
noncomputable section
namespace KS
open PySem PySem.Spec PyProof.Rows L2 Evl
open RZ (tLenSetI pe_lenSetI)
open PySem.Froz (sing)
theorem Valid.Pts {f : Fam} (V : Valid f) {k : Int} (k0 : 0 ≤ k) (k1 : k < f.length) : Parts f (lm NN f [k]) := ⟨V.small k0 k1, fun p hp => by
  have o := V.parts k0 k1 hp
  exact ⟨o.1, o.2.1, o.2.2.1⟩⟩
/-- what may be asked of f -/
structure AskOk (f : Fam) (A : List Pair) : Prop where
  few : A.length ≤ 60
  ok : ∀ p ∈ A, 0 ≤ p.1 ∧ p.1 < f.length ∧ p.2 ∈ known f (lm NN f [p.1])
theorem AskOk.abc {f : Fam} {A : List Pair} (h : AskOk f A) : ∀ p ∈ A, p.2 ∈ KS.abc := fun p hp => (known_iff.mp (h.ok p hp).2.2).1
/-- the deeds that each kind knows -/
def knS (f : Fam) : List (List Nat) := (List.range f.length).map fun (k : Nat) => known f (lm NN f [(k : Int)])
def encKn (l : List Nat) : PyData := .str (txt l)
theorem knS_at {f : Fam} {k : Int} (k0 : 0 ≤ k) (k1 : k < f.length) : (knS f)[k.toNat]? = some (known f (lm NN f [k])) := by
  unfold knS
  rw [List.getElem?_map, List.getElem?_range (by omega)]
  have e : ((k.toNat : Nat) : Int) = k := by omega
  show some (known f (lm NN f [((k.toNat : Nat) : Int)])) = _
  rw [e]
theorem knS_len (f : Fam) : (knS f).length = f.length := by unfold knS; rw [List.length_map, List.length_range]
theorem flat_kn (l : List (List Nat)) : flatTs (l.map encKn) = true := flat_map (fun _ => rfl) l
section
variable {P : Program} {w : World} {K : PySem.W.Frag} {mg : Str → Option Value} {base : Heap}
/-! ### known_by_kinds -/
abbrev N_kbk : List Str := ["family", "kind"]
theorem sc_kbk : FnScope N_kbk ["family"] (defScope s_known_by_kinds) := ⟨rfl, rfl, rfl, by decide +kernel, rfl, by decide +kernel, by decide +kernel⟩
def R_kbk : List PyData → List PyData → Prop := fun ds es => ∃ f : Fam, ds = [encF f] ∧ Valid f ∧ es = (knS f).map encKn
theorem ok_kbk (B : Bt mg) (d : Df K mg "known_by_kinds" s_known_by_kinds ["family"]) (cM : Cl P w K mg base "met_from" ["family", "part"] 18 (spL R_met_from)) (cN : Cl P w K mg base "known" ["family", "found"] 2 (spD R_known)) : Cl P w K mg base "known_by_kinds" ["family"] 19 (spL R_kbk) := by
  refine d.ok sc_kbk (spL_len (by rintro _ _ ⟨_, rfl, _⟩; rfl)) (fun fa cdv A outer s H vs Q E hr h => ?_)
  obtain ⟨ds, es, hv, ⟨f, rfl, V, rfl⟩, q⟩ := h
  obtain ⟨x, rfl, hx⟩ := hv.args1
  refine ⟨_, pss_one (ps_ret (pe_lc (own := [("kind", 1)]) (g := gName 1) (tt := tYes) rfl sc_kbk.nd (pi_range1 (by rfl) B.range (pa_cons (pe_callB call_len rfl B.len PySem.boot_len (pa_cons (pv 0) pa_nil)) pa_nil)) (blkOk_by (N := N_kbk) (sc := defScope s_known_by_kinds) (by decide +kernel))
      (fun _ _ _ _ _ => pg_name (i := 1) sc_kbk.nd rfl (.inl rfl)) (fun _ _ _ _ _ => pts_nil) (fun _ _ _ _ _ => by exact pe_cl cN (hr.mono (by decide)) (by exact pa_cons (pv 0) (pa_cons (by exact pe_cl cM hr (by exact pa_cons (pv 0) (pa_cons (pe_tup (pa_cons (pv 1) pa_nil)) pa_nil))) pa_nil))))), ?_⟩
  have l7 := V.2.1
  refine sl_ret (el_is (el_lcR (n := f.length) (fun _ => true) (fun k => encKn (known f (lm NN f [(k : Int)]))) (eas1 (ed_is (ed_lenT (ds := f.map encK) (ed_var (i := 0) rfl hx)) (by rw [List.length_map]))) (by omega) (fun _ _ _ => rfl) fun i hi H1 e1 => ?_) (by rw [filt_true]; unfold knS; rw [List.map_map]; rfl)) fun p xs H2 np e2 hp ha => q p xs H2 np e2 hp ha
  have hf1 : D H1 x (encF (f ++ [])) := by rw [List.append_nil]; exact hx.mono e1
  have k0 : (0 : Int) ≤ (i : Int) := by omega
  have k1 : (i : Int) < f.length := by omega
  exact ⟨[some x, some (.int (i : Int))], rfl, fun _ _ R h => h, et_yes, fun _ => ed_call (eas2 (ed_var (i := 0) rfl hf1) (EL.ed (el_call' (eas2 (ed_var (i := 0) rfl hf1) (ed_tup (ds := [.int (i : Int)]) (eas1 (ed_var (i := 1) rfl (.int _))) (by show 1 ≤ 100000; decide))) ⟨f, [], [(i : Int)], rfl, V.kinds, V.2.2.1, V.parts k0 k1 (root_in f _), rfl⟩))) ⟨f, [], lm NN f [(i : Int)], rfl, V.Pts k0 k1, rfl⟩⟩
/-! ### can_be_asked -/
def inOne (l : List Nat) (s : Str) : Bool := match s.cps.toList with
  | [c] => decide (c ∈ l)
  | _ => false
def canB (ks : List (List Nat)) (k : Int) (s : Str) : Bool := (decide (0 ≤ k) && decide (k < ks.length)) && inOne (ks.getD k.toNat []) s
abbrev N_can : List Str := ["knowing", "pair", "kind", "deed"]
theorem sc_can : FnScope N_can ["knowing", "pair"] (defScope s_can_be_asked) := ⟨rfl, rfl, rfl, by decide +kernel, rfl, by decide +kernel, by decide +kernel⟩
def R_can : List PyData → PyData → Prop := fun ds d => ∃ (ks : List (List Nat)) (k : Int) (s : Str), ds = [.list (ks.map encKn), .tuple [.int k, .str s]] ∧ s.length ≤ 1000 ∧ d = .bool (canB ks k s)
theorem ok_can (B : Bt mg) (d : Df K mg "can_be_asked" s_can_be_asked ["knowing", "pair"]) (cW : Cl P w K mg base "is_whole" ["value"] 1 (spD R_is_whole)) : Cl P w K mg base "can_be_asked" ["knowing", "pair"] 2 (spD R_can) := by
  refine d.ok sc_can (spD_len (by rintro _ _ ⟨_, _, _, rfl, _⟩; rfl)) (fun fa cdv A outer s H vs Q E hr h => ?_)
  obtain ⟨ds, ee, hv, ⟨ks, k, st, rfl, sz, rfl⟩, q⟩ := h
  obtain ⟨x, y, rfl, hx, hy⟩ := hv.args2
  refine ⟨_, pss_cons (ps_if (PW.pt (pw_or (pt_not (pt_val (pe_callB call_isi rfl B.isinstance boot_isinstance (pa_cons (pv 1) (pa_cons (pe_bltn (v := .ty "tuple") rfl B.tuple (by decide +kernel) rfl) pa_nil)))))
      (pw_or1 (pt_cmpR op_ne (pe_callB call_len rfl B.len PySem.boot_len (pa_cons (pv 1) pa_nil)) pe_int (nomark _))))) (pss_one (ps_ret pe_bl)) pss_nil)
    (pss_cons (ps_asg (pv 1) (pg_tup rfl (pgs_cons (pg_name (i := 2) sc_can.nd rfl (.inl rfl)) (pgs_cons (pg_name (i := 3) sc_can.nd rfl (.inl rfl)) pgs_nil))))
    (pss_cons (ps_if (PW.pt (pw_or (pt_not (pt_val (pe_cl cW hr (pa_cons (pv 2) pa_nil)))) (pw_or1 (pt_not (pt_chain op_le op_lt pe_int (pv 2) (pe_callB call_len rfl B.len PySem.boot_len (pa_cons (pv 0) pa_nil))))))) (pss_one (ps_ret pe_bl)) pss_nil)
    (pss_one (ps_ret (pe_and (pe_callB call_isi rfl B.isinstance boot_isinstance (pa_cons (pv 3) (pa_cons (pe_bltn (v := .ty "str") rfl B.str (by decide +kernel) rfl) pa_nil))) (pe_and (pe_cmpR op_eq (pe_callB call_len rfl B.len PySem.boot_len (pa_cons (pv 3) pa_nil)) pe_int (nomark _)) (pe_one (pe_cmpR op_inS (pv 3) (pe_ix (r := rIxL K) ix_list (pv 0) (pv 2) (fun _ _ => rfl)) rfl)))))))), ?_⟩
  refine sd_if (b := false) (et_or (a := false) (b := false) (et_not (a := true) (et_DB (ed_isi (ed_var (i := 1) rfl hy) rfl kb_tuple_tuple))) fun _ => et_D (b := false) (ed_is (ed_neI (s := 2) (s' := 2) (ed_is (ed_lenT (ed_var (i := 1) rfl hy)) rfl) (ed_ci 2)) rfl)) (fun z => nomatch z) fun _ H1 e1 => ?_
  refine st_next ?_
  dsimp only
  refine sd_asg2 (d1 := .int k) (d2 := .str st) (ed_var (i := 1) rfl (hy.mono e1)) fun v1 v2 H2 e2 h1 h2 => ?_
  have hx2 := (hx.mono e1).mono e2
  have chain := ed_chain (σ := [some x, some y, some v1, some v2]) (H := H2) (p := fun i j => decide (i ≤ j)) (p' := fun i j => decide (i < j)) (ed_ci 0) (ed_var (i := 2) rfl h1) (ed_is (ed_lenL (K := K) (ds := ks.map encKn) (ed_var (i := 0) rfl hx2)) (d' := .int ((ks.length : Nat) : Int)) (by rw [List.length_map]))
  by_cases hk : 0 ≤ k ∧ k < ks.length
  · refine sd_if (b := false) (et_or (a := false) (b := false) (et_not (a := true) (et_DB (ed_call (eas1 (ed_var (i := 2) rfl h1)) (R_whole_int k)))) fun _ => et_not (a := true) (et_D (ed_is chain (by rw [decide_eq_true hk.1, decide_eq_true hk.2]; rfl)))) (fun z => nomatch z) fun _ H3 e3 => ?_
    refine st_next ?_
    dsimp only
    have eb : canB ks k st = (true && (decide (((st.length : Nat) : Int) = 1) && inOne (ks.getD k.toNat []) st)) := by
      unfold canB
      rw [decide_eq_true hk.1, decide_eq_true hk.2]
      unfold inOne
      show _ = (true && (decide (((st.cps.size : Nat) : Int) = 1) && _))
      rw [← Array.length_toList]
      cases hc : st.cps.toList with
      | nil => simp
      | cons c r =>
        cases r with
        | nil => simp
        | cons c' r => simp
    refine sd_ret (ed_is (ed_andV (a := true) (ed_isi (ed_var (i := 3) rfl (h2.mono e3)) rfl kb_str_str) fun _ => ed_andV (a := decide (((st.length : Nat) : Int) = 1)) (b := inOne (ks.getD k.toNat []) st) (ed_eqI (ed_len (ed_var (i := 3) rfl (h2.mono e3)) ⟨rfl, sz_of (by omega)⟩) (ed_ci 1)) fun hl => ?_) (by rw [eb])) fun v H4 e4 hv4 => q v H4 (((e1.trans e2).trans e3).trans e4) hv4
    have hl1 : st.cps.toList.length = 1 := by
      have := of_decide_eq_true hl
      rw [Array.length_toList]
      show st.length = 1
      omega
    obtain ⟨c, hc⟩ : ∃ c, st.cps.toList = [c] := by
      cases hq : st.cps.toList with
      | nil => rw [hq] at hl1; cases hl1
      | cons c r =>
        cases r with
        | nil => exact ⟨c, rfl⟩
        | cons c' r => rw [hq] at hl1; simp at hl1
    have es : st = ⟨#[c]⟩ := TL.ext_tl (show st.cps.toList = [c] from hc)
    have kl : k.toNat < ks.length := by omega
    have hg : ks[k.toNat]? = some (ks.getD k.toNat []) := by rw [List.getD_eq_getElem?_getD, List.getElem?_eq_getElem kl]; rfl
    subst es
    refine ed_is (ed_inS (c := c) (z := txt (ks.getD k.toNat [])) (ed_var (i := 3) rfl (h2.mono e3)) (ed_ixL (ds := ks.map encKn) (i := k) (ed_var (i := 0) rfl (hx2.mono e3)) (ed_var (i := 2) rfl (h1.mono e3)) ?_)) ?_
    · have := atI_nat (xs := ks.map encKn) (j := k.toNat) (v := encKn (ks.getD k.toNat [])) (by rw [List.getElem?_map, hg]; rfl)
      rwa [show ((k.toNat : Nat) : Int) = k by omega] at this
    · rfl
  · refine sd_if (b := true) (et_or (a := false) (b := true) (et_not (a := true) (et_DB (ed_call (eas1 (ed_var (i := 2) rfl h1)) (R_whole_int k)))) fun _ => et_not (a := false) (et_D (ed_is chain ?_))) (fun _ H3 e3 => ?_) (fun z => nomatch z)
    · congr 1
      by_cases h0 : 0 ≤ k
      · have : ¬ k < ks.length := fun z => hk ⟨h0, z⟩
        rw [decide_eq_false this, Bool.and_false]
      · rw [decide_eq_false h0, Bool.false_and]
    · refine sd_ret (ed_cb false) fun v H4 e4 hv4 => q v H4 (((e1.trans e2).trans e3).trans e4) ?_
      have : canB ks k st = false := by
        unfold canB
        by_cases h0 : 0 ≤ k
        · have : ¬ k < ks.length := fun z => hk ⟨h0, z⟩
          rw [decide_eq_false this, Bool.and_false, Bool.false_and]
        · rw [decide_eq_false h0, Bool.false_and, Bool.false_and]
      rw [this]
      exact hv4
theorem can_ok {f : Fam} {p : Pair} (h : 0 ≤ p.1 ∧ p.1 < f.length ∧ p.2 ∈ known f (lm NN f [p.1])) : canB (knS f) p.1 (sing p.2) = true := by
  unfold canB
  rw [knS_len, decide_eq_true h.1, decide_eq_true h.2.1, List.getD_eq_getElem?_getD, knS_at h.1 h.2.1]
  exact decide_eq_true h.2.2
/-! ### need_pairs, need_asked -/
abbrev N_npairs : List Str := ["families", "asked", "each_knowing", "family", "number", "pair", "knowing"]
theorem sc_npairs : FnScope N_npairs ["families", "asked"] (defScope s_need_pairs) := ⟨rfl, rfl, rfl, by decide +kernel, rfl, by decide +kernel, by decide +kernel⟩
def R_npairs : List PyData → PyData → Prop := fun ds d => ∃ (fs : List Fam) (A : List Pair), ds = [.list (fs.map encF), .list (A.map encA)] ∧ (∀ f ∈ fs, Valid f ∧ AskOk f A) ∧ A.length ≤ 60 ∧ fs.length ≤ 5 ∧ d = .none
theorem all_canB {fs : List Fam} {A : List Pair} (h : ∀ f ∈ fs, Valid f ∧ AskOk f A) {p : Pair} (hp : p ∈ A) : ((fs.map knS).map fun ks => canB ks p.1 (sing p.2)).all id = true := by
  rw [List.all_eq_true]
  intro b hb
  obtain ⟨ks, h1, rfl⟩ := List.mem_map.mp hb
  obtain ⟨f, hf, rfl⟩ := List.mem_map.mp h1
  exact can_ok ((h f hf).2.ok p hp)
theorem ok_npairs (B : Bt mg) (m60 : ∃ t, mg "MOST_ASKED" = some (.int 60 t)) (d : Df K mg "need_pairs" s_need_pairs ["families", "asked"]) (cK : Cl P w K mg base "known_by_kinds" ["family"] 19 (spL R_kbk)) (cC : Cl P w K mg base "can_be_asked" ["knowing", "pair"] 2 (spD R_can)) :
    Cl P w K mg base "need_pairs" ["families", "asked"] 20 (spD R_npairs) := by
  obtain ⟨t60, m60⟩ := m60
  refine d.ok sc_npairs (spD_len (by rintro _ _ ⟨_, _, rfl, _⟩; rfl)) (fun fa cdv A outer s H vs Q E hr h => ?_)
  obtain ⟨ds, ee, hv, ⟨fs, As, rfl, ok, l60, l5, rfl⟩, q⟩ := h
  obtain ⟨x, y, rfl, hx, hy⟩ := hv.args2
  refine ⟨_, pss_cons (ps_if (pt_cmpR op_gt (pe_callB call_len rfl B.len PySem.boot_len (pa_cons (pv 1) pa_nil)) (pe_glob (v := .int 60) rfl m60 ⟨_, rfl⟩) (nomark _)) (pss_one ps_never) pss_nil)
    (pss_cons (ps_setLc (i := 2) (own := [("family", 3)]) (g := gName 3) (tt := tYes) rfl sc_npairs.nd rfl rfl (sw_true rfl rfl rfl (by decide +kernel)) (pi_list (pv 0)) (blkOk_by (N := N_npairs) (sc := defScope s_need_pairs) (by decide +kernel))
      (fun _ _ _ _ _ => pg_name (i := 3) sc_npairs.nd rfl (.inl rfl)) (fun _ _ _ _ _ => pts_nil) (fun _ _ _ _ _ => by exact pe_cl cK hr (by exact pa_cons (pv 3) pa_nil)))
    (pss_one (ps_for PassesOwn.never rfl (pi_enum (by rfl) B.enumerate (pa_cons (pv 1) pa_nil)) (pg_tup rfl (pgs_cons (pg_name (i := 4) sc_npairs.nd rfl (.inl rfl)) (pgs_cons (pg_name (i := 5) sc_npairs.nd rfl (.inr rfl)) pgs_nil)))
      (pss_one (ps_if (pt_not (pt_val (pe_callB (cr_all (by rfl)) (by rfl) B.all boot_all (pa_cons (pe_lc (own := [("knowing", 6)]) (g := gName 6) (tt := tYes) rfl sc_npairs.nd (pi_list (pv 2)) (blkOk_by (N := N_npairs) (sc := defScope s_need_pairs) (by decide +kernel))
        (fun _ _ _ _ _ => pg_name (i := 6) sc_npairs.nd rfl (.inl rfl)) (fun _ _ _ _ _ => pts_nil) (fun _ _ _ _ _ => by exact pe_cl cC (hr.mono (by decide)) (by exact pa_cons (pv 6) (pa_cons (pv 5) pa_nil)))) pa_nil)))) (pss_one ps_never) pss_nil))))), ?_⟩
  refine sd_if (b := false) (et_D (ed_is (ed_I0 (d := .bool (decide (60 < ((As.length : Nat) : Int)))) (ed_is (ed_lenL (ds := As.map encA) (ed_var (i := 1) rfl hy)) (by rw [List.length_map])) (ed_ci 60) fun H => .bl _) (by rw [decide_eq_false (by omega)]))) (fun z => nomatch z) fun _ H1 e1 => ?_
  refine st_next ?_
  dsimp only
  refine sll_asg (rs := fs.map fun f => (knS f).map encKn) (el_lcLN (enc := encF) (fun f => (knS f).map encKn) (ed_var (i := 0) rfl (hx.mono e1)) (by omega) (fun f _ => flat_kn _) fun f hf v H2 e2 hv => ?_) fun ek acc H2 nk e2 hek al => ?_
  · exact ⟨[some x, some y, none, some v, none, none, none], rfl, fun _ _ R h => h, el_call' (eas1 (ed_var (i := 3) rfl hv)) ⟨f, rfl, (ok f hf).1, rfl⟩⟩
  dsimp only
  have hek2 : D H2 (.ref ek) (.list ((fs.map knS).map fun ks => .list (ks.map encKn))) := by
    have := D.lst hek al.da
    rw [List.map_map] at this ⊢
    exact this
  have hy2 := (hy.mono e1).mono e2
  obtain ⟨a, xs, rfl, ha, hd⟩ := hy2.toLst
  have xl : xs.length = As.length := by rw [hd.len, List.length_map]
  refine ⟨.ref a, rfl, a, xs, rfl, SqL.of ha, for_it walk_enum (fun i σ H' => (∃ u3 u4 u5, σ = [some x, some (.ref a), some (.ref ek), u3, u4, u5, none]) ∧ Ex H2 H') ⟨⟨_, _, _, rfl⟩, Ex.refl _⟩ (fun i σ H' _ ⟨_, e⟩ => SqL.of (e _ _ ha)) (fun i y' σ H' H'' hi ⟨⟨u3, u4, u5, es⟩, e3⟩ hY => ?_) (fun σ H' ⟨_, e3⟩ => ?_)⟩
  · subst es
    obtain ⟨T, v1, v2, rfl, nT, rfl, g1, g2⟩ := hY
    obtain rfl := Option.some.inj g1
    obtain ⟨dd, hd1, hv2⟩ := hd.get2 g2
    obtain ⟨p, h1, h2⟩ : ∃ p, As[i]? = some p ∧ dd = encA p := by
      rw [List.getElem?_map] at hd1
      cases z : As[i]? with
      | none => rw [z] at hd1; cases hd1
      | some k => rw [z] at hd1; exact ⟨k, rfl, (Option.some.inj hd1).symm⟩
    subst h2
    have pm := List.mem_of_getElem? h1
    have e4 : Ex H' (upd H' T (.tup [.int (i : Nat), v2])) := Ex.new nT
    have hp4 := (hv2.mono e3).mono e4
    refine ⟨T, [.int (i : Nat), v2], rfl, SqT.of upd_same, rfl, .int (i : Nat), [v2], rfl, v2, [], rfl, rfl, ?_⟩
    refine sd_if (b := false) (et_not (a := true) (et_DB (ed_is (ed_all (bs := (fs.map knS).map fun ks => canB ks p.1 (sing p.2)) (EL.ed (el_is (el_lcL2 (as := fs.map knS) (enc := fun ks => .list (ks.map encKn)) (fun _ => true) (fun ks => .bool (canB ks p.1 (sing p.2))) (ed_var (σ := [some x, some (.ref a), some (.ref ek), u3, some (.int (i : Nat)), some v2, none]) (i := 2) rfl ((hek2.mono e3).mono e4)) (by rw [List.length_map]; omega) (fun _ _ _ => rfl) fun ks hks v H5 e5 hv => ?_) (by rw [filt_true, List.map_map, List.map_map, List.map_map]; rfl)))) (by rw [all_canB ok pm])))) (fun z => nomatch z) fun _ H5 e5 => ?_
    · have sl : (sing p.2).length ≤ 1000 := by show 1 ≤ 1000; decide
      exact ⟨[some x, some (.ref a), some (.ref ek), u3, some (.int (i : Nat)), some v2, some v], rfl, fun _ _ R h => h, et_yes, fun _ => ed_call (eas2 (ed_var (i := 6) rfl hv) (ed_var (i := 5) rfl (hp4.mono e5))) ⟨ks, p.1, sing p.2, rfl, sl, rfl⟩⟩
    · exact ⟨⟨_, _, _, rfl⟩, (e3.trans e4).trans e5⟩
  · exact q .non H' ((e1.trans e2).trans e3) .non
end
end KS
end
noncomputable section
namespace KS
open PySem PySem.Spec PyProof.Rows L2 Evl
open PySem.Froz (sing)
/-! ### pairs as they may be handed in -/
abbrev RawP := Int × Str
def encQ (q : RawP) : PyData := .tuple [.int q.1, .str q.2]
def rawP (p : Pair) : RawP := (p.1, sing p.2)
theorem encQ_raw (p : Pair) : encQ (rawP p) = encA p := rfl
theorem encQs_raw (A : List Pair) : (A.map rawP).map encQ = A.map encA := by rw [List.map_map]; rfl
theorem flat_Q (q : RawP) : flatT (encQ q) = true := rfl
theorem flat_Qs (l : List RawP) : flatTs (l.map encQ) = true := flat_map flat_Q l
def canAll (fs : List Fam) (p : RawP) : Bool := ((fs.map knS).map fun ks => canB ks p.1 p.2).all id
/-- the number that BadAsked tells -/
def badF (fs : List Fam) (A : List RawP) : Option Nat := if 60 < A.length then some 60 else A.findIdx? fun p => !canAll fs p
def spNpX (CB : Addr) : Sp := fun vs H Q E => ∃ (fs : List Fam) (A : List RawP), DA H vs [.list (fs.map encF), .list (A.map encQ)] ∧ (∀ f ∈ fs, Valid f) ∧ fs.length ≤ 5 ∧ (∀ p ∈ A, p.2.length ≤ 1000) ∧ A.length ≤ 10000 ∧
  ((badF fs A = none ∧ ∀ H', Ex H H' → Q .non H') ∨ ∃ n, badF fs A = some n ∧ RaisesN CB "number" n H E)
theorem badF_ok {fs : List Fam} {A : List Pair} (l : A.length ≤ 60) (h : ∀ f ∈ fs, Valid f ∧ AskOk f A) : badF fs (A.map rawP) = none := by
  unfold badF
  rw [if_neg (by rw [List.length_map]; omega), List.findIdx?_eq_none_iff]
  intro p hp
  obtain ⟨q, hq, rfl⟩ := List.mem_map.mp hp
  have := all_canB h hq
  show (!((fs.map knS).map fun ks => canB ks q.1 (sing q.2)).all id) = false
  rw [this]; rfl
section
variable {P : Program} {w : World} {K : PySem.W.Frag} {mg : Str → Option Value} {base : Heap}
theorem ok_npX {CB : Addr} (B : Bt mg) (N : ErrN P w K mg base "BadAsked" "number" CB) (m60 : ∃ t, mg "MOST_ASKED" = some (.int 60 t)) (d : Df K mg "need_pairs" s_need_pairs ["families", "asked"]) (cK : Cl P w K mg base "known_by_kinds" ["family"] 19 (spL R_kbk)) (cC : Cl P w K mg base "can_be_asked" ["knowing", "pair"] 2 (spD R_can)) :
    ClX P w K mg base "need_pairs" ["families", "asked"] 20 (spNpX CB) := by
  obtain ⟨t60, m60⟩ := m60
  refine d.okX sc_npairs (fun vs H Q E h => by obtain ⟨_, _, h, _⟩ := h; exact h.len) (fun fa cdv A outer s H vs Q E hr h => ?_)
  obtain ⟨fs, As, hv, ok, l5, lp, lA, q⟩ := h
  obtain ⟨x, y, rfl, hx, hy⟩ := hv.args2
  refine ⟨_, pss_cons (ps_if (pt_cmpR op_gt (pe_callB call_len rfl B.len PySem.boot_len (pa_cons (pv 1) pa_nil)) (pe_glob (v := .int 60) rfl m60 ⟨_, rfl⟩) (nomark _)) (pss_one (ps_raise rfl (takes_of rfl rfl rfl rfl) (pmk_num N hr (by omega) (pa_cons (pe_glob (v := .int 60) rfl m60 ⟨_, rfl⟩) pa_nil)))) pss_nil)
    (pss_cons (ps_setLc (i := 2) (own := [("family", 3)]) (g := gName 3) (tt := tYes) rfl sc_npairs.nd rfl rfl (sw_true rfl rfl rfl (by decide +kernel)) (pi_list (pv 0)) (blkOk_by (N := N_npairs) (sc := defScope s_need_pairs) (by decide +kernel))
      (fun _ _ _ _ _ => pg_name (i := 3) sc_npairs.nd rfl (.inl rfl)) (fun _ _ _ _ _ => pts_nil) (fun _ _ _ _ _ => by exact pe_cl cK hr (by exact pa_cons (pv 3) pa_nil)))
    (pss_one (ps_for (passes_of rfl) rfl (pi_enum (by rfl) B.enumerate (pa_cons (pv 1) pa_nil)) (pg_tup rfl (pgs_cons (pg_name (i := 4) sc_npairs.nd rfl (.inl rfl)) (pgs_cons (pg_name (i := 5) sc_npairs.nd rfl (.inr rfl)) pgs_nil)))
      (pss_one (ps_if (pt_not (pt_val (pe_callB (cr_all (by rfl)) (by rfl) B.all boot_all (pa_cons (pe_lc (own := [("knowing", 6)]) (g := gName 6) (tt := tYes) rfl sc_npairs.nd (pi_list (pv 2)) (blkOk_by (N := N_npairs) (sc := defScope s_need_pairs) (by decide +kernel))
        (fun _ _ _ _ _ => pg_name (i := 6) sc_npairs.nd rfl (.inl rfl)) (fun _ _ _ _ _ => pts_nil) (fun _ _ _ _ _ => by exact pe_cl cC (hr.mono (by decide)) (by exact pa_cons (pv 6) (pa_cons (pv 5) pa_nil)))) pa_nil)))) (pss_one (ps_raise rfl (takes_of rfl rfl rfl rfl) (pmk_num N hr (by omega) (pa_cons (pv 4) pa_nil)))) pss_nil))))), ?_⟩
  by_cases h60 : 60 < As.length
  · have b60 : badF fs As = some 60 := by unfold badF; rw [if_pos h60]
    refine sd_if (b := true) (et_D (ed_is (ed_I0 (d := .bool (decide (60 < ((As.length : Nat) : Int)))) (ed_is (ed_lenL (ds := As.map encQ) (ed_var (i := 1) rfl hy)) (by rw [List.length_map])) (ed_ci 60) fun H => .bl _) (by rw [decide_eq_true (by omega)]))) (fun _ H1 e1 => ?_) (fun z => nomatch z)
    rcases q with ⟨hb, _⟩ | ⟨n, hb, q⟩
    · rw [b60] at hb; cases hb
    · rw [b60] at hb
      have hb := Option.some.inj hb
      subst hb
      refine mk_num N.T N.no (by decide) (eas1 (ed_ci 60)) fun d H' e hd => q d H' (e1.trans e) hd
  have bq : badF fs As = As.findIdx? fun p => !canAll fs p := by unfold badF; rw [if_neg h60]
  refine sd_if (b := false) (et_D (ed_is (ed_I0 (d := .bool (decide (60 < ((As.length : Nat) : Int)))) (ed_is (ed_lenL (ds := As.map encQ) (ed_var (i := 1) rfl hy)) (by rw [List.length_map])) (ed_ci 60) fun H => .bl _) (by rw [decide_eq_false (by omega)]))) (fun z => nomatch z) fun _ H1 e1 => ?_
  refine st_next ?_
  dsimp only
  refine sll_asg (rs := fs.map fun f => (knS f).map encKn) (el_lcLN (enc := encF) (fun f => (knS f).map encKn) (ed_var (i := 0) rfl (hx.mono e1)) (by omega) (fun f _ => flat_kn _) fun f hf v H2 e2 hv => ?_) fun ek acc H2 nk e2 hek al => ?_
  · exact ⟨[some x, some y, none, some v, none, none, none], rfl, fun _ _ R h => h, el_call' (eas1 (ed_var (i := 3) rfl hv)) ⟨f, rfl, ok f hf, rfl⟩⟩
  dsimp only
  have hek2 : D H2 (.ref ek) (.list ((fs.map knS).map fun ks => .list (ks.map encKn))) := by
    have := D.lst hek al.da
    rw [List.map_map] at this ⊢
    exact this
  have hy2 := (hy.mono e1).mono e2
  obtain ⟨a, xs, rfl, ha, hd⟩ := hy2.toLst
  have xl : xs.length = As.length := by rw [hd.len, List.length_map]
  refine ⟨.ref a, rfl, a, xs, rfl, SqL.of ha, for_it walk_enum (fun i σ H' => (∃ u3 u4 u5, σ = [some x, some (.ref a), some (.ref ek), u3, u4, u5, none]) ∧ Ex H2 H' ∧ ∀ j p, j < i → As[j]? = some p → canAll fs p = true) ⟨⟨_, _, _, rfl⟩, Ex.refl _, fun j p z => absurd z (Nat.not_lt_zero _)⟩ (fun i σ H' _ ⟨_, e, _⟩ => SqL.of (e _ _ ha)) (fun i y' σ H' H'' hi ⟨⟨u3, u4, u5, es⟩, e3, all_⟩ hY => ?_) (fun σ H' ⟨_, e3, all_⟩ => ?_)⟩
  · subst es
    obtain ⟨T, v1, v2, rfl, nT, rfl, g1, g2⟩ := hY
    obtain rfl := Option.some.inj g1
    obtain ⟨dd, hd1, hv2⟩ := hd.get2 g2
    obtain ⟨p, h1, h2⟩ : ∃ p, As[i]? = some p ∧ dd = encQ p := by
      rw [List.getElem?_map] at hd1
      cases z : As[i]? with
      | none => rw [z] at hd1; cases hd1
      | some k => rw [z] at hd1; exact ⟨k, rfl, (Option.some.inj hd1).symm⟩
    subst h2
    have pm := List.mem_of_getElem? h1
    have e4 : Ex H' (upd H' T (.tup [.int (i : Nat), v2])) := Ex.new nT
    have hp4 := (hv2.mono e3).mono e4
    refine ⟨T, [.int (i : Nat), v2], rfl, SqT.of upd_same, rfl, .int (i : Nat), [v2], rfl, v2, [], rfl, rfl, ?_⟩
    refine sd_if (b := !canAll fs p) (et_not (a := canAll fs p) (et_DB (ed_all (bs := (fs.map knS).map fun ks => canB ks p.1 p.2) (EL.ed (el_is (el_lcL2 (as := fs.map knS) (enc := fun ks => .list (ks.map encKn)) (fun _ => true) (fun ks => .bool (canB ks p.1 p.2)) (ed_var (σ := [some x, some (.ref a), some (.ref ek), u3, some (.int (i : Nat)), some v2, none]) (i := 2) rfl ((hek2.mono e3).mono e4)) (by rw [List.length_map]; omega) (fun _ _ _ => rfl) fun ks hks v H5 e5 hv => ?_) (by rw [filt_true, List.map_map, List.map_map, List.map_map]; rfl)))))) (fun z H5 e5 => ?_) fun z H5 e5 => ?_
    · exact ⟨[some x, some (.ref a), some (.ref ek), u3, some (.int (i : Nat)), some v2, some v], rfl, fun _ _ R h => h, et_yes, fun _ => ed_call (eas2 (ed_var (i := 6) rfl hv) (ed_var (i := 5) rfl (hp4.mono e5))) ⟨ks, p.1, p.2, rfl, lp p pm, rfl⟩⟩
    · have hbad : canAll fs p = false := by simpa using z
      have il : i < As.length := (List.getElem?_eq_some_iff.mp h1).1
      have hidx : badF fs As = some i := by
        rw [bq, List.findIdx?_eq_some_iff_getElem]
        refine ⟨il, ?_, fun j hj => ?_⟩
        · rw [(List.getElem?_eq_some_iff.mp h1).2, hbad]; rfl
        · rw [all_ j _ hj (List.getElem?_eq_getElem (by omega))]; decide
      rcases q with ⟨hb, _⟩ | ⟨n, hb, q⟩
      · rw [hidx] at hb; cases hb
      · rw [hidx] at hb
        have hb := Option.some.inj hb
        subst hb
        refine mk_num N.T N.no ?_ (eas1 (ed_var (i := 4) rfl (.int _))) fun d H' e hd => q d H' (((((e1.trans e2).trans e3).trans e4).trans e5).trans e) hd
        show ((i : Int)).natAbs.log2 < 1920
        rw [Int.natAbs_natCast]
        rcases Nat.eq_zero_or_pos i with z | z
        · rw [z]; decide
        · exact Nat.lt_of_lt_of_le ((Nat.log2_lt (by omega)).mpr (show i < 2 ^ 20 by omega)) (by decide)
    · refine ⟨⟨_, _, _, rfl⟩, (e3.trans e4).trans e5, fun j p' hj hp' => ?_⟩
      rcases Nat.lt_succ_iff_lt_or_eq.mp hj with z2 | z2
      · exact all_ j p' z2 hp'
      · subst z2
        rw [h1] at hp'
        cases hp'
        simpa using z
  · rcases q with ⟨_, q⟩ | ⟨n, hb, _⟩
    · exact q H' ((e1.trans e2).trans e3)
    · rw [bq, List.findIdx?_eq_some_iff_getElem] at hb
      obtain ⟨hl, h1, _⟩ := hb
      have := all_ n _ (by omega) (List.getElem?_eq_getElem hl)
      rw [this] at h1
      cases h1
end
end KS
end
noncomputable section
namespace KS
open PySem PySem.Spec PyProof.Rows L2 Evl
open PySem.Froz (sing)
theorem pssN {X : Cx} (l : List Stmt) : PSs X l (fun _ _ _ => False) := ⟨fun _ _ _ _ _ _ h => h.elim⟩
theorem s_dropY {σ : L2.St} {H : Hp} {ds : List PyData} {Dn : Ends} {sp : Sp} {E : L2.St → XK} {ta : TA} (h : EAs ta σ H ds) (k : ∀ vs H1, Ex H H1 → DA H1 vs ds → sp vs H1 (fun _ H2 => Dn.nx σ H2) (E σ)) : tDrop (tCallS sp E ta) Dn σ H := h H (Ex.refl H) _ fun vs H1 e hv => k vs H1 e hv
/-! ### refusals -/
def famR (CF : Addr) (f : Fam) (H : Hp) (E : XK) : Prop := ∃ n, famBad f = some n ∧ RaisesN CF "number" n H E
def kindR (CK : Addr) (f : Fam) (k : Int) (H : Hp) (E : XK) : Prop := famBad f = none ∧ ¬ (0 ≤ k ∧ k < f.length) ∧ ∀ H', Ex H H' → E (.ref CK) none H'
def partR (CP : Addr) (f : Fam) (k : Int) (p : Part) (H : Hp) (E : XK) : Prop := famBad f = none ∧ (0 ≤ k ∧ k < f.length) ∧ ¬ p ∈ lm NN f [k] ∧ p.length ≤ 10000 ∧ ∀ H', Ex H H' → E (.ref CP) none H'
def askR (CB : Addr) (f : Fam) (A : List RawP) (H : Hp) (E : XK) : Prop := famBad f = none ∧ ∃ n, badF [f] A = some n ∧ RaisesN CB "number" n H E
def RawOk (A : List RawP) : Prop := (∀ p ∈ A, p.2.length ≤ 1000) ∧ A.length ≤ 10000
section
variable {CF CK CP CB : Addr} {f : Fam} {k : Int} {p : Part} {A : List RawP} {H H' : Hp} {E : XK}
theorem famR.ex (h : famR CF f H E) (e : Ex H H') : famR CF f H' E := by
  obtain ⟨n, h1, h2⟩ := h
  exact ⟨n, h1, h2.ex e⟩
theorem kindR.ex (h : kindR CK f k H E) (e : Ex H H') : kindR CK f k H' E := ⟨h.1, h.2.1, fun H2 e2 => h.2.2 H2 (e.trans e2)⟩
theorem partR.ex (h : partR CP f k p H E) (e : Ex H H') : partR CP f k p H' E := ⟨h.1, h.2.1, h.2.2.1, h.2.2.2.1, fun H2 e2 => h.2.2.2.2 H2 (e.trans e2)⟩
theorem askR.ex (h : askR CB f A H E) (e : Ex H H') : askR CB f A H' E := by
  obtain ⟨h0, n, h1, h2⟩ := h
  exact ⟨h0, n, h1, h2.ex e⟩
end
def spNkX (CF CK : Addr) : Sp := fun vs H Q E => ∃ (f : Fam) (k : Int), DA H vs [encF f, .int k] ∧ f.length ≤ 10000 ∧ (famR CF f H E ∨ kindR CK f k H E ∨ (famBad f = none ∧ (0 ≤ k ∧ k < f.length) ∧ ∀ H', Ex H H' → Q .non H'))
def spNtX (CF CK CP : Addr) : Sp := fun vs H Q E => ∃ (f : Fam) (k : Int) (p : Part), DA H vs [encF f, .int k, encP p] ∧ f.length ≤ 10000 ∧ (famR CF f H E ∨ kindR CK f k H E ∨ partR CP f k p H E)
def spNaX (CF CB : Addr) : Sp := fun vs H Q E => ∃ (f : Fam) (A : List RawP), DA H vs [encF f, .list (A.map encQ)] ∧ f.length ≤ 10000 ∧ RawOk A ∧ (famR CF f H E ∨ askR CB f A H E ∨ (famBad f = none ∧ badF [f] A = none ∧ ∀ H', Ex H H' → Q .non H'))
def spKk (n : Nat) (CF CK : Addr) : Sp := fun vs H Q E => ∃ x y zs, vs = x :: y :: zs ∧ zs.length = n ∧ ∃ (f : Fam) (k : Int), D H x (encF f) ∧ D H y (.int k) ∧ f.length ≤ 10000 ∧ (famR CF f H E ∨ kindR CK f k H E)
def spKp (n : Nat) (CF CK CP : Addr) : Sp := fun vs H Q E => ∃ x y z zs, vs = x :: y :: z :: zs ∧ zs.length = n ∧ ∃ (f : Fam) (k : Int) (p : Part), D H x (encF f) ∧ D H y (.int k) ∧ D H z (encP p) ∧ f.length ≤ 10000 ∧ (famR CF f H E ∨ kindR CK f k H E ∨ partR CP f k p H E)
def spAk (n : Nat) (CF CK CB : Addr) : Sp := fun vs H Q E => ∃ x a y zs, vs = x :: a :: y :: zs ∧ zs.length = n ∧ ∃ (f : Fam) (A : List RawP) (k : Int), D H x (encF f) ∧ D H a (.list (A.map encQ)) ∧ D H y (.int k) ∧ f.length ≤ 10000 ∧ RawOk A ∧ (famR CF f H E ∨ askR CB f A H E ∨ (badF [f] A = none ∧ kindR CK f k H E))
def spAp (n : Nat) (CF CK CP CB : Addr) : Sp := fun vs H Q E => ∃ x a y z zs, vs = x :: a :: y :: z :: zs ∧ zs.length = n ∧ ∃ (f : Fam) (A : List RawP) (k : Int) (p : Part), D H x (encF f) ∧ D H a (.list (A.map encQ)) ∧ D H y (.int k) ∧ D H z (encP p) ∧ f.length ≤ 10000 ∧ RawOk A ∧ (famR CF f H E ∨ askR CB f A H E ∨ (badF [f] A = none ∧ (kindR CK f k H E ∨ partR CP f k p H E)))
def spAn (CF CB : Addr) : Sp := fun vs H Q E => ∃ x a, vs = [x, a] ∧ ∃ (f : Fam) (A : List RawP), D H x (encF f) ∧ D H a (.list (A.map encQ)) ∧ f.length ≤ 10000 ∧ RawOk A ∧ (famR CF f H E ∨ askR CB f A H E)
section
variable {P : Program} {w : World} {K : PySem.W.Frag} {mg : Str → Option Value} {base : Heap} {CF CK CP CB : Addr}
/-! ### need_kind, need_part, need_asked -/
theorem sc_nkX : FnScope ["family", "kind"] ["family", "kind"] (defScope s_need_kind) := ⟨rfl, rfl, rfl, by decide +kernel, rfl, by decide +kernel, by decide +kernel⟩
theorem ok_nkX (B : Bt mg) (X : ErrC K mg "NoKind" CK bmV) (d : Df K mg "need_kind" s_need_kind ["family", "kind"]) (cF : ClX P w K mg base "need_family" ["family"] 21 (spNfX CF)) (cW : Cl P w K mg base "is_whole" ["value"] 1 (spD R_is_whole)) : ClX P w K mg base "need_kind" ["family", "kind"] 22 (spNkX CF CK) := by
  refine d.okX sc_nkX (fun vs H Q E h => by obtain ⟨_, _, h, _⟩ := h; exact h.len) (fun fa cdv A outer s H vs Q E hr h => ?_)
  obtain ⟨f, k, hv, fz, q⟩ := h
  obtain ⟨x, y, rfl, hx, hy⟩ := hv.args2
  refine ⟨_, pss_cons (ps_expr (pe_clW (W := fun cls d _ H => E cls d H) cF hr (takes_of rfl rfl rfl rfl) (pa_cons (pv 0) pa_nil)))
    (pss_one (ps_if (PW.pt (pw_or (pt_not (pt_val (pe_cl cW (hr.mono (by decide)) (pa_cons (pv 1) pa_nil)))) (pw_or1 (pt_not (pt_chain op_le op_lt pe_int (pv 1) (pe_callB call_len rfl B.len PySem.boot_len (pa_cons (pv 0) pa_nil))))))) (pss_one (ps_raise rfl (takes_of rfl rfl rfl rfl) (pmk_own PySem.F.excBase_ValueError X.x X.g X.k (raises_own X.b X.t) rfl))) pss_nil)), ?_⟩
  refine s_dropY (eas1 (ed_var (i := 0) rfl hx)) fun vs H1 e1 hvs => ⟨f, hvs, fz, ?_⟩
  have tst : ∀ (H2 : Hp) (g : Bool), Ex H H2 → (decide (0 ≤ k) && decide (k < f.length)) = g → EvT (tOr (tNot (tB (tCall (spD R_is_whole) [] E0 (tCons (tVar 1) tNil)))) (tNot (tTest (tChain (rI0 fun i j => .bl (decide (i ≤ j))) (rI0 fun i j => .bl (decide (i < j))) (tC (.int 0)) (tVar 1) (tCB (fun xs H Q => ∃ x n, xs = [x] ∧ LenV K x H n ∧ Q (.int n) H) (tCons (tVar 0) tNil)))))) [some x, some y] H2 (!g) := fun H2 g e hg => et_is (et_or (a := false) (b := !g) (et_not (a := true) (et_DB (ed_call (eas1 (ed_var (i := 1) rfl (hy.mono e))) (R_whole_int k)))) fun _ => et_not (a := g) (et_D (ed_is (ed_chain (p := fun i j => decide (i ≤ j)) (p' := fun i j => decide (i < j)) (ed_ci 0) (ed_var (i := 1) rfl (hy.mono e)) (ed_is (ed_lenT (ds := f.map encK) (ed_var (i := 0) rfl (hx.mono e))) (d' := .int ((f.length : Nat) : Int)) (by rw [List.length_map]))) (by rw [← hg])))) (by rw [Bool.false_or])
  rcases q with ⟨n, hn, q⟩ | ⟨hn, nk, q⟩ | ⟨hn, ⟨k0, k1⟩, q⟩
  · exact .inr ⟨n, hn, q.ex e1⟩
  · refine .inl ⟨hn, fun H2 e2 => ?_⟩
    try dsimp only
    refine sd_if (b := true) (tst H2 false (e1.trans e2) (by rw [← Bool.not_eq_true, Bool.and_eq_true, decide_eq_true_eq, decide_eq_true_eq]; exact nk)) (fun _ H3 e3 => ?_) (fun z => nomatch z)
    exact q H3 ((e1.trans e2).trans e3)
  · refine .inl ⟨hn, fun H2 e2 => ?_⟩
    try dsimp only
    refine sd_if (b := false) (tst H2 true (e1.trans e2) (by rw [decide_eq_true k0, decide_eq_true k1]; rfl)) (fun z => nomatch z) fun _ H3 e3 => ?_
    exact q H3 ((e1.trans e2).trans e3)
theorem sc_ntX : FnScope ["family", "kind", "part", "number"] ["family", "kind", "part"] (defScope s_need_part) := ⟨rfl, rfl, rfl, by decide +kernel, rfl, by decide +kernel, by decide +kernel⟩
theorem ok_ntX (B : Bt mg) (X : ErrC K mg "NoPart" CP bmV) (d : Df K mg "need_part" s_need_part ["family", "kind", "part"]) (cK : ClX P w K mg base "need_kind" ["family", "kind"] 22 (spNkX CF CK)) (cM : Cl P w K mg base "met_from" ["family", "part"] 18 (spL R_met_from)) (cW : Cl P w K mg base "is_whole" ["value"] 1 (spD R_is_whole)) :
    ClX P w K mg base "need_part" ["family", "kind", "part"] 23 (spNtX CF CK CP) := by
  refine d.okX sc_ntX (fun vs H Q E h => by obtain ⟨_, _, _, h, _⟩ := h; exact h.len) (fun fa cdv A outer s H vs Q E hr h => ?_)
  obtain ⟨f, k, p, hv, fz, q⟩ := h
  obtain ⟨x, y, z, rfl, hx, hy, hz⟩ := hv.args3
  refine ⟨_, pss_cons (ps_expr (pe_clW (W := fun cls d _ H => E cls d H) cK hr (takes_of rfl rfl rfl rfl) (pa_cons (pv 0) (pa_cons (pv 1) pa_nil))))
    (pss_one (ps_if (PW.pt (pw_or (pt_cmpR (op_notInD (hu64 hr)) (pv 2) (pe_cl cM (hr.mono (by decide)) (pa_cons (pv 0) (pa_cons (pe_tup (pa_cons (pv 1) pa_nil)) pa_nil))) rfl) (pw_or1 (pt_not (pt_val (pe_callB (cr_all (by rfl)) (by rfl) B.all boot_all (pa_cons (pe_lc (own := [("number", 3)]) (g := gName 3) (tt := tYes) rfl sc_ntX.nd (pi_tup (pv 2)) (blkOk_by (N := ["family", "kind", "part", "number"]) (sc := defScope s_need_part) (by decide +kernel))
      (fun _ _ _ _ _ => pg_name (i := 3) sc_ntX.nd rfl (.inl rfl)) (fun _ _ _ _ _ => pts_nil) (fun _ _ _ _ _ => pe_cl cW (hr.mono (by decide)) (pa_cons (pv 3) pa_nil))) pa_nil))))))) (pss_one (ps_raise rfl (takes_of rfl rfl rfl rfl) (pmk_own PySem.F.excBase_ValueError X.x X.g X.k (raises_own X.b X.t) rfl))) pss_nil)), ?_⟩
  refine s_dropY (eas2 (ed_var (i := 0) rfl hx) (ed_var (i := 1) rfl hy)) fun vs H1 e1 hvs => ⟨f, k, hvs, fz, ?_⟩
  rcases q with q | q | ⟨hn, ⟨k0, k1⟩, np, pz, q⟩
  · exact .inl (q.ex e1)
  · exact .inr (.inl (q.ex e1))
  · refine .inr (.inr ⟨hn, ⟨k0, k1⟩, fun H2 e2 => ?_⟩)
    try dsimp only
    have V : Valid f := famBad_none.mp hn
    have pk : PartOk f [k] := V.parts k0 k1 (root_in f k)
    have e12 := e1.trans e2
    have hf1 : D H2 x (encF (f ++ [])) := by rw [List.append_nil]; exact hx.mono e12
    refine sd_if (b := true) (et_or (a := true) (b := true) (et_D (ed_is (ed_notInD (ds := (lm NN f [k]).map encP) (ed_var (i := 2) rfl (hz.mono e12)) (EL.ed (el_call' (eas2 (ed_var (i := 0) rfl hf1) (ed_tup (ds := [.int k]) (eas1 (ed_var (i := 1) rfl (hy.mono e12))) (by show 1 ≤ 100000; decide))) ⟨f, [], [k], rfl, V.kinds, V.2.2.1, pk, rfl⟩)) (encP_shaped p) (encPs_shaped _)) (by rw [any_encP, decide_eq_false np]; rfl))) fun z => nomatch z) (fun _ H3 e3 => ?_) (fun z => nomatch z)
    exact q H3 (e12.trans e3)
theorem sc_naX : FnScope ["family", "asked"] ["family", "asked"] (defScope s_need_asked) := ⟨rfl, rfl, rfl, by decide +kernel, rfl, by decide +kernel, by decide +kernel⟩
theorem ok_naX (d : Df K mg "need_asked" s_need_asked ["family", "asked"]) (cF : ClX P w K mg base "need_family" ["family"] 21 (spNfX CF)) (cP : ClX P w K mg base "need_pairs" ["families", "asked"] 20 (spNpX CB)) : ClX P w K mg base "need_asked" ["family", "asked"] 22 (spNaX CF CB) := by
  refine d.okX sc_naX (fun vs H Q E h => by obtain ⟨_, _, h, _⟩ := h; exact h.len) (fun fa cdv A outer s H vs Q E hr h => ?_)
  obtain ⟨f, As, hv, fz, ⟨ro1, ro2⟩, q⟩ := h
  obtain ⟨x, y, rfl, hx, hy⟩ := hv.args2
  refine ⟨_, pss_cons (ps_expr (pe_clW (W := fun cls d _ H => E cls d H) cF hr (takes_of rfl rfl rfl rfl) (pa_cons (pv 0) pa_nil))) (pss_one (ps_expr (pe_clW (W := fun cls d _ H => E cls d H) cP (hr.mono (by decide)) (takes_of rfl rfl rfl rfl) (pa_cons (pe_lst (pa_cons (pv 0) pa_nil)) (pa_cons (pv 1) pa_nil))))), ?_⟩
  refine s_dropY (eas1 (ed_var (i := 0) rfl hx)) fun vs H1 e1 hvs => ⟨f, hvs, fz, ?_⟩
  have two : famBad f = none → ∀ H2, Ex H1 H2 → ((∃ n, badF [f] As = some n ∧ RaisesN CB "number" n H E) ∨ (badF [f] As = none ∧ ∀ H', Ex H H' → Q .non H')) → tDrop (tCallS (spNpX CB) (WE fun cls d _ H => E cls d H) (tCons (tLst (tCons (tVar 0) tNil)) (tCons (tVar 1) tNil))) { nx := fun _ H' => Q .non H', rt := Q } [some x, some y] H2 := fun hn H2 e2 q => by
    refine s_dropY (eas2 (EL.ed (el_lst' (ds := [encF f]) (eas1 (ed_var (i := 0) rfl (hx.mono (e1.trans e2)))) (by show 1 ≤ 100000; decide))) (ed_var (i := 1) rfl (hy.mono (e1.trans e2)))) fun vs H3 e3 hvs => ⟨[f], As, hvs, fun g hg => by rw [List.mem_singleton] at hg; subst hg; exact famBad_none.mp hn, by show 1 ≤ 5; decide, ro1, ro2, ?_⟩
    rcases q with ⟨n, h1, h2⟩ | ⟨h1, h2⟩
    · exact .inr ⟨n, h1, h2.ex ((e1.trans e2).trans e3)⟩
    · exact .inl ⟨h1, fun H4 e4 => h2 H4 (((e1.trans e2).trans e3).trans e4)⟩
  rcases q with ⟨n, hn, q⟩ | ⟨hn, n, h1, h2⟩ | ⟨hn, h1, h2⟩
  · exact .inr ⟨n, hn, q.ex e1⟩
  · exact .inl ⟨hn, fun H2 e2 => two hn H2 e2 (.inl ⟨n, h1, h2⟩)⟩
  · exact .inl ⟨hn, fun H2 e2 => two hn H2 e2 (.inr ⟨h1, h2⟩)⟩
/-! ### all that are handed a family -/
theorem sc_partsR : FnScope ["family", "kind"] ["family", "kind"] (defScope s_parts) := ⟨rfl, rfl, rfl, by decide +kernel, rfl, by decide +kernel, by decide +kernel⟩
theorem ok_partsR (d : Df K mg "parts" s_parts ["family", "kind"]) (cK : ClX P w K mg base "need_kind" ["family", "kind"] 22 (spNkX CF CK)) : ClX P w K mg base "parts" ["family", "kind"] 23 (spKk 0 CF CK) := by
  refine d.okX sc_partsR (fun vs H Q E h => ?_) (fun fa cdv A outer s H vs Q E hr h => ?_)
  · obtain ⟨_, _, _, rfl, hl, _⟩ := h
    simp [hl]
  obtain ⟨x, y, zs, rfl, hl, f, k, hx, hy, fz, q⟩ := h
  obtain rfl : zs = [] := List.length_eq_zero_iff.mp hl
  refine ⟨_, pss_cons (ps_expr (pe_clW (W := fun cls d _ H => E cls d H) cK hr (takes_of rfl rfl rfl rfl) (pa_cons (pv 0) (pa_cons (pv 1) pa_nil)))) (pssN _), ?_⟩
  refine s_dropY (eas2 (ed_var (i := 0) rfl hx) (ed_var (i := 1) rfl hy)) fun vs H1 e1 hvs => ⟨f, k, hvs, fz, ?_⟩
  rcases q with q | q
  · exact .inl (q.ex e1)
  · exact .inr (.inl (q.ex e1))
theorem sc_knowsR : FnScope ["family", "kind"] ["family", "kind"] (defScope s_knows) := ⟨rfl, rfl, rfl, by decide +kernel, rfl, by decide +kernel, by decide +kernel⟩
theorem ok_knowsR (d : Df K mg "knows" s_knows ["family", "kind"]) (cK : ClX P w K mg base "need_kind" ["family", "kind"] 22 (spNkX CF CK)) : ClX P w K mg base "knows" ["family", "kind"] 23 (spKk 0 CF CK) := by
  refine d.okX sc_knowsR (fun vs H Q E h => ?_) (fun fa cdv A outer s H vs Q E hr h => ?_)
  · obtain ⟨_, _, _, rfl, hl, _⟩ := h
    simp [hl]
  obtain ⟨x, y, zs, rfl, hl, f, k, hx, hy, fz, q⟩ := h
  obtain rfl : zs = [] := List.length_eq_zero_iff.mp hl
  refine ⟨_, pss_cons (ps_expr (pe_clW (W := fun cls d _ H => E cls d H) cK hr (takes_of rfl rfl rfl rfl) (pa_cons (pv 0) (pa_cons (pv 1) pa_nil)))) (pssN _), ?_⟩
  refine s_dropY (eas2 (ed_var (i := 0) rfl hx) (ed_var (i := 1) rfl hy)) fun vs H1 e1 hvs => ⟨f, k, hvs, fz, ?_⟩
  rcases q with q | q
  · exact .inl (q.ex e1)
  · exact .inr (.inl (q.ex e1))
theorem sc_doerR : FnScope ["family", "kind", "deed"] ["family", "kind", "deed"] (defScope s_doer) := ⟨rfl, rfl, rfl, by decide +kernel, rfl, by decide +kernel, by decide +kernel⟩
theorem ok_doerR (d : Df K mg "doer" s_doer ["family", "kind", "deed"]) (cK : ClX P w K mg base "need_kind" ["family", "kind"] 22 (spNkX CF CK)) : ClX P w K mg base "doer" ["family", "kind", "deed"] 23 (spKk 1 CF CK) := by
  refine d.okX sc_doerR (fun vs H Q E h => ?_) (fun fa cdv A outer s H vs Q E hr h => ?_)
  · obtain ⟨_, _, _, rfl, hl, _⟩ := h
    simp [hl]
  obtain ⟨x, y, zs, rfl, hl, f, k, hx, hy, fz, q⟩ := h
  obtain ⟨t0, rfl⟩ : ∃ t0, zs = [t0] := by
    match zs, hl with
    | [_], _ => exact ⟨_, rfl⟩
  refine ⟨_, pss_cons (ps_expr (pe_clW (W := fun cls d _ H => E cls d H) cK hr (takes_of rfl rfl rfl rfl) (pa_cons (pv 0) (pa_cons (pv 1) pa_nil)))) (pssN _), ?_⟩
  refine s_dropY (eas2 (ed_var (i := 0) rfl hx) (ed_var (i := 1) rfl hy)) fun vs H1 e1 hvs => ⟨f, k, hvs, fz, ?_⟩
  rcases q with q | q
  · exact .inl (q.ex e1)
  · exact .inr (.inl (q.ex e1))
theorem sc_laidR : FnScope ["family", "kind"] ["family", "kind"] (defScope s_laid) := ⟨rfl, rfl, rfl, by decide +kernel, rfl, by decide +kernel, by decide +kernel⟩
theorem ok_laidR (d : Df K mg "laid" s_laid ["family", "kind"]) (cK : ClX P w K mg base "need_kind" ["family", "kind"] 22 (spNkX CF CK)) : ClX P w K mg base "laid" ["family", "kind"] 23 (spKk 0 CF CK) := by
  refine d.okX sc_laidR (fun vs H Q E h => ?_) (fun fa cdv A outer s H vs Q E hr h => ?_)
  · obtain ⟨_, _, _, rfl, hl, _⟩ := h
    simp [hl]
  obtain ⟨x, y, zs, rfl, hl, f, k, hx, hy, fz, q⟩ := h
  obtain rfl : zs = [] := List.length_eq_zero_iff.mp hl
  refine ⟨_, pss_cons (ps_expr (pe_clW (W := fun cls d _ H => E cls d H) cK hr (takes_of rfl rfl rfl rfl) (pa_cons (pv 0) (pa_cons (pv 1) pa_nil)))) (pssN _), ?_⟩
  refine s_dropY (eas2 (ed_var (i := 0) rfl hx) (ed_var (i := 1) rfl hy)) fun vs H1 e1 hvs => ⟨f, k, hvs, fz, ?_⟩
  rcases q with q | q
  · exact .inl (q.ex e1)
  · exact .inr (.inl (q.ex e1))
theorem sc_stepR : FnScope ["family", "kind", "elder"] ["family", "kind", "elder"] (defScope s_step) := ⟨rfl, rfl, rfl, by decide +kernel, rfl, by decide +kernel, by decide +kernel⟩
theorem ok_stepR (d : Df K mg "step" s_step ["family", "kind", "elder"]) (cK : ClX P w K mg base "need_kind" ["family", "kind"] 22 (spNkX CF CK)) : ClX P w K mg base "step" ["family", "kind", "elder"] 23 (spKk 1 CF CK) := by
  refine d.okX sc_stepR (fun vs H Q E h => ?_) (fun fa cdv A outer s H vs Q E hr h => ?_)
  · obtain ⟨_, _, _, rfl, hl, _⟩ := h
    simp [hl]
  obtain ⟨x, y, zs, rfl, hl, f, k, hx, hy, fz, q⟩ := h
  obtain ⟨t0, rfl⟩ : ∃ t0, zs = [t0] := by
    match zs, hl with
    | [_], _ => exact ⟨_, rfl⟩
  refine ⟨_, pss_cons (ps_expr (pe_clW (W := fun cls d _ H => E cls d H) cK hr (takes_of rfl rfl rfl rfl) (pa_cons (pv 0) (pa_cons (pv 1) pa_nil)))) (pssN _), ?_⟩
  refine s_dropY (eas2 (ed_var (i := 0) rfl hx) (ed_var (i := 1) rfl hy)) fun vs H1 e1 hvs => ⟨f, k, hvs, fz, ?_⟩
  rcases q with q | q
  · exact .inl (q.ex e1)
  · exact .inr (.inl (q.ex e1))
theorem sc_insideR : FnScope ["family", "kind", "part"] ["family", "kind", "part"] (defScope s_inside) := ⟨rfl, rfl, rfl, by decide +kernel, rfl, by decide +kernel, by decide +kernel⟩
theorem ok_insideR (d : Df K mg "inside" s_inside ["family", "kind", "part"]) (cT : ClX P w K mg base "need_part" ["family", "kind", "part"] 23 (spNtX CF CK CP)) : ClX P w K mg base "inside" ["family", "kind", "part"] 24 (spKp 0 CF CK CP) := by
  refine d.okX sc_insideR (fun vs H Q E h => ?_) (fun fa cdv A outer s H vs Q E hr h => ?_)
  · obtain ⟨_, _, _, _, rfl, hl, _⟩ := h
    simp [hl]
  obtain ⟨x, y, z, zs, rfl, hl, f, k, p, hx, hy, hz, fz, q⟩ := h
  obtain rfl : zs = [] := List.length_eq_zero_iff.mp hl
  refine ⟨_, pss_cons (ps_expr (pe_clW (W := fun cls d _ H => E cls d H) cT hr (takes_of rfl rfl rfl rfl) (pa_cons (pv 0) (pa_cons (pv 1) (pa_cons (pv 2) pa_nil))))) (pssN _), ?_⟩
  refine s_dropY (eas3 (ed_var (i := 0) rfl hx) (ed_var (i := 1) rfl hy) (ed_var (i := 2) rfl hz)) fun vs H1 e1 hvs => ⟨f, k, p, hvs, fz, ?_⟩
  rcases q with q | q | q
  · exact .inl (q.ex e1)
  · exact .inr (.inl (q.ex e1))
  · exact .inr (.inr (q.ex e1))
theorem sc_own_cellsR : FnScope ["family", "kind", "part"] ["family", "kind", "part"] (defScope s_own_cells) := ⟨rfl, rfl, rfl, by decide +kernel, rfl, by decide +kernel, by decide +kernel⟩
theorem ok_own_cellsR (d : Df K mg "own_cells" s_own_cells ["family", "kind", "part"]) (cT : ClX P w K mg base "need_part" ["family", "kind", "part"] 23 (spNtX CF CK CP)) : ClX P w K mg base "own_cells" ["family", "kind", "part"] 24 (spKp 0 CF CK CP) := by
  refine d.okX sc_own_cellsR (fun vs H Q E h => ?_) (fun fa cdv A outer s H vs Q E hr h => ?_)
  · obtain ⟨_, _, _, _, rfl, hl, _⟩ := h
    simp [hl]
  obtain ⟨x, y, z, zs, rfl, hl, f, k, p, hx, hy, hz, fz, q⟩ := h
  obtain rfl : zs = [] := List.length_eq_zero_iff.mp hl
  refine ⟨_, pss_cons (ps_expr (pe_clW (W := fun cls d _ H => E cls d H) cT hr (takes_of rfl rfl rfl rfl) (pa_cons (pv 0) (pa_cons (pv 1) (pa_cons (pv 2) pa_nil))))) (pssN _), ?_⟩
  refine s_dropY (eas3 (ed_var (i := 0) rfl hx) (ed_var (i := 1) rfl hy) (ed_var (i := 2) rfl hz)) fun vs H1 e1 hvs => ⟨f, k, p, hvs, fz, ?_⟩
  rcases q with q | q | q
  · exact .inl (q.ex e1)
  · exact .inr (.inl (q.ex e1))
  · exact .inr (.inr (q.ex e1))
theorem sc_movedR : FnScope ["family", "kind", "part", "elder"] ["family", "kind", "part", "elder"] (defScope s_moved) := ⟨rfl, rfl, rfl, by decide +kernel, rfl, by decide +kernel, by decide +kernel⟩
theorem ok_movedR (d : Df K mg "moved" s_moved ["family", "kind", "part", "elder"]) (cT : ClX P w K mg base "need_part" ["family", "kind", "part"] 23 (spNtX CF CK CP)) : ClX P w K mg base "moved" ["family", "kind", "part", "elder"] 24 (spKp 1 CF CK CP) := by
  refine d.okX sc_movedR (fun vs H Q E h => ?_) (fun fa cdv A outer s H vs Q E hr h => ?_)
  · obtain ⟨_, _, _, _, rfl, hl, _⟩ := h
    simp [hl]
  obtain ⟨x, y, z, zs, rfl, hl, f, k, p, hx, hy, hz, fz, q⟩ := h
  obtain ⟨t0, rfl⟩ : ∃ t0, zs = [t0] := by
    match zs, hl with
    | [_], _ => exact ⟨_, rfl⟩
  refine ⟨_, pss_cons (ps_expr (pe_clW (W := fun cls d _ H => E cls d H) cT hr (takes_of rfl rfl rfl rfl) (pa_cons (pv 0) (pa_cons (pv 1) (pa_cons (pv 2) pa_nil))))) (pssN _), ?_⟩
  refine s_dropY (eas3 (ed_var (i := 0) rfl hx) (ed_var (i := 1) rfl hy) (ed_var (i := 2) rfl hz)) fun vs H1 e1 hvs => ⟨f, k, p, hvs, fz, ?_⟩
  rcases q with q | q | q
  · exact .inl (q.ex e1)
  · exact .inr (.inl (q.ex e1))
  · exact .inr (.inr (q.ex e1))
theorem sc_tablesR : FnScope ["family", "asked", "kind"] ["family", "asked", "kind"] (defScope s_tables) := ⟨rfl, rfl, rfl, by decide +kernel, rfl, by decide +kernel, by decide +kernel⟩
theorem ok_tablesR (d : Df K mg "tables" s_tables ["family", "asked", "kind"]) (cA : ClX P w K mg base "need_asked" ["family", "asked"] 22 (spNaX CF CB)) (cK : ClX P w K mg base "need_kind" ["family", "kind"] 22 (spNkX CF CK)) : ClX P w K mg base "tables" ["family", "asked", "kind"] 23 (spAk 0 CF CK CB) := by
  refine d.okX sc_tablesR (fun vs H Q E h => ?_) (fun fa cdv A outer s H vs Q E hr h => ?_)
  · obtain ⟨_, _, _, _, rfl, hl, _⟩ := h
    simp [hl]
  obtain ⟨x, a, y, zs, rfl, hl, f, As, k, hx, ha, hy, fz, ro, q⟩ := h
  obtain rfl : zs = [] := List.length_eq_zero_iff.mp hl
  refine ⟨_, pss_cons (ps_expr (pe_clW (W := fun cls d _ H => E cls d H) cA hr (takes_of rfl rfl rfl rfl) (pa_cons (pv 0) (pa_cons (pv 1) pa_nil)))) (pss_cons (ps_expr (pe_clW (W := fun cls d _ H => E cls d H) cK hr (takes_of rfl rfl rfl rfl) (pa_cons (pv 0) (pa_cons (pv 2) pa_nil)))) (pssN _)), ?_⟩
  refine s_dropY (eas2 (ed_var (i := 0) rfl hx) (ed_var (i := 1) rfl ha)) fun vs H1 e1 hvs => ⟨f, As, hvs, fz, ro, ?_⟩
  rcases q with q | q | ⟨hb, q⟩
  · exact .inl (q.ex e1)
  · exact .inr (.inl (q.ex e1))
  · refine .inr (.inr ⟨q.1, hb, fun H2 e2 => ?_⟩)
    try dsimp only
    refine s_dropY (eas2 (ed_var (i := 0) rfl (hx.mono (e1.trans e2))) (ed_var (i := 2) rfl (hy.mono (e1.trans e2)))) fun vs H3 e3 hvs => ⟨f, k, hvs, fz, .inr (.inl (q.ex ((e1.trans e2).trans e3)))⟩
theorem sc_reasonR : FnScope ["family", "asked", "kind", "deed"] ["family", "asked", "kind", "deed"] (defScope s_reason) := ⟨rfl, rfl, rfl, by decide +kernel, rfl, by decide +kernel, by decide +kernel⟩
theorem ok_reasonR (d : Df K mg "reason" s_reason ["family", "asked", "kind", "deed"]) (cA : ClX P w K mg base "need_asked" ["family", "asked"] 22 (spNaX CF CB)) (cK : ClX P w K mg base "need_kind" ["family", "kind"] 22 (spNkX CF CK)) : ClX P w K mg base "reason" ["family", "asked", "kind", "deed"] 23 (spAk 1 CF CK CB) := by
  refine d.okX sc_reasonR (fun vs H Q E h => ?_) (fun fa cdv A outer s H vs Q E hr h => ?_)
  · obtain ⟨_, _, _, _, rfl, hl, _⟩ := h
    simp [hl]
  obtain ⟨x, a, y, zs, rfl, hl, f, As, k, hx, ha, hy, fz, ro, q⟩ := h
  obtain ⟨t0, rfl⟩ : ∃ t0, zs = [t0] := by
    match zs, hl with
    | [_], _ => exact ⟨_, rfl⟩
  refine ⟨_, pss_cons (ps_expr (pe_clW (W := fun cls d _ H => E cls d H) cA hr (takes_of rfl rfl rfl rfl) (pa_cons (pv 0) (pa_cons (pv 1) pa_nil)))) (pss_cons (ps_expr (pe_clW (W := fun cls d _ H => E cls d H) cK hr (takes_of rfl rfl rfl rfl) (pa_cons (pv 0) (pa_cons (pv 2) pa_nil)))) (pssN _)), ?_⟩
  refine s_dropY (eas2 (ed_var (i := 0) rfl hx) (ed_var (i := 1) rfl ha)) fun vs H1 e1 hvs => ⟨f, As, hvs, fz, ro, ?_⟩
  rcases q with q | q | ⟨hb, q⟩
  · exact .inl (q.ex e1)
  · exact .inr (.inl (q.ex e1))
  · refine .inr (.inr ⟨q.1, hb, fun H2 e2 => ?_⟩)
    try dsimp only
    refine s_dropY (eas2 (ed_var (i := 0) rfl (hx.mono (e1.trans e2))) (ed_var (i := 2) rfl (hy.mono (e1.trans e2)))) fun vs H3 e3 hvs => ⟨f, k, hvs, fz, .inr (.inl (q.ex ((e1.trans e2).trans e3)))⟩
theorem sc_callR : FnScope ["family", "asked", "kind", "part", "deed"] ["family", "asked", "kind", "part", "deed"] (defScope s_qcall) := ⟨rfl, rfl, rfl, by decide +kernel, rfl, by decide +kernel, by decide +kernel⟩
theorem ok_callR (d : Df K mg "call" s_qcall ["family", "asked", "kind", "part", "deed"]) (cA : ClX P w K mg base "need_asked" ["family", "asked"] 22 (spNaX CF CB)) (cT : ClX P w K mg base "need_part" ["family", "kind", "part"] 23 (spNtX CF CK CP)) : ClX P w K mg base "call" ["family", "asked", "kind", "part", "deed"] 24 (spAp 1 CF CK CP CB) := by
  refine d.okX sc_callR (fun vs H Q E h => ?_) (fun fa cdv A outer s H vs Q E hr h => ?_)
  · obtain ⟨_, _, _, _, _, rfl, hl, _⟩ := h
    simp [hl]
  obtain ⟨x, a, y, z, zs, rfl, hl, f, As, k, p, hx, ha, hy, hz, fz, ro, q⟩ := h
  obtain ⟨t0, rfl⟩ : ∃ t0, zs = [t0] := by
    match zs, hl with
    | [_], _ => exact ⟨_, rfl⟩
  refine ⟨_, pss_cons (ps_expr (pe_clW (W := fun cls d _ H => E cls d H) cA (hr.mono (by decide)) (takes_of rfl rfl rfl rfl) (pa_cons (pv 0) (pa_cons (pv 1) pa_nil)))) (pss_cons (ps_expr (pe_clW (W := fun cls d _ H => E cls d H) cT hr (takes_of rfl rfl rfl rfl) (pa_cons (pv 0) (pa_cons (pv 2) (pa_cons (pv 3) pa_nil))))) (pssN _)), ?_⟩
  refine s_dropY (eas2 (ed_var (i := 0) rfl hx) (ed_var (i := 1) rfl ha)) fun vs H1 e1 hvs => ⟨f, As, hvs, fz, ro, ?_⟩
  rcases q with q | q | ⟨hb, q⟩
  · exact .inl (q.ex e1)
  · exact .inr (.inl (q.ex e1))
  · refine .inr (.inr ⟨q.elim (fun z => z.1) (fun z => z.1), hb, fun H2 e2 => ?_⟩)
    try dsimp only
    refine s_dropY (eas3 (ed_var (i := 0) rfl (hx.mono (e1.trans e2))) (ed_var (i := 2) rfl (hy.mono (e1.trans e2))) (ed_var (i := 3) rfl (hz.mono (e1.trans e2)))) fun vs H3 e3 hvs => ⟨f, k, p, hvs, fz, ?_⟩
    rcases q with q | q
    · exact .inr (.inl (q.ex ((e1.trans e2).trans e3)))
    · exact .inr (.inr (q.ex ((e1.trans e2).trans e3)))
theorem sc_ledR : FnScope ["family", "asked", "kind", "part", "elder"] ["family", "asked", "kind", "part", "elder"] (defScope s_led) := ⟨rfl, rfl, rfl, by decide +kernel, rfl, by decide +kernel, by decide +kernel⟩
theorem ok_ledR (d : Df K mg "led" s_led ["family", "asked", "kind", "part", "elder"]) (cA : ClX P w K mg base "need_asked" ["family", "asked"] 22 (spNaX CF CB)) (cT : ClX P w K mg base "need_part" ["family", "kind", "part"] 23 (spNtX CF CK CP)) : ClX P w K mg base "led" ["family", "asked", "kind", "part", "elder"] 24 (spAp 1 CF CK CP CB) := by
  refine d.okX sc_ledR (fun vs H Q E h => ?_) (fun fa cdv A outer s H vs Q E hr h => ?_)
  · obtain ⟨_, _, _, _, _, rfl, hl, _⟩ := h
    simp [hl]
  obtain ⟨x, a, y, z, zs, rfl, hl, f, As, k, p, hx, ha, hy, hz, fz, ro, q⟩ := h
  obtain ⟨t0, rfl⟩ : ∃ t0, zs = [t0] := by
    match zs, hl with
    | [_], _ => exact ⟨_, rfl⟩
  refine ⟨_, pss_cons (ps_expr (pe_clW (W := fun cls d _ H => E cls d H) cA (hr.mono (by decide)) (takes_of rfl rfl rfl rfl) (pa_cons (pv 0) (pa_cons (pv 1) pa_nil)))) (pss_cons (ps_expr (pe_clW (W := fun cls d _ H => E cls d H) cT hr (takes_of rfl rfl rfl rfl) (pa_cons (pv 0) (pa_cons (pv 2) (pa_cons (pv 3) pa_nil))))) (pssN _)), ?_⟩
  refine s_dropY (eas2 (ed_var (i := 0) rfl hx) (ed_var (i := 1) rfl ha)) fun vs H1 e1 hvs => ⟨f, As, hvs, fz, ro, ?_⟩
  rcases q with q | q | ⟨hb, q⟩
  · exact .inl (q.ex e1)
  · exact .inr (.inl (q.ex e1))
  · refine .inr (.inr ⟨q.elim (fun z => z.1) (fun z => z.1), hb, fun H2 e2 => ?_⟩)
    try dsimp only
    refine s_dropY (eas3 (ed_var (i := 0) rfl (hx.mono (e1.trans e2))) (ed_var (i := 2) rfl (hy.mono (e1.trans e2))) (ed_var (i := 3) rfl (hz.mono (e1.trans e2)))) fun vs H3 e3 hvs => ⟨f, k, p, hvs, fz, ?_⟩
    rcases q with q | q
    · exact .inr (.inl (q.ex ((e1.trans e2).trans e3)))
    · exact .inr (.inr (q.ex ((e1.trans e2).trans e3)))
theorem sc_numbersR : FnScope ["family", "asked"] ["family", "asked"] (defScope s_numbers) := ⟨rfl, rfl, rfl, by decide +kernel, rfl, by decide +kernel, by decide +kernel⟩
theorem ok_numbersR (d : Df K mg "numbers" s_numbers ["family", "asked"]) (cA : ClX P w K mg base "need_asked" ["family", "asked"] 22 (spNaX CF CB)) : ClX P w K mg base "numbers" ["family", "asked"] 23 (spAn CF CB) := by
  refine d.okX sc_numbersR (fun vs H Q E h => by obtain ⟨_, _, rfl, _⟩ := h; rfl) (fun fa cdv A outer s H vs Q E hr h => ?_)
  obtain ⟨x, a, rfl, f, As, hx, ha, fz, ro, q⟩ := h
  refine ⟨_, pss_cons (ps_expr (pe_clW (W := fun cls d _ H => E cls d H) cA hr (takes_of rfl rfl rfl rfl) (pa_cons (pv 0) (pa_cons (pv 1) pa_nil)))) (pssN _), ?_⟩
  refine s_dropY (eas2 (ed_var (i := 0) rfl hx) (ed_var (i := 1) rfl ha)) fun vs H1 e1 hvs => ⟨f, As, hvs, fz, ro, ?_⟩
  rcases q with q | q
  · exact .inl (q.ex e1)
  · exact .inr (.inl (q.ex e1))
end
end KS
end
noncomputable section
namespace KS
open PySem PySem.Spec PyProof.Rows L2 Evl
open LamX (CodeO Tabs TabS TabB ExtN codeO_ne)
/-! ### lists of lambdas that are being made -/
theorem tLst3 {ta tb tc : TE} {σ : L2.St} {H : Hp} {Q : VK} (h : ta σ H fun x H1 => tb σ H1 fun y H2 => tc σ H2 fun z H3 => 3 ≤ sizeLine ∧ ∀ p, H3 p = none → Q (.ref p) (upd H3 p (.lst [x, y, z]))) : tLst (tCons ta (tCons tb (tCons tc tNil))) σ H Q := h
theorem tLst4 {ta tb tc td : TE} {σ : L2.St} {H : Hp} {Q : VK} (h : ta σ H fun x H1 => tb σ H1 fun y H2 => tc σ H2 fun z H3 => td σ H3 fun u H4 => 4 ≤ sizeLine ∧ ∀ p, H4 p = none → Q (.ref p) (upd H4 p (.lst [x, y, z, u]))) : tLst (tCons ta (tCons tb (tCons tc (tCons td tNil)))) σ H Q := h
theorem tLst2 {ta tb : TE} {σ : L2.St} {H : Hp} {Q : VK} (h : ta σ H fun x H1 => tb σ H1 fun y H2 => 2 ≤ sizeLine ∧ ∀ p, H2 p = none → Q (.ref p) (upd H2 p (.lst [x, y]))) : tLst (tCons ta (tCons tb tNil)) σ H Q := h
theorem tLst1 {ta : TE} {σ : L2.St} {H : Hp} {Q : VK} (h : ta σ H fun x H1 => 1 ≤ sizeLine ∧ ∀ p, H1 p = none → Q (.ref p) (upd H1 p (.lst [x]))) : tLst (tCons ta tNil) σ H Q := h
theorem tOp_i {r : R2} {ta tb : TE} {σ : L2.St} {H : Hp} {Q : VK} (h : ta σ H fun x H1 => tb σ H1 fun y H2 => r x y H2 Q) : tOp r ta tb σ H Q := h
def Inj (L : Nat) (S : Scope) : Prop := ∀ y z c, (cellsFrom L S.names []).lookup y = some c → (cellsFrom L S.names []).lookup z = some c → y = z
def Pend (P : Program) (w : World) (K : PySem.W.Frag) (mg : Str → Option Value) (base : Heap) (k : Nat) (CE : Addr) (dOk : Option Addr → Hp → Prop) (l : List Addr) (L : Nat) (S : Scope) (vals : List (Str × V)) (data : Hp → Prop) (f : Addr) (H : Hp) : Prop :=
  ∀ H2, Ste H H2 → Inj L S → CellsIn (capL (cellsFrom L S.names []) vals) H2 → data H2 → RfAt P w K mg base k CE dOk l f H2
theorem Pend.ste {P : Program} {w : World} {K : PySem.W.Frag} {mg : Str → Option Value} {base : Heap} {k : Nat} {CE : Addr} {dOk : Option Addr → Hp → Prop} {l : List Addr} {L : Nat} {S : Scope} {vals : List (Str × V)} {data : Hp → Prop} {f : Addr} {H H' : Hp} (p : Pend P w K mg base k CE dOk l L S vals data f H) (e : Ste H H') : Pend P w K mg base k CE dOk l L S vals data f H' := fun H2 st => p H2 (e.trans st)
theorem lam_free {S sc : Scope} {caps : List Str} {L : Nat} (hb : lamOk S sc caps = true) : ∀ y ∈ sc.names, y.2 = .free → ∃ c, (cellsFrom L S.names []).lookup y.1 = some c := fun y hy e => by
  unfold lamOk at hb
  simp only [Bool.and_eq_true, Bool.or_eq_true, Bool.not_eq_true', decide_eq_true_eq, decide_eq_false_iff_not, List.all_eq_true] at hb
  obtain ⟨_, _, _, h4, _⟩ := hb
  rcases (h4 y hy).2 with z | z
  · exact absurd e z
  · exact cell_has z.1
theorem cells_put {L : Nat} {S : Scope} {vals : List (Str × V)} {H : Hp} (nd : (vals.map (·.1)).Nodup) (inj : Inj L S) : CellsIn (capL (cellsFrom L S.names []) vals) (put (capL (cellsFrom L S.names []) vals) H) := fun p hp => by
  obtain ⟨v, l⟩ := look_some (C := capL (cellsFrom L S.names []) vals) (b := p.1) (List.mem_map.mpr ⟨p, hp, rfl⟩)
  rw [put_some l]
  obtain ⟨y, m1, c1⟩ := mem_capL hp
  obtain ⟨z, m2, c2⟩ := mem_capL (look_mem l)
  have e := inj y z p.1 c1 c2
  subst e
  have a1 := lookup_nd nd m1
  have a2 := lookup_nd nd m2
  rw [a1] at a2
  cases a2
  rfl
/-! ### defs that make them -/
structure DfM (K : PySem.W.Frag) (mg : Str → Option Value) (x : Str) (st : Stmt) (ps : List Str) (c : Addr) : Prop where
  ex : ∃ (f : Addr) (od an : Option Addr) (osl : Array (Option Value)) (oc kV doc pm ct : Value), K.lookup f = some ⟨oc, od, .func (PySem.W.fnOf x x (defArgs st) (defBody st) (defScope st) .none kV doc pm an (.ref c) ct), osl⟩ ∧ PySem.W.codeIn K (.ref c) x = true ∧ mg x = some (.ref f) ∧ PySem.W.keepIn K (.ref f) = true ∧
    Binds K (PySem.W.fnOf x x (defArgs st) (defBody st) (defScope st) .none kV doc pm an (.ref c) ct) ps []
theorem DfM.okR {P : Program} {w : World} {K : PySem.W.Frag} {mg : Str → Option Value} {base : Heap} {k : Nat} {c : Addr} {x : Str} {st : Stmt} {N ps : List Str} {sp : Sp} (d : DfM K mg x st ps c) (S : FnScope N ps (defScope st)) (len : ∀ vs H Q E, sp vs H Q E → vs.length = ps.length)
    (hbody : ∀ (fl : Addr) (A : Around) (outer : List Env) (s : Shared) (H : Hp) (vs : List V) (Q : VK) (E : XK), Room k (A.deeper (envOfC x (defScope st) s.heap.objs.size fl (.ref c))) → sp vs H Q E →
      ∃ t, PR (cxOf CX0 P w K mg base N x (defScope st) fl (.ref c) A outer s H E) (defBody st) t ∧ t (RC (defScope st) N (cellsFrom (s.heap.objs.size + 1) (defScope st).names []) Q) (start N vs) H) : Cl P w K mg base x ps (k + 1) sp := by
  obtain ⟨f, od, an, osl, oc, kV, doc, pm, ct, lk, hcd, hm, hk, hb⟩ := d.ex
  exact ⟨f, _, fn_ofR lk hcd S len fun A outer s H vs Q E hr hsp => hbody f A outer s H vs Q E hr hsp, hm, hk, hb⟩
end KS
end
noncomputable section
namespace KS
open PySem PySem.Spec PyProof.Rows L2 Evl
open PySem.Froz (sing)
/-! ### written and unlike, handed what is no family -/
def spWr (CF : Addr) : Sp := fun vs H Q E => ∃ x, vs = [x] ∧ ∃ f : Fam, D H x (encF f) ∧ f.length ≤ 10000 ∧ famR CF f H E
def spUn (CF : Addr) : Sp := fun vs H Q E => ∃ x y z, vs = [x, y, z] ∧ ((∃ f : Fam, D H x (encF f) ∧ f.length ≤ 10000 ∧ famR CF f H E) ∨ ∃ g f : Fam, D H x (encF g) ∧ famBad g = none ∧ D H y (encF f) ∧ f.length ≤ 10000 ∧ famR CF f H E)
def fGood : Fam := [⟨[], "a", 0⟩]
section
variable {P : Program} {w : World} {K : PySem.W.Frag} {mg : Str → Option Value} {base : Heap} {CF : Addr}
theorem sc_wrR : FnScope ["family"] ["family"] (defScope s_written) := ⟨rfl, rfl, rfl, by decide +kernel, rfl, by decide +kernel, by decide +kernel⟩
theorem ok_writtenR (d : Df K mg "written" s_written ["family"]) (cF : ClX P w K mg base "need_family" ["family"] 21 (spNfX CF)) : ClX P w K mg base "written" ["family"] 22 (spWr CF) := by
  refine d.okX sc_wrR (fun vs H Q E h => by obtain ⟨_, rfl, _⟩ := h; rfl) (fun fa cdv A outer s H vs Q E hr h => ?_)
  obtain ⟨x, rfl, f, hx, fz, n, hn, q⟩ := h
  refine ⟨_, pss_cons (ps_expr (pe_clW (W := fun cls d _ H => E cls d H) cF hr (takes_of rfl rfl rfl rfl) (pa_cons (pv 0) pa_nil))) (pssN _), ?_⟩
  exact s_dropY (eas1 (ed_var (i := 0) rfl hx)) fun vs H1 e1 hvs => ⟨f, hvs, fz, .inr ⟨n, hn, q.ex e1⟩⟩
abbrev N_unR : List Str := ["family", "other", "asked", "before", "after", "found", "kind", "slots", "numbering", "telling"]
theorem sc_unR : FnScope N_unR ["family", "other", "asked"] (defScope s_unlike) := ⟨rfl, rfl, rfl, by decide +kernel, rfl, by decide +kernel, by decide +kernel⟩
theorem ok_unlikeR (d : Df K mg "unlike" s_unlike ["family", "other", "asked"]) (cF : ClX P w K mg base "need_family" ["family"] 21 (spNfX CF)) : ClX P w K mg base "unlike" ["family", "other", "asked"] 22 (spUn CF) := by
  refine d.okX sc_unR (fun vs H Q E h => by obtain ⟨_, _, _, rfl, _⟩ := h; rfl) (fun fa cdv A outer s H vs Q E hr h => ?_)
  obtain ⟨x, y, z, rfl, h⟩ := h
  refine ⟨_, pss_cons (ps_expr (pe_clW (W := fun cls d _ H => E cls d H) cF hr (takes_of rfl rfl rfl rfl) (pa_cons (pv 0) pa_nil))) (pss_cons (ps_expr (pe_clW (W := fun cls d _ H => E cls d H) cF hr (takes_of rfl rfl rfl rfl) (pa_cons (pv 1) pa_nil))) (pssN _)), ?_⟩
  rcases h with ⟨f, hx, fz, n, hn, q⟩ | ⟨g, f, hx, gn, hy, fz, n, hn, q⟩
  · exact s_dropY (eas1 (ed_var (i := 0) rfl hx)) fun vs H1 e1 hvs => ⟨f, hvs, fz, .inr ⟨n, hn, q.ex e1⟩⟩
  · refine s_dropY (eas1 (ed_var (i := 0) rfl hx)) fun vs H1 e1 hvs => ⟨g, hvs, by have := (famBad_none.mp gn).2.1; omega, .inl ⟨gn, fun H2 e2 => ?_⟩⟩
    try dsimp only
    exact s_dropY (eas1 (ed_var (i := 1) rfl ((hy.mono e1).mono e2))) fun vs H3 e3 hvs => ⟨f, hvs, fz, .inr ⟨n, hn, ((q.ex e1).ex e2).ex e3⟩⟩
theorem good_ok : famBad fGood = none := by decide +kernel
end
end KS
end
noncomputable section
namespace KS
open PySem PySem.Spec PyProof.Rows L2 Evl
open LamX (CodeO Tabs TabS TabB ExtN codeO_ne)
theorem ro0 : RawOk [] := ⟨(fun p h => nomatch h), by show 0 ≤ 10000; decide⟩
def ask9 : List RawP := [((9 : Int), ("a" : Str))]
theorem ro9 : RawOk ask9 := ⟨fun p h => by
  rw [show ask9 = [((9 : Int), ("a" : Str))] from rfl, List.mem_singleton] at h
  rw [h]; show ("a" : Str).length ≤ 1000; decide, by show 1 ≤ 10000; decide⟩
theorem tuN' {H H' : Hp} (e : ExtN H H') : Tu H H' := fun a xs h => e a _ h fun _ z => by cases z
theorem tAsg_i {te : TE} {g : TG} {Dn : Ends} {σ : L2.St} {H : Hp} (h : te σ H fun v H1 => g v σ H1 Dn.nx) : tAsg te g Dn σ H := h
section
variable {P : Program} {w : World} {K : PySem.W.Frag} {mg : Str → Option Value} {base : Heap} {CF CK CP CB : Addr}
abbrev N_mkW : List Str := ["_law_f", "_law_works_here", "_law_good"]
theorem sc_mkW : FnScope N_mkW ["_law_f"] (defScope s_law_works) := ⟨rfl, rfl, rfl, by decide +kernel, rfl, by decide +kernel, by decide +kernel⟩
abbrev qW : Str := (envOfC "_law_works" (defScope s_law_works) 0 0 .none).qual ++ "<lambda>"
def spMkW {P : Program} {w : World} {K : PySem.W.Frag} {mg : Str → Option Value} {base : Heap} {CF : Addr} (T : List (Addr × Str)) : Sp := fun vs H Q _ => ∃ (f : Fam) (n : Nat) (vf : V), vs = [vf] ∧ D H vf (encF f) ∧ Tabs T H ∧ f.length ≤ 10000 ∧ famBad f = some n ∧
  ∀ (p : Addr) (fs : List Addr) (H' : Hp), ExtN H H' → Tabs T H' → H' p = some (.lst (fs.map V.ref)) → (∀ g ∈ fs, RfAt P w K mg base 24 CF (dNum "number" n) [] g H') → Q (.ref p) H'
set_option maxHeartbeats 16000000 in
theorem ok_mkW {T : List (Addr × Str)} {c Pt : Addr} (d : DfM K mg "_law_works" s_law_works ["_law_f"] c) (TB : TabB base mg c Pt) (hTm : (Pt, qW) ∈ T) (hTu : ∀ p ∈ T, p.1 = Pt → p.2 = qW)
    (c_parts : ClX P w K mg base "parts" ["family", "kind"] 23 (spKk 0 CF CK)) (c_inside : ClX P w K mg base "inside" ["family", "kind", "part"] 24 (spKp 0 CF CK CP)) (c_knows : ClX P w K mg base "knows" ["family", "kind"] 23 (spKk 0 CF CK)) (c_doer : ClX P w K mg base "doer" ["family", "kind", "deed"] 23 (spKk 1 CF CK)) (c_laid : ClX P w K mg base "laid" ["family", "kind"] 23 (spKk 0 CF CK)) (c_own_cells : ClX P w K mg base "own_cells" ["family", "kind", "part"] 24 (spKp 0 CF CK CP)) (c_moved : ClX P w K mg base "moved" ["family", "kind", "part", "elder"] 24 (spKp 1 CF CK CP)) (c_step : ClX P w K mg base "step" ["family", "kind", "elder"] 23 (spKk 1 CF CK)) (c_numbers : ClX P w K mg base "numbers" ["family", "asked"] 23 (spAn CF CB)) (c_tables : ClX P w K mg base "tables" ["family", "asked", "kind"] 23 (spAk 0 CF CK CB)) (c_call : ClX P w K mg base "call" ["family", "asked", "kind", "part", "deed"] 24 (spAp 1 CF CK CP CB)) (c_led : ClX P w K mg base "led" ["family", "asked", "kind", "part", "elder"] 24 (spAp 1 CF CK CP CB)) (c_reason : ClX P w K mg base "reason" ["family", "asked", "kind", "deed"] 23 (spAk 1 CF CK CB)) (c_unlike : ClX P w K mg base "unlike" ["family", "other", "asked"] 22 (spUn CF)) (c_written : ClX P w K mg base "written" ["family"] 22 (spWr CF)) :
    Cl P w K mg base "_law_works" ["_law_f"] 1 (spMkW (P := P) (w := w) (K := K) (mg := mg) (base := base) (CF := CF) T) := by
  refine d.okR (k := 0) sc_mkW (fun vs H Q E h => by obtain ⟨_, _, _, rfl, _⟩ := h; rfl) (fun fl A outer s H vs Q E hr h => ?_)
  obtain ⟨f, n, vf, rfl, hf, hT, fz, hbad, q⟩ := h
  refine ⟨_, pr_cons (ps_set (i := 2) sc_mkW.nd rfl (.inr rfl) (pe_tup (pa_cons (pe_tup (pa_cons (pe_tup pa_nil) (pa_cons pe_str (pa_cons pe_int pa_nil)))) pa_nil)))
    (pr_cons (ps_set (i := 1) sc_mkW.nd rfl (.inl rfl) (pe_lst (pa_cons (pe_mk0 TB rfl hTm hTu (fun _ => lam_free (S := defScope s_law_works) (caps := ["_law_f", "_law_good"]) (by decide +kernel)) rfl) (pa_cons (pe_mk1 TB rfl hTm hTu (fun _ => lam_free (S := defScope s_law_works) (caps := ["_law_f", "_law_good"]) (by decide +kernel)) rfl rfl) (pa_cons (pe_mk1 TB rfl hTm hTu (fun _ => lam_free (S := defScope s_law_works) (caps := ["_law_f", "_law_good"]) (by decide +kernel)) rfl rfl) (pa_cons (pe_mk1 TB rfl hTm hTu (fun _ => lam_free (S := defScope s_law_works) (caps := ["_law_f", "_law_good"]) (by decide +kernel)) rfl rfl) pa_nil))))))
    (pr_cons (ps_set (i := 1) sc_mkW.nd rfl (.inl rfl) (pe_op op_cat (pv 1) (pe_lst (pa_cons (pe_mk0 TB rfl hTm hTu (fun _ => lam_free (S := defScope s_law_works) (caps := ["_law_f", "_law_good"]) (by decide +kernel)) rfl) (pa_cons (pe_mk1 TB rfl hTm hTu (fun _ => lam_free (S := defScope s_law_works) (caps := ["_law_f", "_law_good"]) (by decide +kernel)) rfl rfl) (pa_cons (pe_mk1 TB rfl hTm hTu (fun _ => lam_free (S := defScope s_law_works) (caps := ["_law_f", "_law_good"]) (by decide +kernel)) rfl rfl) pa_nil))))))
    (pr_cons (ps_set (i := 1) sc_mkW.nd rfl (.inl rfl) (pe_op op_cat (pv 1) (pe_lst (pa_cons (pe_mk0 TB rfl hTm hTu (fun _ => lam_free (S := defScope s_law_works) (caps := ["_law_f", "_law_good"]) (by decide +kernel)) rfl) (pa_cons (pe_mk1 TB rfl hTm hTu (fun _ => lam_free (S := defScope s_law_works) (caps := ["_law_f", "_law_good"]) (by decide +kernel)) rfl rfl) (pa_cons (pe_mk1 TB rfl hTm hTu (fun _ => lam_free (S := defScope s_law_works) (caps := ["_law_f", "_law_good"]) (by decide +kernel)) rfl rfl) pa_nil))))))
    (pr_cons (ps_set (i := 1) sc_mkW.nd rfl (.inl rfl) (pe_op op_cat (pv 1) (pe_lst (pa_cons (pe_mk0 TB rfl hTm hTu (fun _ => lam_free (S := defScope s_law_works) (caps := ["_law_f", "_law_good"]) (by decide +kernel)) rfl) (pa_cons (pe_mk1 TB rfl hTm hTu (fun _ => lam_free (S := defScope s_law_works) (caps := ["_law_f", "_law_good"]) (by decide +kernel)) rfl rfl) pa_nil)))))
    (pr_cons (ps_set (i := 1) sc_mkW.nd rfl (.inl rfl) (pe_op op_cat (pv 1) (pe_lst (pa_cons (pe_mk0 TB rfl hTm hTu (fun _ => lam_free (S := defScope s_law_works) (caps := ["_law_f", "_law_good"]) (by decide +kernel)) rfl) (pa_cons (pe_mk1 TB rfl hTm hTu (fun _ => lam_free (S := defScope s_law_works) (caps := ["_law_f", "_law_good"]) (by decide +kernel)) rfl rfl) pa_nil)))))
    (pr_ret (pe_op op_cat (pv 1) (pe_lst (pa_cons (pe_mk0 TB rfl hTm hTu (fun _ => lam_free (S := defScope s_law_works) (caps := ["_law_f", "_law_good"]) (by decide +kernel)) rfl) (pa_cons (pe_mk1 TB rfl hTm hTu (fun _ => lam_free (S := defScope s_law_works) (caps := ["_law_f", "_law_good"]) (by decide +kernel)) rfl rfl) pa_nil)))))))))), ?_⟩
  try dsimp only
  refine sd_asg (d := encF fGood) (ed_is (ed_tup (ds := [.tuple [.tuple [], .str "a", .int 0]]) (eas1 (ed_tup (ds := [.tuple [], .str "a", .int 0]) (eas3 (ed_tup (ds := []) eas_nil (by decide)) (ed_cs _) (ed_ci 0)) (by show 3 ≤ 100000; decide))) (by show 1 ≤ 100000; decide)) rfl) fun vg HA eA hg => ?_
  replace hf := hf.mono eA
  replace hT := hT.ext eA
  have hds : ∀ H1 H2, (D H1 vf (encF f) ∧ D H1 vg (encF fGood)) → Sto [] H1 H2 → (D H2 vf (encF f) ∧ D H2 vg (encF fGood)) := fun H1 H2 h e => ⟨h.1.keep e.tu (flat_F f), h.2.keep e.tu (flat_F fGood)⟩
  have nd : (([("_law_f", vf), ("_law_good", vg)] : List (Str × V)).map (·.1)).Nodup := by show (["_law_f", "_law_good"] : List Str).Nodup; decide +kernel
  try dsimp only
  refine tAsg_i ?_
  refine tLst4 ?_
  refine ⟨hT, fun f1 H1 e1 T1 n1 l1 => ?_⟩
  have eN1 := (ExtN.refl HA).trans e1
  have p1 : Pend P w K mg base 24 CF (dNum "number" n) [] (s.heap.objs.size + 1) (defScope s_law_works) ([("_law_f", vf), ("_law_good", vg)] : List (Str × V)) (fun H => D H vf (encF f) ∧ D H vg (encF fGood)) f1 H1 := fun HH st inj hC hd => by
    have lx := l1.ste st
    refine rf_at (l := []) (fun H => D H vf (encF f) ∧ D H vg (encF fGood)) (S := defScope s_law_works) (vals := ([("_law_f", vf), ("_law_good", vg)] : List (Str × V))) (tb := fun E => tCallS (spKk 0 CF CK) (WE (fun cls d _ H => E cls d H)) (tCons (tVar 0) (tCons (tC (.int 9)) tNil))) ?_ nd inj ?_ lx hC hd hds dNum_ok.2 ?_ (fun HG E Q hC hd hE => ?_)
    · show lamOk _ _ (["_law_f", "_law_good"] : List Str) = true
      decide +kernel
    · exact ⟨fun _ _ _ _ _ _ _ => rfl, fun z => nomatch z⟩
    · intro A outer s H E c' hr2
      exact pe_clW (W := fun cls d _ H => E cls d H) c_parts (hr2.mono (by decide)) (takes_of rfl rfl rfl rfl) (by exact (pa_cons (pv 0) (pa_cons pe_int pa_nil)))
    have hf2 := D.cut hC hd.1
    have hg2 := D.cut hC hd.2
    refine (eas2 (ed_var (i := 0) rfl hf2) (ed_ci 9)) _ (Ex.refl _) _ fun vs H1 e1 hvs => ?_
    obtain ⟨x0, x1, rfl, h0, h1⟩ := hvs.args2
    exact ⟨x0, x1, [], rfl, rfl, f, 9, h0, h1, fz, .inl ⟨n, hbad, fun d H2 e2 hd2 => hE (some d) H2 (e1.trans e2) ⟨d, rfl, hd2⟩⟩⟩
  refine ⟨T1, fun f2 H2 e2 T2 n2 l2 => ?_⟩
  have eN2 := eN1.trans e2
  have p2 : Pend P w K mg base 24 CF (dNum "number" n) [] (s.heap.objs.size + 1) (defScope s_law_works) ([("_law_f", vf), ("_law_good", vg)] : List (Str × V)) (fun H => D H vf (encF f) ∧ D H vg (encF fGood)) f2 H2 := fun HH st inj hC hd => by
    have lx := l2.ste st
    refine rf_at (l := []) (fun H => D H vf (encF f) ∧ D H vg (encF fGood)) (S := defScope s_law_works) (vals := ([("_law_f", vf), ("_law_good", vg)] : List (Str × V))) (tb := fun E => tCallS (spKp 0 CF CK CP) (WE (fun cls d _ H => E cls d H)) (tCons (tVar 0) (tCons (tC (.int 9)) (tCons (tTup tNil) tNil)))) ?_ nd inj ?_ lx hC hd hds dNum_ok.2 ?_ (fun HG E Q hC hd hE => ?_)
    · show lamOk _ _ (["_law_f", "_law_good"] : List Str) = true
      decide +kernel
    · exact ⟨(fun z => nomatch z), fun _ => ⟨"_law_a", by decide +kernel, fun s q cl t doc pm cv ctv u o n ho hn => BindsTo.of_defaults rfl ho hn rfl rfl⟩⟩
    · intro A outer s H E c' hr2
      exact pe_clW (W := fun cls d _ H => E cls d H) c_inside (hr2.mono (by decide)) (takes_of rfl rfl rfl rfl) (by exact (pa_cons (pv 0) (pa_cons pe_int (pa_cons (pe_tup pa_nil) pa_nil))))
    have hf2 := D.cut hC hd.1
    have hg2 := D.cut hC hd.2
    refine (eas3 (ed_var (i := 0) rfl hf2) (ed_ci 9) (ed_tup (ds := []) eas_nil (by decide))) _ (Ex.refl _) _ fun vs H1 e1 hvs => ?_
    obtain ⟨x0, x1, x2, rfl, h0, h1, h2⟩ := hvs.args3
    exact ⟨x0, x1, x2, [], rfl, rfl, f, 9, [], h0, h1, h2, fz, .inl ⟨n, hbad, fun d H2 e2 hd2 => hE (some d) H2 (e1.trans e2) ⟨d, rfl, hd2⟩⟩⟩
  replace p1 := p1.ste (Ste.extN e2)
  refine ⟨T2, fun f3 H3 e3 T3 n3 l3 => ?_⟩
  have eN3 := eN2.trans e3
  have p3 : Pend P w K mg base 24 CF (dNum "number" n) [] (s.heap.objs.size + 1) (defScope s_law_works) ([("_law_f", vf), ("_law_good", vg)] : List (Str × V)) (fun H => D H vf (encF f) ∧ D H vg (encF fGood)) f3 H3 := fun HH st inj hC hd => by
    have lx := l3.ste st
    refine rf_at (l := []) (fun H => D H vf (encF f) ∧ D H vg (encF fGood)) (S := defScope s_law_works) (vals := ([("_law_f", vf), ("_law_good", vg)] : List (Str × V))) (tb := fun E => tCallS (spKk 0 CF CK) (WE (fun cls d _ H => E cls d H)) (tCons (tVar 0) (tCons (tC (.int 9)) tNil))) ?_ nd inj ?_ lx hC hd hds dNum_ok.2 ?_ (fun HG E Q hC hd hE => ?_)
    · show lamOk _ _ (["_law_f", "_law_good"] : List Str) = true
      decide +kernel
    · exact ⟨(fun z => nomatch z), fun _ => ⟨"_law_b", by decide +kernel, fun s q cl t doc pm cv ctv u o n ho hn => BindsTo.of_defaults rfl ho hn rfl rfl⟩⟩
    · intro A outer s H E c' hr2
      exact pe_clW (W := fun cls d _ H => E cls d H) c_knows (hr2.mono (by decide)) (takes_of rfl rfl rfl rfl) (by exact (pa_cons (pv 0) (pa_cons pe_int pa_nil)))
    have hf2 := D.cut hC hd.1
    have hg2 := D.cut hC hd.2
    refine (eas2 (ed_var (i := 0) rfl hf2) (ed_ci 9)) _ (Ex.refl _) _ fun vs H1 e1 hvs => ?_
    obtain ⟨x0, x1, rfl, h0, h1⟩ := hvs.args2
    exact ⟨x0, x1, [], rfl, rfl, f, 9, h0, h1, fz, .inl ⟨n, hbad, fun d H2 e2 hd2 => hE (some d) H2 (e1.trans e2) ⟨d, rfl, hd2⟩⟩⟩
  replace p1 := p1.ste (Ste.extN e3)
  replace p2 := p2.ste (Ste.extN e3)
  refine ⟨T3, fun f4 H4 e4 T4 n4 l4 => ?_⟩
  have eN4 := eN3.trans e4
  have p4 : Pend P w K mg base 24 CF (dNum "number" n) [] (s.heap.objs.size + 1) (defScope s_law_works) ([("_law_f", vf), ("_law_good", vg)] : List (Str × V)) (fun H => D H vf (encF f) ∧ D H vg (encF fGood)) f4 H4 := fun HH st inj hC hd => by
    have lx := l4.ste st
    refine rf_at (l := []) (fun H => D H vf (encF f) ∧ D H vg (encF fGood)) (S := defScope s_law_works) (vals := ([("_law_f", vf), ("_law_good", vg)] : List (Str × V))) (tb := fun E => tCallS (spKk 1 CF CK) (WE (fun cls d _ H => E cls d H)) (tCons (tVar 0) (tCons (tC (.int 9)) (tCons (tC (.str "a")) tNil)))) ?_ nd inj ?_ lx hC hd hds dNum_ok.2 ?_ (fun HG E Q hC hd hE => ?_)
    · show lamOk _ _ (["_law_f", "_law_good"] : List Str) = true
      decide +kernel
    · exact ⟨(fun z => nomatch z), fun _ => ⟨"_law_c", by decide +kernel, fun s q cl t doc pm cv ctv u o n ho hn => BindsTo.of_defaults rfl ho hn rfl rfl⟩⟩
    · intro A outer s H E c' hr2
      exact pe_clW (W := fun cls d _ H => E cls d H) c_doer (hr2.mono (by decide)) (takes_of rfl rfl rfl rfl) (by exact (pa_cons (pv 0) (pa_cons pe_int (pa_cons pe_str pa_nil))))
    have hf2 := D.cut hC hd.1
    have hg2 := D.cut hC hd.2
    refine (eas3 (ed_var (i := 0) rfl hf2) (ed_ci 9) (ed_cs _)) _ (Ex.refl _) _ fun vs H1 e1 hvs => ?_
    obtain ⟨x0, x1, x2, rfl, h0, h1, h2⟩ := hvs.args3
    exact ⟨x0, x1, [x2], rfl, rfl, f, 9, h0, h1, fz, .inl ⟨n, hbad, fun d H2 e2 hd2 => hE (some d) H2 (e1.trans e2) ⟨d, rfl, hd2⟩⟩⟩
  replace p1 := p1.ste (Ste.extN e4)
  replace p2 := p2.ste (Ste.extN e4)
  replace p3 := p3.ste (Ste.extN e4)
  refine ⟨by show 4 ≤ sizeLine; decide, fun pl0 m0 => ?_⟩
  have x0 : Ex H4 (upd H4 pl0 (.lst [.ref f1, .ref f2, .ref f3, .ref f4])) := Ex.new m0
  have eL0 := eN4.trans (ExtN.of x0)
  have TL0 := T4.ext x0
  replace p1 := p1.ste (Ste.ex x0)
  replace p2 := p2.ste (Ste.ex x0)
  replace p3 := p3.ste (Ste.ex x0)
  replace p4 := p4.ste (Ste.ex x0)
  have hl0 : (upd H4 pl0 (.lst [.ref f1, .ref f2, .ref f3, .ref f4])) pl0 = some (.lst [.ref f1, .ref f2, .ref f3, .ref f4]) := upd_same
  generalize upd H4 pl0 (.lst [.ref f1, .ref f2, .ref f3, .ref f4]) = HL0 at *
  try dsimp only
  refine tAsg_i ?_
  refine tOp_i ?_
  refine ⟨.ref pl0, rfl, ?_⟩
  refine tLst3 ?_
  refine ⟨TL0, fun f5 H5 e5 T5 n5 l5 => ?_⟩
  have eN5 := eL0.trans e5
  have p5 : Pend P w K mg base 24 CF (dNum "number" n) [] (s.heap.objs.size + 1) (defScope s_law_works) ([("_law_f", vf), ("_law_good", vg)] : List (Str × V)) (fun H => D H vf (encF f) ∧ D H vg (encF fGood)) f5 H5 := fun HH st inj hC hd => by
    have lx := l5.ste st
    refine rf_at (l := []) (fun H => D H vf (encF f) ∧ D H vg (encF fGood)) (S := defScope s_law_works) (vals := ([("_law_f", vf), ("_law_good", vg)] : List (Str × V))) (tb := fun E => tCallS (spKk 0 CF CK) (WE (fun cls d _ H => E cls d H)) (tCons (tVar 0) (tCons (tC (.int 9)) tNil))) ?_ nd inj ?_ lx hC hd hds dNum_ok.2 ?_ (fun HG E Q hC hd hE => ?_)
    · show lamOk _ _ (["_law_f", "_law_good"] : List Str) = true
      decide +kernel
    · exact ⟨fun _ _ _ _ _ _ _ => rfl, fun z => nomatch z⟩
    · intro A outer s H E c' hr2
      exact pe_clW (W := fun cls d _ H => E cls d H) c_laid (hr2.mono (by decide)) (takes_of rfl rfl rfl rfl) (by exact (pa_cons (pv 0) (pa_cons pe_int pa_nil)))
    have hf2 := D.cut hC hd.1
    have hg2 := D.cut hC hd.2
    refine (eas2 (ed_var (i := 0) rfl hf2) (ed_ci 9)) _ (Ex.refl _) _ fun vs H1 e1 hvs => ?_
    obtain ⟨x0, x1, rfl, h0, h1⟩ := hvs.args2
    exact ⟨x0, x1, [], rfl, rfl, f, 9, h0, h1, fz, .inl ⟨n, hbad, fun d H2 e2 hd2 => hE (some d) H2 (e1.trans e2) ⟨d, rfl, hd2⟩⟩⟩
  replace p1 := p1.ste (Ste.extN e5)
  replace p2 := p2.ste (Ste.extN e5)
  replace p3 := p3.ste (Ste.extN e5)
  replace p4 := p4.ste (Ste.extN e5)
  replace hl0 := e5 _ _ hl0 (fun _ z => by cases z)
  refine ⟨T5, fun f6 H6 e6 T6 n6 l6 => ?_⟩
  have eN6 := eN5.trans e6
  have p6 : Pend P w K mg base 24 CF (dNum "number" n) [] (s.heap.objs.size + 1) (defScope s_law_works) ([("_law_f", vf), ("_law_good", vg)] : List (Str × V)) (fun H => D H vf (encF f) ∧ D H vg (encF fGood)) f6 H6 := fun HH st inj hC hd => by
    have lx := l6.ste st
    refine rf_at (l := []) (fun H => D H vf (encF f) ∧ D H vg (encF fGood)) (S := defScope s_law_works) (vals := ([("_law_f", vf), ("_law_good", vg)] : List (Str × V))) (tb := fun E => tCallS (spKp 0 CF CK CP) (WE (fun cls d _ H => E cls d H)) (tCons (tVar 0) (tCons (tC (.int 9)) (tCons (tTup tNil) tNil)))) ?_ nd inj ?_ lx hC hd hds dNum_ok.2 ?_ (fun HG E Q hC hd hE => ?_)
    · show lamOk _ _ (["_law_f", "_law_good"] : List Str) = true
      decide +kernel
    · exact ⟨(fun z => nomatch z), fun _ => ⟨"_law_a", by decide +kernel, fun s q cl t doc pm cv ctv u o n ho hn => BindsTo.of_defaults rfl ho hn rfl rfl⟩⟩
    · intro A outer s H E c' hr2
      exact pe_clW (W := fun cls d _ H => E cls d H) c_own_cells (hr2.mono (by decide)) (takes_of rfl rfl rfl rfl) (by exact (pa_cons (pv 0) (pa_cons pe_int (pa_cons (pe_tup pa_nil) pa_nil))))
    have hf2 := D.cut hC hd.1
    have hg2 := D.cut hC hd.2
    refine (eas3 (ed_var (i := 0) rfl hf2) (ed_ci 9) (ed_tup (ds := []) eas_nil (by decide))) _ (Ex.refl _) _ fun vs H1 e1 hvs => ?_
    obtain ⟨x0, x1, x2, rfl, h0, h1, h2⟩ := hvs.args3
    exact ⟨x0, x1, x2, [], rfl, rfl, f, 9, [], h0, h1, h2, fz, .inl ⟨n, hbad, fun d H2 e2 hd2 => hE (some d) H2 (e1.trans e2) ⟨d, rfl, hd2⟩⟩⟩
  replace p5 := p5.ste (Ste.extN e6)
  replace p1 := p1.ste (Ste.extN e6)
  replace p2 := p2.ste (Ste.extN e6)
  replace p3 := p3.ste (Ste.extN e6)
  replace p4 := p4.ste (Ste.extN e6)
  replace hl0 := e6 _ _ hl0 (fun _ z => by cases z)
  refine ⟨T6, fun f7 H7 e7 T7 n7 l7 => ?_⟩
  have eN7 := eN6.trans e7
  have p7 : Pend P w K mg base 24 CF (dNum "number" n) [] (s.heap.objs.size + 1) (defScope s_law_works) ([("_law_f", vf), ("_law_good", vg)] : List (Str × V)) (fun H => D H vf (encF f) ∧ D H vg (encF fGood)) f7 H7 := fun HH st inj hC hd => by
    have lx := l7.ste st
    refine rf_at (l := []) (fun H => D H vf (encF f) ∧ D H vg (encF fGood)) (S := defScope s_law_works) (vals := ([("_law_f", vf), ("_law_good", vg)] : List (Str × V))) (tb := fun E => tCallS (spKp 1 CF CK CP) (WE (fun cls d _ H => E cls d H)) (tCons (tVar 0) (tCons (tC (.int 9)) (tCons (tTup tNil) (tCons (tC (.int 9)) tNil))))) ?_ nd inj ?_ lx hC hd hds dNum_ok.2 ?_ (fun HG E Q hC hd hE => ?_)
    · show lamOk _ _ (["_law_f", "_law_good"] : List Str) = true
      decide +kernel
    · exact ⟨(fun z => nomatch z), fun _ => ⟨"_law_b", by decide +kernel, fun s q cl t doc pm cv ctv u o n ho hn => BindsTo.of_defaults rfl ho hn rfl rfl⟩⟩
    · intro A outer s H E c' hr2
      exact pe_clW (W := fun cls d _ H => E cls d H) c_moved (hr2.mono (by decide)) (takes_of rfl rfl rfl rfl) (by exact (pa_cons (pv 0) (pa_cons pe_int (pa_cons (pe_tup pa_nil) (pa_cons pe_int pa_nil)))))
    have hf2 := D.cut hC hd.1
    have hg2 := D.cut hC hd.2
    refine (eas4 (ed_var (i := 0) rfl hf2) (ed_ci 9) (ed_tup (ds := []) eas_nil (by decide)) (ed_ci 9)) _ (Ex.refl _) _ fun vs H1 e1 hvs => ?_
    obtain ⟨x0, x1, x2, x3, rfl, h0, h1, h2, h3⟩ := hvs.args4
    exact ⟨x0, x1, x2, [x3], rfl, rfl, f, 9, [], h0, h1, h2, fz, .inl ⟨n, hbad, fun d H2 e2 hd2 => hE (some d) H2 (e1.trans e2) ⟨d, rfl, hd2⟩⟩⟩
  replace p5 := p5.ste (Ste.extN e7)
  replace p6 := p6.ste (Ste.extN e7)
  replace p1 := p1.ste (Ste.extN e7)
  replace p2 := p2.ste (Ste.extN e7)
  replace p3 := p3.ste (Ste.extN e7)
  replace p4 := p4.ste (Ste.extN e7)
  replace hl0 := e7 _ _ hl0 (fun _ z => by cases z)
  refine ⟨by show 3 ≤ sizeLine; decide, fun pl1 m1 => ?_⟩
  have x1 : Ex H7 (upd H7 pl1 (.lst [.ref f5, .ref f6, .ref f7])) := Ex.new m1
  have eL1 := eN7.trans (ExtN.of x1)
  have TL1 := T7.ext x1
  replace p1 := p1.ste (Ste.ex x1)
  replace p2 := p2.ste (Ste.ex x1)
  replace p3 := p3.ste (Ste.ex x1)
  replace p4 := p4.ste (Ste.ex x1)
  replace p5 := p5.ste (Ste.ex x1)
  replace p6 := p6.ste (Ste.ex x1)
  replace p7 := p7.ste (Ste.ex x1)
  replace hl0 := x1 _ _ hl0
  have hl1 : (upd H7 pl1 (.lst [.ref f5, .ref f6, .ref f7])) pl1 = some (.lst [.ref f5, .ref f6, .ref f7]) := upd_same
  generalize upd H7 pl1 (.lst [.ref f5, .ref f6, .ref f7]) = HL1 at *
  refine ⟨pl0, pl1, [.ref f1, .ref f2, .ref f3, .ref f4], [.ref f5, .ref f6, .ref f7], rfl, rfl, hl0, hl1, by show 7 ≤ 16777216; decide, fun pc1 mc1 => ?_⟩
  have y1 : Ex HL1 (upd HL1 pc1 (.lst ([.ref f1, .ref f2, .ref f3, .ref f4] ++ [.ref f5, .ref f6, .ref f7]))) := Ex.new mc1
  have eC1 := eL1.trans (ExtN.of y1)
  have TC1 := TL1.ext y1
  replace p1 := p1.ste (Ste.ex y1)
  replace p2 := p2.ste (Ste.ex y1)
  replace p3 := p3.ste (Ste.ex y1)
  replace p4 := p4.ste (Ste.ex y1)
  replace p5 := p5.ste (Ste.ex y1)
  replace p6 := p6.ste (Ste.ex y1)
  replace p7 := p7.ste (Ste.ex y1)
  have hc1 : (upd HL1 pc1 (.lst ([.ref f1, .ref f2, .ref f3, .ref f4] ++ [.ref f5, .ref f6, .ref f7]))) pc1 = some (.lst [.ref f1, .ref f2, .ref f3, .ref f4, .ref f5, .ref f6, .ref f7]) := upd_same
  generalize upd HL1 pc1 (.lst ([.ref f1, .ref f2, .ref f3, .ref f4] ++ [.ref f5, .ref f6, .ref f7])) = HC1 at *
  try dsimp only
  refine tAsg_i ?_
  refine tOp_i ?_
  refine ⟨.ref pc1, rfl, ?_⟩
  refine tLst3 ?_
  refine ⟨TC1, fun f8 H8 e8 T8 n8 l8 => ?_⟩
  have eN8 := eC1.trans e8
  have p8 : Pend P w K mg base 24 CF (dNum "number" n) [] (s.heap.objs.size + 1) (defScope s_law_works) ([("_law_f", vf), ("_law_good", vg)] : List (Str × V)) (fun H => D H vf (encF f) ∧ D H vg (encF fGood)) f8 H8 := fun HH st inj hC hd => by
    have lx := l8.ste st
    refine rf_at (l := []) (fun H => D H vf (encF f) ∧ D H vg (encF fGood)) (S := defScope s_law_works) (vals := ([("_law_f", vf), ("_law_good", vg)] : List (Str × V))) (tb := fun E => tCallS (spKk 1 CF CK) (WE (fun cls d _ H => E cls d H)) (tCons (tVar 0) (tCons (tC (.int 9)) (tCons (tC (.int 9)) tNil)))) ?_ nd inj ?_ lx hC hd hds dNum_ok.2 ?_ (fun HG E Q hC hd hE => ?_)
    · show lamOk _ _ (["_law_f", "_law_good"] : List Str) = true
      decide +kernel
    · exact ⟨fun _ _ _ _ _ _ _ => rfl, fun z => nomatch z⟩
    · intro A outer s H E c' hr2
      exact pe_clW (W := fun cls d _ H => E cls d H) c_step (hr2.mono (by decide)) (takes_of rfl rfl rfl rfl) (by exact (pa_cons (pv 0) (pa_cons pe_int (pa_cons pe_int pa_nil))))
    have hf2 := D.cut hC hd.1
    have hg2 := D.cut hC hd.2
    refine (eas3 (ed_var (i := 0) rfl hf2) (ed_ci 9) (ed_ci 9)) _ (Ex.refl _) _ fun vs H1 e1 hvs => ?_
    obtain ⟨x0, x1, x2, rfl, h0, h1, h2⟩ := hvs.args3
    exact ⟨x0, x1, [x2], rfl, rfl, f, 9, h0, h1, fz, .inl ⟨n, hbad, fun d H2 e2 hd2 => hE (some d) H2 (e1.trans e2) ⟨d, rfl, hd2⟩⟩⟩
  replace p1 := p1.ste (Ste.extN e8)
  replace p2 := p2.ste (Ste.extN e8)
  replace p3 := p3.ste (Ste.extN e8)
  replace p4 := p4.ste (Ste.extN e8)
  replace p5 := p5.ste (Ste.extN e8)
  replace p6 := p6.ste (Ste.extN e8)
  replace p7 := p7.ste (Ste.extN e8)
  replace hc1 := e8 _ _ hc1 (fun _ z => by cases z)
  refine ⟨T8, fun f9 H9 e9 T9 n9 l9 => ?_⟩
  have eN9 := eN8.trans e9
  have p9 : Pend P w K mg base 24 CF (dNum "number" n) [] (s.heap.objs.size + 1) (defScope s_law_works) ([("_law_f", vf), ("_law_good", vg)] : List (Str × V)) (fun H => D H vf (encF f) ∧ D H vg (encF fGood)) f9 H9 := fun HH st inj hC hd => by
    have lx := l9.ste st
    refine rf_at (l := []) (fun H => D H vf (encF f) ∧ D H vg (encF fGood)) (S := defScope s_law_works) (vals := ([("_law_f", vf), ("_law_good", vg)] : List (Str × V))) (tb := fun E => tCallS (spAn CF CB) (WE (fun cls d _ H => E cls d H)) (tCons (tVar 0) (tCons (tLst (tCons (tTup (tCons (tC (.int 9)) (tCons (tC (.str "a")) tNil))) tNil)) tNil))) ?_ nd inj ?_ lx hC hd hds dNum_ok.2 ?_ (fun HG E Q hC hd hE => ?_)
    · show lamOk _ _ (["_law_f", "_law_good"] : List Str) = true
      decide +kernel
    · exact ⟨(fun z => nomatch z), fun _ => ⟨"_law_a", by decide +kernel, fun s q cl t doc pm cv ctv u o n ho hn => BindsTo.of_defaults rfl ho hn rfl rfl⟩⟩
    · intro A outer s H E c' hr2
      exact pe_clW (W := fun cls d _ H => E cls d H) c_numbers (hr2.mono (by decide)) (takes_of rfl rfl rfl rfl) (by exact (pa_cons (pv 0) (pa_cons (pe_lst (pa_cons (pe_tup (pa_cons pe_int (pa_cons pe_str pa_nil))) pa_nil)) pa_nil)))
    have hf2 := D.cut hC hd.1
    have hg2 := D.cut hC hd.2
    refine (eas2 (ed_var (i := 0) rfl hf2) (EL.ed (el_lst' (ds := ask9.map encQ) (eas1 (d := encQ (9, "a")) (ed_tup (ds := [.int 9, .str "a"]) (eas2 (ed_ci 9) (ed_cs _)) (by show 2 ≤ 100000; decide))) (by show 1 ≤ 100000; decide)))) _ (Ex.refl _) _ fun vs H1 e1 hvs => ?_
    obtain ⟨x0, x1, rfl, h0, h1⟩ := hvs.args2
    exact ⟨x0, x1, rfl, f, ask9, h0, h1, fz, ro9, .inl ⟨n, hbad, fun d H2 e2 hd2 => hE (some d) H2 (e1.trans e2) ⟨d, rfl, hd2⟩⟩⟩
  replace p8 := p8.ste (Ste.extN e9)
  replace p1 := p1.ste (Ste.extN e9)
  replace p2 := p2.ste (Ste.extN e9)
  replace p3 := p3.ste (Ste.extN e9)
  replace p4 := p4.ste (Ste.extN e9)
  replace p5 := p5.ste (Ste.extN e9)
  replace p6 := p6.ste (Ste.extN e9)
  replace p7 := p7.ste (Ste.extN e9)
  replace hc1 := e9 _ _ hc1 (fun _ z => by cases z)
  refine ⟨T9, fun f10 H10 e10 T10 n10 l10 => ?_⟩
  have eN10 := eN9.trans e10
  have p10 : Pend P w K mg base 24 CF (dNum "number" n) [] (s.heap.objs.size + 1) (defScope s_law_works) ([("_law_f", vf), ("_law_good", vg)] : List (Str × V)) (fun H => D H vf (encF f) ∧ D H vg (encF fGood)) f10 H10 := fun HH st inj hC hd => by
    have lx := l10.ste st
    refine rf_at (l := []) (fun H => D H vf (encF f) ∧ D H vg (encF fGood)) (S := defScope s_law_works) (vals := ([("_law_f", vf), ("_law_good", vg)] : List (Str × V))) (tb := fun E => tCallS (spAk 0 CF CK CB) (WE (fun cls d _ H => E cls d H)) (tCons (tVar 0) (tCons (tLst (tCons (tTup (tCons (tC (.int 9)) (tCons (tC (.str "a")) tNil))) tNil)) (tCons (tC (.int 9)) tNil)))) ?_ nd inj ?_ lx hC hd hds dNum_ok.2 ?_ (fun HG E Q hC hd hE => ?_)
    · show lamOk _ _ (["_law_f", "_law_good"] : List Str) = true
      decide +kernel
    · exact ⟨(fun z => nomatch z), fun _ => ⟨"_law_b", by decide +kernel, fun s q cl t doc pm cv ctv u o n ho hn => BindsTo.of_defaults rfl ho hn rfl rfl⟩⟩
    · intro A outer s H E c' hr2
      exact pe_clW (W := fun cls d _ H => E cls d H) c_tables (hr2.mono (by decide)) (takes_of rfl rfl rfl rfl) (by exact (pa_cons (pv 0) (pa_cons (pe_lst (pa_cons (pe_tup (pa_cons pe_int (pa_cons pe_str pa_nil))) pa_nil)) (pa_cons pe_int pa_nil))))
    have hf2 := D.cut hC hd.1
    have hg2 := D.cut hC hd.2
    refine (eas3 (ed_var (i := 0) rfl hf2) (EL.ed (el_lst' (ds := ask9.map encQ) (eas1 (d := encQ (9, "a")) (ed_tup (ds := [.int 9, .str "a"]) (eas2 (ed_ci 9) (ed_cs _)) (by show 2 ≤ 100000; decide))) (by show 1 ≤ 100000; decide))) (ed_ci 9)) _ (Ex.refl _) _ fun vs H1 e1 hvs => ?_
    obtain ⟨x0, x1, x2, rfl, h0, h1, h2⟩ := hvs.args3
    exact ⟨x0, x1, x2, [], rfl, rfl, f, ask9, 9, h0, h1, h2, fz, ro9, .inl ⟨n, hbad, fun d H2 e2 hd2 => hE (some d) H2 (e1.trans e2) ⟨d, rfl, hd2⟩⟩⟩
  replace p8 := p8.ste (Ste.extN e10)
  replace p9 := p9.ste (Ste.extN e10)
  replace p1 := p1.ste (Ste.extN e10)
  replace p2 := p2.ste (Ste.extN e10)
  replace p3 := p3.ste (Ste.extN e10)
  replace p4 := p4.ste (Ste.extN e10)
  replace p5 := p5.ste (Ste.extN e10)
  replace p6 := p6.ste (Ste.extN e10)
  replace p7 := p7.ste (Ste.extN e10)
  replace hc1 := e10 _ _ hc1 (fun _ z => by cases z)
  refine ⟨by show 3 ≤ sizeLine; decide, fun pl2 m2 => ?_⟩
  have x2 : Ex H10 (upd H10 pl2 (.lst [.ref f8, .ref f9, .ref f10])) := Ex.new m2
  have eL2 := eN10.trans (ExtN.of x2)
  have TL2 := T10.ext x2
  replace p1 := p1.ste (Ste.ex x2)
  replace p2 := p2.ste (Ste.ex x2)
  replace p3 := p3.ste (Ste.ex x2)
  replace p4 := p4.ste (Ste.ex x2)
  replace p5 := p5.ste (Ste.ex x2)
  replace p6 := p6.ste (Ste.ex x2)
  replace p7 := p7.ste (Ste.ex x2)
  replace p8 := p8.ste (Ste.ex x2)
  replace p9 := p9.ste (Ste.ex x2)
  replace p10 := p10.ste (Ste.ex x2)
  replace hc1 := x2 _ _ hc1
  have hl2 : (upd H10 pl2 (.lst [.ref f8, .ref f9, .ref f10])) pl2 = some (.lst [.ref f8, .ref f9, .ref f10]) := upd_same
  generalize upd H10 pl2 (.lst [.ref f8, .ref f9, .ref f10]) = HL2 at *
  refine ⟨pc1, pl2, [.ref f1, .ref f2, .ref f3, .ref f4, .ref f5, .ref f6, .ref f7], [.ref f8, .ref f9, .ref f10], rfl, rfl, hc1, hl2, by show 10 ≤ 16777216; decide, fun pc2 mc2 => ?_⟩
  have y2 : Ex HL2 (upd HL2 pc2 (.lst ([.ref f1, .ref f2, .ref f3, .ref f4, .ref f5, .ref f6, .ref f7] ++ [.ref f8, .ref f9, .ref f10]))) := Ex.new mc2
  have eC2 := eL2.trans (ExtN.of y2)
  have TC2 := TL2.ext y2
  replace p1 := p1.ste (Ste.ex y2)
  replace p2 := p2.ste (Ste.ex y2)
  replace p3 := p3.ste (Ste.ex y2)
  replace p4 := p4.ste (Ste.ex y2)
  replace p5 := p5.ste (Ste.ex y2)
  replace p6 := p6.ste (Ste.ex y2)
  replace p7 := p7.ste (Ste.ex y2)
  replace p8 := p8.ste (Ste.ex y2)
  replace p9 := p9.ste (Ste.ex y2)
  replace p10 := p10.ste (Ste.ex y2)
  have hc2 : (upd HL2 pc2 (.lst ([.ref f1, .ref f2, .ref f3, .ref f4, .ref f5, .ref f6, .ref f7] ++ [.ref f8, .ref f9, .ref f10]))) pc2 = some (.lst [.ref f1, .ref f2, .ref f3, .ref f4, .ref f5, .ref f6, .ref f7, .ref f8, .ref f9, .ref f10]) := upd_same
  generalize upd HL2 pc2 (.lst ([.ref f1, .ref f2, .ref f3, .ref f4, .ref f5, .ref f6, .ref f7] ++ [.ref f8, .ref f9, .ref f10])) = HC2 at *
  try dsimp only
  refine tAsg_i ?_
  refine tOp_i ?_
  refine ⟨.ref pc2, rfl, ?_⟩
  refine tLst2 ?_
  refine ⟨TC2, fun f11 H11 e11 T11 n11 l11 => ?_⟩
  have eN11 := eC2.trans e11
  have p11 : Pend P w K mg base 24 CF (dNum "number" n) [] (s.heap.objs.size + 1) (defScope s_law_works) ([("_law_f", vf), ("_law_good", vg)] : List (Str × V)) (fun H => D H vf (encF f) ∧ D H vg (encF fGood)) f11 H11 := fun HH st inj hC hd => by
    have lx := l11.ste st
    refine rf_at (l := []) (fun H => D H vf (encF f) ∧ D H vg (encF fGood)) (S := defScope s_law_works) (vals := ([("_law_f", vf), ("_law_good", vg)] : List (Str × V))) (tb := fun E => tCallS (spAp 1 CF CK CP CB) (WE (fun cls d _ H => E cls d H)) (tCons (tVar 0) (tCons (tLst tNil) (tCons (tC (.int 9)) (tCons (tTup tNil) (tCons (tC (.str "a")) tNil)))))) ?_ nd inj ?_ lx hC hd hds dNum_ok.2 ?_ (fun HG E Q hC hd hE => ?_)
    · show lamOk _ _ (["_law_f", "_law_good"] : List Str) = true
      decide +kernel
    · exact ⟨fun _ _ _ _ _ _ _ => rfl, fun z => nomatch z⟩
    · intro A outer s H E c' hr2
      exact pe_clW (W := fun cls d _ H => E cls d H) c_call (hr2.mono (by decide)) (takes_of rfl rfl rfl rfl) (by exact (pa_cons (pv 0) (pa_cons (pe_lst pa_nil) (pa_cons pe_int (pa_cons (pe_tup pa_nil) (pa_cons pe_str pa_nil))))))
    have hf2 := D.cut hC hd.1
    have hg2 := D.cut hC hd.2
    refine (eas5 (ed_var (i := 0) rfl hf2) (EL.ed (el_lst' (ds := []) eas_nil (by decide))) (ed_ci 9) (ed_tup (ds := []) eas_nil (by decide)) (ed_cs _)) _ (Ex.refl _) _ fun vs H1 e1 hvs => ?_
    obtain ⟨x0, x1, x2, x3, x4, rfl, h0, h1, h2, h3, h4⟩ := hvs.args5
    exact ⟨x0, x1, x2, x3, [x4], rfl, rfl, f, [], 9, [], h0, h1, h2, h3, fz, ro0, .inl ⟨n, hbad, fun d H2 e2 hd2 => hE (some d) H2 (e1.trans e2) ⟨d, rfl, hd2⟩⟩⟩
  replace p1 := p1.ste (Ste.extN e11)
  replace p2 := p2.ste (Ste.extN e11)
  replace p3 := p3.ste (Ste.extN e11)
  replace p4 := p4.ste (Ste.extN e11)
  replace p5 := p5.ste (Ste.extN e11)
  replace p6 := p6.ste (Ste.extN e11)
  replace p7 := p7.ste (Ste.extN e11)
  replace p8 := p8.ste (Ste.extN e11)
  replace p9 := p9.ste (Ste.extN e11)
  replace p10 := p10.ste (Ste.extN e11)
  replace hc2 := e11 _ _ hc2 (fun _ z => by cases z)
  refine ⟨T11, fun f12 H12 e12 T12 n12 l12 => ?_⟩
  have eN12 := eN11.trans e12
  have p12 : Pend P w K mg base 24 CF (dNum "number" n) [] (s.heap.objs.size + 1) (defScope s_law_works) ([("_law_f", vf), ("_law_good", vg)] : List (Str × V)) (fun H => D H vf (encF f) ∧ D H vg (encF fGood)) f12 H12 := fun HH st inj hC hd => by
    have lx := l12.ste st
    refine rf_at (l := []) (fun H => D H vf (encF f) ∧ D H vg (encF fGood)) (S := defScope s_law_works) (vals := ([("_law_f", vf), ("_law_good", vg)] : List (Str × V))) (tb := fun E => tCallS (spAp 1 CF CK CP CB) (WE (fun cls d _ H => E cls d H)) (tCons (tVar 0) (tCons (tLst tNil) (tCons (tC (.int 9)) (tCons (tTup tNil) (tCons (tC (.int 9)) tNil)))))) ?_ nd inj ?_ lx hC hd hds dNum_ok.2 ?_ (fun HG E Q hC hd hE => ?_)
    · show lamOk _ _ (["_law_f", "_law_good"] : List Str) = true
      decide +kernel
    · exact ⟨(fun z => nomatch z), fun _ => ⟨"_law_a", by decide +kernel, fun s q cl t doc pm cv ctv u o n ho hn => BindsTo.of_defaults rfl ho hn rfl rfl⟩⟩
    · intro A outer s H E c' hr2
      exact pe_clW (W := fun cls d _ H => E cls d H) c_led (hr2.mono (by decide)) (takes_of rfl rfl rfl rfl) (by exact (pa_cons (pv 0) (pa_cons (pe_lst pa_nil) (pa_cons pe_int (pa_cons (pe_tup pa_nil) (pa_cons pe_int pa_nil))))))
    have hf2 := D.cut hC hd.1
    have hg2 := D.cut hC hd.2
    refine (eas5 (ed_var (i := 0) rfl hf2) (EL.ed (el_lst' (ds := []) eas_nil (by decide))) (ed_ci 9) (ed_tup (ds := []) eas_nil (by decide)) (ed_ci 9)) _ (Ex.refl _) _ fun vs H1 e1 hvs => ?_
    obtain ⟨x0, x1, x2, x3, x4, rfl, h0, h1, h2, h3, h4⟩ := hvs.args5
    exact ⟨x0, x1, x2, x3, [x4], rfl, rfl, f, [], 9, [], h0, h1, h2, h3, fz, ro0, .inl ⟨n, hbad, fun d H2 e2 hd2 => hE (some d) H2 (e1.trans e2) ⟨d, rfl, hd2⟩⟩⟩
  replace p11 := p11.ste (Ste.extN e12)
  replace p1 := p1.ste (Ste.extN e12)
  replace p2 := p2.ste (Ste.extN e12)
  replace p3 := p3.ste (Ste.extN e12)
  replace p4 := p4.ste (Ste.extN e12)
  replace p5 := p5.ste (Ste.extN e12)
  replace p6 := p6.ste (Ste.extN e12)
  replace p7 := p7.ste (Ste.extN e12)
  replace p8 := p8.ste (Ste.extN e12)
  replace p9 := p9.ste (Ste.extN e12)
  replace p10 := p10.ste (Ste.extN e12)
  replace hc2 := e12 _ _ hc2 (fun _ z => by cases z)
  refine ⟨by show 2 ≤ sizeLine; decide, fun pl3 m3 => ?_⟩
  have x3 : Ex H12 (upd H12 pl3 (.lst [.ref f11, .ref f12])) := Ex.new m3
  have eL3 := eN12.trans (ExtN.of x3)
  have TL3 := T12.ext x3
  replace p1 := p1.ste (Ste.ex x3)
  replace p2 := p2.ste (Ste.ex x3)
  replace p3 := p3.ste (Ste.ex x3)
  replace p4 := p4.ste (Ste.ex x3)
  replace p5 := p5.ste (Ste.ex x3)
  replace p6 := p6.ste (Ste.ex x3)
  replace p7 := p7.ste (Ste.ex x3)
  replace p8 := p8.ste (Ste.ex x3)
  replace p9 := p9.ste (Ste.ex x3)
  replace p10 := p10.ste (Ste.ex x3)
  replace p11 := p11.ste (Ste.ex x3)
  replace p12 := p12.ste (Ste.ex x3)
  replace hc2 := x3 _ _ hc2
  have hl3 : (upd H12 pl3 (.lst [.ref f11, .ref f12])) pl3 = some (.lst [.ref f11, .ref f12]) := upd_same
  generalize upd H12 pl3 (.lst [.ref f11, .ref f12]) = HL3 at *
  refine ⟨pc2, pl3, [.ref f1, .ref f2, .ref f3, .ref f4, .ref f5, .ref f6, .ref f7, .ref f8, .ref f9, .ref f10], [.ref f11, .ref f12], rfl, rfl, hc2, hl3, by show 12 ≤ 16777216; decide, fun pc3 mc3 => ?_⟩
  have y3 : Ex HL3 (upd HL3 pc3 (.lst ([.ref f1, .ref f2, .ref f3, .ref f4, .ref f5, .ref f6, .ref f7, .ref f8, .ref f9, .ref f10] ++ [.ref f11, .ref f12]))) := Ex.new mc3
  have eC3 := eL3.trans (ExtN.of y3)
  have TC3 := TL3.ext y3
  replace p1 := p1.ste (Ste.ex y3)
  replace p2 := p2.ste (Ste.ex y3)
  replace p3 := p3.ste (Ste.ex y3)
  replace p4 := p4.ste (Ste.ex y3)
  replace p5 := p5.ste (Ste.ex y3)
  replace p6 := p6.ste (Ste.ex y3)
  replace p7 := p7.ste (Ste.ex y3)
  replace p8 := p8.ste (Ste.ex y3)
  replace p9 := p9.ste (Ste.ex y3)
  replace p10 := p10.ste (Ste.ex y3)
  replace p11 := p11.ste (Ste.ex y3)
  replace p12 := p12.ste (Ste.ex y3)
  have hc3 : (upd HL3 pc3 (.lst ([.ref f1, .ref f2, .ref f3, .ref f4, .ref f5, .ref f6, .ref f7, .ref f8, .ref f9, .ref f10] ++ [.ref f11, .ref f12]))) pc3 = some (.lst [.ref f1, .ref f2, .ref f3, .ref f4, .ref f5, .ref f6, .ref f7, .ref f8, .ref f9, .ref f10, .ref f11, .ref f12]) := upd_same
  generalize upd HL3 pc3 (.lst ([.ref f1, .ref f2, .ref f3, .ref f4, .ref f5, .ref f6, .ref f7, .ref f8, .ref f9, .ref f10] ++ [.ref f11, .ref f12])) = HC3 at *
  try dsimp only
  refine tAsg_i ?_
  refine tOp_i ?_
  refine ⟨.ref pc3, rfl, ?_⟩
  refine tLst2 ?_
  refine ⟨TC3, fun f13 H13 e13 T13 n13 l13 => ?_⟩
  have eN13 := eC3.trans e13
  have p13 : Pend P w K mg base 24 CF (dNum "number" n) [] (s.heap.objs.size + 1) (defScope s_law_works) ([("_law_f", vf), ("_law_good", vg)] : List (Str × V)) (fun H => D H vf (encF f) ∧ D H vg (encF fGood)) f13 H13 := fun HH st inj hC hd => by
    have lx := l13.ste st
    refine rf_at (l := []) (fun H => D H vf (encF f) ∧ D H vg (encF fGood)) (S := defScope s_law_works) (vals := ([("_law_f", vf), ("_law_good", vg)] : List (Str × V))) (tb := fun E => tCallS (spAk 1 CF CK CB) (WE (fun cls d _ H => E cls d H)) (tCons (tVar 0) (tCons (tLst (tCons (tTup (tCons (tC (.int 9)) (tCons (tC (.str "a")) tNil))) tNil)) (tCons (tC (.int 9)) (tCons (tC (.str "a")) tNil))))) ?_ nd inj ?_ lx hC hd hds dNum_ok.2 ?_ (fun HG E Q hC hd hE => ?_)
    · show lamOk _ _ (["_law_f", "_law_good"] : List Str) = true
      decide +kernel
    · exact ⟨fun _ _ _ _ _ _ _ => rfl, fun z => nomatch z⟩
    · intro A outer s H E c' hr2
      exact pe_clW (W := fun cls d _ H => E cls d H) c_reason (hr2.mono (by decide)) (takes_of rfl rfl rfl rfl) (by exact (pa_cons (pv 0) (pa_cons (pe_lst (pa_cons (pe_tup (pa_cons pe_int (pa_cons pe_str pa_nil))) pa_nil)) (pa_cons pe_int (pa_cons pe_str pa_nil)))))
    have hf2 := D.cut hC hd.1
    have hg2 := D.cut hC hd.2
    refine (eas4 (ed_var (i := 0) rfl hf2) (EL.ed (el_lst' (ds := ask9.map encQ) (eas1 (d := encQ (9, "a")) (ed_tup (ds := [.int 9, .str "a"]) (eas2 (ed_ci 9) (ed_cs _)) (by show 2 ≤ 100000; decide))) (by show 1 ≤ 100000; decide))) (ed_ci 9) (ed_cs _)) _ (Ex.refl _) _ fun vs H1 e1 hvs => ?_
    obtain ⟨x0, x1, x2, x3, rfl, h0, h1, h2, h3⟩ := hvs.args4
    exact ⟨x0, x1, x2, [x3], rfl, rfl, f, ask9, 9, h0, h1, h2, fz, ro9, .inl ⟨n, hbad, fun d H2 e2 hd2 => hE (some d) H2 (e1.trans e2) ⟨d, rfl, hd2⟩⟩⟩
  replace p1 := p1.ste (Ste.extN e13)
  replace p2 := p2.ste (Ste.extN e13)
  replace p3 := p3.ste (Ste.extN e13)
  replace p4 := p4.ste (Ste.extN e13)
  replace p5 := p5.ste (Ste.extN e13)
  replace p6 := p6.ste (Ste.extN e13)
  replace p7 := p7.ste (Ste.extN e13)
  replace p8 := p8.ste (Ste.extN e13)
  replace p9 := p9.ste (Ste.extN e13)
  replace p10 := p10.ste (Ste.extN e13)
  replace p11 := p11.ste (Ste.extN e13)
  replace p12 := p12.ste (Ste.extN e13)
  replace hc3 := e13 _ _ hc3 (fun _ z => by cases z)
  refine ⟨T13, fun f14 H14 e14 T14 n14 l14 => ?_⟩
  have eN14 := eN13.trans e14
  have p14 : Pend P w K mg base 24 CF (dNum "number" n) [] (s.heap.objs.size + 1) (defScope s_law_works) ([("_law_f", vf), ("_law_good", vg)] : List (Str × V)) (fun H => D H vf (encF f) ∧ D H vg (encF fGood)) f14 H14 := fun HH st inj hC hd => by
    have lx := l14.ste st
    refine rf_at (l := []) (fun H => D H vf (encF f) ∧ D H vg (encF fGood)) (S := defScope s_law_works) (vals := ([("_law_f", vf), ("_law_good", vg)] : List (Str × V))) (tb := fun E => tCallS (spUn CF) (WE (fun cls d _ H => E cls d H)) (tCons (tVar 0) (tCons (tVar 1) (tCons (tLst (tCons (tTup (tCons (tC (.int 9)) (tCons (tC (.str "a")) tNil))) tNil)) tNil)))) ?_ nd inj ?_ lx hC hd hds dNum_ok.2 ?_ (fun HG E Q hC hd hE => ?_)
    · show lamOk _ _ (["_law_f", "_law_good"] : List Str) = true
      decide +kernel
    · exact ⟨(fun z => nomatch z), fun _ => ⟨"_law_a", by decide +kernel, fun s q cl t doc pm cv ctv u o n ho hn => BindsTo.of_defaults rfl ho hn rfl rfl⟩⟩
    · intro A outer s H E c' hr2
      exact pe_clW (W := fun cls d _ H => E cls d H) c_unlike (hr2.mono (by decide)) (takes_of rfl rfl rfl rfl) (by exact (pa_cons (pv 0) (pa_cons (pv 1) (pa_cons (pe_lst (pa_cons (pe_tup (pa_cons pe_int (pa_cons pe_str pa_nil))) pa_nil)) pa_nil))))
    have hf2 := D.cut hC hd.1
    have hg2 := D.cut hC hd.2
    refine (eas3 (ed_var (i := 0) rfl hf2) (ed_var (i := 1) rfl hg2) (EL.ed (el_lst' (ds := ask9.map encQ) (eas1 (d := encQ (9, "a")) (ed_tup (ds := [.int 9, .str "a"]) (eas2 (ed_ci 9) (ed_cs _)) (by show 2 ≤ 100000; decide))) (by show 1 ≤ 100000; decide)))) _ (Ex.refl _) _ fun vs H1 e1 hvs => ?_
    obtain ⟨x0, x1, x2, rfl, h0, h1, h2⟩ := hvs.args3
    exact ⟨x0, x1, x2, rfl, .inl ⟨f, h0, fz, ⟨n, hbad, fun d H2 e2 hd2 => hE (some d) H2 (e1.trans e2) ⟨d, rfl, hd2⟩⟩⟩⟩
  replace p13 := p13.ste (Ste.extN e14)
  replace p1 := p1.ste (Ste.extN e14)
  replace p2 := p2.ste (Ste.extN e14)
  replace p3 := p3.ste (Ste.extN e14)
  replace p4 := p4.ste (Ste.extN e14)
  replace p5 := p5.ste (Ste.extN e14)
  replace p6 := p6.ste (Ste.extN e14)
  replace p7 := p7.ste (Ste.extN e14)
  replace p8 := p8.ste (Ste.extN e14)
  replace p9 := p9.ste (Ste.extN e14)
  replace p10 := p10.ste (Ste.extN e14)
  replace p11 := p11.ste (Ste.extN e14)
  replace p12 := p12.ste (Ste.extN e14)
  replace hc3 := e14 _ _ hc3 (fun _ z => by cases z)
  refine ⟨by show 2 ≤ sizeLine; decide, fun pl4 m4 => ?_⟩
  have x4 : Ex H14 (upd H14 pl4 (.lst [.ref f13, .ref f14])) := Ex.new m4
  have eL4 := eN14.trans (ExtN.of x4)
  have TL4 := T14.ext x4
  replace p1 := p1.ste (Ste.ex x4)
  replace p2 := p2.ste (Ste.ex x4)
  replace p3 := p3.ste (Ste.ex x4)
  replace p4 := p4.ste (Ste.ex x4)
  replace p5 := p5.ste (Ste.ex x4)
  replace p6 := p6.ste (Ste.ex x4)
  replace p7 := p7.ste (Ste.ex x4)
  replace p8 := p8.ste (Ste.ex x4)
  replace p9 := p9.ste (Ste.ex x4)
  replace p10 := p10.ste (Ste.ex x4)
  replace p11 := p11.ste (Ste.ex x4)
  replace p12 := p12.ste (Ste.ex x4)
  replace p13 := p13.ste (Ste.ex x4)
  replace p14 := p14.ste (Ste.ex x4)
  replace hc3 := x4 _ _ hc3
  have hl4 : (upd H14 pl4 (.lst [.ref f13, .ref f14])) pl4 = some (.lst [.ref f13, .ref f14]) := upd_same
  generalize upd H14 pl4 (.lst [.ref f13, .ref f14]) = HL4 at *
  refine ⟨pc3, pl4, [.ref f1, .ref f2, .ref f3, .ref f4, .ref f5, .ref f6, .ref f7, .ref f8, .ref f9, .ref f10, .ref f11, .ref f12], [.ref f13, .ref f14], rfl, rfl, hc3, hl4, by show 14 ≤ 16777216; decide, fun pc4 mc4 => ?_⟩
  have y4 : Ex HL4 (upd HL4 pc4 (.lst ([.ref f1, .ref f2, .ref f3, .ref f4, .ref f5, .ref f6, .ref f7, .ref f8, .ref f9, .ref f10, .ref f11, .ref f12] ++ [.ref f13, .ref f14]))) := Ex.new mc4
  have eC4 := eL4.trans (ExtN.of y4)
  have TC4 := TL4.ext y4
  replace p1 := p1.ste (Ste.ex y4)
  replace p2 := p2.ste (Ste.ex y4)
  replace p3 := p3.ste (Ste.ex y4)
  replace p4 := p4.ste (Ste.ex y4)
  replace p5 := p5.ste (Ste.ex y4)
  replace p6 := p6.ste (Ste.ex y4)
  replace p7 := p7.ste (Ste.ex y4)
  replace p8 := p8.ste (Ste.ex y4)
  replace p9 := p9.ste (Ste.ex y4)
  replace p10 := p10.ste (Ste.ex y4)
  replace p11 := p11.ste (Ste.ex y4)
  replace p12 := p12.ste (Ste.ex y4)
  replace p13 := p13.ste (Ste.ex y4)
  replace p14 := p14.ste (Ste.ex y4)
  have hc4 : (upd HL4 pc4 (.lst ([.ref f1, .ref f2, .ref f3, .ref f4, .ref f5, .ref f6, .ref f7, .ref f8, .ref f9, .ref f10, .ref f11, .ref f12] ++ [.ref f13, .ref f14]))) pc4 = some (.lst [.ref f1, .ref f2, .ref f3, .ref f4, .ref f5, .ref f6, .ref f7, .ref f8, .ref f9, .ref f10, .ref f11, .ref f12, .ref f13, .ref f14]) := upd_same
  generalize upd HL4 pc4 (.lst ([.ref f1, .ref f2, .ref f3, .ref f4, .ref f5, .ref f6, .ref f7, .ref f8, .ref f9, .ref f10, .ref f11, .ref f12] ++ [.ref f13, .ref f14])) = HC4 at *
  try dsimp only
  refine tOp_i ?_
  refine ⟨.ref pc4, rfl, ?_⟩
  refine tLst2 ?_
  refine ⟨TC4, fun f15 H15 e15 T15 n15 l15 => ?_⟩
  have eN15 := eC4.trans e15
  have p15 : Pend P w K mg base 24 CF (dNum "number" n) [] (s.heap.objs.size + 1) (defScope s_law_works) ([("_law_f", vf), ("_law_good", vg)] : List (Str × V)) (fun H => D H vf (encF f) ∧ D H vg (encF fGood)) f15 H15 := fun HH st inj hC hd => by
    have lx := l15.ste st
    refine rf_at (l := []) (fun H => D H vf (encF f) ∧ D H vg (encF fGood)) (S := defScope s_law_works) (vals := ([("_law_f", vf), ("_law_good", vg)] : List (Str × V))) (tb := fun E => tCallS (spUn CF) (WE (fun cls d _ H => E cls d H)) (tCons (tVar 1) (tCons (tVar 0) (tCons (tLst (tCons (tTup (tCons (tC (.int 9)) (tCons (tC (.str "a")) tNil))) tNil)) tNil)))) ?_ nd inj ?_ lx hC hd hds dNum_ok.2 ?_ (fun HG E Q hC hd hE => ?_)
    · show lamOk _ _ (["_law_f", "_law_good"] : List Str) = true
      decide +kernel
    · exact ⟨fun _ _ _ _ _ _ _ => rfl, fun z => nomatch z⟩
    · intro A outer s H E c' hr2
      exact pe_clW (W := fun cls d _ H => E cls d H) c_unlike (hr2.mono (by decide)) (takes_of rfl rfl rfl rfl) (by exact (pa_cons (pv 1) (pa_cons (pv 0) (pa_cons (pe_lst (pa_cons (pe_tup (pa_cons pe_int (pa_cons pe_str pa_nil))) pa_nil)) pa_nil))))
    have hf2 := D.cut hC hd.1
    have hg2 := D.cut hC hd.2
    refine (eas3 (ed_var (i := 1) rfl hg2) (ed_var (i := 0) rfl hf2) (EL.ed (el_lst' (ds := ask9.map encQ) (eas1 (d := encQ (9, "a")) (ed_tup (ds := [.int 9, .str "a"]) (eas2 (ed_ci 9) (ed_cs _)) (by show 2 ≤ 100000; decide))) (by show 1 ≤ 100000; decide)))) _ (Ex.refl _) _ fun vs H1 e1 hvs => ?_
    obtain ⟨x0, x1, x2, rfl, h0, h1, h2⟩ := hvs.args3
    exact ⟨x0, x1, x2, rfl, .inr ⟨fGood, f, h0, good_ok, h1, fz, ⟨n, hbad, fun d H2 e2 hd2 => hE (some d) H2 (e1.trans e2) ⟨d, rfl, hd2⟩⟩⟩⟩
  replace p1 := p1.ste (Ste.extN e15)
  replace p2 := p2.ste (Ste.extN e15)
  replace p3 := p3.ste (Ste.extN e15)
  replace p4 := p4.ste (Ste.extN e15)
  replace p5 := p5.ste (Ste.extN e15)
  replace p6 := p6.ste (Ste.extN e15)
  replace p7 := p7.ste (Ste.extN e15)
  replace p8 := p8.ste (Ste.extN e15)
  replace p9 := p9.ste (Ste.extN e15)
  replace p10 := p10.ste (Ste.extN e15)
  replace p11 := p11.ste (Ste.extN e15)
  replace p12 := p12.ste (Ste.extN e15)
  replace p13 := p13.ste (Ste.extN e15)
  replace p14 := p14.ste (Ste.extN e15)
  replace hc4 := e15 _ _ hc4 (fun _ z => by cases z)
  refine ⟨T15, fun f16 H16 e16 T16 n16 l16 => ?_⟩
  have eN16 := eN15.trans e16
  have p16 : Pend P w K mg base 24 CF (dNum "number" n) [] (s.heap.objs.size + 1) (defScope s_law_works) ([("_law_f", vf), ("_law_good", vg)] : List (Str × V)) (fun H => D H vf (encF f) ∧ D H vg (encF fGood)) f16 H16 := fun HH st inj hC hd => by
    have lx := l16.ste st
    refine rf_at (l := []) (fun H => D H vf (encF f) ∧ D H vg (encF fGood)) (S := defScope s_law_works) (vals := ([("_law_f", vf), ("_law_good", vg)] : List (Str × V))) (tb := fun E => tCallS (spWr CF) (WE (fun cls d _ H => E cls d H)) (tCons (tVar 0) tNil)) ?_ nd inj ?_ lx hC hd hds dNum_ok.2 ?_ (fun HG E Q hC hd hE => ?_)
    · show lamOk _ _ (["_law_f", "_law_good"] : List Str) = true
      decide +kernel
    · exact ⟨(fun z => nomatch z), fun _ => ⟨"_law_a", by decide +kernel, fun s q cl t doc pm cv ctv u o n ho hn => BindsTo.of_defaults rfl ho hn rfl rfl⟩⟩
    · intro A outer s H E c' hr2
      exact pe_clW (W := fun cls d _ H => E cls d H) c_written (hr2.mono (by decide)) (takes_of rfl rfl rfl rfl) (by exact (pa_cons (pv 0) pa_nil))
    have hf2 := D.cut hC hd.1
    have hg2 := D.cut hC hd.2
    refine (eas1 (ed_var (i := 0) rfl hf2)) _ (Ex.refl _) _ fun vs H1 e1 hvs => ?_
    obtain ⟨x0, rfl, h0⟩ := hvs.args1
    exact ⟨x0, rfl, f, h0, fz, ⟨n, hbad, fun d H2 e2 hd2 => hE (some d) H2 (e1.trans e2) ⟨d, rfl, hd2⟩⟩⟩
  replace p15 := p15.ste (Ste.extN e16)
  replace p1 := p1.ste (Ste.extN e16)
  replace p2 := p2.ste (Ste.extN e16)
  replace p3 := p3.ste (Ste.extN e16)
  replace p4 := p4.ste (Ste.extN e16)
  replace p5 := p5.ste (Ste.extN e16)
  replace p6 := p6.ste (Ste.extN e16)
  replace p7 := p7.ste (Ste.extN e16)
  replace p8 := p8.ste (Ste.extN e16)
  replace p9 := p9.ste (Ste.extN e16)
  replace p10 := p10.ste (Ste.extN e16)
  replace p11 := p11.ste (Ste.extN e16)
  replace p12 := p12.ste (Ste.extN e16)
  replace p13 := p13.ste (Ste.extN e16)
  replace p14 := p14.ste (Ste.extN e16)
  replace hc4 := e16 _ _ hc4 (fun _ z => by cases z)
  refine ⟨by show 2 ≤ sizeLine; decide, fun pl5 m5 => ?_⟩
  have x5 : Ex H16 (upd H16 pl5 (.lst [.ref f15, .ref f16])) := Ex.new m5
  have eL5 := eN16.trans (ExtN.of x5)
  have TL5 := T16.ext x5
  replace p1 := p1.ste (Ste.ex x5)
  replace p2 := p2.ste (Ste.ex x5)
  replace p3 := p3.ste (Ste.ex x5)
  replace p4 := p4.ste (Ste.ex x5)
  replace p5 := p5.ste (Ste.ex x5)
  replace p6 := p6.ste (Ste.ex x5)
  replace p7 := p7.ste (Ste.ex x5)
  replace p8 := p8.ste (Ste.ex x5)
  replace p9 := p9.ste (Ste.ex x5)
  replace p10 := p10.ste (Ste.ex x5)
  replace p11 := p11.ste (Ste.ex x5)
  replace p12 := p12.ste (Ste.ex x5)
  replace p13 := p13.ste (Ste.ex x5)
  replace p14 := p14.ste (Ste.ex x5)
  replace p15 := p15.ste (Ste.ex x5)
  replace p16 := p16.ste (Ste.ex x5)
  replace hc4 := x5 _ _ hc4
  have hl5 : (upd H16 pl5 (.lst [.ref f15, .ref f16])) pl5 = some (.lst [.ref f15, .ref f16]) := upd_same
  generalize upd H16 pl5 (.lst [.ref f15, .ref f16]) = HL5 at *
  refine ⟨pc4, pl5, [.ref f1, .ref f2, .ref f3, .ref f4, .ref f5, .ref f6, .ref f7, .ref f8, .ref f9, .ref f10, .ref f11, .ref f12, .ref f13, .ref f14], [.ref f15, .ref f16], rfl, rfl, hc4, hl5, by show 16 ≤ 16777216; decide, fun pc5 mc5 => ?_⟩
  have y5 : Ex HL5 (upd HL5 pc5 (.lst ([.ref f1, .ref f2, .ref f3, .ref f4, .ref f5, .ref f6, .ref f7, .ref f8, .ref f9, .ref f10, .ref f11, .ref f12, .ref f13, .ref f14] ++ [.ref f15, .ref f16]))) := Ex.new mc5
  have eC5 := eL5.trans (ExtN.of y5)
  have TC5 := TL5.ext y5
  replace p1 := p1.ste (Ste.ex y5)
  replace p2 := p2.ste (Ste.ex y5)
  replace p3 := p3.ste (Ste.ex y5)
  replace p4 := p4.ste (Ste.ex y5)
  replace p5 := p5.ste (Ste.ex y5)
  replace p6 := p6.ste (Ste.ex y5)
  replace p7 := p7.ste (Ste.ex y5)
  replace p8 := p8.ste (Ste.ex y5)
  replace p9 := p9.ste (Ste.ex y5)
  replace p10 := p10.ste (Ste.ex y5)
  replace p11 := p11.ste (Ste.ex y5)
  replace p12 := p12.ste (Ste.ex y5)
  replace p13 := p13.ste (Ste.ex y5)
  replace p14 := p14.ste (Ste.ex y5)
  replace p15 := p15.ste (Ste.ex y5)
  replace p16 := p16.ste (Ste.ex y5)
  have hc5 : (upd HL5 pc5 (.lst ([.ref f1, .ref f2, .ref f3, .ref f4, .ref f5, .ref f6, .ref f7, .ref f8, .ref f9, .ref f10, .ref f11, .ref f12, .ref f13, .ref f14] ++ [.ref f15, .ref f16]))) pc5 = some (.lst [.ref f1, .ref f2, .ref f3, .ref f4, .ref f5, .ref f6, .ref f7, .ref f8, .ref f9, .ref f10, .ref f11, .ref f12, .ref f13, .ref f14, .ref f15, .ref f16]) := upd_same
  generalize upd HL5 pc5 (.lst ([.ref f1, .ref f2, .ref f3, .ref f4, .ref f5, .ref f6, .ref f7, .ref f8, .ref f9, .ref f10, .ref f11, .ref f12, .ref f13, .ref f14] ++ [.ref f15, .ref f16])) = HC5 at *
  try dsimp only
  refine ⟨([("_law_f", vf), ("_law_good", vg)] : List (Str × V)), fun y hy => ?_, fun nn inj => ?_⟩
  · simp only [List.mem_cons, List.not_mem_nil, or_false] at hy
    rcases hy with rfl | rfl
    · exact ⟨0, rfl, rfl, (show List.lookup ("_law_f" : Str) (defScope s_law_works).names = some NameKind.cell by decide +kernel)⟩
    · exact ⟨2, rfl, rfl, (show List.lookup ("_law_good" : Str) (defScope s_law_works).names = some NameKind.cell by decide +kernel)⟩
  · have px := put_ex nn
    have dL : (fun H => D H vf (encF f) ∧ D H vg (encF fGood)) HC5 := ⟨hf.keep (tuN' eC5) (flat_F f), hg.keep (tuN' eC5) (flat_F fGood)⟩
    refine q pc5 [f1, f2, f3, f4, f5, f6, f7, f8, f9, f10, f11, f12, f13, f14, f15, f16] _ ((ExtN.of eA).trans (eC5.trans (ExtN.of px))) (TC5.ext px) (px _ _ hc5) fun g hg => ?_
    have dP := hds _ _ dL (Sto.ex px)
    have cP := cells_put nd inj (H := HC5)
    simp only [List.mem_cons, List.not_mem_nil, or_false] at hg
    rcases hg with rfl | rfl | rfl | rfl | rfl | rfl | rfl | rfl | rfl | rfl | rfl | rfl | rfl | rfl | rfl | rfl
    · exact p1 _ (Ste.ex px) inj cP dP
    · exact p2 _ (Ste.ex px) inj cP dP
    · exact p3 _ (Ste.ex px) inj cP dP
    · exact p4 _ (Ste.ex px) inj cP dP
    · exact p5 _ (Ste.ex px) inj cP dP
    · exact p6 _ (Ste.ex px) inj cP dP
    · exact p7 _ (Ste.ex px) inj cP dP
    · exact p8 _ (Ste.ex px) inj cP dP
    · exact p9 _ (Ste.ex px) inj cP dP
    · exact p10 _ (Ste.ex px) inj cP dP
    · exact p11 _ (Ste.ex px) inj cP dP
    · exact p12 _ (Ste.ex px) inj cP dP
    · exact p13 _ (Ste.ex px) inj cP dP
    · exact p14 _ (Ste.ex px) inj cP dP
    · exact p15 _ (Ste.ex px) inj cP dP
    · exact p16 _ (Ste.ex px) inj cP dP
end
end KS
end
noncomputable section
namespace KS
open PySem PySem.Spec PyProof.Rows L2 Evl LamX
/-! ### _law_number(lambda: ..) -/
def TTn (CB : Addr) : (XK → Hp → VK → Prop) → Hp → VK → Prop := fun tl H Q =>
  tl (fun cls d H' => cls = .ref CB ∧ ∃ (n : Nat) (dx : Addr), d = some dx ∧ H' dx = some (.xd [("number", .int ((n : Nat) : Int))]) ∧ ∀ H'', Ex H' H'' → Q (.int ((n : Nat) : Int)) H'') H fun _ H' => Q .non H'
abbrev numCxG (X : Cx) (g : Addr) (cdg : Value) (s : Shared) (H : Hp) : Cx := (cxOf C8.CX0 X.prog X.w X.K X.mg X.base N_num "_law_number" (defScope s_law_number) g cdg X.A X.stack s H C8.E0).nox
theorem num_gives {X : Cx} {g CB : Addr} {cdg : Value} {q : Str} (gm : X.mg "BadFamily" = some (.ref CB)) (xB : XfC X.K CB) (nB : PySem.W.findIn X.K (.ref CB) "number" = some none) (ex : PySem.W.exmOne X.K (.ref CB) (.ref CB) = some true) : GivesTo X N_num "_law_number" (defScope s_law_number) g cdg (defBody s_law_number) "_law_work" q (TTn CB) := by
  intro f c' s H Q tl act hc h
  refine' ⟨_, pss_cons (ps_try_fst (X := numCxG X g cdg s H) (c := .ref CB) (i := 1)
      (tb := fun W D σ H => ∃ Ech : XK, (∀ cls d σ' H', σ'.length = 2 → Ech cls d H' → W cls d σ' H') ∧ σ[0]? = some (some (.ref f)) ∧ H c' = some (CodeO c' q) ∧ tl Ech H fun _ H2 => D.nx σ H2)
      rfl rfl sc_num.nd rfl rfl ⟨rfl, by decide, .inl gm⟩ (fun W pn xe tk _ => ?body) (fun a oe cls d pn hz hf => ?suite)) (pss_one (ps_ret pe_non)), ?_⟩
  case suite =>
    have S : PSs ((numCxG X g cdg s H).suite a ((a, oe) :: pn)) suiteN _ := pss_one (ps_ret (pe_xf (X := numCxG X g cdg s H) xB nB hz hf (pv 1)))
    dsimp only [Cx.suite, numCxG, Cx.nox, Cx.wish, cxOf] at S
    exact S
  case body =>
    refine ⟨fun pins s' σ H' D I h' => ?_⟩
    obtain ⟨Ech, hW, h1, h2, h3⟩ := h'
    refine (pss_one (ps_expr (act (fun cls d σ H => σ.length = ((numCxG X g cdg s H').tr pn xe).N.length → W cls d σ H) pn xe Ech ?_ ?_ (KS.Takes.len tk) (fun cls d σ' H' he hl => hW cls d σ' H' hl he)))).run pins s' σ H' D I ⟨h1, h2, h3⟩
  · refine ⟨fun cls d H' => cls = .ref CB ∧ ∃ (n : Nat) (dx : Addr), d = some dx ∧ H' dx = some (.xd [("number", .int ((n : Nat) : Int))]) ∧ ∀ H'', Ex H' H'' → Q (.int ((n : Nat) : Int)) H'', ?_, rfl, hc, h⟩
    intro cls d σ' H' hl ⟨ec, n, dx, ed, hx, hq⟩
    subst ec ed
    obtain ⟨s0, s1, rfl⟩ : ∃ s0 s1, σ' = [s0, s1] := by
      match σ', hl with
      | [a, b], _ => exact ⟨a, b, rfl⟩
    refine ⟨ex, fun a na => ?_⟩
    refine sd_ret (ed_xfJ (i := 1) rfl hx) fun v H2 e2 hv => ?_
    have ev := hv.toInt
    subst ev
    exact hq H2 e2
theorem pe_num {X : Cx} {T : List (Addr × Str)} {c P CB : Addr} {k : Nat} {params : Arguments} {body : Expr} {scope : Scope} {t : XK → TE} {p lpos pos : Pos} (d : Df X.K X.mg "_law_number" s_law_number ["_law_work"]) (gm : X.mg "BadFamily" = some (.ref CB)) (xB : XfC X.K CB) (nB : PySem.W.findIn X.K (.ref CB) "number" = some none) (ex : PySem.W.exmOne X.K (.ref CB) (.ref CB) = some true)
    (TB : TabB X.base X.mg c P) (hcode : X.env.code = .ref c) (hmT : (P, X.env.qual ++ "<lambda>") ∈ T) (hu : ∀ p ∈ T, p.1 = P → p.2 = X.env.qual ++ "<lambda>") (hr : Room (k + 2) X.A) (L : LamS X.env.scope scope) (hdef : defaultsOf params X.env = ([], []))
    (hbind : ∀ (q : Str) (cl : List (Str × Addr)) (pm cv ctv : Value), bindArgs (PySem.W.kla_fn "<lambda>" q params body scope cl pm cv ctv) ⟨[], []⟩ = pure [])
    (hbody : ∀ (A : Around) (outer : List Env) (s : Shared) (H : Hp) (E : XK) (f c' : Addr), Room k (A.deeper (lamEnv X scope s.heap.objs.size f c')) → PE (lamCx X A outer s H E scope f c') body (t E)) (hg : Gl X "_law_number") :
    PE X (.Call (.Name "_law_number" p) [.Lambda params body scope lpos] [] pos) (tLam T (TTn CB) t) := by
  obtain ⟨g, fd, F, hm, hb⟩ := d.ex
  obtain ⟨oc, od, kV, doc, pm, an, cdv, ct, osl, rfl, lk, hcd⟩ := F.ex
  exact pe_lamcall (Ng := N_num) (a := "_law_work") hg hm F.kp lk hcd hb sc_num rfl (.inl rfl) (num_gives gm xB nB ex) TB hcode hmT hu hr L hdef hbind hbody
/-- alike(.., due), the first told by what is read raw -/
theorem num_i {σ : L2.St} {H : Hp} {Dn : Ends} {tl : TE} {sp : Sp} {E : XK} {ta : TA} {A B : TS} (h : tl σ H fun v H1 => tIfS (tNot (tB (tCall sp [] E (tCons (tC v) ta)))) A B Dn σ H1) : tIfS (tNot (tB (tCall sp [] E (tCons tl ta)))) A B Dn σ H := h
section
variable {P : Program} {w : World} {K : PySem.W.Frag} {mg : Str → Option Value} {base : Heap} {σ : L2.St} {H H' : Hp}
theorem ed_rfKind {i j kL : Nat} {f CE CS : Addr} {c8 : Cls8} {dOk : Option Addr → Hp → Prop} {l : List Addr} {wd : Str} {E : XK} (hi : σ[i]? = some (some (.ref f))) (r : RfAt P w K mg base kL CE dOk l f H) (kw : KOk K CS c8 CE j wd) (hd : ∀ d H, dOk d H → DictOk d H) :
    ED (tCall (spRfKind P w K mg base CS c8 kL) [] E (tCons (tVar i) tNil)) σ H (.str wd) := fun H1 e Q q =>
  ⟨.ref f, hi, f, CE, j, wd, dOk, l, rfl, r.sto (Sto.ex e), kw.1, kw.2, hd, fun H2 e2 => q _ H2 e2 (.str _)⟩
theorem ed_rfNum {i n kL : Nat} {f CB : Addr} {l : List Addr} {E : XK} (hi : σ[i]? = some (some (.ref f))) (r : RfAt P w K mg base kL CB (dNum "number" n) l f H) :
    ED (tCall (spRfNum P w K mg base CB kL) [] E (tCons (tVar i) tNil)) σ H (.int ((n : Nat) : Int)) := fun H1 e Q q =>
  ⟨.ref f, hi, f, n, l, rfl, r.sto (Sto.ex e), fun H2 e2 => q _ H2 e2 (.int _)⟩
end
theorem uni_T {a : Addr} {q : Str} : ∀ {T : List (Addr × Str)}, (T.map (·.1)).Nodup → (a, q) ∈ T → ∀ p ∈ T, p.1 = a → p.2 = q
  | [], _, h, _, _, _ => by cases h
  | x :: T, nd, h, p, hp, e => by
    rw [List.map_cons, List.nodup_cons] at nd
    rcases List.mem_cons.mp h with k | k <;> rcases List.mem_cons.mp hp with g | g
    · rw [g, ← k]
    · exact absurd (List.mem_map.mpr ⟨p, g, by rw [e, ← k]⟩) nd.1
    · exact absurd (List.mem_map.mpr ⟨_, k, by rw [← g, e]⟩) nd.1
    · exact uni_T nd.2 k p g e
end KS
end
noncomputable section
namespace KS
open PySem PySem.Spec PyProof.Rows L2 Evl LamX
open PySem.Froz (sing)
abbrev qLaw : Str := (envOfC "law" (defScope s_law) 0 0 .none).qual ++ "<lambda>"
theorem law_of {P : Program} {w : World} {K : PySem.W.Frag} {mg : Str → Option Value} {base : Heap} {k : Nat} {fl c : Addr} {oc : Value} {od an : Option Addr} {osl : Array (Option Value)} {kV doc pm ct : Value} {N ps : List Str} {sp : Sp}
    (lk : K.lookup fl = some ⟨oc, od, .func (PySem.W.fnOf "law" "law" (defArgs s_law) (defBody s_law) (defScope s_law) .none kV doc pm an (.ref c) ct), osl⟩) (hcd : PySem.W.codeIn K (.ref c) "law" = true) (S : FnScope N ps (defScope s_law)) (len : ∀ vs H Q E, sp vs H Q E → vs.length = ps.length)
    (hbody : ∀ (A : Around) (outer : List Env) (s : Shared) (H : Hp) (vs : List V) (Q : VK) (E : XK), Room k (A.deeper (envOfC "law" (defScope s_law) s.heap.objs.size fl (.ref c))) → sp vs H Q E →
      ∃ t, PSs (cxOf CX0 P w K mg base N "law" (defScope s_law) fl (.ref c) A outer s H E).nox (defBody s_law) t ∧ t { nx := fun _ H' => Q .non H', rt := Q } (start N vs) H) :
    FnOk P w K mg base CX0 (k + 1) fl (PySem.W.fnOf "law" "law" (defArgs s_law) (defBody s_law) (defScope s_law) .none kV doc pm an (.ref c) ct) ps sp := by
  refine fn_of lk hcd S len fun A outer s H vs Q E hr hsp => ?_
  obtain ⟨t, h, q⟩ := hbody A outer s H vs Q E hr hsp
  exact ⟨t, h.nox, q⟩
/-- what stays -/
structure In1 (T : List (Addr × Str)) (h b : Addr) (f : Fam) (vf : L2.V) (H : Hp) : Prop where
  hs : HS h b H
  tb : Tabs T H
  df : D H vf (encF f)
section
variable {T : List (Addr × Str)} {h b : Addr} {f : Fam} {vf : L2.V} {H H' : Hp}
theorem In1.step (I : In1 T h b f vf H) (x : OffN h b H H') (hs : HS h b H') (tb : Tabs T H') : In1 T h b f vf H' := ⟨hs, tb, I.df.keep (I.hs.tuN x) (flat_F f)⟩
theorem In1.ex (I : In1 T h b f vf H) (e : Ex H H') : In1 T h b f vf H' := I.step (OffN.ofEx e) (I.hs.ex e) (Tabs.ex I.tb e)
theorem In1.lam (I : In1 T h b f vf H) (x : ExtN H H') (tb : Tabs T H') : In1 T h b f vf H' := I.step (OffN.ofN x) (I.hs.extN x) tb
end
theorem g_i {i : Nat} {v : L2.V} {σ : L2.St} {H : Hp} {R : L2.St → Hp → Prop} (h : R (σ.set i (some v)) H) : gName i v σ H R := h
/-- a family, told rightly or not -/
def FP (d : PyData) : Prop := ∃ g : Fam, d = encF g ∧ g.length ≤ 100 ∧ Wild 1000 g
theorem wild_valid {f : Fam} (V : Valid f) : Wild 6 f := ⟨fun k hk => by
    obtain ⟨j, hj⟩ := List.getElem?_of_mem hk
    have := (V.kinds j k hj).few
    omega, fun k hk => by
    obtain ⟨j, hj⟩ := List.getElem?_of_mem hk
    have r := (V.kinds j k hj).rise
    exact ⟨rise_len6 r, fun c hc => List.mem_append_left _ (rise_abc r hc)⟩⟩
section
variable {K : PySem.W.Frag} {a b : Addr} {te ta tb : TE} {σ : L2.St} {H : Hp}
theorem oe_famOf {n m i : Nat} {E : XK} (hi : σ[i]? = some (some (.ref a))) (hn : n ≤ 100) (hm : m ≤ 1000) : OE a b (tCall (spFam n m) [] E (tCons (tVar i) tNil)) σ H FP := fun H1 o hs Q q =>
  ⟨.ref a, hi, a, b, rfl, hs, fun g v H2 o2 hs2 gl W hv => q v (encF g) H2 o2 hs2 ⟨g, rfl, by omega, W.mono hm⟩ (flat_F g) hv⟩
theorem ed_repT {ds : List PyData} {k : Int} (ha : ED ta σ H (.tuple ds)) (hb : ED tb σ H (.int k)) (ne : ds ≠ []) (k2 : 2 ≤ k) (k3 : k ≤ 1000) (l : ds.length ≤ 1000) : ED (tOp (rRepT K) ta tb) σ H (.tuple (List.replicate k.toNat ds).flatten) := ed_bin' ha hb fun x y H1 _ hx hy Q q => by
  obtain ⟨a, xs, rfl, h1, h2⟩ := hx.toTup
  have ey := hy.toInt
  subst ey
  have rep : ∀ (H2 : Hp) (n : Nat), DA H2 xs ds → DA H2 (List.replicate n xs).flatten (List.replicate n ds).flatten := fun H2 n hh => by
    induction n with
    | zero => exact .nil
    | succ n ih => rw [List.replicate_succ, List.replicate_succ, List.flatten_cons, List.flatten_cons]; exact hh.append ih
  refine ⟨a, k, xs, rfl, rfl, SqT.of h1, fun z => ne ?_, k2, k3, by rw [h2.len]; exact l, fun p np => q _ _ (Ex.new np) (.tup upd_same (rep _ _ (h2.mono (Ex.new np))))⟩
  have := h2.len
  rw [z] at this
  exact List.eq_nil_of_length_eq_zero this.symm
end
abbrev N_law : List Str := ["_law_script", "_law_h", "_law_turn", "_law_k", "_law_due", "_law_work", "_law_f"]
theorem sc_law : FnScope N_law ["_law_script"] (defScope s_law) := ⟨rfl, rfl, rfl, by decide +kernel, rfl, by decide +kernel, by decide +kernel⟩
abbrev S7 (sa h : Addr) (y2 y3 y4 y5 y6 : Option L2.V) : L2.St := [some (.ref sa), some (.ref h), y2, y3, y4, y5, y6]
section
variable {P : Program} {w : World} {K : PySem.W.Frag} {mg : Str → Option Value} {base : Heap}
def spLaw (K : PySem.W.Frag) (T : List (Addr × Str)) : Sp := fun vs H Q _ => ∃ (a : Addr) (ns : List Int), vs = [.ref a] ∧ SqL K H a (ns.map V.int) ∧ ns.length ≤ 63 ∧ (∀ p ∈ T, H p.1 = some (.tbl #[])) ∧ ∀ H', Q (.bl true) H'
set_option maxHeartbeats 16000000 in
theorem ok_law {fl c Pt CS CF : Addr} {T : List (Addr × Str)} {oc : Value} {od an : Option Addr} {osl : Array (Option Value)} {kV doc pm ct : Value} {c8 : Cls8} (lk : K.lookup fl = some ⟨oc, od, .func (PySem.W.fnOf "law" "law" (defArgs s_law) (defBody s_law) (defScope s_law) .none kV doc pm an (.ref c) ct), osl⟩) (hcd : PySem.W.codeIn K (.ref c) "law" = true)
    (hT : (Pt, qLaw) ∈ T) (hTu : ∀ p ∈ T, p.1 = Pt → p.2 = qLaw) (TB : TabB base mg c Pt) (B : Bt mg) (knF : KOk K CS c8 CF 0 "BadFamily") (dN : Df K mg "_law_number" s_law_number ["_law_work"]) (gm : mg "BadFamily" = some (.ref CF)) (xB : XfC K CF) (nB : PySem.W.findIn K (.ref CF) "number" = some none) (exF : PySem.W.exmOne K (.ref CF) (.ref CF) = some true)
    (cX : Cl P w K mg base "_law_mix" ["_law_script", "_law_seed"] 1 (spMix K)) (cFa : Cl P w K mg base "_law_family" ["_law_h", "_law_most"] 19 spFamily) (cN : Cl P w K mg base "_law_next" ["_law_h", "_law_many"] 1 spNext) (cNF : Cl P w K mg base "need_family" ["family"] 21 (spD R_need_family)) (cNX : ClX P w K mg base "need_family" ["family"] 21 (spNfX CF))
    (cTu : Cl P w K mg base "_law_turned" ["_law_h", "_law_f"] 2 spTu) (cTo : Cl P w K mg base "_law_torn" ["_law_h"] 2 (spFam 4 6)) (cDe : Cl P w K mg base "_law_deep" ["_law_h"] 2 (spFam 7 6)) (cBd : Cl P w K mg base "_law_bad" ["_law_f"] 19 (spD R_lbd)) (cA : Cl P w K mg base "_law_alike" ["_law_found", "_law_due"] 11 (spD (R_alike 10)))
    (cKi : Cl P w K mg base "_law_kind" ["_law_work"] 26 (spRfKind P w K mg base CS c8 24)) (cNu : Cl P w K mg base "_law_number" ["_law_work"] 26 (spRfNum P w K mg base CF 24)) (cMW : Cl P w K mg base "_law_works" ["_law_f"] 1 (spMkW (P := P) (w := w) (K := K) (mg := mg) (base := base) (CF := CF) T)) :
    FnOk P w K mg base CX0 28 fl (PySem.W.fnOf "law" "law" (defArgs s_law) (defBody s_law) (defScope s_law) .none kV doc pm an (.ref c) ct) ["_law_script"] (spLaw K T) := by
  refine law_of lk hcd sc_law (fun vs H Q E h => by obtain ⟨_, _, rfl, _⟩ := h; rfl) (fun A outer s H vs Q E hr h => ?_)
  obtain ⟨sa, ns, rfl, hS, h63, hPt, q⟩ := h
  have h1 : Room 1 _ := hr.mono (by decide)
  have h2r : Room 2 _ := hr.mono (by decide)
  have h11 : Room 11 _ := hr.mono (by decide)
  have h19 : Room 19 _ := hr.mono (by decide)
  have h21 : Room 21 _ := hr.mono (by decide)
  have h23 : Room 23 _ := hr.mono (by decide)
  have h26 : Room 26 _ := hr.mono (by decide)
  have hu := hu64 hr
  refine ⟨_, pss_cons (ps_set (i := 1) sc_law.nd rfl (.inl rfl) (pe_cl cX h1 (pa_cons (pv 0) (pa_cons pe_int pa_nil))))
 (pss_cons (ps_for PassesOwn.never rfl (pi_range1 rfl B.range (pa_cons pe_int pa_nil)) (pg_name (i := 2) sc_law.nd rfl (.inl rfl))
 (pss_cons (ps_set (i := 6) sc_law.nd rfl (.inr rfl) (pe_cl cFa h19 (pa_cons (pv 1) (pa_cons pe_int pa_nil))))
 (pss_cons (ps_if (pt_cmpR op_notN1 (pe_cl cNF h21 (pa_cons (pv 6) pa_nil)) pe_non (nomark _)) (pss_one (ps_ret pe_bl)) pss_nil)
 (pss_cut (ps_for PassesOwn.never rfl (pi_range1 rfl B.range (pa_cons (pe_op op_add pe_int (pe_cl cN h1 (pa_cons (pv 1) (pa_cons pe_int pa_nil)))) pa_nil)) (pg_name (i := 3) sc_law.nd rfl (.inl rfl))
 (pss_one (ps_set (i := 6) sc_law.nd rfl (.inr rfl) (pe_cl cTu h2r (pa_cons (pv 1) (pa_cons (pv 6) pa_nil))))))
 (pss_cons (ps_set (i := 6) sc_law.nd rfl (.inr rfl) (pe_ix (r := rIxL K) ix_list (pe_lst (pa_cons (pv 6) (pa_cons (pv 6) (pa_cons (pv 6) (pa_cons (pv 6) (pa_cons (pe_cl cTo h2r (pa_cons (pv 1) pa_nil)) (pa_cons (pe_slice sl_tupA (pe_op op_repT (pv 6) pe_int) po_none (po_some pe_int)) (pa_cons (pe_tup pa_nil) (pa_cons (pe_cl cDe h2r (pa_cons (pv 1) pa_nil)) pa_nil))))))))) (pe_cl cN h1 (pa_cons (pv 1) (pa_cons pe_int pa_nil))) (fun _ _ => rfl)))
 (pss_cons (ps_set (i := 4) sc_law.nd rfl (.inl rfl) (pe_cl cBd h19 (pa_cons (pv 6) pa_nil)))
 (pss_cons (ps_if (pt_not (pt_val (pe_cl cA h11 (pa_cons (pe_num (T := T) (k := 21) (t := fun E => tCallS (spNfX CF) (WE (fun cls d _ H => E cls d H)) (tCons (tVar 6) tNil)) dN gm xB nB exF TB rfl hT hTu h23 (lamS_by (sc := defScope s_law) (by decide +kernel)) (by rfl) (fun _ _ _ _ _ => by rfl)
            (fun A outer s H E f c' hr2 => by exact pe_clW (W := fun cls d _ H => E cls d H) cNX hr2 (takes_of rfl rfl rfl rfl) (by exact (pa_cons (pv 6) pa_nil))) (by rfl)) (pa_cons (pv 4) pa_nil))))) (pss_one (ps_ret pe_bl)) pss_nil)
 (pss_one (ps_if (pt_cmpR op_notN1 (pv 4) pe_non (nomark _)) (pss_one (ps_for PassesOwn.never rfl (pi_list (pe_cl cMW h1 (pa_cons (pv 6) pa_nil))) (pg_name (i := 5) sc_law.nd rfl (.inl rfl))
 (pss_one (ps_if (PW.pt (pw_or (pt_cmpR op_ne (pe_cl cKi h26 (pa_cons (pv 5) pa_nil)) pe_str (nomark _)) (pw_or1 (pt_not (pt_val (pe_cl cA h11 (pa_cons (pe_cl cNu h26 (pa_cons (pv 5) pa_nil)) (pa_cons (pv 4) pa_nil)))))))) (pss_one (ps_ret pe_bl)) pss_nil)))) pss_nil)))))))))
 (pss_one (ps_ret pe_bl))), ?_⟩
  refine ⟨.ref sa, rfl, sa, ns, 3, rfl, hS, h63, by decide, by decide, fun h b H1 n1 nb e1 hs1 => ?_⟩
  have tb1 : Tabs T H1 := fun p hp => TabS.nil (e1 _ _ (hPt p hp))
  refine ⟨5, rfl, by decide, by decide, for_range (lo := 0) (n := 5) (fun i σ H' => (∃ y2 y3 y4 y5 y6, σ = S7 sa h y2 y3 y4 y5 y6) ∧ HS h b H' ∧ Tabs T H') ⟨⟨_, _, _, _, _, rfl⟩, hs1, tb1⟩ (fun i σ H2 hi ⟨⟨y2, y3, y4, y5, y6, es⟩, hs2, tb2⟩ => ?_) (fun σ H2 _ => q H2)⟩
  subst es
  -- the family
  refine ⟨.ref h, rfl, h, b, 7, rfl, hs2, by decide, by decide, fun f vf H3 off3 hs3 FO f1 f7 hf => ?_⟩
  have V : Valid f := ⟨f1, by omega, FO⟩
  have I3 : In1 T h b f vf H3 := ⟨hs3, Tabs.off hs2 off3 tb2, hf⟩
  try dsimp only
  refine g_i ?_
  try dsimp only
  refine sd_if (σ := S7 sa h (some (.int (0 + (i : Int)))) y3 y4 y5 (some vf)) (b := false) (et_D (ed_notN (d := .none) (b := false) (ed_call (eas1 (ed_var (i := 6) rfl I3.df)) ⟨f, rfl, V, rfl⟩) rfl)) (fun z => nomatch z) fun _ H4 e4 => ?_
  have I4 := I3.ex e4
  refine st_next ?_
  try dsimp only
  -- told otherwise
  refine ⟨fun σ H' => ∃ (g : Fam) (vg : L2.V) (z3 : Option L2.V), σ = S7 sa h (some (.int (0 + (i : Int)))) z3 y4 y5 (some vg) ∧ In1 T h b g vg H' ∧ 1 ≤ g.length ∧ g.length ≤ 7 ∧ Wild 200 g, ?_, ?_⟩
  · refine (oe_op (a := h) (b := b) (σ := S7 sa h (some (.int (0 + (i : Int)))) y3 y4 y5 (some vf)) (r := rI0 fun i j => .int (i + j)) (p' := fun d => ∃ r : Int, d = .int r ∧ 1 ≤ r ∧ r < 3) (oe_ci 1) (oe_next (n := 2) rfl (oe_ci 2) (by decide) (by decide)) fun d e x y H1 hd ⟨r, he, r0, r1⟩ hs hx hy Q q => ?_) H4 (Off.refl _ _ _) I4.hs _ fun v5 d5 H5 o5 hs5 ⟨many, ed, m0, m1⟩ _ hv5 => ?_
    · subst hd he
      exact ⟨1, r, hx.toInt, hy.toInt, q _ (.int (1 + r)) H1 (Ex.refl _) ⟨_, rfl, by omega, by omega⟩ rfl (.int _)⟩
    subst ed
    have ev := hv5.toInt
    subst ev
    have I5 := I4.step (OffN.ofOff o5) hs5 (Tabs.off I4.hs o5 I4.tb)
    refine ⟨many, rfl, by omega, by omega, for_range (lo := 0) (n := many.toNat) (fun j σ H' => ∃ (g : Fam) (vg : L2.V) (z3 : Option L2.V), σ = S7 sa h (some (.int (0 + (i : Int)))) z3 y4 y5 (some vg) ∧ In1 T h b g vg H' ∧ 1 ≤ g.length ∧ g.length ≤ 7 ∧ Wild (6 * 4 ^ j) g) ⟨f, vf, _, rfl, I5, f1, by omega, wild_valid V⟩ (fun j σ H6 hj ⟨g, vg, z3, es, I6, g1, g7, W⟩ => ?_) (fun σ H6 ⟨g, vg, z3, es, I6, g1, g7, W⟩ => ?_)⟩
    · subst es
      have b6 : 2 ≤ 6 * 4 ^ j ∧ 6 * 4 ^ j ≤ 200 := by
        have : j = 0 ∨ j = 1 := by omega
        rcases this with z | z <;> subst z <;> decide
      try dsimp only
      refine ⟨.ref h, rfl, vg, rfl, h, b, g, vg, 6 * 4 ^ j, rfl, I6.hs, I6.df, g1, g7, W, b6.1, b6.2, fun g' vg' H7 o7 hs7 gl W' hg' => ?_⟩
      try dsimp only
      refine g_i ?_
      exact ⟨g', vg', _, rfl, ⟨hs7, Tabs.off I6.hs o7 I6.tb, hg'⟩, by omega, by omega, W'.mono (by rw [Nat.pow_succ]; omega)⟩
    · refine ⟨g, vg, z3, es, I6, g1, g7, W.mono ?_⟩
      have : many.toNat = 1 ∨ many.toNat = 2 := by omega
      rcases this with z | z <;> rw [z] <;> decide
  rintro σ H5 ⟨g, vg, z3, rfl, I5, g1, g7, W⟩
  try dsimp only
  -- or another one
  have vfam : OE h b (tVar 6) (S7 sa h (some (.int (0 + (i : Int)))) z3 y4 y5 (some vg)) H5 FP := (oe_var I5.hs (i := 6) rfl (flat_F g) I5.df).imp fun d e => ⟨g, e, by omega, W.mono (by decide)⟩
  have gne : g.map encK ≠ [] := fun z => by have := List.map_eq_nil_iff.mp z; rw [this] at g1; exact absurd g1 (by decide)
  refine s_oe (a := h) (b := b) (σ := S7 sa h (some (.int (0 + (i : Int)))) z3 y4 y5 (some vg)) (p := FP) (oe_pickU (n := 8) (oe_lstU (oas_consU vfam (oas_consU vfam (oas_consU vfam (oas_consU vfam (oas_consU (oe_famOf (n := 4) (m := 6) rfl (by decide) (by decide)) (oas_consU ((oe_of (d := .tuple ((List.replicate (8 : Int).toNat (g.map encK)).flatten.take (8 : Int).toNat)) ?_ fun H6 o6 hs6 => ed_slTake (K := K) (k := 8) (ed_repT (ed_var (i := 6) rfl (I5.df.keep (I5.hs.tu o6) (flat_F g))) (ed_ci 8) gne (by decide) (by decide) (by rw [List.length_map]; omega)) (ed_ci 8) (by decide)).imp fun d e => ?_) (oas_consU ((oe_tup oas_nil (by rintro l rfl; decide)).imp fun d e => ?_) (oas_consU (oe_famOf (n := 7) (m := 6) rfl (by decide) (by decide)) oas_nilU)))))))) (by decide)) (oe_next (n := 8) rfl (oe_ci 8) (by decide) (by decide))) I5.hs fun v6 d6 H6 o6 hs6 ⟨u, ed, uz, Wu⟩ _ hv6 => ?_
  · have er : (List.replicate (8 : Int).toNat (g.map encK)).flatten.take (8 : Int).toNat = ((List.replicate (8 : Int).toNat g).flatten.take (8 : Int).toNat).map encK := by
      rw [List.map_take, List.map_flatten, List.map_replicate]
    rw [er]
    exact flat_F _
  · subst e
    have er : (List.replicate (8 : Int).toNat (g.map encK)).flatten.take (8 : Int).toNat = ((List.replicate (8 : Int).toNat g).flatten.take (8 : Int).toNat).map encK := by
      rw [List.map_take, List.map_flatten, List.map_replicate]
    have mm : ∀ k ∈ (List.replicate (8 : Int).toNat g).flatten.take (8 : Int).toNat, k ∈ g := fun k hk => by
      obtain ⟨l, hl, hkl⟩ := List.mem_flatten.mp (List.mem_of_mem_take hk)
      rw [List.eq_of_mem_replicate hl] at hkl
      exact hkl
    refine ⟨(List.replicate (8 : Int).toNat g).flatten.take (8 : Int).toNat, by rw [er]; rfl, ?_, fun k hk => Nat.le_trans (W.el k (mm k hk)) (by decide), fun k hk => ⟨Nat.le_trans (W.de k (mm k hk)).1 (by decide), (W.de k (mm k hk)).2⟩⟩
    rw [List.length_take]
    show min 8 _ ≤ 100
    omega
  · obtain ⟨l, rfl, rfl⟩ := e
    exact ⟨[], rfl, by decide, ⟨fun k h => (nomatch h), fun k h => (nomatch h)⟩⟩
  subst ed
  have I6 : In1 T h b u v6 H6 := ⟨hs6, Tabs.off I5.hs o6 I5.tb, hv6⟩
  try dsimp only
  -- what is due
  refine sd_asg (σ := S7 sa h (some (.int (0 + (i : Int)))) z3 y4 y5 (some v6)) (d := lbadD u) (ed_call (eas1 (ed_var (i := 6) rfl I6.df)) ⟨u, rfl, Wu, by omega, rfl⟩) fun vd H7 e7 hd7 => ?_
  have I7 := I6.ex e7
  try dsimp only
  refine num_i ?_
  refine ⟨I7.tb, fun Hz eN Tz => ?_⟩
  have Iz := I7.lam eN Tz
  try unfold TTn tCallS
  try dsimp only
  refine (eas1 (ed_var (σ := S7 sa h (some (.int (0 + (i : Int)))) z3 (some vd) y5 (some v6)) (i := 6) rfl Iz.df)) Hz (Ex.refl _) _ fun vs Hw ew hvs => ?_
  refine ⟨u, hvs, by omega, ?_⟩
  rcases hb : famBad u with _ | n
  · -- a family
    have ed : lbadD u = .none := by unfold lbadD; rw [hb]
    rw [ed] at hd7
    have evd := hd7.toNone
    subst evd
    refine .inl ⟨rfl, fun H8 e8 => ?_⟩
    have I8 := (Iz.ex ew).ex e8
    try dsimp only
    refine sd_if (σ := S7 sa h (some (.int (0 + (i : Int)))) z3 (some .non) y5 (some v6)) (b := false) (et_not (a := true) (et_DB (ed_call (R := R_alike 10) (eas2 ed_cn (ed_var (i := 4) rfl .non)) ⟨.none, rfl, trivial, rfl⟩))) (fun z => nomatch z) fun _ H9 e9 => ?_
    refine st_next ?_
    try dsimp only
    refine sd_if (σ := S7 sa h (some (.int (0 + (i : Int)))) z3 (some .non) y5 (some v6)) (b := false) (et_D (ed_notN (b := false) (ed_var (i := 4) rfl .non) rfl)) (fun z => nomatch z) fun _ H10 e10 => ?_
    refine st_next ?_
    have I10 := (I8.ex e9).ex e10
    exact ⟨⟨_, _, _, _, _, rfl⟩, I10.hs, I10.tb⟩
  · -- none
    have ed : lbadD u = .int ((n : Nat) : Int) := by unfold lbadD; rw [hb]
    rw [ed] at hd7
    have evd := hd7.toInt
    subst evd
    refine .inr ⟨n, rfl, fun dx H8 e8 hdx => ⟨rfl, n, dx, rfl, hdx, fun H8' e8' => ?_⟩⟩
    have I8 := ((Iz.ex ew).ex e8).ex e8'
    try dsimp only
    refine sd_if (σ := S7 sa h (some (.int (0 + (i : Int)))) z3 (some (.int ((n : Nat) : Int))) y5 (some v6)) (b := false) (et_not (a := true) (et_DB (ed_call (R := R_alike 10) (eas2 (ed_ci _) (ed_var (i := 4) rfl (.int _))) ⟨.int ((n : Nat) : Int), rfl, trivial, rfl⟩))) (fun z => nomatch z) fun _ H9 e9 => ?_
    refine st_next ?_
    have I9 := I8.ex e9
    try dsimp only
    refine sd_if (σ := S7 sa h (some (.int (0 + (i : Int)))) z3 (some (.int ((n : Nat) : Int))) y5 (some v6)) (b := true) (et_D (ed_notN (b := true) (ed_var (i := 4) rfl (.int ((n : Nat) : Int))) rfl)) (fun _ H10 e10 => ?_) (fun z => nomatch z)
    have I10 := I9.ex e10
    try dsimp only
    refine ⟨v6, rfl, u, n, v6, rfl, I10.df, I10.tb, by omega, hb, fun pl fl' H11 e11 tb11 hpl rl => ?_⟩
    have I11 := I10.lam e11 tb11
    refine ⟨pl, rfl, ⟨_, SqL.of hpl⟩, for_list (K := K) (a := pl) (xs := fl'.map L2.V.ref) (fun m σ H' => (∃ z5, σ = S7 sa h (some (.int (0 + (i : Int)))) z3 (some (.int ((n : Nat) : Int))) z5 (some v6)) ∧ Ex H11 H') ⟨⟨_, rfl⟩, Ex.refl _⟩ (fun m σ H' _ ⟨_, e⟩ => SqL.of (e _ _ hpl)) (fun m x σ H12 hm ⟨⟨z5, es⟩, e12⟩ => ?_) (fun σ H12 ⟨⟨z5, es⟩, e12⟩ => ⟨⟨_, _, _, _, _, es⟩, (I11.ex e12).hs, (I11.ex e12).tb⟩)⟩
    subst es
    obtain ⟨t, ht, rfl⟩ := List.mem_map.mp (List.mem_of_getElem? hm)
    have rt := (rl t ht).sto (Sto.ex e12)
    try dsimp only
    refine g_i ?_
    try dsimp only
    refine sd_if (σ := S7 sa h (some (.int (0 + (i : Int)))) z3 (some (.int ((n : Nat) : Int))) (some (.ref t)) (some v6)) (b := false) ?_ (fun z => nomatch z) fun _ H13 e13 => ?_
    · refine et_is (b := false) (et_or (a := false) (b := false) ?_ fun _ => ?_) rfl
      · exact et_D (ed_is (ed_neS (ed_rfKind (i := 5) rfl rt knF (dNum_ok (f := "number") (n := n)).1) (ed_cs _)) (by rw [decide_eq_true rfl]; rfl))
      · exact et_not (a := true) (et_DB (ed_call (R := R_alike 10) (eas2 (ed_rfNum (i := 5) rfl rt) (ed_var (i := 4) rfl (.int _))) ⟨.int ((n : Nat) : Int), rfl, trivial, rfl⟩))
    refine st_next ?_
    exact ⟨⟨_, rfl⟩, e12.trans e13⟩
end
end KS
end
noncomputable section
namespace KS
open PySem PySem.Spec PyProof.Rows L2 Evl LamX
/-- a def as the open heap holds it -/
structure At (K : PySem.W.Frag) (x : Str) (st : Stmt) : Prop where
  ex : ∃ (f : Addr) (od an : Option Addr) (sl : Array (Option Value)) (oc kV dc pm cd ct : Value), PySem.W.nsIn K mainGlobals x = some (some (.ref f)) ∧
    K.lookup f = some ⟨oc, od, .func (PySem.W.fnOf x x (defArgs st) (defBody st) (defScope st) .none kV dc pm an cd ct), sl⟩ ∧ PySem.W.codeIn K cd x = true ∧ PySem.W.keepIn K (.ref f) = true
theorem At.of {K : PySem.W.Frag} {x : Str} {st : Stmt} {f : Addr} {od an : Option Addr} {sl : Array (Option Value)} {oc kV dc pm cd ct : Value} (a : PySem.W.nsIn K mainGlobals x = some (some (.ref f)))
    (l : K.lookup f = some ⟨oc, od, .func (PySem.W.fnOf x x (defArgs st) (defBody st) (defScope st) .none kV dc pm an cd ct), sl⟩) (c : PySem.W.codeIn K cd x = true) (k : PySem.W.keepIn K (.ref f) = true) : At K x st :=
  ⟨⟨f, od, an, sl, oc, kV, dc, pm, cd, ct, a, l, c, k⟩⟩
theorem At.df {K : PySem.W.Frag} {h : Heap} {mg : Str → Option Value} (X : K.In h) (G : h.Ns mainGlobals mg) {x : Str} {st : Stmt} (a : At K x st) (ps : List Str)
    (b : ∀ (f : Addr) (fd : FuncData), Fun K x x st f fd → Binds K fd ps []) : Df K mg x st ps := by
  obtain ⟨f, od, an, sl, oc, kV, dc, pm, cd, ct, a, l, c, k⟩ := a.ex
  have F := fun_mk (st := st) l c k
  exact ⟨f, _, F, PySem.W.mg_of X G a, b _ _ F⟩
structure Ins (K : PySem.W.Frag) : Prop where
  z_isinstance : PySem.W.nsIn K mainGlobals "isinstance" = some none
  z_int : PySem.W.nsIn K mainGlobals "int" = some none
  z_bool : PySem.W.nsIn K mainGlobals "bool" = some none
  z_tuple : PySem.W.nsIn K mainGlobals "tuple" = some none
  z_str : PySem.W.nsIn K mainGlobals "str" = some none
  z_list : PySem.W.nsIn K mainGlobals "list" = some none
  z_len : PySem.W.nsIn K mainGlobals "len" = some none
  z_all : PySem.W.nsIn K mainGlobals "all" = some none
  z_any : PySem.W.nsIn K mainGlobals "any" = some none
  z_set : PySem.W.nsIn K mainGlobals "set" = some none
  z_enumerate : PySem.W.nsIn K mainGlobals "enumerate" = some none
  z_range : PySem.W.nsIn K mainGlobals "range" = some none
  z_sorted : PySem.W.nsIn K mainGlobals "sorted" = some none
  z_max : PySem.W.nsIn K mainGlobals "max" = some none
  z_min : PySem.W.nsIn K mainGlobals "min" = some none
  z_sum : PySem.W.nsIn K mainGlobals "sum" = some none
  z_dict : PySem.W.nsIn K mainGlobals "dict" = some none
theorem Ins.bt {K : PySem.W.Frag} {h : Heap} {mg : Str → Option Value} (X : K.In h) (G : h.Ns mainGlobals mg) (z : Ins K) : Bt mg :=
  ⟨PySem.W.mg_none_of X G z.z_isinstance, PySem.W.mg_none_of X G z.z_int, PySem.W.mg_none_of X G z.z_bool, PySem.W.mg_none_of X G z.z_tuple, PySem.W.mg_none_of X G z.z_str, PySem.W.mg_none_of X G z.z_list, PySem.W.mg_none_of X G z.z_len, PySem.W.mg_none_of X G z.z_all, PySem.W.mg_none_of X G z.z_any, PySem.W.mg_none_of X G z.z_set, PySem.W.mg_none_of X G z.z_enumerate, PySem.W.mg_none_of X G z.z_range, PySem.W.mg_none_of X G z.z_sorted, PySem.W.mg_none_of X G z.z_max, PySem.W.mg_none_of X G z.z_min⟩
theorem all_mk {l : PySem.W.OpenLaw} {w : World} {K : PySem.W.Frag} {h : Heap} {mg : Str → Option Value} {fa fl : Addr} (X : K.In h) (G : h.Ns mainGlobals mg) (hfa : mg "law" = some (.ref fa))
    {od an : Option Addr} {sl : Array (Option Value)} {oc kV dc pm ct : Value} {cW : Addr} {sL : Str} {t1 t2 t3 t4 t5 t6 : Tok}
    (la : PySem.W.nsIn K mainGlobals "law" = some (some (.ref fl))) (ll : K.lookup fl = some ⟨oc, od, .func (PySem.W.fnOf "law" "law" (defArgs s_law) (defBody s_law) (defScope s_law) .none kV dc pm an (.ref cW) ct), sl⟩) (lc : PySem.W.codeIn K (.ref cW) "law" = true) (lk : PySem.W.keepIn K (.ref fl) = true)
    (n1 : PySem.W.nsIn K mainGlobals "MOST_KINDS" = some (some (.int 7 t1))) (n2 : PySem.W.nsIn K mainGlobals "MOST_ELDERS" = some (some (.int 3 t2))) (n3 : PySem.W.nsIn K mainGlobals "MOST_CELLS" = some (some (.int 3 t3))) (n4 : PySem.W.nsIn K mainGlobals "MOST_PARTS" = some (some (.int 16 t4)))
    (n5 : PySem.W.nsIn K mainGlobals "LETTERS" = some (some (.str sL t5))) (eL : sL = txt abc) (n6 : PySem.W.nsIn K mainGlobals "MOST_ASKED" = some (some (.int 60 t6))) (z : Ins K)
    {ce : Value} {cdd : Option Addr} {cvs : Array Value} {csl : Array (Option Value)} {Pt : Addr} (lC : K.lookup cW = some ⟨ce, cdd, .fields cvs, csl⟩) (h11 : cvs[11]? = some (.ref Pt)) (hh : PySem.W.codeHdIn K cW Pt = true) (nT : K.lookup Pt = none)
    {fL1 : Addr} {odL1 anL1 : Option Addr} {slL1 : Array (Option Value)} {ocL1 kVL1 dcL1 pmL1 ctL1 : Value} {cL1 : Addr} {ceL1 : Value} {cddL1 : Option Addr} {cvsL1 : Array Value} {cslL1 : Array (Option Value)} {Pl1 : Addr} (aL1 : PySem.W.nsIn K mainGlobals "_law_works" = some (some (.ref fL1))) (lL1 : K.lookup fL1 = some ⟨ocL1, odL1, .func (PySem.W.fnOf "_law_works" "_law_works" (defArgs s_law_works) (defBody s_law_works) (defScope s_law_works) .none kVL1 dcL1 pmL1 anL1 (.ref cL1) ctL1), slL1⟩) (hcL1 : PySem.W.codeIn K (.ref cL1) "_law_works" = true) (kL1 : PySem.W.keepIn K (.ref fL1) = true) (lCL1 : K.lookup cL1 = some ⟨ceL1, cddL1, .fields cvsL1, cslL1⟩) (h11L1 : cvsL1[11]? = some (.ref Pl1)) (hhL1 : PySem.W.codeHdIn K cL1 Pl1 = true) (nTL1 : K.lookup Pl1 = none) (hT1 : h.get? Pl1 = some { cls := .none, data := .fields #[] })
    (hT0 : h.get? Pt = some { cls := .none, data := .fields #[] }) (hDD : [Pt, Pl1].Nodup)
    {CS C0 C1 C2 C3 C4 C5 C6 C7 : Addr} (y_gS : PySem.W.nsIn K mainGlobals "SlotError" = some (some (.ref CS))) (y_g0 : PySem.W.nsIn K mainGlobals "BadFamily" = some (some (.ref C0))) (y_g1 : PySem.W.nsIn K mainGlobals "NoKind" = some (some (.ref C1))) (y_g2 : PySem.W.nsIn K mainGlobals "NoPart" = some (some (.ref C2))) (y_g3 : PySem.W.nsIn K mainGlobals "NoElder" = some (some (.ref C3))) (y_g4 : PySem.W.nsIn K mainGlobals "BadAsked" = some (some (.ref C4))) (y_g5 : PySem.W.nsIn K mainGlobals "NotAsked" = some (some (.ref C5))) (y_g6 : PySem.W.nsIn K mainGlobals "NoMatch" = some (some (.ref C6))) (y_g7 : PySem.W.nsIn K mainGlobals "BadText" = some (some (.ref C7))) (y_zV : PySem.W.nsIn K mainGlobals "ValueError" = some none)
    (y_oc8 : PySem.W.specialIn K (.builtin "object.__class__") "__get__" = some (some (.builtin "getset_descriptor.__get__"))) (y_oc9 : PySem.W.takesIn K (.builtin "object.__class__") = some true)
    {nm0 qn0 : Str} {Nn0 : Addr} {bs0 sub0 : List Value} {sn0 : List Str} {ab0 : Bool} {col0 : Option Bool} {dd0 : Option Addr} {m00 m01 m02 m03 m05 : Option Value} {fI0 : Addr} {od0 an0 : Option Addr} {sl0 : Array (Option Value)} {oc0 kV0 dc0 pm0 cd0 ct0 : Value} (y_xL0 : K.lookup C0 = some (excClassObj nm0 qn0 C0 Nn0 bs0 [.ref CS, .type "ValueError", .type "Exception", .type "BaseException", .type "object"] true sn0 sub0 ab0 col0 dd0 m00 m01 m02 m03 m05 "ValueError.__new__")) (y_sa0 : PySem.W.findIn K (.ref C0) "__setattr__" = some (some (.builtin "object.__setattr__"))) (y_k0 : PySem.W.keepIn K (.ref C0) = true) (y_b0 : PySem.W.subIn K (.ref C0) (.type "BaseException") = some true) (y_t0 : PySem.W.typeIn K (.ref C0) = some (.type "type")) (y_no0 : PySem.W.findIn K (.ref C0) "number" = some none) (y_iC0 : PySem.W.findIn K (.ref C0) "__init__" = some (some (.ref fI0))) (y_tI0 : PySem.W.typeIn K (.ref fI0) = some (.type "function")) (y_lI0 : K.lookup fI0 = some ⟨oc0, od0, .func (PySem.W.fnOf "__init__" "BadFamily.__init__" (defArgs i_BadFamily) (defBody i_BadFamily) (defScope i_BadFamily) .none kV0 dc0 pm0 an0 cd0 ct0), sl0⟩) (y_cI0 : PySem.W.codeIn K cd0 "BadFamily.__init__" = true) (y_kI0 : PySem.W.keepIn K (.ref fI0) = true) (y_ec0 : (PySem.W.clsIn K C0).isSome = true) (y_eg0 : PySem.W.findIn K (.ref C0) "__getattribute__" = some (some (.builtin "BaseException.__getattribute__"))) (y_eh0 : PySem.W.findIn K (.ref C0) "__getattr__" = some none) (y_ek0 : PySem.W.findIn K (.ref C0) "__class__" = some (some (.builtin "object.__class__"))) (y_em0 : PySem.W.mroIn K C0 (.type "object") = some true) (y_ex0 : PySem.W.exmOne K (.ref C0) (.ref CS) = some true) (y_q00 : PySem.W.kitOne K (.ref C0) (.ref C0) = some true) (y_q01 : PySem.W.kitOne K (.ref C0) (.ref C1) = some false) (y_q02 : PySem.W.kitOne K (.ref C0) (.ref C2) = some false) (y_q03 : PySem.W.kitOne K (.ref C0) (.ref C3) = some false) (y_q04 : PySem.W.kitOne K (.ref C0) (.ref C4) = some false) (y_q05 : PySem.W.kitOne K (.ref C0) (.ref C5) = some false) (y_q06 : PySem.W.kitOne K (.ref C0) (.ref C6) = some false) (y_q07 : PySem.W.kitOne K (.ref C0) (.ref C7) = some false) (y_qv0 : PySem.W.kitOne K (.ref C0) (.type "ValueError") = some true)
    {nm4 qn4 : Str} {Nn4 : Addr} {bs4 sub4 : List Value} {sn4 : List Str} {ab4 : Bool} {col4 : Option Bool} {dd4 : Option Addr} {m40 m41 m42 m43 m45 : Option Value} {fI4 : Addr} {od4 an4 : Option Addr} {sl4 : Array (Option Value)} {oc4 kV4 dc4 pm4 cd4 ct4 : Value} (y_xL4 : K.lookup C4 = some (excClassObj nm4 qn4 C4 Nn4 bs4 [.ref CS, .type "ValueError", .type "Exception", .type "BaseException", .type "object"] true sn4 sub4 ab4 col4 dd4 m40 m41 m42 m43 m45 "ValueError.__new__")) (y_sa4 : PySem.W.findIn K (.ref C4) "__setattr__" = some (some (.builtin "object.__setattr__"))) (y_k4 : PySem.W.keepIn K (.ref C4) = true) (y_b4 : PySem.W.subIn K (.ref C4) (.type "BaseException") = some true) (y_t4 : PySem.W.typeIn K (.ref C4) = some (.type "type")) (y_no4 : PySem.W.findIn K (.ref C4) "number" = some none) (y_iC4 : PySem.W.findIn K (.ref C4) "__init__" = some (some (.ref fI4))) (y_tI4 : PySem.W.typeIn K (.ref fI4) = some (.type "function")) (y_lI4 : K.lookup fI4 = some ⟨oc4, od4, .func (PySem.W.fnOf "__init__" "BadAsked.__init__" (defArgs i_BadAsked) (defBody i_BadAsked) (defScope i_BadAsked) .none kV4 dc4 pm4 an4 cd4 ct4), sl4⟩) (y_cI4 : PySem.W.codeIn K cd4 "BadAsked.__init__" = true) (y_kI4 : PySem.W.keepIn K (.ref fI4) = true) (y_ec4 : (PySem.W.clsIn K C4).isSome = true) (y_eg4 : PySem.W.findIn K (.ref C4) "__getattribute__" = some (some (.builtin "BaseException.__getattribute__"))) (y_eh4 : PySem.W.findIn K (.ref C4) "__getattr__" = some none) (y_ek4 : PySem.W.findIn K (.ref C4) "__class__" = some (some (.builtin "object.__class__"))) (y_em4 : PySem.W.mroIn K C4 (.type "object") = some true) (y_ex4 : PySem.W.exmOne K (.ref C4) (.ref CS) = some true) (y_q40 : PySem.W.kitOne K (.ref C4) (.ref C0) = some false) (y_q41 : PySem.W.kitOne K (.ref C4) (.ref C1) = some false) (y_q42 : PySem.W.kitOne K (.ref C4) (.ref C2) = some false) (y_q43 : PySem.W.kitOne K (.ref C4) (.ref C3) = some false) (y_q44 : PySem.W.kitOne K (.ref C4) (.ref C4) = some true) (y_q45 : PySem.W.kitOne K (.ref C4) (.ref C5) = some false) (y_q46 : PySem.W.kitOne K (.ref C4) (.ref C6) = some false) (y_q47 : PySem.W.kitOne K (.ref C4) (.ref C7) = some false) (y_qv4 : PySem.W.kitOne K (.ref C4) (.type "ValueError") = some true)
    (y_x1 : PySem.W.excIn K C1 bmV "ValueError.__new__" = true) (y_k1 : PySem.W.keepIn K (.ref C1) = true) (y_b1 : PySem.W.subIn K (.ref C1) (.type "BaseException") = some true) (y_t1 : PySem.W.typeIn K (.ref C1) = some (.type "type")) (y_ec1 : (PySem.W.clsIn K C1).isSome = true) (y_eg1 : PySem.W.findIn K (.ref C1) "__getattribute__" = some (some (.builtin "BaseException.__getattribute__"))) (y_eh1 : PySem.W.findIn K (.ref C1) "__getattr__" = some none) (y_ek1 : PySem.W.findIn K (.ref C1) "__class__" = some (some (.builtin "object.__class__"))) (y_em1 : PySem.W.mroIn K C1 (.type "object") = some true) (y_ex1 : PySem.W.exmOne K (.ref C1) (.ref CS) = some true) (y_q10 : PySem.W.kitOne K (.ref C1) (.ref C0) = some false) (y_q11 : PySem.W.kitOne K (.ref C1) (.ref C1) = some true) (y_q12 : PySem.W.kitOne K (.ref C1) (.ref C2) = some false) (y_q13 : PySem.W.kitOne K (.ref C1) (.ref C3) = some false) (y_q14 : PySem.W.kitOne K (.ref C1) (.ref C4) = some false) (y_q15 : PySem.W.kitOne K (.ref C1) (.ref C5) = some false) (y_q16 : PySem.W.kitOne K (.ref C1) (.ref C6) = some false) (y_q17 : PySem.W.kitOne K (.ref C1) (.ref C7) = some false) (y_qv1 : PySem.W.kitOne K (.ref C1) (.type "ValueError") = some true)
    (y_x2 : PySem.W.excIn K C2 bmV "ValueError.__new__" = true) (y_k2 : PySem.W.keepIn K (.ref C2) = true) (y_b2 : PySem.W.subIn K (.ref C2) (.type "BaseException") = some true) (y_t2 : PySem.W.typeIn K (.ref C2) = some (.type "type")) (y_ec2 : (PySem.W.clsIn K C2).isSome = true) (y_eg2 : PySem.W.findIn K (.ref C2) "__getattribute__" = some (some (.builtin "BaseException.__getattribute__"))) (y_eh2 : PySem.W.findIn K (.ref C2) "__getattr__" = some none) (y_ek2 : PySem.W.findIn K (.ref C2) "__class__" = some (some (.builtin "object.__class__"))) (y_em2 : PySem.W.mroIn K C2 (.type "object") = some true) (y_ex2 : PySem.W.exmOne K (.ref C2) (.ref CS) = some true) (y_q20 : PySem.W.kitOne K (.ref C2) (.ref C0) = some false) (y_q21 : PySem.W.kitOne K (.ref C2) (.ref C1) = some false) (y_q22 : PySem.W.kitOne K (.ref C2) (.ref C2) = some true) (y_q23 : PySem.W.kitOne K (.ref C2) (.ref C3) = some false) (y_q24 : PySem.W.kitOne K (.ref C2) (.ref C4) = some false) (y_q25 : PySem.W.kitOne K (.ref C2) (.ref C5) = some false) (y_q26 : PySem.W.kitOne K (.ref C2) (.ref C6) = some false) (y_q27 : PySem.W.kitOne K (.ref C2) (.ref C7) = some false) (y_qv2 : PySem.W.kitOne K (.ref C2) (.type "ValueError") = some true)
    (y_bga : PySem.W.specialIn K (.ref CS) "__getattribute__" = some (some (.builtin "type.__getattribute__"))) (y_brd : PySem.W.readsIn K CS (.type "type") = true) (y_bv : PySem.W.findCls K (.ref CS) (.type "type") "__init__" = some (.val (.builtin "ValueError.__init__")))
    (y_hd0 : PySem.W.hasDictIn K C0 = true) (y_xx0 : PySem.W.exmOne K (.ref C0) (.ref C0) = some true)
    (d_is_whole : At K "is_whole" s_is_whole)
    (d_is_pair : At K "is_pair" s_is_pair)
    (d_are_elders : At K "are_elders" s_are_elders)
    (d_are_deeds : At K "are_deeds" s_are_deeds)
    (d_is_kind : At K "is_kind" s_is_kind)
    (d_elders_of : At K "elders_of" s_elders_of)
    (d_deeds_of : At K "deeds_of" s_deeds_of)
    (d_cells_of : At K "cells_of" s_cells_of)
    (d_elder_part : At K "elder_part" s_elder_part)
    (d_meet : At K "meet" s_meet)
    (d_met_from : At K "met_from" s_met_from)
    (d_known : At K "known" s_known)
    (d_foremost : At K "foremost" s_foremost)
    (d_is_sound : At K "is_sound" s_is_sound)
    (d_need_family : At K "need_family" s_need_family)
    (d_need_kind : At K "need_kind" s_need_kind)
    (d_need_part : At K "need_part" s_need_part)
    (d_parts : At K "parts" s_parts)
    (d_inside : At K "inside" s_inside)
    (d_knows : At K "knows" s_knows)
    (d_doer : At K "doer" s_doer)
    (d_plain_elders : At K "plain_elders" s_plain_elders)
    (d_before_cells : At K "before_cells" s_before_cells)
    (d_body_size : At K "body_size" s_body_size)
    (d_plain_step : At K "plain_step" s_plain_step)
    (d_place : At K "place" s_place)
    (d_laid : At K "laid" s_laid)
    (d_own_cells : At K "own_cells" s_own_cells)
    (d_moved : At K "moved" s_moved)
    (d_step : At K "step" s_step)
    (d_known_by_kinds : At K "known_by_kinds" s_known_by_kinds)
    (d_can_be_asked : At K "can_be_asked" s_can_be_asked)
    (d_need_pairs : At K "need_pairs" s_need_pairs)
    (d_need_asked : At K "need_asked" s_need_asked)
    (d_numbered : At K "numbered" s_numbered)
    (d_first_parts : At K "first_parts" s_first_parts)
    (d_ways_from : At K "ways_from" s_ways_from)
    (d_rows_from : At K "rows_from" s_rows_from)
    (d_numbers : At K "numbers" s_numbers)
    (d_tables : At K "tables" s_tables)
    (d_call : At K "call" s_qcall)
    (d_led : At K "led" s_led)
    (d_reason : At K "reason" s_reason)
    (d_unlike : At K "unlike" s_unlike)
    (d_written_elder : At K "written_elder" s_written_elder)
    (d_written_kind : At K "written_kind" s_written_kind)
    (d_written : At K "written" s_written)
    (d_law_mix : At K "_law_mix" s_law_mix)
    (d_law_next : At K "_law_next" s_law_next)
    (d_law_alike : At K "_law_alike" s_law_alike)
    (d_law_met : At K "_law_met" s_law_met)
    (d_law_doer : At K "_law_doer" s_law_doer)
    (d_law_knows : At K "_law_knows" s_law_knows)
    (d_law_family : At K "_law_family" s_law_family)
    (d_law_kind : At K "_law_kind" s_law_kind)
    (d_law_bad : At K "_law_bad" s_law_bad)
    (d_law_turned : At K "_law_turned" s_law_turned)
    (d_law_deep : At K "_law_deep" s_law_deep)
    (d_law_number : At K "_law_number" s_law_number)
    (d_law_torn : At K "_law_torn" s_law_torn)
    : LawAtS l w K CX0 28 63 "_law_script" mg fa h := by
  have e := hfa.symm.trans (PySem.W.mg_of X G la)
  cases e
  subst eL
  have B := z.bt X G
  have m7 : ∃ t, mg "MOST_KINDS" = some (.int 7 t) := ⟨_, PySem.W.mg_of X G n1⟩
  have mE : ∃ t, mg "MOST_ELDERS" = some (.int 3 t) := ⟨_, PySem.W.mg_of X G n2⟩
  have mC : ∃ t, mg "MOST_CELLS" = some (.int 3 t) := ⟨_, PySem.W.mg_of X G n3⟩
  have mP : ∃ t, mg "MOST_PARTS" = some (.int 16 t) := ⟨_, PySem.W.mg_of X G n4⟩
  have mL : ∃ t, mg "LETTERS" = some (.str (txt abc) t) := ⟨_, PySem.W.mg_of X G n5⟩
  have m60 : ∃ t, mg "MOST_ASKED" = some (.int 60 t) := ⟨_, PySem.W.mg_of X G n6⟩
  have D_is_whole := d_is_whole.df X G ["value"] fun _ _ F => F.binds (ps := ["value"]) fun _ _ _ _ _ _ us hl => match us, hl with | [_], _ => rfl
  have D_is_pair := d_is_pair.df X G ["pair", "number"] fun _ _ F => F.binds (ps := ["pair", "number"]) fun _ _ _ _ _ _ us hl => match us, hl with | [_, _], _ => rfl
  have D_are_elders := d_are_elders.df X G ["elders", "number"] fun _ _ F => F.binds (ps := ["elders", "number"]) fun _ _ _ _ _ _ us hl => match us, hl with | [_, _], _ => rfl
  have D_are_deeds := d_are_deeds.df X G ["deeds"] fun _ _ F => F.binds (ps := ["deeds"]) fun _ _ _ _ _ _ us hl => match us, hl with | [_], _ => rfl
  have D_is_kind := d_is_kind.df X G ["kind", "number"] fun _ _ F => F.binds (ps := ["kind", "number"]) fun _ _ _ _ _ _ us hl => match us, hl with | [_, _], _ => rfl
  have D_elders_of := d_elders_of.df X G ["family", "kind"] fun _ _ F => F.binds (ps := ["family", "kind"]) fun _ _ _ _ _ _ us hl => match us, hl with | [_, _], _ => rfl
  have D_deeds_of := d_deeds_of.df X G ["family", "kind"] fun _ _ F => F.binds (ps := ["family", "kind"]) fun _ _ _ _ _ _ us hl => match us, hl with | [_, _], _ => rfl
  have D_cells_of := d_cells_of.df X G ["family", "kind"] fun _ _ F => F.binds (ps := ["family", "kind"]) fun _ _ _ _ _ _ us hl => match us, hl with | [_, _], _ => rfl
  have D_elder_part := d_elder_part.df X G ["part", "pair"] fun _ _ F => F.binds (ps := ["part", "pair"]) fun _ _ _ _ _ _ us hl => match us, hl with | [_, _], _ => rfl
  have D_meet := d_meet.df X G ["family", "part", "met"] fun _ _ F => F.binds (ps := ["family", "part", "met"]) fun _ _ _ _ _ _ us hl => match us, hl with | [_, _, _], _ => rfl
  have D_met_from := d_met_from.df X G ["family", "part"] fun _ _ F => F.binds (ps := ["family", "part"]) fun _ _ _ _ _ _ us hl => match us, hl with | [_, _], _ => rfl
  have D_known := d_known.df X G ["family", "found"] fun _ _ F => F.binds (ps := ["family", "found"]) fun _ _ _ _ _ _ us hl => match us, hl with | [_, _], _ => rfl
  have D_foremost := d_foremost.df X G ["family", "found", "deed"] fun _ _ F => F.binds (ps := ["family", "found", "deed"]) fun _ _ _ _ _ _ us hl => match us, hl with | [_, _, _], _ => rfl
  have D_is_sound := d_is_sound.df X G ["family", "kind"] fun _ _ F => F.binds (ps := ["family", "kind"]) fun _ _ _ _ _ _ us hl => match us, hl with | [_, _], _ => rfl
  have D_need_family := d_need_family.df X G ["family"] fun _ _ F => F.binds (ps := ["family"]) fun _ _ _ _ _ _ us hl => match us, hl with | [_], _ => rfl
  have D_need_kind := d_need_kind.df X G ["family", "kind"] fun _ _ F => F.binds (ps := ["family", "kind"]) fun _ _ _ _ _ _ us hl => match us, hl with | [_, _], _ => rfl
  have D_need_part := d_need_part.df X G ["family", "kind", "part"] fun _ _ F => F.binds (ps := ["family", "kind", "part"]) fun _ _ _ _ _ _ us hl => match us, hl with | [_, _, _], _ => rfl
  have D_parts := d_parts.df X G ["family", "kind"] fun _ _ F => F.binds (ps := ["family", "kind"]) fun _ _ _ _ _ _ us hl => match us, hl with | [_, _], _ => rfl
  have D_inside := d_inside.df X G ["family", "kind", "part"] fun _ _ F => F.binds (ps := ["family", "kind", "part"]) fun _ _ _ _ _ _ us hl => match us, hl with | [_, _, _], _ => rfl
  have D_knows := d_knows.df X G ["family", "kind"] fun _ _ F => F.binds (ps := ["family", "kind"]) fun _ _ _ _ _ _ us hl => match us, hl with | [_, _], _ => rfl
  have D_doer := d_doer.df X G ["family", "kind", "deed"] fun _ _ F => F.binds (ps := ["family", "kind", "deed"]) fun _ _ _ _ _ _ us hl => match us, hl with | [_, _, _], _ => rfl
  have D_plain_elders := d_plain_elders.df X G ["family", "kind"] fun _ _ F => F.binds (ps := ["family", "kind"]) fun _ _ _ _ _ _ us hl => match us, hl with | [_, _], _ => rfl
  have D_before_cells := d_before_cells.df X G ["family", "kind"] fun _ _ F => F.binds (ps := ["family", "kind"]) fun _ _ _ _ _ _ us hl => match us, hl with | [_, _], _ => rfl
  have D_body_size := d_body_size.df X G ["family", "kind"] fun _ _ F => F.binds (ps := ["family", "kind"]) fun _ _ _ _ _ _ us hl => match us, hl with | [_, _], _ => rfl
  have D_plain_step := d_plain_step.df X G ["family", "kind", "elder"] fun _ _ F => F.binds (ps := ["family", "kind", "elder"]) fun _ _ _ _ _ _ us hl => match us, hl with | [_, _, _], _ => rfl
  have D_place := d_place.df X G ["family", "kind"] fun _ _ F => F.binds (ps := ["family", "kind"]) fun _ _ _ _ _ _ us hl => match us, hl with | [_, _], _ => rfl
  have D_laid := d_laid.df X G ["family", "kind"] fun _ _ F => F.binds (ps := ["family", "kind"]) fun _ _ _ _ _ _ us hl => match us, hl with | [_, _], _ => rfl
  have D_own_cells := d_own_cells.df X G ["family", "kind", "part"] fun _ _ F => F.binds (ps := ["family", "kind", "part"]) fun _ _ _ _ _ _ us hl => match us, hl with | [_, _, _], _ => rfl
  have D_moved := d_moved.df X G ["family", "kind", "part", "elder"] fun _ _ F => F.binds (ps := ["family", "kind", "part", "elder"]) fun _ _ _ _ _ _ us hl => match us, hl with | [_, _, _, _], _ => rfl
  have D_step := d_step.df X G ["family", "kind", "elder"] fun _ _ F => F.binds (ps := ["family", "kind", "elder"]) fun _ _ _ _ _ _ us hl => match us, hl with | [_, _, _], _ => rfl
  have D_known_by_kinds := d_known_by_kinds.df X G ["family"] fun _ _ F => F.binds (ps := ["family"]) fun _ _ _ _ _ _ us hl => match us, hl with | [_], _ => rfl
  have D_can_be_asked := d_can_be_asked.df X G ["knowing", "pair"] fun _ _ F => F.binds (ps := ["knowing", "pair"]) fun _ _ _ _ _ _ us hl => match us, hl with | [_, _], _ => rfl
  have D_need_pairs := d_need_pairs.df X G ["families", "asked"] fun _ _ F => F.binds (ps := ["families", "asked"]) fun _ _ _ _ _ _ us hl => match us, hl with | [_, _], _ => rfl
  have D_need_asked := d_need_asked.df X G ["family", "asked"] fun _ _ F => F.binds (ps := ["family", "asked"]) fun _ _ _ _ _ _ us hl => match us, hl with | [_, _], _ => rfl
  have D_numbered := d_numbered.df X G ["family", "asked"] fun _ _ F => F.binds (ps := ["family", "asked"]) fun _ _ _ _ _ _ us hl => match us, hl with | [_, _], _ => rfl
  have D_first_parts := d_first_parts.df X G ["begins"] fun _ _ F => F.binds (ps := ["begins"]) fun _ _ _ _ _ _ us hl => match us, hl with | [_], _ => rfl
  have D_ways_from := d_ways_from.df X G ["family", "begins", "part"] fun _ _ F => F.binds (ps := ["family", "begins", "part"]) fun _ _ _ _ _ _ us hl => match us, hl with | [_, _, _], _ => rfl
  have D_rows_from := d_rows_from.df X G ["family", "begins", "part", "pairs"] fun _ _ F => F.binds (ps := ["family", "begins", "part", "pairs"]) fun _ _ _ _ _ _ us hl => match us, hl with | [_, _, _, _], _ => rfl
  have D_numbers := d_numbers.df X G ["family", "asked"] fun _ _ F => F.binds (ps := ["family", "asked"]) fun _ _ _ _ _ _ us hl => match us, hl with | [_, _], _ => rfl
  have D_tables := d_tables.df X G ["family", "asked", "kind"] fun _ _ F => F.binds (ps := ["family", "asked", "kind"]) fun _ _ _ _ _ _ us hl => match us, hl with | [_, _, _], _ => rfl
  have D_call := d_call.df X G ["family", "asked", "kind", "part", "deed"] fun _ _ F => F.binds (ps := ["family", "asked", "kind", "part", "deed"]) fun _ _ _ _ _ _ us hl => match us, hl with | [_, _, _, _, _], _ => rfl
  have D_led := d_led.df X G ["family", "asked", "kind", "part", "elder"] fun _ _ F => F.binds (ps := ["family", "asked", "kind", "part", "elder"]) fun _ _ _ _ _ _ us hl => match us, hl with | [_, _, _, _, _], _ => rfl
  have D_reason := d_reason.df X G ["family", "asked", "kind", "deed"] fun _ _ F => F.binds (ps := ["family", "asked", "kind", "deed"]) fun _ _ _ _ _ _ us hl => match us, hl with | [_, _, _, _], _ => rfl
  have D_unlike := d_unlike.df X G ["family", "other", "asked"] fun _ _ F => F.binds (ps := ["family", "other", "asked"]) fun _ _ _ _ _ _ us hl => match us, hl with | [_, _, _], _ => rfl
  have D_written_elder := d_written_elder.df X G ["pair"] fun _ _ F => F.binds (ps := ["pair"]) fun _ _ _ _ _ _ us hl => match us, hl with | [_], _ => rfl
  have D_written_kind := d_written_kind.df X G ["kind"] fun _ _ F => F.binds (ps := ["kind"]) fun _ _ _ _ _ _ us hl => match us, hl with | [_], _ => rfl
  have D_written := d_written.df X G ["family"] fun _ _ F => F.binds (ps := ["family"]) fun _ _ _ _ _ _ us hl => match us, hl with | [_], _ => rfl
  have D_law_mix := d_law_mix.df X G ["_law_script", "_law_seed"] fun _ _ F => F.binds (ps := ["_law_script", "_law_seed"]) fun _ _ _ _ _ _ us hl => match us, hl with | [_, _], _ => rfl
  have D_law_next := d_law_next.df X G ["_law_h", "_law_many"] fun _ _ F => F.binds (ps := ["_law_h", "_law_many"]) fun _ _ _ _ _ _ us hl => match us, hl with | [_, _], _ => rfl
  have D_law_alike := d_law_alike.df X G ["_law_found", "_law_due"] fun _ _ F => F.binds (ps := ["_law_found", "_law_due"]) fun _ _ _ _ _ _ us hl => match us, hl with | [_, _], _ => rfl
  have D_law_met := d_law_met.df X G ["_law_f", "_law_part"] fun _ _ F => F.binds (ps := ["_law_f", "_law_part"]) fun _ _ _ _ _ _ us hl => match us, hl with | [_, _], _ => rfl
  have D_law_doer := d_law_doer.df X G ["_law_f", "_law_kind_here", "_law_deed"] fun _ _ F => F.binds (ps := ["_law_f", "_law_kind_here", "_law_deed"]) fun _ _ _ _ _ _ us hl => match us, hl with | [_, _, _], _ => rfl
  have D_law_knows := d_law_knows.df X G ["_law_f", "_law_kind_here"] fun _ _ F => F.binds (ps := ["_law_f", "_law_kind_here"]) fun _ _ _ _ _ _ us hl => match us, hl with | [_, _], _ => rfl
  have D_law_family := d_law_family.df X G ["_law_h", "_law_most"] fun _ _ F => F.binds (ps := ["_law_h", "_law_most"]) fun _ _ _ _ _ _ us hl => match us, hl with | [_, _], _ => rfl
  have D_law_kind := d_law_kind.df X G ["_law_work"] fun _ _ F => F.binds (ps := ["_law_work"]) fun _ _ _ _ _ _ us hl => match us, hl with | [_], _ => rfl
  have D_law_bad := d_law_bad.df X G ["_law_f"] fun _ _ F => F.binds (ps := ["_law_f"]) fun _ _ _ _ _ _ us hl => match us, hl with | [_], _ => rfl
  have D_law_turned := d_law_turned.df X G ["_law_h", "_law_f"] fun _ _ F => F.binds (ps := ["_law_h", "_law_f"]) fun _ _ _ _ _ _ us hl => match us, hl with | [_, _], _ => rfl
  have D_law_deep := d_law_deep.df X G ["_law_h"] fun _ _ F => F.binds (ps := ["_law_h"]) fun _ _ _ _ _ _ us hl => match us, hl with | [_], _ => rfl
  have D_law_number := d_law_number.df X G ["_law_work"] fun _ _ F => F.binds (ps := ["_law_work"]) fun _ _ _ _ _ _ us hl => match us, hl with | [_], _ => rfl
  have D_law_torn := d_law_torn.df X G ["_law_h"] fun _ _ F => F.binds (ps := ["_law_h"]) fun _ _ _ _ _ _ us hl => match us, hl with | [_], _ => rfl
  have hP := hT0
  refine ⟨PySem.W.fnOf "law" "law" (defArgs s_law) (defBody s_law) (defScope s_law) .none kV dc pm an (.ref cW) ct, [(cW, Pt), (cL1, Pl1)], spLaw K [(Pt, qLaw), (Pl1, qW)], fun p hp => ?_, fun p hp => ?_, fun p hp => ?_, fun s v => .of_eq rfl, fun H a ns hl _ hT hS => ⟨a, ns, rfl, hS, hl, fun p hp => (by simp only [List.mem_cons, List.not_mem_nil, or_false] at hp; rcases hp with rfl | rfl; exact hT (cW, Pt) List.mem_cons_self; exact hT (cL1, Pl1) (List.mem_cons_of_mem _ List.mem_cons_self)), fun _ => rfl⟩, fun base kin bns hTB => ?_⟩
  · simp only [List.mem_cons, List.not_mem_nil, or_false] at hp
    rcases hp with rfl | rfl
    · exact hP
    · exact hT1
  · simp only [List.mem_cons, List.not_mem_nil, or_false] at hp
    rcases hp with rfl | rfl
    · exact nT
    · exact nTL1
  · simp only [List.mem_cons, List.not_mem_nil, or_false] at hp
    rcases hp with rfl | rfl
    · exact PySem.W.codeHd_of_K X hh
    · exact PySem.W.codeHd_of_K X hhL1
  have TB := hTB (cW, Pt) List.mem_cons_self
  have TB1 := hTB (cL1, Pl1) (List.mem_cons_of_mem _ List.mem_cons_self)
  have ms := PySem.W.mg_none_of X G z.z_sum
  have md := PySem.W.mg_none_of X G z.z_dict
  have cW := ok_is_whole (P := l.prog) (w := w) (base := base) B D_is_whole
  have cE := ok_elders_of (P := l.prog) (w := w) (base := base) D_elders_of
  have cD := ok_deeds_of (P := l.prog) (w := w) (base := base) D_deeds_of
  have cEP := ok_elder_part (P := l.prog) (w := w) (base := base) D_elder_part
  have cMe := ok_meet cE cEP D_meet 16
  have cM := ok_met_from D_met_from cMe
  have cN := ok_known B mL D_known cD
  have cF := ok_foremost B D_foremost cD cM
  have cS := ok_is_sound B mP D_is_sound cM cN cF
  have cPr := ok_is_pair B D_is_pair cW
  have cEl := ok_are_elders B mE D_are_elders cPr
  have cDe := ok_are_deeds (P := l.prog) (w := w) (base := base) B mL D_are_deeds
  have cK := ok_is_kind B mC D_is_kind cEl cDe cW
  have cNF := ok_need_family B m7 D_need_family cK cS
  have cMx := ok_mix (P := l.prog) (w := w) (base := base) B D_law_mix
  have cNx := ok_next (P := l.prog) (w := w) (base := base) B D_law_next
  have cAl := ok_alike (P := l.prog) (w := w) (base := base) B D_law_alike 10
  have cLMX := ok_lmetX (P := l.prog) (w := w) (base := base) D_law_met 16
  have cLDX := ok_ldoerX B D_law_doer cLMX
  have cLKX := ok_lknowsX B D_law_knows cLMX
  have cLM := cLMX.imp (lmet_back 16)
  have cLD := cLDX.imp ldoer_back
  have cLK := cLKX.imp lknows_back
  have cFa := ok_family B D_law_family cNx cLM cLD cLK
  have cKb := ok_kbk B D_known_by_kinds cM cN
  have cCa := ok_can B D_can_be_asked cW
  have m8 : Mg8 mg CS ⟨C0, C1, C2, C3, C4, C5, C6, C7⟩ := ⟨PySem.W.mg_of X G y_gS, PySem.W.mg_of X G y_g0, PySem.W.mg_of X G y_g1, PySem.W.mg_of X G y_g2, PySem.W.mg_of X G y_g3, PySem.W.mg_of X G y_g4, PySem.W.mg_of X G y_g5, PySem.W.mg_of X G y_g6, PySem.W.mg_of X G y_g7, PySem.W.mg_none_of X G y_zV, PySem.W.mg_none_of X G z.z_isinstance⟩
  have TB0 : BaseC K mg CS := ⟨m8.s, y_bga, y_brd, y_bv⟩
  have F0 := fun_mk (st := i_BadFamily) y_lI0 y_cI0 y_kI0
  have N0 : ErrN l.prog w K mg base "BadFamily" "number" C0 := ⟨m8.c0, ⟨⟨_, _, _, _, _, _, _, _, _, _, _, _, _, _, _, y_xL0, (by show PySem.HandSPX.refsVE [.type "ValueError", .type "Exception", .type "BaseException", .type "object"] = true; decide +kernel)⟩, y_sa0, y_b0, y_t0, y_k0⟩, y_no0, ⟨fI0, _, ["self", "number"], y_iC0, y_tI0, ok_iBadFamily (P := l.prog) (w := w) (base := base) TB0 F0, F0.binds (ps := ["self", "number"]) fun _ _ _ _ _ _ us hl => match us, hl with | [_, _], _ => rfl⟩⟩
  have F4 := fun_mk (st := i_BadAsked) y_lI4 y_cI4 y_kI4
  have N4 : ErrN l.prog w K mg base "BadAsked" "number" C4 := ⟨m8.c4, ⟨⟨_, _, _, _, _, _, _, _, _, _, _, _, _, _, _, y_xL4, (by show PySem.HandSPX.refsVE [.type "ValueError", .type "Exception", .type "BaseException", .type "object"] = true; decide +kernel)⟩, y_sa4, y_b4, y_t4, y_k4⟩, y_no4, ⟨fI4, _, ["self", "number"], y_iC4, y_tI4, ok_iBadAsked (P := l.prog) (w := w) (base := base) TB0 F4, F4.binds (ps := ["self", "number"]) fun _ _ _ _ _ _ us hl => match us, hl with | [_, _], _ => rfl⟩⟩
  have E1 : ErrC K mg "NoKind" C1 bmV := ⟨m8.c1, y_x1, y_k1, y_b1, y_t1⟩
  have E2 : ErrC K mg "NoPart" C2 bmV := ⟨m8.c2, y_x2, y_k2, y_b2, y_t2⟩
  have knF : KOk K CS ⟨C0, C1, C2, C3, C4, C5, C6, C7⟩ C0 0 "BadFamily" := ⟨⟨⟨y_ec0, y_eg0, y_eh0, y_b0, y_ek0, y_oc8, y_oc9, y_em0⟩, y_ex0, y_q00, y_q01, y_q02, y_q03, y_q04, y_q05, y_q06, y_q07, y_qv0⟩, rfl⟩
  have cElX := ok_are_eldersX B mE D_are_elders cPr
  have cKX := ok_is_kindX B mC D_is_kind cElX cDe cW
  have cNFX := ok_nfX B N0 m7 D_need_family cKX cS
  have cNKX := ok_nkX B E1 D_need_kind cNFX cW
  have cNTX := ok_ntX B E2 D_need_part cNKX cM cW
  have cNPX := ok_npX (P := l.prog) (w := w) (base := base) B N4 m60 D_need_pairs cKb cCa
  have cNAX := ok_naX D_need_asked cNFX cNPX
  have r_parts := ok_partsR D_parts cNKX
  have r_knows := ok_knowsR D_knows cNKX
  have r_doer := ok_doerR D_doer cNKX
  have r_laid := ok_laidR D_laid cNKX
  have r_step := ok_stepR D_step cNKX
  have r_inside := ok_insideR D_inside cNTX
  have r_own_cells := ok_own_cellsR D_own_cells cNTX
  have r_moved := ok_movedR D_moved cNTX
  have r_tables := ok_tablesR D_tables cNAX cNKX
  have r_reason := ok_reasonR D_reason cNAX cNKX
  have r_call := ok_callR D_call cNAX cNTX
  have r_led := ok_ledR D_led cNAX cNTX
  have r_numbers := ok_numbersR D_numbers cNAX
  have r_unlike := ok_unlikeR D_unlike cNFX
  have r_written := ok_writtenR D_written cNFX
  have cKi := ok_rfKind (P := l.prog) (w := w) (base := base) (kL := 24) m8 D_law_kind
  have xB : XfC K C0 := ⟨y_eg0, y_eh0, y_b0, y_hd0⟩
  have cNm := ok_rfNum (P := l.prog) (w := w) (base := base) (kL := 24) m8.c0 xB y_no0 y_xx0 D_law_number
  have cTu := ok_tu B D_law_turned cNx
  have cTo := ok_to B D_law_torn cNx
  have cDp := ok_de B D_law_deep cNx
  have cBd := ok_lbd B D_law_bad cLMX cLDX cLKX
  have uT : ∀ a q, (a, q) ∈ ([(Pt, qLaw), (Pl1, qW)] : List (Addr × Str)) → ∀ p ∈ ([(Pt, qLaw), (Pl1, qW)] : List (Addr × Str)), p.1 = a → p.2 = q := fun a q => uni_T hDD
  have DM1 : DfM K mg "_law_works" s_law_works ["_law_f"] cL1 := ⟨fL1, odL1, anL1, slL1, ocL1, kVL1, dcL1, pmL1, ctL1, lL1, hcL1, PySem.W.mg_of X G aL1, kL1, (fun_mk (st := s_law_works) lL1 hcL1 kL1).binds (ps := ["_law_f"]) fun _ _ _ _ _ _ us hl => match us, hl with | [_], _ => rfl⟩
  have cmkW := ok_mkW (T := [(Pt, qLaw), (Pl1, qW)]) DM1 TB1 (List.mem_cons_of_mem _ List.mem_cons_self) (uT _ _ (List.mem_cons_of_mem _ List.mem_cons_self)) r_parts r_inside r_knows r_doer r_laid r_own_cells r_moved r_step r_numbers r_tables r_call r_led r_reason r_unlike r_written
  exact ok_law ll lc List.mem_cons_self (uT _ _ List.mem_cons_self) TB B knF D_law_number m8.c0 xB y_no0 y_xx0 cMx cFa cNx cNF cNFX cTu cTo cDp cBd cAl cKi cNm cmkW
theorem walk {l : PySem.W.OpenLaw} {q : Program} {loose : List Str} {XP : (Str → Option Value) → Heap → Prop} {YP : World → Heap → Prop} {d : DefRec} {K : Params → PySem.W.Frag} (hn : l.most = some 63) (hdf : d.params.defaults = [])
    (hY : ∀ (w : World) (h : Heap), YP w h → (K w.params).In h)
    (F : ∀ (w : World) (mg : Str → Option Value) (fa : Addr) (h : Heap), YP w h → (K w.params).In h → h.Ns mainGlobals mg → mg d.name = some (.ref fa) → LawAtS l w (K w.params) CX0 28 63 "_law_script" mg fa h) :
    PySem.W.WalkO q loose XP YP l.row.toRowW d [] (fun f vs => PySem.call f vs) :=
  LamX.walk_ofTs (n := 63) (k := 28) (x := "_law_script") (CX := fun _ => CX0) hn (by decide) hdf ⟨rfl, by decide, by decide⟩ hY (fun w mg fa h Y KX G hm => F w mg fa h Y KX G hm) fun _ _ _ _ _ z => z
end KS
end
open PySem PySem.W PyProof.Rows
set_option maxRecDepth 100000 in
set_option maxHeartbeats 0 in
theorem PySem.Challenge.cw_castslots_k01_families_looked_at_holds : PySem.Challenge.rw_castslots_k01_families_looked_at.Holds := by
  w_on; o_law; k_head; (case hw => w_witness2)
  k_fill
  refine KS.walk (l := PySem.Challenge.rw_castslots_k01_families_looked_at) rfl rfl (fun w h Y => PySem.W.km_in_of Y) ?F
  case F =>
    intro w mg fa h Y KX G hmg
    refine' KS.all_mk KX G hmg ?la ?ll ?lc ?lk ?n1 ?n2 ?n3 ?n4 ?n5 ?eL ?n6 ?z ?lC ?h11 ?hh ?nT ?aL1 ?lL1 ?hcL1 ?kL1 ?lCL1 ?h11L1 ?hhL1 ?nTL1 ?hT1 ?hT0 ?hDD ?y_gS ?y_g0 ?y_g1 ?y_g2 ?y_g3 ?y_g4 ?y_g5 ?y_g6 ?y_g7 ?y_zV ?y_oc8 ?y_oc9 ?y_xL0 ?y_sa0 ?y_k0 ?y_b0 ?y_t0 ?y_no0 ?y_iC0 ?y_tI0 ?y_lI0 ?y_cI0 ?y_kI0 ?y_ec0 ?y_eg0 ?y_eh0 ?y_ek0 ?y_em0 ?y_ex0 ?y_q00 ?y_q01 ?y_q02 ?y_q03 ?y_q04 ?y_q05 ?y_q06 ?y_q07 ?y_qv0 ?y_xL4 ?y_sa4 ?y_k4 ?y_b4 ?y_t4 ?y_no4 ?y_iC4 ?y_tI4 ?y_lI4 ?y_cI4 ?y_kI4 ?y_ec4 ?y_eg4 ?y_eh4 ?y_ek4 ?y_em4 ?y_ex4 ?y_q40 ?y_q41 ?y_q42 ?y_q43 ?y_q44 ?y_q45 ?y_q46 ?y_q47 ?y_qv4 ?y_x1 ?y_k1 ?y_b1 ?y_t1 ?y_ec1 ?y_eg1 ?y_eh1 ?y_ek1 ?y_em1 ?y_ex1 ?y_q10 ?y_q11 ?y_q12 ?y_q13 ?y_q14 ?y_q15 ?y_q16 ?y_q17 ?y_qv1 ?y_x2 ?y_k2 ?y_b2 ?y_t2 ?y_ec2 ?y_eg2 ?y_eh2 ?y_ek2 ?y_em2 ?y_ex2 ?y_q20 ?y_q21 ?y_q22 ?y_q23 ?y_q24 ?y_q25 ?y_q26 ?y_q27 ?y_qv2 ?y_bga ?y_brd ?y_bv ?y_hd0 ?y_xx0 ?d_is_whole ?d_is_pair ?d_are_elders ?d_are_deeds ?d_is_kind ?d_elders_of ?d_deeds_of ?d_cells_of ?d_elder_part ?d_meet ?d_met_from ?d_known ?d_foremost ?d_is_sound ?d_need_family ?d_need_kind ?d_need_part ?d_parts ?d_inside ?d_knows ?d_doer ?d_plain_elders ?d_before_cells ?d_body_size ?d_plain_step ?d_place ?d_laid ?d_own_cells ?d_moved ?d_step ?d_known_by_kinds ?d_can_be_asked ?d_need_pairs ?d_need_asked ?d_numbered ?d_first_parts ?d_ways_from ?d_rows_from ?d_numbers ?d_tables ?d_call ?d_led ?d_reason ?d_unlike ?d_written_elder ?d_written_kind ?d_written ?d_law_mix ?d_law_next ?d_law_alike ?d_law_met ?d_law_doer ?d_law_knows ?d_law_family ?d_law_kind ?d_law_bad ?d_law_turned ?d_law_deep ?d_law_number ?d_law_torn
    (case la => k_is); (case ll => k_is); (case lc => k_is); (case lk => k_is)
    (case n1 => k_is); (case n2 => k_is); (case n3 => k_is); (case n4 => k_is); (case n5 => k_is); (case eL => rfl); (case n6 => k_is)
    (case z => refine' ⟨?z0, ?z1, ?z2, ?z3, ?z4, ?z5, ?z6, ?z7, ?z8, ?z9, ?z10, ?z11, ?z12, ?z13, ?z14, ?z15, ?z16⟩ <;> k_is)
    (case aL1 => k_is); (case lL1 => k_is); (case hcL1 => k_is); (case kL1 => k_is); (case lCL1 => k_is); (case h11L1 => rfl); (case hhL1 => kernel_rfl); (case nTL1 => kernel_rfl); (case hT1 => exact PySem.W.km_tabs_of Y _ (by decide))
    (case lC => k_is); (case h11 => rfl); (case hh => kernel_rfl); (case nT => kernel_rfl); (case hT0 => exact PySem.W.km_tabs_of Y _ (by decide)); (case hDD => decide)
    (case y_gS => k_is); (case y_g0 => k_is); (case y_g1 => k_is); (case y_g2 => k_is); (case y_g3 => k_is); (case y_g4 => k_is); (case y_g5 => k_is); (case y_g6 => k_is); (case y_g7 => k_is); (case y_zV => k_is)
    (case y_oc8 => k_is); (case y_oc9 => k_is)
    (case y_xL0 => k_is); (case y_sa0 => k_is); (case y_k0 => k_is); (case y_b0 => k_is); (case y_t0 => k_is); (case y_no0 => k_is); (case y_iC0 => k_is); (case y_tI0 => k_is); (case y_lI0 => k_is); (case y_cI0 => k_is); (case y_kI0 => k_is); (case y_ec0 => kernel_rfl); (case y_eg0 => k_is); (case y_eh0 => k_is); (case y_ek0 => k_is); (case y_em0 => k_is); (case y_ex0 => kernel_rfl); (case y_q00 => kernel_rfl); (case y_q01 => kernel_rfl); (case y_q02 => kernel_rfl); (case y_q03 => kernel_rfl); (case y_q04 => kernel_rfl); (case y_q05 => kernel_rfl); (case y_q06 => kernel_rfl); (case y_q07 => kernel_rfl); (case y_qv0 => kernel_rfl)
    (case y_xL4 => k_is); (case y_sa4 => k_is); (case y_k4 => k_is); (case y_b4 => k_is); (case y_t4 => k_is); (case y_no4 => k_is); (case y_iC4 => k_is); (case y_tI4 => k_is); (case y_lI4 => k_is); (case y_cI4 => k_is); (case y_kI4 => k_is); (case y_ec4 => kernel_rfl); (case y_eg4 => k_is); (case y_eh4 => k_is); (case y_ek4 => k_is); (case y_em4 => k_is); (case y_ex4 => kernel_rfl); (case y_q40 => kernel_rfl); (case y_q41 => kernel_rfl); (case y_q42 => kernel_rfl); (case y_q43 => kernel_rfl); (case y_q44 => kernel_rfl); (case y_q45 => kernel_rfl); (case y_q46 => kernel_rfl); (case y_q47 => kernel_rfl); (case y_qv4 => kernel_rfl)
    (case y_x1 => k_exc); (case y_k1 => k_is); (case y_b1 => k_is); (case y_t1 => k_is); (case y_ec1 => kernel_rfl); (case y_eg1 => k_is); (case y_eh1 => k_is); (case y_ek1 => k_is); (case y_em1 => k_is); (case y_ex1 => kernel_rfl); (case y_q10 => kernel_rfl); (case y_q11 => kernel_rfl); (case y_q12 => kernel_rfl); (case y_q13 => kernel_rfl); (case y_q14 => kernel_rfl); (case y_q15 => kernel_rfl); (case y_q16 => kernel_rfl); (case y_q17 => kernel_rfl); (case y_qv1 => kernel_rfl)
    (case y_x2 => k_exc); (case y_k2 => k_is); (case y_b2 => k_is); (case y_t2 => k_is); (case y_ec2 => kernel_rfl); (case y_eg2 => k_is); (case y_eh2 => k_is); (case y_ek2 => k_is); (case y_em2 => k_is); (case y_ex2 => kernel_rfl); (case y_q20 => kernel_rfl); (case y_q21 => kernel_rfl); (case y_q22 => kernel_rfl); (case y_q23 => kernel_rfl); (case y_q24 => kernel_rfl); (case y_q25 => kernel_rfl); (case y_q26 => kernel_rfl); (case y_q27 => kernel_rfl); (case y_qv2 => kernel_rfl)
    (case y_bga => first | k_is | kernel_rfl); (case y_brd => first | k_is | kernel_rfl); (case y_bv => first | k_is | kernel_rfl)
    (case y_hd0 => first | k_is | kernel_rfl); (case y_xx0 => first | k_is | kernel_rfl)
    (case d_is_whole => refine' KS.At.of ?a ?l ?c ?k; (case a => k_is); (case l => k_is); (case c => k_is); (case k => k_is))
    (case d_is_pair => refine' KS.At.of ?a ?l ?c ?k; (case a => k_is); (case l => k_is); (case c => k_is); (case k => k_is))
    (case d_are_elders => refine' KS.At.of ?a ?l ?c ?k; (case a => k_is); (case l => k_is); (case c => k_is); (case k => k_is))
    (case d_are_deeds => refine' KS.At.of ?a ?l ?c ?k; (case a => k_is); (case l => k_is); (case c => k_is); (case k => k_is))
    (case d_is_kind => refine' KS.At.of ?a ?l ?c ?k; (case a => k_is); (case l => k_is); (case c => k_is); (case k => k_is))
    (case d_elders_of => refine' KS.At.of ?a ?l ?c ?k; (case a => k_is); (case l => k_is); (case c => k_is); (case k => k_is))
    (case d_deeds_of => refine' KS.At.of ?a ?l ?c ?k; (case a => k_is); (case l => k_is); (case c => k_is); (case k => k_is))
    (case d_cells_of => refine' KS.At.of ?a ?l ?c ?k; (case a => k_is); (case l => k_is); (case c => k_is); (case k => k_is))
    (case d_elder_part => refine' KS.At.of ?a ?l ?c ?k; (case a => k_is); (case l => k_is); (case c => k_is); (case k => k_is))
    (case d_meet => refine' KS.At.of ?a ?l ?c ?k; (case a => k_is); (case l => k_is); (case c => k_is); (case k => k_is))
    (case d_met_from => refine' KS.At.of ?a ?l ?c ?k; (case a => k_is); (case l => k_is); (case c => k_is); (case k => k_is))
    (case d_known => refine' KS.At.of ?a ?l ?c ?k; (case a => k_is); (case l => k_is); (case c => k_is); (case k => k_is))
    (case d_foremost => refine' KS.At.of ?a ?l ?c ?k; (case a => k_is); (case l => k_is); (case c => k_is); (case k => k_is))
    (case d_is_sound => refine' KS.At.of ?a ?l ?c ?k; (case a => k_is); (case l => k_is); (case c => k_is); (case k => k_is))
    (case d_need_family => refine' KS.At.of ?a ?l ?c ?k; (case a => k_is); (case l => k_is); (case c => k_is); (case k => k_is))
    (case d_need_kind => refine' KS.At.of ?a ?l ?c ?k; (case a => k_is); (case l => k_is); (case c => k_is); (case k => k_is))
    (case d_need_part => refine' KS.At.of ?a ?l ?c ?k; (case a => k_is); (case l => k_is); (case c => k_is); (case k => k_is))
    (case d_parts => refine' KS.At.of ?a ?l ?c ?k; (case a => k_is); (case l => k_is); (case c => k_is); (case k => k_is))
    (case d_inside => refine' KS.At.of ?a ?l ?c ?k; (case a => k_is); (case l => k_is); (case c => k_is); (case k => k_is))
    (case d_knows => refine' KS.At.of ?a ?l ?c ?k; (case a => k_is); (case l => k_is); (case c => k_is); (case k => k_is))
    (case d_doer => refine' KS.At.of ?a ?l ?c ?k; (case a => k_is); (case l => k_is); (case c => k_is); (case k => k_is))
    (case d_plain_elders => refine' KS.At.of ?a ?l ?c ?k; (case a => k_is); (case l => k_is); (case c => k_is); (case k => k_is))
    (case d_before_cells => refine' KS.At.of ?a ?l ?c ?k; (case a => k_is); (case l => k_is); (case c => k_is); (case k => k_is))
    (case d_body_size => refine' KS.At.of ?a ?l ?c ?k; (case a => k_is); (case l => k_is); (case c => k_is); (case k => k_is))
    (case d_plain_step => refine' KS.At.of ?a ?l ?c ?k; (case a => k_is); (case l => k_is); (case c => k_is); (case k => k_is))
    (case d_place => refine' KS.At.of ?a ?l ?c ?k; (case a => k_is); (case l => k_is); (case c => k_is); (case k => k_is))
    (case d_laid => refine' KS.At.of ?a ?l ?c ?k; (case a => k_is); (case l => k_is); (case c => k_is); (case k => k_is))
    (case d_own_cells => refine' KS.At.of ?a ?l ?c ?k; (case a => k_is); (case l => k_is); (case c => k_is); (case k => k_is))
    (case d_moved => refine' KS.At.of ?a ?l ?c ?k; (case a => k_is); (case l => k_is); (case c => k_is); (case k => k_is))
    (case d_step => refine' KS.At.of ?a ?l ?c ?k; (case a => k_is); (case l => k_is); (case c => k_is); (case k => k_is))
    (case d_known_by_kinds => refine' KS.At.of ?a ?l ?c ?k; (case a => k_is); (case l => k_is); (case c => k_is); (case k => k_is))
    (case d_can_be_asked => refine' KS.At.of ?a ?l ?c ?k; (case a => k_is); (case l => k_is); (case c => k_is); (case k => k_is))
    (case d_need_pairs => refine' KS.At.of ?a ?l ?c ?k; (case a => k_is); (case l => k_is); (case c => k_is); (case k => k_is))
    (case d_need_asked => refine' KS.At.of ?a ?l ?c ?k; (case a => k_is); (case l => k_is); (case c => k_is); (case k => k_is))
    (case d_numbered => refine' KS.At.of ?a ?l ?c ?k; (case a => k_is); (case l => k_is); (case c => k_is); (case k => k_is))
    (case d_first_parts => refine' KS.At.of ?a ?l ?c ?k; (case a => k_is); (case l => k_is); (case c => k_is); (case k => k_is))
    (case d_ways_from => refine' KS.At.of ?a ?l ?c ?k; (case a => k_is); (case l => k_is); (case c => k_is); (case k => k_is))
    (case d_rows_from => refine' KS.At.of ?a ?l ?c ?k; (case a => k_is); (case l => k_is); (case c => k_is); (case k => k_is))
    (case d_numbers => refine' KS.At.of ?a ?l ?c ?k; (case a => k_is); (case l => k_is); (case c => k_is); (case k => k_is))
    (case d_tables => refine' KS.At.of ?a ?l ?c ?k; (case a => k_is); (case l => k_is); (case c => k_is); (case k => k_is))
    (case d_call => refine' KS.At.of ?a ?l ?c ?k; (case a => k_is); (case l => k_is); (case c => k_is); (case k => k_is))
    (case d_led => refine' KS.At.of ?a ?l ?c ?k; (case a => k_is); (case l => k_is); (case c => k_is); (case k => k_is))
    (case d_reason => refine' KS.At.of ?a ?l ?c ?k; (case a => k_is); (case l => k_is); (case c => k_is); (case k => k_is))
    (case d_unlike => refine' KS.At.of ?a ?l ?c ?k; (case a => k_is); (case l => k_is); (case c => k_is); (case k => k_is))
    (case d_written_elder => refine' KS.At.of ?a ?l ?c ?k; (case a => k_is); (case l => k_is); (case c => k_is); (case k => k_is))
    (case d_written_kind => refine' KS.At.of ?a ?l ?c ?k; (case a => k_is); (case l => k_is); (case c => k_is); (case k => k_is))
    (case d_written => refine' KS.At.of ?a ?l ?c ?k; (case a => k_is); (case l => k_is); (case c => k_is); (case k => k_is))
    (case d_law_mix => refine' KS.At.of ?a ?l ?c ?k; (case a => k_is); (case l => k_is); (case c => k_is); (case k => k_is))
    (case d_law_next => refine' KS.At.of ?a ?l ?c ?k; (case a => k_is); (case l => k_is); (case c => k_is); (case k => k_is))
    (case d_law_alike => refine' KS.At.of ?a ?l ?c ?k; (case a => k_is); (case l => k_is); (case c => k_is); (case k => k_is))
    (case d_law_met => refine' KS.At.of ?a ?l ?c ?k; (case a => k_is); (case l => k_is); (case c => k_is); (case k => k_is))
    (case d_law_doer => refine' KS.At.of ?a ?l ?c ?k; (case a => k_is); (case l => k_is); (case c => k_is); (case k => k_is))
    (case d_law_knows => refine' KS.At.of ?a ?l ?c ?k; (case a => k_is); (case l => k_is); (case c => k_is); (case k => k_is))
    (case d_law_family => refine' KS.At.of ?a ?l ?c ?k; (case a => k_is); (case l => k_is); (case c => k_is); (case k => k_is))
    (case d_law_kind => refine' KS.At.of ?a ?l ?c ?k; (case a => k_is); (case l => k_is); (case c => k_is); (case k => k_is))
    (case d_law_bad => refine' KS.At.of ?a ?l ?c ?k; (case a => k_is); (case l => k_is); (case c => k_is); (case k => k_is))
    (case d_law_turned => refine' KS.At.of ?a ?l ?c ?k; (case a => k_is); (case l => k_is); (case c => k_is); (case k => k_is))
    (case d_law_deep => refine' KS.At.of ?a ?l ?c ?k; (case a => k_is); (case l => k_is); (case c => k_is); (case k => k_is))
    (case d_law_number => refine' KS.At.of ?a ?l ?c ?k; (case a => k_is); (case l => k_is); (case c => k_is); (case k => k_is))
    (case d_law_torn => refine' KS.At.of ?a ?l ?c ?k; (case a => k_is); (case l => k_is); (case c => k_is); (case k => k_is))
