import PyProof.Rows.All
import Wide.All
import OpenK.AllK
import Wide.FinOn
import HandS.ForMost
import HandS.Deep
import HandS.IsInst
import HandS.Evl
import HandS.Steps
import HandS.Zip
import HandS.TupAny
import HandS.Set
import HandS.SetFor
import HandS.SetTxt0
import KE.GoesMore
import HandS.Conv
import HandS.Walk
import HandS.List
import HandS.Dict
import HandS.Strs
import HandS.Text
import HandS.FStr
import HandS.Flow
import HandS.Lambda
import HandS.EndOwn
import KE.KExcIs
import KE.KIsAll
import HandS.WordsExc
import HandS.ExcOwn
import HandS.ExcInit
import HandS.ExcField
import HandS.DictTup
import KE.KItemsList
import PyProof.ListStr
import PySem.Challenge.RW_castslots_k13_texts_that_tell_no_family
set_option Elab.async false
set_option linter.all false
set_option maxRecDepth 100000
set_option maxHeartbeats 4000000
namespace KS
open PySem PySem.Spec PyProof.Rows L2 Evl
/-! ### data on the tracked heap -/
mutual
inductive D (H : Hp) : V → PyData → Prop
  | non : D H .non .none
  | bl (b : Bool) : D H (.bl b) (.bool b)
  | int (i : Int) : D H (.int i) (.int i)
  | str (x : Str) : D H (.str x) (.str x)
  | lst {a : Addr} {xs : List V} {ds : List PyData} : H a = some (.lst xs) → DA H xs ds → D H (.ref a) (.list ds)
  | tup {a : Addr} {xs : List V} {ds : List PyData} : H a = some (.tup xs) → DA H xs ds → D H (.ref a) (.tuple ds)
inductive DA (H : Hp) : List V → List PyData → Prop
  | nil : DA H [] []
  | cons {v : V} {vs : List V} {d : PyData} {ds : List PyData} : D H v d → DA H vs ds → DA H (v :: vs) (d :: ds)
end
section
variable {K : PySem.W.Frag} {H H' : Hp} {v : V} {d : PyData} {xs : List V} {ds : List PyData}
mutual
theorem D.dp : ∀ {v : V} {d : PyData}, D H v d → Dp K H v d
  | _, _, .non => .non
  | _, _, .bl b => .bl b
  | _, _, .int b => .int b
  | _, _, .str b => .str b
  | _, _, .lst h a => .lst (SqL.of h) a.dp
  | _, _, .tup h a => .tup (SqT.of h) a.dp
theorem DA.dp : ∀ {xs : List V} {ds : List PyData}, DA H xs ds → DpAll K H xs ds
  | _, _, .nil => .nil
  | _, _, .cons h t => .cons h.dp t.dp
end
mutual
theorem D.mono (e : Ex H H') : ∀ {v : V} {d : PyData}, D H v d → D H' v d
  | _, _, .non => .non
  | _, _, .bl b => .bl b
  | _, _, .int b => .int b
  | _, _, .str b => .str b
  | _, _, .lst h a => .lst (e _ _ h) (a.mono e)
  | _, _, .tup h a => .tup (e _ _ h) (a.mono e)
theorem DA.mono (e : Ex H H') : ∀ {xs : List V} {ds : List PyData}, DA H xs ds → DA H' xs ds
  | _, _, .nil => .nil
  | _, _, .cons h t => .cons (h.mono e) (t.mono e)
end
/-! data without a list -/
mutual
def flatT : PyData → Bool
  | .list _ => false
  | .tuple ds => flatTs ds
  | _ => true
def flatTs : List PyData → Bool
  | [] => true
  | d :: ds => flatT d && flatTs ds
end
/-- every tuple stays -/
def Tu (H H' : Hp) : Prop := ∀ a xs, H a = some (.tup xs) → H' a = some (.tup xs)
theorem Tu.refl (H : Hp) : Tu H H := fun _ _ h => h
theorem Tu.trans {H H1 H2 : Hp} (a : Tu H H1) (b : Tu H1 H2) : Tu H H2 := fun x o h => b x o (a x o h)
theorem tu_ex (e : Ex H H') : Tu H H' := fun a xs h => e a _ h
mutual
theorem D.keep (e : Tu H H') : ∀ {v : V} {d : PyData}, flatT d = true → D H v d → D H' v d
  | _, _, _, .non => .non
  | _, _, _, .bl b => .bl b
  | _, _, _, .int b => .int b
  | _, _, _, .str b => .str b
  | _, _, f, .lst h a => by cases f
  | _, _, f, .tup h a => .tup (e _ _ h) (DA.keep e (by simpa [flatT] using f) a)
theorem DA.keep (e : Tu H H') : ∀ {xs : List V} {ds : List PyData}, flatTs ds = true → DA H xs ds → DA H' xs ds
  | _, _, _, .nil => .nil
  | _, _, f, .cons h t => by
    rw [flatTs, Bool.and_eq_true] at f
    exact .cons (D.keep e f.1 h) (DA.keep e f.2 t)
end
theorem DA.len : ∀ {xs : List V} {ds : List PyData}, DA H xs ds → xs.length = ds.length
  | _, _, .nil => rfl
  | _, _, .cons _ t => congrArg (· + 1) t.len
theorem DA.get : ∀ {xs : List V} {ds : List PyData} {i : Nat} {d : PyData}, DA H xs ds → ds[i]? = some d → ∃ x, xs[i]? = some x ∧ D H x d
  | _, _, _, _, .nil, e => by simp at e
  | _, _, 0, _, .cons h _, e => by
    simp at e; subst e; exact ⟨_, rfl, h⟩
  | _, _, i + 1, d, .cons _ t, e => by
    obtain ⟨x, h1, h2⟩ := t.get (i := i) (d := d) (by simpa using e)
    exact ⟨x, by simpa using h1, h2⟩
theorem DA.get2 : ∀ {xs : List V} {ds : List PyData} {i : Nat} {x : V}, DA H xs ds → xs[i]? = some x → ∃ d, ds[i]? = some d ∧ D H x d
  | _, _, _, _, .nil, e => by simp at e
  | _, _, 0, _, .cons h _, e => by
    simp at e; subst e; exact ⟨_, rfl, h⟩
  | _, _, i + 1, d, .cons _ t, e => by
    obtain ⟨x, h1, h2⟩ := t.get2 (i := i) (x := d) (by simpa using e)
    exact ⟨x, by simpa using h1, h2⟩
theorem DA.append : ∀ {xs ys : List V} {ds es : List PyData}, DA H xs ds → DA H ys es → DA H (xs ++ ys) (ds ++ es)
  | _, _, _, _, .nil, b => b
  | _, _, _, _, .cons h t, b => .cons h (t.append b)
theorem DA.one (h : D H v d) : DA H [v] [d] := .cons h .nil
theorem DA.take : ∀ {xs : List V} {ds : List PyData} (n : Nat), DA H xs ds → DA H (xs.take n) (ds.take n)
  | _, _, 0, _ => .nil
  | _, _, _ + 1, .nil => .nil
  | _, _, n + 1, .cons h t => .cons h (t.take n)
theorem DA.drop : ∀ {xs : List V} {ds : List PyData} (n : Nat), DA H xs ds → DA H (xs.drop n) (ds.drop n)
  | _, _, 0, h => h
  | _, _, _ + 1, .nil => .nil
  | _, _, n + 1, .cons _ t => t.drop n
theorem DA.at {i : Int} (h : DA H xs ds) (e : atI ds i = some d) : ∃ x, atI xs i = some x ∧ D H x d := by
  unfold atI at e ⊢
  rw [h.len]
  cases q : ixN ds.length i with
  | none => rw [q] at e; cases e
  | some j =>
    rw [q] at e
    obtain ⟨x, h1, h2⟩ := h.get (show ds[j]? = some d from e)
    exact ⟨x, h1, h2⟩
theorem D.toInt {i : Int} (h : D H v (.int i)) : v = .int i := by cases h; rfl
theorem D.toBool {b : Bool} (h : D H v (.bool b)) : v = .bl b := by cases h; rfl
theorem D.toStr {s : Str} (h : D H v (.str s)) : v = .str s := by cases h; rfl
theorem D.toNone (h : D H v .none) : v = .non := by cases h; rfl
theorem D.toTup (h : D H v (.tuple ds)) : ∃ a xs, v = .ref a ∧ H a = some (.tup xs) ∧ DA H xs ds := by
  cases h with
  | tup h t => exact ⟨_, _, rfl, h, t⟩
theorem D.toLst (h : D H v (.list ds)) : ∃ a xs, v = .ref a ∧ H a = some (.lst xs) ∧ DA H xs ds := by
  cases h with
  | lst h t => exact ⟨_, _, rfl, h, t⟩
theorem DA.strs : ∀ {xs : List V} {ss : List Str}, DA H xs (ss.map PyData.str) → xs = ss.map V.str
  | _, [], .nil => rfl
  | _, s :: ss, .cons h t => by rw [h.toStr, t.strs]; rfl
theorem DA.ints : ∀ {xs : List V} {ss : List Int}, DA H xs (ss.map PyData.int) → xs = ss.map V.int
  | _, [], .nil => rfl
  | _, s :: ss, .cons h t => by rw [h.toInt, t.ints]; rfl
theorem DA.bools : ∀ {xs : List V} {ss : List Bool}, DA H xs (ss.map PyData.bool) → xs = ss.map V.bl
  | _, [], .nil => rfl
  | _, s :: ss, .cons h t => by rw [h.toBool, t.bools]; rfl
theorem DA.ofInts : ∀ (ss : List Int), DA H (ss.map V.int) (ss.map PyData.int)
  | [] => .nil
  | s :: ss => .cons (.int s) (DA.ofInts ss)
theorem DA.ofStrs : ∀ (ss : List Str), DA H (ss.map V.str) (ss.map PyData.str)
  | [] => .nil
  | s :: ss => .cons (.str s) (DA.ofStrs ss)
end
/-! ### what an expression tells, as data -/
def ED (te : TE) (σ : L2.St) (H : Hp) (d : PyData) : Prop := ∀ H1, Ex H H1 → ∀ Q : VK, (∀ v H2, Ex H1 H2 → D H2 v d → Q v H2) → te σ H1 Q
/-- a new list -/
def EL (te : TE) (σ : L2.St) (H : Hp) (ds : List PyData) : Prop := ∀ H1, Ex H H1 → ∀ Q : VK, (∀ p xs H2, H1 p = none → Ex H1 H2 → H2 p = some (.lst xs) → DA H2 xs ds → Q (.ref p) H2) → te σ H1 Q
def EAs (ta : TA) (σ : L2.St) (H : Hp) (ds : List PyData) : Prop := ∀ H1, Ex H H1 → ∀ Q : List V → Hp → Prop, (∀ vs H2, Ex H1 H2 → DA H2 vs ds → Q vs H2) → ta σ H1 Q
section
variable {K : PySem.W.Frag} {σ : L2.St} {H H' : Hp} {ta tb te tx : TE} {t u : TT} {v : V} {r : R2} {d d' : PyData} {ds es : List PyData}
theorem ED.mono (e : Ex H H') (h : ED te σ H d) : ED te σ H' d := fun H1 a Q q => h H1 (e.trans a) Q q
theorem EL.ed (h : EL te σ H ds) : ED te σ H (.list ds) := fun H1 e Q q => h H1 e Q fun p xs H2 _ e2 h2 a => q _ H2 e2 (.lst h2 a)
theorem ed_var {i : Nat} (h : σ[i]? = some (some v)) (hd : D H v d) : ED (tVar i) σ H d := fun H1 e _ q => ⟨v, h, q v H1 (Ex.refl H1) (hd.mono e)⟩
theorem ed_c (h : ∀ H : Hp, D H v d) : ED (tC v) σ H d := fun H1 _ _ q => q v H1 (Ex.refl H1) (h H1)
theorem ed_ci (i : Int) : ED (tC (.int i)) σ H (.int i) := ed_c fun _ => .int i
theorem ed_cs (s : Str) : ED (tC (.str s)) σ H (.str s) := ed_c fun _ => .str s
theorem ed_cb (b : Bool) : ED (tC (.bl b)) σ H (.bool b) := ed_c fun _ => .bl b
theorem ed_cn : ED (tC .non) σ H .none := ed_c fun _ => .non
theorem ed_is (h : ED te σ H d) (e : d = d') : ED te σ H d' := e ▸ h
theorem ed_bin {f : Hp → Prop} (ha : ED ta σ H d) (hb : ED tb σ H d') {z : PyData} (hr : ∀ x y H1, Ex H H1 → D H1 x d → D H1 y d' → ∀ Q : VK, (∀ v H2, Ex H1 H2 → D H2 v z → Q v H2) → r x y H1 Q) : ED (tOp r ta tb) σ H z := fun H1 e Q q =>
  ha H1 e _ fun x H2 e2 hx => hb H2 (e.trans e2) _ fun y H3 e3 hy => hr x y H3 ((e.trans e2).trans e3) (hx.mono e3) hy Q fun v H4 e4 hv => q v H4 ((e2.trans e3).trans e4) hv
theorem ed_bin' (ha : ED ta σ H d) (hb : ED tb σ H d') {z : PyData} (hr : ∀ x y H1, Ex H H1 → D H1 x d → D H1 y d' → ∀ Q : VK, (∀ v H2, Ex H1 H2 → D H2 v z → Q v H2) → r x y H1 Q) : ED (tOp r ta tb) σ H z := ed_bin (f := fun _ => True) ha hb hr
theorem ed_I0 {g : Int → Int → V} {i j : Int} (ha : ED ta σ H (.int i)) (hb : ED tb σ H (.int j)) (hg : ∀ H : Hp, D H (g i j) d) : ED (tOp (rI0 g) ta tb) σ H d := ed_bin' ha hb fun x y H1 _ hx hy Q q =>
  ⟨i, j, hx.toInt, hy.toInt, q _ H1 (Ex.refl H1) (hg H1)⟩
theorem ed_I {C : Int → Int → Prop} {g : Int → Int → V} {i j : Int} (ha : ED ta σ H (.int i)) (hb : ED tb σ H (.int j)) (hc : C i j) (hg : ∀ H : Hp, D H (g i j) d) : ED (tOp (rI C g) ta tb) σ H d := ed_bin' ha hb fun x y H1 _ hx hy Q q =>
  ⟨i, j, hx.toInt, hy.toInt, hc, q _ H1 (Ex.refl H1) (hg H1)⟩
theorem ed_ixT {i : Int} (ha : ED ta σ H (.tuple ds)) (hb : ED tb σ H (.int i)) (hd : atI ds i = some d) : ED (tOp (rIxT K) ta tb) σ H d := ed_bin' ha hb fun x y H1 _ hx hy Q q => by
  obtain ⟨a, xs, rfl, h1, h2⟩ := hx.toTup
  obtain ⟨z, h3, h4⟩ := h2.at hd
  exact ⟨a, xs, i, z, rfl, hy.toInt, SqT.of h1, h3, q z H1 (Ex.refl H1) h4⟩
theorem ed_ixL {i : Int} (ha : ED ta σ H (.list ds)) (hb : ED tb σ H (.int i)) (hd : atI ds i = some d) : ED (tOp (rIxL K) ta tb) σ H d := ed_bin' ha hb fun x y H1 _ hx hy Q q => by
  obtain ⟨a, xs, rfl, h1, h2⟩ := hx.toLst
  obtain ⟨z, h3, h4⟩ := h2.at hd
  exact ⟨a, xs, i, z, rfl, hy.toInt, SqL.of h1, h3, q z H1 (Ex.refl H1) h4⟩
theorem ed_eqD (ha : ED ta σ H d) (hb : ED tb σ H d') (s1 : SeqAt.shaped d = true) (s2 : SeqAt.shaped d' = true) : ED (tOp (rEqD K) ta tb) σ H (.bool (PyData.eqv d d')) := ed_bin' ha hb fun x y H1 _ hx hy Q q =>
  ⟨d, d', hx.dp, hy.dp, s1, s2, q _ H1 (Ex.refl H1) (.bl _)⟩
theorem ed_neD (ha : ED ta σ H d) (hb : ED tb σ H d') (s1 : SeqAt.shaped d = true) (s2 : SeqAt.shaped d' = true) : ED (tOp (rNeD K) ta tb) σ H (.bool (!PyData.eqv d d')) := ed_bin' ha hb fun x y H1 _ hx hy Q q =>
  ⟨d, d', hx.dp, hy.dp, s1, s2, q _ H1 (Ex.refl H1) (.bl _)⟩
theorem ed_inD (ha : ED ta σ H d) (hb : ED tb σ H (.list ds)) (s1 : SeqAt.shaped d = true) (s2 : SeqAt.shaped (.list ds) = true) : ED (tOp (rInD K) ta tb) σ H (.bool (ds.any fun z => PyData.eqv z d)) := ed_bin' ha hb fun x y H1 _ hx hy Q q =>
  ⟨d, ds, hx.dp, hy.dp, s1, s2, q _ H1 (Ex.refl H1) (.bl _)⟩
theorem ed_notInD (ha : ED ta σ H d) (hb : ED tb σ H (.list ds)) (s1 : SeqAt.shaped d = true) (s2 : SeqAt.shaped (.list ds) = true) : ED (tOp (rNotInD K) ta tb) σ H (.bool (!ds.any fun z => PyData.eqv z d)) := ed_bin' ha hb fun x y H1 _ hx hy Q q =>
  ⟨d, ds, hx.dp, hy.dp, s1, s2, q _ H1 (Ex.refl H1) (.bl _)⟩
/-- scalars -/
def scalD : PyData → Bool
  | .none | .bool _ | .int _ | .str _ => true
  | _ => false
theorem ed_inS {c : Nat} {z : Str} (ha : ED ta σ H (.str ⟨#[c]⟩)) (hb : ED tb σ H (.str z)) : ED (tOp rInS ta tb) σ H (.bool (decide (c ∈ z.cps.toList))) := ed_bin' ha hb fun x y H1 _ hx hy Q q =>
  ⟨c, z, hx.toStr, hy.toStr, q _ H1 (Ex.refl H1) (.bl _)⟩
def isND : PyData → Bool
  | .none => true
  | _ => false
theorem ed_isN {b : Bool} (ha : ED ta σ H d) (hb : isND d = b) : ED (tOp rIsN ta (tC .non)) σ H (.bool b) := ed_bin' ha ed_cn fun x y H1 _ hx hy Q q =>
  ⟨hy.toNone, by
    have e : decide (x = V.non) = b := by
      subst hb
      cases hx <;> simp [isND]
    rw [e]
    exact q _ H1 (Ex.refl H1) (.bl _)⟩
theorem ed_notN {b : Bool} (ha : ED ta σ H d) (hb : (!isND d) = b) : ED (tOp rNotN ta (tC .non)) σ H (.bool b) := ed_bin' ha ed_cn fun x y H1 _ hx hy Q q =>
  ⟨hy.toNone, by
    have e : (!decide (x = V.non)) = b := by
      subst hb
      cases hx <;> simp [isND]
    rw [e]
    exact q _ H1 (Ex.refl H1) (.bl _)⟩
theorem ed_eqS {s s' : Str} (ha : ED ta σ H (.str s)) (hb : ED tb σ H (.str s')) : ED (tOp rEq ta tb) σ H (.bool (decide (s = s'))) := ed_bin' ha hb fun x y H1 _ hx hy Q q => by
  have e1 := hx.toStr
  have e2 := hy.toStr
  subst e1 e2
  refine ⟨rfl, ?_⟩
  have e : decide (V.str s = V.str s') = decide (s = s') := by
    by_cases h : s = s'
    · subst h; simp
    · rw [decide_eq_false h]; exact decide_eq_false (fun z => h (V.str.inj z))
  rw [e]
  exact q _ H1 (Ex.refl H1) (.bl _)
theorem ed_eqI {s s' : Int} (ha : ED ta σ H (.int s)) (hb : ED tb σ H (.int s')) : ED (tOp rEq ta tb) σ H (.bool (decide (s = s'))) := ed_bin' ha hb fun x y H1 _ hx hy Q q => by
  have e1 := hx.toInt
  have e2 := hy.toInt
  subst e1 e2
  refine ⟨rfl, ?_⟩
  have e : decide (V.int s = V.int s') = decide (s = s') := by
    by_cases h : s = s'
    · subst h; simp
    · rw [decide_eq_false h]; exact decide_eq_false (fun z => h (V.int.inj z))
  rw [e]
  exact q _ H1 (Ex.refl H1) (.bl _)
theorem ed_neI {s s' : Int} (ha : ED ta σ H (.int s)) (hb : ED tb σ H (.int s')) : ED (tOp rNe ta tb) σ H (.bool (!decide (s = s'))) := ed_bin' ha hb fun x y H1 _ hx hy Q q => by
  have e1 := hx.toInt
  have e2 := hy.toInt
  subst e1 e2
  refine ⟨rfl, ?_⟩
  have e : decide (V.int s = V.int s') = decide (s = s') := by
    by_cases h : s = s'
    · subst h; simp
    · rw [decide_eq_false h]; exact decide_eq_false (fun z => h (V.int.inj z))
  rw [e]
  exact q _ H1 (Ex.refl H1) (.bl _)
theorem ed_eqB {s s' : Bool} (ha : ED ta σ H (.bool s)) (hb : ED tb σ H (.bool s')) : ED (tOp rEq ta tb) σ H (.bool (decide (s = s'))) := ed_bin' ha hb fun x y H1 _ hx hy Q q => by
  have e1 := hx.toBool
  have e2 := hy.toBool
  subst e1 e2
  refine ⟨rfl, ?_⟩
  have e : decide (V.bl s = V.bl s') = decide (s = s') := by cases s <;> cases s' <;> rfl
  rw [e]
  exact q _ H1 (Ex.refl H1) (.bl _)
theorem ed_neB {s s' : Bool} (ha : ED ta σ H (.bool s)) (hb : ED tb σ H (.bool s')) : ED (tOp rNe ta tb) σ H (.bool (!decide (s = s'))) := ed_bin' ha hb fun x y H1 _ hx hy Q q => by
  have e1 := hx.toBool
  have e2 := hy.toBool
  subst e1 e2
  refine ⟨rfl, ?_⟩
  have e : decide (V.bl s = V.bl s') = decide (s = s') := by cases s <;> cases s' <;> rfl
  rw [e]
  exact q _ H1 (Ex.refl H1) (.bl _)
/-! arguments, displays, calls -/
theorem eas_nil : EAs tNil σ H [] := fun H1 _ _ q => q [] H1 (Ex.refl H1) .nil
theorem eas_cons {tr : TA} (h : ED ta σ H d) (hr : EAs tr σ H ds) : EAs (tCons ta tr) σ H (d :: ds) := fun H1 e _ q =>
  h H1 e _ fun v H2 e2 hv => hr H2 (e.trans e2) _ fun vs H3 e3 ha => q _ H3 (e2.trans e3) (.cons (hv.mono e3) ha)
theorem eas1 (h : ED ta σ H d) : EAs (tCons ta tNil) σ H [d] := eas_cons h eas_nil
theorem eas2 (h : ED ta σ H d) (h2 : ED tb σ H d') : EAs (tCons ta (tCons tb tNil)) σ H [d, d'] := eas_cons h (eas1 h2)
theorem ed_tup {ta : TA} (h : EAs ta σ H ds) (hl : ds.length ≤ 100000) : ED (tTup ta) σ H (.tuple ds) := fun H1 e _ q =>
  h H1 e _ fun vs H2 e2 ha => ⟨sz_of (by rw [ha.len]; exact hl), fun p hp => q _ _ (e2.trans (Ex.new hp)) (.tup upd_same (ha.mono (Ex.new hp)))⟩
theorem el_lst' {ta : TA} (h : EAs ta σ H ds) (hl : ds.length ≤ 100000) : EL (tLst ta) σ H ds := fun H1 e _ q =>
  h H1 e _ fun vs H2 e2 ha => ⟨sz_of (by rw [ha.len]; exact hl), fun p hp => q p vs _ (fresh_back e2 hp) (e2.trans (Ex.new hp)) upd_same (ha.mono (Ex.new hp))⟩
def spD (R : List PyData → PyData → Prop) : Sp := fun vs H Q _ => ∃ ds d, DA H vs ds ∧ R ds d ∧ ∀ v H', Ex H H' → D H' v d → Q v H'
def spL (R : List PyData → List PyData → Prop) : Sp := fun vs H Q _ => ∃ ds es, DA H vs ds ∧ R ds es ∧ ∀ p xs H', H p = none → Ex H H' → H' p = some (.lst xs) → DA H' xs es → Q (.ref p) H'
theorem ed_call {R : List PyData → PyData → Prop} {E : XK} {ta : TA} (h : EAs ta σ H ds) (hR : R ds d) : ED (tCall (spD R) [] E ta) σ H d := fun H1 e Q q =>
  h H1 e _ fun vs H2 e2 ha => ⟨ds, d, by rw [List.append_nil]; exact ha, hR, fun v H3 e3 hv => q v H3 (e2.trans e3) hv⟩
theorem el_call' {R : List PyData → List PyData → Prop} {E : XK} {ta : TA} (h : EAs ta σ H ds) (hR : R ds es) : EL (tCall (spL R) [] E ta) σ H es := fun H1 e Q q =>
  h H1 e _ fun vs H2 e2 ha => ⟨ds, es, by rw [List.append_nil]; exact ha, hR, fun p xs H3 hp e3 hv a => q p xs H3 (fresh_back e2 hp) (e2.trans e3) hv a⟩
/-! tests -/
theorem ev_bool {b : Bool} (h : ED te σ H (.bool b)) : Ev te σ H (.bl b) := fun H1 e Q q => h H1 e Q fun v H2 e2 hv => by
  rw [hv.toBool]; exact q H2 e2
theorem et_D {b : Bool} (h : ED te σ H (.bool b)) : EvT (tTest te) σ H b := et_test (ev_bool h)
theorem et_DB {b : Bool} (h : ED te σ H (.bool b)) : EvT (tB te) σ H b := et_B (ev_bool h)
theorem ed_ofBool {b : Bool} (h : Ev te σ H (.bl b)) : ED te σ H (.bool b) := fun H1 e Q q => h H1 e Q fun H2 e2 => q _ H2 e2 (.bl b)
theorem ed_andV {a b : Bool} (h1 : ED ta σ H (.bool a)) (h2 : a = true → ED tb σ H (.bool b)) : ED (tAndV ta tb) σ H (.bool (a && b)) := ed_ofBool (ev_andV (ev_bool h1) fun e => ev_bool (h2 e))
theorem ed_orV {a b : Bool} (h1 : ED ta σ H (.bool a)) (h2 : a = false → ED tb σ H (.bool b)) : ED (tOrV ta tb) σ H (.bool (a || b)) := ed_ofBool (ev_orV (ev_bool h1) fun e => ev_bool (h2 e))
theorem ed_notV {a : Bool} (h1 : ED ta σ H (.bool a)) : ED (tNotV ta) σ H (.bool (!a)) := ed_ofBool (ev_notV (ev_bool h1))
theorem ed_if {b : Bool} (h : EvT t σ H b) (h1 : b = true → ED ta σ H d) (h2 : b = false → ED tb σ H d) : ED (tIf t ta tb) σ H d := fun H1 e Q q => h H1 e _ fun H2 e2 => by
  cases b with
  | true => exact h1 rfl H2 (e.trans e2) Q fun v H3 e3 hv => q v H3 (e2.trans e3) hv
  | false => exact h2 rfl H2 (e.trans e2) Q fun v H3 e3 hv => q v H3 (e2.trans e3) hv
/-! statements -/
variable {Dn : Ends} {tu tw : TS} {g : TG}
theorem sd_ret (h : ED te σ H d) (k : ∀ v H1, Ex H H1 → D H1 v d → Dn.rt v H1) : tRet te Dn σ H := h H (Ex.refl H) _ fun v H1 e hv => k v H1 e hv
theorem sl_ret (h : EL te σ H ds) (k : ∀ p xs H1, H p = none → Ex H H1 → H1 p = some (.lst xs) → DA H1 xs ds → Dn.rt (.ref p) H1) : tRet te Dn σ H := h H (Ex.refl H) _ k
theorem sd_asg {i : Nat} (h : ED te σ H d) (k : ∀ v H1, Ex H H1 → D H1 v d → Dn.nx (σ.set i (some v)) H1) : tAsg te (gName i) Dn σ H := h H (Ex.refl H) _ fun v H1 e hv => k v H1 e hv
theorem sl_asg {i : Nat} (h : EL te σ H ds) (k : ∀ p xs H1, H p = none → Ex H H1 → H1 p = some (.lst xs) → DA H1 xs ds → Dn.nx (σ.set i (some (.ref p))) H1) : tAsg te (gName i) Dn σ H := h H (Ex.refl H) _ k
theorem sd_if {b : Bool} (h : EvT t σ H b) (h1 : b = true → ∀ H1, Ex H H1 → tu Dn σ H1) (h2 : b = false → ∀ H1, Ex H H1 → tw Dn σ H1) : tIfS t tu tw Dn σ H := s_if h h1 h2
end
end KS
noncomputable section
namespace KS
open PySem PySem.Spec PyProof.Rows L2
open PySem.Froz (SD sObj addTx tailTx sing runD TxOk add_ok code_update itObj finU two itEnd tupObj stopObj)
/-! ### a set of signs, made of a text -/
def TabOk (b : Bool) (Z : SD) : Prop := Ris Z.2.2.place.toList ∧ Z.2.2.led = b
theorem tab_add {b : Bool} {Z : SD} (h : Int) (v : Value) (q : TabOk b Z) : TabOk b (addTx h v Z) := by
  obtain ⟨xs, n, tb⟩ := Z
  obtain ⟨q1, q2⟩ := q
  have r1 := layNew_ris tb xs h v q1
  have r2 := (layNew_led tb xs h v).trans q2
  unfold addTx tailTx
  dsimp only
  generalize layNew tb xs h v = N at r1 r2 ⊢
  have r3 : Ris (if N.2.1.plain = true then { N.2.1 with plain := false } else N.2.1).place.toList := by
    split
    · exact r1
    · exact r1
  have r4 : (if N.2.1.plain = true then { N.2.1 with plain := false } else N.2.1).led = b := by
    split
    · exact r2
    · exact r2
  generalize (if N.2.1.plain = true then { N.2.1 with plain := false } else N.2.1) = M at r3 r4 ⊢
  split
  · exact ⟨relayAll_ris M N.1 _, (relayAll_led M N.1 _).trans r4⟩
  · exact ⟨r3, r4⟩
theorem tab_run {w : World} {b : Bool} : ∀ (cs : List Nat) (k : Tok) (Z : SD), TabOk b Z → TabOk b (runD w cs k Z)
  | [], _, _, q => q
  | c :: cs, k, Z, q => tab_run cs (k + 2) _ (tab_add _ _ q)
theorem run_holds {P : Program} {w : World} : ∀ (cs : List Nat) (k : Tok) (Z : SD) (l : List Str), TxOk P w Z l → TxOk P w (runD w cs k Z) ((cs.map sing).reverse ++ l)
  | [], _, _, _, q => q
  | c :: cs, k, Z, l, q => by
    have r := run_holds (P := P) (w := w) cs (k + 2) _ (sing c :: l) (add_ok (k := sing c) k q)
    rw [List.map_cons, List.reverse_cons, List.append_assoc]
    exact r
/-- at a stands a set of the texts l -/
def STx (P : Program) (w : World) (h : Heap) (a : Addr) (l : List Str) : Prop :=
  ∃ Z : SD, h.get? a = some (sObj "set" Z) ∧ TxOk P w Z l ∧ l.length < 64 ∧ TabOk (!w.params.followText "set-order") Z
section
variable {P : Program} {w : World} {A : Around} {E : Value → Shared → Prop} {s : Shared}
theorem pushed {h : Heap} {b : Addr} {o u : Obj} (e : h.get? b = some o) : (h.push u).get? b = some o := Heap.get?_push_of_some _ e
set_option maxHeartbeats 8000000 in
theorem call_set_text {x : Str} {u : Tok} {Q : Value → Shared → Prop} (quiet : A.handled = none) (asc : x.cps.all (· < 128) = true) (nd : x.cps.toList.Nodup) (few : x.cps.toList.length < 64)
    (fin : ∀ (h' : Heap) (tk : Nat), STx P w h' s.heap.objs.size ((x.cps.toList.map sing).reverse) → (∀ b o, s.heap.get? b = some o → h'.get? b = some o) → Q (.ref s.heap.objs.size) { s with heap := h', toks := tk }) :
    wpAny (model P w) A (call (.type "set") [.str x u]) Q E s := by
  let lb : Bool := !w.params.followText "set-order"
  let Z0 : SD := (#[], 0, .fresh 0 0 lb)
  obtain ⟨c, tl, hmro⟩ := F.called_set.mro
  have madeF := F.called_set.made
  have subF := F.called_set.sub
  refine wpAny_call (codeAny_of_tree ?_)
  show wpAny _ _ (callAny (.type "set") ⟨[.str x u], []⟩) _ _ s
  refine wpAny_pure ⟨Code.quiet_builtin _ (by decide +kernel), codeAny_builtin F.entry_type_call ?_⟩
  rw [Around.under_plain (weight_type_call_type "set" [.str x u] []) rfl]
  have n1 := F.called_set.notType
  have n2 := F.called_set.canCreate
  have n3 := F.typeCall_set_1 (.str x u)
  repeat (any_goals (first | assumption | wp_step))
  refine codeAny_mono (code_set_led1 (.str x u) (E := E) (Q₁ := fun ob t => ob = .ref s.heap.objs.size ∧ t = { s with heap := s.heap.push (sObj "set" Z0) }) ⟨rfl, rfl⟩) fun r t hr => ?_
  cases r with
  | error e => exact hr
  | ok fl =>
    cases fl with
    | ret ob =>
      obtain ⟨rfl, rfl⟩ := hr
      have here : (s.heap.push (sObj "set" Z0)).get? s.heap.objs.size = some (sObj "set" Z0) := Heap.get?_push_size _ rfl
      have isSet : Shared.TypeIs { s with heap := s.heap.push (sObj "set" Z0) } (.ref s.heap.objs.size) "set" := ⟨_, here, rfl⟩
      have i1 := F.called_set.init.lookup
      have i2 := F.called_set.init.bind (.ref s.heap.objs.size)
      repeat (any_goals (first | assumption | wp_step))
      refine codeAny_mono (codeAny_call_builtin (R := wants (fun r t₂ => r = .none ∧ ∃ h' tk, t₂ = { s with heap := h', toks := tk } ∧ STx P w h' s.heap.objs.size ((x.cps.toList.map sing).reverse) ∧
          (∀ b o, s.heap.get? b = some o → h'.get? b = some o)) E) F.called_set.init.plain F.entry_set_init (check_set_init_1 isSet ?_)) fun r₂ t₂ hr₂ => ?_
      · have k1 := F.sub_str_set
        have k2 := F.sub_str_frozenset
        have k3 : (Value.type "str" == Value.type "dict") = false := by decide
        unfold Builtin.«set.__init__» noKeywords Builtin.Frozenset.updateFrom
        generalize hPI : pyIter = PI
        wp_walk
        subst hPI
        have far : s.heap.objs.size ≠ (s.heap.push (sObj "set" Z0)).objs.size := by
          rw [Heap.size_push]; exact Nat.ne_of_lt (Nat.lt_succ_self _)
        have t0 : TxOk P w Z0 [] := TxOk.nil (by rfl)
        have b0 : TabOk lb Z0 := ⟨List.Pairwise.nil, rfl⟩
        have q3 : A.in1.in1.in1.handled = none := by simp [quiet]
        refine wpAny_pyIter_ascii asc ?_
        refine wpAny_bind (wpAny_runValue ?_)
        refine code_update (T := "set") (x := x) (u := u) (l := []) far (by first | exact q3 | simp [quiet]) x.cps.toList 0 Z0 _ rfl (pushed here) (Heap.get?_push_size _ rfl) t0 (fun c _ z => nomatch z) nd (Nat.lt_trans (by rw [List.length_nil, Nat.zero_add]; exact few) (by decide)) ?_
        have t1 := run_holds (P := P) (w := w) x.cps.toList s.toks Z0 [] t0
        have b1 := tab_run (w := w) x.cps.toList s.toks Z0 b0
        rw [List.append_nil] at t1
        generalize runD w x.cps.toList s.toks Z0 = Z1 at t1 b1 ⊢
        show wpAny _ _ (pure ()) _ _ _
        refine wpAny_pure ?_
        show wpAny _ _ (ret Value.none) _ _ _
        refine wpAny_pure ⟨rfl, _, _, rfl, ⟨Z1, ?_, t1, by rw [List.length_reverse, List.length_map]; exact few, b1⟩, fun b o e => ?_⟩
        · refine pushed (pushed ?_)
          exact Heap.get?_update_of_ne _ (Ne.symm far) (Froz.get_upd _ (pushed here) rfl)
        · have lt := Heap.lt_size e
          have ne1 : s.heap.objs.size ≠ b := Nat.ne_of_gt lt
          have ne2 : (s.heap.push (sObj "set" Z0)).objs.size ≠ b := by
            rw [Heap.size_push]; exact Nat.ne_of_gt (Nat.lt_succ_of_lt lt)
          refine pushed (pushed ?_)
          exact Heap.get?_update_of_ne _ ne2 (Heap.get?_update_of_ne _ ne1 (pushed (pushed e)))
      · cases r₂ with
        | error e => exact hr₂
        | ok fl₂ =>
          cases fl₂ with
          | ret r =>
            obtain ⟨rfl, h', tk, rfl, z1, z2⟩ := hr₂
            repeat (any_goals (first | assumption | wp_step))
            exact fin _ _ z1 z2
          | _ => exact hr₂.elim
    | _ => exact hr.elim
/-! ### sorted of it -/
theorem vals_str {P : Program} {w : World} : ∀ (l : List (Int × Value)), ElemsOf (strKind P w) l → ∃ ks : List Str, StrsAre (l.map (·.2)) ks ∧ ∀ k, k ∈ ks ↔ ∃ e ∈ l, (strKind P w).is k e.2 = true
  | [], _ => ⟨[], .nil, fun k => by simp⟩
  | e :: l, g => by
    obtain ⟨⟨k, hk, _⟩, _⟩ := g e List.mem_cons_self
    obtain ⟨t, ev⟩ := Value.isStrOf_shape (x := k) (v := e.2) hk
    obtain ⟨ks, h1, h2⟩ := vals_str l (fun d hd => g d (List.mem_cons_of_mem _ hd))
    refine ⟨k :: ks, ?_, fun j => ?_⟩
    · rw [List.map_cons, ev]
      exact .cons k t h1
    · rw [List.mem_cons, h2]
      constructor
      · rintro (rfl | ⟨d, hd, q⟩)
        · exact ⟨e, List.mem_cons_self, hk⟩
        · exact ⟨d, List.mem_cons_of_mem _ hd, q⟩
      · rintro ⟨d, hd, q⟩
        rcases List.mem_cons.mp hd with rfl | hd
        · exact .inl ((strKind P w).inj _ _ _ q hk)
        · exact .inr ⟨d, hd, q⟩
theorem perm_fit {α : Type} [BEq α] [LawfulBEq α] : ∀ (l ks : List α), l.Nodup → (∀ k ∈ l, k ∈ ks) → ks.length ≤ l.length → l.Perm ks
  | [], ks, _, _, h => by
    have e : ks = [] := List.eq_nil_of_length_eq_zero (Nat.le_zero.mp h)
    rw [e]
  | x :: r, ks, nd, sub, h => by
    obtain ⟨n1, n2⟩ := List.nodup_cons.mp nd
    have hx : x ∈ ks := sub x List.mem_cons_self
    have p := List.perm_cons_erase hx
    have hl := p.length_eq
    rw [List.length_cons] at hl h
    refine List.Perm.trans (List.Perm.cons x (perm_fit r (ks.erase x) n2 (fun y hy => ?_) (by omega))) p.symm
    have ne : y ≠ x := fun e => n1 (e ▸ hy)
    exact (List.mem_erase_of_ne ne).mpr (sub y (List.mem_cons_of_mem _ hy))
theorem strs_perm {vs us : List Value} {ks : List Str} (p : vs.Perm us) (g : StrsAre us ks) : ∃ ws : List Str, StrsAre vs ws ∧ ws.Perm ks := by
  induction p generalizing ks with
  | nil => cases g; exact ⟨[], .nil, .refl _⟩
  | cons x p ih =>
    cases g with
    | cons k t h =>
      obtain ⟨ws, h1, h2⟩ := ih h
      exact ⟨_, .cons k t h1, .cons k h2⟩
  | swap x y l =>
    cases g with
    | cons k t h =>
      cases h with
      | cons k' t' h =>
        exact ⟨_, .cons k' t' (.cons k t h), .swap _ _ _⟩
  | trans p q ih1 ih2 =>
    obtain ⟨ws, h1, h2⟩ := ih2 g
    obtain ⟨us, h3, h4⟩ := ih1 h1
    exact ⟨us, h3, h4.trans h2⟩
theorem sorted_text {a : Addr} {l : List Str} {Q : Value → Shared → Prop} (R : STx P w s.heap a l) (nd : l.Nodup) (quiet : A.handled = none)
    (fin : ∀ s' p (out : Array Value) (c : Nat) (ys : List Str), (∀ b o, s.heap.get? b = some o → s'.heap.get? b = some o) → s'.gens = s.gens → s'.os = s.os → s.heap.objs.size ≤ p →
      s'.heap.get? p = some (seqObj "list" out c) → StrsAre out.toList ys → sortedS ys = true → ys.Perm l → Q (.ref p) s') :
    wpAny (model P w) A (call (.builtin "sorted") [.ref a]) Q E s := by
  obtain ⟨⟨es, ep, tb⟩, here, T, few, tabs⟩ := R
  have Tel : ElemsOf (strKind P w) es.toList := T.el
  have Tsz : es.size = l.length := T.sz
  have Tfit : tb.fits es.size = true := T.fit
  have Tmem : ∀ k : Str, k ∈ l ↔ ∃ e ∈ es.toList, (strKind P w).is k e.2 = true := T.mem
  obtain ⟨ks, g1, g2⟩ := vals_str (P := P) (w := w) es.toList Tel
  have kl : ks.length = l.length := by
    rw [← StrsAre.len_eq g1, List.length_map, Array.length_toList, Tsz]
  have pk : ks.Perm l := by
    exact (perm_fit l ks nd (fun k hk => (g2 k).mpr ((Tmem k).mp hk)) (by omega)).symm
  have obj : SetAt s.heap a es ep tb := ⟨_, here, rfl, rfl⟩
  have small : es.size < scanBound := Nat.lt_trans (by rw [Tsz]; exact few) (by decide)
  have order : w.params.followText "set-order" = true ∨ tb.led = true := by
    have q : tb.led = !w.params.followText "set-order" := tabs.2
    cases e : w.params.followText "set-order" with
    | true => exact .inl rfl
    | false => rw [e] at q; exact .inr q
  refine Calls.call_function_entry kind_sorted plain_sorted entry_sorted (args_sorted1 _) ?_
  unfold Builtin.«sorted»
  refine wpAny_bind (m := checkCount "sorted" 1 1 _) (wpAny_pure ?_)
  refine wpAny_bind (collect_set (A := A.in1) quiet obj Tfit small tabs.1 order fun t vs kp big gn os pm => ?_)
  obtain ⟨ws, v1, v2⟩ : ∃ ws : List Str, StrsAre vs ws ∧ ws.Perm ks := by
    exact strs_perm pm g1
  have vn : vs.length < 64 := by
    rw [pm.length_eq, List.length_map, Array.length_toList, Tsz]; exact few
  refine wpAny_bind (wpAny_newList ?_ (small64 vn))
  have ob : (t.heap.push (seqObj "list" vs.toArray 0)).get? t.heap.objs.size = some (seqObj "list" vs.toArray 0) := Heap.get?_push_size _ rfl
  refine wpAny_bind (wpAny_holding (wpAny_call_entry slot_list_sort ⟨_, ob, rfl⟩ entry_list_sort (list_sort_treeK strKind_oneLt ob v1.keysOf (fun x y rest e => keyKind_strs (by rw [← e]; exact v1)) vn fun st' h1 h2 => ?_) (args_list_sort _)))
  obtain ⟨ys, o1, o2, o3⟩ := sorted_out_str v1 h1 h2
  refine ⟨_, rfl, ?_⟩
  obtain ⟨c, hc⟩ := sortedHeap_at (vs := vs) (out := (arrOf st').map (·.2)) ob
  refine wpAny_pure ⟨_, rfl, fin _ t.heap.objs.size _ c ys (fun b u e => ?_) gn os big hc o1 o3 (o2.trans (v2.trans pk))⟩
  have e2 := kp b u e
  have lt := Heap.lt_size e2
  have ap : b ≠ t.heap.objs.size := Nat.ne_of_lt lt
  show (sortedHeap (t.heap.push (seqObj "list" vs.toArray 0)) t.heap.objs.size vs ((arrOf st').map (·.2))).get? b = some u
  rw [sortedHeap_old ap (by rw [Heap.size_push]; exact Nat.lt_succ_of_lt lt)]
  exact pushed e2
end
end KS
end
noncomputable section
namespace KS
open PySem PySem.Spec PyProof.Rows L2
/-! ### set(text), sorted(set) -/
def SetTx (P : Program) (w : World) (a : Addr) (l : List Str) : HO := .ext fun h => STx P w h a l
def rSetTx (P : Program) (w : World) : List V → Hp → VK → Prop := fun xs H Q => ∃ x : Str, xs = [.str x] ∧ x.cps.all (· < 128) = true ∧ x.cps.toList.Nodup ∧ x.cps.toList.length < 64 ∧
  ∀ p, H p = none → Q (.ref p) (upd H p (SetTx P w p ((x.cps.toList.map Froz.sing).reverse)))
def rSortTx (P : Program) (w : World) : List V → Hp → VK → Prop := fun xs H Q => ∃ (a : Addr) (l : List Str), xs = [.ref a] ∧ H a = some (SetTx P w a l) ∧ l.Nodup ∧
  ∀ (ys : List Str) (p : Addr), sortedS ys = true → ys.Perm l → H p = none → Q (.ref p) (upd H p (.lst (ys.map V.str)))
section
variable {X : Cx}
theorem stx_at {P : Program} {w : World} {h1 h2 : Heap} {a : Addr} {l : List Str} (R : STx P w h1 a l) (k : ∀ o, h1.get? a = some o → h2.get? a = some o) : STx P w h2 a l := by
  obtain ⟨Z, e, r⟩ := R
  exact ⟨Z, k _ e, r⟩
theorem cr_setTx (hc : X.calm = true) : CallR X (.type "set") (rSetTx X.prog X.w) := by
  intro pins s σ H xs us Q I r h
  obtain ⟨x, rfl, asc, nd, few, q⟩ := h
  cases r with
  | cons r1 r2 =>
    cases r2
    obtain ⟨t, rfl⟩ := r1
    refine call_set_text (I.ok.hd hc) asc nd few fun h' tk R keep => ?_
    have ob : ObjOk X.prog X.w (upd H s.heap.objs.size (SetTx X.prog X.w s.heap.objs.size ((x.cps.toList.map Froz.sing).reverse))) h' s.heap.objs.size (SetTx X.prog X.w s.heap.objs.size ((x.cps.toList.map Froz.sing).reverse)) := by
      have R2 := R
      obtain ⟨Z, e, _⟩ := R2
      exact ⟨R, ⟨_, e⟩, fun h1 h2 p k => stx_at p k⟩
    exact ⟨.ref _, _, I.laid (t' := tk) keep (Nat.le_refl _) ob, rfl, q _ (I.hok.fresh (Nat.le_refl _))⟩
theorem cr_sortTx (hc : X.calm = true) : CallR X (.builtin "sorted") (rSortTx X.prog X.w) := by
  intro pins s σ H xs us Q I r h
  obtain ⟨a, l, rfl, ha, nd, q⟩ := h
  have R : STx X.prog X.w s.heap a l := (I.hok a _ ha).1
  have few : l.length < 64 := by
    obtain ⟨Z, _, _, f, _⟩ := R
    exact f
  rw [Vals.ref1 r]
  refine sorted_text R nd (I.ok.hd hc) fun s' p out c ys k g o hp hg hi hs hm => ?_
  have room : (ys.map V.str).length ≤ sizeLine := by
    rw [List.length_map, hm.length_eq]
    exact small64 few
  have hn : H p = none := I.hok.fresh hp
  have J : Inv X pins σ (upd H p (.lst (ys.map V.str))) { s with heap := s'.heap, gens := s'.gens, drawn := s'.drawn, toks := s'.toks } :=
    I.call (ch := []) (Un.laid k hp hn) (I.hok.laid k hp ⟨room, out.toList, c, vals_of_strs hi, hg⟩) (by rw [g]; exact I.bare) (fun _ z => nomatch z)
  have e : s' = { s with heap := s'.heap, gens := s'.gens, drawn := s'.drawn, toks := s'.toks } := by
    cases s'; cases s; cases o; rfl
  rw [e]
  exact ⟨.ref p, _, J, rfl, q ys p hs hm hn⟩
end
/-! ### enumerate(tuple) -/
set_option maxHeartbeats 2000000 in
theorem new_enumT (a : Addr) (its : Array Value) (n : Nat) (dct : Option Addr) (sl : Array (Option Value)) :
    Meets (Builtin.«enumerate.__new__» ⟨[.type "enumerate", .ref a], []⟩) (fun _ R t => t.heap.get? a = some { cls := .type "tuple", dict := dct, data := .seq its n, slots := sl } ∧
      R (.ok (.ret (.ref (t.heap.push { cls := .type "tuple_iterator", data := .fields #[.ref a, .int 0 0] }).objs.size)))
        { t with heap := (t.heap.push { cls := .type "tuple_iterator", data := .fields #[.ref a, .int 0 0] }).push { cls := .type "enumerate", data := .fields #[.none, .bool false, .ref t.heap.objs.size, rawInt 0, .none, .none] } }) :=
  .of_wp fun prog w A R t h => by
    obtain ⟨h0, g, d, tk, os⟩ := t
    obtain ⟨here, h⟩ := h
    have hsub := sub_enumerate
    have tup : Heap.IsTuple (Shared.heap ⟨h0, g, d, tk, os⟩) a its := ⟨_, here, rfl, n, rfl⟩
    wp_walk using AutoSeq1.wpAny_loadPart' here
    refine wpAny_stack_any fun st => wpAny_pure ?_
    split
    · rename_i c _ _ _ _ _
      cases (c == Value.type "enumerate") <;> (wp_walk using AutoSeq1.wpAny_loadPart' here, wpAny_pyIter_tuple tup; exact ⟨_, rfl, h⟩)
    · (wp_walk using AutoSeq1.wpAny_loadPart' here, wpAny_pyIter_tuple tup; exact ⟨_, rfl, h⟩)
section
variable {prog : Program} {w : World} {A : Around} {E : Value → Shared → Prop} {s : Shared}
theorem call_enumT {a : Addr} {its : Array Value} {Q : Value → Shared → Prop} (tup : s.heap.IsTuple a its)
    (fin : ∀ h', IsEnum h' (s.heap.objs.size + 1) s.heap.objs.size 0 .none → h'.IsTupleIter s.heap.objs.size a 0 → (∀ b o, s.heap.get? b = some o → h'.get? b = some o) → Q (.ref (s.heap.objs.size + 1)) { s with heap := h' }) :
    wpAny (model prog w) A (call (.type "enumerate") [.ref a]) Q E s := by
  obtain ⟨⟨c, dct, dt, sl⟩, here, hc, n, hd⟩ := tup
  have e1 : c = .type "tuple" := hc
  have e2 : dt = .seq its n := hd
  subst e1 e2
  refine callType_new F.called_enumerate (by decide) (F.typeCall_enumerate_1 _) (F.newCall_enumerate_1 _) (fun obj => F.args_object_init_2 obj _) F.entry_enumerate_new (new_enumT a its n dct sl) ⟨here, ?_⟩
  have z : (s.heap.push { cls := .type "tuple_iterator", data := .fields #[.ref a, .int 0 0] }).objs.size = s.heap.objs.size + 1 := Heap.size_push ..
  have g := Heap.get?_push_size (s.heap.push { cls := .type "tuple_iterator", data := .fields #[.ref a, .int 0 0] })
    (o := { cls := .type "enumerate", data := .fields #[.none, .bool false, .ref s.heap.objs.size, rawInt 0, .none, .none] }) rfl
  rw [z] at g
  show _ ∧ _
  rw [z]
  exact ⟨⟨_, g, rfl⟩, fin _ g ⟨_, pushed (Heap.get?_push_size _ rfl), rfl, rfl⟩ fun b o e => pushed (pushed e)⟩
end
/-- the tuple at a, each item in a new pair with its number -/
def IteT (K : PySem.W.Frag) (a : Addr) : It :=
  ⟨fun i H => ∃ (xs : List V) (x : V), SqT K H a xs ∧ xs[i]? = some x, fun i H v H' => ∃ T x, v = .ref T ∧ H T = none ∧ H' = upd H T (.tup [.int (i : Nat), x]) ∧ ∀ xs, SqT K H a xs → xs[i]? = some x, fun i H => ∃ xs : List V, SqT K H a xs ∧ xs.length ≤ i⟩
theorem turn_enumT {P : Program} {w : World} {K : PySem.W.Frag} {elts : List Expr} {kk : Nat} {tpos : Pos} (a e it : Addr) :
    Turn P w K (.Tuple elts kk tpos) (IteT K a) [e, it] e (fun i h => (∃ old, IsEnum h e it ((i : Nat) : Int) old) ∧ h.IsTupleIter it a i ∧ e ≠ it) where
  mem := List.mem_cons_self
  obj := fun i h ⟨⟨old, he⟩, ⟨o, ho, _, hd⟩, _⟩ b hb => by
    rcases List.mem_cons.mp hb with z | z
    · subst z; exact ⟨_, he, fun v q => nomatch q⟩
    · have z := List.mem_singleton.mp z
      subst z; exact ⟨o, ho, fun v q => by rw [hd] at q; cases q⟩
  keep := fun i h h' ⟨⟨old, he⟩, hi, ne⟩ k => ⟨⟨old, k e List.mem_cons_self _ he⟩, hi.at fun o q => k it (List.mem_cons_of_mem _ List.mem_cons_self) o q, ne⟩
  item := by
    intro X hP hw hK hc i pins s σ H E I hf st hg
    subst hP hw hK
    obtain ⟨⟨old, he⟩, hit, ne⟩ := st
    obtain ⟨xs, x, hq, hx⟩ := hg
    obtain ⟨its, rv, p, hz⟩ := I.tuple hq
    obtain ⟨u, hu, ru⟩ := rv.get hx
    have le : e < s.heap.objs.size := Heap.lt_size he
    have li : it < s.heap.objs.size := by
      obtain ⟨_, q, _⟩ := hit
      exact Heap.lt_size q
    have la : a < s.heap.objs.size := by
      obtain ⟨_, q, _⟩ := p
      exact Heap.lt_size q
    have nae : a ≠ e := by
      intro z
      obtain ⟨o, q, c, _⟩ := p
      have q' : s.heap.get? e = some o := z ▸ q
      rw [he] at q'
      cases q'
      exact absurd (show Value.type "enumerate" = Value.type "tuple" from c) (by decide)
    have nai : a ≠ it := by
      intro z
      obtain ⟨o, q, c, _⟩ := p
      obtain ⟨o', q2, c2, _⟩ := hit
      have q' : s.heap.get? it = some o := z ▸ q
      rw [q2] at q'
      cases q'
      rw [c] at c2
      exact absurd c2 (by decide)
    have hs : i < its.toArray.size := by
      have := (List.getElem?_eq_some_iff.mp hu).1
      simpa using this
    refine wpAny_pyNext_enum_itemD (Draws.tuple (prog := X.prog) (w := X.w) (A := X.A.in1) (by have := I.ok.hd hc; simpa using this) it a nai its.toArray) he ⟨hit, p⟩ hs ne (by
      intro hm
      rcases List.mem_cons.mp hm with z | z
      · exact ne z
      · exact nae (List.mem_singleton.mp z).symm) fun y h' tk hy ho hst hT hsz hk => ?_
    have ey : y = u := by
      have q : its.toArray[i]? = some u := by simpa using hu
      rw [show its.toArray[i]? = some y from hy] at q
      exact Option.some.inj q
    subst ey
    refine ⟨_, rfl, wpAny_letOwnedTupleGo_enum (s := { s with heap := h', toks := tk + 1 }) ho fun h'' he' sb => ?_⟩
    have hT2 : h''.get? s.heap.objs.size = some { cls := .type "tuple", data := .seq #[.int i tk, y] } := (sb.2 _ (Nat.ne_of_gt le)).trans hT
    have new : ObjOk X.prog X.w (upd H s.heap.objs.size (.tup [.int (i : Nat), x])) h'' s.heap.objs.size (.tup [.int (i : Nat), x]) :=
      ⟨by show 2 ≤ sizeLine; decide, [.int i tk, y], .cons ⟨_, rfl⟩ (.cons ru .nil), ⟨_, hT2, rfl, _, rfl⟩⟩
    have I1 : Inv X pins σ (upd H s.heap.objs.size (.tup [.int (i : Nat), x])) { s with heap := h'', toks := tk + 1 } :=
      I.turnedNew (ch := [e, it]) (fun b ob hb q => (sb.2 b (fun z => hb (by simp [z]))).trans (hk b ob (fun z => hb (by simp [z])) (fun z => hb (by simp [z])) q)) hf (Nat.le_refl _) new
    refine ⟨.ref s.heap.objs.size, _, I1, rfl, ⟨_, x, rfl, I.hok.fresh (Nat.le_refl _), rfl, fun ys hy => by rw [I.tuple_inj hy hq]; exact hx⟩, ⟨⟨y, ?_⟩, hst.1.at fun o q => (sb.2 it (Ne.symm ne)).trans q, ne⟩, fun b hb => ?_⟩
    · have e1 : ((i + 1 : Nat) : Int) = (i : Int) + 1 := by omega
      rw [e1]
      exact he'
    · have lt : b < s.heap.objs.size := by
        rcases List.mem_cons.mp hb with z | z
        · rw [z]; exact le
        · rw [List.mem_singleton.mp z]; exact li
      rw [upd_ne (Nat.ne_of_lt lt)]
      exact (hf b hb).1
  done := by
    intro X hP hw hK hc i pins s σ H E I hf st hg
    subst hP hw hK
    obtain ⟨⟨old, he⟩, hit, ne⟩ := st
    obtain ⟨xs, hq, hx⟩ := hg
    obtain ⟨its, rv, p, hz⟩ := I.tuple hq
    obtain ⟨f0, f1, f2, f3, f4, f5⟩ := hf it (List.mem_cons_of_mem _ List.mem_cons_self)
    have hl := rv.length
    have nai : a ≠ it := by
      intro z
      obtain ⟨o, q, c, _⟩ := p
      obtain ⟨o', q2, c2, _⟩ := hit
      have q' : s.heap.get? it = some o := z ▸ q
      rw [q2] at q'
      cases q'
      rw [c] at c2
      exact absurd c2 (by decide)
    have quiet : X.A.in1.handled = none := by have := I.ok.hd hc; simpa using this
    have Dn : Draws X.prog X.w X.A.in1 it [it, a] i (fun _ _ => False) (fun j h => j = i ∧ h.IsTupleIter it a i ∧ h.IsTuple a its.toArray) :=
      { live := fun _ _ st => let ⟨o, ho, _⟩ := st.2.1; ⟨o, ho⟩
        frame := fun _ _ _ st hk => ⟨st.1, st.2.1.at fun o e => hk it (by simp) o e, st.2.2.at fun o e => hk a (by simp) o e⟩
        item := fun j s Q E hj st _ => absurd hj (by rw [st.1]; exact Nat.lt_irrefl _)
        done := fun s Q E st hE => wpAny_nextOf_tuple_end quiet st.2.1 st.2.2 (by simp; omega) hE }
    exact wpAny_pyNext_enum_endD Dn he ⟨rfl, hit, p⟩ fun h' eb => ⟨rfl, I.turned (t' := s.toks) (fun b o hb q => eb b o hb q) f0 f1 f3 f4 f5⟩
  self := fun A i s Q E ⟨⟨_, he⟩, _⟩ h => wpAny_pyIter_enum he h
def iEnumT (K : PySem.W.Frag) (ta : TA) : TI := fun σ H R => ta σ H fun vs H1 => ∃ a xs, vs = [.ref a] ∧ SqT K H1 a xs ∧ R (IteT K a) H1
theorem pi_enumT {X : Cx} {e : Expr} {ta : TA} {p pos tpos : Pos} {elts : List Expr} {kk : Nat} (hg : Gl X "enumerate") (hm : X.mg "enumerate" = none) (ha : PA X [e] ta) (hs : starEach [e] X.env = [(false, eval e X.env)] := by rfl) :
    PI X (.Tuple elts kk tpos) (.Call (.Name "enumerate" p) [e] [] pos) (iEnumT X.K ta) := by
  refine ⟨fun pins s σ H R I h => Call_ (ld_blt I hg hm boot_enumerate (PyProof.Rows.callWith_type1 (thn (ha.run pos pins s σ H _ I h) fun us s1 ⟨vs, H1, I1, r1, q1⟩ => ?_) hs rfl))⟩
  obtain ⟨a, xs, ex, hq, q⟩ := q1
  subst ex
  cases r1 with
  | cons r rr =>
    cases rr
    cases r
    obtain ⟨its, rv, tp, hz⟩ := I1.tuple hq
    refine call_enumT tp fun h' he hit hk => wpAny_pyIter_enum he ?_
    have I2 : Inv X pins σ H1 { s1 with heap := h' } := I1.kept (t' := s1.toks) hk
    refine ⟨s1.heap.objs.size + 1, [s1.heap.objs.size + 1, s1.heap.objs.size], _, _, H1, rfl, I2, turn_enumT a (s1.heap.objs.size + 1) s1.heap.objs.size, ⟨⟨.none, he⟩, hit, Nat.succ_ne_self _⟩, fun b hb => ?_, q⟩
    have big : s1.heap.objs.size ≤ b := by
      rcases List.mem_cons.mp hb with z | z
      · rw [z]; exact Nat.le_add_right _ _
      · rw [List.mem_singleton.mp z]; exact Nat.le_refl _
    exact I1.fpOk big (I1.hok.fresh big)
/-- the loop over it -/
theorem for_enumT {K : PySem.W.Frag} {a : Addr} {xs : List V} {g : TG} {tb : TS} {D : Ends} {σ : L2.St} {H : Hp} (Pv : Nat → L2.St → Hp → Prop) (h0 : Pv 0 σ H) (hl : ∀ i σ H, i ≤ xs.length → Pv i σ H → SqT K H a xs)
    (hs : ∀ i x T σ H, xs[i]? = some x → Pv i σ H → H T = none → g (.ref T) σ (upd H T (.tup [.int (i : Nat), x])) fun σ2 H2 => tb { D with nx := Pv (i + 1), ct := Pv (i + 1), bk := D.nx } σ2 H2) (hd : ∀ σ H, Pv xs.length σ H → D.nx σ H) :
    ∃ W : Nat → Nat → L2.St → Hp → Prop, (∃ m, W 0 m σ H) ∧ ∀ i m σ H, W i m σ H →
      ((IteT K a).stop i H ∧ D.nx σ H) ∨ ((IteT K a).go i H ∧ ∃ N : L2.St → Hp → Prop, (∀ σ' H', N σ' H' → ∃ m', m' < m ∧ W (i + 1) m' σ' H') ∧ ∀ x H', (IteT K a).yld i H x H' → g x σ H' fun σ2 H2 => tb { D with nx := N, ct := N, bk := D.nx } σ2 H2) := by
  refine ⟨fun i m σ H => m = xs.length - i ∧ i ≤ xs.length ∧ Pv i σ H, ⟨xs.length, rfl, Nat.zero_le _, h0⟩, fun i m σ H w => ?_⟩
  obtain ⟨rfl, le, p⟩ := w
  have q := hl i σ H le p
  rcases Nat.lt_or_ge i xs.length with lt | ge
  · refine .inr ⟨⟨xs, xs[i], q, List.getElem?_eq_getElem lt⟩, Pv (i + 1), fun σ' H' p' => ⟨xs.length - (i + 1), by omega, rfl, lt, p'⟩, fun v H' y => ?_⟩
    obtain ⟨T, x, rfl, nT, rfl, hx⟩ := y
    exact hs i x T σ H (hx xs q) p nT
  · have e : i = xs.length := Nat.le_antisymm le ge
    subst e
    exact .inl ⟨⟨xs, q, Nat.le_refl _⟩, hd σ H p⟩
end KS
end
namespace KS
open PySem
/-! ### kinds, families, parts: the mathematics -/
structure Kind where
  el : List (Int × Int)
  de : Str
  ce : Int
abbrev Fam := List Kind
abbrev Part := List Int
def kd (f : Fam) (k : Int) : Kind := f.getD k.toNat ⟨[], Str.empty, 0⟩
def lastP (p : Part) : Int := p.getLastD 0
def ep (p : Part) (e : Int × Int) : Part := if e.2 = 0 then p ++ [e.1] else [e.1]
def kids (f : Fam) (p : Part) : List Part := (kd f (lastP p)).el.map (ep p)
/-- what isn't there yet is put behind, one after another -/
def ins (a : List Part) (x : Part) : List Part := if x ∈ a then a else a ++ [x]
def dd (a l : List Part) : List Part := l.foldl ins a
def lm : Nat → Fam → Part → List Part
  | 0, _, p => [p]
  | n + 1, f, p => (kids f p).foldl (fun a c => dd a (lm n f c)) [p]
def mt : Nat → Fam → Part → List Part → List Part
  | 0, _, _, m => m
  | n + 1, f, p, m => if p ∈ m then m else (kids f p).foldl (fun m c => mt n f c m) (m ++ [p])
/-- elders are of lesser numbers -/
def Low (f : Fam) : Prop := ∀ k : Int, ∀ e ∈ (kd f k).el, 0 ≤ e.1 ∧ e.1 < k

theorem lastP_ep (p : Part) (e : Int × Int) : lastP (ep p e) = e.1 := by
  unfold ep lastP
  split
  · rw [List.getLastD_eq_getLast?, List.getLast?_append]; rfl
  · rfl
theorem mem_ins {a : List Part} {x y : Part} : y ∈ ins a x ↔ y ∈ a ∨ y = x := by
  unfold ins
  split
  · rename_i h
    constructor
    · exact .inl
    · rintro (q | rfl)
      · exact q
      · exact h
  · rw [List.mem_append, List.mem_singleton]
theorem mem_dd : ∀ {l a : List Part} {y : Part}, y ∈ dd a l ↔ y ∈ a ∨ y ∈ l
  | [], a, y => by simp [dd]
  | x :: l, a, y => by
    show y ∈ dd (ins a x) l ↔ _
    rw [mem_dd, mem_ins, List.mem_cons, or_assoc]
theorem ins_of_mem {a : List Part} {x : Part} (h : x ∈ a) : ins a x = a := if_pos h
theorem ins_of_not {a : List Part} {x : Part} (h : ¬ x ∈ a) : ins a x = a ++ [x] := if_neg h
theorem dd_sub : ∀ {l a : List Part}, (∀ y ∈ l, y ∈ a) → dd a l = a
  | [], _, _ => rfl
  | x :: l, a, h => by
    show dd (ins a x) l = a
    rw [ins_of_mem (h x List.mem_cons_self)]
    exact dd_sub fun y hy => h y (List.mem_cons_of_mem _ hy)
theorem dd_append (a l r : List Part) : dd a (l ++ r) = dd (dd a l) r := List.foldl_append
theorem dd_ins (a b : List Part) (x : Part) : dd a (ins b x) = ins (dd a b) x := by
  by_cases h : x ∈ b
  · rw [ins_of_mem h, ins_of_mem (mem_dd.mpr (.inr h))]
  · rw [ins_of_not h, dd_append]; rfl
theorem dd_dd : ∀ (l a b : List Part), dd a (dd b l) = dd (dd a b) l
  | [], _, _ => rfl
  | x :: l, a, b => by
    show dd a (dd (ins b x) l) = dd (ins (dd a b) x) l
    rw [dd_dd l a (ins b x), dd_ins]
theorem dd_nil_of_nodup {l : List Part} (h : l.Nodup) : dd [] l = l := by
  have go : ∀ (l a : List Part), (a ++ l).Nodup → dd a l = a ++ l := by
    intro l
    induction l with
    | nil => intro a _; simp [dd]
    | cons x l ih =>
      intro a h
      have hx : ¬ x ∈ a := by
        intro hx
        have h' := List.nodup_append.mp h
        exact h'.2.2 x hx x List.mem_cons_self rfl
      show dd (ins a x) l = _
      rw [ins_of_not hx, ih (a ++ [x]) (by rw [List.append_assoc]; exact h), List.append_assoc]; rfl
  exact go l [] h
theorem ins_nodup {a : List Part} {x : Part} (h : a.Nodup) : (ins a x).Nodup := by
  by_cases hx : x ∈ a
  · rw [ins_of_mem hx]; exact h
  · rw [ins_of_not hx, List.nodup_append]
    refine ⟨h, by simp, fun y hy z hz e => ?_⟩
    rw [List.mem_singleton] at hz
    subst hz; subst e; exact hx hy
theorem dd_nodup : ∀ {l a : List Part}, a.Nodup → (dd a l).Nodup
  | [], _, h => h
  | x :: l, a, h => dd_nodup (l := l) (a := ins a x) (ins_nodup h)
theorem dd_prefix : ∀ (l a : List Part), ∃ r, dd a l = a ++ r
  | [], a => ⟨[], by simp [dd]⟩
  | x :: l, a => by
    obtain ⟨r, e⟩ := dd_prefix l (ins a x)
    by_cases hx : x ∈ a
    · exact ⟨r, by show dd (ins a x) l = _; rw [e, ins_of_mem hx]⟩
    · exact ⟨x :: r, by show dd (ins a x) l = _; rw [e, ins_of_not hx, List.append_assoc]; rfl⟩

/-! folds over the children -/
theorem fold_nodup {α : Type} (g : α → List Part) : ∀ (cs : List α) (a : List Part), a.Nodup → (cs.foldl (fun a c => dd a (g c)) a).Nodup
  | [], _, h => h
  | c :: cs, a, h => fold_nodup g cs (dd a (g c)) (dd_nodup h)
theorem mem_fold {α : Type} (g : α → List Part) : ∀ (cs : List α) (a : List Part) (y : Part), y ∈ cs.foldl (fun a c => dd a (g c)) a ↔ y ∈ a ∨ ∃ c ∈ cs, y ∈ g c
  | [], a, y => by simp
  | c :: cs, a, y => by
    show y ∈ cs.foldl _ (dd a (g c)) ↔ _
    rw [mem_fold g cs, mem_dd, or_assoc]
    constructor
    · rintro (h | h | ⟨d, hd, h⟩)
      · exact .inl h
      · exact .inr ⟨c, List.mem_cons_self, h⟩
      · exact .inr ⟨d, List.mem_cons_of_mem _ hd, h⟩
    · rintro (h | ⟨d, hd, h⟩)
      · exact .inl h
      · rcases List.mem_cons.mp hd with rfl | hd
        · exact .inr (.inl h)
        · exact .inr (.inr ⟨d, hd, h⟩)
theorem fold_prefix {α : Type} (g : α → List Part) : ∀ (cs : List α) (a : List Part), ∃ r, cs.foldl (fun a c => dd a (g c)) a = a ++ r
  | [], a => ⟨[], by simp⟩
  | c :: cs, a => by
    obtain ⟨r, e⟩ := dd_prefix (g c) a
    obtain ⟨q, e2⟩ := fold_prefix g cs (dd a (g c))
    exact ⟨r ++ q, by show cs.foldl _ (dd a (g c)) = _; rw [e2, e, List.append_assoc]⟩
theorem lm_nodup : ∀ (n : Nat) (f : Fam) (p : Part), (lm n f p).Nodup
  | 0, _, _ => by simp [lm]
  | n + 1, f, p => by unfold lm; exact fold_nodup _ _ _ (by simp)
theorem lm_head (n : Nat) (f : Fam) (p : Part) : ∃ r, lm n f p = p :: r := by
  cases n with
  | zero => exact ⟨[], rfl⟩
  | succ n => unfold lm; obtain ⟨r, e⟩ := fold_prefix (fun c => lm n f c) (kids f p) [p]; exact ⟨r, by rw [e]; rfl⟩
theorem self_mem (n : Nat) (f : Fam) (p : Part) : p ∈ lm n f p := by
  obtain ⟨r, e⟩ := lm_head n f p
  rw [e]; exact List.mem_cons_self
theorem mem_lm {n : Nat} {f : Fam} {p y : Part} : y ∈ lm (n + 1) f p ↔ y = p ∨ ∃ c ∈ kids f p, y ∈ lm n f c := by
  show y ∈ (kids f p).foldl (fun a c => dd a (lm n f c)) [p] ↔ _
  rw [mem_fold (fun c => lm n f c), List.mem_singleton]
theorem mem_kids {f : Fam} {p c : Part} : c ∈ kids f p ↔ ∃ e ∈ (kd f (lastP p)).el, c = ep p e := by
  unfold kids
  rw [List.mem_map]
  constructor
  · rintro ⟨e, h, rfl⟩; exact ⟨e, h, rfl⟩
  · rintro ⟨e, h, rfl⟩; exact ⟨e, h, rfl⟩
theorem kid_low {f : Fam} (L : Low f) {p c : Part} (h : c ∈ kids f p) : 0 ≤ lastP c ∧ lastP c < lastP p := by
  obtain ⟨e, he, rfl⟩ := mem_kids.mp h
  rw [lastP_ep]
  exact L _ e he
theorem ep_ne (p : Part) (e : Int × Int) : ep p e ≠ [] := by
  unfold ep
  split
  · simp
  · simp
/-- the fuel does not matter -/
theorem lm_fuel {f : Fam} (L : Low f) : ∀ (n m : Nat) (p : Part), lastP p < n → lastP p < m → lm n f p = lm m f p
  | 0, 0, _, _, _ => rfl
  | 0, m + 1, p, h, h2 => by
    have : (kd f (lastP p)).el = [] := by
      cases q : (kd f (lastP p)).el with
      | nil => rfl
      | cons e r =>
        have z := L (lastP p) e (by rw [q]; exact List.mem_cons_self)
        exact absurd h (by omega)
    show [p] = (kids f p).foldl _ [p]
    unfold kids; rw [this]; rfl
  | n + 1, 0, p, h, h2 => by
    have : (kd f (lastP p)).el = [] := by
      cases q : (kd f (lastP p)).el with
      | nil => rfl
      | cons e r =>
        have z := L (lastP p) e (by rw [q]; exact List.mem_cons_self)
        exact absurd h2 (by omega)
    show (kids f p).foldl _ [p] = [p]
    unfold kids; rw [this]; rfl
  | n + 1, m + 1, p, h, h2 => by
    have go : ∀ (cs : List Part), (∀ c ∈ cs, c ∈ kids f p) → ∀ a, cs.foldl (fun a c => dd a (lm n f c)) a = cs.foldl (fun a c => dd a (lm m f c)) a := by
      intro cs
      induction cs with
      | nil => intro _ _; rfl
      | cons c cs ih =>
        intro hc a
        have z := kid_low L (hc c List.mem_cons_self)
        show cs.foldl _ (dd a (lm n f c)) = cs.foldl _ (dd a (lm m f c))
        rw [lm_fuel L n m c (by omega) (by omega)]
        exact ih (fun d hd => hc d (List.mem_cons_of_mem _ hd)) _
    exact go _ (fun c h => h) _
theorem mem_last {f : Fam} (L : Low f) : ∀ (n : Nat) {p y : Part}, y ∈ lm n f p → y = p ∨ (0 ≤ lastP y ∧ lastP y < lastP p)
  | 0, p, y, h => .inl (by simpa [lm] using h)
  | n + 1, p, y, h => by
    rcases mem_lm.mp h with h | ⟨c, hc, h⟩
    · exact .inl h
    · have z := kid_low L hc
      rcases mem_last L n h with rfl | q
      · exact .inr z
      · exact .inr ⟨q.1, by omega⟩
theorem mem_ne {f : Fam} : ∀ (n : Nat) {p y : Part}, p ≠ [] → y ∈ lm n f p → y ≠ []
  | 0, p, y, hp, h => by
    have e : y = p := by simpa [lm] using h
    rw [e]; exact hp
  | n + 1, p, y, hp, h => by
    rcases mem_lm.mp h with rfl | ⟨c, hc, h⟩
    · exact hp
    · obtain ⟨e, he, rfl⟩ := mem_kids.mp hc
      exact mem_ne n (ep_ne _ _) h
/-- what is inside a part that is inside -/
theorem lm_trans {f : Fam} (L : Low f) : ∀ (n : Nat) {p q y : Part}, lastP p < n → q ∈ lm n f p → y ∈ lm n f q → y ∈ lm n f p
  | 0, p, q, y, hn, h, h2 => by
    have e : q = p := by simpa [lm] using h
    rw [← e]; exact h2
  | n + 1, p, q, y, hn, h, h2 => by
    rcases mem_lm.mp h with rfl | ⟨c, hc, h⟩
    · exact h2
    · have z := kid_low L hc
      refine mem_lm.mpr (.inr ⟨c, hc, ?_⟩)
      have zq : lastP q ≤ lastP c := by
        rcases mem_last L n h with rfl | q'
        · exact Int.le_refl _
        · omega
      rw [lm_fuel L (n + 1) n q (by omega) (by omega)] at h2
      exact lm_trans L n (by omega) h h2

/-! ### the walk that marks what was met tells the same -/
def Closed (n : Nat) (f : Fam) (k : Int) (m : List Part) : Prop := ∀ q ∈ m, lastP q < k → ∀ y ∈ lm n f q, y ∈ m
theorem mt_eq {f : Fam} (L : Low f) (N : Nat) : ∀ (n : Nat) (p : Part) (m : List Part), lastP p < n → 0 ≤ lastP p → n ≤ N → Closed N f (lastP p + 1) m → mt n f p m = dd m (lm n f p)
  | 0, p, m, h, h0, _, C => by omega
  | n + 1, p, m, h, h0, hN, C => by
    by_cases hp : p ∈ m
    · have e : mt (n + 1) f p m = m := if_pos hp
      rw [e, dd_sub (fun y hy => C p hp (by omega) y (by rw [lm_fuel L N (n + 1) p (by omega) (by omega)]; exact hy))]
    · have e : mt (n + 1) f p m = (kids f p).foldl (fun m c => mt n f c m) (m ++ [p]) := if_neg hp
      have go : ∀ (cs : List Part), (∀ c ∈ cs, c ∈ kids f p) → ∀ a b : List Part, Closed N f (lastP p) (dd a b) → cs.foldl (fun m c => mt n f c m) (dd a b) = dd a (cs.foldl (fun x c => dd x (lm n f c)) b) := by
        intro cs
        induction cs with
        | nil => intro _ a b _; rfl
        | cons c cs ih =>
          intro hc a b Cb
          have z := kid_low L (hc c List.mem_cons_self)
          show cs.foldl _ (mt n f c (dd a b)) = dd a (cs.foldl _ (dd b (lm n f c)))
          rw [mt_eq L N n c (dd a b) (by omega) (by omega) (by omega) (fun q hq hl y hy => Cb q hq (by omega) y hy), ← dd_dd]
          refine ih (fun d hd => hc d (List.mem_cons_of_mem _ hd)) a (dd b (lm n f c)) fun q hq hl y hy => ?_
          rw [dd_dd] at hq ⊢
          rcases mem_dd.mp hq with hq | hq
          · exact mem_dd.mpr (.inl (Cb q hq hl y hy))
          · refine mem_dd.mpr (.inr ?_)
            have zq : lastP q ≤ lastP c := by
              rcases mem_last L n hq with rfl | q'
              · exact Int.le_refl _
              · omega
            rw [lm_fuel L N n q (by omega) (by omega)] at hy
            exact lm_trans L n (by omega) hq hy
      have e2 : m ++ [p] = dd m [p] := by
        show m ++ [p] = ins m p
        rw [ins_of_not hp]
      rw [e, e2, go _ (fun c h => h) m [p] (fun q hq hl y hy => ?_)]
      · rfl
      · rcases mem_dd.mp hq with hq | hq
        · exact mem_dd.mpr (.inl (C q hq (by omega) y hy))
        · rw [List.mem_singleton] at hq
          subst hq
          omega
theorem mt_nil {f : Fam} (L : Low f) {n : Nat} {p : Part} (h : lastP p < n) (h0 : 0 ≤ lastP p) : mt n f p [] = lm n f p := by
  rw [mt_eq L n n p [] h h0 (Nat.le_refl _) (fun q hq => nomatch hq), dd_nil_of_nodup (lm_nodup n f p)]

/-! ### who does a deed -/
/-- the one sign c is among the deeds of the kind that p's last number tells -/
def does (f : Fam) (c : Nat) (p : Part) : Bool := decide (c ∈ (kd f (lastP p)).de.cps.toList)
/-- the parts of m that do c -/
def doing (f : Fam) (c : Nat) (m : List Part) : List Part := m.filter (does f c)
def hidden (n : Nat) (f : Fam) (l : List Part) : List Part := l.flatMap fun p => (lm n f p).tail
def left (n : Nat) (f : Fam) (l : List Part) : List Part := l.filter fun p => decide (¬ p ∈ hidden n f l)
/-- all of l is inside x -/
def over (n : Nat) (f : Fam) (l : List Part) (x : Part) : Bool := l.all fun y => decide (y ∈ lm n f x)
def foremost (n : Nat) (f : Fam) (l : List Part) : Option Part := l.find? (over n f l)
theorem mem_hidden {n : Nat} {f : Fam} {l : List Part} {y : Part} : y ∈ hidden n f l ↔ ∃ p ∈ l, y ∈ (lm n f p).tail := by
  unfold hidden
  rw [List.mem_flatMap]
theorem over_iff {n : Nat} {f : Fam} {l : List Part} {x : Part} : over n f l x = true ↔ ∀ y ∈ l, y ∈ lm n f x := by
  unfold over
  rw [List.all_eq_true]
  constructor
  · intro h y hy
    exact of_decide_eq_true (h y hy)
  · intro h y hy
    exact decide_eq_true (h y hy)
theorem tail_low {f : Fam} (L : Low f) {n : Nat} {p y : Part} (h : y ∈ (lm n f p).tail) : y ∈ lm n f p ∧ y ≠ p ∧ 0 ≤ lastP y ∧ lastP y < lastP p := by
  obtain ⟨r, e⟩ := lm_head n f p
  have nd := lm_nodup n f p
  rw [e] at h
  have hm : y ∈ lm n f p := by rw [e]; exact List.mem_cons_of_mem _ h
  rw [e] at nd
  have ne : y ≠ p := by
    rintro rfl
    exact (List.nodup_cons.mp nd).1 h
  rcases mem_last L n hm with q | q
  · exact absurd q ne
  · exact ⟨hm, ne, q⟩
/-- one alone is left: all are inside it -/
theorem left_one {f : Fam} (L : Low f) {n : Nat} {l : List Part} {x : Part} (hn : ∀ y ∈ l, lastP y < n) (h : left n f l = [x]) : x ∈ l ∧ ∀ y ∈ l, y ∈ lm n f x := by
  have hx : x ∈ left n f l := by rw [h]; exact List.mem_singleton.mpr rfl
  have hxl : x ∈ l := (List.mem_filter.mp hx).1
  refine ⟨hxl, ?_⟩
  have go : ∀ (m : Nat) (y : Part), y ∈ l → (n : Int) - lastP y ≤ m → y ∈ lm n f x := by
    intro m
    induction m with
    | zero =>
      intro y hy hm
      have := hn y hy
      omega
    | succ m ih =>
      intro y hy hm
      by_cases q : y ∈ hidden n f l
      · obtain ⟨p, hp, ht⟩ := mem_hidden.mp q
        obtain ⟨h1, h2, h3, h4⟩ := tail_low L ht
        have hpx := ih p hp (by omega)
        exact lm_trans L n (hn x hxl) hpx h1
      · have : y ∈ left n f l := List.mem_filter.mpr ⟨hy, decide_eq_true q⟩
        rw [h, List.mem_singleton] at this
        rw [this]
        exact self_mem n f x
  intro y hy
  exact go ((n : Int) - lastP y).toNat y hy (by omega)
theorem over_uniq {f : Fam} (L : Low f) {n : Nat} {l : List Part} {x z : Part} (hx : x ∈ l) (hz : z ∈ l) (h1 : over n f l x = true) (h2 : over n f l z = true) : x = z := by
  have a := over_iff.mp h1 z hz
  have b := over_iff.mp h2 x hx
  rcases mem_last L n a with q | q
  · exact q.symm
  · rcases mem_last L n b with r | r
    · exact r
    · omega
theorem foremost_of {f : Fam} (L : Low f) {n : Nat} {l : List Part} {x : Part} (hx : x ∈ l) (h : over n f l x = true) : foremost n f l = some x := by
  cases q : foremost n f l with
  | none =>
    have z := List.find?_eq_none.mp q x hx
    exact absurd h z
  | some z =>
    rw [over_uniq L (List.mem_of_find?_eq_some q) hx (List.find?_some q) h]
/-- the law's own way -/
def ldoer (n : Nat) (f : Fam) (l : List Part) : Option Part := if (left n f l).length = 1 then (left n f l).head? else none
theorem ldoer_some {f : Fam} (L : Low f) {n : Nat} {l : List Part} {x : Part} (hn : ∀ y ∈ l, lastP y < n) (h : ldoer n f l = some x) : foremost n f l = some x ∧ x ∈ l ∧ over n f l x = true := by
  unfold ldoer at h
  split at h
  · rename_i hl
    match q : left n f l, hl with
    | [z], _ =>
      rw [q] at h
      have e : z = x := Option.some.inj h
      subst e
      obtain ⟨h1, h2⟩ := left_one L hn q
      have h3 := over_iff.mpr h2
      exact ⟨foremost_of L h1 h3, h1, h3⟩
  · cases h
/-- where one has all inside it, it alone is left -/
theorem left_of {f : Fam} (L : Low f) {n : Nat} {l : List Part} {x : Part} (nd : l.Nodup) (hx : x ∈ l) (h : over n f l x = true) : left n f l = [x] := by
  have ho := over_iff.mp h
  have hin : x ∈ left n f l := by
    refine List.mem_filter.mpr ⟨hx, decide_eq_true fun q => ?_⟩
    obtain ⟨p, hp, ht⟩ := mem_hidden.mp q
    obtain ⟨h1, h2, h3, h4⟩ := tail_low L ht
    rcases mem_last L n (ho p hp) with r | r
    · exact h2 r.symm
    · omega
  have hall : ∀ y ∈ left n f l, y = x := by
    intro y hy
    obtain ⟨hy1, hy2⟩ := List.mem_filter.mp hy
    have hy3 := of_decide_eq_true hy2
    by_cases e : y = x
    · exact e
    · refine absurd (mem_hidden.mpr ⟨x, hx, ?_⟩) hy3
      obtain ⟨r, er⟩ := lm_head n f x
      have := ho y hy1
      rw [er] at this ⊢
      rcases List.mem_cons.mp this with q | q
      · exact absurd q e
      · exact q
  have nd2 : (left n f l).Nodup := nd.filter _
  match q : left n f l with
  | [] => rw [q] at hin; cases hin
  | [z] => rw [hall z (by rw [q]; exact List.mem_singleton.mpr rfl)]
  | z :: z' :: r =>
    have e1 := hall z (by rw [q]; exact List.mem_cons_self)
    have e2 := hall z' (by rw [q]; exact List.mem_cons_of_mem _ List.mem_cons_self)
    rw [q] at nd2
    exact absurd (by rw [e1, e2]; exact List.mem_cons_self) (List.nodup_cons.mp nd2).1
theorem ldoer_of {f : Fam} (L : Low f) {n : Nat} {l : List Part} {x : Part} (nd : l.Nodup) (hx : x ∈ l) (h : over n f l x = true) : ldoer n f l = some x := by
  unfold ldoer
  rw [left_of L nd hx h]
  rfl
theorem ldoer_eq {f : Fam} (L : Low f) {n : Nat} {l : List Part} (nd : l.Nodup) (hn : ∀ y ∈ l, lastP y < n) : ldoer n f l = foremost n f l := by
  cases q : ldoer n f l with
  | some x => exact (ldoer_some L hn q).1.symm
  | none =>
    cases r : foremost n f l with
    | none => rfl
    | some x =>
      have := ldoer_of L nd (List.mem_of_find?_eq_some r) (List.find?_some r)
      rw [q] at this
      cases this

/-! ### families that agree -/
def Agree (f g : Fam) (k : Int) : Prop := ∀ j : Int, 0 ≤ j → j ≤ k → (kd f j).el = (kd g j).el
theorem lm_agree {f g : Fam} (L : Low f) : ∀ (n : Nat) (p : Part), 0 ≤ lastP p → Agree f g (lastP p) → lm n f p = lm n g p
  | 0, _, _, _ => rfl
  | n + 1, p, h0, A => by
    have ek : kids f p = kids g p := by
      unfold kids
      rw [A (lastP p) h0 (Int.le_refl _)]
    have go : ∀ (cs : List Part), (∀ c ∈ cs, c ∈ kids f p) → ∀ a, cs.foldl (fun a c => dd a (lm n f c)) a = cs.foldl (fun a c => dd a (lm n g c)) a := by
      intro cs
      induction cs with
      | nil => intro _ _; rfl
      | cons c cs ih =>
        intro hc a
        have z := kid_low L (hc c List.mem_cons_self)
        show cs.foldl _ (dd a (lm n f c)) = cs.foldl _ (dd a (lm n g c))
        rw [lm_agree L n c z.1 (fun j h1 h2 => A j h1 (by omega))]
        exact ih (fun d hd => hc d (List.mem_cons_of_mem _ hd)) _
    show (kids f p).foldl _ [p] = (kids g p).foldl _ [p]
    rw [← ek]
    exact go _ (fun c h => h) _
end KS
namespace KS
open PySem PySem.Spec PyProof.Rows L2
open PySem.Froz (sing)
/-! ### data -/
def encP (p : Part) : PyData := .tuple (p.map PyData.int)
def encE (e : Int × Int) : PyData := .tuple [.int e.1, .int e.2]
def encK (k : Kind) : PyData := .tuple [.tuple (k.el.map encE), .str k.de, .int k.ce]
def encF (f : Fam) : PyData := .tuple (f.map encK)
theorem ints_lay : ∀ l : List Int, PyData.canLayAll0 (l.map PyData.int) = true
  | [] => by simp [PyData.canLayAll0]
  | x :: l => by simp [PyData.canLayAll0, PyData.canLay0, ints_lay l]
theorem ints_depth : ∀ l : List Int, PyData.depthAll (l.map PyData.int) = 0
  | [] => by simp [PyData.depthAll]
  | x :: l => by simp [PyData.depthAll, PyData.depth, ints_depth l]
theorem encP_depth (p : Part) : (encP p).depth = 1 := by simp [encP, PyData.depth, ints_depth]
theorem encP_lay (p : Part) : (encP p).canLay0 = true := by simp [encP, PyData.canLay0, ints_lay]
theorem shaped_of {d : PyData} (h1 : d.canLay0 = true) (h2 : d.depth ≤ 64) : SeqAt.shaped d = true := by
  show (d.canLay0 && decide (d.depth ≤ 64)) = true
  rw [h1, decide_eq_true h2]; rfl
theorem encP_shaped (p : Part) : SeqAt.shaped (encP p) = true := shaped_of (encP_lay p) (by rw [encP_depth]; decide)
theorem encPs_lay : ∀ l : List Part, PyData.canLayAll0 (l.map encP) = true
  | [] => by simp [PyData.canLayAll0]
  | x :: l => by simp [PyData.canLayAll0, encP_lay, encPs_lay l]
theorem encPs_depth : ∀ l : List Part, PyData.depthAll (l.map encP) ≤ 1
  | [] => by simp [PyData.depthAll]
  | x :: l => by
    have h := encPs_depth l
    simp only [List.map_cons, PyData.depthAll, encP_depth]
    omega
theorem encPs_shaped (l : List Part) : SeqAt.shaped (.list (l.map encP)) = true := by
  have h := encPs_depth l
  exact shaped_of (by simp only [PyData.canLay0]; exact encPs_lay l) (by simp only [PyData.depth]; omega)
theorem intsL_shaped (l : List Int) : SeqAt.shaped (.list (l.map PyData.int)) = true := by
  have h := ints_depth l
  exact shaped_of (by simp only [PyData.canLay0]; exact ints_lay l) (by simp only [PyData.depth]; omega)
theorem eqv_ints : ∀ a b : List Int, PyData.eqvAll (a.map PyData.int) (b.map PyData.int) = decide (a = b)
  | [], [] => by simp [PyData.eqvAll]
  | [], _ :: _ => by simp [PyData.eqvAll]
  | _ :: _, [] => by simp [PyData.eqvAll]
  | x :: a, y :: b => by
    simp only [List.map_cons, PyData.eqvAll, PyData.eqv, eqv_ints a b]
    by_cases h : x = y
    · subst h
      by_cases h2 : a = b
      · subst h2; simp
      · simp [h2]
    · have : (x == y) = false := beq_eq_false_iff_ne.mpr h
      rw [this]
      simp [h]
theorem eqv_encP (a b : Part) : PyData.eqv (encP a) (encP b) = decide (a = b) := by
  simp only [encP, PyData.eqv, eqv_ints]
theorem any_encP (l : List Part) (p : Part) : ((l.map encP).any fun z => PyData.eqv z (encP p)) = decide (p ∈ l) := by
  induction l with
  | nil => simp
  | cons x l ih =>
    rw [List.map_cons, List.any_cons, ih, eqv_encP]
    by_cases h : x = p
    · subst h; simp
    · have h2 : ¬ p = x := fun e => h e.symm
      simp [h, h2]
theorem atI_map {α β : Type} {l : List α} {g : α → β} {k : Int} {x : α} (h : atI l k = some x) : atI (l.map g) k = some (g x) := by
  unfold atI at h ⊢
  rw [List.length_map]
  cases q : ixN l.length k with
  | none => rw [q] at h; cases h
  | some j =>
    rw [q] at h
    show (l.map g)[j]? = some (g x)
    rw [List.getElem?_map, show l[j]? = some x from h]; rfl
theorem atI_kd {f : Fam} {k : Int} (h0 : 0 ≤ k) (h : k < f.length) : atI f k = some (kd f k) := by
  have hk : k.toNat < f.length := by omega
  have e : atI f ((k.toNat : Nat) : Int) = some (f[k.toNat]) := atI_nat (List.getElem?_eq_getElem hk)
  have e2 : ((k.toNat : Nat) : Int) = k := by omega
  rw [e2] at e
  rw [e]
  unfold kd
  rw [List.getD_eq_getElem?_getD, List.getElem?_eq_getElem hk]; rfl
theorem atI_end {p : Part} (h : p ≠ []) : atI p (-1) = some (lastP p) := by
  have e : p = p.dropLast ++ [p.getLast h] := (List.dropLast_concat_getLast h).symm
  have e2 : lastP p = p.getLast h := by
    unfold lastP
    rw [List.getLastD_eq_getLast?, List.getLast?_eq_getLast h]; rfl
  rw [e2]
  conv => lhs; rw [e]
  exact atI_last _ _
/-! ### letters -/
def abc : List Nat := [97, 98, 99, 100, 101, 102]
def txt (l : List Nat) : Str := ⟨l.toArray⟩
theorem txt_tl (s : Str) : txt s.cps.toList = s := TL.mk_tl s
theorem sing_eq (c : Nat) : sing c = txt [c] := rfl
theorem join_sing (l : List Nat) : Txt.join Str.empty (l.map sing) = txt l := by
  refine TL.ext_tl ?_
  rw [TL.join_eq, TL.tl_join, List.map_map]
  show TL.joinL [] (l.map fun c => [c]) = l
  induction l with
  | nil => rfl
  | cons a l ih =>
    cases l with
    | nil => rfl
    | cons b l =>
      show [a] ++ ([] ++ TL.joinL [] ((b :: l).map fun c => [c])) = a :: b :: l
      rw [ih]; rfl
/-- deeds as the document wants them -/
def rise (l : List Nat) : Prop := l = abc.filter fun c => decide (c ∈ l)
theorem sorted_filter : ∀ (L l : List Nat), L.Pairwise (· < ·) → l.Pairwise (· < ·) → (∀ c ∈ l, c ∈ L) → l = L.filter fun c => decide (c ∈ l)
  | [], l, _, _, h => by
    cases l with
    | nil => rfl
    | cons x l => exact absurd (h x List.mem_cons_self) (by simp)
  | a :: L, l, hL, hl, h => by
    obtain ⟨h1, h2⟩ := List.pairwise_cons.mp hL
    by_cases ha : a ∈ l
    · cases l with
      | nil => cases ha
      | cons x l =>
        obtain ⟨g1, g2⟩ := List.pairwise_cons.mp hl
        have ex : x = a := by
          rcases List.mem_cons.mp ha with e | ha
          · exact e.symm
          · have := g1 a ha
            rcases List.mem_cons.mp (h x List.mem_cons_self) with e | hx
            · exact e
            · have := h1 x hx
              omega
        subst ex
        have ih := sorted_filter L l h2 g2 fun c hc => by
          rcases List.mem_cons.mp (h c (List.mem_cons_of_mem _ hc)) with e | q
          · have := g1 c hc
            omega
          · exact q
        rw [List.filter_cons, if_pos (decide_eq_true List.mem_cons_self)]
        congr 1
        rw [ih]
        refine List.filter_congr fun c hc => ?_
        have := h1 c hc
        have e : (c ∈ x :: L.filter fun c => decide (c ∈ l)) ↔ (c ∈ L.filter fun c => decide (c ∈ l)) := by
          rw [List.mem_cons]
          constructor
          · rintro (e | q)
            · omega
            · exact q
          · exact .inr
        rw [← ih] at e
        rw [← ih]
        exact (decide_eq_decide.mpr e).symm
    · have ih := sorted_filter L l h2 hl fun c hc => by
        rcases List.mem_cons.mp (h c hc) with e | q
        · exact absurd (e ▸ hc) ha
        · exact q
      rw [List.filter_cons, if_neg (by simpa using ha)]
      exact ih
theorem abc_sorted : abc.Pairwise (· < ·) := by decide
theorem sing_lt (a b : Nat) : ltCps (sing a).cps.toList (sing b).cps.toList = decide (a < b) := by
  show ltCps [a] [b] = _
  unfold ltCps
  by_cases h : a < b
  · simp [h]
  · by_cases h2 : b < a
    · simp [h, h2, ltCps]
    · simp [h, h2, ltCps]
theorem sorted_sings : ∀ (x : Nat) (l : List Nat), risingS (sing x) (l.map sing) = true → (x :: l).Pairwise (· ≤ ·)
  | x, [], _ => by simp
  | x, y :: l, h => by
    rw [List.map_cons, risingS, Bool.and_eq_true] at h
    have h1 : ¬ y < x := by
      have q := h.1
      rw [sing_lt] at q
      simpa using q
    have h2 := sorted_sings y l h.2
    obtain ⟨g1, g2⟩ := List.pairwise_cons.mp h2
    refine List.pairwise_cons.mpr ⟨fun z hz => ?_, h2⟩
    rcases List.mem_cons.mp hz with e | hz
    · omega
    · have := g1 z hz
      omega
theorem map_sing_of : ∀ {ys : List Str} {l : List Nat}, (∀ y ∈ ys, ∃ c ∈ l, y = sing c) → ∃ m : List Nat, ys = m.map sing ∧ ∀ c ∈ m, c ∈ l
  | [], _, _ => ⟨[], rfl, fun _ h => nomatch h⟩
  | y :: ys, l, h => by
    obtain ⟨c, hc, e⟩ := h y List.mem_cons_self
    obtain ⟨m, e2, h2⟩ := map_sing_of (ys := ys) (l := l) fun z hz => h z (List.mem_cons_of_mem _ hz)
    refine ⟨c :: m, by rw [e, e2]; rfl, fun d hd => ?_⟩
    rcases List.mem_cons.mp hd with rfl | hd
    · exact hc
    · exact h2 d hd
theorem sing_inj {a b : Nat} (h : sing a = sing b) : a = b := by
  have : [a] = [b] := congrArg (fun z : Str => z.cps.toList) h
  exact (List.cons.inj this).1
/-- what sorted(set(text)) tells -/
theorem sorted_set_text {l : List Nat} {ys : List Str} (nd : l.Nodup) (sub : ∀ c ∈ l, c ∈ abc) (hs : sortedS ys = true) (hp : ys.Perm ((l.map sing).reverse)) : ∃ m : List Nat, ys = m.map sing ∧ rise m ∧ ∀ c, c ∈ m ↔ c ∈ l := by
  obtain ⟨m, e, h⟩ := map_sing_of (ys := ys) (l := l) fun y hy => by
    have := hp.mem_iff.mp hy
    rw [List.mem_reverse, List.mem_map] at this
    obtain ⟨c, hc, e⟩ := this
    exact ⟨c, hc, e.symm⟩
  subst e
  have hm : ∀ c, c ∈ m ↔ c ∈ l := fun c => ⟨h c, fun hc => by
    have : sing c ∈ m.map sing := hp.mem_iff.mpr (by rw [List.mem_reverse]; exact List.mem_map.mpr ⟨c, hc, rfl⟩)
    obtain ⟨d, hd, e⟩ := List.mem_map.mp this
    rw [← sing_inj e]; exact hd⟩
  have ndm : m.Nodup := by
    have q : (m.map sing).Nodup := hp.nodup_iff.mpr ((List.reverse_perm _).nodup_iff.mpr (List.pairwise_map.mpr (nd.imp fun h e => h (sing_inj e))))
    exact (List.pairwise_map.mp q).imp fun h e => h (congrArg sing e)
  have le : m.Pairwise (· ≤ ·) := by
    cases m with
    | nil => exact .nil
    | cons x m => exact sorted_sings x m (by simpa [sortedS] using hs)
  have lt : m.Pairwise (· < ·) := by
    refine (le.and ndm).imp fun ⟨h1, h2⟩ => ?_
    omega
  exact ⟨m, rfl, sorted_filter abc m abc_sorted lt (fun c hc => sub c (h c hc)), hm⟩

/-! ### families that are none torn -/
structure KindOk (n : Nat) (k : Kind) : Prop where
  few : k.el.length ≤ 3
  low : ∀ e ∈ k.el, 0 ≤ e.1 ∧ e.1 < n ∧ (e.2 = 0 ∨ e.2 = 1)
  once : (k.el.map (·.1)).Nodup
  rise : rise k.de.cps.toList
  cells : 0 ≤ k.ce ∧ k.ce ≤ 3
abbrev NN : Nat := 16
/-- things of kind k have few enough parts, and a doer for each known deed -/
def Sound (f : Fam) (k : Int) : Prop := (lm NN f [k]).length ≤ 16 ∧ ∀ c, doing f c (lm NN f [k]) ≠ [] → ∃ x ∈ doing f c (lm NN f [k]), over NN f (doing f c (lm NN f [k])) x = true
def Kinds (f : Fam) : Prop := ∀ (j : Nat) (k : Kind), f[j]? = some k → KindOk j k
def FamOk (f : Fam) : Prop := f.length ≤ 15 ∧ Kinds f ∧ ∀ j : Nat, j < f.length → Sound f j
theorem kd_at {f : Fam} {j : Nat} {k : Kind} (h : f[j]? = some k) : kd f j = k := by
  unfold kd
  rw [List.getD_eq_getElem?_getD, Int.toNat_natCast, h]; rfl
theorem kinds_low {f : Fam} (h : Kinds f) : Low f := by
  intro k e he
  cases q : f[k.toNat]? with
  | none =>
    unfold kd at he
    rw [List.getD_eq_getElem?_getD, q] at he
    cases he
  | some z =>
    have o := h _ _ q
    unfold kd at he
    rw [List.getD_eq_getElem?_getD, q] at he
    have := o.low e he
    refine ⟨this.1, ?_⟩
    omega
theorem FamOk.lowF {f : Fam} (h : FamOk f) : Low f := kinds_low h.2.1
theorem kd_append {g : Fam} {l : Fam} {j : Int} (h0 : 0 ≤ j) (h : j < g.length) : kd (g ++ l) j = kd g j := by
  unfold kd
  rw [List.getD_eq_getElem?_getD, List.getD_eq_getElem?_getD, List.getElem?_append_left (by omega)]
theorem kd_new {g : Fam} {k : Kind} : kd (g ++ [k]) (g.length : Nat) = k := by
  refine kd_at ?_
  simp
theorem agree_append {g l : Fam} {j : Int} (h : j < g.length) : Agree (g ++ l) g j := fun i h0 h1 => by rw [kd_append h0 (by omega)]
theorem lm_append {g l : Fam} (L : Low (g ++ l)) {p : Part} (h0 : 0 ≤ lastP p) (h : lastP p < g.length) (n : Nat) : lm n (g ++ l) p = lm n g p := lm_agree L n p h0 (agree_append h)
theorem does_append {g l : Fam} {p : Part} (h0 : 0 ≤ lastP p) (h : lastP p < g.length) (c : Nat) : does (g ++ l) c p = does g c p := by
  unfold does
  rw [kd_append h0 h]
theorem lastP_one (k : Int) : lastP [k] = k := rfl
theorem mem_bound {f : Fam} (L : Low f) {n : Nat} {k : Int} (h0 : 0 ≤ k) {y : Part} (h : y ∈ lm n f [k]) : 0 ≤ lastP y ∧ lastP y ≤ k := by
  rcases mem_last L n h with e | q
  · rw [e]; exact ⟨h0, Int.le_refl _⟩
  · rw [lastP_one] at q
    exact ⟨q.1, by omega⟩
theorem over_congr {f g : Fam} {n : Nat} {l : List Part} {x : Part} (h : lm n f x = lm n g x) : over n f l x = over n g l x := by
  unfold over
  rw [h]
theorem sound_append {g l : Fam} (K : Kinds (g ++ l)) {j : Nat} (h : j < g.length) (S : Sound g j) : Sound (g ++ l) j := by
  have L := kinds_low K
  have e : lm NN (g ++ l) [(j : Int)] = lm NN g [(j : Int)] := lm_append L (by rw [lastP_one]; omega) (by rw [lastP_one]; omega) NN
  have ed : ∀ c, doing (g ++ l) c (lm NN (g ++ l) [(j : Int)]) = doing g c (lm NN g [(j : Int)]) := fun c => by
    unfold doing
    rw [← e]
    refine List.filter_congr fun y hy => ?_
    have b := mem_bound L (by omega) hy
    exact does_append b.1 (by omega) c
  refine ⟨by rw [e]; exact S.1, fun c hc => ?_⟩
  rw [ed] at hc ⊢
  obtain ⟨x, hx, ho⟩ := S.2 c hc
  refine ⟨x, hx, ?_⟩
  have hx' : x ∈ lm NN (g ++ l) [(j : Int)] := by rw [e]; exact (List.mem_filter.mp hx).1
  have b := mem_bound L (by omega) hx'
  rw [over_congr (lm_append L b.1 (by omega) NN)]
  exact ho
theorem kinds_append {g : Fam} {k : Kind} (h : Kinds g) (o : KindOk g.length k) : Kinds (g ++ [k]) := by
  intro j z hz
  rcases Nat.lt_trichotomy j g.length with q | q | q
  · rw [List.getElem?_append_left q] at hz
    exact h j z hz
  · subst q
    simp at hz
    subst hz
    exact o
  · have : (g ++ [k])[j]? = none := List.getElem?_eq_none (by simp; omega)
    rw [this] at hz; cases hz
theorem famOk_append {g : Fam} {k : Kind} (h : FamOk g) (l : g.length ≤ 14) (o : KindOk g.length k) (S : Sound (g ++ [k]) g.length) : FamOk (g ++ [k]) := by
  have K := kinds_append h.2.1 o
  refine ⟨by simp; omega, K, fun j hj => ?_⟩
  rw [List.length_append, List.length_singleton] at hj
  rcases Nat.lt_or_ge j g.length with q | q
  · exact sound_append K q (h.2.2 j q)
  · have e : j = g.length := by omega
    subst e
    exact S
/-- the deeds a kind of f knows, rising -/
def known (f : Fam) (l : List Part) : List Nat := abc.filter fun c => l.any (does f c)
theorem known_iff {f : Fam} {l : List Part} {c : Nat} : c ∈ known f l ↔ c ∈ abc ∧ doing f c l ≠ [] := by
  unfold known doing
  rw [List.mem_filter, List.any_eq_true]
  constructor
  · rintro ⟨h, x, hx, hd⟩
    refine ⟨h, fun e => ?_⟩
    have : x ∈ l.filter (does f c) := List.mem_filter.mpr ⟨hx, hd⟩
    rw [e] at this; cases this
  · rintro ⟨h, ne⟩
    refine ⟨h, ?_⟩
    obtain ⟨x, hx⟩ := List.exists_mem_of_ne_nil _ ne
    exact ⟨x, List.mem_filter.mp hx⟩
/-- the deeds that nobody alone does -/
def torn (f : Fam) (k : Int) : List Nat := (known f (lm NN f [k])).filter fun c => (ldoer NN f (doing f c (lm NN f [k]))).isNone
theorem rise_abc {l : List Nat} (h : rise l) {c : Nat} (hc : c ∈ l) : c ∈ abc := by
  rw [h] at hc
  exact (List.mem_filter.mp hc).1
theorem root_in (f : Fam) (k : Int) : [k] ∈ lm NN f [k] := self_mem NN f [k]
/-- the last kind told anew with its torn deeds is sound -/
theorem sound_torn {g : Fam} {k : Kind} {m : List Nat} (h : FamOk g) (l : g.length ≤ 14) (e3 : k.el.length ≤ 3) (elow : ∀ e ∈ k.el, 0 ≤ e.1 ∧ e.1 < g.length ∧ (e.2 = 0 ∨ e.2 = 1)) (eonce : (k.el.map (·.1)).Nodup)
    (kabc : ∀ c ∈ k.de.cps.toList, c ∈ abc) (cells : 0 ≤ k.ce ∧ k.ce ≤ 3) (parts : (lm NN (g ++ [k]) [(g.length : Int)]).length ≤ 16) (hr : rise m) (hm : ∀ c, c ∈ m ↔ c ∈ k.de.cps.toList ∨ c ∈ torn (g ++ [k]) g.length) :
    FamOk (g ++ [⟨k.el, txt m, k.ce⟩]) := by
  have o : KindOk g.length ⟨k.el, txt m, k.ce⟩ := ⟨e3, elow, eonce, hr, cells⟩
  refine famOk_append h l o ?_
  have K' := kinds_append h.2.1 o
  have L' := kinds_low K'
  have L : Low (g ++ [k]) := by
    intro j e he
    rcases Nat.lt_trichotomy j.toNat g.length with q | q | q
    · have e1 : kd (g ++ [k]) j = kd g j := by
        unfold kd
        rw [List.getD_eq_getElem?_getD, List.getD_eq_getElem?_getD, List.getElem?_append_left q]
      rw [e1] at he
      exact h.lowF j e he
    · have e1 : kd (g ++ [k]) j = k := by
        unfold kd
        rw [List.getD_eq_getElem?_getD, q]; simp
      rw [e1] at he
      have z := elow e he
      exact ⟨z.1, by omega⟩
    · have e1 : (kd (g ++ [k]) j).el = [] := by
        unfold kd
        rw [List.getD_eq_getElem?_getD, List.getElem?_eq_none (by simp; omega)]; rfl
      rw [e1] at he; cases he
  have ag : ∀ j : Int, Agree (g ++ [⟨k.el, txt m, k.ce⟩]) (g ++ [k]) j := by
    intro j i h0 _
    rcases Nat.lt_trichotomy i.toNat g.length with q | q | q
    · rw [kd_append h0 (by omega), kd_append h0 (by omega)]
    · have ei : i = (g.length : Nat) := by omega
      subst ei
      rw [kd_new, kd_new]
    · unfold kd
      rw [List.getD_eq_getElem?_getD, List.getD_eq_getElem?_getD, List.getElem?_eq_none (by simp; omega), List.getElem?_eq_none (by simp; omega)]
  have el : ∀ (p : Part), 0 ≤ lastP p → lm NN (g ++ [⟨k.el, txt m, k.ce⟩]) p = lm NN (g ++ [k]) p := fun p h0 => lm_agree L' NN p h0 (ag _)
  have e0 := el [(g.length : Int)] (by rw [lastP_one]; omega)
  refine ⟨by rw [e0]; exact parts, fun c hc => ?_⟩
  by_cases cm : c ∈ m
  · refine ⟨[(g.length : Int)], List.mem_filter.mpr ⟨root_in _ _, ?_⟩, over_iff.mpr fun y hy => (List.mem_filter.mp hy).1⟩
    unfold does
    rw [lastP_one, kd_new]
    exact decide_eq_true cm
  · have ed : doing (g ++ [⟨k.el, txt m, k.ce⟩]) c (lm NN (g ++ [⟨k.el, txt m, k.ce⟩]) [(g.length : Int)]) = doing (g ++ [k]) c (lm NN (g ++ [k]) [(g.length : Int)]) := by
      unfold doing
      rw [e0]
      refine List.filter_congr fun y hy => ?_
      have b := mem_bound L (by omega) hy
      rcases Int.lt_or_le (lastP y) g.length with q | q
      · rw [does_append b.1 q, does_append b.1 q]
      · have ey : lastP y = (g.length : Nat) := by omega
        unfold does
        rw [ey, kd_new, kd_new]
        have n1 : ¬ c ∈ (txt m).cps.toList := cm
        have n2 : ¬ c ∈ k.de.cps.toList := fun z => cm ((hm c).mpr (.inl z))
        simp only [decide_eq_false n1, decide_eq_false n2]
    rw [ed] at hc ⊢
    have ca : c ∈ abc := by
      obtain ⟨x, hx⟩ := List.exists_mem_of_ne_nil _ hc
      obtain ⟨hx1, hx2⟩ := List.mem_filter.mp hx
      have b := mem_bound L (by omega) hx1
      rcases Int.lt_or_le (lastP x) g.length with q | q
      · unfold does at hx2
        rw [kd_append b.1 q] at hx2
        have hx3 := of_decide_eq_true hx2
        have hj : g[(lastP x).toNat]? = some (kd g (lastP x)) := by
          unfold kd
          rw [List.getD_eq_getElem?_getD, List.getElem?_eq_getElem (by omega)]; rfl
        exact rise_abc (h.2.1 _ _ hj).rise hx3
      · have ey : lastP x = (g.length : Nat) := by omega
        unfold does at hx2
        rw [ey, kd_new] at hx2
        exact kabc c (of_decide_eq_true hx2)
    have nt : ¬ c ∈ torn (g ++ [k]) g.length := fun z => cm ((hm c).mpr (.inr z))
    cases q : ldoer NN (g ++ [k]) (doing (g ++ [k]) c (lm NN (g ++ [k]) [(g.length : Int)])) with
    | none =>
      refine absurd (List.mem_filter.mpr ⟨known_iff.mpr ⟨ca, hc⟩, ?_⟩) nt
      rw [q]; rfl
    | some x =>
      obtain ⟨_, hx, ho⟩ := ldoer_some L (fun y hy => by
        have b := mem_bound L (by omega) (List.mem_filter.mp hy).1
        have : (g.length : Int) ≤ 14 := by omega
        show lastP y < (16 : Int)
        omega) q
      have hx1 := (List.mem_filter.mp hx).1
      have b := mem_bound L (by omega) hx1
      exact ⟨x, hx, by rw [over_congr (el x b.1)]; exact ho⟩
/-- no deed of its own is torn -/
theorem torn_other {g : Fam} {k : Kind} (L : Low (g ++ [k])) {c : Nat} (hc : c ∈ k.de.cps.toList) : ¬ c ∈ torn (g ++ [k]) g.length := by
  intro h
  have h2 := (List.mem_filter.mp h).2
  have hx : [(g.length : Int)] ∈ doing (g ++ [k]) c (lm NN (g ++ [k]) [(g.length : Int)]) := by
    refine List.mem_filter.mpr ⟨root_in _ _, ?_⟩
    unfold does
    rw [lastP_one, kd_new]
    exact decide_eq_true hc
  have nd : (doing (g ++ [k]) c (lm NN (g ++ [k]) [(g.length : Int)])).Nodup := (lm_nodup _ _ _).filter _
  rw [ldoer_of L nd hx (over_iff.mpr fun y hy => (List.mem_filter.mp hy).1)] at h2
  cases h2
theorem torn_nodup (f : Fam) (k : Int) : (torn f k).Nodup := by
  unfold torn known
  exact List.Pairwise.filter _ (List.Pairwise.filter _ (by decide))
theorem torn_abc {f : Fam} {k : Int} {c : Nat} (h : c ∈ torn f k) : c ∈ abc := (List.mem_filter.mp (List.mem_filter.mp h).1).1
end KS
namespace KS
open PySem PySem.Spec PyProof.Rows L2 Evl
open RZ (tLenSetI pe_lenSetI)
/-! ### a def that keeps its promise, ready to be called -/
structure Cl (P : Program) (w : World) (K : PySem.W.Frag) (mg : Str → Option Value) (base : Heap) (x : Str) (ps : List Str) (k : Nat) (sp : Sp) : Prop where
  ex : ∃ (f : Addr) (fd : FuncData), FnOk P w K mg base CX0 k f fd ps sp ∧ mg x = some (.ref f) ∧ PySem.W.keepIn K (.ref f) = true ∧ Binds K fd ps []
/-- a def as the top has written it -/
structure Df (K : PySem.W.Frag) (mg : Str → Option Value) (x : Str) (st : Stmt) (ps : List Str) : Prop where
  ex : ∃ (f : Addr) (fd : FuncData), Fun K x x st f fd ∧ mg x = some (.ref f) ∧ Binds K fd ps []
section
variable {P : Program} {w : World} {K : PySem.W.Frag} {mg : Str → Option Value} {base : Heap}
theorem Cl.mono {x : Str} {ps : List Str} {j k : Nat} {sp : Sp} (c : Cl P w K mg base x ps j sp) (h : j ≤ k) : Cl P w K mg base x ps k sp := by
  obtain ⟨f, fd, G, g, kp, b⟩ := c.ex
  exact ⟨f, fd, G.mono h, g, kp, b⟩
theorem Cl.imp {x : Str} {ps : List Str} {k : Nat} {sp sp' : Sp} (c : Cl P w K mg base x ps k sp) (h : ∀ vs H Q E, sp' vs H Q E → sp vs H Q E) : Cl P w K mg base x ps k sp' := by
  obtain ⟨f, fd, G, g, kp, b⟩ := c.ex
  exact ⟨f, fd, G.imp h, g, kp, b⟩
theorem Df.ok {x : Str} {st : Stmt} {ps N : List Str} {k : Nat} {sp : Sp} (d : Df K mg x st ps) (S : FnScope N ps (defScope st)) (len : ∀ vs H Q E, sp vs H Q E → vs.length = ps.length)
    (body : ∀ (f : Addr) (cdv : Value) (A : Around) (outer : List Env) (s : Shared) (H : Hp) (vs : List V) (Q : VK) (E : XK), Room k (A.deeper (envOfC x (defScope st) s.heap.objs.size f cdv)) → sp vs H Q E →
      ∃ t, PSs (cxOf CX0 P w K mg base N x (defScope st) f cdv A outer s H E).nox (defBody st) t ∧ t { nx := fun _ H' => Q .non H', rt := Q } (start N vs) H) : Cl P w K mg base x ps (k + 1) sp := by
  obtain ⟨f, fd, F, g, b⟩ := d.ex
  exact ⟨f, fd, F.ok S len (fun cdv A outer s H vs Q E hr h => body f cdv A outer s H vs Q E hr h), g, F.kp, b⟩
/-- a def that no exception leaves is called -/
theorem pe_cl {X : Cx} {x : Str} {ps : List Str} {k : Nat} {sp : Sp} {e : Expr} {es : List Expr} {t : TA} {p pos : Pos} (c : Cl X.prog X.w X.K X.mg X.base x ps k sp) (hr : Room k X.A) (ha : PA X (e :: es) t) (hg : Gl X x := by rfl)
    (hdb : (x == ("__debug__" : Str)) = false := by decide) (he : starEach (e :: es) X.env = (false, eval e X.env) :: starEach es X.env := by rfl) (hpl : (backTo pos (starEach es X.env)).any (·.1) = false := by rfl) :
    PE X (.Call (.Name x p) (e :: es) [] pos) (tCall sp [] E0 t) := by
  obtain ⟨f, fd, G, g, kp, b⟩ := c.ex
  exact pe_call G hr hg g kp b .nil pass0 ha hdb he hpl
theorem spD_len {R : List PyData → PyData → Prop} {n : Nat} (h : ∀ ds d, R ds d → ds.length = n) : ∀ vs H Q E, spD R vs H Q E → vs.length = n := fun vs H Q E ⟨ds, d, ha, r, _⟩ => ha.len.trans (h ds d r)
theorem spL_len {R : List PyData → List PyData → Prop} {n : Nat} (h : ∀ ds d, R ds d → ds.length = n) : ∀ vs H Q E, spL R vs H Q E → vs.length = n := fun vs H Q E ⟨ds, d, ha, r, _⟩ => ha.len.trans (h ds d r)
end
theorem DA.args1 {H : Hp} {vs : List V} {a : PyData} (h : DA H vs [a]) : ∃ x, vs = [x] ∧ D H x a := by
  cases h with
  | cons h t => cases t; exact ⟨_, rfl, h⟩
theorem DA.args2 {H : Hp} {vs : List V} {a b : PyData} (h : DA H vs [a, b]) : ∃ x y, vs = [x, y] ∧ D H x a ∧ D H y b := by
  cases h with
  | cons h t =>
    obtain ⟨y, rfl, hy⟩ := t.args1
    exact ⟨_, _, rfl, h, hy⟩
theorem DA.args3 {H : Hp} {vs : List V} {a b c : PyData} (h : DA H vs [a, b, c]) : ∃ x y z, vs = [x, y, z] ∧ D H x a ∧ D H y b ∧ D H z c := by
  cases h with
  | cons h t =>
    obtain ⟨y, z, rfl, hy, hz⟩ := t.args2
    exact ⟨_, _, _, rfl, h, hy, hz⟩
/-! ### built-ins by data -/
theorem kb_none_int : kitB "NoneType" "int" = some false := by decide +kernel
theorem kb_none_bool : kitB "NoneType" "bool" = some false := by decide +kernel
theorem kb_none_tuple : kitB "NoneType" "tuple" = some false := by decide +kernel
theorem kb_none_str : kitB "NoneType" "str" = some false := by decide +kernel
theorem kb_none_list : kitB "NoneType" "list" = some false := by decide +kernel
theorem kb_bool_int : kitB "bool" "int" = some true := by decide +kernel
theorem kb_bool_bool : kitB "bool" "bool" = some true := by decide +kernel
theorem kb_bool_tuple : kitB "bool" "tuple" = some false := by decide +kernel
theorem kb_bool_str : kitB "bool" "str" = some false := by decide +kernel
theorem kb_bool_list : kitB "bool" "list" = some false := by decide +kernel
theorem kb_int_int : kitB "int" "int" = some true := by decide +kernel
theorem kb_int_bool : kitB "int" "bool" = some false := by decide +kernel
theorem kb_int_tuple : kitB "int" "tuple" = some false := by decide +kernel
theorem kb_int_str : kitB "int" "str" = some false := by decide +kernel
theorem kb_int_list : kitB "int" "list" = some false := by decide +kernel
theorem kb_str_int : kitB "str" "int" = some false := by decide +kernel
theorem kb_str_bool : kitB "str" "bool" = some false := by decide +kernel
theorem kb_str_tuple : kitB "str" "tuple" = some false := by decide +kernel
theorem kb_str_str : kitB "str" "str" = some true := by decide +kernel
theorem kb_str_list : kitB "str" "list" = some false := by decide +kernel
theorem kb_list_int : kitB "list" "int" = some false := by decide +kernel
theorem kb_list_bool : kitB "list" "bool" = some false := by decide +kernel
theorem kb_list_tuple : kitB "list" "tuple" = some false := by decide +kernel
theorem kb_list_str : kitB "list" "str" = some false := by decide +kernel
theorem kb_list_list : kitB "list" "list" = some true := by decide +kernel
theorem kb_tuple_int : kitB "tuple" "int" = some false := by decide +kernel
theorem kb_tuple_bool : kitB "tuple" "bool" = some false := by decide +kernel
theorem kb_tuple_tuple : kitB "tuple" "tuple" = some true := by decide +kernel
theorem kb_tuple_str : kitB "tuple" "str" = some false := by decide +kernel
theorem kb_tuple_list : kitB "tuple" "list" = some false := by decide +kernel
def tyD : PyData → String
  | .none => "NoneType" | .bool _ => "bool" | .int _ => "int" | .str _ => "str" | .list _ => "list" | .tuple _ => "tuple" | .dict _ => "dict"
theorem D.tyx {K : PySem.W.Frag} {H : Hp} {v : V} {d : PyData} (h : D H v d) : TyX K H v (.type (tyD d)) := by
  cases h with
  | non => exact .base .non
  | bl b => exact .base (.bl b)
  | int i => exact .base (.int i)
  | str s => exact .base (.str s)
  | lst h _ => exact .base (.lst h)
  | tup h _ => exact .base (.tup h)
section
variable {K : PySem.W.Frag} {σ : L2.St} {H H' : Hp} {ta tb te tl : TE} {t u tt : TT} {v : V} {r : R2} {d d' z : PyData} {ds es : List PyData} {rc : List V → Hp → VK → Prop}
theorem ed_bc {ta : TA} (ha : EAs ta σ H ds) (hr : ∀ xs H1, Ex H H1 → DA H1 xs ds → ∀ Q : VK, (∀ v H2, Ex H1 H2 → D H2 v z → Q v H2) → rc xs H1 Q) : ED (tCB rc ta) σ H z := fun H1 e Q q =>
  ha H1 e _ fun xs H2 e2 a => hr xs H2 (e.trans e2) a Q fun v H3 e3 hv => q v H3 (e2.trans e3) hv
theorem el_bc {ta : TA} (ha : EAs ta σ H ds) (hr : ∀ xs H1, Ex H H1 → DA H1 xs ds → ∀ Q : VK, (∀ p ys H2, H1 p = none → Ex H1 H2 → H2 p = some (.lst ys) → DA H2 ys es → Q (.ref p) H2) → rc xs H1 Q) : EL (tCB rc ta) σ H es := fun H1 e Q q =>
  ha H1 e _ fun xs H2 e2 a => hr xs H2 (e.trans e2) a Q fun p ys H3 hp e3 h3 hv => q p ys H3 (fresh_back e2 hp) (e2.trans e3) h3 hv
theorem ed_isi {c ty : String} {b : Bool} (ha : ED ta σ H d) (hd : tyD d = ty) (h : kitB ty c = some b) : ED (tCB (rIsi K) (tCons ta (tCons (tC (.ty c)) tNil))) σ H (.bool b) := fun H1 e Q q =>
  ha H1 e _ fun x H2 e2 hx => ⟨x, .ty c, .type ty, .type c, b, rfl, .ty c, hd ▸ hx.tyx, kit_ty h, q _ H2 e2 (.bl b)⟩
theorem ed_isi2 {c1 c2 ty : String} {b1 b2 b : Bool} (ha : ED ta σ H d) (hd : tyD d = ty) (h1 : kitB ty c1 = some b1) (h2 : kitB ty c2 = some b2) (hb : (b1 || b2) = b) : ED (tCB (rIsiT K) (tCons ta (tCons (tTup (tCons (tC (.ty c1)) (tCons (tC (.ty c2)) tNil))) tNil))) σ H (.bool b) := fun H1 e Q q =>
  ha H1 e _ fun x H2 e2 hx => ⟨by show 2 ≤ sizeLine; decide, fun p hp => ⟨x, p, _, .type ty, [.type c1, .type c2], b, rfl, upd_same, .cons (.ty c1) (.cons (.ty c2) .nil), hd ▸ (hx.mono (Ex.new hp)).tyx, by
    refine kitAny_cons (kit_ty h1) (fun e1 => kitAny_cons (kit_ty h2) (fun e2 => ?_) (fun e2 => ?_)) (fun e1 => ?_)
    · subst e1 e2; rw [← hb]; exact kitAny_nil
    · subst e2; rw [← hb]; cases b1 <;> rfl
    · subst e1; rw [← hb]; rfl, q _ _ (e2.trans (Ex.new hp)) (.bl b)⟩⟩
theorem ed_len (ha : ED ta σ H d) {n : Nat} (hn : (match d with | .list ds => ds.length = n | .tuple ds => ds.length = n | .str s => s.length = n ∧ n ≤ sizeLine | _ => False)) : ED (tCB (fun xs H Q => ∃ x n, xs = [x] ∧ LenV K x H n ∧ Q (.int n) H) (tCons ta tNil)) σ H (.int n) := fun H1 e Q q =>
  ha H1 e _ fun x H2 e2 hx => ⟨x, n, rfl, by
    cases hx with
    | lst h a => exact .inl ⟨_, SqL.of h, by rw [a.len]; exact hn.symm⟩
    | tup h a => exact .inr ⟨_, SqT.of h, by rw [a.len]; exact hn.symm⟩
    | str s => exact ⟨by rw [hn.1]; exact hn.2, hn.1.symm⟩
    | _ => exact hn.elim, q _ H2 e2 (.int _)⟩
theorem ed_lenT (ha : ED ta σ H (.tuple ds)) : ED (tCB (fun xs H Q => ∃ x n, xs = [x] ∧ LenV K x H n ∧ Q (.int n) H) (tCons ta tNil)) σ H (.int ds.length) := ed_len ha rfl
theorem ed_lenL (ha : ED ta σ H (.list ds)) : ED (tCB (fun xs H Q => ∃ x n, xs = [x] ∧ LenV K x H n ∧ Q (.int n) H) (tCons ta tNil)) σ H (.int ds.length) := ed_len ha rfl
theorem ed_lenSet {ns : List Int} (ha : ED ta σ H (.list (ns.map PyData.int))) (nd : ns.Nodup) (hz : ns.length ≤ 4000) : ED (tLenSetI K ta) σ H (.int ns.length) := fun H1 e Q q =>
  ha H1 e _ fun x H2 e2 hx => by
    obtain ⟨a, xs, rfl, h, t⟩ := hx.toLst
    have e3 := t.ints
    subst e3
    exact ⟨a, ns, rfl, SqL.of h, nd, hz, q _ H2 e2 (.int _)⟩
theorem ed_all {bs : List Bool} (ha : ED ta σ H (.list (bs.map PyData.bool))) : ED (tCB (rAll K) (tCons ta tNil)) σ H (.bool (bs.all id)) := fun H1 e Q q =>
  ha H1 e _ fun x H2 e2 hx => by
    obtain ⟨a, xs, rfl, h, t⟩ := hx.toLst
    have e3 := t.bools
    subst e3
    exact ⟨a, bs, rfl, SqL.of h, q _ H2 e2 (.bl _)⟩
theorem ed_any {bs : List Bool} (ha : ED ta σ H (.list (bs.map PyData.bool))) : ED (tCB (rAny K) (tCons ta tNil)) σ H (.bool (bs.any id)) := fun H1 e Q q =>
  ha H1 e _ fun x H2 e2 hx => by
    obtain ⟨a, xs, rfl, h, t⟩ := hx.toLst
    have e3 := t.bools
    subst e3
    exact ⟨a, bs, rfl, SqL.of h, q _ H2 e2 (.bl _)⟩
theorem sing_lens : ∀ l : List Nat, ((l.map Froz.sing).map (·.length)).sum = l.length
  | [] => rfl
  | c :: l => by
    rw [List.map_cons, List.map_cons, List.sum_cons, sing_lens l, List.length_cons]
    show 1 + l.length = _
    omega
/-- "".join of single signs -/
theorem ed_join {l : List Nat} (hz : l.length ≤ 1000) (ha : ED ta σ H (.list ((l.map Froz.sing).map PyData.str))) : ED (tM1 (fun x xs H Q => ∃ a p, ∃ ys : List Str, x = .str a ∧ xs = [.ref p] ∧ (SqL K H p (ys.map V.str) ∨ SqT K H p (ys.map V.str)) ∧
      (ys.map (·.length)).sum + ys.length * a.length ≤ 16777216 ∧ Q (.str (Txt.join a ys)) H) (tC (.str Str.empty)) ta) σ H (.str (txt l)) := fun H1 e Q q => ⟨⟨_, rfl⟩,
  ha H1 e _ fun x H2 e2 hx => by
    obtain ⟨a, xs, rfl, h, t⟩ := hx.toLst
    have e3 := t.strs
    subst e3
    refine ⟨_, a, l.map Froz.sing, rfl, rfl, .inl (SqL.of h), ?_, ?_⟩
    · have e4 : (Str.empty).length = 0 := rfl
      rw [e4, Nat.mul_zero, Nat.add_zero, sing_lens]; omega
    · rw [join_sing]
      exact q _ H2 e2 (.str _)⟩
theorem ed_catT (ha : ED ta σ H (.tuple ds)) (hb : ED tb σ H (.tuple es)) (hz : ds.length + es.length ≤ 100000) : ED (tOp (rCatA K) ta tb) σ H (.tuple (ds ++ es)) := ed_bin' ha hb fun x y H1 _ hx hy Q q => by
  obtain ⟨a, xs, rfl, h1, a1⟩ := hx.toTup
  obtain ⟨b, ys, rfl, h2, a2⟩ := hy.toTup
  refine ⟨a, b, xs, ys, rfl, rfl, SqT.of h1, SqT.of h2, by rw [a1.len, a2.len]; exact sz_of hz, fun e => ?_, fun _ e => ?_, fun _ _ p hp => ?_⟩
  · subst e
    cases a1
    exact q _ H1 (Ex.refl H1) (.tup h2 a2)
  · subst e
    cases a2
    rw [List.append_nil] at q
    exact q _ H1 (Ex.refl H1) (.tup h1 a1)
  · exact q _ _ (Ex.new hp) (.tup upd_same ((a1.append a2).mono (Ex.new hp)))
/-! ### comprehensions -/
def CW (H0 : Hp) (Dl : Addr) (rs : List PyData) (H' : Hp) : Prop := H0 Dl = none ∧ Ex H0 H' ∧ ∃ acc, H' Dl = some (.lst acc) ∧ DA H' acc rs
theorem tu_upd {H : Hp} {p : Addr} {xs ys : List V} (h : H p = some (.lst xs)) : Tu H (upd H p (.lst ys)) := fun a zs e => by
  rw [upd_ne (ne_of e h (by intro z; cases z))]; exact e
theorem flatTs_append : ∀ {a b : List PyData}, flatTs a = true → flatTs b = true → flatTs (a ++ b) = true
  | [], _, _, h => h
  | x :: a, b, h1, h2 => by
    rw [flatTs, Bool.and_eq_true] at h1
    show (flatT x && flatTs (a ++ b)) = true
    rw [h1.1, flatTs_append h1.2 h2]; rfl
theorem cw_step {H0 H' : Hp} {Dl : Addr} {rs : List PyData} {σ2 : L2.St} {b : Bool} (p : CW H0 Dl rs H') (hz : rs.length < 50000) (fl : flatTs rs = true) (ht : EvT tt σ2 H0 b) (he : b = true → ED te σ2 H0 d ∧ flatT d = true) :
    tt σ2 H' fun c H3 => if c = true then te σ2 H3 fun y H4 => ∃ acc, H4 Dl = some (.lst acc) ∧ acc.length < sizeLine ∧ CW H0 Dl (if b = true then rs ++ [d] else rs) (upd H4 Dl (.lst (acc ++ [y]))) else CW H0 Dl (if b = true then rs ++ [d] else rs) H3 := by
  obtain ⟨p1, p2, acc, p3, p4⟩ := p
  refine ht H' p2 _ fun H3 e3 => ?_
  cases b with
  | false => exact ⟨p1, p2.trans e3, acc, e3 _ _ p3, p4.mono e3⟩
  | true =>
    obtain ⟨h1, h2⟩ := he rfl
    refine h1 H3 (p2.trans e3) _ fun y H4 e4 hy => ⟨acc, e4 _ _ (e3 _ _ p3), sz_lt (by rw [p4.len]; omega), p1, Ex.mut ((p2.trans e3).trans e4) p1, acc ++ [y], upd_same, ?_⟩
    have k := tu_upd (ys := acc ++ [y]) (e4 _ _ (e3 _ _ p3))
    refine DA.append (DA.keep k fl ((p4.mono e3).mono e4)) (DA.one (D.keep k h2 hy))
theorem flat_fm {α : Type} (ds : List α) (f : α → Bool) (g : α → PyData) (h : ∀ d ∈ ds, f d = true → flatT (g d) = true) : flatTs ((ds.filter f).map g) = true := by
  induction ds with
  | nil => rfl
  | cons x l ih =>
    have i := ih fun d hd => h d (List.mem_cons_of_mem _ hd)
    rw [List.filter_cons]
    split
    · rename_i hx
      show (flatT (g x) && _) = true
      rw [h x List.mem_cons_self hx]
      exact i
    · exact i
theorem take_fm {α : Type} {ds : List α} {i : Nat} {d : α} (f : α → Bool) (g : α → PyData) (h : ds[i]? = some d) : ((ds.take (i + 1)).filter f).map g = if f d = true then ((ds.take i).filter f).map g ++ [g d] else ((ds.take i).filter f).map g := by
  rw [List.take_add_one, h]
  show ((ds.take i ++ [d]).filter f).map g = _
  rw [List.filter_append, List.filter_cons]
  split
  · rw [List.map_append]; rfl
  · rw [List.filter_nil, List.append_nil]
theorem fm_len {α : Type} (ds : List α) (f : α → Bool) (g : α → PyData) : ((ds.filter f).map g).length ≤ ds.length := by
  rw [List.length_map]; exact List.length_filter_le _ _
/-- over a list of data: α tells an item, enc its datum -/
theorem el_lcL {α : Type} {as : List α} {enc : α → PyData} {g : TG} {vs : List Nat} (f : α → Bool) (ge : α → PyData) (h : ED tl σ H (.list (as.map enc))) (hz : as.length ≤ 40000) (fl : ∀ a ∈ as, f a = true → flatT (ge a) = true) (flE : ∀ a ∈ as, flatT (enc a) = true)
    (hg : ∀ a ∈ as, ∀ x H1, Ex H H1 → D H1 x (enc a) → ∃ σ2, wipe σ2 vs = wipe σ vs ∧ (∀ H2, Ex H1 H2 → ∀ R : L2.St → Hp → Prop, R σ2 H2 → g x (wipe σ vs) H2 R) ∧ EvT tt σ2 H1 (f a) ∧ (f a = true → ED te σ2 H1 (ge a))) :
    EL (tLc (iList K tl) g tt te vs) σ H ((as.filter f).map ge) := fun H0 e Q q => h H0 e _ fun x H1 e1 hx => by
  obtain ⟨p, xs, rfl, hp, ha⟩ := hx.toLst
  refine ⟨p, rfl, ⟨xs, SqL.of hp⟩, fun Dl hD => ?_⟩
  have xl : xs.length = as.length := by rw [ha.len, List.length_map]
  refine lc_list (xs := xs) (fun i H' => CW H1 Dl (((as.take i).filter f).map ge) H') ⟨hD, Ex.new hD, [], upd_same, .nil⟩ (fun i H' _ c => SqL.of (c.2.1 _ _ hp)) (fun i y H' hi c => ?_) (fun H' c => ?_)
  · obtain ⟨dd, hd, hy⟩ := ha.get2 hi
    obtain ⟨a, h1, h2⟩ : ∃ a, as[i]? = some a ∧ dd = enc a := by
      rw [List.getElem?_map] at hd
      cases k : as[i]? with
      | none => rw [k] at hd; cases hd
      | some a => rw [k] at hd; exact ⟨a, rfl, (Option.some.inj hd).symm⟩
    subst h2
    have am := List.mem_of_getElem? h1
    obtain ⟨σ2, w1, w2, w3, w4⟩ := hg a am y H1 (e.trans e1) hy
    refine w2 H' c.2.1 _ ⟨w1, ?_⟩
    have st := cw_step (te := te) (tt := tt) (σ2 := σ2) (d := ge a) c (by have := fm_len (as.take i) f ge; rw [List.length_take] at this; omega) (flat_fm _ f ge fun d hd => fl d (List.mem_of_mem_take hd)) w3 (fun hb => ⟨w4 hb, fl a am hb⟩)
    rw [← take_fm f ge h1] at st
    exact st
  · rw [xl, List.take_length] at c
    obtain ⟨c1, c2, acc, c3, c4⟩ := c
    exact q Dl acc H' (fresh_back e1 hD) (e1.trans c2) c3 c4
/-- over a tuple of data -/
theorem el_lcT {α : Type} {as : List α} {enc : α → PyData} {g : TG} {vs : List Nat} (f : α → Bool) (ge : α → PyData) (h : ED tl σ H (.tuple (as.map enc))) (hz : as.length ≤ 40000) (fl : ∀ a ∈ as, f a = true → flatT (ge a) = true)
    (hg : ∀ a ∈ as, ∀ x H1, Ex H H1 → D H1 x (enc a) → ∃ σ2, wipe σ2 vs = wipe σ vs ∧ (∀ H2, Ex H1 H2 → ∀ R : L2.St → Hp → Prop, R σ2 H2 → g x (wipe σ vs) H2 R) ∧ EvT tt σ2 H1 (f a) ∧ (f a = true → ED te σ2 H1 (ge a))) :
    EL (tLc (iTup K tl) g tt te vs) σ H ((as.filter f).map ge) := fun H0 e Q q => h H0 e _ fun x H1 e1 hx => by
  obtain ⟨p, xs, rfl, hp, ha⟩ := hx.toTup
  refine ⟨p, rfl, ⟨xs, SqT.of hp⟩, fun Dl hD => ?_⟩
  have xl : xs.length = as.length := by rw [ha.len, List.length_map]
  refine lc_tup (xs := xs) (fun i H' => CW H1 Dl (((as.take i).filter f).map ge) H') ⟨hD, Ex.new hD, [], upd_same, .nil⟩ (fun i H' _ c => SqT.of (c.2.1 _ _ hp)) (fun i y H' hi c => ?_) (fun H' c => ?_)
  · obtain ⟨dd, hd, hy⟩ := ha.get2 hi
    obtain ⟨a, h1, h2⟩ : ∃ a, as[i]? = some a ∧ dd = enc a := by
      rw [List.getElem?_map] at hd
      cases k : as[i]? with
      | none => rw [k] at hd; cases hd
      | some a => rw [k] at hd; exact ⟨a, rfl, (Option.some.inj hd).symm⟩
    subst h2
    have am := List.mem_of_getElem? h1
    obtain ⟨σ2, w1, w2, w3, w4⟩ := hg a am y H1 (e.trans e1) hy
    refine w2 H' c.2.1 _ ⟨w1, ?_⟩
    have st := cw_step (te := te) (tt := tt) (σ2 := σ2) (d := ge a) c (by have := fm_len (as.take i) f ge; rw [List.length_take] at this; omega) (flat_fm _ f ge fun d hd => fl d (List.mem_of_mem_take hd)) w3 (fun hb => ⟨w4 hb, fl a am hb⟩)
    rw [← take_fm f ge h1] at st
    exact st
  · rw [xl, List.take_length] at c
    obtain ⟨c1, c2, acc, c3, c4⟩ := c
    exact q Dl acc H' (fresh_back e1 hD) (e1.trans c2) c3 c4
/-- over the signs of a text -/
theorem el_lcS {l : List Nat} {g : TG} {vs : List Nat} (f : Nat → Bool) (ge : Nat → PyData) (h : ED tl σ H (.str (txt l))) (hz : l.length ≤ 40000) (fl : ∀ a ∈ l, f a = true → flatT (ge a) = true)
    (hg : ∀ c ∈ l, ∀ H1, Ex H H1 → ∃ σ2, wipe σ2 vs = wipe σ vs ∧ (∀ H2, Ex H1 H2 → ∀ R : L2.St → Hp → Prop, R σ2 H2 → g (.str ⟨#[c]⟩) (wipe σ vs) H2 R) ∧ EvT tt σ2 H1 (f c) ∧ (f c = true → ED te σ2 H1 (ge c))) :
    EL (tLc (iStr tl) g tt te vs) σ H ((l.filter f).map ge) := fun H0 e Q q => h H0 e _ fun x H1 e1 hx => by
  have ex := hx.toStr
  subst ex
  refine ⟨txt l, rfl, fun Dl hD => ?_⟩
  have xl : (txt l).cps.size = l.length := by simp [txt]
  refine lc_it (walk_str (z := txt l)) (fun i H' => CW H1 Dl (((l.take i).filter f).map ge) H') ⟨hD, Ex.new hD, [], upd_same, .nil⟩ (fun _ _ _ _ => trivial) (fun i y H' H'' hi c hy => ?_) (fun H' c => ?_)
  · obtain ⟨rfl, a, h1, rfl⟩ := hy
    have h1' : l[i]? = some a := by rw [← h1]; simp [txt]
    have am := List.mem_of_getElem? h1'
    obtain ⟨σ2, w1, w2, w3, w4⟩ := hg a am H1 (e.trans e1)
    refine w2 _ c.2.1 _ ⟨w1, ?_⟩
    have st := cw_step (te := te) (tt := tt) (σ2 := σ2) (d := ge a) c (by have := fm_len (l.take i) f ge; rw [List.length_take] at this; omega) (flat_fm _ f ge fun d hd => fl d (List.mem_of_mem_take hd)) w3 (fun hb => ⟨w4 hb, fl a am hb⟩)
    rw [← take_fm f ge h1'] at st
    exact st
  · rw [xl, List.take_length] at c
    obtain ⟨c1, c2, acc, c3, c4⟩ := c
    exact q Dl acc H' (fresh_back e1 hD) (e1.trans c2) c3 c4
end
end KS
namespace KS
open PySem
def topS (i : Nat) : Stmt := PySem.Challenge.pw_castslots_k13_texts_that_tell_no_family.main.body.getD i (.Pass ⟨0, 0, 0, 0⟩)
def methS : Stmt → Stmt
  | .ClassDef (body := m :: _) .. => m
  | s => s
abbrev s_is_whole : Stmt := topS 16
abbrev s_is_pair : Stmt := topS 17
abbrev s_are_elders : Stmt := topS 18
abbrev s_are_deeds : Stmt := topS 19
abbrev s_is_kind : Stmt := topS 20
abbrev s_elders_of : Stmt := topS 21
abbrev s_deeds_of : Stmt := topS 22
abbrev s_elder_part : Stmt := topS 23
abbrev s_meet : Stmt := topS 24
abbrev s_met_from : Stmt := topS 25
abbrev s_known : Stmt := topS 26
abbrev s_foremost : Stmt := topS 27
abbrev s_is_sound : Stmt := topS 28
abbrev s_need_family : Stmt := topS 29
abbrev s_is_figure : Stmt := topS 34
abbrev s_is_elder_word : Stmt := topS 35
abbrev s_are_elder_words : Stmt := topS 36
abbrev s_are_deed_letters : Stmt := topS 37
abbrev s_is_row : Stmt := topS 38
abbrev s_read_elder : Stmt := topS 39
abbrev s_read_row : Stmt := topS 40
abbrev s_read : Stmt := topS 41
abbrev s_law_mix : Stmt := topS 43
abbrev s_law_next : Stmt := topS 44
abbrev s_law_alike : Stmt := topS 45
abbrev s_law_met : Stmt := topS 46
abbrev s_law_doer : Stmt := topS 47
abbrev s_law_knows : Stmt := topS 48
abbrev s_law_family : Stmt := topS 49
abbrev s_law_text : Stmt := topS 50
abbrev s_law_elders : Stmt := topS 51
abbrev s_law_row : Stmt := topS 52
abbrev s_law_bad : Stmt := topS 53
abbrev s_law_due : Stmt := topS 54
abbrev s_law_told : Stmt := topS 55
abbrev s_law_changed : Stmt := topS 56
abbrev s_law : Stmt := topS 57
abbrev i_BadFamily : Stmt := methS (topS 2)
abbrev i_BadAsked : Stmt := methS (topS 6)
abbrev i_BadText : Stmt := methS (topS 9)
end KS
noncomputable section
namespace KS
open PySem PySem.Spec PyProof.Rows L2 Evl
open RZ (tLenSetI pe_lenSetI)
/-- the built-ins' names are still theirs -/
structure Bt (mg : Str → Option Value) : Prop where
  isinstance : mg "isinstance" = none
  int : mg "int" = none
  bool : mg "bool" = none
  tuple : mg "tuple" = none
  str : mg "str" = none
  list : mg "list" = none
  len : mg "len" = none
  all : mg "all" = none
  any : mg "any" = none
  set : mg "set" = none
  enumerate : mg "enumerate" = none
  range : mg "range" = none
  sorted : mg "sorted" = none
  max : mg "max" = none
  min : mg "min" = none
section
variable {P : Program} {w : World} {K : PySem.W.Frag} {mg : Str → Option Value} {base : Heap}
/-! ### is_whole -/
theorem sc_is_whole : FnScope ["value"] ["value"] (defScope s_is_whole) := ⟨rfl, rfl, rfl, by decide +kernel, rfl, by decide +kernel, by decide +kernel⟩
def isWhole : PyData → Bool
  | .int _ => true
  | _ => false
def R_is_whole : List PyData → PyData → Prop := fun ds d => ∃ x, ds = [x] ∧ d = .bool (isWhole x) ∧ ∀ l, x ≠ .dict l
theorem ok_is_whole (B : Bt mg) (d : Df K mg "is_whole" s_is_whole ["value"]) : Cl P w K mg base "is_whole" ["value"] 1 (spD R_is_whole) := by
  refine d.ok sc_is_whole (spD_len (by rintro _ _ ⟨x, rfl, _⟩; rfl)) (fun f cdv A outer s H vs Q E hr h => ?_)
  obtain ⟨ds, dd, hv, ⟨x, rfl, rfl, nd⟩, q⟩ := h
  obtain ⟨v, rfl, hx⟩ := hv.args1
  refine ⟨_, pss_one (ps_ret (pe_and (pe_callB call_isi rfl B.isinstance boot_isinstance (pa_cons (pv 0) (pa_cons (pe_bltn (v := .ty "int") rfl B.int (by decide +kernel) rfl) pa_nil)))
    (pe_one (pe_not (pe_callB call_isi rfl B.isinstance boot_isinstance (pa_cons (pv 0) (pa_cons (pe_bltn (v := .ty "bool") rfl B.bool (by decide +kernel) rfl) pa_nil))))))), ?_⟩
  have e0 : ED (tVar 0) (start ["value"] [v]) H x := ed_var rfl hx
  refine sd_ret (d := .bool (isWhole x)) ?_ fun v H1 e hv => q v H1 e hv
  cases x with
  | none => exact ed_andV (a := false) (b := false) (ed_isi e0 rfl kb_none_int) (fun z => nomatch z)
  | bool b => exact ed_andV (a := true) (b := false) (ed_isi e0 rfl kb_bool_int) (fun _ => ed_notV (a := true) (ed_isi e0 rfl kb_bool_bool))
  | int b => exact ed_andV (a := true) (b := true) (ed_isi e0 rfl kb_int_int) (fun _ => ed_notV (a := false) (ed_isi e0 rfl kb_int_bool))
  | str b => exact ed_andV (a := false) (b := false) (ed_isi e0 rfl kb_str_int) (fun z => nomatch z)
  | list b => exact ed_andV (a := false) (b := false) (ed_isi e0 rfl kb_list_int) (fun z => nomatch z)
  | tuple b => exact ed_andV (a := false) (b := false) (ed_isi e0 rfl kb_tuple_int) (fun z => nomatch z)
  | dict b => exact absurd rfl (nd b)
/-! ### elders_of, deeds_of -/
theorem sc_elders_of : FnScope ["family", "kind"] ["family", "kind"] (defScope s_elders_of) := ⟨rfl, rfl, rfl, by decide +kernel, rfl, by decide +kernel, by decide +kernel⟩
theorem sc_deeds_of : FnScope ["family", "kind"] ["family", "kind"] (defScope s_deeds_of) := ⟨rfl, rfl, rfl, by decide +kernel, rfl, by decide +kernel, by decide +kernel⟩
def R_elders_of : List PyData → PyData → Prop := fun ds d => ∃ (f : Fam) (k : Int), ds = [encF f, .int k] ∧ 0 ≤ k ∧ k < f.length ∧ d = .tuple ((kd f k).el.map encE)
def R_deeds_of : List PyData → PyData → Prop := fun ds d => ∃ (f : Fam) (k : Int), ds = [encF f, .int k] ∧ 0 ≤ k ∧ k < f.length ∧ d = .str (kd f k).de
theorem ok_elders_of (d : Df K mg "elders_of" s_elders_of ["family", "kind"]) : Cl P w K mg base "elders_of" ["family", "kind"] 1 (spD R_elders_of) := by
  refine d.ok sc_elders_of (spD_len (by rintro _ _ ⟨_, _, rfl, _⟩; rfl)) (fun f cdv A outer s H vs Q E hr h => ?_)
  obtain ⟨ds, dd, hv, ⟨f, k, rfl, h0, h1, rfl⟩, q⟩ := h
  obtain ⟨x, y, rfl, hx, hy⟩ := hv.args2
  refine ⟨_, pss_one (ps_ret (pe_ix ix_tup (pe_ix ix_tup (pv 0) (pv 1) (fun _ _ => rfl)) pe_int (fun _ _ => rfl))), ?_⟩
  exact sd_ret (ed_ixT (ed_ixT (ds := f.map encK) (ed_var rfl hx) (ed_var rfl hy) (atI_map (atI_kd h0 h1))) (ed_ci 0) rfl) fun v H1 e hv => q v H1 e hv
theorem ok_deeds_of (d : Df K mg "deeds_of" s_deeds_of ["family", "kind"]) : Cl P w K mg base "deeds_of" ["family", "kind"] 1 (spD R_deeds_of) := by
  refine d.ok sc_deeds_of (spD_len (by rintro _ _ ⟨_, _, rfl, _⟩; rfl)) (fun f cdv A outer s H vs Q E hr h => ?_)
  obtain ⟨ds, dd, hv, ⟨f, k, rfl, h0, h1, rfl⟩, q⟩ := h
  obtain ⟨x, y, rfl, hx, hy⟩ := hv.args2
  refine ⟨_, pss_one (ps_ret (pe_ix ix_tup (pe_ix ix_tup (pv 0) (pv 1) (fun _ _ => rfl)) pe_int (fun _ _ => rfl))), ?_⟩
  exact sd_ret (ed_ixT (ed_ixT (ds := f.map encK) (ed_var rfl hx) (ed_var rfl hy) (atI_map (atI_kd h0 h1))) (ed_ci 1) rfl) fun v H1 e hv => q v H1 e hv
end
end KS
end
noncomputable section
namespace KS
open PySem PySem.Spec PyProof.Rows L2 Evl
open RZ (tLenSetI pe_lenSetI)
section
variable {K : PySem.W.Frag} {σ : L2.St} {H H' : Hp} {te : TE} {d d1 d2 d3 : PyData} {Dn : Ends} {i j k : Nat}
theorem sd_asg2 (h : ED te σ H (.tuple [d1, d2])) (q : ∀ v1 v2 H1, Ex H H1 → D H1 v1 d1 → D H1 v2 d2 → Dn.nx ((σ.set i (some v1)).set j (some v2)) H1) : tAsg te (gTup K 2 (gCons (gName i) (gCons (gName j) gNil))) Dn σ H := h H (Ex.refl H) _ fun v H1 e hv => by
  obtain ⟨a, xs, rfl, h1, h2⟩ := hv.toTup
  obtain ⟨x, y, rfl, hx, hy⟩ := h2.args2
  exact ⟨a, [x, y], rfl, SqT.of h1, rfl, x, [y], rfl, y, [], rfl, rfl, q x y H1 e hx hy⟩
theorem sd_asg3 (h : ED te σ H (.tuple [d1, d2, d3])) (q : ∀ v1 v2 v3 H1, Ex H H1 → D H1 v1 d1 → D H1 v2 d2 → D H1 v3 d3 → Dn.nx (((σ.set i (some v1)).set j (some v2)).set k (some v3)) H1) : tAsg te (gTup K 3 (gCons (gName i) (gCons (gName j) (gCons (gName k) gNil)))) Dn σ H := h H (Ex.refl H) _ fun v H1 e hv => by
  obtain ⟨a, xs, rfl, h1, h2⟩ := hv.toTup
  obtain ⟨x, y, z, rfl, hx, hy, hz⟩ := h2.args3
  exact ⟨a, [x, y, z], rfl, SqT.of h1, rfl, x, [y, z], rfl, y, [z], rfl, z, [], rfl, rfl, q x y z H1 e hx hy hz⟩
theorem et_truI {i : Int} (h : ED te σ H (.int i)) : EvT (fun σ H Q => te σ H fun x H' => ∃ k, TruV K x H' k ∧ Q k H') σ H (i != 0) := fun H1 e Q q => h H1 e _ fun v H2 e2 hv => by
  rw [hv.toInt]
  exact ⟨_, rfl, q H2 e2⟩
end
section
variable {P : Program} {w : World} {K : PySem.W.Frag} {mg : Str → Option Value} {base : Heap}
/-! ### elder_part -/
theorem sc_elder_part : FnScope ["part", "pair", "elder", "shared"] ["part", "pair"] (defScope s_elder_part) := ⟨rfl, rfl, rfl, by decide +kernel, rfl, by decide +kernel, by decide +kernel⟩
def R_elder_part : List PyData → PyData → Prop := fun ds d => ∃ (p : Part) (e : Int × Int), ds = [encP p, encE e] ∧ (e.2 = 0 ∨ e.2 = 1) ∧ p.length ≤ 1000 ∧ d = encP (ep p e)
theorem ok_elder_part (d : Df K mg "elder_part" s_elder_part ["part", "pair"]) : Cl P w K mg base "elder_part" ["part", "pair"] 1 (spD R_elder_part) := by
  refine d.ok sc_elder_part (spD_len (by rintro _ _ ⟨_, _, rfl, _⟩; rfl)) (fun f cdv A outer s H vs Q E hr h => ?_)
  obtain ⟨ds, dd, hv, ⟨p, e, rfl, hs, hz, rfl⟩, q⟩ := h
  obtain ⟨x, y, rfl, hx, hy⟩ := hv.args2
  refine ⟨_, pss_cons (ps_asg (pv 1) (pg_tup rfl (pgs_cons (pg_name (i := 2) sc_elder_part.nd rfl (.inl rfl)) (pgs_cons (pg_name (i := 3) sc_elder_part.nd rfl (.inl rfl)) pgs_nil))))
    (pss_cons (ps_if (pt_truth (pv 3) (by intro _; rfl)) (pss_one (ps_ret (pe_tup (pa_cons (pv 2) pa_nil)))) pss_nil)
    (pss_one (ps_ret (pe_op op_catA (pv 0) (pe_tup (pa_cons (pv 2) pa_nil)))))), ?_⟩
  refine sd_asg2 (d1 := .int e.1) (d2 := .int e.2) (ed_var rfl hy) fun v1 v2 H1 e1 h1 h2 => ?_
  refine sd_if (et_truI (ed_var rfl h2)) (fun hb H2 e2 => ?_) (fun hb H2 e2 => ?_)
  · have ne : ¬ e.2 = 0 := by simpa using hb
    refine sd_ret (ed_tup (eas1 (ed_var rfl (h1.mono e2))) (by show 1 ≤ 100000; decide)) fun v H3 e3 hv => q v H3 ((e1.trans e2).trans e3) ?_
    unfold ep
    rw [if_neg ne]
    exact hv
  · have eq : e.2 = 0 := by simpa using hb
    refine sd_ret (ed_catT (ds := p.map PyData.int) (ed_var rfl (hx.mono (e1.trans e2))) (ed_tup (eas1 (ed_var rfl (h1.mono e2))) (by show 1 ≤ 100000; decide)) (by simp; omega)) fun v H3 e3 hv => q v H3 ((e1.trans e2).trans e3) ?_
    unfold ep
    rw [if_pos eq]
    have e4 : encP (p ++ [e.1]) = .tuple (p.map PyData.int ++ [.int e.1]) := by unfold encP; rw [List.map_append]; rfl
    rw [e4]
    exact hv
/-! ### meet -/
theorem mt_grow : ∀ (n : Nat) (f : Fam) (p : Part) (m : List Part), ∃ r, mt n f p m = m ++ r
  | 0, _, _, m => ⟨[], by simp [mt]⟩
  | n + 1, f, p, m => by
    by_cases hp : p ∈ m
    · exact ⟨[], by show (if p ∈ m then m else _) = _; rw [if_pos hp, List.append_nil]⟩
    · have go : ∀ (cs : List Part) (a : List Part), ∃ r, cs.foldl (fun m c => mt n f c m) a = a ++ r := by
        intro cs
        induction cs with
        | nil => intro a; exact ⟨[], by simp⟩
        | cons c cs ih =>
          intro a
          obtain ⟨r, e⟩ := mt_grow n f c a
          obtain ⟨r2, e2⟩ := ih (mt n f c a)
          exact ⟨r ++ r2, by show cs.foldl _ (mt n f c a) = _; rw [e2, e, List.append_assoc]⟩
      obtain ⟨r, e⟩ := go (kids f p) (m ++ [p])
      exact ⟨[p] ++ r, by show (if p ∈ m then m else _) = _; rw [if_neg hp, e, List.append_assoc]⟩
theorem fold_grow (n : Nat) (f : Fam) : ∀ (cs : List Part) (a : List Part), ∃ r, cs.foldl (fun m c => mt n f c m) a = a ++ r
  | [], a => ⟨[], by simp⟩
  | c :: cs, a => by
    obtain ⟨r, e⟩ := mt_grow n f c a
    obtain ⟨r2, e2⟩ := fold_grow n f cs (mt n f c a)
    exact ⟨r ++ r2, by show cs.foldl _ (mt n f c a) = _; rw [e2, e, List.append_assoc]⟩
theorem fold_take (n : Nat) (f : Fam) (cs : List Part) (a : List Part) (i : Nat) : ((cs.take i).foldl (fun m c => mt n f c m) a).length ≤ (cs.foldl (fun m c => mt n f c m) a).length := by
  obtain ⟨r, e⟩ := fold_grow n f (cs.drop i) ((cs.take i).foldl (fun m c => mt n f c m) a)
  rw [← List.foldl_append, List.take_append_drop] at e
  rw [e, List.length_append]
  omega
/-- the heap but for the list at l -/
def But (l : Addr) (H H' : Hp) : Prop := ∀ c o, c ≠ l → H c = some o → H' c = some o
theorem But.refl (l : Addr) (H : Hp) : But l H H := fun _ _ _ h => h
theorem But.trans {l : Addr} {H H1 H2 : Hp} (a : But l H H1) (b : But l H1 H2) : But l H H2 := fun c o n h => b c o n (a c o n h)
theorem But.tu {l : Addr} {H H' : Hp} {xs : List V} (b : But l H H') (h : H l = some (.lst xs)) : Tu H H' := fun a zs e => b a _ (ne_of e h (by intro z; cases z)) e
theorem But.ex {l : Addr} {H H' : Hp} (e : Ex H H') : But l H H' := fun c o _ h => e c o h
theorem But.upd {l : Addr} {H : Hp} {o : HO} : But l H (upd H l o) := fun c u n h => by rw [upd_ne n]; exact h
theorem flat_ints : ∀ l : List Int, flatTs (l.map PyData.int) = true
  | [] => rfl
  | x :: l => by show (flatT (.int x) && _) = true; rw [flat_ints l]; rfl
theorem flat_P (p : Part) : flatT (encP p) = true := by show flatTs _ = true; exact flat_ints p
theorem flat_map {α : Type} {g : α → PyData} (h : ∀ a, flatT (g a) = true) : ∀ l : List α, flatTs (l.map g) = true
  | [] => rfl
  | x :: l => by show (flatT (g x) && flatTs (l.map g)) = true; rw [h, flat_map h l]; rfl
theorem flat_Ps (l : List Part) : flatTs (l.map encP) = true := flat_map flat_P l
theorem flat_E (e : Int × Int) : flatT (encE e) = true := rfl
theorem flat_K (k : Kind) : flatT (encK k) = true := by
  show (flatT (.tuple (k.el.map encE)) && (flatT (.str k.de) && (flatT (.int k.ce) && true))) = true
  rw [show flatT (.tuple (k.el.map encE)) = true from flat_map flat_E _]; rfl
theorem flat_F (f : Fam) : flatT (encF f) = true := flat_map flat_K f
def spMeet (n : Nat) : Sp := fun vs H Q _ => ∃ (f t : Fam) (p : Part) (m : List Part) (l : Addr) (xs : List V) (vf vp : V), vs = [vf, vp, .ref l] ∧ D H vf (encF (f ++ t)) ∧ D H vp (encP p) ∧ H l = some (.lst xs) ∧ DA H xs (m.map encP) ∧
  Kinds f ∧ p ≠ [] ∧ 0 ≤ lastP p ∧ lastP p < f.length ∧ lastP p < n ∧ p.length + n ≤ 1000 ∧ (mt n f p m).length ≤ 10000 ∧
  ∀ xs' H', But l H H' → H' l = some (.lst xs') → DA H' xs' ((mt n f p m).map encP) → Q .non H'
theorem sc_meet : FnScope ["family", "part", "met", "pair"] ["family", "part", "met"] (defScope s_meet) := ⟨rfl, rfl, rfl, by decide +kernel, rfl, by decide +kernel, by decide +kernel⟩
theorem hu64 {k : Nat} {A : Around} (hr : Room k A) : A.units + 65 < cLine := by
  have := hr.un
  omega
theorem meet_step {n : Nat} (cE : Cl P w K mg base "elders_of" ["family", "kind"] 1 (spD R_elders_of)) (cP : Cl P w K mg base "elder_part" ["part", "pair"] 1 (spD R_elder_part))
    (d : Df K mg "meet" s_meet ["family", "part", "met"]) (G : Cl P w K mg base "meet" ["family", "part", "met"] (n + 1) (spMeet n)) : Cl P w K mg base "meet" ["family", "part", "met"] (n + 2) (spMeet (n + 1)) := by
  refine d.ok sc_meet (fun vs H Q E h => by obtain ⟨_, _, _, _, _, _, _, _, rfl, _⟩ := h; rfl) (fun fa cdv A outer s H vs Q E hr h => ?_)
  obtain ⟨f, t, p, m, l, xs, vf, vp, rfl, hf, hp, hl, hx, KF, pne, p0, p1, pn, pz, mz, q⟩ := h
  refine ⟨_, pss_cons (ps_if (pt_cmpR (op_inD (hu64 hr)) (pv 1) (pv 2) rfl) (pss_one ps_retN) pss_nil)
    (pss_cons (ps_expr (pe_bm PySem.F.plainAttrs_list PySem.F.slot_list_append PySem.F.type_list_append mt_append (pv 2) (pa_cons (pv 1) pa_nil)))
    (pss_one (ps_for PassesOwn.never rfl (pi_tup (pe_cl cE (hr.mono (Nat.succ_le_succ (Nat.zero_le _))) (pa_cons (pv 0) (pa_cons (pe_ix ix_tup (pv 1) (pe_un un_neg pe_int) (fun _ _ => rfl)) pa_nil)))) (pg_name (i := 3) sc_meet.nd rfl (.inl rfl))
      (pss_one (ps_expr (pe_cl G hr (pa_cons (pv 0) (pa_cons (pe_cl cP (hr.mono (Nat.succ_le_succ (Nat.zero_le _))) (pa_cons (pv 1) (pa_cons (pv 3) pa_nil))) (pa_cons (pv 2) pa_nil))))))))), ?_⟩
  have hm : D H (.ref l) (.list (m.map encP)) := .lst hl hx
  have t1 := ed_inD (K := K) (σ := start ["family", "part", "met", "pair"] [vf, vp, .ref l]) (ed_var (i := 1) rfl hp) (ed_var (i := 2) rfl hm) (encP_shaped p) (encPs_shaped m)
  rw [any_encP] at t1
  refine sd_if (et_D t1) (fun hb H1 e1 => ?_) (fun hb H1 e1 => ?_)
  · have pm : p ∈ m := of_decide_eq_true hb
    have e2 : mt (n + 1) f p m = m := if_pos pm
    rw [e2] at q
    exact q xs H1 (But.ex e1) (e1 _ _ hl) (hx.mono e1)
  · have pm : ¬ p ∈ m := of_decide_eq_false hb
    have e2 : mt (n + 1) f p m = (kids f p).foldl (fun m c => mt n f c m) (m ++ [p]) := by show (if p ∈ m then m else _) = _; rw [if_neg pm]
    have hl1 := e1 _ _ hl
    have ml : m.length ≤ (mt (n + 1) f p m).length := by
      obtain ⟨r, e⟩ := mt_grow (n + 1) f p m
      rw [e, List.length_append]; omega
    -- met.append(part)
    refine ⟨_, rfl, .inl ⟨rfl, _, SqL.of hl1⟩, _, rfl, l, xs, vp, rfl, rfl, hl1, sz_lt (by rw [hx.len, List.length_map]; omega), ?_⟩
    have b2 : But l H (upd H1 l (.lst (xs ++ [vp]))) := (But.ex e1).trans But.upd
    have tu2 : Tu H (upd H1 l (.lst (xs ++ [vp]))) := b2.tu hl
    have hf2 := hf.keep tu2 (flat_F (f ++ t))
    have hp2 := hp.keep tu2 (flat_P p)
    have hx2 : DA (upd H1 l (.lst (xs ++ [vp]))) (xs ++ [vp]) ((m ++ [p]).map encP) := by
      rw [List.map_append]
      exact (hx.keep tu2 (flat_Ps m)).append (.one hp2)
    -- the elders
    have t2 : ED (tCall (spD R_elders_of) [] E0 (tCons (tVar 0) (tCons (tOp (rIxT K) (tVar 1) (tUn (rU fun i => .int (-i)) (tC (.int 1)))) tNil))) (start ["family", "part", "met", "pair"] [vf, vp, .ref l]) (upd H1 l (.lst (xs ++ [vp]))) (.tuple ((kd f (lastP p)).el.map encE)) := by
      refine ed_call (eas2 (ed_var (i := 0) rfl hf2) (ed_ixT (ds := p.map PyData.int) (i := -1) (d := .int (lastP p)) (ed_var (i := 1) rfl hp2) ?_ (atI_map (atI_end pne)))) ⟨f ++ t, lastP p, rfl, p0, by rw [List.length_append]; omega, by rw [kd_append p0 p1]⟩
      exact fun H2 e Q q => ⟨1, rfl, q _ H2 (Ex.refl _) (.int _)⟩
    refine t2 _ (Ex.refl _) _ fun v H3 e3 hv => ?_
    obtain ⟨a, es, rfl, ha, he⟩ := hv.toTup
    have el : es.length = (kd f (lastP p)).el.length := by rw [he.len, List.length_map]
    have lk : H3 l = some (.lst (xs ++ [vp])) := e3 _ _ upd_same
    have ko : KindOk (lastP p).toNat (kd f (lastP p)) := by
      refine KF _ _ ?_
      unfold kd
      rw [List.getD_eq_getElem?_getD, List.getElem?_eq_getElem (by omega)]; rfl
    refine ⟨a, rfl, ⟨es, SqT.of ha⟩, for_tup (K := K) (a := a) (xs := es) (fun i σ H' => ∃ y xs', σ = [some vf, some vp, some (.ref l), y] ∧ But l H3 H' ∧ H' l = some (.lst xs') ∧ DA H' xs' ((((kids f p).take i).foldl (fun m c => mt n f c m) (m ++ [p])).map encP))
      ⟨none, _, rfl, But.refl _ _, lk, hx2.mono e3⟩ (fun i σ H' _ ⟨y, xs', _, b, _, _⟩ => SqT.of (b.tu lk _ _ ha)) (fun i x σ H' hi ⟨y, xs', e, b, lx, ax⟩ => ?_) (fun σ H' ⟨y, xs', e, b, lx, ax⟩ => ?_)⟩
    · subst e
      obtain ⟨dd, hd, hxd⟩ := he.get2 hi
      obtain ⟨ee, h1, h2⟩ : ∃ ee, (kd f (lastP p)).el[i]? = some ee ∧ dd = encE ee := by
        rw [List.getElem?_map] at hd
        cases k : (kd f (lastP p)).el[i]? with
        | none => rw [k] at hd; cases hd
        | some a => rw [k] at hd; exact ⟨a, rfl, (Option.some.inj hd).symm⟩
      subst h2
      have em := ko.low ee (List.mem_of_getElem? h1)
      have tu4 : Tu H3 H' := b.tu lk
      have hp4 := (hp2.mono e3).keep tu4 (flat_P p)
      have hf4 := (hf2.mono e3).keep tu4 (flat_F (f ++ t))
      have hx4 := hxd.keep tu4 (flat_E ee)
      have kc : (kids f p)[i]? = some (ep p ee) := by unfold kids; rw [List.getElem?_map, h1]; rfl
      have step : ((kids f p).take (i + 1)).foldl (fun m c => mt n f c m) (m ++ [p]) = mt n f (ep p ee) (((kids f p).take i).foldl (fun m c => mt n f c m) (m ++ [p])) := by
        rw [List.take_add_one, kc, List.foldl_append]; rfl
      -- meet(family, elder_part(part, pair), met)
      refine ⟨vf, rfl, ?_⟩
      refine (ed_call (R := R_elder_part) (E := E0) (eas2 (ed_var (σ := [some vf, some vp, some (.ref l), some x]) (i := 1) rfl hp4) (ed_var (i := 3) rfl hx4)) ⟨p, ee, rfl, em.2.2, by omega, rfl⟩) H' (Ex.refl _) _ fun v5 H5 e5 hv5 => ?_
      refine ⟨.ref l, rfl, f, t, ep p ee, _, l, xs', vf, v5, rfl, hf4.mono e5, hv5, e5 _ _ lx, ax.mono e5, KF, ep_ne _ _, by rw [lastP_ep]; omega, by rw [lastP_ep]; omega, by rw [lastP_ep]; omega, ?_, ?_, fun xs6 H6 b6 l6 a6 => ?_⟩
      · have : (ep p ee).length ≤ p.length + 1 := by
          unfold ep
          split <;> simp
        omega
      · rw [← step]
        have := fold_take n f (kids f p) (m ++ [p]) (i + 1)
        rw [← e2] at this
        omega
      · refine ⟨some x, xs6, rfl, b.trans ((But.ex e5).trans b6), l6, ?_⟩
        rw [step]
        exact a6
    · rw [el] at ax
      have ek : (kids f p).take (kd f (lastP p)).el.length = kids f p := List.take_of_length_le (by unfold kids; rw [List.length_map]; exact Nat.le_refl _)
      rw [ek, ← e2] at ax
      exact q xs' H' (b2.trans ((But.ex e3).trans b)) lx ax
/-- nothing can be asked so -/
theorem Cl.never {x : Str} {st : Stmt} {ps : List Str} {k : Nat} {sp : Sp} (d : Df K mg x st ps) (no : ∀ vs H Q E, ¬ sp vs H Q E) : Cl P w K mg base x ps k sp := by
  obtain ⟨f, fd, F, g, b⟩ := d.ex
  exact ⟨f, fd, ⟨fun vs H Q E h => absurd h (no vs H Q E), fun A outer s H args us vs Q E _ _ _ _ h => absurd h (no vs H Q E)⟩, g, F.kp, b⟩
theorem ok_meet (cE : Cl P w K mg base "elders_of" ["family", "kind"] 1 (spD R_elders_of)) (cP : Cl P w K mg base "elder_part" ["part", "pair"] 1 (spD R_elder_part))
    (d : Df K mg "meet" s_meet ["family", "part", "met"]) : ∀ n : Nat, Cl P w K mg base "meet" ["family", "part", "met"] (n + 1) (spMeet n)
  | 0 => Cl.never d fun vs H Q E h => by
    obtain ⟨_, _, _, _, _, _, _, _, _, _, _, _, _, _, _, h0, _, h1, _⟩ := h
    omega
  | n + 1 => meet_step cE cP d (ok_meet cE cP d n)
end
end KS
end
noncomputable section
namespace KS
open PySem PySem.Spec PyProof.Rows L2 Evl
open RZ (tLenSetI pe_lenSetI)
/-- a part of things of g that may be gone through -/
def PartOk (g : Fam) (p : Part) : Prop := p ≠ [] ∧ 0 ≤ lastP p ∧ lastP p < g.length ∧ p.length ≤ 900 ∧ (lm NN g p).length ≤ 10000
/-- a comprehension's scope -/
def csc (l : List (Str × NameKind)) : Scope := { kind := .function, names := l, isGenerator := false, isCoroutine := false }
theorem el_is {te : TE} {σ : L2.St} {H : Hp} {ds es : List PyData} (h : EL te σ H ds) (e : ds = es) : EL te σ H es := e ▸ h
theorem et_yes {σ : L2.St} {H : Hp} : EvT tYes σ H true := fun H1 _ Q q => q H1 (Ex.refl H1)
theorem filt_true {α : Type} (l : List α) : (l.filter fun _ => true) = l := List.filter_eq_self.mpr fun _ _ => rfl
section
variable {P : Program} {w : World} {K : PySem.W.Frag} {mg : Str → Option Value} {base : Heap}
/-! ### met_from -/
theorem sc_met_from : FnScope ["family", "part", "met"] ["family", "part"] (defScope s_met_from) := ⟨rfl, rfl, rfl, by decide +kernel, rfl, by decide +kernel, by decide +kernel⟩
def R_met_from : List PyData → List PyData → Prop := fun ds es => ∃ (g t : Fam) (p : Part), ds = [encF (g ++ t), encP p] ∧ Kinds g ∧ g.length ≤ 15 ∧ PartOk g p ∧ es = (lm NN g p).map encP
theorem ok_met_from (d : Df K mg "met_from" s_met_from ["family", "part"]) (G : Cl P w K mg base "meet" ["family", "part", "met"] 17 (spMeet NN)) : Cl P w K mg base "met_from" ["family", "part"] 18 (spL R_met_from) := by
  refine d.ok sc_met_from (spL_len (by rintro _ _ ⟨_, _, _, rfl, _⟩; rfl)) (fun fa cdv A outer s H vs Q E hr h => ?_)
  obtain ⟨ds, es, hv, ⟨g, t, p, rfl, KG, gl, ⟨pne, p0, p1, pz, mz⟩, rfl⟩, q⟩ := h
  obtain ⟨x, y, rfl, hx, hy⟩ := hv.args2
  refine ⟨_, pss_cons (ps_set (i := 2) sc_met_from.nd rfl (.inl rfl) (pe_lst pa_nil))
    (pss_cons (ps_expr (pe_cl G hr (pa_cons (pv 0) (pa_cons (pv 1) (pa_cons (pv 2) pa_nil)))))
    (pss_one (ps_ret (pv 2)))), ?_⟩
  refine ⟨Nat.zero_le _, fun l hl => ?_⟩
  have e := mt_nil (kinds_low KG) (n := NN) (p := p) (by show lastP p < (16 : Int); omega) p0
  have e1 : Ex H (upd H l (.lst [])) := Ex.new hl
  refine ⟨x, rfl, y, rfl, .ref l, rfl, g, t, p, [], l, [], x, y, rfl, hx.mono e1, hy.mono e1, upd_same, .nil, KG, pne, p0, p1, by show lastP p < (16 : Int); omega, by show p.length + 16 ≤ 1000; omega, by rw [e]; exact mz, fun xs' H' b l' a' => ?_⟩
  rw [e] at a'
  exact ⟨.ref l, rfl, q l xs' H' hl (fun a o ha => b a o (ne_of_none ha hl) (e1 a o ha)) l' a'⟩
/-! ### known -/
theorem sc_known : FnScope ["family", "found", "done", "part", "letter", "deeds"] ["family", "found"] (defScope s_known) := ⟨rfl, rfl, rfl, by decide +kernel, rfl, by decide +kernel, by decide +kernel⟩
/-- parts whose last numbers are kinds of g -/
def Parts (g : Fam) (l : List Part) : Prop := l.length ≤ 10000 ∧ ∀ p ∈ l, p ≠ [] ∧ 0 ≤ lastP p ∧ lastP p < g.length
def R_known : List PyData → PyData → Prop := fun ds d => ∃ (g t : Fam) (l : List Part), ds = [encF (g ++ t), .list (l.map encP)] ∧ Parts g l ∧ d = .str (txt (known g l))
theorem ed_last {σ : L2.St} {H : Hp} {te : TE} {p : Part} (h : ED te σ H (encP p)) (ne : p ≠ []) : ED (tOp (rIxT K) te (tUn (rU fun i => .int (-i)) (tC (.int 1)))) σ H (.int (lastP p)) :=
  ed_ixT (ds := p.map PyData.int) (i := -1) h (fun H2 e Q q => ⟨1, rfl, q _ H2 (Ex.refl _) (.int _)⟩) (atI_map (atI_end ne))
theorem ok_known (B : Bt mg) (mL : ∃ t, mg "LETTERS" = some (.str (txt abc) t)) (d : Df K mg "known" s_known ["family", "found"]) (cD : Cl P w K mg base "deeds_of" ["family", "kind"] 1 (spD R_deeds_of)) : Cl P w K mg base "known" ["family", "found"] 2 (spD R_known) := by
  obtain ⟨tL, mL⟩ := mL
  refine d.ok sc_known (spD_len (by rintro _ _ ⟨_, _, _, rfl, _⟩; rfl)) (fun fa cdv A outer s H vs Q E hr h => ?_)
  obtain ⟨ds, es, hv, ⟨g, t, l, rfl, ⟨lz, lp⟩, rfl⟩, q⟩ := h
  obtain ⟨x, y, rfl, hx, hy⟩ := hv.args2
  refine ⟨_, pss_cons (ps_set (i := 2) sc_known.nd rfl (.inr rfl) (pe_lc (own := [("part", 3)]) (g := gName 3) (tt := tYes) rfl sc_known.nd (pi_list (pv 1)) (blkOk_by (N := ["family", "found", "done", "part", "letter", "deeds"]) (sc := defScope s_known) (by decide +kernel))
      (fun _ _ _ _ _ => pg_name (i := 3) sc_known.nd rfl (.inl rfl)) (fun _ _ _ _ _ => pts_nil) (fun _ _ _ _ _ => pe_cl cD hr (pa_cons (pv 0) (pa_cons (pe_ix (r := rIxT K) ix_tup (pv 3) (pe_un un_neg pe_int) (fun _ _ => rfl)) pa_nil)))))
    (pss_one (ps_ret (pe_join pe_str (pe_lc (own := [("letter", 4)]) (g := gName 4) rfl sc_known.nd (pi_str (pe_glob (v := .str (txt abc)) rfl mL ⟨_, rfl⟩)) (blkOk_by (N := ["family", "found", "done", "part", "letter", "deeds"]) (sc := defScope s_known) (by decide +kernel))
      (fun _ _ _ _ _ => pg_name (i := 4) sc_known.nd rfl (.inr rfl)) (fun _ _ _ _ _ => by exact pts_one (pt_val (pe_callB (r := rAny K) (cr_any (by rfl)) (by rfl) B.any boot_any (by exact pa_cons (pe_lc (wi := iList K (tVar 2)) (own := [("deeds", 5)]) (g := gName 5) (tt := tYes) rfl sc_known.nd (pi_list (pv 2)) (blkOk_by (N := ["family", "found", "done", "part", "letter", "deeds"]) (sc := csc [(".0", .local), ("letter", .cell), ("any", .globalImplicit), ("done", .cell)]) (by decide +kernel)) (fun _ _ _ _ _ => pg_name (i := 5) sc_known.nd rfl (.inl rfl)) (fun _ _ _ _ _ => pts_nil) (fun _ _ _ _ _ => pe_cmpR op_inS (pv 4) (pv 5) rfl)) pa_nil)))) (fun _ _ _ _ _ => pv 4))))), ?_⟩
  refine sl_asg (ds := (l.map fun p => (kd g (lastP p)).de).map PyData.str) ?_ fun p xs H1 np e1 hp ha => ?_
  · refine el_is (el_lcL (as := l) (enc := encP) (fun _ => true) (fun p => .str (kd g (lastP p)).de) (ed_var (i := 1) rfl hy) (by omega) (fun _ _ _ => rfl) (fun a _ => flat_P a) fun a ha z H2 e2 hz => ?_) (by rw [filt_true, List.map_map]; rfl)
    obtain ⟨ane, a0, a1⟩ := lp a ha
    refine ⟨[some x, some y, none, some z, none, none], rfl, fun _ _ R h => h, et_yes, fun _ => ?_⟩
    exact ed_call (eas2 (ed_var (i := 0) rfl (hx.mono e2)) (ed_last (ed_var (i := 3) rfl hz) ane)) ⟨g ++ t, lastP a, rfl, a0, by rw [List.length_append]; omega, by rw [kd_append a0 a1]⟩
  · have hd : D H1 (.ref p) (.list ((l.map fun p => (kd g (lastP p)).de).map PyData.str)) := .lst hp ha
    refine sd_ret (ed_join (l := known g l) (by unfold known; exact Nat.le_trans (List.length_filter_le _ _) (by decide)) (EL.ed (el_is (el_lcS (l := abc) (fun c => l.any (does g c)) (fun c => .str (Froz.sing c)) (ed_cs _) (by decide) (fun _ _ _ => rfl) fun c hc H2 e2 => ?_) (by unfold known; rw [List.map_map]; rfl)))) fun v H2 e2 hv => q v H2 (e1.trans e2) hv
    refine ⟨[some x, some y, some (.ref p), none, some (.str ⟨#[c]⟩), none], rfl, fun _ _ R h => h, ?_, fun _ => ed_var rfl (.str _)⟩
    refine et_DB (ed_is (ed_any (bs := (l.map fun p => (kd g (lastP p)).de).map fun s => decide (c ∈ s.cps.toList)) (EL.ed (el_is (el_lcL (as := l.map fun p => (kd g (lastP p)).de) (enc := PyData.str) (fun _ => true) (fun s => .bool (decide (c ∈ s.cps.toList))) (ed_var (i := 2) rfl (hd.mono e2)) (by rw [List.length_map]; omega) (fun _ _ _ => rfl) (fun _ _ => rfl) fun a ha z H3 e3 hz => ?_) (by rw [filt_true, List.map_map, List.map_map, List.map_map]; rfl)))) ?_)
    · refine ⟨[some x, some y, some (.ref p), none, some (.str ⟨#[c]⟩), some z], rfl, fun _ _ R h => h, et_yes, fun _ => ?_⟩
      exact ed_inS (ed_var (i := 4) rfl (.str _)) (ed_var (i := 5) rfl hz)
    · congr 1
      rw [List.map_map, List.any_map]
      rfl
end
end KS
end
noncomputable section
namespace KS
open PySem PySem.Spec PyProof.Rows L2 Evl
open RZ (tLenSetI pe_lenSetI)
theorem lm_plen {f : Fam} : ∀ {n : Nat} {p y : Part}, y ∈ lm n f p → y.length ≤ p.length + n
  | 0, p, y, h => by
    have e : y = p := by simpa [lm] using h
    rw [e]; omega
  | n + 1, p, y, h => by
    rcases mem_lm.mp h with rfl | ⟨c, hc, h⟩
    · omega
    · obtain ⟨e, he, rfl⟩ := mem_kids.mp hc
      have i := lm_plen (n := n) h
      have : (ep p e).length ≤ p.length + 1 := by
        unfold ep
        split <;> simp
      omega
theorem nodup_len {α : Type} [BEq α] [LawfulBEq α] {l k : List α} (nd : l.Nodup) (h : ∀ x ∈ l, x ∈ k) : l.length ≤ k.length := by
  induction l generalizing k with
  | nil => exact Nat.zero_le _
  | cons x l ih =>
    obtain ⟨n1, n2⟩ := List.nodup_cons.mp nd
    have hx := h x List.mem_cons_self
    have i := ih (k := k.erase x) n2 fun y hy => (List.mem_erase_of_ne (fun (e : y = x) => n1 (e ▸ hy))).mpr (h y (List.mem_cons_of_mem _ hy))
    rw [List.length_erase_of_mem hx] at i
    have := List.length_pos_of_mem hx
    rw [List.length_cons]
    omega
def optP : Option Part → PyData
  | some p => encP p
  | none => .none
theorem optP_some (o : Option Part) : (!isND (optP o)) = o.isSome := by cases o <;> rfl
section
variable {P : Program} {w : World} {K : PySem.W.Frag} {mg : Str → Option Value} {base : Heap}
/-! ### foremost -/
abbrev N_foremost : List Str := ["family", "found", "deed", "doing", "part", "within", "other"]
theorem sc_foremost : FnScope N_foremost ["family", "found", "deed"] (defScope s_foremost) := ⟨rfl, rfl, rfl, by decide +kernel, rfl, by decide +kernel, by decide +kernel⟩
def R_foremost : List PyData → PyData → Prop := fun ds d => ∃ (g t : Fam) (l : List Part) (c : Nat), ds = [encF (g ++ t), .list (l.map encP), .str (Froz.sing c)] ∧ Kinds g ∧ g.length ≤ 15 ∧ l.length ≤ 10000 ∧ (∀ p ∈ l, PartOk g p) ∧
  d = optP (foremost NN g (doing g c l))
theorem ok_foremost (B : Bt mg) (d : Df K mg "foremost" s_foremost ["family", "found", "deed"]) (cD : Cl P w K mg base "deeds_of" ["family", "kind"] 1 (spD R_deeds_of)) (cM : Cl P w K mg base "met_from" ["family", "part"] 18 (spL R_met_from)) :
    Cl P w K mg base "foremost" ["family", "found", "deed"] 19 (spD R_foremost) := by
  refine d.ok sc_foremost (spD_len (by rintro _ _ ⟨_, _, _, _, rfl, _⟩; rfl)) (fun fa cdv A outer s H vs Q E hr h => ?_)
  obtain ⟨ds, es, hv, ⟨g, t, l, c, rfl, KG, gl, lz, lp, rfl⟩, q⟩ := h
  obtain ⟨x, y, z, rfl, hx, hy, hz⟩ := hv.args3
  refine ⟨_, pss_cons (ps_setLc (i := 3) (own := [("part", 4)]) (g := gName 4) rfl sc_foremost.nd rfl rfl (sw_true rfl rfl rfl (by decide +kernel)) (pi_list (pv 1)) (blkOk_by (N := N_foremost) (sc := defScope s_foremost) (by decide +kernel))
      (fun _ _ _ _ _ => pg_name (i := 4) sc_foremost.nd rfl (.inl rfl)) (fun _ _ _ _ _ => by exact pts_one (pt_cmpR op_inS (pv 2) (pe_cl cD (hr.mono (by decide)) (by exact (pa_cons (pv 0) (pa_cons (pe_ix (r := rIxT K) ix_tup (pv 4) (pe_un un_neg pe_int) (fun _ _ => rfl)) pa_nil)))) rfl)) (fun _ _ _ _ _ => pv 4))
    (pss_cons (ps_for PassesOwn.never rfl (pi_list (pv 3)) (pg_name (i := 4) sc_foremost.nd rfl (.inl rfl))
      (pss_cons (ps_set (i := 5) sc_foremost.nd rfl (.inr rfl) (pe_cl cM hr (pa_cons (pv 0) (pa_cons (pv 4) pa_nil))))
      (pss_one (ps_if (pt_val (pe_callB (cr_all (by rfl)) (by rfl) B.all boot_all (pa_cons (pe_lc (own := [("other", 6)]) (g := gName 6) (tt := tYes) rfl sc_foremost.nd (pi_list (pv 3)) (blkOk_by (N := N_foremost) (sc := defScope s_foremost) (by decide +kernel))
        (fun _ _ _ _ _ => pg_name (i := 6) sc_foremost.nd rfl (.inl rfl)) (fun _ _ _ _ _ => pts_nil) (fun _ _ _ _ _ => pe_cmpR (r := rInD K) (op_inD (hu64 hr)) (pv 6) (pv 5) rfl)) pa_nil))) (pss_one (ps_ret (pv 4))) pss_nil))))
    (pss_one (ps_ret pe_non))), ?_⟩
  have lm' : ∀ p ∈ doing g c l, p ∈ l := fun p hp => (List.mem_filter.mp hp).1
  have dz : (doing g c l).length ≤ l.length := List.length_filter_le _ _
  refine sl_asg (ds := (doing g c l).map encP) ?_ fun p xs H1 np e1 hp ha => ?_
  · refine el_lcL (as := l) (enc := encP) (does g c) encP (ed_var (i := 1) rfl hy) (by omega) (fun a _ _ => flat_P a) (fun a _ => flat_P a) fun a ha v H2 e2 hv => ?_
    obtain ⟨ane, a0, a1, _⟩ := lp a ha
    refine ⟨[some x, some y, some z, none, some v, none, none], rfl, fun _ _ R h => h, ?_, fun _ => ed_var (i := 4) rfl hv⟩
    exact et_D (ed_inS (ed_var (i := 2) rfl (hz.mono e2)) (ed_call (eas2 (ed_var (i := 0) rfl (hx.mono e2)) (ed_last (ed_var (i := 4) rfl hv) ane)) ⟨g ++ t, lastP a, rfl, a0, by rw [List.length_append]; omega, by rw [kd_append a0 a1]⟩))
  · -- for part in doing
    have dd : D H1 (.ref p) (.list ((doing g c l).map encP)) := .lst hp ha
    have xl : xs.length = (doing g c l).length := by rw [ha.len, List.length_map]
    refine ⟨.ref p, rfl, p, rfl, ⟨xs, SqL.of hp⟩, for_list (K := K) (a := p) (xs := xs) (fun i σ H' => (∃ u1 u2, σ = [some x, some y, some z, some (.ref p), u1, u2, none]) ∧ Ex H1 H' ∧ ((doing g c l).take i).find? (over NN g (doing g c l)) = none)
      ⟨⟨_, _, rfl⟩, Ex.refl _, rfl⟩ (fun i σ H' _ ⟨_, e, _⟩ => SqL.of (e _ _ hp)) (fun i v σ H' hi ⟨⟨u1, u2, es⟩, e2, nf⟩ => ?_) (fun σ H' ⟨⟨u1, u2, es⟩, e2, nf⟩ => ?_)⟩
    · subst es
      obtain ⟨du, hd, hv⟩ := ha.get2 hi
      obtain ⟨a, h1, h2⟩ : ∃ a, (doing g c l)[i]? = some a ∧ du = encP a := by
        rw [List.getElem?_map] at hd
        cases k : (doing g c l)[i]? with
        | none => rw [k] at hd; cases hd
        | some a => rw [k] at hd; exact ⟨a, rfl, (Option.some.inj hd).symm⟩
      subst h2
      have am := lm' a (List.mem_of_getElem? h1)
      have pa := lp a am
      refine sl_asg (ds := (lm NN g a).map encP) (el_call' (eas2 (ed_var (i := 0) rfl ((hx.mono e1).mono e2)) (ed_var (i := 4) rfl (hv.mono e2))) ⟨g, t, a, rfl, KG, gl, pa, rfl⟩) fun p2 xs2 H3 np2 e3 hp2 ha2 => ?_
      have dw : D H3 (.ref p2) (.list ((lm NN g a).map encP)) := .lst hp2 ha2
      have dd3 := (dd.mono e2).mono e3
      refine sd_if (b := over NN g (doing g c l) a) (et_DB (ed_is (ed_all (bs := (doing g c l).map fun o => decide (o ∈ lm NN g a)) (EL.ed (el_is (el_lcL (as := doing g c l) (enc := encP) (fun _ => true) (fun o => .bool (decide (o ∈ lm NN g a))) (ed_var (i := 3) rfl dd3) (by omega) (fun _ _ _ => rfl) (fun o _ => flat_P o) fun o ho v4 H4 e4 hv4 => ?_) (by rw [filt_true, List.map_map]; rfl)))) ?_)) (fun hb H4 e4 => ?_) (fun hb H4 e4 => ?_)
      · refine ⟨[some x, some y, some z, some (.ref p), some v, some (.ref p2), some v4], rfl, fun _ _ R h => h, et_yes, fun _ => ?_⟩
        have t1 := ed_inD (K := K) (σ := [some x, some y, some z, some (.ref p), some v, some (.ref p2), some v4]) (ed_var (i := 6) rfl hv4) (ed_var (i := 5) rfl (dw.mono e4)) (encP_shaped o) (encPs_shaped (lm NN g a))
        rw [any_encP] at t1
        exact t1
      · unfold over
        congr 1
        rw [List.all_map]
        rfl
      · refine ⟨v, rfl, q v H4 (((e1.trans e2).trans e3).trans e4) ?_⟩
        have ef : foremost NN g (doing g c l) = some a := by
          unfold foremost
          have es : doing g c l = (doing g c l).take i ++ a :: (doing g c l).drop (i + 1) := by
            conv => lhs; rw [← List.take_append_drop i (doing g c l)]
            congr 1
            obtain ⟨hlt, he⟩ := List.getElem?_eq_some_iff.mp h1
            rw [List.drop_eq_getElem_cons hlt, he]
          conv => lhs; arg 2; rw [es]
          rw [List.find?_append, nf]
          show List.find? _ _ = _
          rw [List.find?_cons_of_pos hb]
        rw [ef]
        exact ((hv.mono e2).mono e3).mono e4
      · refine ⟨⟨_, _, rfl⟩, (e2.trans e3).trans e4, ?_⟩
        rw [List.take_add_one, h1, List.find?_append, nf]
        show List.find? _ [a] = none
        rw [List.find?_cons_of_neg (by rw [hb]; decide)]
        rfl
    · subst es
      rw [xl, List.take_length] at nf
      refine q .non H' (e1.trans e2) ?_
      unfold foremost
      rw [nf]
      exact .non
/-! ### is_sound -/
abbrev N_is_sound : List Str := ["family", "kind", "found", "deed"]
theorem sc_is_sound : FnScope N_is_sound ["family", "kind"] (defScope s_is_sound) := ⟨rfl, rfl, rfl, by decide +kernel, rfl, by decide +kernel, by decide +kernel⟩
def soundB (g : Fam) (k : Int) : Bool := decide ((lm NN g [k]).length ≤ 16) && (known g (lm NN g [k])).all fun c => (foremost NN g (doing g c (lm NN g [k]))).isSome
def R_is_sound : List PyData → PyData → Prop := fun ds d => ∃ (g t : Fam) (k : Int), ds = [encF (g ++ t), .int k] ∧ Kinds g ∧ g.length ≤ 15 ∧ 0 ≤ k ∧ k < g.length ∧ (lm NN g [k]).length ≤ 10000 ∧ d = .bool (soundB g k)
theorem mem_partOk {g : Fam} (KG : Kinds g) (gl : g.length ≤ 15) {k : Int} (h0 : 0 ≤ k) (h1 : k < g.length) (hz : (lm NN g [k]).length ≤ 10000) {p : Part} (hp : p ∈ lm NN g [k]) : PartOk g p := by
  have L := kinds_low KG
  have b := mem_bound L h0 hp
  refine ⟨mem_ne NN (by simp) hp, b.1, by omega, ?_, ?_⟩
  · have := lm_plen (n := NN) hp
    have e : ([k] : Part).length = 1 := rfl
    show p.length ≤ 900
    have : NN = 16 := rfl
    omega
  · have sub : ∀ y ∈ lm NN g p, y ∈ lm NN g [k] := fun y hy => lm_trans L NN (by show lastP [k] < (16 : Int); rw [lastP_one]; omega) hp hy
    have := nodup_len (lm_nodup NN g p) sub
    omega
theorem ok_is_sound (B : Bt mg) (m16 : ∃ t, mg "MOST_PARTS" = some (.int 16 t)) (d : Df K mg "is_sound" s_is_sound ["family", "kind"]) (cM : Cl P w K mg base "met_from" ["family", "part"] 18 (spL R_met_from)) (cK : Cl P w K mg base "known" ["family", "found"] 2 (spD R_known))
    (cF : Cl P w K mg base "foremost" ["family", "found", "deed"] 19 (spD R_foremost)) : Cl P w K mg base "is_sound" ["family", "kind"] 20 (spD R_is_sound) := by
  obtain ⟨t16, m16⟩ := m16
  refine d.ok sc_is_sound (spD_len (by rintro _ _ ⟨_, _, _, rfl, _⟩; rfl)) (fun fa cdv A outer s H vs Q E hr h => ?_)
  obtain ⟨ds, es, hv, ⟨g, t, k, rfl, KG, gl, k0, k1, mz, rfl⟩, q⟩ := h
  obtain ⟨x, y, rfl, hx, hy⟩ := hv.args2
  refine ⟨_, pss_cons (ps_set (i := 2) sc_is_sound.nd rfl (.inr rfl) (pe_cl cM (hr.mono (by decide)) (pa_cons (pv 0) (pa_cons (pe_tup (pa_cons (pv 1) pa_nil)) pa_nil))))
    (pss_cons (ps_if (pt_cmpR op_gt (pe_callB call_len rfl B.len PySem.boot_len (pa_cons (pv 2) pa_nil)) (pe_glob (v := .int 16) rfl m16 ⟨_, rfl⟩) (nomark _)) (pss_one (ps_ret pe_bl)) pss_nil)
    (pss_one (ps_ret (pe_callB (cr_all (by rfl)) (by rfl) B.all boot_all (pa_cons (pe_lc (own := [("deed", 3)]) (g := gName 3) (tt := tYes) rfl sc_is_sound.nd (pi_str (pe_cl cK (hr.mono (by decide)) (pa_cons (pv 0) (pa_cons (pv 2) pa_nil)))) (blkOk_by (N := N_is_sound) (sc := defScope s_is_sound) (by decide +kernel))
        (fun _ _ _ _ _ => pg_name (i := 3) sc_is_sound.nd rfl (.inl rfl)) (fun _ _ _ _ _ => pts_nil) (fun _ _ _ _ _ => pe_cmpR op_notN1 (by exact pe_cl cF hr (by exact (pa_cons (pv 0) (pa_cons (pv 2) (pa_cons (pv 3) pa_nil))))) pe_non (nomark _))) pa_nil))))), ?_⟩
  have pk : PartOk g [k] := ⟨by simp, k0, k1, by show 1 ≤ 900; decide, mz⟩
  refine sl_asg (ds := (lm NN g [k]).map encP) (el_call' (eas2 (ed_var (i := 0) rfl hx) (ed_tup (ds := [.int k]) (eas1 (ed_var (i := 1) rfl hy)) (by show 1 ≤ 100000; decide))) ⟨g, t, [k], rfl, KG, gl, pk, rfl⟩) fun p xs H1 np e1 hp ha => ?_
  have dd : D H1 (.ref p) (.list ((lm NN g [k]).map encP)) := .lst hp ha
  have pall : ∀ p ∈ lm NN g [k], PartOk g p := fun p hp => mem_partOk KG gl k0 k1 mz hp
  refine sd_if (b := decide (16 < ((lm NN g [k]).length : Int))) (et_D (ed_I0 (i := ((lm NN g [k]).length : Int)) (j := 16) (ed_is (ed_lenL (ed_var (i := 2) rfl dd)) (by rw [List.length_map])) (ed_ci 16) fun H => .bl _)) (fun hb H2 e2 => ?_) (fun hb H2 e2 => ?_)
  · refine sd_ret (ed_cb false) fun v H3 e3 hv3 => q v H3 ((e1.trans e2).trans e3) ?_
    have : ¬ (lm NN g [k]).length ≤ 16 := by
      have := of_decide_eq_true hb
      omega
    unfold soundB
    rw [decide_eq_false this]
    exact hv3
  · have le : (lm NN g [k]).length ≤ 16 := by
      have := of_decide_eq_false hb
      omega
    refine st_next ?_
    dsimp only
    refine sd_ret (d := .bool (soundB g k)) ?_ fun v H3 e3 hv3 => q v H3 ((e1.trans e2).trans e3) hv3
    refine ed_is (ed_all (bs := (known g (lm NN g [k])).map fun c => (foremost NN g (doing g c (lm NN g [k]))).isSome) (EL.ed (el_is (el_lcS (l := known g (lm NN g [k])) (fun _ => true) (fun c => .bool (foremost NN g (doing g c (lm NN g [k]))).isSome) ?_ (by unfold known; exact Nat.le_trans (List.length_filter_le _ _) (by decide)) (fun _ _ _ => rfl) fun c hc H3 e3 => ?_) (by rw [filt_true, List.map_map]; rfl)))) ?_
    · exact ed_call (eas2 (ed_var (i := 0) rfl ((hx.mono e1).mono e2)) (ed_var (i := 2) rfl (dd.mono e2))) ⟨g, t, _, rfl, ⟨mz, fun p hp => ⟨(pall p hp).1, (pall p hp).2.1, (pall p hp).2.2.1⟩⟩, rfl⟩
    · refine ⟨[some x, some y, some (.ref p), some (.str ⟨#[c]⟩)], rfl, fun _ _ R h => h, et_yes, fun _ => ?_⟩
      refine ed_notN (d := optP (foremost NN g (doing g c (lm NN g [k])))) (ed_call (eas_cons (ed_var (i := 0) rfl (((hx.mono e1).mono e2).mono e3)) (eas2 (ed_var (i := 2) rfl ((dd.mono e2).mono e3)) (ed_var (i := 3) rfl (.str _)))) ⟨g, t, _, c, rfl, KG, gl, mz, pall, rfl⟩) ?_
      exact optP_some _
    · unfold soundB
      rw [decide_eq_true le, List.all_map]
      rfl
end
end KS
end
noncomputable section
namespace KS
open PySem PySem.Spec PyProof.Rows L2 Evl
open RZ (tLenSetI pe_lenSetI)
section
variable {K : PySem.W.Frag} {σ : L2.St} {H H' : Hp} {ta tb tc te : TE}
theorem ev_int {i : Int} (h : ED te σ H (.int i)) : Ev te σ H (.int i) := fun H1 e Q q => h H1 e Q fun v H2 e2 hv => by
  rw [hv.toInt]; exact q H2 e2
theorem in01 (i : Int) : inV (.int i) [.int 0, .int 1] = (decide (i = 0) || decide (i = 1)) := by
  by_cases h0 : i = 0
  · subst h0; rfl
  · by_cases h1 : i = 1
    · subst h1; rfl
    · rw [decide_eq_false h0, decide_eq_false h1]
      have a0 : ¬ (0 : Int) = i := fun e => h0 e.symm
      have a1 : ¬ (1 : Int) = i := fun e => h1 e.symm
      simp [inV, eqV, a0, a1]
theorem ed_in01 {i : Int} (h : ED ta σ H (.int i)) : ED (tOp (rIn K false) ta (tTup (tCons (tC (.int 0)) (tCons (tC (.int 1)) tNil)))) σ H (.bool (decide (i = 0) || decide (i = 1))) := by
  have q := ev_inU (K := K) (σ := σ) (H := H) (xs := [.int 0, .int 1]) (ev_int h) (eu_tup (ea_cons ev_c (ea_cons ev_c ea_nil)) (by show 2 ≤ 100000; decide)) rfl rfl
  rw [in01] at q
  exact ed_ofBool q
theorem ed_chain {p p' : Int → Int → Bool} {a b c : Int} (ha : ED ta σ H (.int a)) (hb : ED tb σ H (.int b)) (hc : ED tc σ H (.int c)) : ED (tChain (rI0 fun i j => .bl (p i j)) (rI0 fun i j => .bl (p' i j)) ta tb tc) σ H (.bool (p a b && p' b c)) := fun H1 e Q q =>
  ha H1 e _ fun x H2 e2 hx => hb H2 (e.trans e2) _ fun y H3 e3 hy => ⟨a, b, hx.toInt, hy.toInt, p a b, rfl, by
    cases hk : p a b with
    | true =>
      rw [hk] at q
      exact hc H3 ((e.trans e2).trans e3) _ fun z H4 e4 hz => ⟨b, c, hy.toInt, hz.toInt, q _ H4 ((e2.trans e3).trans e4) (.bl _)⟩
    | false =>
      rw [hk] at q
      exact q _ H3 (e2.trans e3) (.bl false)⟩
end
section
variable {P : Program} {w : World} {K : PySem.W.Frag} {mg : Str → Option Value} {base : Heap}
/-! ### is_pair -/
theorem sc_is_pair : FnScope ["pair", "number", "elder", "shared"] ["pair", "number"] (defScope s_is_pair) := ⟨rfl, rfl, rfl, by decide +kernel, rfl, by decide +kernel, by decide +kernel⟩
def pairB (n : Int) (e : Int × Int) : Bool := (decide (0 ≤ e.1) && decide (e.1 < n)) && (decide (e.2 = 0) || decide (e.2 = 1))
def R_is_pair : List PyData → PyData → Prop := fun ds d => ∃ (e : Int × Int) (n : Int), ds = [encE e, .int n] ∧ d = .bool (pairB n e)
theorem R_whole_int (i : Int) : R_is_whole [.int i] (.bool true) := ⟨_, rfl, rfl, fun _ z => nomatch z⟩
theorem ok_is_pair (B : Bt mg) (d : Df K mg "is_pair" s_is_pair ["pair", "number"]) (cW : Cl P w K mg base "is_whole" ["value"] 1 (spD R_is_whole)) : Cl P w K mg base "is_pair" ["pair", "number"] 2 (spD R_is_pair) := by
  refine d.ok sc_is_pair (spD_len (by rintro _ _ ⟨_, _, rfl, _⟩; rfl)) (fun fa cdv A outer s H vs Q E hr h => ?_)
  obtain ⟨ds, es, hv, ⟨e, n, rfl, rfl⟩, q⟩ := h
  obtain ⟨x, y, rfl, hx, hy⟩ := hv.args2
  refine ⟨_, pss_cons (ps_if (PW.pt (pw_or (pt_not (pt_val (pe_callB call_isi rfl B.isinstance boot_isinstance (pa_cons (pv 0) (pa_cons (pe_bltn (v := .ty "tuple") rfl B.tuple (by decide +kernel) rfl) pa_nil)))))
      (pw_or1 (pt_cmpR op_ne (pe_callB call_len rfl B.len PySem.boot_len (pa_cons (pv 0) pa_nil)) pe_int (nomark _))))) (pss_one (ps_ret pe_bl)) pss_nil)
    (pss_cons (ps_asg (pv 0) (pg_tup rfl (pgs_cons (pg_name (i := 2) sc_is_pair.nd rfl (.inl rfl)) (pgs_cons (pg_name (i := 3) sc_is_pair.nd rfl (.inl rfl)) pgs_nil))))
    (pss_cons (ps_if (PW.pt (pw_or (pt_not (pt_val (pe_cl cW hr (pa_cons (pv 2) pa_nil)))) (pw_or1 (pt_not (pt_val (pe_cl cW hr (pa_cons (pv 3) pa_nil))))))) (pss_one (ps_ret pe_bl)) pss_nil)
    (pss_one (ps_ret (pe_and (pe_chain op_le op_lt pe_int (pv 2) (pv 1)) (pe_one (pe_cmpR op_in_seq (pv 3) (pe_tup (pa_cons pe_int (pa_cons pe_int pa_nil))) rfl))))))), ?_⟩
  refine sd_if (b := false) (et_or (a := false) (b := false) (et_not (a := true) (et_DB (ed_isi (ed_var (i := 0) rfl hx) rfl kb_tuple_tuple))) fun _ => et_D (b := false) (ed_is (ed_neI (s := 2) (s' := 2) (ed_is (ed_lenT (ed_var (i := 0) rfl hx)) rfl) (ed_ci 2)) rfl)) (fun z => nomatch z) fun _ H1 e1 => ?_
  refine st_next ?_
  dsimp only
  refine sd_asg2 (d1 := .int e.1) (d2 := .int e.2) (ed_var (i := 0) rfl (hx.mono e1)) fun v1 v2 H2 e2 h1 h2 => ?_
  refine sd_if (b := false) (et_or (a := false) (b := false) (et_not (a := true) (et_DB (ed_call (eas1 (ed_var (i := 2) rfl h1)) (R_whole_int e.1)))) fun _ => et_not (a := true) (et_DB (ed_call (eas1 (ed_var (i := 3) rfl h2)) (R_whole_int e.2)))) (fun z => nomatch z) fun _ H3 e3 => ?_
  refine st_next ?_
  dsimp only
  refine sd_ret (d := .bool (pairB n e)) ?_ fun v H4 e4 hv4 => q v H4 (((e1.trans e2).trans e3).trans e4) hv4
  exact ed_andV (ed_chain (p := fun i j => decide (i ≤ j)) (p' := fun i j => decide (i < j)) (ed_ci 0) (ed_var (i := 2) rfl (h1.mono e3)) (ed_var (i := 1) rfl (((hy.mono e1).mono e2).mono e3))) fun _ => ed_in01 (ed_var (i := 3) rfl (h2.mono e3))
/-! ### are_elders -/
theorem sc_are_elders : FnScope ["elders", "number", "pair"] ["elders", "number"] (defScope s_are_elders) := ⟨rfl, rfl, rfl, by decide +kernel, rfl, by decide +kernel, by decide +kernel⟩
def R_are_elders : List PyData → PyData → Prop := fun ds d => ∃ (es : List (Int × Int)) (n : Int), ds = [.tuple (es.map encE), .int n] ∧ es.length ≤ 3 ∧ (∀ e ∈ es, pairB n e = true) ∧ (es.map (·.1)).Nodup ∧ d = .bool true
theorem ok_are_elders (B : Bt mg) (m3 : ∃ t, mg "MOST_ELDERS" = some (.int 3 t)) (d : Df K mg "are_elders" s_are_elders ["elders", "number"]) (cP : Cl P w K mg base "is_pair" ["pair", "number"] 2 (spD R_is_pair)) : Cl P w K mg base "are_elders" ["elders", "number"] 3 (spD R_are_elders) := by
  obtain ⟨t3, m3⟩ := m3
  refine d.ok sc_are_elders (spD_len (by rintro _ _ ⟨_, _, rfl, _⟩; rfl)) (fun fa cdv A outer s H vs Q E hr h => ?_)
  obtain ⟨ds, ee, hv, ⟨es, n, rfl, lz, pb, nd, rfl⟩, q⟩ := h
  obtain ⟨x, y, rfl, hx, hy⟩ := hv.args2
  refine ⟨_, pss_cons (ps_if (PW.pt (pw_or (pt_not (pt_val (pe_callB call_isi rfl B.isinstance boot_isinstance (pa_cons (pv 0) (pa_cons (pe_bltn (v := .ty "tuple") rfl B.tuple (by decide +kernel) rfl) pa_nil)))))
      (pw_or1 (pt_cmpR op_gt (pe_callB call_len rfl B.len PySem.boot_len (pa_cons (pv 0) pa_nil)) (pe_glob (v := .int 3) rfl m3 ⟨_, rfl⟩) (nomark _))))) (pss_one (ps_ret pe_bl)) pss_nil)
    (pss_cons (ps_if (pt_not (pt_val (pe_callB (cr_all (by rfl)) (by rfl) B.all boot_all (pa_cons (pe_lc (own := [("pair", 2)]) (g := gName 2) (tt := tYes) rfl sc_are_elders.nd (pi_tup (pv 0)) (blkOk_by (N := ["elders", "number", "pair"]) (sc := defScope s_are_elders) (by decide +kernel))
      (fun _ _ _ _ _ => pg_name (i := 2) sc_are_elders.nd rfl (.inl rfl)) (fun _ _ _ _ _ => pts_nil) (fun _ _ _ _ _ => pe_cl cP hr (pa_cons (pv 2) (pa_cons (pv 1) pa_nil)))) pa_nil)))) (pss_one (ps_ret pe_bl)) pss_nil)
    (pss_one (ps_ret (pe_cmpR op_eq (pe_lenSetI (by rfl) B.len (by rfl) B.set (pe_lc (own := [("pair", 2)]) (g := gName 2) (tt := tYes) rfl sc_are_elders.nd (pi_tup (pv 0)) (blkOk_by (N := ["elders", "number", "pair"]) (sc := defScope s_are_elders) (by decide +kernel))
      (fun _ _ _ _ _ => pg_name (i := 2) sc_are_elders.nd rfl (.inl rfl)) (fun _ _ _ _ _ => pts_nil) (fun _ _ _ _ _ => pe_ix (r := rIxT K) ix_tup (pv 2) pe_int (fun _ _ => rfl)))) (pe_callB call_len rfl B.len PySem.boot_len (pa_cons (pv 0) pa_nil)) (nomark _))))), ?_⟩
  refine sd_if (b := false) (et_or (a := false) (b := false) (et_not (a := true) (et_DB (ed_isi (ed_var (i := 0) rfl hx) rfl kb_tuple_tuple))) fun _ => et_D (ed_is (ed_I0 (i := ((es.length : Nat) : Int)) (j := 3) (d := .bool (decide (3 < ((es.length : Nat) : Int)))) (ed_is (ed_lenT (ed_var (i := 0) rfl hx)) (by rw [List.length_map])) (ed_ci 3) fun H => .bl _) (by rw [decide_eq_false (by omega)]))) (fun z => nomatch z) fun _ H1 e1 => ?_
  refine st_next ?_
  dsimp only
  have hx1 := hx.mono e1
  refine sd_if (b := false) (et_not (a := true) (et_DB (ed_is (ed_all (bs := es.map (pairB n)) (EL.ed (el_is (el_lcT (as := es) (enc := encE) (fun _ => true) (fun e => .bool (pairB n e)) (ed_var (i := 0) rfl hx1) (by omega) (fun _ _ _ => rfl) fun e he z H2 e2 hz => ?_) (by rw [filt_true, List.map_map]; rfl)))) ?_))) (fun z => nomatch z) fun _ H2 e2 => ?_
  · exact ⟨[some x, some y, some z], rfl, fun _ _ R h => h, et_yes, fun _ => ed_call (eas2 (ed_var (i := 2) rfl hz) (ed_var (i := 1) rfl ((hy.mono e1).mono e2))) ⟨e, n, rfl, rfl⟩⟩
  · congr 1
    rw [List.all_map, List.all_eq_true]
    exact fun e he => pb e he
  · refine st_next ?_
    dsimp only
    refine sd_ret (d := .bool true) ?_ fun v H3 e3 hv3 => q v H3 ((e1.trans e2).trans e3) hv3
    refine ed_is (ed_eqI (s := ((es.map (·.1)).length : Nat)) (s' := ((es.length : Nat) : Int)) (ed_lenSet (EL.ed (el_is (el_lcT (as := es) (enc := encE) (fun _ => true) (fun e => .int e.1) (ed_var (i := 0) rfl (hx1.mono e2)) (by omega) (fun _ _ _ => rfl) fun e he z H3 e3 hz => ?_) (by rw [filt_true, List.map_map]; rfl))) nd (by rw [List.length_map]; omega)) (ed_is (ed_lenT (ed_var (i := 0) rfl (hx1.mono e2))) (by rw [List.length_map]))) (by rw [List.length_map, decide_eq_true rfl])
    exact ⟨[some x, some y, some z], rfl, fun _ _ R h => h, et_yes, fun _ => ed_ixT (ed_var (i := 2) rfl hz) (ed_ci 0) rfl⟩
/-! ### are_deeds -/
theorem sc_are_deeds : FnScope ["deeds", "letter"] ["deeds"] (defScope s_are_deeds) := ⟨rfl, rfl, rfl, by decide +kernel, rfl, by decide +kernel, by decide +kernel⟩
def R_are_deeds : List PyData → PyData → Prop := fun ds d => ∃ s : Str, ds = [.str s] ∧ d = .bool (decide (s = txt (abc.filter fun c => decide (c ∈ s.cps.toList))))
theorem ok_are_deeds (B : Bt mg) (mL : ∃ t, mg "LETTERS" = some (.str (txt abc) t)) (d : Df K mg "are_deeds" s_are_deeds ["deeds"]) : Cl P w K mg base "are_deeds" ["deeds"] 1 (spD R_are_deeds) := by
  obtain ⟨tL, mL⟩ := mL
  refine d.ok sc_are_deeds (spD_len (by rintro _ _ ⟨_, rfl, _⟩; rfl)) (fun fa cdv A outer s H vs Q E hr h => ?_)
  obtain ⟨ds, ee, hv, ⟨z, rfl, rfl⟩, q⟩ := h
  obtain ⟨x, rfl, hx⟩ := hv.args1
  refine ⟨_, pss_cons (ps_if (pt_not (pt_val (pe_callB call_isi rfl B.isinstance boot_isinstance (pa_cons (pv 0) (pa_cons (pe_bltn (v := .ty "str") rfl B.str (by decide +kernel) rfl) pa_nil))))) (pss_one (ps_ret pe_bl)) pss_nil)
    (pss_one (ps_ret (pe_cmpR op_eq (pv 0) (pe_join pe_str (pe_lc (own := [("letter", 1)]) (g := gName 1) rfl sc_are_deeds.nd (pi_str (pe_glob (v := .str (txt abc)) rfl mL ⟨_, rfl⟩)) (blkOk_by (N := ["deeds", "letter"]) (sc := defScope s_are_deeds) (by decide +kernel))
      (fun _ _ _ _ _ => pg_name (i := 1) sc_are_deeds.nd rfl (.inl rfl)) (fun _ _ _ _ _ => by exact pts_one (pt_cmpR op_inS (pv 1) (pv 0) rfl)) (fun _ _ _ _ _ => pv 1))) (nomark _)))), ?_⟩
  refine sd_if (b := false) (et_not (a := true) (et_DB (ed_isi (ed_var (i := 0) rfl hx) rfl kb_str_str))) (fun z => nomatch z) fun _ H1 e1 => ?_
  refine st_next ?_
  dsimp only
  refine sd_ret (d := .bool (decide (z = txt (abc.filter fun c => decide (c ∈ z.cps.toList))))) ?_ fun v H3 e3 hv3 => q v H3 (e1.trans e3) hv3
  refine ed_eqS (ed_var (i := 0) rfl (hx.mono e1)) (ed_join (Nat.le_trans (List.length_filter_le _ _) (by decide)) (EL.ed (el_is (el_lcS (l := abc) (fun c => decide (c ∈ z.cps.toList)) (fun c => .str (Froz.sing c)) (ed_cs _) (by decide) (fun _ _ _ => rfl) fun c hc H2 e2 => ?_) (by rw [List.map_map]; rfl))))
  exact ⟨[some x, some (.str ⟨#[c]⟩)], rfl, fun _ _ R h => h, et_D (ed_inS (ed_var (i := 1) rfl (.str _)) (ed_var (i := 0) rfl ((hx.mono e1).mono e2))), fun _ => ed_var (i := 1) rfl (.str _)⟩
end
end KS
end
noncomputable section
namespace KS
open PySem PySem.Spec PyProof.Rows L2 Evl
open RZ (tLenSetI pe_lenSetI)
/-- a family as it may be handed in -/
def Valid (f : Fam) : Prop := 1 ≤ f.length ∧ f.length ≤ 7 ∧ FamOk f
theorem Valid.kinds {f : Fam} (h : Valid f) : Kinds f := h.2.2.2.1
theorem Valid.small {f : Fam} (h : Valid f) {k : Int} (h0 : 0 ≤ k) (h1 : k < f.length) : (lm NN f [k]).length ≤ 10000 := by
  have := (h.2.2.2.2 k.toNat (by omega)).1
  have e : ((k.toNat : Nat) : Int) = k := by omega
  rw [e] at this
  omega
theorem sound_true {f : Fam} (L : Low f) {k : Int} (S : Sound f k) : soundB f k = true := by
  unfold soundB
  rw [decide_eq_true S.1, Bool.true_and, List.all_eq_true]
  intro c hc
  obtain ⟨x, hx, ho⟩ := S.2 c (known_iff.mp hc).2
  rw [foremost_of L hx ho]
  rfl
theorem pairs_ok {n : Nat} {k : Kind} (o : KindOk n k) : ∀ e ∈ k.el, pairB n e = true := by
  intro e he
  obtain ⟨h1, h2, h3⟩ := o.low e he
  unfold pairB
  rw [decide_eq_true h1, decide_eq_true h2]
  rcases h3 with h | h
  · rw [decide_eq_true h]; rfl
  · rw [decide_eq_true h, Bool.or_true]; rfl
theorem rise_txt {s : Str} (h : rise s.cps.toList) : s = txt (abc.filter fun c => decide (c ∈ s.cps.toList)) := by
  have e : txt s.cps.toList = txt (abc.filter fun c => decide (c ∈ s.cps.toList)) := congrArg txt h
  rw [txt_tl] at e
  exact e
theorem et_notD {σ : L2.St} {H : Hp} {te : TE} {b : Bool} (h : ED te σ H (.bool b)) : EvT (tNot (tB te)) σ H (!b) := et_not (et_DB h)
section
variable {P : Program} {w : World} {K : PySem.W.Frag} {mg : Str → Option Value} {base : Heap}
/-! ### is_kind -/
abbrev N_is_kind : List Str := ["kind", "number", "elders", "deeds", "cells"]
theorem sc_is_kind : FnScope N_is_kind ["kind", "number"] (defScope s_is_kind) := ⟨rfl, rfl, rfl, by decide +kernel, rfl, by decide +kernel, by decide +kernel⟩
def R_is_kind : List PyData → PyData → Prop := fun ds d => ∃ (k : Kind) (n : Nat), ds = [encK k, .int n] ∧ KindOk n k ∧ d = .bool true
theorem ok_is_kind (B : Bt mg) (m3 : ∃ t, mg "MOST_CELLS" = some (.int 3 t)) (d : Df K mg "is_kind" s_is_kind ["kind", "number"]) (cE : Cl P w K mg base "are_elders" ["elders", "number"] 3 (spD R_are_elders)) (cD : Cl P w K mg base "are_deeds" ["deeds"] 1 (spD R_are_deeds))
    (cW : Cl P w K mg base "is_whole" ["value"] 1 (spD R_is_whole)) : Cl P w K mg base "is_kind" ["kind", "number"] 4 (spD R_is_kind) := by
  obtain ⟨t3, m3⟩ := m3
  refine d.ok sc_is_kind (spD_len (by rintro _ _ ⟨_, _, rfl, _⟩; rfl)) (fun fa cdv A outer s H vs Q E hr h => ?_)
  obtain ⟨ds, ee, hv, ⟨k, n, rfl, o, rfl⟩, q⟩ := h
  obtain ⟨x, y, rfl, hx, hy⟩ := hv.args2
  refine ⟨_, pss_cons (ps_if (PW.pt (pw_or (pt_not (pt_val (pe_callB call_isi rfl B.isinstance boot_isinstance (pa_cons (pv 0) (pa_cons (pe_bltn (v := .ty "tuple") rfl B.tuple (by decide +kernel) rfl) pa_nil)))))
      (pw_or1 (pt_cmpR op_ne (pe_callB call_len rfl B.len PySem.boot_len (pa_cons (pv 0) pa_nil)) pe_int (nomark _))))) (pss_one (ps_ret pe_bl)) pss_nil)
    (pss_cons (ps_asg (pv 0) (pg_tup rfl (pgs_cons (pg_name (i := 2) sc_is_kind.nd rfl (.inl rfl)) (pgs_cons (pg_name (i := 3) sc_is_kind.nd rfl (.inl rfl)) (pgs_cons (pg_name (i := 4) sc_is_kind.nd rfl (.inl rfl)) pgs_nil)))))
    (pss_cons (ps_if (PW.pt (pw_or (pt_not (pt_val (pe_cl cE hr (pa_cons (pv 2) (pa_cons (pv 1) pa_nil))))) (pw_or1 (pt_not (pt_val (pe_cl cD (hr.mono (by decide)) (pa_cons (pv 3) pa_nil))))))) (pss_one (ps_ret pe_bl)) pss_nil)
    (pss_one (ps_ret (pe_and (pe_cl cW (hr.mono (by decide)) (pa_cons (pv 4) pa_nil)) (pe_one (pe_chain op_le op_le pe_int (pv 4) (pe_glob (v := .int 3) rfl m3 ⟨_, rfl⟩)))))))), ?_⟩
  refine sd_if (b := false) (et_or (a := false) (b := false) (et_not (a := true) (et_DB (ed_isi (ed_var (i := 0) rfl hx) rfl kb_tuple_tuple))) fun _ => et_D (b := false) (ed_is (ed_neI (s := 3) (s' := 3) (ed_is (ed_lenT (ed_var (i := 0) rfl hx)) rfl) (ed_ci 3)) rfl)) (fun z => nomatch z) fun _ H1 e1 => ?_
  refine st_next ?_
  dsimp only
  refine sd_asg3 (d1 := .tuple (k.el.map encE)) (d2 := .str k.de) (d3 := .int k.ce) (ed_var (i := 0) rfl (hx.mono e1)) fun v1 v2 v3 H2 e2 h1 h2 h3 => ?_
  have hy2 := (hy.mono e1).mono e2
  refine sd_if (b := false) (et_or (a := false) (b := false) (et_not (a := true) (et_DB (ed_call (eas2 (ed_var (i := 2) rfl h1) (ed_var (i := 1) rfl hy2)) ⟨k.el, n, rfl, o.few, pairs_ok o, o.once, rfl⟩))) fun _ => et_not (a := true) (et_DB (ed_is (ed_call (eas1 (ed_var (i := 3) rfl h2)) ⟨k.de, rfl, rfl⟩) (by rw [decide_eq_true (rise_txt o.rise)])))) (fun z => nomatch z) fun _ H3 e3 => ?_
  refine st_next ?_
  dsimp only
  refine sd_ret (d := .bool true) ?_ fun v H4 e4 hv4 => q v H4 (((e1.trans e2).trans e3).trans e4) hv4
  refine ed_is (ed_andV (a := true) (ed_call (eas1 (ed_var (i := 4) rfl (h3.mono e3))) (R_whole_int k.ce)) fun _ => ed_chain (p := fun i j => decide (i ≤ j)) (p' := fun i j => decide (i ≤ j)) (ed_ci 0) (ed_var (i := 4) rfl (h3.mono e3)) (ed_ci 3)) ?_
  rw [decide_eq_true o.cells.1, decide_eq_true o.cells.2]; rfl
/-! ### need_family -/
theorem sc_need_family : FnScope ["family", "number", "kind"] ["family"] (defScope s_need_family) := ⟨rfl, rfl, rfl, by decide +kernel, rfl, by decide +kernel, by decide +kernel⟩
def R_need_family : List PyData → PyData → Prop := fun ds d => ∃ f : Fam, ds = [encF f] ∧ Valid f ∧ d = .none
theorem ok_need_family (B : Bt mg) (m7 : ∃ t, mg "MOST_KINDS" = some (.int 7 t)) (d : Df K mg "need_family" s_need_family ["family"]) (cK : Cl P w K mg base "is_kind" ["kind", "number"] 4 (spD R_is_kind)) (cS : Cl P w K mg base "is_sound" ["family", "kind"] 20 (spD R_is_sound)) :
    Cl P w K mg base "need_family" ["family"] 21 (spD R_need_family) := by
  obtain ⟨t7, m7⟩ := m7
  refine d.ok sc_need_family (spD_len (by rintro _ _ ⟨_, rfl, _⟩; rfl)) (fun fa cdv A outer s H vs Q E hr h => ?_)
  obtain ⟨ds, ee, hv, ⟨f, rfl, V, rfl⟩, q⟩ := h
  obtain ⟨x, rfl, hx⟩ := hv.args1
  refine ⟨_, pss_cons (ps_if (pt_cmpR op_gt (pe_callB call_len rfl B.len PySem.boot_len (pa_cons (pv 0) pa_nil)) (pe_glob (v := .int 7) rfl m7 ⟨_, rfl⟩) (nomark _)) (pss_one ps_never) pss_nil)
    (pss_cons (ps_if (pt_cmpR op_eq (pe_callB call_len rfl B.len PySem.boot_len (pa_cons (pv 0) pa_nil)) pe_int (nomark _)) (pss_one ps_never) pss_nil)
    (pss_one (ps_for PassesOwn.never rfl (pi_enumT (by rfl) B.enumerate (pa_cons (pv 0) pa_nil)) (pg_tup rfl (pgs_cons (pg_name (i := 1) sc_need_family.nd rfl (.inl rfl)) (pgs_cons (pg_name (i := 2) sc_need_family.nd rfl (.inl rfl)) pgs_nil)))
      (pss_one (ps_if (PW.pt (pw_or (pt_not (pt_val (pe_cl cK (hr.mono (by decide)) (pa_cons (pv 2) (pa_cons (pv 1) pa_nil))))) (pw_or1 (pt_not (pt_val (pe_cl cS hr (pa_cons (pv 0) (pa_cons (pv 1) pa_nil)))))))) (pss_one ps_never) pss_nil))))), ?_⟩
  have hn : ED (tCB (fun xs H Q => ∃ x n, xs = [x] ∧ LenV K x H n ∧ Q (.int n) H) (tCons (tVar 0) tNil)) (start ["family", "number", "kind"] [x]) H (.int ((f.length : Nat) : Int)) := ed_is (ed_lenT (ds := f.map encK) (ed_var (i := 0) rfl hx)) (by rw [List.length_map])
  refine sd_if (b := false) (et_D (ed_is (ed_I0 (d := .bool (decide (7 < ((f.length : Nat) : Int)))) hn (ed_ci 7) fun H => .bl _) (by rw [decide_eq_false (by have := V.2.1; omega)]))) (fun z => nomatch z) fun _ H1 e1 => ?_
  refine st_next ?_
  dsimp only
  refine sd_if (b := false) (et_D (ed_is (ed_eqI (hn.mono e1) (ed_ci 0)) (by rw [decide_eq_false (by have := V.1; omega)]))) (fun z => nomatch z) fun _ H2 e2 => ?_
  refine st_next ?_
  dsimp only
  have hx2 := (hx.mono e1).mono e2
  obtain ⟨a, xs, rfl, ha, hd⟩ := hx2.toTup
  have xl : xs.length = f.length := by rw [hd.len, List.length_map]
  refine ⟨.ref a, rfl, a, xs, rfl, SqT.of ha, for_enumT (K := K) (a := a) (xs := xs) (fun i σ H' => (∃ u1 u2, σ = [some (.ref a), u1, u2]) ∧ Ex H2 H') ⟨⟨_, _, rfl⟩, Ex.refl _⟩ (fun i σ H' _ ⟨_, e⟩ => SqT.of (e _ _ ha)) (fun i y T σ H' hi ⟨⟨u1, u2, es⟩, e3⟩ nT => ?_) (fun σ H' ⟨_, e3⟩ => ?_)⟩
  · subst es
    obtain ⟨dd, hd1, hy⟩ := hd.get2 hi
    obtain ⟨k, h1, h2⟩ : ∃ k, f[i]? = some k ∧ dd = encK k := by
      rw [List.getElem?_map] at hd1
      cases z : f[i]? with
      | none => rw [z] at hd1; cases hd1
      | some k => rw [z] at hd1; exact ⟨k, rfl, (Option.some.inj hd1).symm⟩
    subst h2
    have o := V.kinds i k h1
    have il : i < f.length := (List.getElem?_eq_some_iff.mp h1).1
    have e4 : Ex H' (upd H' T (.tup [.int (i : Nat), y])) := Ex.new nT
    have hy4 := (hy.mono e3).mono e4
    have hf4 : D (upd H' T (.tup [.int (i : Nat), y])) (.ref a) (encF (f ++ [])) := by
      rw [List.append_nil]; exact (hx2.mono e3).mono e4
    refine ⟨T, [.int (i : Nat), y], rfl, SqT.of upd_same, rfl, .int (i : Nat), [y], rfl, y, [], rfl, rfl, ?_⟩
    refine sd_if (b := false) (et_or (a := false) (b := false) (et_not (a := true) (et_DB (ed_call (eas2 (ed_var (σ := [some (.ref a), some (.int (i : Nat)), some y]) (i := 2) rfl hy4) (ed_var (i := 1) rfl (.int _))) ⟨k, i, rfl, o, rfl⟩))) fun _ => et_not (a := true) (et_DB (ed_is (ed_call (eas2 (ed_var (σ := [some (.ref a), some (.int (i : Nat)), some y]) (i := 0) rfl hf4) (ed_var (i := 1) rfl (.int _))) ⟨f, [], i, rfl, V.kinds, V.2.2.1, by omega, by omega, V.small (by omega) (by omega), rfl⟩) (by rw [sound_true (kinds_low V.kinds) (V.2.2.2.2 i il)])))) (fun z => nomatch z) fun _ H5 e5 => ?_
    exact ⟨⟨_, _, rfl⟩, (e3.trans e4).trans e5⟩
  · exact q .non H' ((e1.trans e2).trans e3) .non
theorem sd_drop {σ : L2.St} {H : Hp} {te : TE} {d : PyData} {Dn : Ends} (h : ED te σ H d) (k : ∀ H1, Ex H H1 → Dn.nx σ H1) : tDrop te Dn σ H := h H (Ex.refl H) _ fun v H1 e _ => k H1 e
theorem Valid.parts {f : Fam} (V : Valid f) {k : Int} (h0 : 0 ≤ k) (h1 : k < f.length) {p : Part} (hp : p ∈ lm NN f [k]) : PartOk f p := mem_partOk V.kinds V.2.2.1 h0 h1 (V.small h0 h1) hp
end
end KS
end
noncomputable section
namespace KS
open PySem PySem.Spec PyProof.Rows L2 Evl
open RZ (tLenSetI pe_lenSetI)
/-! ### what is drawn from -/
/-- a list of a number, a list of numbers at b, a number -/
def HS (a b : Addr) (H : Hp) : Prop := a ≠ b ∧ ∃ (m k : Int) (ns : List Int), H a = some (.lst [.int m, .ref b, .int k]) ∧ H b = some (.lst (ns.map V.int)) ∧ ns.length ≤ 63 ∧ 0 ≤ m ∧ m < 2147483647 ∧ 0 ≤ k
/-- all but these two stays -/
def Off (a b : Addr) (H H' : Hp) : Prop := ∀ c o, c ≠ a → c ≠ b → H c = some o → H' c = some o
theorem Off.refl (a b : Addr) (H : Hp) : Off a b H H := fun _ _ _ _ h => h
theorem Off.trans {a b : Addr} {H H1 H2 : Hp} (x : Off a b H H1) (y : Off a b H1 H2) : Off a b H H2 := fun c o n1 n2 h => y c o n1 n2 (x c o n1 n2 h)
theorem Off.ex {a b : Addr} {H H' : Hp} (e : Ex H H') : Off a b H H' := fun c o _ _ h => e c o h
theorem Off.upd1 {a b : Addr} {H : Hp} {o : HO} : Off a b H (upd H a o) := fun c u n _ h => by rw [upd_ne n]; exact h
theorem Off.upd2 {a b : Addr} {H : Hp} {o : HO} : Off a b H (upd H b o) := fun c u _ n h => by rw [upd_ne n]; exact h
theorem HS.ex {a b : Addr} {H H' : Hp} (h : HS a b H) (e : Ex H H') : HS a b H' := by
  obtain ⟨ne, m, k, ns, h1, h2, r⟩ := h
  exact ⟨ne, m, k, ns, e _ _ h1, e _ _ h2, r⟩
theorem HS.tu {a b : Addr} {H H' : Hp} (h : HS a b H) (x : Off a b H H') : Tu H H' := by
  obtain ⟨ne, m, k, ns, h1, h2, r⟩ := h
  exact fun c xs hc => x c _ (ne_of hc h1 (by intro z; cases z)) (ne_of hc h2 (by intro z; cases z)) hc
section
variable {P : Program} {w : World} {K : PySem.W.Frag} {mg : Str → Option Value} {base : Heap}
/-! ### _law_mix -/
abbrev N_mix : List Str := ["_law_script", "_law_seed", "_law_mixed", "_law_cell"]
theorem sc_mix : FnScope N_mix ["_law_script", "_law_seed"] (defScope s_law_mix) := ⟨rfl, rfl, rfl, by decide +kernel, rfl, by decide +kernel, by decide +kernel⟩
def spMix (K : PySem.W.Frag) : Sp := fun vs H Q _ => ∃ (a : Addr) (ns : List Int) (sd : Int), vs = [.ref a, .int sd] ∧ SqL K H a (ns.map V.int) ∧ ns.length ≤ 63 ∧ 0 ≤ sd ∧ sd < 2147483647 ∧
  ∀ r b H', H r = none → H b = none → Ex H H' → HS r b H' → Q (.ref r) H'
theorem ok_mix (B : Bt mg) (d : Df K mg "_law_mix" s_law_mix ["_law_script", "_law_seed"]) : Cl P w K mg base "_law_mix" ["_law_script", "_law_seed"] 1 (spMix K) := by
  refine d.ok sc_mix (fun vs H Q E h => by obtain ⟨_, _, _, rfl, _⟩ := h; rfl) (fun fa cdv A outer s H vs Q E hr h => ?_)
  obtain ⟨a, ns, sd, rfl, hS, hl, s0, s1, q⟩ := h
  refine ⟨_, pss_cons (ps_set (i := 2) sc_mix.nd rfl (.inl rfl) (pv 1))
    (pss_cons (ps_for PassesOwn.never rfl (pi_list (pv 0)) (pg_name (i := 3) sc_mix.nd rfl (.inl rfl))
      (pss_one (ps_set (i := 2) sc_mix.nd rfl (.inl rfl) (pe_op op_mod (pe_op op_add (pe_op op_add (pe_op op_mul (pv 2) pe_int) (pe_op op_mod (pv 3) pe_int)) pe_int) pe_int))))
    (pss_one (ps_ret (pe_lst (pa_cons (pv 2) (pa_cons (pe_callTy call_list_of rfl B.list boot_list (pa_cons (pv 0) pa_nil)) (pa_cons pe_int pa_nil))))))), ?_⟩
  refine ⟨_, rfl, .ref a, rfl, a, rfl, ⟨_, hS⟩, for_list (K := K) (a := a) (xs := ns.map V.int) (fun i σ H' => H' = H ∧ ∃ m y, σ = [some (.ref a), some (.int sd), some (.int m), y] ∧ 0 ≤ m ∧ m < 2147483647) ⟨rfl, sd, _, rfl, s0, s1⟩ (fun i σ H' _ ⟨e, _⟩ => e ▸ hS) (fun i x σ H' hi ⟨e, m, y, es, m0, m1⟩ => ?_) (fun σ H' ⟨e, m, y, es, m0, m1⟩ => ?_)⟩
  · subst e es
    obtain ⟨c, hc⟩ : ∃ c, x = V.int c := by
      rw [List.getElem?_map] at hi
      cases k : ns[i]? with
      | none => rw [k] at hi; cases hi
      | some c => rw [k] at hi; exact ⟨c, (Option.some.inj hi).symm⟩
    subst hc
    refine ⟨_, rfl, m, 48271, rfl, rfl, .inr ⟨by decide, by decide⟩, _, rfl, c, 2147483629, rfl, rfl, by show (0 : Int) < 2147483629; decide, _, _, rfl, rfl, _, 1, rfl, rfl, _, 2147483647, rfl, rfl, by show (0 : Int) < 2147483647; decide, rfl, _, _, rfl, Int.emod_nonneg _ (by decide), Int.emod_lt_of_pos _ (by decide)⟩
  · subst e es
    refine ⟨_, rfl, .ref a, rfl, a, _, rfl, .inl hS, fun b hb => ⟨by show 3 ≤ sizeLine; decide, fun r hr => ?_⟩⟩
    have nrb : r ≠ b := by
      intro z
      subst z
      rw [upd_same] at hr
      cases hr
    refine q r b _ (by rw [upd_ne nrb] at hr; exact hr) hb ((Ex.new hb).trans (Ex.new hr)) ⟨nrb, m, 0, ns, upd_same, by rw [upd_ne nrb.symm]; exact upd_same, hl, m0, m1, Int.le_refl 0⟩
/-! ### _law_next -/
abbrev N_next : List Str := ["_law_h", "_law_many", "_law_at", "_law_cell"]
theorem sc_next : FnScope N_next ["_law_h", "_law_many"] (defScope s_law_next) := ⟨rfl, rfl, rfl, by decide +kernel, rfl, by decide +kernel, by decide +kernel⟩
def spNext : Sp := fun vs H Q _ => ∃ (a b : Addr) (n : Int), vs = [.ref a, .int n] ∧ HS a b H ∧ 0 < n ∧ n < 1000000 ∧ ∀ r H', Off a b H H' → HS a b H' → 0 ≤ r → r < n → Q (.int r) H'
theorem set_map_int (ns : List Int) (j : Nat) (x : Int) : (ns.map V.int).set j (.int x) = (ns.set j x).map V.int := by rw [List.map_set]
theorem ok_next (B : Bt mg) (d : Df K mg "_law_next" s_law_next ["_law_h", "_law_many"]) : Cl P w K mg base "_law_next" ["_law_h", "_law_many"] 1 spNext := by
  refine d.ok sc_next (fun vs H Q E h => by obtain ⟨_, _, _, rfl, _⟩ := h; rfl) (fun fa cdv A outer s H vs Q E hr h => ?_)
  obtain ⟨a, b, n, rfl, ⟨nab, m, k, ns, ha, hb, hl, m0, m1, k0⟩, n0, n1, q⟩ := h
  refine ⟨_, pss_cons (ps_set (i := 2) sc_next.nd rfl (.inl rfl) (pe_op op_mod (pe_ix ix_list (pv 0) pe_int (fun _ _ => rfl)) (pe_callB (call_max2 rfl) rfl B.max boot_max (pa_cons pe_int (pa_cons (pe_callB call_len_seq rfl B.len PySem.boot_len (pa_cons (pe_ix ix_list (pv 0) pe_int (fun _ _ => rfl)) pa_nil)) pa_nil)))))
    (pss_cons (ps_set (i := 3) sc_next.nd rfl (.inl rfl) (pe_ifExp (pt_cmpR (op_neD (Nat.lt_of_succ_lt (hu64 hr))) (pe_ix ix_list (pv 0) pe_int (fun _ _ => rfl)) (pe_lst pa_nil) (nomark _)) (pe_ix ix_list (pe_ix ix_list (pv 0) pe_int (fun _ _ => rfl)) (pv 2) (fun _ _ => rfl)) pe_int))
    (pss_cons (ps_if (pt_cmpR op_ge (pv 3) (pe_op op_pow pe_int pe_int) (nomark _))
      (pss_cons (ps_asg (pe_op op_fdivN (pv 3) (pv 1)) (pg_sub (pe_ix ix_list (pv 0) pe_int (fun _ _ => rfl)) (pv 2) set_list (fun _ => rfl))) (pss_one (ps_ret (pe_op op_mod (pv 3) (pv 1))))) pss_nil)
    (pss_cons (ps_asg (pe_op op_mod (pe_op op_add (pe_op op_add (pe_op op_mul (pe_ix ix_list (pv 0) pe_int (fun _ _ => rfl)) pe_int) (pe_op op_mul (pv 3) pe_int)) pe_int) pe_int) (pg_sub (pv 0) pe_int set_list (fun _ => rfl)))
    (pss_cons (ps_asg (pe_op op_add (pe_ix ix_list (pv 0) pe_int (fun _ _ => rfl)) pe_int) (pg_sub (pv 0) pe_int set_list (fun _ => rfl)))
    (pss_one (ps_ret (pe_op op_mod (pe_op op_fdiv (pe_ix ix_list (pv 0) pe_int (fun _ _ => rfl)) pe_int) (pv 1)))))))), ?_⟩
  have i0 : ∀ {xs : List V} {x : V}, atI (x :: xs) 0 = some x := fun {xs x} => atI_nat (j := 0) rfl
  -- at
  refine ⟨.ref a, rfl, a, _, 2, .int k, rfl, rfl, SqL.of ha, atI_nat (j := 2) rfl, .ref a, rfl, a, _, 1, .ref b, rfl, rfl, SqL.of ha, atI_nat (j := 1) rfl, b, _, rfl, .inl (SqL.of hb), 1, _, rfl, k, _, rfl, rfl, ?_⟩
  rw [List.length_map]
  generalize eL : (if ((ns.length : Nat) : Int) > 1 then ((ns.length : Nat) : Int) else 1) = L
  have L0 : 0 < L := by
    subst eL
    split <;> omega
  refine ⟨L0, ?_⟩
  have at0 : 0 ≤ k % L := Int.emod_nonneg _ (by omega)
  have at1 : k % L < L := Int.emod_lt_of_pos _ L0
  -- cell
  have hdata : ∀ H1, Ex H H1 → D H1 (.ref b) (.list (ns.map PyData.int)) := fun H1 e => .lst (e _ _ hb) (DA.ofInts ns)
  have cell : ED (tIf (tTest (tOp (rNeD K) (tOp (rIxL K) (tVar 0) (tC (.int 1))) (tLst tNil))) (tOp (rIxL K) (tOp (rIxL K) (tVar 0) (tC (.int 1))) (tVar 2)) (tC (.int 0))) [some (.ref a), some (.int n), some (.int (k % L)), none] H (.int (if ns = [] then 0 else ns.getD (k % L).toNat 0)) := by
    have dh : D H (.ref a) (.list [.int m, .list (ns.map PyData.int), .int k]) := .lst ha (.cons (.int m) (.cons (hdata H (Ex.refl H)) (.cons (.int k) .nil)))
    have t1 : ED (tOp (rIxL K) (tVar 0) (tC (.int 1))) [some (.ref a), some (.int n), some (.int (k % L)), none] H (.list (ns.map PyData.int)) := ed_ixL (ed_var (i := 0) rfl dh) (ed_ci 1) rfl
    refine ed_if (b := !decide (ns = [])) (et_D (ed_is (ed_neD t1 (EL.ed (el_lst' (ds := []) eas_nil (by decide))) (intsL_shaped ns) (intsL_shaped [])) ?_)) (fun hb => ?_) (fun hb => ?_)
    · cases ns with
      | nil => simp [PyData.eqv, PyData.eqvAll]
      | cons x r => simp [PyData.eqv, PyData.eqvAll]
    · have ne : ¬ ns = [] := by simpa using hb
      rw [if_neg ne]
      have len1 : 1 ≤ ns.length := by
        cases ns with
        | nil => exact absurd rfl ne
        | cons x r => simp
      have lt : (k % L).toNat < ns.length := by
        have : L ≤ ns.length := by
          subst eL
          split <;> omega
        omega
      refine ed_ixL t1 (ed_var (i := 2) rfl (.int (k % L))) ?_
      have e1 : atI ns (((k % L).toNat : Nat) : Int) = some (ns.getD (k % L).toNat 0) := atI_nat (by rw [List.getD_eq_getElem?_getD, List.getElem?_eq_getElem lt]; rfl)
      rw [show (((k % L).toNat : Nat) : Int) = k % L by omega] at e1
      exact atI_map e1
    · have ne : ns = [] := by simpa using hb
      rw [if_pos ne]
      exact ed_ci 0
  refine cell H (Ex.refl H) _ fun v H1 e1 hv => ?_
  have ev := hv.toInt
  subst ev
  generalize hc : (if ns = [] then (0 : Int) else ns.getD (k % L).toNat 0) = c
  have ha1 := e1 _ _ ha
  have hb1 := e1 _ _ hb
  refine ⟨.int c, rfl, 10, 18, rfl, rfl, ⟨by decide, by decide, by decide⟩, c, _, rfl, rfl, _, rfl, ite2 (fun ge => ?_) (fun lt => ?_)⟩
  · -- a great cell
    have big : (10 : Int) ^ (18 : Int).toNat ≤ c := of_decide_eq_true ge
    have ne : ¬ ns = [] := by
      intro z
      rw [if_pos z] at hc
      subst hc
      exact absurd big (by decide)
    have len1 : 1 ≤ ns.length := by
      cases ns with
      | nil => exact absurd rfl ne
      | cons x r => simp
    have lt : (k % L).toNat < ns.length := by
      have : L ≤ ns.length := by
        subst eL
        split <;> omega
      omega
    have ix : ixN (ns.map V.int).length (k % L) = some (k % L).toNat := by
      unfold ixN
      rw [List.length_map, if_pos at0, if_pos (by omega)]
    refine ⟨.int c, rfl, .int n, rfl, c, n, rfl, rfl, ⟨by omega, by omega⟩, .ref a, rfl, a, _, 1, .ref b, rfl, rfl, SqL.of ha1, atI_nat (j := 1) rfl, .int (k % L), rfl, b, _, k % L, _, rfl, rfl, hb1, ix, ?_⟩
    refine ⟨.int c, rfl, .int n, rfl, c, n, rfl, rfl, n0, ?_⟩
    refine q _ _ ((Off.ex e1).trans Off.upd2) ⟨nab, m, k, ns.set (k % L).toNat (c.fdiv n), ?_, ?_, by rw [List.length_set]; exact hl, m0, m1, k0⟩ (Int.emod_nonneg _ (by omega)) (Int.emod_lt_of_pos _ n0)
    · rw [upd_ne nab]; exact ha1
    · rw [upd_same, set_map_int]
  · refine st_next ?_
    dsimp only
    refine ⟨.ref a, rfl, a, _, 0, .int m, rfl, rfl, SqL.of ha1, atI_nat (j := 0) rfl, m, 48271, rfl, rfl, .inr ⟨by decide, by decide⟩, .int c, rfl, c, 69621, rfl, rfl, .inr ⟨by decide, by decide⟩, _, _, rfl, rfl, _, 11, rfl, rfl, _, 2147483647, rfl, rfl, by show (0 : Int) < 2147483647; decide, .ref a, rfl, a, _, 0, 0, rfl, rfl, ha1, rfl, ?_⟩
    show tSeq _ _ _ _ (upd H1 a (.lst [.int ((m * 48271 + c * 69621 + 11) % 2147483647), .ref b, .int k]))
    generalize hm : (m * 48271 + c * 69621 + 11) % 2147483647 = m2
    have m20 : 0 ≤ m2 := by rw [← hm]; exact Int.emod_nonneg _ (by decide)
    have m21 : m2 < 2147483647 := by rw [← hm]; exact Int.emod_lt_of_pos _ (by decide)
    refine ⟨.ref a, rfl, a, [.int m2, .ref b, .int k], 2, .int k, rfl, rfl, SqL.of upd_same, atI_nat (j := 2) rfl, k, 1, rfl, rfl, .ref a, rfl, a, [.int m2, .ref b, .int k], 2, 2, rfl, rfl, upd_same, rfl, ?_⟩
    rw [upd_upd]
    refine ⟨.ref a, rfl, a, [.int m2, .ref b, .int (k + 1)], 0, .int m2, rfl, rfl, SqL.of upd_same, atI_nat (j := 0) rfl, m2, 7, rfl, rfl, by exact ⟨by decide, by decide⟩, .int n, rfl, _, n, rfl, rfl, n0, ?_⟩
    exact q _ _ ((Off.ex e1).trans Off.upd1) ⟨nab, m2, k + 1, ns, upd_same, by rw [upd_ne nab.symm]; exact hb1, hl, m20, m21, by omega⟩ (Int.emod_nonneg _ (by omega)) (Int.emod_lt_of_pos _ n0)
end
end KS
end
noncomputable section
namespace KS
open PySem PySem.Spec PyProof.Rows L2 Evl
open RZ (tLenSetI pe_lenSetI)
section
variable {K : PySem.W.Frag} {σ : L2.St} {H H' : Hp} {ta tb tc te : TE} {tt : TT} {d d1 d2 : PyData} {ds es : List PyData}
/-- over range(n) -/
theorem el_lcR {ta : TA} {n : Nat} {g : TG} {vs : List Nat} (f : Nat → Bool) (ge : Nat → PyData) (h : EAs ta σ H [.int (n : Int)]) (hz : n ≤ 40000) (fl : ∀ i, i < n → f i = true → flatT (ge i) = true)
    (hg : ∀ i, i < n → ∀ H1, Ex H H1 → ∃ σ2, wipe σ2 vs = wipe σ vs ∧ (∀ H2, Ex H1 H2 → ∀ R : L2.St → Hp → Prop, R σ2 H2 → g (.int (i : Int)) (wipe σ vs) H2 R) ∧ EvT tt σ2 H1 (f i) ∧ (f i = true → ED te σ2 H1 (ge i))) :
    EL (tLc (iRng1 ta) g tt te vs) σ H (((List.range n).filter f).map ge) := fun H0 e Q q => h H0 e _ fun xs H1 e1 hx => by
  obtain ⟨x, rfl, hx1⟩ := hx.args1
  have ex := hx1.toInt
  subst ex
  refine ⟨(n : Int), rfl, by omega, by omega, fun Dl hD => ?_⟩
  refine lc_range (lo := 0) (n := n) (fun i H' => CW H1 Dl ((((List.range n).take i).filter f).map ge) H') ⟨hD, Ex.new hD, [], upd_same, .nil⟩ (fun i H' hi c => ?_) (fun H' c => ?_)
  · have h1 : (List.range n)[i]? = some i := List.getElem?_range hi
    obtain ⟨σ2, w1, w2, w3, w4⟩ := hg i hi H1 (e.trans e1)
    have e0 : (0 : Int) + (i : Int) = (i : Int) := Int.zero_add _
    rw [e0]
    refine w2 _ c.2.1 _ ⟨w1, ?_⟩
    have st := cw_step (te := te) (tt := tt) (σ2 := σ2) (d := ge i) c (by have := fm_len ((List.range n).take i) f ge; rw [List.length_take, List.length_range] at this; omega) (flat_fm _ f ge fun d hd => fl d (List.mem_range.mp (List.mem_of_mem_take hd))) w3 (fun hb => ⟨w4 hb, fl i hi hb⟩)
    rw [← take_fm f ge h1] at st
    exact st
  · rw [List.take_of_length_le (by rw [List.length_range]; exact Nat.le_refl _)] at c
    obtain ⟨c1, c2, acc, c3, c4⟩ := c
    exact q Dl acc H' (fresh_back e1 hD) (e1.trans c2) c3 c4
theorem ed_ixSL {i : Int} (ha : ED ta σ H (.list ds)) (hb : ED tb σ H (.int i)) (hd : atI ds i = some d) : ED (tOp (rIx K) ta tb) σ H d := ed_bin' ha hb fun x y H1 _ hx hy Q q => by
  obtain ⟨a, xs, rfl, h1, h2⟩ := hx.toLst
  obtain ⟨z, h3, h4⟩ := h2.at hd
  exact .inl ⟨a, xs, i, z, rfl, hy.toInt, SqL.of h1, h3, q z H1 (Ex.refl H1) h4⟩
theorem ed_ixST {i : Int} (ha : ED ta σ H (.tuple ds)) (hb : ED tb σ H (.int i)) (hd : atI ds i = some d) : ED (tOp (rIx K) ta tb) σ H d := ed_bin' ha hb fun x y H1 _ hx hy Q q => by
  obtain ⟨a, xs, rfl, h1, h2⟩ := hx.toTup
  obtain ⟨z, h3, h4⟩ := h2.at hd
  exact .inr (.inl ⟨a, xs, i, z, rfl, hy.toInt, SqT.of h1, h3, q z H1 (Ex.refl H1) h4⟩)
theorem g_pair {i j : Nat} {v : V} {Q : L2.St → Hp → Prop} (h : D H v (.tuple [d1, d2])) (q : ∀ v1 v2, D H v1 d1 → D H v2 d2 → Q ((σ.set i (some v1)).set j (some v2)) H) : gTup K 2 (gCons (gName i) (gCons (gName j) gNil)) v σ H Q := by
  obtain ⟨a, xs, rfl, h1, h2⟩ := h.toTup
  obtain ⟨x, y, rfl, hx, hy⟩ := h2.args2
  exact ⟨a, [x, y], rfl, SqT.of h1, rfl, x, [y], rfl, y, [], rfl, rfl, q x y hx hy⟩
end
theorem filt_false {α : Type} (l : List α) : (l.filter fun _ => false) = [] := List.filter_eq_nil_iff.mpr fun _ _ => by simp
/-! ### alike -/
def okD : Nat → PyData → Prop
  | 0, _ => False
  | n + 1, .list ds => ds.length ≤ 40000 ∧ ∀ d ∈ ds, okD n d
  | n + 1, .tuple ds => ds.length ≤ 40000 ∧ ∀ d ∈ ds, okD n d
  | _ + 1, .dict _ => False
  | _ + 1, _ => True
def R_alike (n : Nat) : List PyData → PyData → Prop := fun ds d => ∃ x, ds = [x, x] ∧ okD n x ∧ d = .bool true
section
variable {P : Program} {w : World} {K : PySem.W.Frag} {mg : Str → Option Value} {base : Heap}
abbrev N_alike : List Str := ["_law_found", "_law_due_here", "_law_k"]
theorem sc_alike : FnScope N_alike ["_law_found", "_law_due_here"] (defScope s_law_alike) := ⟨rfl, rfl, rfl, by decide +kernel, rfl, by decide +kernel, by decide +kernel⟩
theorem alike_step {n : Nat} (B : Bt mg) (d : Df K mg "_law_alike" s_law_alike ["_law_found", "_law_due_here"]) (G : Cl P w K mg base "_law_alike" ["_law_found", "_law_due_here"] (n + 1) (spD (R_alike n))) : Cl P w K mg base "_law_alike" ["_law_found", "_law_due_here"] (n + 2) (spD (R_alike (n + 1))) := by
  refine d.ok sc_alike (spD_len (by rintro _ _ ⟨_, rfl, _⟩; rfl)) (fun fa cdv A outer s H vs Q E hr h => ?_)
  obtain ⟨ds, ee, hv, ⟨x, rfl, ok, rfl⟩, q⟩ := h
  obtain ⟨u, v, rfl, hu, hv⟩ := hv.args2
  refine ⟨_, pss_cons (ps_if (pt_val (pe_callB call_isiT rfl B.isinstance boot_isinstance (pa_cons (pv 1) (pa_cons (pe_tup (pa_cons (pe_bltn (v := .ty "tuple") rfl B.tuple (by decide +kernel) rfl) (pa_cons (pe_bltn (v := .ty "list") rfl B.list (by decide +kernel) rfl) pa_nil))) pa_nil))))
      (pss_cons (ps_if (PW.pt (pw_or (pt_not (pt_val (pe_callB call_isiT rfl B.isinstance boot_isinstance (pa_cons (pv 0) (pa_cons (pe_tup (pa_cons (pe_bltn (v := .ty "tuple") rfl B.tuple (by decide +kernel) rfl) (pa_cons (pe_bltn (v := .ty "list") rfl B.list (by decide +kernel) rfl) pa_nil))) pa_nil)))))
          (pw_or1 (pt_cmpR op_ne (pe_callB call_isi rfl B.isinstance boot_isinstance (pa_cons (pv 0) (pa_cons (pe_bltn (v := .ty "list") rfl B.list (by decide +kernel) rfl) pa_nil))) (pe_callB call_isi rfl B.isinstance boot_isinstance (pa_cons (pv 1) (pa_cons (pe_bltn (v := .ty "list") rfl B.list (by decide +kernel) rfl) pa_nil))) (nomark _))))) (pss_one (ps_ret pe_bl)) pss_nil)
      (pss_cons (ps_if (pt_cmpR op_ne (pe_callB call_len rfl B.len PySem.boot_len (pa_cons (pv 0) pa_nil)) (pe_callB call_len rfl B.len PySem.boot_len (pa_cons (pv 1) pa_nil)) (nomark _)) (pss_one (ps_ret pe_bl)) pss_nil)
      (pss_one (ps_ret (pe_cmpR (op_eqD (Nat.lt_of_succ_lt (hu64 hr))) (pe_lc (own := [("_law_k", 2)]) (g := gName 2) rfl sc_alike.nd (pi_range1 (by rfl) B.range (pa_cons (pe_callB call_len rfl B.len PySem.boot_len (pa_cons (pv 1) pa_nil)) pa_nil)) (blkOk_by (N := N_alike) (sc := defScope s_law_alike) (by decide +kernel))
        (fun _ _ _ _ _ => pg_name (i := 2) sc_alike.nd rfl (.inl rfl)) (fun _ _ _ _ _ => by exact pts_one (pt_not (pt_val (pe_cl G hr (by exact pa_cons (pe_ix (r := rIx K) ix_seq (pv 0) (pv 2) (fun _ _ => rfl)) (pa_cons (pe_ix (r := rIx K) ix_seq (pv 1) (pv 2) (fun _ _ => rfl)) pa_nil)))))) (fun _ _ _ _ _ => pv 2)) (pe_lst pa_nil) (nomark _)))))) pss_nil)
    (pss_cons (ps_if (pt_cmpR op_isN1 (pv 1) pe_non (nomark _)) (pss_one (ps_ret (pe_cmpR op_isN1 (pv 0) pe_non (nomark _)))) pss_nil)
    (pss_cons (ps_if (pt_val (pe_callB call_isi rfl B.isinstance boot_isinstance (pa_cons (pv 1) (pa_cons (pe_bltn (v := .ty "str") rfl B.str (by decide +kernel) rfl) pa_nil)))) (pss_one (ps_ret (pe_and (pe_callB call_isi rfl B.isinstance boot_isinstance (pa_cons (pv 0) (pa_cons (pe_bltn (v := .ty "str") rfl B.str (by decide +kernel) rfl) pa_nil))) (pe_one (pe_cmpR op_eq (pv 0) (pv 1) (nomark _)))))) pss_nil)
    (pss_cons (ps_if (PW.pt (pw_or (pt_val (pe_callB call_isi rfl B.isinstance boot_isinstance (pa_cons (pv 1) (pa_cons (pe_bltn (v := .ty "bool") rfl B.bool (by decide +kernel) rfl) pa_nil)))) (pw_or1 (pt_val (pe_callB call_isi rfl B.isinstance boot_isinstance (pa_cons (pv 0) (pa_cons (pe_bltn (v := .ty "bool") rfl B.bool (by decide +kernel) rfl) pa_nil)))))))
      (pss_one (ps_ret (pe_and (pe_callB call_isi rfl B.isinstance boot_isinstance (pa_cons (pv 1) (pa_cons (pe_bltn (v := .ty "bool") rfl B.bool (by decide +kernel) rfl) pa_nil))) (pe_and (pe_callB call_isi rfl B.isinstance boot_isinstance (pa_cons (pv 0) (pa_cons (pe_bltn (v := .ty "bool") rfl B.bool (by decide +kernel) rfl) pa_nil))) (pe_one (pe_cmpR op_eq (pv 0) (pv 1) (nomark _))))))) pss_nil)
    (pss_one (ps_ret (pe_and (pe_callB call_isi rfl B.isinstance boot_isinstance (pa_cons (pv 0) (pa_cons (pe_bltn (v := .ty "int") rfl B.int (by decide +kernel) rfl) pa_nil))) (pe_one (pe_cmpR op_eq (pv 0) (pv 1) (nomark _))))))))), ?_⟩
  have e0 : ED (tVar 0) (start N_alike [u, v]) H x := ed_var rfl hu
  have e1 : ED (tVar 1) (start N_alike [u, v]) H x := ed_var rfl hv
  cases x with
    | list ds =>
      obtain ⟨dl, dk⟩ : ds.length ≤ 40000 ∧ ∀ d ∈ ds, okD n d := ok
      refine sd_if (b := true) (et_DB (ed_isi2 e1 rfl kb_list_tuple kb_list_list rfl)) (fun _ H1 x1 => ?_) (fun z => nomatch z)
      refine sd_if (b := false) (et_or (a := false) (b := false) (et_not (a := true) (et_DB (ed_isi2 (e0.mono x1) rfl kb_list_tuple kb_list_list rfl))) fun _ => et_D (ed_is (ed_neB (ed_isi (e0.mono x1) rfl kb_list_list) (ed_isi (e1.mono x1) rfl kb_list_list)) rfl)) (fun z => nomatch z) fun _ H2 x2 => ?_
      refine st_next ?_
      dsimp only
      refine sd_if (b := false) (et_D (ed_is (ed_neI (ed_lenL ((e0.mono x1).mono x2)) (ed_lenL ((e1.mono x1).mono x2))) (by rw [decide_eq_true rfl]; rfl))) (fun z => nomatch z) fun _ H3 x3 => ?_
      refine st_next ?_
      dsimp only
      refine sd_ret (d := .bool true) ?_ fun v' H4 x4 hv4 => q v' H4 (((x1.trans x2).trans x3).trans x4) hv4
      have e0' := ((e0.mono x1).mono x2).mono x3
      have e1' := ((e1.mono x1).mono x2).mono x3
      have hu' := ((hu.mono x1).mono x2).mono x3
      have hv' := ((hv.mono x1).mono x2).mono x3
      refine ed_is (ed_eqD (d := .list []) (d' := .list []) (EL.ed (el_is (el_lcR (n := ds.length) (fun _ => false) (fun i => .int (i : Int)) (eas1 (ed_lenL e1')) dl (fun _ _ _ => rfl) fun i hi H5 x5 => ?_) (by rw [filt_false]; rfl))) (EL.ed (el_lst' (ds := []) eas_nil (by decide))) (intsL_shaped []) (intsL_shaped [])) (by simp [PyData.eqv, PyData.eqvAll])
      refine ⟨[some u, some v, some (.int (i : Int))], rfl, fun _ _ R h => h, ?_, fun z => nomatch z⟩
      have at1 : atI ds (i : Int) = some ds[i] := atI_nat (List.getElem?_eq_getElem hi)
      exact et_not (a := true) (et_DB (ed_call (eas2 (ed_ixSL (ed_var (i := 0) rfl (hu'.mono x5)) (ed_var (i := 2) rfl (.int _)) at1) (ed_ixSL (ed_var (i := 1) rfl (hv'.mono x5)) (ed_var (i := 2) rfl (.int _)) at1)) ⟨ds[i], rfl, dk _ (List.getElem_mem hi), rfl⟩))
    | tuple ds =>
      obtain ⟨dl, dk⟩ : ds.length ≤ 40000 ∧ ∀ d ∈ ds, okD n d := ok
      refine sd_if (b := true) (et_DB (ed_isi2 e1 rfl kb_tuple_tuple kb_tuple_list rfl)) (fun _ H1 x1 => ?_) (fun z => nomatch z)
      refine sd_if (b := false) (et_or (a := false) (b := false) (et_not (a := true) (et_DB (ed_isi2 (e0.mono x1) rfl kb_tuple_tuple kb_tuple_list rfl))) fun _ => et_D (ed_is (ed_neB (ed_isi (e0.mono x1) rfl kb_tuple_list) (ed_isi (e1.mono x1) rfl kb_tuple_list)) rfl)) (fun z => nomatch z) fun _ H2 x2 => ?_
      refine st_next ?_
      dsimp only
      refine sd_if (b := false) (et_D (ed_is (ed_neI (ed_lenT ((e0.mono x1).mono x2)) (ed_lenT ((e1.mono x1).mono x2))) (by rw [decide_eq_true rfl]; rfl))) (fun z => nomatch z) fun _ H3 x3 => ?_
      refine st_next ?_
      dsimp only
      refine sd_ret (d := .bool true) ?_ fun v' H4 x4 hv4 => q v' H4 (((x1.trans x2).trans x3).trans x4) hv4
      have e0' := ((e0.mono x1).mono x2).mono x3
      have e1' := ((e1.mono x1).mono x2).mono x3
      have hu' := ((hu.mono x1).mono x2).mono x3
      have hv' := ((hv.mono x1).mono x2).mono x3
      refine ed_is (ed_eqD (d := .list []) (d' := .list []) (EL.ed (el_is (el_lcR (n := ds.length) (fun _ => false) (fun i => .int (i : Int)) (eas1 (ed_lenT e1')) dl (fun _ _ _ => rfl) fun i hi H5 x5 => ?_) (by rw [filt_false]; rfl))) (EL.ed (el_lst' (ds := []) eas_nil (by decide))) (intsL_shaped []) (intsL_shaped [])) (by simp [PyData.eqv, PyData.eqvAll])
      refine ⟨[some u, some v, some (.int (i : Int))], rfl, fun _ _ R h => h, ?_, fun z => nomatch z⟩
      have at1 : atI ds (i : Int) = some ds[i] := atI_nat (List.getElem?_eq_getElem hi)
      exact et_not (a := true) (et_DB (ed_call (eas2 (ed_ixST (ed_var (i := 0) rfl (hu'.mono x5)) (ed_var (i := 2) rfl (.int _)) at1) (ed_ixST (ed_var (i := 1) rfl (hv'.mono x5)) (ed_var (i := 2) rfl (.int _)) at1)) ⟨ds[i], rfl, dk _ (List.getElem_mem hi), rfl⟩))
    | none =>
      refine sd_if (b := false) (et_DB (ed_isi2 e1 rfl kb_none_tuple kb_none_list rfl)) (fun z => nomatch z) fun _ H1 x1 => ?_
      refine st_next ?_
      dsimp only
      refine sd_if (b := true) (et_D (ed_isN (e1.mono x1) rfl)) (fun _ H2 x2 => ?_) (fun z => nomatch z)
      exact sd_ret (ed_isN ((e0.mono x1).mono x2) rfl) fun v' H3 x3 hv3 => q v' H3 ((x1.trans x2).trans x3) hv3
    | str c =>
      refine sd_if (b := false) (et_DB (ed_isi2 e1 rfl kb_str_tuple kb_str_list rfl)) (fun z => nomatch z) fun _ H1 x1 => ?_
      refine st_next ?_
      dsimp only
      refine sd_if (b := false) (et_D (ed_isN (e1.mono x1) rfl)) (fun z => nomatch z) fun _ H2 x2 => ?_
      refine st_next ?_
      dsimp only
      refine sd_if (b := true) (et_DB (ed_isi ((e1.mono x1).mono x2) rfl kb_str_str)) (fun _ H3 x3 => ?_) (fun z => nomatch z)
      refine sd_ret (d := .bool true) ?_ fun v' H4 x4 hv4 => q v' H4 (((x1.trans x2).trans x3).trans x4) hv4
      exact ed_is (ed_andV (a := true) (ed_isi (((e0.mono x1).mono x2).mono x3) rfl kb_str_str) fun _ => ed_eqS (((e0.mono x1).mono x2).mono x3) (((e1.mono x1).mono x2).mono x3)) (by rw [decide_eq_true rfl]; rfl)
    | bool c =>
      refine sd_if (b := false) (et_DB (ed_isi2 e1 rfl kb_bool_tuple kb_bool_list rfl)) (fun z => nomatch z) fun _ H1 x1 => ?_
      refine st_next ?_
      dsimp only
      refine sd_if (b := false) (et_D (ed_isN (e1.mono x1) rfl)) (fun z => nomatch z) fun _ H2 x2 => ?_
      refine st_next ?_
      dsimp only
      refine sd_if (b := false) (et_DB (ed_isi ((e1.mono x1).mono x2) rfl kb_bool_str)) (fun z => nomatch z) fun _ H3 x3 => ?_
      refine st_next ?_
      dsimp only
      have e0' := ((e0.mono x1).mono x2).mono x3
      have e1' := ((e1.mono x1).mono x2).mono x3
      refine sd_if (b := true) (et_or (a := true) (b := true) (et_DB (ed_isi e1' rfl kb_bool_bool)) fun z => nomatch z) (fun _ H4 x4 => ?_) (fun z => nomatch z)
      refine sd_ret (d := .bool true) ?_ fun v' H5 x5 hv4 => q v' H5 ((((x1.trans x2).trans x3).trans x4).trans x5) hv4
      exact ed_is (ed_andV (a := true) (ed_isi (e1'.mono x4) rfl kb_bool_bool) fun _ => ed_andV (a := true) (ed_isi (e0'.mono x4) rfl kb_bool_bool) fun _ => ed_eqB (e0'.mono x4) (e1'.mono x4)) (by rw [decide_eq_true rfl]; rfl)
    | int c =>
      refine sd_if (b := false) (et_DB (ed_isi2 e1 rfl kb_int_tuple kb_int_list rfl)) (fun z => nomatch z) fun _ H1 x1 => ?_
      refine st_next ?_
      dsimp only
      refine sd_if (b := false) (et_D (ed_isN (e1.mono x1) rfl)) (fun z => nomatch z) fun _ H2 x2 => ?_
      refine st_next ?_
      dsimp only
      refine sd_if (b := false) (et_DB (ed_isi ((e1.mono x1).mono x2) rfl kb_int_str)) (fun z => nomatch z) fun _ H3 x3 => ?_
      refine st_next ?_
      dsimp only
      have e0' := ((e0.mono x1).mono x2).mono x3
      have e1' := ((e1.mono x1).mono x2).mono x3
      refine sd_if (b := false) (et_or (a := false) (b := false) (et_DB (ed_isi e1' rfl kb_int_bool)) fun _ => et_DB (ed_isi e0' rfl kb_int_bool)) (fun z => nomatch z) fun _ H4 x4 => ?_
      refine st_next ?_
      dsimp only
      refine sd_ret (d := .bool true) ?_ fun v' H5 x5 hv4 => q v' H5 ((((x1.trans x2).trans x3).trans x4).trans x5) hv4
      exact ed_is (ed_andV (a := true) (ed_isi (e0'.mono x4) rfl kb_int_int) fun _ => ed_eqI (e0'.mono x4) (e1'.mono x4)) (by rw [decide_eq_true rfl]; rfl)
    | dict c => exact ok.elim
theorem ok_alike (B : Bt mg) (d : Df K mg "_law_alike" s_law_alike ["_law_found", "_law_due_here"]) : ∀ n : Nat, Cl P w K mg base "_law_alike" ["_law_found", "_law_due_here"] (n + 1) (spD (R_alike n))
  | 0 => Cl.never d fun vs H Q E h => by
    obtain ⟨_, _, _, ⟨_, _, ok, _⟩, _⟩ := h
    exact ok
  | n + 1 => alike_step B d (ok_alike B d n)
end
end KS
end
noncomputable section
namespace KS
open PySem PySem.Spec PyProof.Rows L2 Evl
open RZ (tLenSetI pe_lenSetI)
/-! ### families whose elders are of lesser numbers -/
def Els (f : Fam) : Prop := ∀ (j : Nat) (k : Kind), f[j]? = some k → ∀ e ∈ k.el, 0 ≤ e.1 ∧ e.1 < j ∧ (e.2 = 0 ∨ e.2 = 1)
theorem Kinds.els {f : Fam} (h : Kinds f) : Els f := fun j k e => (h j k e).low
theorem els_low {f : Fam} (h : Els f) : Low f := by
  intro k e he
  cases q : f[k.toNat]? with
  | none =>
    unfold kd at he
    rw [List.getD_eq_getElem?_getD, q] at he
    cases he
  | some z =>
    unfold kd at he
    rw [List.getD_eq_getElem?_getD, q] at he
    have := h _ _ q e he
    exact ⟨this.1, by omega⟩
/-- a family as a tuple or as a list -/
def famD (b : Bool) (f : Fam) : PyData := if b then .tuple (f.map encK) else .list (f.map encK)
theorem foldd_take {α : Type} (g : α → List Part) (cs : List α) (a : List Part) (i : Nat) : ((cs.take i).foldl (fun a c => dd a (g c)) a).length ≤ (cs.foldl (fun a c => dd a (g c)) a).length := by
  obtain ⟨r, e⟩ := fold_prefix g (cs.drop i) ((cs.take i).foldl (fun a c => dd a (g c)) a)
  rw [← List.foldl_append, List.take_append_drop] at e
  rw [e, List.length_append]
  omega
theorem dd_take (a l : List Part) (j : Nat) : (dd a (l.take j)).length ≤ (dd a l).length := by
  obtain ⟨r, e⟩ := dd_prefix (l.drop j) (dd a (l.take j))
  rw [← dd_append, List.take_append_drop] at e
  rw [e, List.length_append]
  omega
section
variable {K : PySem.W.Frag} {σ : L2.St} {H H' : Hp} {ta tb tc te : TE} {tt : TT} {d d1 d2 : PyData} {ds es : List PyData}
theorem ed_famK {b : Bool} {f : Fam} {k : Int} (ha : ED ta σ H (famD b f)) (hb : ED tb σ H (.int k)) (k0 : 0 ≤ k) (k1 : k < f.length) : ED (tOp (rIx K) ta tb) σ H (encK (kd f k)) := by
  cases b with
  | true => exact ed_ixST (ds := f.map encK) ha hb (atI_map (atI_kd k0 k1))
  | false => exact ed_ixSL (ds := f.map encK) ha hb (atI_map (atI_kd k0 k1))
end
def R_lmet (n : Nat) : List PyData → List PyData → Prop := fun ds es => ∃ (f : Fam) (b : Bool) (p : Part), ds = [famD b f, encP p] ∧ Els f ∧ p ≠ [] ∧ 0 ≤ lastP p ∧ lastP p < f.length ∧ lastP p < n ∧ p.length + n ≤ 1000 ∧ (lm n f p).length ≤ 10000 ∧ es = (lm n f p).map encP
section
variable {P : Program} {w : World} {K : PySem.W.Frag} {mg : Str → Option Value} {base : Heap}
/-! ### _law_met -/
abbrev N_lmet : List Str := ["_law_f", "_law_part", "_law_found", "_law_elder", "_law_shared", "_law_one"]
theorem sc_lmet : FnScope N_lmet ["_law_f", "_law_part"] (defScope s_law_met) := ⟨rfl, rfl, rfl, by decide +kernel, rfl, by decide +kernel, by decide +kernel⟩
theorem lmet_step {n : Nat} (d : Df K mg "_law_met" s_law_met ["_law_f", "_law_part"]) (G : Cl P w K mg base "_law_met" ["_law_f", "_law_part"] (n + 1) (spL (R_lmet n))) : Cl P w K mg base "_law_met" ["_law_f", "_law_part"] (n + 2) (spL (R_lmet (n + 1))) := by
  refine d.ok sc_lmet (spL_len (by rintro _ _ ⟨_, _, _, rfl, _⟩; rfl)) (fun fa cdv A outer s H vs Q E hr h => ?_)
  obtain ⟨ds, ee, hv, ⟨f, b, p, rfl, EF, pne, p0, p1, pn, pz, mz, rfl⟩, q⟩ := h
  obtain ⟨u, v, rfl, hu, hv⟩ := hv.args2
  refine ⟨_, pss_cons (ps_set (i := 2) sc_lmet.nd rfl (.inl rfl) (pe_lst (pa_cons (pv 1) pa_nil)))
    (pss_cons (ps_for PassesOwn.never rfl (pi_tup (pe_ix ix_tup (pe_ix ix_seq (pv 0) (pe_ix ix_tup (pv 1) (pe_un un_neg pe_int) (fun _ _ => rfl)) (fun _ _ => rfl)) pe_int (fun _ _ => rfl)))
        (pg_tup rfl (pgs_cons (pg_name (i := 3) sc_lmet.nd rfl (.inl rfl)) (pgs_cons (pg_name (i := 4) sc_lmet.nd rfl (.inl rfl)) pgs_nil)))
      (pss_one (ps_for PassesOwn.never rfl (pi_list (pe_cl G hr (pa_cons (pv 0) (pa_cons (pe_ifExp (pt_cmpR op_eq (pv 4) pe_int (nomark _)) (pe_tup (pa_cons (pv 3) pa_nil)) (pe_op op_catA (pv 1) (pe_tup (pa_cons (pv 3) pa_nil)))) pa_nil)))) (pg_name (i := 5) sc_lmet.nd rfl (.inl rfl))
        (pss_one (ps_if (pt_cmpR (op_notInD (hu64 hr)) (pv 5) (pv 2) rfl) (pss_one (ps_expr (pe_bm PySem.F.plainAttrs_list PySem.F.slot_list_append PySem.F.type_list_append mt_append (pv 2) (pa_cons (pv 5) pa_nil)))) pss_nil)))))
    (pss_one (ps_ret (pv 2)))), ?_⟩
  have L := els_low EF
  have le : lm (n + 1) f p = (kids f p).foldl (fun a c => dd a (lm n f c)) [p] := rfl
  refine sl_asg (ds := [encP p]) (el_lst' (eas1 (ed_var (i := 1) rfl hv)) (by show 1 ≤ 100000; decide)) fun l xs H1 nl e1 hl ha => ?_
  have t1 : ED (tOp (rIxT K) (tOp (rIx K) (tVar 0) (tOp (rIxT K) (tVar 1) (tUn (rU fun i => .int (-i)) (tC (.int 1))))) (tC (.int 0))) [some u, some v, some (.ref l), none, none, none] H1 (.tuple ((kd f (lastP p)).el.map encE)) :=
    ed_ixT (ed_famK (ed_var (i := 0) rfl (hu.mono e1)) (ed_last (ed_var (i := 1) rfl (hv.mono e1)) pne) p0 p1) (ed_ci 0) rfl
  refine t1 H1 (Ex.refl _) _ fun x2 H2 e2 hx2 => ?_
  obtain ⟨a, es, rfl, haT, he⟩ := hx2.toTup
  have el : es.length = (kd f (lastP p)).el.length := by rw [he.len, List.length_map]
  have kel : ∀ e ∈ (kd f (lastP p)).el, 0 ≤ e.1 ∧ e.1 < (lastP p).toNat ∧ (e.2 = 0 ∨ e.2 = 1) := by
    refine EF (lastP p).toNat (kd f (lastP p)) ?_
    unfold kd
    rw [List.getD_eq_getElem?_getD, List.getElem?_eq_getElem (by omega)]; rfl
  refine ⟨a, rfl, ⟨es, SqT.of haT⟩, for_tup (K := K) (a := a) (xs := es) (fun i σ H' => (∃ y3 y4 y5, σ = [some u, some v, some (.ref l), y3, y4, y5]) ∧ Ex H H' ∧ Tu H2 H' ∧ ∃ acc, H' l = some (.lst acc) ∧ DA H' acc ((((kids f p).take i).foldl (fun a c => dd a (lm n f c)) [p]).map encP))
    ⟨⟨_, _, _, rfl⟩, e1.trans e2, Tu.refl _, xs, e2 _ _ hl, ha.mono e2⟩ (fun i σ H' _ ⟨_, _, tu, _⟩ => SqT.of (tu _ _ haT)) (fun i x σ H' hi ⟨⟨y3, y4, y5, es'⟩, eH, tu, acc, lx, ax⟩ => ?_) (fun σ H' ⟨⟨y3, y4, y5, es'⟩, eH, tu, acc, lx, ax⟩ => ?_)⟩
  · subst es'
    obtain ⟨du, hd, hxd⟩ := he.get2 hi
    obtain ⟨ee, h1, h2⟩ : ∃ ee, (kd f (lastP p)).el[i]? = some ee ∧ du = encE ee := by
      rw [List.getElem?_map] at hd
      cases k : (kd f (lastP p)).el[i]? with
      | none => rw [k] at hd; cases hd
      | some a => rw [k] at hd; exact ⟨a, rfl, (Option.some.inj hd).symm⟩
    subst h2
    have em := kel ee (List.mem_of_getElem? h1)
    have kc : (kids f p)[i]? = some (ep p ee) := by unfold kids; rw [List.getElem?_map, h1]; rfl
    have cm : ep p ee ∈ kids f p := List.mem_of_getElem? kc
    have step : ((kids f p).take (i + 1)).foldl (fun a c => dd a (lm n f c)) [p] = dd (((kids f p).take i).foldl (fun a c => dd a (lm n f c)) [p]) (lm n f (ep p ee)) := by
      rw [List.take_add_one, kc, List.foldl_append]; rfl
    have hx4 := hxd.keep tu (flat_E ee)
    refine g_pair (d1 := .int ee.1) (d2 := .int ee.2) hx4 fun v1 v2 w1 w2 => ?_
    have z1 := w1.toInt
    have z2 := w2.toInt
    subst z1 z2
    have hu4 := hu.mono eH
    have hv4 := hv.mono eH
    have clen : (lm n f (ep p ee)).length ≤ 10000 := by
      refine Nat.le_trans (nodup_len (lm_nodup n f (ep p ee)) (k := lm (n + 1) f p) fun y hy => mem_lm.mpr (.inr ⟨_, cm, hy⟩)) mz
    have plen : (ep p ee).length ≤ p.length + 1 := by
      unfold ep
      split <;> simp
    have hc : ED (tIf (tTest (tOp rEq (tVar 4) (tC (.int 1)))) (tTup (tCons (tVar 3) tNil)) (tOp (rCatA K) (tVar 1) (tTup (tCons (tVar 3) tNil)))) [some u, some v, some (.ref l), some (.int ee.1), some (.int ee.2), y5] H' (encP (ep p ee)) := by
      refine ed_if (b := decide (ee.2 = 1)) (et_D (ed_eqI (ed_var (i := 4) rfl (.int _)) (ed_ci 1))) (fun hb => ?_) (fun hb => ?_)
      · have e := of_decide_eq_true hb
        have ne : ¬ ee.2 = 0 := by omega
        have e3 : ep p ee = [ee.1] := if_neg ne
        rw [e3]
        exact ed_tup (ds := [.int ee.1]) (eas1 (ed_var (i := 3) rfl (.int _))) (by show 1 ≤ 100000; decide)
      · have ne := of_decide_eq_false hb
        have e : ee.2 = 0 := by
          rcases em.2.2 with h | h
          · exact h
          · exact absurd h ne
        have e3 : encP (ep p ee) = .tuple (p.map PyData.int ++ [.int ee.1]) := by
          have : ep p ee = p ++ [ee.1] := if_pos e
          rw [this]
          unfold encP
          rw [List.map_append]; rfl
        rw [e3]
        exact ed_catT (ds := p.map PyData.int) (es := [.int ee.1]) (ed_var (i := 1) rfl hv4) (ed_tup (eas1 (ed_var (i := 3) rfl (.int _))) (by show 1 ≤ 100000; decide)) (by rw [List.length_map]; show p.length + 1 ≤ 100000; omega)
    refine (el_call' (R := R_lmet n) (E := E0) (eas2 (ed_var (σ := [some u, some v, some (.ref l), some (.int ee.1), some (.int ee.2), y5]) (i := 0) rfl hu4) hc) ⟨f, b, ep p ee, rfl, EF, ep_ne _ _, by rw [lastP_ep]; omega, by rw [lastP_ep]; omega, by rw [lastP_ep]; omega, by omega, clen, rfl⟩) H' (Ex.refl _) _ fun r xs3 H3 nr e3 hr3 ha3 => ?_
    have lx3 := e3 _ _ lx
    have x3l : xs3.length = (lm n f (ep p ee)).length := by rw [ha3.len, List.length_map]
    have mlen : ∀ j, (dd (((kids f p).take i).foldl (fun a c => dd a (lm n f c)) [p]) ((lm n f (ep p ee)).take j)).length ≤ 10000 := fun j => by
      refine Nat.le_trans (dd_take _ _ _) ?_
      rw [← step]
      exact Nat.le_trans (foldd_take (fun c => lm n f c) (kids f p) [p] (i + 1)) (by rw [← le]; exact mz)
    refine ⟨r, rfl, ⟨xs3, SqL.of hr3⟩, for_list (K := K) (a := r) (xs := xs3) (fun j σ H' => (∃ y5, σ = [some u, some v, some (.ref l), some (.int ee.1), some (.int ee.2), y5]) ∧ But l H3 H' ∧ ∃ acc, H' l = some (.lst acc) ∧ DA H' acc ((dd (((kids f p).take i).foldl (fun a c => dd a (lm n f c)) [p]) ((lm n f (ep p ee)).take j)).map encP))
      ⟨⟨_, rfl⟩, But.refl _ _, acc, lx3, ax.mono e3⟩ (fun j σ H5 _ ⟨_, bt, _⟩ => SqL.of (bt _ _ (ne_of_none lx nr).symm hr3)) (fun j x5 σ H5 hj ⟨⟨y6, es6⟩, bt, acc5, l5, a5⟩ => ?_) (fun σ H5 ⟨⟨y6, es6⟩, bt, acc5, l5, a5⟩ => ?_)⟩
    · subst es6
      obtain ⟨dw, hd5, hx5⟩ := ha3.get2 hj
      obtain ⟨qq, g1, g2⟩ : ∃ qq, (lm n f (ep p ee))[j]? = some qq ∧ dw = encP qq := by
        rw [List.getElem?_map] at hd5
        cases k : (lm n f (ep p ee))[j]? with
        | none => rw [k] at hd5; cases hd5
        | some a => rw [k] at hd5; exact ⟨a, rfl, (Option.some.inj hd5).symm⟩
      subst g2
      have hx6 := hx5.keep (bt.tu lx3) (flat_P qq)
      have dl5 : D H5 (.ref l) (.list ((dd (((kids f p).take i).foldl (fun a c => dd a (lm n f c)) [p]) ((lm n f (ep p ee)).take j)).map encP)) := .lst l5 a5
      have st2 : dd (((kids f p).take i).foldl (fun a c => dd a (lm n f c)) [p]) ((lm n f (ep p ee)).take (j + 1)) = ins (dd (((kids f p).take i).foldl (fun a c => dd a (lm n f c)) [p]) ((lm n f (ep p ee)).take j)) qq := by
        rw [List.take_add_one, g1, dd_append]; rfl
      have tst := ed_notInD (K := K) (σ := [some u, some v, some (.ref l), some (.int ee.1), some (.int ee.2), some x5]) (ed_var (i := 5) rfl hx6) (ed_var (i := 2) rfl dl5) (encP_shaped qq) (encPs_shaped _)
      rw [any_encP] at tst
      have ml := mlen j
      refine sd_if (et_D tst) (fun hb H6 e6 => ?_) (fun hb H6 e6 => ?_)
      · have nm : ¬ qq ∈ dd (((kids f p).take i).foldl (fun a c => dd a (lm n f c)) [p]) ((lm n f (ep p ee)).take j) := by simpa using hb
        refine ⟨_, rfl, .inl ⟨rfl, _, SqL.of (e6 _ _ l5)⟩, _, rfl, l, acc5, x5, rfl, rfl, e6 _ _ l5, sz_lt (by rw [a5.len, List.length_map]; omega), ⟨_, rfl⟩, (bt.trans (But.ex e6)).trans But.upd, _, upd_same, ?_⟩
        rw [st2, ins_of_not nm, List.map_append]
        have tk := tu_upd (ys := acc5 ++ [x5]) (e6 _ _ l5)
        exact ((a5.mono e6).keep tk (flat_Ps _)).append (.one ((hx6.mono e6).keep tk (flat_P qq)))
      · have nm : qq ∈ dd (((kids f p).take i).foldl (fun a c => dd a (lm n f c)) [p]) ((lm n f (ep p ee)).take j) := by simpa using hb
        refine ⟨⟨_, rfl⟩, bt.trans (But.ex e6), acc5, e6 _ _ l5, ?_⟩
        rw [st2, ins_of_mem nm]
        exact a5.mono e6
    · subst es6
      rw [x3l, List.take_length, ← step] at a5
      refine ⟨⟨_, _, _, rfl⟩, fun c o hc => bt c o (ne_of_none hc nl) (e3 _ _ (eH _ _ hc)), (tu.trans (tu_ex e3)).trans (bt.tu lx3), acc5, l5, a5⟩
  · subst es'
    rw [el] at ax
    have ek : (kids f p).take (kd f (lastP p)).el.length = kids f p := List.take_of_length_le (by unfold kids; rw [List.length_map]; exact Nat.le_refl _)
    rw [ek, ← le] at ax
    exact ⟨_, rfl, q l acc H' nl eH lx ax⟩
theorem ok_lmet (d : Df K mg "_law_met" s_law_met ["_law_f", "_law_part"]) : ∀ n : Nat, Cl P w K mg base "_law_met" ["_law_f", "_law_part"] (n + 1) (spL (R_lmet n))
  | 0 => Cl.never d fun vs H Q E h => by
    obtain ⟨_, _, _, ⟨_, _, _, _, _, _, h0, _, h1, _⟩, _⟩ := h
    omega
  | n + 1 => lmet_step d (ok_lmet d n)
end
end KS
end
noncomputable section
namespace KS
open PySem PySem.Spec PyProof.Rows L2 Evl
open RZ (tLenSetI pe_lenSetI)
/-- a family while it is told: elders below, deeds of letters, not too many parts of the kind at hand -/
structure Half (f : Fam) : Prop where
  els : Els f
  few : f.length ≤ 15
  abc : ∀ k ∈ f, ∀ c ∈ k.de.cps.toList, c ∈ abc
theorem Half.part {f : Fam} (h : Half f) {k : Int} (k0 : 0 ≤ k) (k1 : k < f.length) (hz : (lm NN f [k]).length ≤ 10000) {p : Part} (hp : p ∈ lm NN f [k]) : PartOk f p := by
  have L := els_low h.els
  have b := mem_bound L k0 hp
  refine ⟨mem_ne NN (by simp) hp, b.1, by omega, ?_, ?_⟩
  · have := lm_plen (n := NN) hp
    have e : ([k] : Part).length = 1 := rfl
    have : NN = 16 := rfl
    show p.length ≤ 900
    omega
  · have sub : ∀ y ∈ lm NN f p, y ∈ lm NN f [k] := fun y hy => lm_trans L NN (by show lastP [k] < (16 : Int); rw [lastP_one]; have := h.few; omega) hp hy
    have := nodup_len (lm_nodup NN f p) sub
    omega
theorem lmet_ok {f : Fam} (h : Half f) {b : Bool} {p : Part} (o : PartOk f p) : R_lmet NN [famD b f, encP p] ((lm NN f p).map encP) :=
  ⟨f, b, p, rfl, h.els, o.1, o.2.1, o.2.2.1, by show lastP p < (16 : Int); have := h.few; have := o.2.2.1; omega, by have := o.2.2.2.1; show p.length + 16 ≤ 1000; omega, o.2.2.2.2, rfl⟩
theorem strs_lay : ∀ l : List Str, (∀ s ∈ l, ∀ c ∈ s.cps.toList, c ∈ abc) → PyData.canLayAll0 (l.map PyData.str) = true
  | [], _ => by simp [PyData.canLayAll0]
  | x :: l, h => by
    have hx : PyData.strOk x = true := by
      unfold PyData.strOk
      rw [← Array.all_toList, List.all_eq_true]
      intro c hc
      have := h x List.mem_cons_self c hc
      have b : c ≤ 102 := by
        have : ∀ c ∈ abc, c ≤ 102 := by decide
        exact this c ‹c ∈ abc›
      simp
      omega
    simp [PyData.canLayAll0, PyData.canLay0, hx, strs_lay l fun s hs => h s (List.mem_cons_of_mem _ hs)]
theorem strs_depth : ∀ l : List Str, PyData.depthAll (l.map PyData.str) = 0
  | [] => by simp [PyData.depthAll]
  | x :: l => by simp [PyData.depthAll, PyData.depth, strs_depth l]
theorem strs_shaped {l : List Str} (h : ∀ s ∈ l, ∀ c ∈ s.cps.toList, c ∈ abc) : SeqAt.shaped (.list (l.map PyData.str)) = true := by
  have e := strs_depth l
  exact shaped_of (by simp only [PyData.canLay0]; exact strs_lay l h) (by simp only [PyData.depth]; omega)
theorem ed_kdeeds {K : PySem.W.Frag} {σ : L2.St} {H : Hp} {tf tk : TE} {b : Bool} {f : Fam} {k : Int} (h1 : ED tf σ H (famD b f)) (h2 : ED tk σ H (.int k)) (k0 : 0 ≤ k) (k1 : k < f.length) : ED (tOp (rIxT K) (tOp (rIx K) tf tk) (tC (.int 1))) σ H (.str (kd f k).de) :=
  ed_ixT (ed_famK h1 h2 k0 k1) (ed_ci 1) rfl
section
variable {P : Program} {w : World} {K : PySem.W.Frag} {mg : Str → Option Value} {base : Heap}
/-! ### _law_doer -/
abbrev N_ldoer : List Str := ["_law_f", "_law_kind", "_law_deed", "_law_some", "_law_part", "_law_hidden", "_law_left"]
theorem sc_ldoer : FnScope N_ldoer ["_law_f", "_law_kind", "_law_deed"] (defScope s_law_doer) := ⟨rfl, rfl, rfl, by decide +kernel, rfl, by decide +kernel, by decide +kernel⟩
def R_ldoer : List PyData → PyData → Prop := fun ds d => ∃ (f : Fam) (b : Bool) (k : Int) (c : Nat), ds = [famD b f, .int k, .str (Froz.sing c)] ∧ Half f ∧ 0 ≤ k ∧ k < f.length ∧ (lm NN f [k]).length ≤ 100 ∧ d = optP (ldoer NN f (doing f c (lm NN f [k])))
theorem hidden_take (n : Nat) (f : Fam) {l : List Part} {i : Nat} {p : Part} (h : l[i]? = some p) : hidden n f (l.take (i + 1)) = hidden n f (l.take i) ++ (lm n f p).tail := by
  unfold hidden
  rw [List.take_add_one, h, List.flatMap_append]
  show _ ++ (List.flatMap _ [p]) = _
  rw [List.flatMap_singleton]
theorem cut1' (xs : List V) : cutV xs (some 1) none = xs.tail := by
  unfold cutV
  rw [show HT.sIx xs.length 0 (some 1) = min 1 xs.length from HT.sIx_nat xs.length 0 1, HT.sIx_none]
  cases xs with
  | nil => rfl
  | cons x r =>
    rw [show min 1 (x :: r).length = 1 by rw [List.length_cons]; omega]
    show List.take ((x :: r).length - 1) r = r
    rw [List.length_cons, Nat.add_sub_cancel]
    exact List.take_length
theorem ok_ldoer (B : Bt mg) (d : Df K mg "_law_doer" s_law_doer ["_law_f", "_law_kind", "_law_deed"]) (cM : Cl P w K mg base "_law_met" ["_law_f", "_law_part"] 17 (spL (R_lmet NN))) : Cl P w K mg base "_law_doer" ["_law_f", "_law_kind", "_law_deed"] 18 (spD R_ldoer) := by
  refine d.ok sc_ldoer (spD_len (by rintro _ _ ⟨_, _, _, _, rfl, _⟩; rfl)) (fun fa cdv A outer s H vs Q E hr h => ?_)
  obtain ⟨ds, ee, hv, ⟨f, b, k, c, rfl, HF, k0, k1, sz, rfl⟩, q⟩ := h
  obtain ⟨x, y, z, rfl, hx, hy, hz⟩ := hv.args3
  refine ⟨_, pss_cons (ps_setLc (i := 3) (own := [("_law_part", 4)]) (g := gName 4) rfl sc_ldoer.nd rfl rfl (sw_true rfl rfl rfl (by decide +kernel)) (pi_list (pe_cl cM hr (pa_cons (pv 0) (pa_cons (pe_tup (pa_cons (pv 1) pa_nil)) pa_nil)))) (blkOk_by (N := N_ldoer) (sc := defScope s_law_doer) (by decide +kernel))
      (fun _ _ _ _ _ => pg_name (i := 4) sc_ldoer.nd rfl (.inl rfl)) (fun _ _ _ _ _ => by exact pts_one (pt_cmpR op_inS (pv 2) (by exact pe_ix (r := rIxT K) ix_tup (pe_ix (r := rIx K) ix_seq (pv 0) (pe_ix (r := rIxT K) ix_tup (pv 4) (pe_un un_neg pe_int) (fun _ _ => rfl)) (fun _ _ => rfl)) pe_int (fun _ _ => rfl)) rfl)) (fun _ _ _ _ _ => pv 4))
    (pss_cons (ps_set (i := 5) sc_ldoer.nd rfl (.inr rfl) (pe_lst pa_nil))
    (pss_cons (ps_for PassesOwn.never rfl (pi_list (pv 3)) (pg_name (i := 4) sc_ldoer.nd rfl (.inl rfl))
      (pss_one (ps_expr (pe_bm PySem.F.plainAttrs_list PySem.F.slot_list_extend PySem.F.type_list_extend mt_extend (pv 5) (pa_cons (pe_slice sl_list (pe_cl cM hr (pa_cons (pv 0) (pa_cons (pv 4) pa_nil))) (po_some pe_int) po_none) pa_nil)))))
    (pss_cons (ps_setLc (i := 6) (own := [("_law_part", 4)]) (g := gName 4) rfl sc_ldoer.nd rfl rfl (sw_true rfl rfl rfl (by decide +kernel)) (pi_list (pv 3)) (blkOk_by (N := N_ldoer) (sc := defScope s_law_doer) (by decide +kernel))
      (fun _ _ _ _ _ => pg_name (i := 4) sc_ldoer.nd rfl (.inl rfl)) (fun _ _ _ _ _ => by exact pts_one (pt_cmpR (r := rNotInD K) (op_notInD (hu64 hr)) (pv 4) (pv 5) rfl)) (fun _ _ _ _ _ => pv 4))
    (pss_one (ps_ret (pe_ifExp (pt_cmpR op_eq (pe_callB call_len rfl B.len PySem.boot_len (pa_cons (pv 6) pa_nil)) pe_int (nomark _)) (pe_ix ix_list (pv 6) pe_int (fun _ _ => rfl)) pe_non)))))), ?_⟩
  have L := els_low HF.els
  have sz' : (lm NN f [k]).length ≤ 10000 := by omega
  have pk := HF.part k0 k1 sz' (root_in f k)
  have dz : (doing f c (lm NN f [k])).length ≤ (lm NN f [k]).length := List.length_filter_le _ _
  have dm : ∀ p ∈ doing f c (lm NN f [k]), p ∈ lm NN f [k] := fun p hp => (List.mem_filter.mp hp).1
  refine sl_asg (ds := (doing f c (lm NN f [k])).map encP) ?_ fun p xs H1 np e1 hp ha => ?_
  · refine el_lcL (as := lm NN f [k]) (enc := encP) (does f c) encP (EL.ed (el_call' (eas2 (ed_var (i := 0) rfl hx) (ed_tup (ds := [.int k]) (eas1 (ed_var (i := 1) rfl hy)) (by show 1 ≤ 100000; decide))) (lmet_ok HF pk))) (by omega) (fun a _ _ => flat_P a) (fun a _ => flat_P a) fun a ha v H2 e2 hv => ?_
    have pa := HF.part k0 k1 sz' ha
    refine ⟨[some x, some y, some z, none, some v, none, none], rfl, fun _ _ R h => h, ?_, fun _ => ed_var (i := 4) rfl hv⟩
    exact et_D (ed_inS (ed_var (i := 2) rfl (hz.mono e2)) (ed_kdeeds (ed_var (i := 0) rfl (hx.mono e2)) (ed_last (ed_var (i := 4) rfl hv) pa.1) pa.2.1 pa.2.2.1))
  · have ds1 : D H1 (.ref p) (.list ((doing f c (lm NN f [k])).map encP)) := .lst hp ha
    refine sl_asg (ds := []) (el_lst' eas_nil (by decide)) fun l xl H2 nl e2 hl al => ?_
    have xn : xs.length = (doing f c (lm NN f [k])).length := by rw [ha.len, List.length_map]
    have hp2 := e2 _ _ hp
    have npl : p ≠ l := ne_of_none hp nl
    refine ⟨.ref p, rfl, p, rfl, ⟨xs, SqL.of hp2⟩, for_list (K := K) (a := p) (xs := xs) (fun i σ H' => (∃ y4, σ = [some x, some y, some z, some (.ref p), y4, some (.ref l), none]) ∧ Ex H1 H' ∧ ∃ acc, H' l = some (.lst acc) ∧ DA H' acc ((hidden NN f ((doing f c (lm NN f [k])).take i)).map encP))
      ⟨⟨_, rfl⟩, e2, xl, hl, al⟩ (fun i σ H' _ ⟨_, e, _⟩ => SqL.of (e _ _ hp)) (fun i v σ H' hi ⟨⟨y4, es⟩, e3, acc, lx, ax⟩ => ?_) (fun σ H' ⟨⟨y4, es⟩, e3, acc, lx, ax⟩ => ?_)⟩
    · subst es
      obtain ⟨du, hd, hv⟩ := ha.get2 hi
      obtain ⟨a, h1, h2⟩ : ∃ a, (doing f c (lm NN f [k]))[i]? = some a ∧ du = encP a := by
        rw [List.getElem?_map] at hd
        cases k : (doing f c (lm NN f [k]))[i]? with
        | none => rw [k] at hd; cases hd
        | some a => rw [k] at hd; exact ⟨a, rfl, (Option.some.inj hd).symm⟩
      subst h2
      have am := dm a (List.mem_of_getElem? h1)
      have pa := HF.part k0 k1 sz' am
      have la : (lm NN f a).length ≤ 100 := by
        have sub : ∀ y ∈ lm NN f a, y ∈ lm NN f [k] := fun y hy => lm_trans L NN (by show lastP [k] < (16 : Int); rw [lastP_one]; have := HF.few; omega) am hy
        have := nodup_len (lm_nodup NN f a) sub
        omega
      have hl0 : ∀ j, (hidden NN f ((doing f c (lm NN f [k])).take j)).length ≤ 100 * j := fun j => by
        induction j with
        | zero => simp [hidden]
        | succ j ih =>
          cases g : (doing f c (lm NN f [k]))[j]? with
          | none =>
            have : (doing f c (lm NN f [k])).take (j + 1) = (doing f c (lm NN f [k])).take j := by rw [List.take_add_one, g]; simp
            rw [this]; omega
          | some r =>
            rw [hidden_take NN f g, List.length_append, List.length_tail]
            have rm := dm r (List.mem_of_getElem? g)
            have sub : ∀ y ∈ lm NN f r, y ∈ lm NN f [k] := fun y hy => lm_trans L NN (by show lastP [k] < (16 : Int); rw [lastP_one]; have := HF.few; omega) rm hy
            have := nodup_len (lm_nodup NN f r) sub
            omega
      have il : i < (doing f c (lm NN f [k])).length := (List.getElem?_eq_some_iff.mp h1).1
      refine ⟨.ref l, rfl, .inl ⟨rfl, _, SqL.of lx⟩, ?_⟩
      refine (el_call' (R := R_lmet NN) (E := E0) (eas2 (ed_var (σ := [some x, some y, some z, some (.ref p), some v, some (.ref l), none]) (i := 0) rfl ((hx.mono e1).mono e3)) (ed_var (i := 4) rfl (hv.mono e3))) (lmet_ok HF pa)) H' (Ex.refl _) _ fun r xr H4 nr e4 hr4 ha4 => ?_
      refine ⟨1, rfl, r, xr, rfl, SqL.of hr4, fun p5 np5 => ?_⟩
      rw [cut1']
      have lx4 := e4 _ _ lx
      have n5 : l ≠ p5 := ne_of_none lx4 np5
      have hacc : acc.length ≤ 100 * i := by
        rw [ax.len, List.length_map]
        exact hl0 i
      have xrl : xr.length ≤ 100 := by rw [ha4.len, List.length_map]; exact la
      refine ⟨l, p5, acc, xr.tail, rfl, rfl, by rw [upd_ne n5]; exact lx4, upd_same, sz_of (by rw [List.length_tail]; omega), ?_⟩
      refine ⟨⟨_, rfl⟩, fun a' o' hc => ?_, acc ++ xr.tail, upd_same, ?_⟩
      · have hc4 := e4 _ _ (e3 _ _ hc)
        rw [upd_ne (ne_of_none hc nl), upd_ne (ne_of_none hc4 np5)]
        exact hc4
      · have tu : Tu H4 (upd (upd H4 p5 (.lst xr.tail)) l (.lst (acc ++ xr.tail))) := fun a' zs hz' => by
          rw [upd_ne (ne_of hz' lx4 (by intro z; cases z)), upd_ne (ne_of_none hz' np5)]
          exact hz'
        rw [hidden_take NN f h1, List.map_append]
        refine ((ax.mono e4).keep tu (flat_Ps _)).append ?_
        have e7 : ((lm NN f a).tail).map encP = ((lm NN f a).map encP).drop 1 := by rw [← List.map_drop, List.drop_one]
        rw [e7]
        have fd : flatTs (((lm NN f a).map encP).drop 1) = true := by rw [← List.map_drop]; exact flat_Ps _
        have t := DA.keep tu fd (ha4.drop 1)
        rw [show xr.drop 1 = xr.tail from List.drop_one] at t
        exact t
    · subst es
      rw [xn, List.take_length] at ax
      have dh : D H' (.ref l) (.list ((hidden NN f (doing f c (lm NN f [k]))).map encP)) := .lst lx ax
      have hleft : left NN f (doing f c (lm NN f [k])) = (doing f c (lm NN f [k])).filter fun p => decide (¬ p ∈ hidden NN f (doing f c (lm NN f [k]))) := rfl
      dsimp only
      refine sl_asg (ds := (left NN f (doing f c (lm NN f [k]))).map encP) ?_ fun p6 x6 H6 np6 e6 hp6 ha6 => ?_
      · refine el_lcL (as := doing f c (lm NN f [k])) (enc := encP) (fun p => decide (¬ p ∈ hidden NN f (doing f c (lm NN f [k])))) encP (ed_var (i := 3) rfl (ds1.mono e3)) (by omega) (fun a _ _ => flat_P a) (fun a _ => flat_P a) fun a ha v H7 e7 hv => ?_
        refine ⟨[some x, some y, some z, some (.ref p), some v, some (.ref l), none], rfl, fun _ _ R h => h, ?_, fun _ => ed_var (i := 4) rfl hv⟩
        have tst := ed_notInD (K := K) (σ := [some x, some y, some z, some (.ref p), some v, some (.ref l), none]) (ed_var (i := 4) rfl hv) (ed_var (i := 5) rfl (dh.mono e7)) (encP_shaped a) (encPs_shaped _)
        rw [any_encP] at tst
        exact et_D (ed_is tst (by rw [decide_not]))
      · have d6 : D H6 (.ref p6) (.list ((left NN f (doing f c (lm NN f [k]))).map encP)) := .lst hp6 ha6
        dsimp only
        refine sd_ret (d := optP (ldoer NN f (doing f c (lm NN f [k])))) ?_ fun v H8 e8 hv8 => q v H8 (((e1.trans e3).trans e6).trans e8) hv8
        refine ed_if (b := decide (((left NN f (doing f c (lm NN f [k]))).length : Int) = 1)) (et_D (ed_eqI (ed_is (ed_lenL (ed_var (i := 6) rfl d6)) (by rw [List.length_map])) (ed_ci 1))) (fun hb => ?_) (fun hb => ?_)
        · have e := of_decide_eq_true hb
          have e1' : (left NN f (doing f c (lm NN f [k]))).length = 1 := by omega
          unfold ldoer
          rw [if_pos e1']
          match g : left NN f (doing f c (lm NN f [k])), e1' with
          | [r], _ =>
            rw [g] at d6
            exact ed_ixL (ed_var (i := 6) rfl d6) (ed_ci 0) rfl
        · have e := of_decide_eq_false hb
          unfold ldoer
          rw [if_neg (by omega)]
          exact ed_cn
/-! ### _law_knows -/
abbrev N_lknows : List Str := ["_law_f", "_law_kind", "_law_deeds", "_law_part", "_law_letter", "_law_row_here"]
theorem sc_lknows : FnScope N_lknows ["_law_f", "_law_kind"] (defScope s_law_knows) := ⟨rfl, rfl, rfl, by decide +kernel, rfl, by decide +kernel, by decide +kernel⟩
def R_lknows : List PyData → List PyData → Prop := fun ds es => ∃ (f : Fam) (b : Bool) (k : Int), ds = [famD b f, .int k] ∧ Half f ∧ 0 ≤ k ∧ k < f.length ∧ (lm NN f [k]).length ≤ 100 ∧ es = ((known f (lm NN f [k])).map Froz.sing).map PyData.str
theorem Half.kdAbc {f : Fam} (h : Half f) {k : Int} (k0 : 0 ≤ k) (k1 : k < f.length) : ∀ c ∈ (kd f k).de.cps.toList, c ∈ KS.abc := by
  refine h.abc (kd f k) ?_
  unfold kd
  rw [List.getD_eq_getElem?_getD, List.getElem?_eq_getElem (by omega)]
  exact List.getElem_mem _
theorem ok_lknows (B : Bt mg) (d : Df K mg "_law_knows" s_law_knows ["_law_f", "_law_kind"]) (cM : Cl P w K mg base "_law_met" ["_law_f", "_law_part"] 17 (spL (R_lmet NN))) : Cl P w K mg base "_law_knows" ["_law_f", "_law_kind"] 18 (spL R_lknows) := by
  refine d.ok sc_lknows (spL_len (by rintro _ _ ⟨_, _, _, rfl, _⟩; rfl)) (fun fa cdv A outer s H vs Q E hr h => ?_)
  obtain ⟨ds, ee, hv, ⟨f, b, k, rfl, HF, k0, k1, sz, rfl⟩, q⟩ := h
  obtain ⟨x, y, rfl, hx, hy⟩ := hv.args2
  refine ⟨_, pss_cons (ps_set (i := 2) sc_lknows.nd rfl (.inr rfl) (pe_lc (own := [("_law_part", 3)]) (g := gName 3) (tt := tYes) rfl sc_lknows.nd (pi_list (pe_cl cM hr (pa_cons (pv 0) (pa_cons (pe_tup (pa_cons (pv 1) pa_nil)) pa_nil)))) (blkOk_by (N := N_lknows) (sc := defScope s_law_knows) (by decide +kernel))
      (fun _ _ _ _ _ => pg_name (i := 3) sc_lknows.nd rfl (.inl rfl)) (fun _ _ _ _ _ => pts_nil) (fun _ _ _ _ _ => by exact pe_ix (r := rIxT K) ix_tup (pe_ix (r := rIx K) ix_seq (pv 0) (pe_ix (r := rIxT K) ix_tup (pv 3) (pe_un un_neg pe_int) (fun _ _ => rfl)) (fun _ _ => rfl)) pe_int (fun _ _ => rfl))))
    (pss_one (ps_ret (pe_lc (own := [("_law_letter", 4)]) (g := gName 4) rfl sc_lknows.nd (pi_str pe_str) (blkOk_by (N := N_lknows) (sc := defScope s_law_knows) (by decide +kernel))
      (fun _ _ _ _ _ => pg_name (i := 4) sc_lknows.nd rfl (.inr rfl)) (fun _ _ _ _ _ => by exact pts_one (pt_cmpR (r := rNeD K) (op_neD (Nat.lt_of_succ_lt (hu64 hr))) (by exact pe_lc (wi := iList K (tVar 2)) (own := [("_law_row_here", 5)]) (g := gName 5) rfl sc_lknows.nd (pi_list (pv 2)) (blkOk_by (N := N_lknows) (sc := csc [(".0", .local), ("_law_letter", .cell), ("_law_deeds", .cell)]) (by decide +kernel)) (fun _ _ _ _ _ => pg_name (i := 5) sc_lknows.nd rfl (.inl rfl)) (fun _ _ _ _ _ => by exact pts_one (pt_cmpR op_inS (pv 4) (pv 5) rfl)) (fun _ _ _ _ _ => pv 5)) (pe_lst pa_nil) (nomark _))) (fun _ _ _ _ _ => pv 4)))), ?_⟩
  have sz' : (lm NN f [k]).length ≤ 10000 := by omega
  have pk := HF.part k0 k1 sz' (root_in f k)
  refine sl_asg (ds := ((lm NN f [k]).map fun p => (kd f (lastP p)).de).map PyData.str) ?_ fun p xs H1 np e1 hp ha => ?_
  · refine el_is (el_lcL (as := lm NN f [k]) (enc := encP) (fun _ => true) (fun p => .str (kd f (lastP p)).de) (EL.ed (el_call' (eas2 (ed_var (i := 0) rfl hx) (ed_tup (ds := [.int k]) (eas1 (ed_var (i := 1) rfl hy)) (by show 1 ≤ 100000; decide))) (lmet_ok HF pk))) (by omega) (fun _ _ _ => rfl) (fun a _ => flat_P a) fun a ha v H2 e2 hv => ?_) (by rw [filt_true, List.map_map]; rfl)
    have pa := HF.part k0 k1 sz' ha
    exact ⟨[some x, some y, none, some v, none, none], rfl, fun _ _ R h => h, et_yes, fun _ => ed_kdeeds (ed_var (i := 0) rfl (hx.mono e2)) (ed_last (ed_var (i := 3) rfl hv) pa.1) pa.2.1 pa.2.2.1⟩
  · have hd : D H1 (.ref p) (.list (((lm NN f [k]).map fun p => (kd f (lastP p)).de).map PyData.str)) := .lst hp ha
    refine sl_ret (ds := ((known f (lm NN f [k])).map Froz.sing).map PyData.str) (el_is (el_lcS (l := abc) (fun c => (lm NN f [k]).any (does f c)) (fun c => .str (Froz.sing c)) (ed_cs _) (by decide) (fun _ _ _ => rfl) fun c hc H2 e2 => ?_) (by unfold known; rw [List.map_map]; rfl)) fun p2 xs2 H2 np2 e2 hp2 ha2 => q p2 xs2 H2 (fresh_back e1 np2) (e1.trans e2) hp2 ha2
    refine ⟨[some x, some y, some (.ref p), none, some (.str ⟨#[c]⟩), none], rfl, fun _ _ R h => h, ?_, fun _ => ed_var (i := 4) rfl (.str _)⟩
    have okS : ∀ s ∈ ((lm NN f [k]).map fun p => (kd f (lastP p)).de), ∀ c ∈ s.cps.toList, c ∈ abc := fun s hs => by
      obtain ⟨p, hp, e⟩ := List.mem_map.mp hs
      subst e
      have pa := HF.part k0 k1 sz' hp
      exact HF.kdAbc pa.2.1 pa.2.2.1
    refine et_D (ed_is (ed_neD (d := .list ((((lm NN f [k]).map fun p => (kd f (lastP p)).de).filter fun s => decide (c ∈ s.cps.toList)).map PyData.str)) (d' := .list []) (EL.ed (el_lcL (as := (lm NN f [k]).map fun p => (kd f (lastP p)).de) (enc := PyData.str) (fun s => decide (c ∈ s.cps.toList)) PyData.str (ed_var (i := 2) rfl (hd.mono e2)) (by rw [List.length_map]; omega) (fun _ _ _ => rfl) (fun _ _ => rfl) fun a ha v H3 e3 hv => ?_)) (EL.ed (el_lst' (ds := []) eas_nil (by decide))) (strs_shaped fun s hs => okS s (List.mem_filter.mp hs).1) (intsL_shaped [])) ?_)
    · exact ⟨[some x, some y, some (.ref p), none, some (.str ⟨#[c]⟩), some v], rfl, fun _ _ R h => h, et_D (ed_inS (ed_var (i := 4) rfl (.str _)) (ed_var (i := 5) rfl hv)), fun _ => ed_var (i := 5) rfl hv⟩
    · congr 1
      have e5 : (lm NN f [k]).any (does f c) = !((((lm NN f [k]).map fun p => (kd f (lastP p)).de).filter fun s => decide (c ∈ s.cps.toList)).isEmpty) := by
        generalize lm NN f [k] = l
        induction l with
        | nil => rfl
        | cons a l ih =>
          rw [List.any_cons, List.map_cons, List.filter_cons, ih]
          unfold does
          by_cases h : c ∈ (kd f (lastP a)).de.cps.toList
          · simp [h]
          · simp [h]
      rw [e5]
      cases (((lm NN f [k]).map fun p => (kd f (lastP p)).de).filter fun s => decide (c ∈ s.cps.toList)) with
      | nil => simp [PyData.eqv, PyData.eqvAll]
      | cons a l => simp [PyData.eqv, PyData.eqvAll]
end
end KS
end
noncomputable section
namespace KS
open PySem PySem.Spec PyProof.Rows L2 Evl
/-! ### between the steps of a kind that is told -/
structure FC (a b l : Addr) (H0 H : Hp) (g : Fam) : Prop where
  hs : HS a b H
  off : Off a b H0 H
  lst : ∃ xs, H l = some (.lst xs) ∧ DA H xs (g.map encK)
section
variable {a b l c : Addr} {H0 H H' : Hp} {g g' : Fam}
theorem flat_Ks (g : Fam) : flatTs (g.map encK) = true := flat_map flat_K g
theorem flat_Es (g : List (Int × Int)) : flatTs (g.map encE) = true := flat_map flat_E g
theorem FC.ex (f : FC a b l H0 H g) (e : Ex H H') : FC a b l H0 H' g := by
  obtain ⟨h1, h2, xs, h3, h4⟩ := f
  exact ⟨h1.ex e, h2.trans (Off.ex e), xs, e _ _ h3, h4.mono e⟩
theorem FC.step (f : FC a b l H0 H g) (la : l ≠ a) (lb : l ≠ b) (o : Off a b H H') (h : HS a b H') : FC a b l H0 H' g := by
  obtain ⟨h1, h2, xs, h3, h4⟩ := f
  exact ⟨h, h2.trans o, xs, o _ _ la lb h3, h4.keep (h1.tu o) (flat_Ks g)⟩
theorem HS.put {o : HO} (h : HS a b H) (ca : c ≠ a) (cb : c ≠ b) : HS a b (upd H c o) := by
  obtain ⟨ne, m, k, ns, h1, h2, r⟩ := h
  exact ⟨ne, m, k, ns, by rw [upd_ne ca.symm]; exact h1, by rw [upd_ne cb.symm]; exact h2, r⟩
theorem HS.ha (h : HS a b H) : ∃ o, H a = some o := by
  obtain ⟨ne, m, k, ns, h1, h2, r⟩ := h
  exact ⟨_, h1⟩
theorem HS.hb (h : HS a b H) : ∃ o, H b = some o := by
  obtain ⟨ne, m, k, ns, h1, h2, r⟩ := h
  exact ⟨_, h2⟩
theorem HS.ne (h : HS a b H) (n : H c = none) : c ≠ a ∧ c ≠ b := by
  obtain ⟨o1, h1⟩ := h.ha
  obtain ⟨o2, h2⟩ := h.hb
  exact ⟨(ne_of_none h1 n).symm, (ne_of_none h2 n).symm⟩
theorem Off.put {o : HO} (f : Off a b H0 H) (n : H0 c = none) : Off a b H0 (upd H c o) := fun x u xa xb hx => by
  rw [upd_ne (ne_of_none hx n)]
  exact f x u xa xb hx
/-- another list of the call's own is changed -/
theorem FC.put {zs ws : List V} (f : FC a b l H0 H g) (n : H0 c = none) (cl : c ≠ l) (ca : c ≠ a) (cb : c ≠ b) (hc : H c = some (.lst zs)) : FC a b l H0 (upd H c (.lst ws)) g := by
  obtain ⟨h1, h2, xs, h3, h4⟩ := f
  exact ⟨h1.put ca cb, h2.put n, xs, by rw [upd_ne cl.symm]; exact h3, h4.keep (tu_upd hc) (flat_Ks g)⟩
/-- the family's own list is changed -/
theorem FC.own {ws : List V} (f : FC a b l H0 H g) (n : H0 l = none) (la : l ≠ a) (lb : l ≠ b) (h : DA (upd H l (.lst ws)) ws (g'.map encK)) : FC a b l H0 (upd H l (.lst ws)) g' :=
  ⟨f.hs.put la lb, f.off.put n, ws, upd_same, h⟩
theorem DA.set {H : Hp} {v : V} {d : PyData} (h : D H v d) : ∀ {xs : List V} {ds : List PyData} (i : Nat), DA H xs ds → DA H (xs.set i v) (ds.set i d)
  | _, _, _, .nil => .nil
  | _, _, 0, .cons _ t => .cons h t
  | _, _, i + 1, .cons q t => .cons q (DA.set h i t)
theorem set_last (g : Fam) (k k' : Kind) : ((g ++ [k]).map encK).set g.length (encK k') = (g ++ [k']).map encK := by
  rw [List.map_append, List.set_append, if_neg (by rw [List.length_map]; omega), List.length_map, Nat.sub_self, List.map_append]
  rfl
end
structure ElOk (n : Nat) (es : List (Int × Int)) : Prop where
  few : es.length ≤ 3
  low : ∀ e ∈ es, 0 ≤ e.1 ∧ e.1 < n ∧ (e.2 = 0 ∨ e.2 = 1)
  once : (es.map (·.1)).Nodup
theorem ElOk.take {n : Nat} {es : List (Int × Int)} (h : ElOk n es) (k : Nat) : ElOk n (es.take k) :=
  ⟨by rw [List.length_take]; have := h.few; omega, fun e he => h.low e (List.mem_of_mem_take he), by rw [List.map_take]; exact (List.take_sublist _ _).nodup h.once⟩
/-! ### sizes -/
def crude : Nat → Nat
  | 0 => 1
  | n + 1 => 1 + 3 * crude n
theorem dd_len (a : List Part) : ∀ l : List Part, (dd a l).length ≤ a.length + l.length
  | [] => by simp [dd]
  | x :: l => by
    show (dd (ins a x) l).length ≤ _
    have h := dd_len (ins a x) l
    have h2 : (ins a x).length ≤ a.length + 1 := by
      unfold ins
      split
      · omega
      · simp
    rw [List.length_cons]
    omega
theorem fold_len {α : Type} (g : α → List Part) (m : Nat) : ∀ (cs : List α) (a : List Part), (∀ c ∈ cs, (g c).length ≤ m) → (cs.foldl (fun a c => dd a (g c)) a).length ≤ a.length + cs.length * m
  | [], a, _ => by simp
  | c :: cs, a, h => by
    show (cs.foldl _ (dd a (g c))).length ≤ _
    have h1 := fold_len g m cs (dd a (g c)) fun d hd => h d (List.mem_cons_of_mem _ hd)
    have h2 := dd_len a (g c)
    have h3 := h c List.mem_cons_self
    rw [List.length_cons, Nat.succ_mul]
    omega
theorem lm_crude {f : Fam} (h : ∀ k : Int, (kd f k).el.length ≤ 3) : ∀ (n : Nat) (p : Part), (lm n f p).length ≤ crude n
  | 0, p => Nat.le_refl _
  | n + 1, p => by
    have := fold_len (fun c => lm n f c) (crude n) (kids f p) [p] fun c _ => lm_crude h n c
    show ((kids f p).foldl _ [p]).length ≤ 1 + 3 * crude n
    have kl : (kids f p).length ≤ 3 := by unfold kids; rw [List.length_map]; exact h _
    have e : ([p] : List Part).length = 1 := rfl
    have := Nat.mul_le_mul_right (crude n) kl
    omega
theorem lm_small {f : Fam} (L : Low f) (h : ∀ k : Int, (kd f k).el.length ≤ 3) {k : Int} (k0 : 0 ≤ k) (k7 : k < 7) : (lm NN f [k]).length ≤ 10000 := by
  rw [lm_fuel L NN 7 [k] (by show k < (16 : Int); omega) (by show k < (7 : Int); omega)]
  exact Nat.le_trans (lm_crude h 7 [k]) (by decide)
theorem kd_few {f : Fam} (h : ∀ k ∈ f, k.el.length ≤ 3) (k : Int) : (kd f k).el.length ≤ 3 := by
  unfold kd
  rw [List.getD_eq_getElem?_getD]
  cases q : f[k.toNat]? with
  | none => exact Nat.zero_le _
  | some z => exact h z (List.mem_of_getElem? q)
theorem half_new {g : Fam} {es : List (Int × Int)} {m : List Nat} {ce : Int} (G : FamOk g) (g7 : g.length ≤ 14) (o : ElOk g.length es) (ma : ∀ c ∈ m, c ∈ abc) : Half (g ++ [⟨es, txt m, ce⟩]) := by
  refine ⟨fun j k hj e he => ?_, by simp; omega, fun k hk c hc => ?_⟩
  · rcases Nat.lt_trichotomy j g.length with q | q | q
    · rw [List.getElem?_append_left q] at hj
      exact (G.2.1 j k hj).low e he
    · subst q
      simp at hj
      subst hj
      exact o.low e he
    · have : (g ++ [(⟨es, txt m, ce⟩ : Kind)])[j]? = none := List.getElem?_eq_none (by simp; omega)
      rw [this] at hj; cases hj
  · rcases List.mem_append.mp hk with hk | hk
    · obtain ⟨j, hj⟩ := List.getElem?_of_mem hk
      exact rise_abc (G.2.1 j k hj).rise hc
    · rw [List.mem_singleton] at hk
      subst hk
      exact ma c hc
theorem few_new {g : Fam} {es : List (Int × Int)} {m : List Nat} {ce : Int} (G : FamOk g) (o : ElOk g.length es) : ∀ k ∈ g ++ [(⟨es, txt m, ce⟩ : Kind)], k.el.length ≤ 3 := fun k hk => by
  rcases List.mem_append.mp hk with hk | hk
  · obtain ⟨j, hj⟩ := List.getElem?_of_mem hk
    exact (G.2.1 j k hj).few
  · rw [List.mem_singleton] at hk
    subst hk
    exact o.few
theorem rise_filter (p : Nat → Bool) : rise (abc.filter p) := by
  unfold rise
  refine List.filter_congr fun c hc => ?_
  by_cases h : p c = true
  · rw [h, decide_eq_true (List.mem_filter.mpr ⟨hc, h⟩)]
  · have h2 : p c = false := by simpa using h
    rw [h2, decide_eq_false (fun z => h (List.mem_filter.mp z).2)]
theorem cut_abc {r : Int} (r0 : 0 ≤ r) : cutS (txt abc) none (some r) = txt (abc.take r.toNat) := by
  refine TL.ext_tl ?_
  show ((txt abc).cps.toList.drop 0).take (HT.sIx (txt abc).length (txt abc).length (some r) - 0) = abc.take r.toNat
  have e : HT.sIx (txt abc).length (txt abc).length (some r) = min r.toNat 6 := by
    have := HT.sIx_nat (txt abc).length (txt abc).length r.toNat
    rw [show ((r.toNat : Nat) : Int) = r by omega] at this
    exact this
  rw [e, Nat.sub_zero, List.drop_zero]
  show abc.take (min r.toNat 6) = abc.take r.toNat
  rcases Nat.le_total r.toNat 6 with h | h
  · rw [Nat.min_eq_left h]
  · rw [Nat.min_eq_right h, show abc.take 6 = abc from rfl, List.take_of_length_le (by exact h)]
section
variable {P : Program} {w : World} {K : PySem.W.Frag} {σ : L2.St} {H H' : Hp} {ta tb tc te : TE}
theorem ed_addS {i j : List Nat} (ha : ED ta σ H (.str (txt i))) (hb : ED tb σ H (.str (txt j))) (hz : i.length + j.length ≤ 1000) : ED (tOp (fun x y H Q => ∃ i j, x = .str i ∧ y = .str j ∧ i.length + j.length ≤ sizeLine ∧ Q (.str (i ++ j)) H) ta tb) σ H (.str (txt (i ++ j))) := ed_bin' ha hb fun x y H1 _ hx hy Q q => by
  refine ⟨txt i, txt j, hx.toStr, hy.toStr, ?_, ?_⟩
  · have e1 : (txt i).length = i.length := by show i.toArray.size = _; simp
    have e2 : (txt j).length = j.length := by show j.toArray.size = _; simp
    rw [e1, e2]
    exact sz_of (by omega)
  · have e : txt i ++ txt j = txt (i ++ j) := TL.ext_tl (TL.tl_append _ _)
    rw [e]
    exact q _ H1 (Ex.refl _) (.str _)
theorem ed_sortset {s : List Nat} (h : ED te σ H (.str (txt s))) (nd : s.Nodup) (sub : ∀ c ∈ s, c ∈ abc) (few : s.length < 64) : ED (tM1 (fun x xs H Q => ∃ a p, ∃ ys : List Str, x = .str a ∧ xs = [.ref p] ∧ (SqL K H p (ys.map V.str) ∨ SqT K H p (ys.map V.str)) ∧
      (ys.map (·.length)).sum + ys.length * a.length ≤ 16777216 ∧ Q (.str (Txt.join a ys)) H) (tC (.str Str.empty)) (tCB (rSortTx P w) (tCons (tCB (rSetTx P w) (tCons te tNil)) tNil))) σ H (.str (txt (abc.filter fun c => decide (c ∈ s)))) := fun H1 e Q q => ⟨⟨_, rfl⟩,
  h H1 e _ fun x H2 e2 hx => by
    have ex := hx.toStr
    subst ex
    refine ⟨txt s, rfl, ?_, nd, few, fun p1 n1 => ⟨p1, _, rfl, upd_same, ?_, fun ys p2 hs hp n2 => ?_⟩⟩
    · rw [← Array.all_toList, List.all_eq_true]
      intro c hc
      have : ∀ c ∈ abc, c < 128 := by decide
      exact decide_eq_true (this c (sub c hc))
    · refine (List.reverse_perm _).nodup_iff.mpr (List.pairwise_map.mpr (nd.imp fun h e => h (sing_inj e)))
    · obtain ⟨m, rfl, hr, hm⟩ := sorted_set_text nd sub hs hp
      have em : m = abc.filter fun c => decide (c ∈ s) := by
        rw [hr]
        exact List.filter_congr fun c _ => decide_eq_decide.mpr (hm c)
      refine ⟨_, p2, m.map Froz.sing, rfl, rfl, .inl (SqL.of upd_same), ?_, ?_⟩
      · have e4 : (Str.empty).length = 0 := rfl
        rw [e4, Nat.mul_zero, Nat.add_zero, sing_lens, em]
        exact Nat.le_trans (List.length_filter_le _ _) (by decide)
      · rw [join_sing, em]
        exact q _ _ ((e2.trans (Ex.new n1)).trans (Ex.new n2)) (.str _)⟩
/-- t[:k] -/
theorem ed_slTake {ds : List PyData} {k : Int} (h : ED te σ H (.tuple ds)) (hk : ED tb σ H (.int k)) (k0 : 0 ≤ k) : ED (tSl (rSlA K) te tNoPart (tPart tb)) σ H (.tuple (ds.take k.toNat)) := fun H1 e Q q =>
  h H1 e _ fun x H2 e2 hx => hk H2 (e.trans e2) _ fun y H3 e3 hy => by
    obtain ⟨a, xs, rfl, h1, h2⟩ := hx.toTup
    have ek := hy.toInt
    subst ek
    refine ⟨k, rfl, a, xs, rfl, SqT.of (e3 _ _ h1), fun hw => ?_, fun hw p hp => ?_⟩
    · have e1 : HT.sIx xs.length xs.length (some k) = min k.toNat xs.length := by
        have := HT.sIx_nat xs.length xs.length k.toNat
        rwa [show ((k.toNat : Nat) : Int) = k by omega] at this
      rw [e1] at hw
      rw [List.take_of_length_le (by rw [← h2.len]; omega)] at q
      exact q _ _ (e2.trans e3) ((D.tup h1 h2).mono e3)
    · have e1 : cutV xs none (some k) = xs.take k.toNat := by
        unfold cutV
        rw [HT.sIx_none]
        have := HT.sIx_nat xs.length xs.length k.toNat
        rw [show ((k.toNat : Nat) : Int) = k by omega] at this
        rw [this, List.drop_zero, Nat.sub_zero]
        rcases Nat.le_total k.toNat xs.length with g | g
        · rw [Nat.min_eq_left g]
        · rw [Nat.min_eq_right g, List.take_of_length_le (Nat.le_refl _), List.take_of_length_le g]
      rw [e1]
      exact q _ _ ((e2.trans e3).trans (Ex.new hp)) (.tup upd_same (((h2.mono e3).take _).mono (Ex.new hp)))
/-- t[1:] -/
theorem ed_slDrop {ds : List PyData} (h : ED te σ H (.tuple ds)) : ED (tSl (rSlA K) te (tPart (tC (.int 1))) tNoPart) σ H (.tuple (ds.drop 1)) := fun H1 e Q q =>
  h H1 e _ fun x H2 e2 hx => by
    obtain ⟨a, xs, rfl, h1, h2⟩ := hx.toTup
    refine ⟨1, rfl, a, xs, rfl, SqT.of h1, fun hw => ?_, fun hw p hp => ?_⟩
    · have e1 : HT.sIx xs.length 0 (some 1) = min 1 xs.length := HT.sIx_nat xs.length 0 1
      rw [e1] at hw
      have : xs = [] := by
        cases xs with
        | nil => rfl
        | cons y r => rw [List.length_cons] at hw; omega
      subst this
      cases h2
      exact q _ _ e2 (.tup h1 .nil)
    · rw [cut1']
      have t := h2.drop 1
      rw [show xs.drop 1 = xs.tail from List.drop_one] at t
      exact q _ _ (e2.trans (Ex.new hp)) (.tup upd_same (t.mono (Ex.new hp)))
end
end KS
end
noncomputable section
namespace KS
open PySem PySem.Spec PyProof.Rows L2 Evl
open RZ (tLenSetI pe_lenSetI)
section
variable {P : Program} {w : World} {K : PySem.W.Frag} {mg : Str → Option Value} {base : Heap}
theorem sd_st {σ : L2.St} {H : Hp} {te : TE} {d : PyData} {g : TG} {Dn : Ends} (h : ED te σ H d) (k : ∀ v H1, Ex H H1 → D H1 v d → g v σ H1 fun σ' H' => Dn.nx σ' H') : tAsg te g Dn σ H := h H (Ex.refl H) _ fun v H1 e hv => k v H1 e hv
theorem isND_optP (o : Option Part) : isND (optP o) = o.isNone := by cases o <;> rfl
abbrev N_family : List Str := ["_law_h", "_law_most", "_law_f", "_law_often", "_law_number", "_law_left", "_law_elders_here", "_law_k", "_law_deeds", "_law_letter", "_law_keep", "_law_torn"]
theorem sc_family : FnScope N_family ["_law_h", "_law_most"] (defScope s_law_family) := ⟨rfl, rfl, rfl, by decide +kernel, rfl, by decide +kernel, by decide +kernel⟩
/-- a family is drawn -/
def spFamily : Sp := fun vs H Q _ => ∃ (a b : Addr) (m : Int), vs = [.ref a, .int m] ∧ HS a b H ∧ 1 ≤ m ∧ m ≤ 7 ∧ ∀ f v H', Off a b H H' → HS a b H' → FamOk f → 1 ≤ f.length → (f.length : Int) ≤ m → D H' v (encF f) → Q v H'
theorem ok_family (B : Bt mg) (d : Df K mg "_law_family" s_law_family ["_law_h", "_law_most"]) (cN : Cl P w K mg base "_law_next" ["_law_h", "_law_many"] 1 spNext) (cM : Cl P w K mg base "_law_met" ["_law_f", "_law_part"] 17 (spL (R_lmet NN)))
    (cD : Cl P w K mg base "_law_doer" ["_law_f", "_law_kind", "_law_deed"] 18 (spD R_ldoer)) (cK : Cl P w K mg base "_law_knows" ["_law_f", "_law_kind"] 18 (spL R_lknows)) : Cl P w K mg base "_law_family" ["_law_h", "_law_most"] 19 spFamily := by
  refine d.ok sc_family (fun vs H Q E h => by obtain ⟨_, _, _, rfl, _⟩ := h; rfl) (fun fa cdv A outer s H vs Q E hr h => ?_)
  obtain ⟨a, b, most, rfl, hs, m1, m7, q⟩ := h
  have h1 : Room 1 _ := hr.mono (by decide)
  have h17 : Room 17 _ := hr.mono (by decide)
  refine ⟨_, pss_cons (ps_set (i := 2) sc_family.nd rfl (.inr rfl) (pe_lst pa_nil))
    (pss_cons (ps_set (i := 3) sc_family.nd rfl (.inl rfl) (pe_op op_add pe_int (pe_cl cN h1 (pa_cons (pv 0) (pa_cons pe_int pa_nil)))))
    (pss_cons (ps_for PassesOwn.never rfl (pi_range1 rfl B.range (pa_cons (pe_op op_add pe_int (pe_cl cN h1 (pa_cons (pv 0) (pa_cons (pv 1) pa_nil)))) pa_nil)) (pg_name (i := 4) sc_family.nd rfl (.inr rfl))
      (pss_cons (ps_set (i := 5) sc_family.nd rfl (.inl rfl) (pe_listRg rfl rfl B.list (prg_1 rfl B.range (pv 4))))
      (pss_cons (ps_set (i := 6) sc_family.nd rfl (.inl rfl) (pe_lst pa_nil))
      (pss_cut (ps_for PassesOwn.never rfl (pi_range1 rfl B.range (pa_cons (pe_op op_add (pe_cl cN h1 (pa_cons (pv 0) (pa_cons (pe_op op_add pe_int (pe_callB (call_min2 rfl) rfl B.min boot_min (pa_cons pe_int (pa_cons (pv 4) pa_nil)))) pa_nil))) (pe_op op_mul (pe_callTy call_int1 rfl B.int (by decide +kernel) (pa_cons (pe_cmpR op_gt (pv 4) pe_int (nomark _)) pa_nil)) (pe_cl cN h1 (pa_cons (pv 0) (pa_cons pe_int pa_nil))))) pa_nil)) (pg_name (i := 7) sc_family.nd rfl (.inl rfl))
        (pss_one (ps_if (PW.pt (pw_and (pt_cmpR (op_neD (Nat.lt_of_succ_lt (hu64 hr))) (pv 5) (pe_lst pa_nil) (nomark _)) (pw_and1 (pt_cmpR op_lt (pv 7) pe_int (nomark _)))))
          (pss_one (ps_expr (pe_bm PySem.F.plainAttrs_list PySem.F.slot_list_append PySem.F.type_list_append mt_append (pv 6) (pa_cons (pe_tup
            (pa_cons (pe_bm PySem.F.plainAttrs_list PySem.F.slot_list_pop PySem.F.type_list_pop mt_popAt (pv 5) (pa_cons (pe_cl cN h1 (pa_cons (pv 0) (pa_cons (pe_callB call_len_seq rfl B.len PySem.boot_len (pa_cons (pv 5) pa_nil)) pa_nil))) pa_nil))
            (pa_cons (pe_op op_fdivN (pe_cl cN h1 (pa_cons (pv 0) (pa_cons (pv 3) pa_nil))) (pe_op op_sub (pv 3) pe_int)) pa_nil))) pa_nil)))) pss_nil)))
      (pss_cut (ps_set (i := 8) sc_family.nd rfl (.inl rfl) (pe_join pe_str (pe_lc (own := [("_law_letter", 9)]) (g := gName 9) rfl sc_family.nd (pi_str (pe_slice sl_str pe_str po_none (po_some (pe_op op_add pe_int (pe_cl cN h1 (pa_cons (pv 0) (pa_cons pe_int pa_nil))))))) (blkOk_by (N := N_family) (sc := defScope s_law_family) (by decide +kernel))
        (fun _ _ _ _ _ => pg_name (i := 9) sc_family.nd rfl (.inl rfl)) (fun _ _ _ _ _ => by exact pts_one (pt_cmpR op_eq (by exact pe_cl cN h1 (by exact pa_cons (pv 0) (pa_cons pe_int pa_nil))) pe_int (nomark _))) (fun _ _ _ _ _ => pv 9))))
      (pss_cut (ps_expr (pe_bm PySem.F.plainAttrs_list PySem.F.slot_list_append PySem.F.type_list_append mt_append (pv 2) (pa_cons (pe_tup (pa_cons (pe_callTy call_tuple_of rfl B.tuple boot_tuple (pa_cons (pv 6) pa_nil)) (pa_cons (pv 8) (pa_cons (pe_ix ix_list (pe_lst (pa_cons pe_int (pa_cons (pe_cl cN h1 (pa_cons (pv 0) (pa_cons pe_int pa_nil))) pa_nil))) (pe_cl cN h1 (pa_cons (pv 0) (pa_cons pe_int pa_nil))) (fun _ _ => rfl)) pa_nil)))) pa_nil)))
      (pss_cut (ps_for PassesOwn.never rfl (pi_list (pe_lst (pa_cons pe_int (pa_cons pe_int pa_nil)))) (pg_name (i := 10) sc_family.nd rfl (.inl rfl))
        (pss_one (ps_if (pt_cmpR op_gt (pe_callB call_len rfl B.len PySem.boot_len (pa_cons (pe_cl cM h17 (pa_cons (pv 2) (pa_cons (pe_tup (pa_cons (pv 4) pa_nil)) pa_nil))) pa_nil)) pe_int (nomark _))
          (pss_one (ps_asg (pe_op op_catA (pe_tup (pa_cons (pe_slice sl_tupA (pe_ix ix_tup (pe_ix ix_list (pv 2) (pe_un un_neg pe_int) (fun _ _ => rfl)) pe_int (fun _ _ => rfl)) po_none (po_some (pv 10))) pa_nil)) (pe_slice sl_tupA (pe_ix ix_list (pv 2) (pe_un un_neg pe_int) (fun _ _ => rfl)) (po_some pe_int) po_none)) (pg_sub (pv 2) (pe_un un_neg pe_int) set_list (fun _ => rfl)))) pss_nil)))
      (pss_cons (ps_setLc (i := 11) (own := [("_law_letter", 9)]) (g := gName 9) rfl sc_family.nd rfl rfl (sw_true rfl rfl rfl (by decide +kernel)) (pi_list (pe_cl cK hr (pa_cons (pv 2) (pa_cons (pv 4) pa_nil)))) (blkOk_by (N := N_family) (sc := defScope s_law_family) (by decide +kernel))
        (fun _ _ _ _ _ => pg_name (i := 9) sc_family.nd rfl (.inl rfl)) (fun _ _ _ _ _ => by exact pts_one (pt_cmpR op_isN1 (by exact pe_cl cD hr (by exact pa_cons (pv 2) (pa_cons (pv 4) (pa_cons (pv 9) pa_nil)))) pe_non (nomark _))) (fun _ _ _ _ _ => pv 9))
      (pss_one (ps_asg (pe_tup (pa_cons (pe_ix ix_tup (pe_ix ix_list (pv 2) (pe_un un_neg pe_int) (fun _ _ => rfl)) pe_int (fun _ _ => rfl)) (pa_cons (pe_join pe_str (pe_callB (cr_sortTx rfl) rfl B.sorted boot_sorted (pa_cons (pe_callTy (cr_setTx rfl) rfl B.set boot_set (pa_cons (pe_op op_add_str (pv 8) (pe_join pe_str (pv 11))) pa_nil)) pa_nil))) (pa_cons (pe_ix ix_tup (pe_ix ix_list (pv 2) (pe_un un_neg pe_int) (fun _ _ => rfl)) pe_int (fun _ _ => rfl)) pa_nil)))) (pg_sub (pv 2) (pe_un un_neg pe_int) set_list (fun _ => rfl))))))))))))
    (pss_one (ps_ret (pe_callTy call_tuple_of rfl B.tuple boot_tuple (pa_cons (pv 2) pa_nil)))))), ?_⟩
  have la : ∀ {c : Addr}, H c = none → c ≠ a ∧ c ≠ b := fun n => hs.ne n
  refine ⟨Nat.zero_le _, fun l nl => ?_⟩
  have l_a := (la nl).1
  have l_b := (la nl).2
  refine ⟨.ref a, rfl, a, b, 3, rfl, hs.ex (Ex.new nl), by decide, by decide, fun r2 H2 off2 hs2 r20 r21 => ⟨2, r2, rfl, rfl, ?_⟩⟩
  refine ⟨.ref a, rfl, .int most, rfl, a, b, most, rfl, hs2, by omega, by omega, fun r3 H3 off3 hs3 r30 r31 => ⟨1, r3, rfl, rfl, 1 + r3, rfl, by omega, by omega, ?_⟩⟩
  generalize ho : 2 + r2 = often
  have o2 : 2 ≤ often := by omega
  have o4 : often ≤ 4 := by omega
  have fc0 : FC a b l H H3 [] := ⟨hs3, ((Off.ex (Ex.new nl)).trans off2).trans off3, [], off3 _ _ l_a l_b (off2 _ _ l_a l_b upd_same), .nil⟩
  refine for_range (lo := 0) (n := (1 + r3).toNat) (fun i σ H' => (∃ y4 y5 y6 y7 y8 y9 y10 y11, σ = [some (.ref a), some (.int most), some (.ref l), some (.int often), y4, y5, y6, y7, y8, y9, y10, y11]) ∧ ∃ g : Fam, g.length = i ∧ FamOk g ∧ FC a b l H H' g)
    ⟨⟨none, none, none, none, none, none, none, none, by rw [← ho]; rfl⟩, [], rfl, ⟨by decide, fun j k e => by simp at e, fun j e => by simp at e⟩, fc0⟩ (fun i σ H' hi ⟨⟨y4, y5, y6, y7, y8, y9, y10, y11, es⟩, g, gl, G, fc⟩ => ?_) (fun σ H' ⟨⟨y4, y5, y6, y7, y8, y9, y10, y11, es⟩, g, gl, G, fc⟩ => ?_)
  · subst es
    have i7 : i < 7 := by omega
    have e0 : (0 : Int) + (i : Int) = (i : Int) := Int.zero_add _
    rw [e0]
    -- left, elders
    refine ⟨.int (i : Int), rfl, (i : Int), rfl, RgOk.of_le (Int.le_refl _) (by omega) (by decide) (by omega), fun l1 n1 => ?_⟩
    refine ⟨Nat.zero_le _, fun l2 n2 => ?_⟩
    have n1' : ∀ {c : Addr}, H' c = none → H c = none := fun {c} n => by
      cases hc : H c with
      | none => rfl
      | some o =>
        by_cases ca : c = a
        · obtain ⟨u, hu⟩ := fc.hs.ha
          rw [ca, hu] at n; cases n
        · by_cases cb : c = b
          · obtain ⟨u, hu⟩ := fc.hs.hb
            rw [cb, hu] at n; cases n
          · rw [fc.off c o ca cb hc] at n; cases n
    have n2b : H' l2 = none := fresh_back (Ex.new n1) n2
    have l12 : l2 ≠ l1 := (ne_of_none (upd_same (H := H') (a := l1) (o := .lst (rgV 0 i))) n2).symm
    obtain ⟨xs0, hl0, ha0⟩ := fc.lst
    have l1l : l1 ≠ l := (ne_of_none hl0 n1).symm
    have l2l : l2 ≠ l := (ne_of_none hl0 n2b).symm
    have l1ab := fc.hs.ne n1
    have l2ab := fc.hs.ne n2b
    have N1 := n1' n1
    have N2 := n1' n2b
    have fc1 := fc.ex ((Ex.new (o := .lst (rgV 0 i)) n1).trans (Ex.new (o := .lst []) n2))
    generalize hH1 : upd (upd H' l1 (.lst (rgV 0 i))) l2 (.lst []) = HA at fc1
    have hA1 : HA l1 = some (.lst (((List.range i).map fun j => ((j : Nat) : Int)).map V.int)) := by
      rw [← hH1, upd_ne l12.symm, upd_same]
      unfold rgV
      rw [List.map_map]
      have e1 : ((i : Int) - 0).toNat = i := by omega
      rw [e1]
      congr 2
      refine List.map_congr_left fun j _ => ?_
      show V.int (0 + (j : Int)) = V.int (j : Int)
      rw [Int.zero_add]
    have hA2 : HA l2 = some (.lst []) := by rw [← hH1]; exact upd_same
    refine ⟨fun σ H' => (∃ y5 y7 y8 y9 y10 y11, σ = [some (.ref a), some (.int most), some (.ref l), some (.int often), some (.int (i : Int)), y5, some (.ref l2), y7, y8, y9, y10, y11]) ∧ FC a b l H H' g ∧ ∃ xs es, H' l2 = some (.lst xs) ∧ DA H' xs (es.map encE) ∧ ElOk i es, ?_, ?_⟩
    · -- the elders
      show tFor _ _ _ _ _ HA
      refine ⟨.ref a, rfl, .int (i : Int), rfl, 3, (i : Int), rfl, 1, _, rfl, rfl, ?_⟩
      generalize hmn : (1 + (if (i : Int) < 3 then (i : Int) else 3)) = mn
      have mn0 : 1 ≤ mn ∧ mn ≤ 4 := by
        subst hmn
        split <;> omega
      refine ⟨a, b, mn, by rw [← hmn]; rfl, fc1.hs, by omega, by omega, fun r5 H5 off5 hs5 r50 r51 => ?_⟩
      refine ⟨.int (i : Int), rfl, (i : Int), 1, rfl, rfl, .inr ⟨decide (1 < (i : Int)), rfl, ?_⟩⟩
      generalize htt : (if decide (1 < (i : Int)) = true then (1 : Int) else 0) = tf
      have tf0 : tf = 0 ∨ tf = 1 := by
        subst htt
        split
        · exact .inr rfl
        · exact .inl rfl
      refine ⟨.ref a, rfl, a, b, 2, rfl, hs5, by decide, by decide, fun r6 H6 off6 hs6 r60 r61 => ⟨tf, r6, rfl, rfl, .inl ⟨by omega, by omega⟩, r5, tf * r6, rfl, rfl, ?_⟩⟩
      have cnt : 0 ≤ r5 + tf * r6 ∧ r5 + tf * r6 ≤ 10 := by
        rcases tf0 with h | h
        · subst h; omega
        · subst h; omega
      generalize hct : r5 + tf * r6 = count at cnt
      have fc6 := (fc1.step l_a l_b off5 hs5).step l_a l_b off6 hs6
      refine ⟨count, by rw [← hct], by omega, by omega, for_range (lo := 0) (n := count.toNat) (fun j σ H' => (∃ y7 y8 y9 y10 y11, σ = [some (.ref a), some (.int most), some (.ref l), some (.int often), some (.int (i : Int)), some (.ref l1), some (.ref l2), y7, y8, y9, y10, y11]) ∧ FC a b l H H' g ∧
          ∃ (ls : List Int) (xs : List V) (es : List (Int × Int)), H' l1 = some (.lst (ls.map V.int)) ∧ H' l2 = some (.lst xs) ∧ DA H' xs (es.map encE) ∧ es.length ≤ 3 ∧ es.length ≤ j ∧ (∀ e ∈ es, 0 ≤ e.1 ∧ e.1 < (i : Int) ∧ (e.2 = 0 ∨ e.2 = 1)) ∧ (ls ++ es.map (·.1)).Nodup ∧ (∀ v ∈ ls, 0 ≤ v ∧ v < (i : Int)) ∧ ls.length ≤ i) ?_ ?_ ?_⟩
      · refine ⟨⟨_, _, _, _, _, rfl⟩, fc6, (List.range i).map fun j => ((j : Nat) : Int), [], [], off6 _ _ l1ab.1 l1ab.2 (off5 _ _ l1ab.1 l1ab.2 hA1), off6 _ _ l2ab.1 l2ab.2 (off5 _ _ l2ab.1 l2ab.2 hA2), .nil, by decide, Nat.le_refl _, (fun e he => nomatch he), ?_, ?_, by rw [List.length_map, List.length_range]; exact Nat.le_refl _⟩
        · rw [List.map_nil, List.append_nil]
          exact List.pairwise_map.mpr (List.nodup_range.imp fun h e => h (by omega))
        · intro v hv
          obtain ⟨j, hj, e⟩ := List.mem_map.mp hv
          have := List.mem_range.mp hj
          omega
      · rintro j σ H7 hj ⟨⟨y7, y8, y9, y10, y11, es7⟩, fc7, ls, xs, es, h1, h2, ax, e3, ej, elow, nd, lv, ll⟩
        subst es7
        rw [Int.zero_add]
        have dl1 : D H7 (.ref l1) (.list (ls.map PyData.int)) := .lst h1 (DA.ofInts ls)
        refine sd_if (b := !decide (ls = []) && decide ((j : Int) < 3)) (et_and (a := !decide (ls = [])) (et_D (ed_is (ed_neD (ed_var (i := 5) rfl dl1) (EL.ed (el_lst' (ds := []) eas_nil (by decide))) (intsL_shaped ls) (intsL_shaped [])) ?_)) fun _ => et_D (ed_I0 (ed_var (i := 7) rfl (.int _)) (ed_ci 3) fun H => .bl _)) (fun hb H8 e8 => ?_) (fun hb H8 e8 => ?_)
        · cases ls with
          | nil => simp [PyData.eqv, PyData.eqvAll]
          | cons x r => simp [PyData.eqv, PyData.eqvAll]
        · have hb' := Bool.and_eq_true_iff.mp hb
          have lne : ¬ ls = [] := by simpa using hb'.1
          have j3 : (j : Int) < 3 := of_decide_eq_true hb'.2
          have len1 : 1 ≤ ls.length := by
            cases ls with
            | nil => exact absurd rfl lne
            | cons x r => simp
          have fc8 := fc7.ex e8
          have h18 := e8 _ _ h1
          have h28 := e8 _ _ h2
          refine ⟨.ref l2, rfl, .inl ⟨rfl, _, SqL.of h28⟩, .ref l1, rfl, .inl ⟨rfl, _, SqL.of h18⟩, .ref a, rfl, .ref l1, rfl, l1, _, rfl, .inl (SqL.of h18), ?_⟩
          rw [List.length_map]
          refine ⟨a, b, _, rfl, fc8.hs, by omega, by omega, fun r9 H9 off9 hs9 r90 r91 => ?_⟩
          have h19 := off9 _ _ l1ab.1 l1ab.2 h18
          have h29 := off9 _ _ l2ab.1 l2ab.2 h28
          have rl : r9.toNat < ls.length := by omega
          have gv : ls[r9.toNat]? = some ls[r9.toNat] := List.getElem?_eq_getElem rl
          generalize ls[r9.toNat] = v at gv
          refine ⟨l1, _, r9, r9.toNat, .int v, rfl, rfl, h19, by omega, by omega, seqIndex_of r90 (by rw [List.length_map]; exact r91), by rw [List.getElem?_map, gv]; rfl, ?_⟩
          rw [erase_mapI]
          have fc9 := fc8.step l_a l_b off9 hs9
          have fc10 := fc9.put (ws := (ls.eraseIdx r9.toNat).map V.int) N1 l1l l1ab.1 l1ab.2 h19
          refine ⟨.ref a, rfl, .int often, rfl, a, b, often, rfl, fc10.hs, by omega, by omega, fun r11 H11 off11 hs11 r110 r111 => ?_⟩
          refine ⟨.int often, rfl, often, 1, rfl, rfl, r11, often - 1, rfl, rfl, ⟨by omega, by omega⟩, by show 2 ≤ sizeLine; decide, fun T nT => ?_⟩
          have sh01 : r11.fdiv (often - 1) = 0 ∨ r11.fdiv (often - 1) = 1 := by
            rw [Int.fdiv_eq_ediv_of_nonneg _ (by omega)]
            rcases (show often = 2 ∨ often = 3 ∨ often = 4 by omega) with h | h | h <;> subst h <;> omega
          have fc11 := fc10.step l_a l_b off11 hs11
          have h1b : H11 l1 = some (.lst ((ls.eraseIdx r9.toNat).map V.int)) := off11 _ _ l1ab.1 l1ab.2 upd_same
          have h2b : H11 l2 = some (.lst xs) := off11 _ _ l2ab.1 l2ab.2 (by rw [upd_ne l12]; exact h29)
          have fc12 := fc11.ex (Ex.new (o := .tup [.int v, .int (r11.fdiv (often - 1))]) nT)
          have h2c : (upd H11 T (.tup [.int v, .int (r11.fdiv (often - 1))])) l2 = some (.lst xs) := by rw [upd_ne (ne_of_none h2b nT)]; exact h2b
          have h1c : (upd H11 T (.tup [.int v, .int (r11.fdiv (often - 1))])) l1 = some (.lst ((ls.eraseIdx r9.toNat).map V.int)) := by rw [upd_ne (ne_of_none h1b nT)]; exact h1b
          have ax11 : DA (upd H11 T (.tup [.int v, .int (r11.fdiv (often - 1))])) xs (es.map encE) := by
            have t1 := (ax.mono e8).keep (fc8.hs.tu off9) (flat_Es es)
            have t2 := t1.keep (tu_upd (ys := (ls.eraseIdx r9.toNat).map V.int) h19) (flat_Es es)
            have t3 := t2.keep (fc10.hs.tu off11) (flat_Es es)
            exact t3.mono (Ex.new nT)
          refine ⟨l2, xs, .ref T, rfl, rfl, h2c, sz_lt (by rw [ax.len, List.length_map]; omega), ?_⟩
          have pm := erase_perm ls r9.toNat v gv
          have vm : v ∈ ls := List.mem_of_getElem? gv
          refine ⟨⟨_, _, _, _, _, rfl⟩, fc12.put N2 l2l l2ab.1 l2ab.2 h2c, ls.eraseIdx r9.toNat, xs ++ [.ref T], es ++ [(v, r11.fdiv (often - 1))], by rw [upd_ne l12.symm]; exact h1c, upd_same, ?_, ?_, ?_, ?_, ?_, ?_, ?_⟩
          · have tk := tu_upd (ys := xs ++ [.ref T]) h2c
            rw [List.map_append]
            refine (ax11.keep tk (flat_Es es)).append (.one ?_)
            exact D.keep tk (flat_E (v, r11.fdiv (often - 1))) (.tup upd_same (.cons (.int v) (.cons (.int (r11.fdiv (often - 1))) .nil)))
          · rw [List.length_append]; show es.length + 1 ≤ 3; omega
          · rw [List.length_append]; show es.length + 1 ≤ j + 1; omega
          · intro e he
            rcases List.mem_append.mp he with he | he
            · exact elow e he
            · rw [List.mem_singleton] at he
              subst he
              exact ⟨(lv v vm).1, (lv v vm).2, sh01⟩
          · have p2 : (ls.eraseIdx r9.toNat ++ (es ++ [(v, r11.fdiv (often - 1))]).map (·.1)).Perm (ls ++ es.map (·.1)) := by
              rw [List.map_append]
              show (ls.eraseIdx r9.toNat ++ (es.map (·.1) ++ [v])).Perm _
              rw [← List.append_assoc]
              refine List.Perm.trans (List.perm_append_comm (l₁ := ls.eraseIdx r9.toNat ++ es.map (·.1)) (l₂ := [v])) ?_
              show (v :: ls.eraseIdx r9.toNat ++ es.map (·.1)).Perm _
              exact List.Perm.append_right _ pm
            exact p2.nodup_iff.mpr nd
          · intro u hu
            exact lv u (List.mem_of_mem_eraseIdx hu)
          · have := List.length_eraseIdx_le ls r9.toNat
            omega
        · exact ⟨⟨_, _, _, _, _, rfl⟩, fc7.ex e8, ls, xs, es, e8 _ _ h1, e8 _ _ h2, ax.mono e8, e3, by omega, elow, nd, lv, ll⟩
      · rintro σ H7 ⟨⟨y7, y8, y9, y10, y11, es7⟩, fc7, ls, xs, es, h1, h2, ax, e3, ej, elow, nd, lv, ll⟩
        exact ⟨⟨_, _, _, _, _, _, es7⟩, fc7, xs, es, h2, ax, e3, elow, (List.nodup_append.mp nd).2.1⟩
    · rintro σ H7 ⟨⟨y5, y7, y8, y9, y10, y11, es7⟩, fc7, xs, es, h2, ax, eo⟩
      subst es7
      have EO : ElOk g.length es := by rw [gl]; exact eo
      -- deeds
      refine ⟨fun σ H' => (∃ y5 y7 y9 y10 y11 m, σ = [some (.ref a), some (.int most), some (.ref l), some (.int often), some (.int (i : Int)), y5, some (.ref l2), y7, some (.str (txt m)), y9, y10, y11] ∧ m.Nodup ∧ (∀ c ∈ m, c ∈ abc) ∧ m.length ≤ 6 ∧ FC a b l H H' g ∧ ∃ xs, H' l2 = some (.lst xs) ∧ DA H' xs (es.map encE)), ?_, ?_⟩
      · refine ⟨⟨_, rfl⟩, ?_⟩
        refine ⟨.ref a, rfl, a, b, 6, rfl, fc7.hs, by decide, by decide, fun r8 H8 off8 hs8 r80 r81 => ⟨1, r8, rfl, rfl, 1 + r8, rfl, txt abc, rfl, by decide, txt (abc.take (1 + r8).toNat), congrArg V.str (cut_abc (by omega)), fun Dl nD => ?_⟩⟩
        have fc8 := fc7.step l_a l_b off8 hs8
        have h28 := off8 _ _ l2ab.1 l2ab.2 h2
        have ax8 := ax.keep (fc7.hs.tu off8) (flat_Es es)
        have dab := hs8.ne nD
        obtain ⟨xl8, hl8, _⟩ := fc8.lst
        have dl : Dl ≠ l := (ne_of_none hl8 nD).symm
        have dl2 : Dl ≠ l2 := (ne_of_none h28 nD).symm
        have ND : H Dl = none := by
          cases hc : H Dl with
          | none => rfl
          | some o =>
            rw [fc8.off Dl o dab.1 dab.2 hc] at nD
            cases nD
        generalize hL : abc.take (1 + r8).toNat = Lt
        have Lab : Lt.Sublist abc := by rw [← hL]; exact List.take_sublist _ _
        have zl : (txt Lt).cps.size = Lt.length := by simp [txt]
        refine lc_it (walk_str (z := txt Lt)) (fun j H' => ∃ m : List Nat, m.Sublist (Lt.take j) ∧ H' Dl = some (.lst ((m.map Froz.sing).map V.str)) ∧ FC a b l H H' g ∧ H' l2 = some (.lst xs) ∧ DA H' xs (es.map encE))
          ⟨[], List.nil_sublist _, upd_same, fc8.ex (Ex.new nD), by rw [upd_ne dl2.symm]; exact h28, ax8.mono (Ex.new nD)⟩ (fun _ _ _ _ => trivial) (fun j x H9 H10 hj p hy => ?_) (fun H9 p => ?_)
        · obtain ⟨m, ms, hD, fc9, h29, ax9⟩ := p
          obtain ⟨rfl, c, hc, rfl⟩ := hy
          have hc' : Lt[j]? = some c := by rw [← hc]; simp [txt]
          refine ⟨rfl, .ref a, rfl, a, b, 3, rfl, fc9.hs, by decide, by decide, fun r11 H11 off11 hs11 r110 r111 => ⟨rfl, _, rfl, ?_⟩⟩
          have fc11 := fc9.step l_a l_b off11 hs11
          have hD11 := off11 _ _ dab.1 dab.2 hD
          have h211 := off11 _ _ l2ab.1 l2ab.2 h29
          have ax11 := ax9.keep (fc9.hs.tu off11) (flat_Es es)
          have tk : Lt.take (j + 1) = Lt.take j ++ [c] := by rw [List.take_add_one, hc']; rfl
          refine ite2 (fun _ => ?_) (fun _ => ?_)
          · have ml : m.length ≤ 6 := Nat.le_trans (ms.trans ((List.take_sublist _ _).trans Lab)).length_le (by decide)
            refine ⟨.str ⟨#[c]⟩, rfl, _, hD11, sz_lt (by rw [List.length_map, List.length_map]; omega), m ++ [c], by rw [tk]; exact ms.append (List.Sublist.refl _), ?_, fc11.put ND dl dab.1 dab.2 hD11, by rw [upd_ne dl2.symm]; exact h211, ax11.keep (tu_upd hD11) (flat_Es es)⟩
            rw [upd_same, List.map_append, List.map_append]
            rfl
          · exact ⟨m, by rw [tk]; exact ms.trans (List.sublist_append_left _ _), hD11, fc11, h211, ax11⟩
        · obtain ⟨m, ms, hD, fc9, h29, ax9⟩ := p
          have mA : m.Sublist abc := ms.trans ((List.take_sublist _ _).trans Lab)
          have ml : m.length ≤ 6 := Nat.le_trans mA.length_le (by decide)
          refine ⟨_, Dl, m.map Froz.sing, rfl, rfl, .inl (SqL.of hD), ?_, ?_⟩
          · have e4 : (Str.ofString "").length = 0 := rfl
            rw [e4, Nat.mul_zero, Nat.add_zero, sing_lens]
            omega
          · have ej : Txt.join (Str.ofString "") (m.map Froz.sing) = txt m := join_sing m
            rw [ej]
            exact ⟨_, _, _, _, _, m, rfl, mA.nodup (by decide), fun c hc => mA.subset hc, ml, fc9, xs, h29, ax9⟩
      · rintro σ H8 ⟨y5', y7', y9', y10', y11', m, es8, mnd, mab, ml, fc8, xs8, h28, ax8⟩
        subst es8
        -- the new kind
        refine ⟨fun σ H' => (∃ y5 y6 y7 y9 y10 y11 ce, σ = [some (.ref a), some (.int most), some (.ref l), some (.int often), some (.int (i : Int)), y5, y6, y7, some (.str (txt m)), y9, y10, y11] ∧ 0 ≤ ce ∧ ce ≤ 3 ∧ FC a b l H H' (g ++ [⟨es, txt m, ce⟩])), ?_, ?_⟩
        · obtain ⟨xl8, hl8, al8⟩ := fc8.lst
          refine ⟨.ref l, rfl, .inl ⟨rfl, _, SqL.of hl8⟩, .ref l2, rfl, l2, xs8, rfl, .inl ⟨SqL.of h28, fun T1 nT1 => ⟨.str (txt m), rfl, .ref a, rfl, a, b, 4, rfl, fc8.hs.ex (Ex.new nT1), by decide, by decide, fun r9 H9 off9 hs9 r90 r91 => ⟨by show 2 ≤ sizeLine; decide, fun l3 n3 => ⟨.ref a, rfl, a, b, 2, rfl, hs9.ex (Ex.new n3), by decide, by decide, fun r10 H10 off10 hs10 r100 r101 => ?_⟩⟩⟩⟩⟩
          have l3ab := hs9.ne n3
          have h3 : H10 l3 = some (.lst [.int 0, .int r9]) := off10 _ _ l3ab.1 l3ab.2 upd_same
          obtain ⟨ce, hce, c0, c3⟩ : ∃ ce, atI [V.int 0, V.int r9] r10 = some (.int ce) ∧ 0 ≤ ce ∧ ce ≤ 3 := by
            rcases (show r10 = 0 ∨ r10 = 1 by omega) with h | h
            · subst h; exact ⟨0, atI_nat (j := 0) rfl, by decide, by decide⟩
            · subst h; exact ⟨r9, atI_nat (j := 1) rfl, r90, by omega⟩
          have t1ab := fc8.hs.ne nT1
          have fcT := fc8.ex (Ex.new (o := .tup xs8) nT1)
          have fc9 := fcT.step l_a l_b off9 hs9
          have fc9' := fc9.ex (Ex.new (o := .lst [.int 0, .int r9]) n3)
          have fc10 := fc9'.step l_a l_b off10 hs10
          obtain ⟨xl10, hl10, al10⟩ := fc10.lst
          have T1k : H10 T1 = some (.tup xs8) := (fc9'.hs.tu off10) _ _ ((tu_ex (Ex.new n3)) _ _ ((fcT.hs.tu off9) _ _ upd_same))
          have axk : DA H10 xs8 (es.map encE) := (((ax8.mono (Ex.new nT1)).keep (fcT.hs.tu off9) (flat_Es es)).mono (Ex.new n3)).keep (fc9'.hs.tu off10) (flat_Es es)
          refine ⟨l3, _, r10, .int ce, rfl, rfl, SqL.of h3, hce, by show 3 ≤ sizeLine; decide, fun T nT => ⟨l, xl10, .ref T, rfl, rfl, by rw [upd_ne (ne_of_none hl10 nT)]; exact hl10, sz_lt (by rw [al10.len, List.length_map]; omega), ?_⟩⟩
          have hlT : (upd H10 T (.tup [.ref T1, .str (txt m), .int ce])) l = some (.lst xl10) := by rw [upd_ne (ne_of_none hl10 nT)]; exact hl10
          have tk := tu_upd (ys := xl10 ++ [.ref T]) hlT
          refine ⟨_, _, _, _, _, _, ce, rfl, c0, c3, (fc10.ex (Ex.new nT)).own nl l_a l_b ?_⟩
          rw [List.map_append]
          refine DA.append (DA.keep tk (flat_Ks g) (al10.mono (Ex.new nT))) (.one (D.keep tk (flat_K ⟨es, txt m, ce⟩) (.tup upd_same (.cons (.tup ?_ (axk.mono (Ex.new nT))) (.cons (.str _) (.cons (.int ce) .nil))))))
          exact Ex.new nT _ _ T1k
        · rintro σ H9 ⟨y5b, y6b, y7b, y9b, y10b, y11b, ce, es9, c0, c3, fc9⟩
          subst es9
          have G14 : g.length ≤ 14 := by omega
          -- not too many parts
          refine ⟨fun σ H' => (∃ y5 y6 y7 y9 y10 y11 es', σ = [some (.ref a), some (.int most), some (.ref l), some (.int often), some (.int (i : Int)), y5, y6, y7, some (.str (txt m)), y9, y10, y11] ∧ ElOk g.length es' ∧ FC a b l H H' (g ++ [⟨es', txt m, ce⟩]) ∧ (lm NN (g ++ [⟨es', txt m, ce⟩]) [(i : Int)]).length ≤ 16), ?_, ?_⟩
          · refine ⟨by show 2 ≤ sizeLine; decide, fun l4 n4 => ⟨l4, rfl, ⟨_, SqL.of upd_same⟩, ?_⟩⟩
            obtain ⟨xl9, hl9, al9⟩ := fc9.lst
            have l4l : l4 ≠ l := (ne_of_none hl9 n4).symm
            refine for_list (K := K) (a := l4) (xs := [.int 1, .int 0]) (fun j σ H' => (∃ y5 y6 y7 y9 y10 y11 es', σ = [some (.ref a), some (.int most), some (.ref l), some (.int often), some (.int (i : Int)), y5, y6, y7, some (.str (txt m)), y9, y10, y11] ∧ ElOk g.length es' ∧ FC a b l H H' (g ++ [⟨es', txt m, ce⟩]) ∧ H' l4 = some (.lst [.int 1, .int 0]) ∧ (j = 2 → (lm NN (g ++ [⟨es', txt m, ce⟩]) [(i : Int)]).length ≤ 16)))
              ⟨_, _, _, _, _, _, es, rfl, EO, fc9.ex (Ex.new n4), upd_same, fun z => nomatch z⟩ (fun j σ H' _ ⟨_, _, _, _, _, _, _, _, _, _, h, _⟩ => SqL.of h) (fun j x σ H10 hj p => ?_) (fun σ H10 p => ?_)
            · obtain ⟨y5c, y6c, y7c, y9c, y10c, y11c, es', es10, EO', fc10, h4, _⟩ := p
              subst es10
              obtain ⟨kp, hx, hkp⟩ : ∃ kp : Int, x = .int kp ∧ ((j = 0 ∧ kp = 1) ∨ (j = 1 ∧ kp = 0)) := by
                match j, hj with
                | 0, hj => exact ⟨1, (Option.some.inj hj).symm, .inl ⟨rfl, rfl⟩⟩
                | 1, hj => exact ⟨0, (Option.some.inj hj).symm, .inr ⟨rfl, rfl⟩⟩
              subst hx
              have HF := half_new (ce := ce) G G14 EO' mab
              have L' := els_low HF.els
              have fl : (g ++ [(⟨es', txt m, ce⟩ : Kind)]).length = i + 1 := by rw [List.length_append, gl]; rfl
              have small := lm_small L' (kd_few (few_new (m := m) (ce := ce) G EO')) (k := (i : Int)) (by omega) (by omega)
              have pk : PartOk (g ++ [(⟨es', txt m, ce⟩ : Kind)]) [(i : Int)] := HF.part (by omega) (by rw [fl]; omega) small (root_in _ _)
              obtain ⟨xl, hl, al⟩ := fc10.lst
              have dl : D H10 (.ref l) (famD false (g ++ [(⟨es', txt m, ce⟩ : Kind)])) := .lst hl al
              have tlen : ED (tCB (fun xs H Q => ∃ x n, xs = [x] ∧ LenV K x H n ∧ Q (.int n) H) (tCons (tCall (spL (R_lmet NN)) [] E0 (tCons (tVar 2) (tCons (tTup (tCons (tVar 4) tNil)) tNil))) tNil)) [some (.ref a), some (.int most), some (.ref l), some (.int often), some (.int (i : Int)), y5c, y6c, y7c, some (.str (txt m)), y9c, some (.int kp), y11c] H10 (.int (((lm NN (g ++ [(⟨es', txt m, ce⟩ : Kind)]) [(i : Int)]).length : Nat) : Int)) :=
                ed_is (ed_lenL (EL.ed (el_call' (eas2 (ed_var (i := 2) rfl dl) (ed_tup (ds := [.int (i : Int)]) (eas1 (ed_var (i := 4) rfl (.int _))) (by show 1 ≤ 100000; decide))) (lmet_ok HF pk)))) (by rw [List.length_map])
              refine sd_if (b := decide (16 < (((lm NN (g ++ [(⟨es', txt m, ce⟩ : Kind)]) [(i : Int)]).length : Nat) : Int))) (et_D (ed_I0 tlen (ed_ci 16) fun H => .bl _)) (fun hb H11 e11 => ?_) (fun hb H11 e11 => ?_)
              · have fc11 := fc10.ex e11
                obtain ⟨xl1, hl1, al1⟩ := fc11.lst
                have dl1 : D H11 (.ref l) (.list ((g ++ [(⟨es', txt m, ce⟩ : Kind)]).map encK)) := .lst hl1 al1
                have lastK : atI ((g ++ [(⟨es', txt m, ce⟩ : Kind)]).map encK) (-1) = some (encK ⟨es', txt m, ce⟩) := by rw [List.map_append]; exact atI_last _ _
                have neg1 : ∀ {σ : L2.St} {H : Hp}, ED (tUn (rU fun i => .int (-i)) (tC (.int 1))) σ H (.int (-1)) := fun {σ H} H2 e Q q => ⟨1, rfl, q _ H2 (Ex.refl _) (.int _)⟩
                have tk : ∀ {σ : L2.St}, σ[2]? = some (some (.ref l)) → ED (tOp (rIxL K) (tVar 2) (tUn (rU fun i => .int (-i)) (tC (.int 1)))) σ H11 (encK ⟨es', txt m, ce⟩) := fun {σ} h => ed_ixL (ed_var h dl1) neg1 lastK
                have val : ED (tOp (rCatA K) (tTup (tCons (tSl (rSlA K) (tOp (rIxT K) (tOp (rIxL K) (tVar 2) (tUn (rU fun i => .int (-i)) (tC (.int 1)))) (tC (.int 0))) tNoPart (tPart (tVar 10))) tNil)) (tSl (rSlA K) (tOp (rIxL K) (tVar 2) (tUn (rU fun i => .int (-i)) (tC (.int 1)))) (tPart (tC (.int 1))) tNoPart))
                    [some (.ref a), some (.int most), some (.ref l), some (.int often), some (.int (i : Int)), y5c, y6c, y7c, some (.str (txt m)), y9c, some (.int kp), y11c] H11 (encK ⟨es'.take kp.toNat, txt m, ce⟩) := by
                  refine ed_is (ed_catT (ds := [.tuple ((es'.map encE).take kp.toNat)]) (es := [.str (txt m), .int ce]) (ed_tup (eas1 (ed_slTake (ed_ixT (tk rfl) (ed_ci 0) rfl) (ed_var (i := 10) rfl (.int kp)) (by omega))) (by show 1 ≤ 100000; decide)) (ed_slDrop (tk rfl)) (by show 3 ≤ 100000; decide)) ?_
                  rw [← List.map_take]
                  rfl
                refine val H11 (Ex.refl _) _ fun v H12 e12 hv => ?_
                have fc12 := fc11.ex e12
                have hl12 := e12 _ _ hl1
                have al12 := al1.mono e12
                have xn : xl1.length = g.length + 1 := by rw [al1.len, List.length_map, List.length_append]; rfl
                refine ⟨.ref l, rfl, 1, rfl, l, xl1, -1, g.length, rfl, rfl, hl12, ?_, ?_⟩
                · unfold ixN
                  rw [if_neg (by decide), if_pos (by omega)]
                  congr 1
                  omega
                · have fcF : FC a b l H (upd H12 l (.lst (xl1.set g.length v))) (g ++ [⟨es'.take kp.toNat, txt m, ce⟩]) := fc12.own nl l_a l_b (by
                    rw [← set_last g ⟨es', txt m, ce⟩]
                    have tu := tu_upd (ys := xl1.set g.length v) hl12
                    exact DA.set (D.keep tu (flat_K _) hv) g.length (al12.keep tu (flat_Ks _)))
                  refine ⟨_, _, _, _, _, _, es'.take kp.toNat, rfl, EO'.take _, fcF, by rw [upd_ne l4l]; exact e12 _ _ (e11 _ _ h4), fun j2 => ?_⟩
                  have kp0 : kp = 0 := by omega
                  subst kp0
                  have ek : (kd (g ++ [(⟨es'.take (0 : Int).toNat, txt m, ce⟩ : Kind)]) (lastP [(i : Int)])).el = [] := by
                    rw [lastP_one, ← gl, kd_new]; rfl
                  have el : lm NN (g ++ [(⟨es'.take (0 : Int).toNat, txt m, ce⟩ : Kind)]) [(i : Int)] = [[(i : Int)]] := by
                    show (kids _ _).foldl _ _ = _
                    unfold kids
                    rw [ek]; rfl
                  rw [el]
                  show 1 ≤ 16
                  decide
              · have le := of_decide_eq_false hb
                exact ⟨_, _, _, _, _, _, es', rfl, EO', fc10.ex e11, e11 _ _ h4, fun _ => by omega⟩
            · obtain ⟨y5c, y6c, y7c, y9c, y10c, y11c, es', es10, EO', fc10, h4, fin⟩ := p
              exact ⟨_, _, _, _, _, _, es', es10, EO', fc10, fin rfl⟩
          · rintro σ H10 ⟨y5c, y6c, y7c, y9c, y10c, y11c, es', es10, EO', fc10, fin⟩
            subst es10
            subst gl
            have HF := half_new (ce := ce) G G14 EO' mab
            have L' := els_low HF.els
            generalize hF : g ++ [(⟨es', txt m, ce⟩ : Kind)] = F at HF L' fc10 fin
            have fl : F.length = g.length + 1 := by rw [← hF, List.length_append]; rfl
            obtain ⟨xl, hl, al⟩ := fc10.lst
            have dl : D H10 (.ref l) (famD false F) := .lst hl al
            refine sl_asg (ds := ((torn F (g.length : Nat)).map Froz.sing).map PyData.str) ?_ fun p xs11 H11 np e11 hp ha => ?_
            · refine el_is (el_lcL (as := known F (lm NN F [((g.length : Nat) : Int)])) (enc := fun c => .str (Froz.sing c)) (fun c => (ldoer NN F (doing F c (lm NN F [((g.length : Nat) : Int)]))).isNone) (fun c => .str (Froz.sing c))
                (ed_is (EL.ed (el_call' (eas2 (ed_var (i := 2) rfl dl) (ed_var (i := 4) rfl (.int _))) ⟨F, false, _, rfl, HF, by omega, by rw [fl]; omega, by omega, rfl⟩)) (by rw [List.map_map]; rfl)) (Nat.le_trans (List.length_filter_le _ _) (by decide)) (fun _ _ _ => rfl) (fun _ _ => rfl) fun c hc z H11 e11 hz => ?_) (by unfold torn; rw [List.map_map]; rfl)
              refine ⟨[some (.ref a), some (.int most), some (.ref l), some (.int often), some (.int ((g.length : Nat) : Int)), y5c, y6c, y7c, some (.str (txt m)), some z, y10c, y11c], rfl, fun _ _ R h => h, ?_, fun _ => ed_var (i := 9) rfl hz⟩
              refine et_D (ed_isN (d := optP (ldoer NN F (doing F c (lm NN F [((g.length : Nat) : Int)])))) (ed_call (eas_cons (ed_var (i := 2) rfl (dl.mono e11)) (eas2 (ed_var (i := 4) rfl (.int _)) (ed_var (i := 9) rfl hz))) ⟨F, false, _, c, rfl, HF, by omega, by rw [fl]; omega, by omega, rfl⟩) ?_)
              exact isND_optP _
            · dsimp only
              have fc11 := fc10.ex e11
              have hl11 := e11 _ _ hl
              have al11 := al.mono e11
              have dl1 : D H11 (.ref l) (.list (F.map encK)) := .lst hl11 al11
              have lastK : atI (F.map encK) (-1) = some (encK ⟨es', txt m, ce⟩) := by rw [← hF, List.map_append]; exact atI_last _ _
              have neg1 : ∀ {σ : L2.St} {H : Hp}, ED (tUn (rU fun i => .int (-i)) (tC (.int 1))) σ H (.int (-1)) := fun {σ H} H2 e Q q => ⟨1, rfl, q _ H2 (Ex.refl _) (.int _)⟩
              have tk : ∀ {σ : L2.St}, σ[2]? = some (some (.ref l)) → ED (tOp (rIxL K) (tVar 2) (tUn (rU fun i => .int (-i)) (tC (.int 1)))) σ H11 (encK ⟨es', txt m, ce⟩) := fun {σ} h => ed_ixL (ed_var h dl1) neg1 lastK
              have dt : D H11 (.ref p) (.list (((torn F (g.length : Nat)).map Froz.sing).map PyData.str)) := .lst hp ha
              have tlen : (torn F (g.length : Nat)).length ≤ 6 := by
                unfold torn known
                exact Nat.le_trans (List.length_filter_le _ _) (Nat.le_trans (List.length_filter_le _ _) (by decide))
              have snd : (m ++ torn F (g.length : Nat)).Nodup := List.nodup_append.mpr ⟨mnd, torn_nodup _ _, fun x hx y hy e => by
                subst e
                rw [← hF] at hy
                exact torn_other (k := ⟨es', txt m, ce⟩) (hF ▸ L') hx hy⟩
              have sab : ∀ c ∈ m ++ torn F (g.length : Nat), c ∈ abc := fun c hc => by
                rcases List.mem_append.mp hc with h | h
                · exact mab c h
                · exact torn_abc h
              refine sd_st (d := encK ⟨es', txt (abc.filter fun c => decide (c ∈ m ++ torn F (g.length : Nat))), ce⟩) ?_ fun v H12 e12 hv => ?_
              · refine ed_tup (ds := [.tuple (es'.map encE), .str (txt (abc.filter fun c => decide (c ∈ m ++ torn F (g.length : Nat)))), .int ce]) (eas_cons (ed_ixT (tk rfl) (ed_ci 0) rfl) (eas2 ?_ (ed_ixT (tk rfl) (ed_ci 2) rfl))) (by show 3 ≤ 100000; decide)
                exact ed_sortset (ed_addS (ed_var (i := 8) rfl (.str (txt m))) (ed_join (by omega) (ed_var (i := 11) rfl dt)) (by omega)) snd sab (by rw [List.length_append]; omega)
              have fc12 := fc11.ex e12
              have hl12 := e12 _ _ hl11
              have al12 := al11.mono e12
              have xn : xl.length = g.length + 1 := by rw [al.len, List.length_map, fl]
              refine ⟨.ref l, rfl, 1, rfl, l, xl, -1, g.length, rfl, rfl, hl12, ?_, ?_⟩
              · unfold ixN
                rw [if_neg (by decide), if_pos (by omega)]
                congr 1
                omega
              · have fcF : FC a b l H (upd H12 l (.lst (xl.set g.length v))) (g ++ [⟨es', txt (abc.filter fun c => decide (c ∈ m ++ torn F (g.length : Nat))), ce⟩]) := fc12.own nl l_a l_b (by
                  rw [← set_last g ⟨es', txt m, ce⟩, hF]
                  have tu := tu_upd (ys := xl.set g.length v) hl12
                  exact DA.set (D.keep tu (flat_K _) hv) g.length (al12.keep tu (flat_Ks _)))
                refine ⟨⟨_, _, _, _, _, _, _, _, rfl⟩, _, by rw [List.length_append]; rfl, ?_, fcF⟩
                refine sound_torn (k := ⟨es', txt m, ce⟩) G G14 EO'.few EO'.low EO'.once mab ⟨c0, c3⟩ (by rw [hF]; exact fin) (rise_filter _) fun c => ?_
                rw [hF, List.mem_filter]
                constructor
                · rintro ⟨_, h⟩
                  exact List.mem_append.mp (of_decide_eq_true h)
                · intro h
                  exact ⟨sab c (List.mem_append.mpr h), decide_eq_true (List.mem_append.mpr h)⟩
  · subst es
    have gl' : (g.length : Int) = 1 + r3 := by omega
    obtain ⟨xs, hl, ax⟩ := fc.lst
    refine ⟨.ref l, rfl, l, xs, rfl, .inl ⟨SqL.of hl, fun T nT => ?_⟩⟩
    exact q g (.ref T) _ (fc.off.trans (Off.ex (Ex.new nT))) (fc.hs.ex (Ex.new nT)) G (by omega) (by omega) (.tup upd_same (ax.mono (Ex.new nT)))
end
end KS
end
noncomputable section
namespace KS
open PySem PySem.Spec PyProof.Rows L2 Evl
open RZ (tLenSetI pe_lenSetI)
theorem okD_P {n : Nat} {p : Part} (h : p.length ≤ 40000) : okD (n + 2) (encP p) := by
  refine ⟨by rw [List.length_map]; exact h, fun d hd => ?_⟩
  obtain ⟨x, _, e⟩ := List.mem_map.mp hd
  subst e
  exact trivial
theorem okD_Ps {n : Nat} {l : List Part} (h : l.length ≤ 40000) (hp : ∀ p ∈ l, p.length ≤ 40000) : okD (n + 3) (.list (l.map encP)) := by
  refine ⟨by rw [List.length_map]; exact h, fun d hd => ?_⟩
  obtain ⟨x, hx, e⟩ := List.mem_map.mp hd
  subst e
  exact okD_P (hp x hx)
theorem Valid.half {f : Fam} (V : Valid f) : Half f := ⟨V.kinds.els, V.2.2.1, fun k hk c hc => by
  obtain ⟨j, hj⟩ := List.getElem?_of_mem hk
  exact rise_abc (V.kinds j k hj).rise hc⟩
theorem Valid.few {f : Fam} (V : Valid f) {k : Int} (h0 : 0 ≤ k) (h1 : k < f.length) : (lm NN f [k]).length ≤ 16 := by
  have := (V.2.2.2.2 k.toNat (by omega)).1
  have e : ((k.toNat : Nat) : Int) = k := by omega
  rwa [e] at this
theorem Valid.okPs {f : Fam} (V : Valid f) {k : Int} (h0 : 0 ≤ k) (h1 : k < f.length) {p : Part} (hp : p ∈ lm NN f [k]) {n : Nat} : okD (n + 3) (.list ((lm NN f p).map encP)) := by
  have L := kinds_low V.kinds
  have sub : ∀ y ∈ lm NN f p, y ∈ lm NN f [k] := fun y hy => lm_trans L NN (by show lastP [k] < (16 : Int); rw [lastP_one]; have := V.2.1; omega) hp hy
  have h := nodup_len (lm_nodup NN f p) sub
  have h2 := V.few h0 h1
  exact okD_Ps (by omega) fun y hy => by have := (V.parts h0 h1 (sub y hy)).2.2.2.1; omega
end KS
end
namespace KS
open PySem
/-! ### slots: the mathematics -/
/-- the plain elders of a kind, in their order -/
def plain (f : Fam) (k : Int) : List Int := ((kd f k).el.filter fun e => decide (e.2 = 0)).map (·.1)
def cells (f : Fam) (k : Int) : Nat := (kd f k).ce.toNat
def bodyF : Nat → Fam → Int → Nat
  | 0, _, _ => 0
  | n + 1, f, k => (if plain f k = [] then 1 else ((plain f k).map (bodyF n f)).sum) + cells f k
abbrev Slot := Part × Option Nat
def lbody : Nat → Fam → Part → List Slot
  | 0, _, _ => []
  | n + 1, f, p => (if plain f (lastP p) = [] then [(p, none)] else (plain f (lastP p)).flatMap fun e => lbody n f (p ++ [e])) ++ (List.range (cells f (lastP p))).map fun j => (p, some j)
theorem lastP_snoc (p : Part) (e : Int) : lastP (p ++ [e]) = e := by
  unfold lastP
  rw [List.getLastD_eq_getLast?, List.getLast?_append]; rfl
theorem mem_plain {f : Fam} {k e : Int} : e ∈ plain f k ↔ (e, 0) ∈ (kd f k).el := by
  unfold plain
  rw [List.mem_map]
  constructor
  · rintro ⟨⟨a, b⟩, h, rfl⟩
    obtain ⟨h1, h2⟩ := List.mem_filter.mp h
    have : b = 0 := of_decide_eq_true h2
    subst this
    exact h1
  · intro h
    exact ⟨(e, 0), List.mem_filter.mpr ⟨h, rfl⟩, rfl⟩
theorem plain_low {f : Fam} (L : Low f) {k e : Int} (h : e ∈ plain f k) : 0 ≤ e ∧ e < k := L k _ (mem_plain.mp h)
theorem lbody_ne {f : Fam} (L : Low f) : ∀ {n : Nat} {p : Part}, lastP p < n → 0 ≤ lastP p → lbody n f p ≠ []
  | 0, p, h, h0 => by have : ((0 : Nat) : Int) = 0 := rfl; omega
  | n + 1, p, h, h0 => by
    unfold lbody
    split
    · simp
    · rename_i hp
      cases e : plain f (lastP p) with
      | nil => exact absurd e hp
      | cons a r =>
        have ha := plain_low L (f := f) (k := lastP p) (e := a) (by rw [e]; exact List.mem_cons_self)
        have i := lbody_ne L (n := n) (p := p ++ [a]) (by rw [lastP_snoc]; omega) (by rw [lastP_snoc]; omega)
        rw [List.flatMap_cons]
        intro z
        have z := (List.append_eq_nil_iff.mp z).1
        exact i (List.append_eq_nil_iff.mp z).1
theorem bodyF_fuel {f : Fam} (L : Low f) : ∀ (n m : Nat) (k : Int), 0 ≤ k → k < n → k < m → bodyF n f k = bodyF m f k
  | 0, _, k, h0, h, _ => by have : ((0 : Nat) : Int) = 0 := rfl; omega
  | _ + 1, 0, k, h0, _, h => by have : ((0 : Nat) : Int) = 0 := rfl; omega
  | n + 1, m + 1, k, h0, h1, h2 => by
    unfold bodyF
    have e : (plain f k).map (bodyF n f) = (plain f k).map (bodyF m f) := List.map_congr_left fun a ha => by
      have := plain_low L ha
      exact bodyF_fuel L n m a this.1 (by omega) (by omega)
    rw [e]
theorem lbody_len {f : Fam} : ∀ (n : Nat) (p : Part), (lbody n f p).length = bodyF n f (lastP p)
  | 0, p => rfl
  | n + 1, p => by
    unfold lbody bodyF
    rw [List.length_append, List.length_map, List.length_range]
    congr 1
    split
    · rfl
    · rw [List.length_flatMap]
      congr 1
      refine List.map_congr_left fun a _ => ?_
      rw [lbody_len n (p ++ [a]), lastP_snoc]
/-- the slot's part begins as p does -/
def Pre (p : Part) (s : Slot) : Prop := s.1.take p.length = p
theorem Pre.up {p : Part} {e : Int} {s : Slot} (h : Pre (p ++ [e]) s) : Pre p s := by
  unfold Pre at *
  rw [List.length_append, List.length_singleton] at h
  have := congrArg (List.take p.length) h
  rw [List.take_take, List.take_append_of_le_length (Nat.le_refl _), List.take_length, Nat.min_eq_left (Nat.le_succ _)] at this
  exact this
theorem Pre.self (p : Part) (o : Option Nat) : Pre p (p, o) := List.take_length
theorem Pre.other {p : Part} {a e : Int} {s : Slot} (h : Pre (p ++ [a]) s) (h2 : Pre (p ++ [e]) s) : a = e := by
  unfold Pre at *
  rw [List.length_append, List.length_singleton] at h h2
  have := h.symm.trans h2
  exact (List.cons.inj (List.append_cancel_left this)).1
theorem lbody_pre {f : Fam} : ∀ (n : Nat) (p : Part) (s : Slot), s ∈ lbody n f p → Pre p s
  | 0, p, s, h => by cases h
  | n + 1, p, s, h => by
    unfold lbody at h
    rcases List.mem_append.mp h with h | h
    · split at h
      · rw [List.mem_singleton] at h
        subst h
        exact Pre.self p none
      · obtain ⟨e, _, h⟩ := List.mem_flatMap.mp h
        exact (lbody_pre n _ s h).up
    · obtain ⟨j, _, rfl⟩ := List.mem_map.mp h
      exact Pre.self p (some j)
/-- where p's slots lie among all -/
def Block (f : Fam) (sl : List Slot) (p : Part) (o : Nat) : Prop :=
  ∃ u v m, lastP p < ((m : Nat) : Int) ∧ sl = u ++ lbody m f p ++ v ∧ u.length = o ∧ (∀ s ∈ u, ¬ Pre p s) ∧ ∀ s ∈ v, ¬ Pre p s
/-- how far e's part begins behind its holder's -/
def stepF (f : Fam) (k e : Int) : Nat := (((plain f k).take ((plain f k).idxOf e)).map (bodyF NN f)).sum
theorem Block.child {f : Fam} (L : Low f) {sl : List Slot} {p : Part} {o : Nat} {e : Int} (h0 : 0 ≤ lastP p) (hN : lastP p ≤ NN) (nd : (plain f (lastP p)).Nodup) (he : e ∈ plain f (lastP p)) (B : Block f sl p o) : Block f sl (p ++ [e]) (o + stepF f (lastP p) e) := by
  obtain ⟨u, v, m, hm, es, eo, hu, hv⟩ := B
  cases m with
  | zero => have : ((0 : Nat) : Int) = 0 := rfl; omega
  | succ m =>
    have hi : (plain f (lastP p)).idxOf e < (plain f (lastP p)).length := List.idxOf_lt_length_iff.mpr he
    have split : plain f (lastP p) = (plain f (lastP p)).take ((plain f (lastP p)).idxOf e) ++ e :: (plain f (lastP p)).drop ((plain f (lastP p)).idxOf e + 1) := by
      have d := List.drop_eq_getElem_cons hi
      rw [List.getElem_idxOf hi] at d
      rw [← d, List.take_append_drop]
    have sl' := plain_low L he
    unfold stepF
    generalize eA : (plain f (lastP p)).take ((plain f (lastP p)).idxOf e) = A at split ⊢
    generalize (plain f (lastP p)).drop ((plain f (lastP p)).idxOf e + 1) = C at split
    have nd' := nd
    rw [split] at nd'
    obtain ⟨_, ndC, ndX⟩ := List.nodup_append.mp nd'
    have nA : ∀ a ∈ A, a ≠ e := fun a ha => ndX a ha e List.mem_cons_self
    have nC : ∀ a ∈ C, a ≠ e := fun a ha z => (List.nodup_cons.mp ndC).1 (z ▸ ha)
    have lA : ∀ a ∈ A, 0 ≤ a ∧ a < lastP p := fun a ha => plain_low L (by rw [split]; exact List.mem_append_left _ ha)
    have eb : lbody (m + 1) f p = (A.flatMap fun e => lbody m f (p ++ [e])) ++ (lbody m f (p ++ [e]) ++ ((C.flatMap fun e => lbody m f (p ++ [e])) ++ (List.range (cells f (lastP p))).map fun j => (p, some j))) := by
      conv => lhs; unfold lbody
      rw [if_neg (by intro z; rw [z] at he; cases he)]
      conv => lhs; rw [split]
      rw [List.flatMap_append, List.flatMap_cons]
      simp only [List.append_assoc]
    have lenA : (A.flatMap fun e => lbody m f (p ++ [e])).length = (A.map (bodyF NN f)).sum := by
      rw [List.length_flatMap]
      congr 1
      refine List.map_congr_left fun a ha => ?_
      rw [lbody_len, lastP_snoc]
      have := lA a ha
      exact bodyF_fuel L m NN a this.1 (by omega) (by show a < (16 : Int); have : ((NN : Nat) : Int) = 16 := rfl; omega)
    refine ⟨u ++ A.flatMap fun e => lbody m f (p ++ [e]), ((C.flatMap fun e => lbody m f (p ++ [e])) ++ (List.range (cells f (lastP p))).map fun j => (p, some j)) ++ v, m, by rw [lastP_snoc]; omega, ?_, ?_, ?_, ?_⟩
    · rw [es, eb]
      simp only [List.append_assoc]
    · rw [List.length_append, lenA, eo]
    · intro s hs hp
      rcases List.mem_append.mp hs with hs | hs
      · exact hu s hs hp.up
      · obtain ⟨a, ha, hs⟩ := List.mem_flatMap.mp hs
        exact nA a ha ((lbody_pre m _ s hs).other hp)
    · intro s hs hp
      rcases List.mem_append.mp hs with hs | hs
      · rcases List.mem_append.mp hs with hs | hs
        · obtain ⟨a, ha, hs⟩ := List.mem_flatMap.mp hs
          exact nC a ha ((lbody_pre m _ s hs).other hp)
        · obtain ⟨j, _, rfl⟩ := List.mem_map.mp hs
          have := congrArg List.length hp
          unfold Pre at hp
          rw [List.take_of_length_le (by simp)] at hp
          have := congrArg List.length hp
          simp at this
      · exact hv s hs hp.up
/-! indexes of the slots that are of one sort -/
def idx (q : Slot → Bool) : Nat → List Slot → List Nat
  | _, [] => []
  | o, s :: r => if q s = true then o :: idx q (o + 1) r else idx q (o + 1) r
theorem idx_append (q : Slot → Bool) : ∀ (a b : List Slot) (o : Nat), idx q o (a ++ b) = idx q o a ++ idx q (o + a.length) b
  | [], b, o => rfl
  | s :: a, b, o => by
    have i := idx_append q a b (o + 1)
    have e : o + 1 + a.length = o + (s :: a).length := by rw [List.length_cons]; omega
    rw [e] at i
    show (if q s = true then o :: idx q (o + 1) (a ++ b) else idx q (o + 1) (a ++ b)) = (if q s = true then o :: idx q (o + 1) a else idx q (o + 1) a) ++ _
    rw [i]
    split <;> rfl
theorem idx_none (q : Slot → Bool) : ∀ (a : List Slot) (o : Nat), (∀ s ∈ a, q s = false) → idx q o a = []
  | [], _, _ => rfl
  | s :: a, o, h => by
    show (if q s = true then o :: idx q (o + 1) a else idx q (o + 1) a) = []
    rw [if_neg (by rw [h s List.mem_cons_self]; exact Bool.false_ne_true), idx_none q a (o + 1) fun t ht => h t (List.mem_cons_of_mem _ ht)]
theorem idx_all (q : Slot → Bool) : ∀ (a : List Slot) (o : Nat), (∀ s ∈ a, q s = true) → idx q o a = List.range' o a.length
  | [], _, _ => rfl
  | s :: a, o, h => by
    show (if q s = true then o :: idx q (o + 1) a else idx q (o + 1) a) = _
    rw [if_pos (h s List.mem_cons_self), idx_all q a (o + 1) fun t ht => h t (List.mem_cons_of_mem _ ht), List.length_cons, List.range'_succ]
theorem idx_filter (q : Slot → Bool) : ∀ (a : List Slot) (o : Nat) (g : Nat → Bool), (∀ i s, a[i]? = some s → g (o + i) = q s) → (List.range' o a.length).filter g = idx q o a
  | [], _, _, _ => rfl
  | s :: a, o, g, h => by
    have h0 : g o = q s := h 0 s rfl
    have i := idx_filter q a (o + 1) g fun j t ht => by
      have := h (j + 1) t ht
      rwa [show o + (j + 1) = o + 1 + j by omega] at this
    rw [List.length_cons, List.range'_succ, List.filter_cons, h0, i]
    rfl
theorem mem_idx (q : Slot → Bool) : ∀ (a : List Slot) (o i : Nat), i ∈ idx q o a ↔ ∃ j s, a[j]? = some s ∧ i = o + j ∧ q s = true
  | [], o, i => by
    constructor
    · intro h; cases h
    · rintro ⟨j, s, h, _⟩; simp at h
  | s :: a, o, i => by
    have ih := mem_idx q a (o + 1) i
    have e : (∃ j t, (s :: a)[j]? = some t ∧ i = o + j ∧ q t = true) ↔ (i = o ∧ q s = true) ∨ ∃ j t, a[j]? = some t ∧ i = o + 1 + j ∧ q t = true := by
      constructor
      · rintro ⟨j, t, h1, h2, h3⟩
        cases j with
        | zero =>
          have : s = t := Option.some.inj h1
          subst this
          exact .inl ⟨h2, h3⟩
        | succ j => exact .inr ⟨j, t, h1, by omega, h3⟩
      · rintro (⟨h1, h2⟩ | ⟨j, t, h1, h2, h3⟩)
        · exact ⟨0, s, rfl, h1, h2⟩
        · exact ⟨j + 1, t, h1, by omega, h3⟩
    rw [e, ← ih]
    show i ∈ (if q s = true then o :: idx q (o + 1) a else idx q (o + 1) a) ↔ _
    split
    · rename_i h
      rw [List.mem_cons]
      constructor
      · rintro (h' | h')
        · exact .inl ⟨h', h⟩
        · exact .inr h'
      · rintro (⟨h', _⟩ | h')
        · exact .inl h'
        · exact .inr h'
    · rename_i h
      constructor
      · exact .inr
      · rintro (⟨_, h'⟩ | h')
        · exact absurd h' h
        · exact h'
theorem idx_nodup (q : Slot → Bool) (a : List Slot) (o : Nat) : (idx q o a).Nodup := by
  have h : ∀ (a : List Slot) (o : Nat), (idx q o a).Sublist (List.range' o a.length) := by
    intro a
    induction a with
    | nil => intro o; exact List.Sublist.slnil
    | cons s a ih =>
      intro o
      show (if q s = true then o :: idx q (o + 1) a else idx q (o + 1) a).Sublist _
      rw [List.length_cons, List.range'_succ]
      split
      · exact (ih (o + 1)).cons₂ _
      · exact (ih (o + 1)).cons _
  exact (h a o).nodup List.nodup_range'
/-- the first slot that begins as p does -/
theorem Block.first {f : Fam} (L : Low f) {sl : List Slot} {p : Part} {o : Nat} (h0 : 0 ≤ lastP p) (B : Block f sl p o) : (∃ s, sl[o]? = some s ∧ Pre p s) ∧ ∀ i s, sl[i]? = some s → Pre p s → o ≤ i := by
  obtain ⟨u, v, m, hm, es, eo, hu, hv⟩ := B
  have ne := lbody_ne L hm h0
  cases eb : lbody m f p with
  | nil => exact absurd eb ne
  | cons s r =>
    rw [eb] at es
    refine ⟨⟨s, ?_, lbody_pre m p s (by rw [eb]; exact List.mem_cons_self)⟩, fun i t hi hp => ?_⟩
    · rw [es, List.append_assoc, List.getElem?_append_right (by omega), eo, Nat.sub_self]
      rfl
    · rcases Nat.lt_or_ge i o with h | h
      · rw [es, List.append_assoc, List.getElem?_append_left (by omega)] at hi
        exact absurd hp (hu t (List.mem_of_getElem? hi))
      · exact h
theorem Block.uniq {f : Fam} (L : Low f) {sl : List Slot} {p : Part} {o o' : Nat} (h0 : 0 ≤ lastP p) (B : Block f sl p o) (B' : Block f sl p o') : o = o' := by
  obtain ⟨⟨s, h1, h2⟩, h3⟩ := B.first L h0
  obtain ⟨⟨s', h1', h2'⟩, h3'⟩ := B'.first L h0
  exact Nat.le_antisymm (h3 _ _ h1' h2') (h3' _ _ h1 h2)
/-- a part's own cells -/
def own (p : Part) (s : Slot) : Bool := decide (s.1 = p) && s.2.isSome
def before (f : Fam) (k : Int) : Nat := if plain f k = [] then 1 else ((plain f k).map (bodyF NN f)).sum
theorem Block.own {f : Fam} (L : Low f) {sl : List Slot} {p : Part} {o : Nat} (h0 : 0 ≤ lastP p) (hN : lastP p ≤ NN) (B : Block f sl p o) : idx (own p) 0 sl = List.range' (o + before f (lastP p)) (cells f (lastP p)) := by
  obtain ⟨u, v, m, hm, es, eo, hu, hv⟩ := B
  cases m with
  | zero => have : ((0 : Nat) : Int) = 0 := rfl; omega
  | succ m =>
    have far : ∀ s : Slot, ¬ Pre p s → KS.own p s = false := fun s hs => by
      unfold KS.own
      rw [Bool.and_eq_false_iff]
      refine .inl (decide_eq_false fun z => hs ?_)
      unfold Pre
      rw [z]
      exact List.take_length
    rw [es]
    unfold lbody
    rw [idx_append, idx_append, idx_append, idx_none _ u 0 (fun s hs => far s (hu s hs)), idx_none _ v _ (fun s hs => far s (hv s hs)), List.append_nil, List.nil_append]
    rw [idx_none _ (if plain f (lastP p) = [] then _ else _), List.nil_append, idx_all, List.length_map, List.length_range]
    · congr 1
      rw [Nat.zero_add, eo]
      congr 1
      unfold before
      split
      · rfl
      · rw [List.length_flatMap]
        congr 1
        refine List.map_congr_left fun a ha => ?_
        rw [lbody_len, lastP_snoc]
        have := plain_low L ha
        exact bodyF_fuel L m NN a this.1 (by omega) (by have : ((NN : Nat) : Int) = 16 := rfl; omega)
    · intro s hs
      obtain ⟨j, _, rfl⟩ := List.mem_map.mp hs
      unfold KS.own
      simp
    · intro s hs
      split at hs
      · rw [List.mem_singleton] at hs
        subst hs
        unfold KS.own
        simp
      · obtain ⟨e, _, hs⟩ := List.mem_flatMap.mp hs
        have hp := lbody_pre m _ s hs
        unfold KS.own
        rw [Bool.and_eq_false_iff]
        refine .inl (decide_eq_false fun z => ?_)
        unfold Pre at hp
        rw [z, List.take_of_length_le (by simp)] at hp
        have := congrArg List.length hp
        simp at this
end KS
namespace KS
open PySem
/-! ### the order in which parts are met; the slots of a thing -/
/-- a part is the root, a shared one, or a plain elder of one met before -/
def Met (f : Fam) (p0 : Part) (l : List Part) : Prop := ∀ (i : Nat) (y : Part), l[i]? = some y → y = p0 ∨ y.length = 1 ∨ ∃ (q : Part) (e : Int), y = q ++ [e] ∧ q ∈ l.take i ∧ q ≠ [] ∧ e ∈ plain f (lastP q)
theorem met_snoc {f : Fam} {p0 y : Part} {a : List Part} (h : Met f p0 a) (hy : y = p0 ∨ y.length = 1 ∨ ∃ (q : Part) (e : Int), y = q ++ [e] ∧ q ∈ a ∧ q ≠ [] ∧ e ∈ plain f (lastP q)) : Met f p0 (a ++ [y]) := by
  intro i z hz
  rcases Nat.lt_or_ge i a.length with lt | ge
  · rw [List.getElem?_append_left lt] at hz
    rw [List.take_append_of_le_length (Nat.le_of_lt lt)]
    exact h i z hz
  · rw [List.getElem?_append_right ge] at hz
    have e : i - a.length = 0 := by
      cases k : i - a.length with
      | zero => rfl
      | succ k' => rw [k] at hz; simp at hz
    rw [e] at hz
    have : y = z := Option.some.inj hz
    subst this
    have e2 : i = a.length := by omega
    subst e2
    rw [List.take_append_of_le_length (Nat.le_refl _), List.take_length]
    exact hy
theorem met_dd {f : Fam} {p0 c : Part} {e0 : Int × Int} (hc : c = ep p0 e0) (he : e0 ∈ (kd f (lastP p0)).el) (hp0 : p0 ≠ []) :
    ∀ (l2 l1 a : List Part), Met f c (l1 ++ l2) → (∀ y ∈ l1, y ∈ a) → p0 ∈ a → Met f p0 a → Met f p0 (dd a l2)
  | [], _, a, _, _, _, h => h
  | x :: l2, l1, a, hm, hs, hp, h => by
    have hx : x = c ∨ x.length = 1 ∨ ∃ (q : Part) (e : Int), x = q ++ [e] ∧ q ∈ l1 ∧ q ≠ [] ∧ e ∈ plain f (lastP q) := by
      have := hm l1.length x (by rw [List.getElem?_append_right (Nat.le_refl _), Nat.sub_self]; rfl)
      rw [List.take_append_of_le_length (Nat.le_refl _), List.take_length] at this
      exact this
    have hm' : Met f c ((l1 ++ [x]) ++ l2) := by rw [List.append_assoc]; exact hm
    show Met f p0 (dd (ins a x) l2)
    refine met_dd hc he hp0 l2 (l1 ++ [x]) (ins a x) hm' (fun y hy => ?_) (mem_ins.mpr (.inl hp)) ?_
    · rcases List.mem_append.mp hy with hy | hy
      · exact mem_ins.mpr (.inl (hs y hy))
      · rw [List.mem_singleton] at hy
        exact mem_ins.mpr (.inr hy)
    · unfold ins
      split
      · exact h
      · refine met_snoc h ?_
        rcases hx with hx | hx | ⟨q, e, h1, h2, h3, h4⟩
        · rw [hx, hc]
          unfold ep
          split
          · rename_i hz
            refine .inr (.inr ⟨p0, e0.1, rfl, hp, hp0, mem_plain.mpr ?_⟩)
            have : (e0.1, (0 : Int)) = e0 := by rw [← hz]
            rw [this]
            exact he
          · exact .inr (.inl rfl)
        · exact .inr (.inl hx)
        · exact .inr (.inr ⟨q, e, h1, hs q h2, h3, h4⟩)
theorem met_lm {f : Fam} : ∀ (n : Nat) (p : Part), p ≠ [] → Met f p (lm n f p)
  | 0, p, hp => fun i y hy => by
    cases i with
    | zero => exact .inl (Option.some.inj hy).symm
    | succ i => simp [lm] at hy
  | n + 1, p, hp => by
    have base : Met f p [p] := fun i y hy => by
      cases i with
      | zero => exact .inl (Option.some.inj hy).symm
      | succ i => simp at hy
    have go : ∀ (cs : List Part) (a : List Part), (∀ c ∈ cs, c ∈ kids f p) → p ∈ a → Met f p a → Met f p (cs.foldl (fun a c => dd a (lm n f c)) a) := by
      intro cs
      induction cs with
      | nil => intro a _ _ h; exact h
      | cons c cs ih =>
        intro a hcs hp' h
        obtain ⟨e, he, hc⟩ := mem_kids.mp (hcs c List.mem_cons_self)
        refine ih _ (fun d hd => hcs d (List.mem_cons_of_mem _ hd)) (mem_dd.mpr (.inl hp')) ?_
        exact met_dd hc he hp (lm n f c) [] a (met_lm n c (by rw [hc]; exact ep_ne p e)) (fun y hy => by cases hy) hp' h
    exact go (kids f p) [p] (fun c h => h) (List.mem_singleton.mpr rfl) base
/-- all slots of things of kind k -/
def rootB (p : Part) : Bool := decide (p.length = 1)
def rootsOf (l : List Part) : List Part := l.filter rootB
def slots (f : Fam) (k : Int) : List Slot := (rootsOf (lm NN f [k])).flatMap (lbody NN f)
def sizeF (f : Fam) (l : List Part) : Nat := ((rootsOf l).map fun p => bodyF NN f (lastP p)).sum
theorem slots_len (f : Fam) (k : Int) : (slots f k).length = sizeF f (lm NN f [k]) := by
  unfold slots sizeF
  rw [List.length_flatMap]
  congr 1
  exact List.map_congr_left fun p _ => lbody_len NN p
theorem one_of {p : Part} (h : p.length = 1) : p = [lastP p] := by
  match p, h with
  | [x], _ => rfl
theorem block_root {f : Fam} {k : Int} {A C : List Part} {r : Part} (hl : lm NN f [k] = A ++ r :: C) (h1 : r.length = 1) (hN : lastP r < ((NN : Nat) : Int)) : Block f (slots f k) r (sizeF f A) := by
  have nd := lm_nodup NN f [k]
  rw [hl] at nd
  obtain ⟨_, ndC, ndX⟩ := List.nodup_append.mp nd
  have nA : ∀ a ∈ A, a ≠ r := fun a ha => ndX a ha r List.mem_cons_self
  have nC : ∀ a ∈ C, a ≠ r := fun a ha z => (List.nodup_cons.mp ndC).1 (z ▸ ha)
  have far : ∀ (X : List Part), (∀ a ∈ X, a ≠ r) → ∀ s ∈ (rootsOf X).flatMap (lbody NN f), ¬ Pre r s := fun X hX s hs hp => by
    obtain ⟨a, ha, hs⟩ := List.mem_flatMap.mp hs
    obtain ⟨ha, hr⟩ := List.mem_filter.mp ha
    have h2 : a.length = 1 := of_decide_eq_true hr
    have hp2 := lbody_pre NN a s hs
    unfold Pre at hp hp2
    rw [h1] at hp
    rw [h2] at hp2
    exact hX a ha (hp2.symm.trans hp)
  refine ⟨(rootsOf A).flatMap (lbody NN f), (rootsOf C).flatMap (lbody NN f), NN, hN, ?_, ?_, far A nA, far C nC⟩
  · unfold slots rootsOf
    rw [hl, List.filter_append, List.filter_cons, if_pos (by unfold rootB; exact decide_eq_true h1), List.flatMap_append, List.flatMap_cons, List.append_assoc]
  · unfold sizeF
    rw [List.length_flatMap]
    congr 1
    exact List.map_congr_left fun p _ => lbody_len NN p
/-- where the part's slots begin -/
def preB (p : Part) (s : Slot) : Bool := decide (s.1.take p.length = p)
def atF (f : Fam) (k : Int) (p : Part) : Nat := (slots f k).findIdx (preB p)
theorem Block.at {f : Fam} (L : Low f) {k : Int} {p : Part} {o : Nat} (h0 : 0 ≤ lastP p) (B : Block f (slots f k) p o) : atF f k p = o := by
  obtain ⟨⟨s, h1, h2⟩, h3⟩ := B.first L h0
  have hlt : o < (slots f k).length := (List.getElem?_eq_some_iff.mp h1).1
  have e1 : (slots f k)[o] = s := (List.getElem?_eq_some_iff.mp h1).2
  unfold atF
  have lt : (slots f k).findIdx (preB p) < (slots f k).length := List.findIdx_lt_length.mpr ⟨s, List.mem_of_getElem? h1, decide_eq_true h2⟩
  refine Nat.le_antisymm ?_ ?_
  · rcases Nat.lt_or_ge o ((slots f k).findIdx (preB p)) with h | h
    · have := List.not_of_lt_findIdx h
      rw [e1] at this
      have h2' : preB p s = true := decide_eq_true h2
      rw [h2'] at this
      exact absurd this (by decide)
    · exact h
  · refine h3 _ _ (List.getElem?_eq_getElem lt) ?_
    have hh : preB p (slots f k)[(slots f k).findIdx (preB p)] = true := List.findIdx_getElem (w := lt)
    unfold preB at hh
    unfold Pre
    exact of_decide_eq_true hh
/-- the facts of a family that the slots want -/
structure Flat (f : Fam) : Prop where
  low : Low f
  nd : ∀ k, (plain f k).Nodup
theorem part_low {f : Fam} (L : Low f) {k : Int} (k0 : 0 ≤ k) (k16 : k < 16) {p : Part} (h : p ∈ lm NN f [k]) : 0 ≤ lastP p ∧ lastP p < 16 := by
  have := mem_bound L k0 h
  omega
/-- each part has its slots in one row -/
theorem block_all {f : Fam} (F : Flat f) {k : Int} (k0 : 0 ≤ k) (k16 : k < 16) : ∀ (i : Nat) (p : Part), (lm NN f [k])[i]? = some p → Block f (slots f k) p (atF f k p) := by
  intro i
  induction i using Nat.strongRecOn with
  | ind i ih =>
    intro p hp
    have pm := List.mem_of_getElem? hp
    have pl := part_low F.low k0 k16 pm
    have hlt : i < (lm NN f [k]).length := (List.getElem?_eq_some_iff.mp hp).1
    have hpi : (lm NN f [k])[i] = p := (List.getElem?_eq_some_iff.mp hp).2
    by_cases h1 : p.length = 1
    · have hl : lm NN f [k] = (lm NN f [k]).take i ++ p :: (lm NN f [k]).drop (i + 1) := by
        rw [← hpi, ← List.drop_eq_getElem_cons hlt, List.take_append_drop]
      have B := block_root hl h1 (by have : ((NN : Nat) : Int) = 16 := rfl; omega)
      rw [B.at F.low pl.1]
      exact B
    · rcases met_lm NN [k] (by simp) i p hp with h | h | ⟨q, e, rfl, hq, qn, he⟩
      · exact absurd (by rw [h]; rfl) h1
      · exact absurd h h1
      · obtain ⟨j, hj, hqj⟩ := List.mem_take_iff_getElem.mp hq
        have jl : j < (lm NN f [k]).length := by omega
        have B := ih j (by omega) q (by rw [List.getElem?_eq_getElem jl, hqj])
        have ql := part_low F.low k0 k16 (List.mem_of_mem_take hq)
        have B2 := B.child F.low ql.1 (by have : ((NN : Nat) : Int) = 16 := rfl; omega) (F.nd _) he
        rw [B2.at F.low pl.1]
        exact B2
/-- a plain elder's part begins its step behind -/
theorem at_child {f : Fam} (F : Flat f) {k : Int} (k0 : 0 ≤ k) (k16 : k < 16) {q : Part} {e : Int} (hq : q ∈ lm NN f [k]) (he : e ∈ plain f (lastP q)) : atF f k (q ++ [e]) = atF f k q + stepF f (lastP q) e := by
  obtain ⟨i, hi⟩ := List.getElem?_of_mem hq
  have ql := part_low F.low k0 k16 hq
  have B := (block_all F k0 k16 i q hi).child F.low ql.1 (by have : ((NN : Nat) : Int) = 16 := rfl; omega) (F.nd _) he
  have := plain_low F.low he
  exact B.at F.low (by rw [lastP_snoc]; exact this.1)
theorem at_root {f : Fam} (F : Flat f) {k : Int} (k0 : 0 ≤ k) (k16 : k < 16) {i : Nat} {p : Part} (hp : (lm NN f [k])[i]? = some p) (h1 : p.length = 1) : atF f k p = sizeF f ((lm NN f [k]).take i) := by
  have hlt : i < (lm NN f [k]).length := (List.getElem?_eq_some_iff.mp hp).1
  have hpi : (lm NN f [k])[i] = p := (List.getElem?_eq_some_iff.mp hp).2
  have pl := part_low F.low k0 k16 (List.mem_of_getElem? hp)
  have hl : lm NN f [k] = (lm NN f [k]).take i ++ p :: (lm NN f [k]).drop (i + 1) := by
    rw [← hpi, ← List.drop_eq_getElem_cons hlt, List.take_append_drop]
  exact (block_root hl h1 (by have : ((NN : Nat) : Int) = 16 := rfl; omega)).at F.low pl.1
theorem size_snoc {f : Fam} {l : List Part} {i : Nat} {p : Part} (hp : l[i]? = some p) : sizeF f (l.take (i + 1)) = sizeF f (l.take i) + if p.length = 1 then bodyF NN f (lastP p) else 0 := by
  unfold sizeF rootsOf
  rw [List.take_add_one, hp]
  show ((List.filter rootB (l.take i ++ [p])).map _).sum = _
  rw [List.filter_append, List.map_append, List.sum_append]
  congr 1
  by_cases h : p.length = 1
  · rw [if_pos h, List.filter_cons, if_pos (by unfold rootB; exact decide_eq_true h)]
    simp
  · rw [if_neg h, List.filter_cons, if_neg (by unfold rootB; rw [decide_eq_false h]; exact Bool.false_ne_true)]
    simp
/-- each slot is of a part of the thing -/
theorem lbody_lm {f : Fam} : ∀ (n : Nat) (p : Part) (s : Slot), s ∈ lbody n f p → s.1 ∈ lm n f p
  | 0, p, s, h => by cases h
  | n + 1, p, s, h => by
    unfold lbody at h
    rcases List.mem_append.mp h with h | h
    · split at h
      · rw [List.mem_singleton] at h
        subst h
        exact self_mem _ f p
      · obtain ⟨e, he, h⟩ := List.mem_flatMap.mp h
        refine mem_lm.mpr (.inr ⟨p ++ [e], mem_kids.mpr ⟨(e, 0), mem_plain.mp he, ?_⟩, lbody_lm n _ s h⟩)
        unfold ep
        rw [if_pos rfl]
    · obtain ⟨j, _, rfl⟩ := List.mem_map.mp h
      exact self_mem _ f p
theorem slots_lm {f : Fam} (L : Low f) {k : Int} (k16 : k < 16) {s : Slot} (h : s ∈ slots f k) : s.1 ∈ lm NN f [k] := by
  obtain ⟨r, hr, h⟩ := List.mem_flatMap.mp h
  exact lm_trans L NN (by rw [lastP_one]; exact k16) (List.mem_filter.mp hr).1 (lbody_lm NN r s h)
def headB (s : Slot) : Bool := s.2.isNone
/-- heads and own cells are all slots, each once -/
theorem all_slots {f : Fam} (L : Low f) {k : Int} (k16 : k < 16) : (((lm NN f [k]).flatMap fun p => idx (own p) 0 (slots f k)) ++ idx headB 0 (slots f k)).Perm (List.range (slots f k).length) := by
  refine (List.perm_ext_iff_of_nodup ?_ List.nodup_range).mpr fun i => ?_
  · refine List.nodup_append.mpr ⟨?_, idx_nodup _ _ _, ?_⟩
    · unfold List.Nodup
      rw [List.pairwise_flatMap]
      refine ⟨fun p _ => idx_nodup _ _ _, (lm_nodup NN f [k]).imp fun {p q} hpq x hx y hy e => ?_⟩
      obtain ⟨j, s, h1, h2, h3⟩ := (mem_idx _ _ _ _).mp hx
      obtain ⟨j', s', h1', h2', h3'⟩ := (mem_idx _ _ _ _).mp hy
      have : j = j' := by omega
      subst this
      have : s = s' := Option.some.inj (h1.symm.trans h1')
      subst this
      unfold own at h3 h3'
      rw [Bool.and_eq_true] at h3 h3'
      exact hpq ((of_decide_eq_true h3.1).symm.trans (of_decide_eq_true h3'.1))
    · intro x hx y hy e
      obtain ⟨p, _, hx⟩ := List.mem_flatMap.mp hx
      obtain ⟨j, s, h1, h2, h3⟩ := (mem_idx _ _ _ _).mp hx
      obtain ⟨j', s', h1', h2', h3'⟩ := (mem_idx _ _ _ _).mp hy
      have : j = j' := by omega
      subst this
      have : s = s' := Option.some.inj (h1.symm.trans h1')
      subst this
      unfold own at h3
      unfold headB at h3'
      rw [Bool.and_eq_true] at h3
      have := h3.2
      cases z : s.2 with
      | none => rw [z] at this; cases this
      | some c => rw [z] at h3'; cases h3'
  · rw [List.mem_append, List.mem_range]
    constructor
    · rintro (h | h)
      · obtain ⟨p, _, hx⟩ := List.mem_flatMap.mp h
        obtain ⟨j, s, h1, h2, h3⟩ := (mem_idx _ _ _ _).mp hx
        have := (List.getElem?_eq_some_iff.mp h1).1
        omega
      · obtain ⟨j, s, h1, h2, h3⟩ := (mem_idx _ _ _ _).mp h
        have := (List.getElem?_eq_some_iff.mp h1).1
        omega
    · intro h
      have g := List.getElem?_eq_getElem h
      have sm := List.mem_of_getElem? g
      cases z : ((slots f k)[i]).2 with
      | none =>
        refine .inr ((mem_idx _ _ _ _).mpr ⟨i, _, g, by omega, ?_⟩)
        unfold headB
        rw [z]; rfl
      | some c =>
        refine .inl (List.mem_flatMap.mpr ⟨((slots f k)[i]).1, slots_lm L k16 sm, (mem_idx _ _ _ _).mpr ⟨i, _, g, by omega, ?_⟩⟩)
        unfold own
        rw [z, decide_eq_true rfl]; rfl
end KS
noncomputable section
namespace KS
open PySem PySem.Spec PyProof.Rows L2 Evl
open RZ (tLenSetI pe_lenSetI)
section
variable {K : PySem.W.Frag} {σ : L2.St} {H H' : Hp} {ta tb tc te : TE} {tt : TT} {d d1 d2 : PyData} {ds es : List PyData}
def tTru (K : PySem.W.Frag) (ta : TE) : TT := fun σ H Q => ta σ H fun x H' => ∃ k, TruV K x H' k ∧ Q k H'
theorem ed_sum {ns : List Int} (ha : ED ta σ H (.list (ns.map PyData.int))) : ED (tCB (rSum K) (tCons ta tNil)) σ H (.int ns.sum) := fun H1 e Q q =>
  ha H1 e _ fun x H2 e2 hx => by
    obtain ⟨a, xs, rfl, h, t⟩ := hx.toLst
    have e3 := t.ints
    subst e3
    exact ⟨a, ns, rfl, SqL.of h, q _ H2 e2 (.int _)⟩
theorem et_truL (h : ED te σ H (.list ds)) : EvT (fun σ H Q => te σ H fun x H' => ∃ k, TruV K x H' k ∧ Q k H') σ H (!ds.isEmpty) := fun H1 e Q q => h H1 e _ fun v H2 e2 hv => by
  obtain ⟨a, xs, rfl, h, t⟩ := hv.toLst
  refine ⟨!ds.isEmpty, .inl ⟨xs, SqL.of h, ?_⟩, q H2 e2⟩
  cases t <;> rfl
theorem ed_indexI {ns : List Int} {e : Int} (ha : ED ta σ H (.list (ns.map PyData.int))) (hb : ED tb σ H (.int e)) (he : e ∈ ns) : ED (tBM K "list" (rIndex K) ta (tCons tb tNil)) σ H (.int ((ns.idxOf e : Nat) : Int)) := fun H1 e1 Q q =>
  ha H1 e1 _ fun x H2 e2 hx => by
    obtain ⟨a, xs, rfl, h, t⟩ := hx.toLst
    have e3 := t.ints
    subst e3
    refine ⟨.inl ⟨rfl, _, SqL.of h⟩, hb H2 (e1.trans e2) _ fun y H3 e4 hy => ?_⟩
    have ey := hy.toInt
    subst ey
    have hi : ns.idxOf e < ns.length := List.idxOf_lt_length_iff.mpr he
    refine ⟨a, ns.map V.int, .int e, ns.idxOf e, .int e, rfl, rfl, SqL.of (e4 _ _ h), rfl, ?_, ?_, ?_, ?_, q _ H3 (e2.trans e4) (.int _)⟩
    · rw [List.all_map, List.all_eq_true]
      intro _ _; rfl
    · rw [List.getElem?_map, List.getElem?_eq_getElem hi, List.getElem_idxOf hi]; rfl
    · show (e == e) = true
      simp
    · intro m z hm hz
      rw [List.getElem?_map] at hz
      cases g : ns[m]? with
      | none => rw [g] at hz; cases hz
      | some y =>
        rw [g] at hz
        have : V.int y = z := Option.some.inj hz
        subst this
        have hne : y ≠ e := fun z => by
          have hml : m < ns.length := by omega
          have := List.not_of_lt_findIdx (p := (· == e)) (xs := ns) (by exact hm)
          rw [List.getElem?_eq_getElem hml] at g
          have g' : ns[m] = y := Option.some.inj g
          rw [g', z] at this
          simp at this
        show (y == e) = false
        simp [hne]
theorem el_slTakeL {ds : List PyData} {k : Int} (h : ED te σ H (.list ds)) (hk : ED tb σ H (.int k)) (k0 : 0 ≤ k) : EL (tSl (rSlL K) te tNoPart (tPart tb)) σ H (ds.take k.toNat) := fun H1 e Q q =>
  h H1 e _ fun x H2 e2 hx => hk H2 (e.trans e2) _ fun y H3 e3 hy => by
    obtain ⟨a, xs, rfl, h1, h2⟩ := hx.toLst
    have ek := hy.toInt
    subst ek
    refine ⟨k, rfl, a, xs, rfl, SqL.of (e3 _ _ h1), fun p hp => ?_⟩
    have e1 : cutV xs none (some k) = xs.take k.toNat := by
      unfold cutV
      rw [HT.sIx_none]
      have := HT.sIx_nat xs.length xs.length k.toNat
      rw [show ((k.toNat : Nat) : Int) = k by omega] at this
      rw [this, List.drop_zero, Nat.sub_zero]
      rcases Nat.le_total k.toNat xs.length with g | g
      · rw [Nat.min_eq_left g]
      · rw [Nat.min_eq_right g, List.take_of_length_le (Nat.le_refl _), List.take_of_length_le g]
    rw [e1]
    exact q p _ _ (fresh_back (e2.trans e3) hp) ((e2.trans e3).trans (Ex.new hp)) upd_same (((h2.mono e3).take _).mono (Ex.new hp))
end
section
variable {P : Program} {w : World} {K : PySem.W.Frag} {mg : Str → Option Value} {base : Heap}
theorem Valid.flat {f : Fam} (V : Valid f) : Flat f := ⟨kinds_low V.kinds, fun k => by
  unfold plain kd
  rw [List.getD_eq_getElem?_getD]
  cases h : f[k.toNat]? with
  | none => exact List.Pairwise.nil
  | some kk => exact (V.kinds _ kk h).once.sublist (List.filter_sublist.map _)⟩
theorem Valid.kok {f : Fam} (V : Valid f) {k : Int} (k0 : 0 ≤ k) (k1 : k < f.length) : KindOk k.toNat (kd f k) := by
  refine V.kinds k.toNat (kd f k) ?_
  unfold kd
  rw [List.getD_eq_getElem?_getD, List.getElem?_eq_getElem (by omega)]
  rfl
theorem Valid.plain {f : Fam} (V : Valid f) {k e : Int} (k1 : k < f.length) (h : e ∈ plain f k) : 0 ≤ e ∧ e < k ∧ e < f.length := by
  have := plain_low V.flat.low h
  omega
end
end KS
end
noncomputable section
namespace KS
open PySem PySem.Spec PyProof.Rows L2
open PySem.Froz (SD sObj addTx tailTx sing runD TxOk add_ok add_x is_str)
/-! ### a set of texts, made of a list -/
def addL (l : List Str) (x : Str) : List Str := if x ∈ l then l else x :: l
theorem addL_old {l : List Str} {x : Str} (h : x ∈ l) : addL l x = l := if_pos h
theorem addL_new {l : List Str} {x : Str} (h : ¬ x ∈ l) : addL l x = x :: l := if_neg h
theorem addL_nodup {l : List Str} (x : Str) (h : l.Nodup) : (addL l x).Nodup := by
  unfold addL
  split
  · exact h
  · rename_i n; exact List.nodup_cons.mpr ⟨n, h⟩
theorem mem_addL {l : List Str} {x y : Str} : y ∈ addL l x ↔ y ∈ l ∨ y = x := by
  unfold addL
  split
  · rename_i n
    constructor
    · exact .inl
    · rintro (h | rfl)
      · exact h
      · exact n
  · rw [List.mem_cons]; exact Or.comm
theorem foldA_nodup : ∀ (xs l : List Str), l.Nodup → (xs.foldl addL l).Nodup
  | [], _, h => h
  | x :: xs, l, h => foldA_nodup xs (addL l x) (addL_nodup x h)
theorem mem_foldA : ∀ (xs l : List Str) (y : Str), y ∈ xs.foldl addL l ↔ y ∈ l ∨ y ∈ xs
  | [], l, y => by simp
  | x :: xs, l, y => by
    show y ∈ xs.foldl addL (addL l x) ↔ _
    rw [mem_foldA xs, mem_addL, List.mem_cons, or_assoc]
theorem foldA_len : ∀ (xs l : List Str), (xs.foldl addL l).length ≤ l.length + xs.length
  | [], l => by simp
  | x :: xs, l => by
    have := foldA_len xs (addL l x)
    have h2 : (addL l x).length ≤ l.length + 1 := by
      unfold addL
      split
      · omega
      · simp
    show (xs.foldl addL (addL l x)).length ≤ _
    rw [List.length_cons]
    omega
section
variable {P : Program} {w : World} {A : Around} {E : Value → Shared → Prop} {s : Shared}
theorem add_old {a : Addr} {T : String} {Z : SD} {l : List Str} {k : Str} {u : Tok} {Q : Bool → Shared → Prop} (ho : s.heap.get? a = some (sObj T Z)) (F : TxOk P w Z l) (hk : k ∈ l) (hb : l.length < scanBound)
    (h : Q false s) : wpAny (model P w) A (setAddHashed a (.str k u) (hashStr w k)) Q E s := by
  obtain ⟨es, ep, t⟩ := Z
  have hd : (sObj T (es, ep, t)).data = .set es ep t := rfl
  have hf : t.fits es.size = true := F.fit
  have hel : ElemsOf (strKind P w) es.toList := F.el
  have hsz : es.size = l.length := F.sz
  have hb0 : es.size < scanBound := by omega
  have hkey : (strKind P w).is k (.str k u) = true := is_str k u
  unfold setAddHashed setAddHashedIn
  refine wpAny_holding (wpAny_bind (wpAny_setState_of ho hd hf ?_))
  dsimp only
  rw [byScan_of rfl hb0 hel]
  simp only [↓reduceIte]
  unfold setAddByScan
  refine wpAny_bind ?_
  refine wpAny_bind (wpAny_rule ?_)
  refine wpAny_bind (wpAny_setScan_of (knd := strKind P w) (k := k) hkey ho hd hf hel ?_)
  cases hr : List.findIdx? (fun e => (strKind P w).is k e.2) es.toList with
  | none =>
    obtain ⟨e, he, hp⟩ := (F.mem k).mp hk
    have := List.findIdx?_eq_none_iff.mp hr e he
    rw [hp] at this
    cases this
  | some j =>
    dsimp only
    exact wpAny_pure (wpAny_pure h)
def SetHere (P : Program) (w : World) (b : Bool) (h : Heap) (a : Addr) (l : List Str) : Prop := ∃ Z : SD, h.get? a = some (sObj "set" Z) ∧ TxOk P w Z l ∧ TabOk b Z
end
section
variable {prog : Program} {w : World} {A : Around} {R : Result → Shared → Prop} {I : Addr} {fp wr : List Addr} {G : Array GenState → Array GenState → Prop} {n : Nat} {Pv : Nat → Value → Prop} {St : Nat → Shared → Prop}
theorem loopTx (W : WalksS prog w A.in1 I fp wr G n Pv St) (S : Addr) (hSf : S ∉ fp) (xs : List Str) (hsz : xs.length = n) (hn1 : n < 1000) {b : Bool}
    (hval : ∀ i v, Pv i v → ∃ t, v = .str (xs.getD i Str.empty) t) :
    ∀ (k i : Nat) (s : Shared), n - i = k → i ≤ n → St i s → SetHere prog w b s.heap S ((xs.take i).foldl addL []) →
      (∀ s', Moved (S :: wr) G s s' → SetHere prog w b s'.heap S (xs.foldl addL []) → R (.ok (.ret .none)) s') →
      codeAny (model prog w) A (.builtin "set.update.loop" ⟨[.ref S, .ref I], []⟩) R s := by
  have hSw : S ∉ wr := fun h => hSf (W.sub _ h)
  have hsub : ∀ b ∈ wr, b ∈ S :: wr := fun b hb => List.mem_cons_of_mem _ hb
  intro k
  induction k with
  | zero =>
    intro i s hk hi hst hS hR
    have hin : i = n := by omega
    subst hin
    refine codeAny_builtin PyProof.Rows.F.entry_set_update_loop ?_
    rw [Around.under_plainId PyProof.Rows.F.plain_set_update_loop _]
    show wpAny _ A.in1 (pyNext (.ref I) >>= _) _ _ s
    refine wpAny_bind (W.done s _ _ hst fun s' hm => ?_)
    show wpAny _ A.in1 (ret Value.none) _ _ s'
    refine wpAny_pure (hR s' (hm.mono hsub) ?_)
    rw [← hsz, List.take_length] at hS
    obtain ⟨Z, ho, rest⟩ := hS
    exact ⟨Z, hm.heap S _ hSw ho, rest⟩
  | succ k ih =>
    intro i s hk hi hst hS hR
    have hlt : i < n := by omega
    refine codeAny_builtin PyProof.Rows.F.entry_set_update_loop ?_
    rw [Around.under_plainId PyProof.Rows.F.plain_set_update_loop _]
    show wpAny _ A.in1 (pyNext (.ref I) >>= _) _ _ s
    refine wpAny_bind (W.item i s _ _ hlt hst fun v s' hP hst' hm => ?_)
    obtain ⟨t, rfl⟩ := hval i v hP
    have e1 : (xs.take (i + 1)).foldl addL [] = addL ((xs.take i).foldl addL []) (xs.getD i Str.empty) := by
      have hi2 : i < xs.length := by omega
      rw [List.take_add_one, List.getElem?_eq_getElem hi2, List.foldl_append, List.getD_eq_getElem?_getD, List.getElem?_eq_getElem hi2]
      rfl
    obtain ⟨Z, ho, F, T⟩ := hS
    have ho' := hm.heap S _ hSw ho
    have lb : ((xs.take i).foldl addL []).length + 1 < scanBound := by
      have := foldA_len (xs.take i) []
      rw [List.length_take, List.length_nil] at this
      unfold scanBound
      omega
    generalize xs.getD i Str.empty = x at e1 ⊢
    show wpAny _ A.in1 (holding [Value.str x t] (setAdd S (.str x t)) >>= _) _ _ s'
    refine wpAny_bind (wpAny_holding ?_)
    unfold setAdd
    refine wpAny_holding ?_
    refine wpAny_bind ((PySem.strKind prog w).pyHash (k := x) (is_str _ _) ?_)
    by_cases hx : x ∈ (xs.take i).foldl addL []
    · refine add_old (s := { s' with toks := s'.toks + 1 }) ho' F hx (by omega) ?_
      refine wpAny_pure ⟨plainId_quiet PyProof.Rows.F.plain_set_update_loop _, ih (i + 1) _ (by omega) hlt (W.frame _ s' _ _ hst' (Nat.le_succ _) fun b hb o e => e) ⟨Z, ho', by rw [e1, addL_old hx]; exact F, T⟩ fun s'' hm'' hS'' => ?_⟩
      exact hR s'' (Moved.trans W.gtrans ((hm.mono hsub).then_heap (Nat.le_succ _) fun b o hb e => e) hm'') hS''
    · refine add_x (s := { s' with toks := s'.toks + 1 }) ho' F hx lb ?_
      have up : ∀ b o, b ≠ S → s'.heap.get? b = some o → (s'.heap.update S (fun _ => sObj "set" (addTx (hashStr w x) (.str x t) Z))).get? b = some o := fun b o ne e => PySem.Heap.get?_update_of_ne _ (Ne.symm ne) e
      refine wpAny_pure ⟨plainId_quiet PyProof.Rows.F.plain_set_update_loop _, ih (i + 1) _ (by omega) hlt (W.frame _ s' _ _ hst' (Nat.le_succ _) fun b hb o e => up b o (fun h => hSf (by rw [← h]; exact hb)) e) ⟨_, Froz.get_upd _ ho' rfl, by rw [e1, addL_new hx]; exact add_ok t F, tab_add _ _ T⟩ fun s'' hm'' hS'' => ?_⟩
      exact hR s'' (Moved.trans W.gtrans ((hm.mono hsub).then_heap (Nat.le_succ _) fun b o hb e => up b o (fun h => hb (by rw [h]; exact List.mem_cons_self)) e) hm'') hS''
end
section
variable {P : Program} {w : World} {A : Around} {E : Value → Shared → Prop} {s : Shared}
set_option maxHeartbeats 8000000 in
theorem call_set_texts {l : Addr} {items : Array Value} {xs : List Str} {Q : Value → Shared → Prop} (quiet : A.handled = none) (hl : s.heap.IsList l items) (hi : StrsAre items.toList xs) (few : xs.length < 64)
    (fin : ∀ (h' : Heap) (tk : Nat), STx P w h' s.heap.objs.size (xs.foldl addL []) → (∀ b o, s.heap.get? b = some o → h'.get? b = some o) → Q (.ref s.heap.objs.size) { s with heap := h', toks := tk }) :
    wpAny (model P w) A (call (.type "set") [.ref l]) Q E s := by
  let lb : Bool := !w.params.followText "set-order"
  let Z0 : SD := (#[], 0, .fresh 0 0 lb)
  obtain ⟨c, tl, hmro⟩ := F.called_set.mro
  have madeF := F.called_set.made
  have subF := F.called_set.sub
  refine wpAny_call (codeAny_of_tree ?_)
  show wpAny _ _ (callAny (.type "set") ⟨[.ref l], []⟩) _ _ s
  refine wpAny_pure ⟨Code.quiet_builtin _ (by decide +kernel), codeAny_builtin F.entry_type_call ?_⟩
  rw [Around.under_plain (weight_type_call_type "set" [.ref l] []) rfl]
  have n1 := F.called_set.notType
  have n2 := F.called_set.canCreate
  have n3 := F.typeCall_set_1 (.ref l)
  repeat (any_goals (first | assumption | wp_step))
  refine codeAny_mono (code_set_led1 (.ref l) (E := E) (Q₁ := fun ob t => ob = .ref s.heap.objs.size ∧ t = { s with heap := s.heap.push (sObj "set" Z0) }) ⟨rfl, rfl⟩) fun r t hr => ?_
  cases r with
  | error e => exact hr
  | ok fl =>
    cases fl with
    | ret ob =>
      obtain ⟨rfl, rfl⟩ := hr
      have here : (s.heap.push (sObj "set" Z0)).get? s.heap.objs.size = some (sObj "set" Z0) := Heap.get?_push_size _ rfl
      have isSet : Shared.TypeIs { s with heap := s.heap.push (sObj "set" Z0) } (.ref s.heap.objs.size) "set" := ⟨_, here, rfl⟩
      have i1 := F.called_set.init.lookup
      have i2 := F.called_set.init.bind (.ref s.heap.objs.size)
      repeat (any_goals (first | assumption | wp_step))
      refine codeAny_mono (codeAny_call_builtin (R := wants (fun r t₂ => r = .none ∧ ∃ h' tk, t₂ = { s with heap := h', toks := tk } ∧ STx P w h' s.heap.objs.size (xs.foldl addL []) ∧
          (∀ b o, s.heap.get? b = some o → h'.get? b = some o)) E) F.called_set.init.plain F.entry_set_init (check_set_init_1 isSet ?_)) fun r₂ t₂ hr₂ => ?_
      · obtain ⟨ol, hol, hcl, nl, hdl⟩ := hl
        obtain ⟨ocls, odict, odata, oslots⟩ := ol
        simp only at hcl hdl
        subst hcl; subst hdl
        have hol' : (s.heap.push (sObj "set" Z0)).get? l = some { cls := .type "list", dict := odict, data := .seq items nl, slots := oslots } := Heap.get?_push_of_some _ hol
        have hsls := PySem.F.sub_list_set
        have hslf := PySem.F.sub_list_frozenset
        have hne : (Value.type "list" == Value.type "dict") = false := by decide
        have hl1 : (s.heap.push (sObj "set" Z0)).IsList l items := ⟨_, hol', rfl, nl, rfl⟩
        unfold Builtin.«set.__init__» noKeywords Builtin.Frozenset.updateFrom
        generalize hPI : pyIter = PI
        wp_walk
        subst hPI
        refine wpAny_pyIter_list hl1 ?_
        refine wpAny_bind (wpAny_runValue ?_)
        have hlS : l < s.heap.objs.size := Heap.lt_size hol
        have hh3 : A.in1.in1.in1.handled = none := by simp [quiet]
        have hneI : l ≠ (s.heap.push (sObj "set" Z0)).objs.size := by
          rw [Heap.size_push]; exact Nat.ne_of_lt (Nat.lt_succ_of_lt hlS)
        have hSf : s.heap.objs.size ∉ [(s.heap.push (sObj "set" Z0)).objs.size, l] := by
          rw [Heap.size_push]; simp only [List.mem_cons, List.mem_singleton, List.not_mem_nil, or_false, not_or]
          exact ⟨Nat.ne_of_lt (Nat.lt_succ_self _), Nat.ne_of_gt hlS⟩
        have hsz : xs.length = items.size := by rw [← StrsAre.len_eq hi, Array.length_toList]
        have hval : ∀ (i : Nat) (v : Value), items[i]? = some v → ∃ t, v = .str (xs.getD i Str.empty) t := fun i v hv => SS.strs_at hi i v (by rw [Array.getElem?_toList]; exact hv)
        have t0 : TxOk P w Z0 [] := TxOk.nil (by rfl)
        have b0 : TabOk lb Z0 := ⟨List.Pairwise.nil, rfl⟩
        refine loopTx (b := lb) ((Walks.list hh3 _ l hneI items).toS) s.heap.objs.size
          hSf xs hsz (by omega) hval (items.size - 0) 0 _ (by omega) (Nat.zero_le _)
          ⟨⟨_, Heap.get?_push_size _ rfl, rfl, rfl⟩, (hl1.push _)⟩ ⟨Z0, Heap.get?_push_of_some _ here, t0, b0⟩ ?hR
        case hR =>
          intro s' hm hS'
          obtain ⟨h', g', d', tk', os'⟩ := s'
          have eg : g' = s.gens := hm.gens
          have ed : d' = s.drawn := hm.drawn
          have eo : os' = s.os := hm.os
          subst eg; subst ed; subst eo
          show wpAny _ _ _ _ _ _
          refine wpAny_pure ?_
          show wpAny _ _ (ret Value.none) _ _ _
          obtain ⟨Z, z1, z2, z3⟩ := hS'
          refine wpAny_pure ⟨rfl, h', tk', rfl, ⟨Z, z1, z2, ?_, z3⟩, fun b o e => ?_⟩
          · have := foldA_len xs []
            rw [List.length_nil] at this
            omega
          · have hb := Heap.lt_size e
            have hb1 : b ≠ s.heap.objs.size := Nat.ne_of_lt hb
            have hb2 : b ≠ (s.heap.push (sObj "set" Z0)).objs.size := by
              rw [Heap.size_push]; exact Nat.ne_of_lt (Nat.lt_succ_of_lt hb)
            exact hm.heap b o (by simp only [List.mem_cons, List.mem_singleton, List.not_mem_nil, or_false, not_or]; exact ⟨hb1, hb2⟩) (Heap.get?_push_of_some _ (Heap.get?_push_of_some _ e))
      · cases r₂ with
        | error e => exact hr₂
        | ok fl₂ =>
          cases fl₂ with
          | ret r =>
            obtain ⟨rfl, h', tk, rfl, z1, z2⟩ := hr₂
            repeat (any_goals (first | assumption | wp_step))
            exact fin _ _ z1 z2
          | _ => exact hr₂.elim
    | _ => exact hr.elim
end
/-! ### the rules -/
def rSetTxs (K : PySem.W.Frag) (P : Program) (w : World) : List V → Hp → VK → Prop := fun xs H Q => ∃ (a : Addr) (ys : List Str), xs = [.ref a] ∧ SqL K H a (ys.map V.str) ∧ ys.length < 64 ∧
  ∀ p, H p = none → Q (.ref p) (upd H p (SetTx P w p (ys.foldl addL [])))
def rLenTx (P : Program) (w : World) : List V → Hp → VK → Prop := fun xs H Q => ∃ (a : Addr) (l : List Str), xs = [.ref a] ∧ H a = some (SetTx P w a l) ∧ Q (.int ((l.length : Nat) : Int)) H
section
variable {X : Cx}
theorem cr_setTxs (hc : X.calm = true) : CallR X (.type "set") (rSetTxs X.K X.prog X.w) := by
  intro pins s σ H xs us Q I r h
  obtain ⟨a, ys, rfl, hl, few, q⟩ := h
  rw [Vals.ref1 r]
  obtain ⟨its, rv, pl, hz⟩ := I.list hl
  refine call_set_texts (I.ok.hd hc) pl.isList (by simpa using L2.strsAre_of rv) few fun h' tk R keep => ?_
  have ob : ObjOk X.prog X.w (upd H s.heap.objs.size (SetTx X.prog X.w s.heap.objs.size (ys.foldl addL []))) h' s.heap.objs.size (SetTx X.prog X.w s.heap.objs.size (ys.foldl addL [])) := by
    have R2 := R
    obtain ⟨Z, e, _⟩ := R2
    exact ⟨R, ⟨_, e⟩, fun h1 h2 p k => stx_at p k⟩
  exact ⟨.ref _, _, I.laid (t' := tk) keep (Nat.le_refl _) ob, rfl, q _ (I.hok.fresh (Nat.le_refl _))⟩
theorem cr_lenTx : CallR X (.builtin "len") (rLenTx X.prog X.w) := by
  intro pins s σ H xs us Q I r h
  obtain ⟨a, l, rfl, ha, q⟩ := h
  rw [Vals.ref1 r]
  have R : STx X.prog X.w s.heap a l := (I.hok a _ ha).1
  obtain ⟨⟨es, ep, tb⟩, here, T, few, tabs⟩ := R
  have sz : es.size = l.length := T.sz
  have fit : tb.fits es.size = true := T.fit
  refine call_len_set here ⟨rfl, rfl, rfl⟩ rfl fit (by rw [sz] <;> omega) ⟨.int l.length, H, I.tok _, ⟨_, by rw [sz]⟩, q⟩
end
end KS
end
namespace KS
open PySem
/-! ### numbers: the mathematics -/
abbrev Pair := Int × Nat
abbrev NumP := Nat × Int
def upOf (g : Int → List NumP) : List Int → List NumP
  | [] => []
  | e :: _ => g e
def fresh (A : List Pair) (k : Int) (up : List NumP) (c : Nat) : Bool := decide ((k, c) ∈ A) && !decide (c ∈ up.map (·.1))
def more (A : List Pair) (k : Int) (up : List NumP) : List NumP := (abc.filter (fresh A k up)).map fun c => (c, k)
def numF : Nat → Fam → List Pair → Int → List NumP
  | 0, _, _, _ => []
  | n + 1, f, A, k => upOf (numF n f A) (plain f k) ++ more A k (upOf (numF n f A) (plain f k))
theorem upOf_congr {g h : Int → List NumP} : ∀ {l : List Int}, (∀ e ∈ l, g e = h e) → upOf g l = upOf h l
  | [], _ => rfl
  | e :: _, H => H e List.mem_cons_self
theorem numF_fuel {f : Fam} (L : Low f) (A : List Pair) : ∀ (n m : Nat) (k : Int), 0 ≤ k → k < n → k < m → numF n f A k = numF m f A k
  | 0, _, k, h0, h1, _ => by have : ((0 : Nat) : Int) = 0 := rfl; omega
  | _ + 1, 0, k, h0, _, h2 => by have : ((0 : Nat) : Int) = 0 := rfl; omega
  | n + 1, m + 1, k, h0, h1, h2 => by
    have e : upOf (numF n f A) (plain f k) = upOf (numF m f A) (plain f k) := upOf_congr fun e he => by
      have := plain_low L he
      exact numF_fuel L A n m e this.1 (by omega) (by omega)
    unfold numF
    rw [e]
theorem more_names (A : List Pair) (k : Int) (up : List NumP) : (more A k up).map (·.1) = abc.filter (fresh A k up) := by
  unfold more
  rw [List.map_map]
  exact (List.map_congr_left fun c _ => rfl).trans (List.map_id _)
def NamesOk (l : List NumP) : Prop := (l.map (·.1)).Nodup ∧ ∀ c ∈ l.map (·.1), c ∈ abc
theorem names_more {A : List Pair} {k : Int} {up : List NumP} (h : NamesOk up) : NamesOk (up ++ more A k up) := by
  unfold NamesOk
  rw [List.map_append, more_names]
  refine ⟨List.nodup_append.mpr ⟨h.1, List.Pairwise.filter _ (by decide), fun a ha b hb e => ?_⟩, fun c hc => ?_⟩
  · subst e
    have := (List.mem_filter.mp hb).2
    unfold fresh at this
    rw [Bool.and_eq_true, Bool.not_eq_true', decide_eq_false_iff_not] at this
    exact this.2 ha
  · rcases List.mem_append.mp hc with hc | hc
    · exact h.2 c hc
    · exact (List.mem_filter.mp hc).1
theorem names_numF (f : Fam) (A : List Pair) : ∀ (n : Nat) (k : Int), NamesOk (numF n f A k)
  | 0, _ => ⟨List.nodup_nil, fun _ h => nomatch h⟩
  | n + 1, k => by
    unfold numF
    refine names_more ?_
    cases plain f k with
    | nil => exact ⟨List.nodup_nil, fun _ h => nomatch h⟩
    | cons e r => exact names_numF f A n e
theorem names_len {l : List NumP} (h : NamesOk l) : l.length ≤ 6 := by
  have go : ∀ (l m : List Nat), l.Nodup → (∀ c ∈ l, c ∈ m) → l.length ≤ m.length := by
    intro l
    induction l with
    | nil => intro m _ _; exact Nat.zero_le _
    | cons x l ih =>
      intro m nd sub
      obtain ⟨n1, n2⟩ := List.nodup_cons.mp nd
      have hx := sub x List.mem_cons_self
      have := ih (m.erase x) n2 fun y hy => (List.mem_erase_of_ne (fun e => n1 (by rw [← e]; exact hy))).mpr (sub y (List.mem_cons_of_mem _ hy))
      rw [List.length_erase_of_mem hx] at this
      have := List.length_pos_of_mem hx
      rw [List.length_cons]
      omega
  have := go _ abc h.1 h.2
  rw [List.length_map] at this
  exact this
theorem numF_congr {f : Fam} {A B : List Pair} (h : ∀ p, p ∈ A ↔ p ∈ B) : ∀ (n : Nat) (k : Int), numF n f A k = numF n f B k
  | 0, _ => rfl
  | n + 1, k => by
    have e : upOf (numF n f A) (plain f k) = upOf (numF n f B) (plain f k) := upOf_congr fun e _ => numF_congr h n e
    have e2 : ∀ up, more A k up = more B k up := fun up => by
      unfold more
      congr 1
      refine List.filter_congr fun c _ => ?_
      unfold fresh
      rw [decide_eq_decide.mpr (h (k, c))]
    unfold numF
    rw [e, e2]
/-- the way up to the asker of a deed -/
def roadF : Nat → Fam → List Pair → Int → Nat → List Int
  | 0, _, _, _, _ => []
  | n + 1, f, A, k, c => k :: (if (c, k) ∈ numF NN f A k then [] else match plain f k with
    | [] => []
    | e :: _ => roadF n f A e c)
def knowsN (f : Fam) (A : List Pair) (k : Int) (c : Nat) : Bool := decide (c ∈ (numF NN f A k).map (·.1))
def reasonF (f : Fam) (A : List Pair) (k : Int) (c : Nat) : Option (List Int) := if c ∈ (numF NN f A k).map (·.1) then some (roadF NN f A k c) else none
theorem numF_split {n : Nat} {f : Fam} {A : List Pair} {k : Int} {c : Nat} {a : Int} (h : (c, a) ∈ numF (n + 1) f A k) : (a = k ∧ c ∈ abc ∧ (k, c) ∈ A) ∨ ∃ e r, plain f k = e :: r ∧ (c, a) ∈ numF n f A e := by
  unfold numF at h
  rcases List.mem_append.mp h with h | h
  · cases hp : plain f k with
    | nil => rw [hp] at h; cases h
    | cons e r => rw [hp] at h; exact .inr ⟨e, r, rfl, h⟩
  · obtain ⟨d, hd, e⟩ := List.mem_map.mp h
    obtain ⟨h1, h2⟩ := List.mem_filter.mp hd
    unfold fresh at h2
    rw [Bool.and_eq_true, decide_eq_true_eq] at h2
    have e1 : d = c := congrArg Prod.fst e
    have e2 : k = a := congrArg Prod.snd e
    subst e1
    exact .inl ⟨e2.symm, h1, h2.1⟩
theorem numF_asker_le {f : Fam} (L : Low f) {A : List Pair} : ∀ (n : Nat) (k : Int) (c : Nat) (a : Int), (c, a) ∈ numF n f A k → a ≤ k
  | 0, _, _, _, h => nomatch h
  | n + 1, k, c, a, h => by
    rcases numF_split h with ⟨e, _⟩ | ⟨e, r, hp, h⟩
    · omega
    · have := plain_low L (k := k) (e := e) (by rw [hp]; exact List.mem_cons_self)
      have := numF_asker_le L n e c a h
      omega
/-- what is told of the first plain elder is told of the kind -/
theorem numF_up {n : Nat} {f : Fam} {A : List Pair} {k e : Int} {r : List Int} (hp : plain f k = e :: r) : ∃ t, numF (n + 1) f A k = numF n f A e ++ t := by
  show ∃ t, upOf (numF n f A) (plain f k) ++ KS.more A k (upOf (numF n f A) (plain f k)) = numF n f A e ++ t
  rw [hp]
  exact ⟨_, rfl⟩
theorem asker_uniq {l : List NumP} (h : NamesOk l) {c : Nat} {a b : Int} (ha : (c, a) ∈ l) (hb : (c, b) ∈ l) : a = b := by
  obtain ⟨i, hi⟩ := List.getElem?_of_mem ha
  obtain ⟨j, hj⟩ := List.getElem?_of_mem hb
  have h1 : (l.map (·.1))[i]? = some c := by rw [List.getElem?_map, hi]; rfl
  have h2 : (l.map (·.1))[j]? = some c := by rw [List.getElem?_map, hj]; rfl
  have := (List.getElem?_inj (List.getElem?_eq_some_iff.mp h1).1 h.1).mp (h1.trans h2.symm)
  subst this
  rw [hi] at hj
  exact congrArg Prod.snd (Option.some.inj hj)
/-- a step up the road -/
theorem road_step {f : Fam} (L : Low f) {A : List Pair} {k a : Int} {c : Nat} (k0 : 0 ≤ k) (k16 : k < 16) (h : (c, a) ∈ numF NN f A k) (n : Nat) :
    (k = a ∧ roadF (n + 1) f A k c = [k]) ∨ (k ≠ a ∧ ∃ e r, plain f k = e :: r ∧ 0 ≤ e ∧ e < k ∧ (c, a) ∈ numF NN f A e ∧ roadF (n + 1) f A k c = k :: roadF n f A e c) := by
  by_cases hk : k = a
  · subst hk
    refine .inl ⟨rfl, ?_⟩
    show k :: _ = _
    rw [if_pos h]
  · refine .inr ⟨hk, ?_⟩
    have no : ¬ (c, k) ∈ numF NN f A k := fun z => hk (asker_uniq (names_numF f A NN k) z h)
    rcases numF_split (n := 15) h with ⟨e, _⟩ | ⟨e, r, hp, h2⟩
    · exact absurd e.symm hk
    · have pl := plain_low L (k := k) (e := e) (by rw [hp]; exact List.mem_cons_self)
      refine ⟨e, r, hp, pl.1, pl.2, ?_, ?_⟩
      · rw [numF_fuel L A NN 15 e pl.1 (by show e < (16 : Int); omega) (by show e < (15 : Int); omega)]
        exact h2
      · show k :: _ = _
        rw [if_neg no, hp]
/-- the askers of a deed among the numbers -/
theorem askers_of {l : List NumP} {c : Nat} : (l.filter fun p => decide (p.1 = c)) = [] ↔ ¬ c ∈ l.map (·.1) := by
  rw [List.filter_eq_nil_iff]
  constructor
  · intro h z
    obtain ⟨p, hp, e⟩ := List.mem_map.mp z
    exact h p hp (decide_eq_true e)
  · intro h p hp z
    exact h (List.mem_map.mpr ⟨p, hp, of_decide_eq_true z⟩)
end KS
noncomputable section
namespace KS
open PySem PySem.Spec PyProof.Rows L2 Evl
open RZ (tLenSetI pe_lenSetI)
/-! ### lists of new lists -/
inductive LL (H0 H : Hp) (l : Addr) : List V → List (List PyData) → Prop
  | nil : LL H0 H l [] []
  | cons {p : Addr} {xs vs : List V} {ds : List PyData} {rs : List (List PyData)} : H0 p = none → p ≠ l → H p = some (.lst xs) → DA H xs ds → flatTs ds = true → LL H0 H l vs rs → LL H0 H l (.ref p :: vs) (ds :: rs)
section
variable {H0 H H' : Hp} {l : Addr}
theorem LL.mono (e : Ex H H') : ∀ {vs : List V} {rs : List (List PyData)}, LL H0 H l vs rs → LL H0 H' l vs rs
  | _, _, .nil => .nil
  | _, _, .cons a b c d f t => .cons a b (e _ _ c) (d.mono e) f (t.mono e)
theorem LL.put {zs ws : List V} (h : H l = some (.lst zs)) : ∀ {vs : List V} {rs : List (List PyData)}, LL H0 H l vs rs → LL H0 (upd H l (.lst ws)) l vs rs
  | _, _, .nil => .nil
  | _, _, .cons a b c d f t => .cons a b (by rw [upd_ne b]; exact c) (DA.keep (tu_upd h) f d) f (t.put h)
theorem LL.snoc {p : Addr} {xs : List V} {ds : List PyData} (a : H0 p = none) (b : p ≠ l) (c : H p = some (.lst xs)) (d : DA H xs ds) (f : flatTs ds = true) : ∀ {vs : List V} {rs : List (List PyData)}, LL H0 H l vs rs → LL H0 H l (vs ++ [.ref p]) (rs ++ [ds])
  | _, _, .nil => .cons a b c d f .nil
  | _, _, .cons a' b' c' d' f' t => .cons a' b' c' d' f' (t.snoc a b c d f)
theorem LL.da : ∀ {vs : List V} {rs : List (List PyData)}, LL H0 H l vs rs → DA H vs (rs.map PyData.list)
  | _, _, .nil => .nil
  | _, _, .cons _ _ c d _ t => .cons (.lst c d) t.da
theorem LL.len : ∀ {vs : List V} {rs : List (List PyData)}, LL H0 H l vs rs → vs.length = rs.length
  | _, _, .nil => rfl
  | _, _, .cons _ _ _ _ _ t => congrArg (· + 1) t.len
theorem LL.low {H1 : Hp} (e : Ex H0 H1) : ∀ {vs : List V} {rs : List (List PyData)}, LL H1 H l vs rs → LL H0 H l vs rs
  | _, _, .nil => .nil
  | _, _, .cons a b c d f t => .cons (fresh_back e a) b c d f (t.low e)
theorem LL.at : ∀ {vs : List V} {rs : List (List PyData)} {i : Nat} {ds : List PyData}, LL H0 H l vs rs → rs[i]? = some ds → ∃ p xs, vs[i]? = some (.ref p) ∧ H0 p = none ∧ p ≠ l ∧ H p = some (.lst xs) ∧ DA H xs ds
  | _, _, _, _, .nil, e => by simp at e
  | _, _, 0, _, .cons a b c d f t, e => by
    simp at e; subst e; exact ⟨_, _, rfl, a, b, c, d⟩
  | _, _, i + 1, ds, .cons a b c d f t, e => by
    obtain ⟨p, xs, h1, h2⟩ := t.at (i := i) (ds := ds) (by simpa using e)
    exact ⟨p, xs, by simpa using h1, h2⟩
end
section
variable {σ : L2.St} {H : Hp} {ds : List PyData}
theorem s_call {sp : Sp} {E : XK} {ta : TA} {g : TG} {Dn : Ends} (h : EAs ta σ H ds) (k : ∀ vs H1, Ex H H1 → DA H1 vs ds → sp vs H1 (fun v H2 => g v σ H2 Dn.nx) E) : tAsg (tCall sp [] E ta) g Dn σ H := h H (Ex.refl H) _ fun vs H1 e hv => (List.append_nil vs).symm ▸ k vs H1 e hv
theorem s_callOp {sp : Sp} {E : XK} {ta : TA} {tb : TE} {r : R2} {g : TG} {Dn : Ends} (h : EAs ta σ H ds) (k : ∀ vs H1, Ex H H1 → DA H1 vs ds → sp vs H1 (fun v H2 => tb σ H2 fun y H3 => r v y H3 fun z H4 => g z σ H4 Dn.nx) E) : tAsg (tOp r (tCall sp [] E ta) tb) g Dn σ H := h H (Ex.refl H) _ fun vs H1 e hv => (List.append_nil vs).symm ▸ k vs H1 e hv
end
def rLenK (K : PySem.W.Frag) : List L2.V → Hp → VK → Prop := fun xs H Q => ∃ x n, xs = [x] ∧ LenV K x H n ∧ Q (.int ((n : Nat) : Int)) H
theorem DA.args4 {H : Hp} {vs : List V} {a b c e : PyData} (h : DA H vs [a, b, c, e]) : ∃ x y z u, vs = [x, y, z, u] ∧ D H x a ∧ D H y b ∧ D H z c ∧ D H u e := by
  cases h with
  | cons h t =>
    obtain ⟨y, z, u, rfl, hy, hz, hu⟩ := t.args3
    exact ⟨_, _, _, _, rfl, h, hy, hz, hu⟩
theorem DA.args5 {H : Hp} {vs : List V} {a b c e f : PyData} (h : DA H vs [a, b, c, e, f]) : ∃ x y z u v, vs = [x, y, z, u, v] ∧ D H x a ∧ D H y b ∧ D H z c ∧ D H u e ∧ D H v f := by
  cases h with
  | cons h t =>
    obtain ⟨y, z, u, v, rfl, hy, hz, hu, hv⟩ := t.args4
    exact ⟨_, _, _, _, _, rfl, h, hy, hz, hu, hv⟩
theorem eas3 {σ : L2.St} {H : Hp} {ta tb tc : TE} {a b c : PyData} (h1 : ED ta σ H a) (h2 : ED tb σ H b) (h3 : ED tc σ H c) : EAs (tCons ta (tCons tb (tCons tc tNil))) σ H [a, b, c] := eas_cons h1 (eas2 h2 h3)
theorem eas4 {σ : L2.St} {H : Hp} {ta tb tc td : TE} {a b c d : PyData} (h1 : ED ta σ H a) (h2 : ED tb σ H b) (h3 : ED tc σ H c) (h4 : ED td σ H d) : EAs (tCons ta (tCons tb (tCons tc (tCons td tNil)))) σ H [a, b, c, d] := eas_cons h1 (eas3 h2 h3 h4)
theorem eas5 {σ : L2.St} {H : Hp} {ta tb tc td te : TE} {a b c d e : PyData} (h1 : ED ta σ H a) (h2 : ED tb σ H b) (h3 : ED tc σ H c) (h4 : ED td σ H d) (h5 : ED te σ H e) : EAs (tCons ta (tCons tb (tCons tc (tCons td (tCons te tNil))))) σ H [a, b, c, d, e] := eas_cons h1 (eas4 h2 h3 h4 h5)
section
variable {K : PySem.W.Frag} {σ : L2.St} {H H' : Hp} {ta tb : TE} {ds es : List PyData}
theorem el_cat (ha : ED ta σ H (.list ds)) (hb : ED tb σ H (.list es)) (hz : ds.length + es.length ≤ 10000000) : EL (tOp rCat ta tb) σ H (ds ++ es) := fun H1 e Q q =>
  ha H1 e _ fun x H2 e2 hx => hb H2 (e.trans e2) _ fun y H3 e3 hy => by
    obtain ⟨p, xs, rfl, h1, a1⟩ := (hx.mono e3).toLst
    obtain ⟨r, ys, rfl, h2, a2⟩ := hy.toLst
    refine ⟨p, r, xs, ys, rfl, rfl, h1, h2, ?_, fun t nt => ?_⟩
    · rw [a1.len, a2.len]
      show _ ≤ 16777216
      omega
    · exact q t _ _ (fresh_back (e2.trans e3) nt) ((e2.trans e3).trans (Ex.new nt)) upd_same ((a1.append a2).mono (Ex.new nt))
end
theorem ed_m1 {σ : L2.St} {H : Hp} {i : Int} : ED (tUn (rU fun i => .int (-i)) (tC (.int i))) σ H (.int (-i)) := fun H2 e Q q => ⟨i, rfl, q _ H2 (Ex.refl _) (.int _)⟩
/-- a while by a measure that its invariant carries -/
theorem while_ev {c : TT} {tb : TS} {Dn : Ends} {σ : L2.St} {H : Hp} (Pv : Nat → L2.St → Hp → Prop) (m0 : Nat) (h0 : Pv m0 σ H)
    (hs : ∀ m σ H, Pv m σ H → ∃ b, EvT c σ H b ∧ (b = true → ∀ H1, Ex H H1 → tb { Dn with nx := fun σ' H' => ∃ m', m' < m ∧ Pv m' σ' H', ct := fun σ' H' => ∃ m', m' < m ∧ Pv m' σ' H', bk := Dn.nx } σ H1) ∧ (b = false → ∀ H1, Ex H H1 → Dn.nx σ H1)) : tWhile c tb Dn σ H :=
  ⟨Pv, ⟨m0, h0⟩, fun m σ H p => by
    obtain ⟨b, e, h1, h2⟩ := hs m σ H p
    refine e H (Ex.refl H) _ fun H1 e1 => ?_
    cases b with
    | true => exact ⟨_, fun σ' H' q => q, h1 rfl H1 e1⟩
    | false => exact h2 rfl H1 e1⟩
/-- a new list of new lists -/
def ELL (te : TE) (σ : L2.St) (H : Hp) (rs : List (List PyData)) : Prop := ∀ H1, Ex H H1 → ∀ Q : VK, (∀ p acc H2, H1 p = none → Ex H1 H2 → H2 p = some (.lst acc) → LL H1 H2 p acc rs → Q (.ref p) H2) → te σ H1 Q
def spLL (R : List PyData → List (List PyData) → Prop) : Sp := fun vs H Q _ => ∃ ds rs, DA H vs ds ∧ R ds rs ∧ ∀ p acc H', H p = none → Ex H H' → H' p = some (.lst acc) → LL H H' p acc rs → Q (.ref p) H'
theorem spLL_len {R : List PyData → List (List PyData) → Prop} {n : Nat} (h : ∀ ds d, R ds d → ds.length = n) : ∀ vs H Q E, spLL R vs H Q E → vs.length = n := fun vs H Q E ⟨ds, d, ha, r, _⟩ => ha.len.trans (h ds d r)
section
variable {K : PySem.W.Frag} {σ : L2.St} {H H' : Hp} {ta tb te tl : TE} {t u tt : TT} {v : V} {r : R2} {d d' z : PyData} {ds es : List PyData} {rs : List (List PyData)} {Dn : Ends}
theorem ELL.ed (h : ELL te σ H rs) : ED te σ H (.list (rs.map PyData.list)) := fun H1 e Q q => h H1 e Q fun p xs H2 _ e2 h2 a => q _ H2 e2 (.lst h2 a.da)
theorem ell_call {R : List PyData → List (List PyData) → Prop} {E : XK} {ta : TA} (h : EAs ta σ H ds) (hR : R ds rs) : ELL (tCall (spLL R) [] E ta) σ H rs := fun H1 e Q q =>
  h H1 e _ fun vs H2 e2 ha => ⟨ds, rs, by rw [List.append_nil]; exact ha, hR, fun p xs H3 hp e3 hv a => q p xs H3 (fresh_back e2 hp) (e2.trans e3) hv (a.low e2)⟩
theorem sll_asg {i : Nat} (h : ELL te σ H rs) (k : ∀ p acc H1, H p = none → Ex H H1 → H1 p = some (.lst acc) → LL H H1 p acc rs → Dn.nx (σ.set i (some (.ref p))) H1) : tAsg te (gName i) Dn σ H := h H (Ex.refl H) _ k
theorem sll_ret (h : ELL te σ H rs) (k : ∀ p acc H1, H p = none → Ex H H1 → H1 p = some (.lst acc) → LL H H1 p acc rs → Dn.rt (.ref p) H1) : tRet te Dn σ H := h H (Ex.refl H) _ k
theorem el_if {b : Bool} (h : EvT t σ H b) (h1 : b = true → EL ta σ H ds) (h2 : b = false → EL tb σ H ds) : EL (tIf t ta tb) σ H ds := fun H1 e Q q => h H1 e _ fun H2 e2 => by
  cases b with
  | true => exact h1 rfl H2 (e.trans e2) Q fun p xs H3 np e3 hp ha => q p xs H3 (fresh_back e2 np) (e2.trans e3) hp ha
  | false => exact h2 rfl H2 (e.trans e2) Q fun p xs H3 np e3 hp ha => q p xs H3 (fresh_back e2 np) (e2.trans e3) hp ha
def rListOf (K : PySem.W.Frag) : List V → Hp → VK → Prop := fun xs H Q => ∃ p ys, xs = [.ref p] ∧ (SqL K H p ys ∨ SqT K H p ys) ∧ ∀ l, H l = none → Q (.ref l) (upd H l (.lst ys))
theorem el_listL (ha : ED ta σ H (.list ds)) : EL (tCB (rListOf K) (tCons ta tNil)) σ H ds := fun H1 e Q q =>
  ha H1 e _ fun x H2 e2 hx => by
    obtain ⟨a, xs, rfl, h, t⟩ := hx.toLst
    exact ⟨a, xs, rfl, .inl (SqL.of h), fun l nl => q l xs _ (fresh_back e2 nl) (e2.trans (Ex.new nl)) upd_same (t.mono (Ex.new nl))⟩
theorem el_listT (ha : ED ta σ H (.tuple ds)) : EL (tCB (rListOf K) (tCons ta tNil)) σ H ds := fun H1 e Q q =>
  ha H1 e _ fun x H2 e2 hx => by
    obtain ⟨a, xs, rfl, h, t⟩ := hx.toTup
    exact ⟨a, xs, rfl, .inr (SqT.of h), fun l nl => q l xs _ (fresh_back e2 nl) (e2.trans (Ex.new nl)) upd_same (t.mono (Ex.new nl))⟩
def LW2 (H1 : Hp) (Dl : Addr) (rs : List (List PyData)) (H' : Hp) : Prop := H1 Dl = none ∧ Ex H1 H' ∧ ∃ acc, H' Dl = some (.lst acc) ∧ LL H1 H' Dl acc rs
theorem lw_step {H1 H' : Hp} {Dl : Addr} {σ2 : L2.St} (p : LW2 H1 Dl rs H') (hz : rs.length < 50000) (fl : flatTs ds = true) (he : EL te σ2 H1 ds) :
    tYes σ2 H' fun c H3 => if c = true then te σ2 H3 fun y H4 => ∃ acc, H4 Dl = some (.lst acc) ∧ acc.length < sizeLine ∧ LW2 H1 Dl (rs ++ [ds]) (upd H4 Dl (.lst (acc ++ [y]))) else LW2 H1 Dl (rs ++ [ds]) H3 := by
  obtain ⟨p1, p2, acc, p3, p4⟩ := p
  refine (et_yes : EvT tYes σ2 H' true) H' (Ex.refl _) _ fun H3 e3 => ?_
  rw [if_pos rfl]
  refine he H3 (p2.trans e3) _ fun p xs H4 np e4 hp hd => ⟨acc, e4 _ _ (e3 _ _ p3), sz_lt (by rw [p4.len]; omega), p1, Ex.mut ((p2.trans e3).trans e4) p1, acc ++ [.ref p], upd_same, ?_⟩
  have hD := e4 _ _ (e3 _ _ p3)
  have ne : p ≠ Dl := (ne_of_none (e3 _ _ p3) np).symm
  exact LL.snoc (fresh_back (p2.trans e3) np) ne (by rw [upd_ne ne]; exact hp) (DA.keep (tu_upd hD) fl hd) fl (((p4.mono e3).mono e4).put hD)
theorem take_map1 {α : Type} {ds : List α} {i : Nat} {d : α} (g : α → List PyData) (h : ds[i]? = some d) : (ds.take (i + 1)).map g = (ds.take i).map g ++ [g d] := by
  rw [List.take_add_one, h]
  show (ds.take i ++ [d]).map g = _
  rw [List.map_append]; rfl
/-- over a list of data of any kind -/
theorem el_lcL2 {α : Type} {as : List α} {enc : α → PyData} {g : TG} {vs : List Nat} (f : α → Bool) (ge : α → PyData) (h : ED tl σ H (.list (as.map enc))) (hz : as.length ≤ 40000) (fl : ∀ a ∈ as, f a = true → flatT (ge a) = true)
    (hg : ∀ a ∈ as, ∀ x H1, Ex H H1 → D H1 x (enc a) → ∃ σ2, wipe σ2 vs = wipe σ vs ∧ (∀ H2, Ex H1 H2 → ∀ R : L2.St → Hp → Prop, R σ2 H2 → g x (wipe σ vs) H2 R) ∧ EvT tt σ2 H1 (f a) ∧ (f a = true → ED te σ2 H1 (ge a))) :
    EL (tLc (iList K tl) g tt te vs) σ H ((as.filter f).map ge) := fun H0 e Q q => h H0 e _ fun x H1 e1 hx => by
  obtain ⟨p, xs, rfl, hp, ha⟩ := hx.toLst
  refine ⟨p, rfl, ⟨xs, SqL.of hp⟩, fun Dl hD => ?_⟩
  have xl : xs.length = as.length := by rw [ha.len, List.length_map]
  refine lc_list (xs := xs) (fun i H' => CW H1 Dl (((as.take i).filter f).map ge) H') ⟨hD, Ex.new hD, [], upd_same, .nil⟩ (fun i H' _ c => SqL.of (c.2.1 _ _ hp)) (fun i y H' hi c => ?_) (fun H' c => ?_)
  · obtain ⟨dd, hd, hy⟩ := ha.get2 hi
    obtain ⟨a, h1, h2⟩ : ∃ a, as[i]? = some a ∧ dd = enc a := by
      rw [List.getElem?_map] at hd
      cases k : as[i]? with
      | none => rw [k] at hd; cases hd
      | some a => rw [k] at hd; exact ⟨a, rfl, (Option.some.inj hd).symm⟩
    subst h2
    have am := List.mem_of_getElem? h1
    obtain ⟨σ2, w1, w2, w3, w4⟩ := hg a am y H1 (e.trans e1) hy
    refine w2 H' c.2.1 _ ⟨w1, ?_⟩
    have st := cw_step (te := te) (tt := tt) (σ2 := σ2) (d := ge a) c (by have := fm_len (as.take i) f ge; rw [List.length_take] at this; omega) (flat_fm _ f ge fun d hd => fl d (List.mem_of_mem_take hd)) w3 (fun hb => ⟨w4 hb, fl a am hb⟩)
    rw [← take_fm f ge h1] at st
    exact st
  · rw [xl, List.take_length] at c
    obtain ⟨c1, c2, acc, c3, c4⟩ := c
    exact q Dl acc H' (fresh_back e1 hD) (e1.trans c2) c3 c4
/-- a new list for each item of a list -/
theorem el_lcLN {α : Type} {as : List α} {enc : α → PyData} {g : TG} {vs : List Nat} (ge : α → List PyData) (h : ED tl σ H (.list (as.map enc))) (hz : as.length ≤ 40000) (fl : ∀ a ∈ as, flatTs (ge a) = true)
    (hg : ∀ a ∈ as, ∀ x H1, Ex H H1 → D H1 x (enc a) → ∃ σ2, wipe σ2 vs = wipe σ vs ∧ (∀ H2, Ex H1 H2 → ∀ R : L2.St → Hp → Prop, R σ2 H2 → g x (wipe σ vs) H2 R) ∧ EL te σ2 H1 (ge a)) :
    ELL (tLc (iList K tl) g tYes te vs) σ H (as.map ge) := fun H0 e Q q => h H0 e _ fun x H1 e1 hx => by
  obtain ⟨p, xs, rfl, hp, ha⟩ := hx.toLst
  refine ⟨p, rfl, ⟨xs, SqL.of hp⟩, fun Dl hD => ?_⟩
  have xl : xs.length = as.length := by rw [ha.len, List.length_map]
  refine lc_list (xs := xs) (fun i H' => LW2 H1 Dl ((as.take i).map ge) H') ⟨hD, Ex.new hD, [], upd_same, .nil⟩ (fun i H' _ c => SqL.of (c.2.1 _ _ hp)) (fun i y H' hi c => ?_) (fun H' c => ?_)
  · obtain ⟨dd, hd, hy⟩ := ha.get2 hi
    obtain ⟨a, h1, h2⟩ : ∃ a, as[i]? = some a ∧ dd = enc a := by
      rw [List.getElem?_map] at hd
      cases k : as[i]? with
      | none => rw [k] at hd; cases hd
      | some a => rw [k] at hd; exact ⟨a, rfl, (Option.some.inj hd).symm⟩
    subst h2
    have am := List.mem_of_getElem? h1
    obtain ⟨σ2, w1, w2, w4⟩ := hg a am y H1 (e.trans e1) hy
    refine w2 H' c.2.1 _ ⟨w1, ?_⟩
    have st := lw_step (te := te) (σ2 := σ2) (ds := ge a) c (by rw [List.length_map, List.length_take]; omega) (fl a am) w4
    rw [← take_map1 ge h1] at st
    exact st
  · rw [xl, List.take_length] at c
    obtain ⟨c1, c2, acc, c3, c4⟩ := c
    exact q Dl acc H' (fresh_back e1 hD) (e1.trans c2) c3 (c4.low e1)
/-- a new list for each number of a range -/
theorem el_lcRN {ta : TA} {n : Nat} {g : TG} {vs : List Nat} (ge : Nat → List PyData) (h : EAs ta σ H [.int (n : Int)]) (hz : n ≤ 40000) (fl : ∀ i, i < n → flatTs (ge i) = true)
    (hg : ∀ i, i < n → ∀ H1, Ex H H1 → ∃ σ2, wipe σ2 vs = wipe σ vs ∧ (∀ H2, Ex H1 H2 → ∀ R : L2.St → Hp → Prop, R σ2 H2 → g (.int (i : Int)) (wipe σ vs) H2 R) ∧ EL te σ2 H1 (ge i)) :
    ELL (tLc (iRng1 ta) g tYes te vs) σ H ((List.range n).map ge) := fun H0 e Q q => h H0 e _ fun xs H1 e1 hx => by
  obtain ⟨x, rfl, hx1⟩ := hx.args1
  have ex := hx1.toInt
  subst ex
  refine ⟨(n : Int), rfl, by omega, by omega, fun Dl hD => ?_⟩
  refine lc_range (lo := 0) (n := n) (fun i H' => LW2 H1 Dl (((List.range n).take i).map ge) H') ⟨hD, Ex.new hD, [], upd_same, .nil⟩ (fun i H' hi c => ?_) (fun H' c => ?_)
  · have h1 : (List.range n)[i]? = some i := List.getElem?_range hi
    obtain ⟨σ2, w1, w2, w4⟩ := hg i hi H1 (e.trans e1)
    have e0 : (0 : Int) + (i : Int) = (i : Int) := Int.zero_add _
    rw [e0]
    refine w2 _ c.2.1 _ ⟨w1, ?_⟩
    have st := lw_step (te := te) (σ2 := σ2) (ds := ge i) c (by rw [List.length_map, List.length_take, List.length_range]; omega) (fl i hi) w4
    rw [← take_map1 ge h1] at st
    exact st
  · rw [List.take_of_length_le (by rw [List.length_range]; exact Nat.le_refl _)] at c
    obtain ⟨c1, c2, acc, c3, c4⟩ := c
    exact q Dl acc H' (fresh_back e1 hD) (e1.trans c2) c3 (c4.low e1)
end
/-! ### pairs that are asked -/
open PySem.Froz (sing)
def encA (p : Pair) : PyData := .tuple [.int p.1, .str (sing p.2)]
def encN (p : NumP) : PyData := .tuple [.str (sing p.1), .int p.2]
theorem flat_A (p : Pair) : flatT (encA p) = true := rfl
theorem flat_N (p : NumP) : flatT (encN p) = true := rfl
theorem flat_Ns (l : List NumP) : flatTs (l.map encN) = true := flat_map flat_N l
theorem flat_As (l : List Pair) : flatTs (l.map encA) = true := flat_map flat_A l
theorem sing_inj' {a b : Nat} : (sing a = sing b) ↔ a = b := ⟨sing_inj, fun h => by rw [h]⟩
theorem eqv_str (a b : Str) : PyData.eqv (.str a) (.str b) = decide (a = b) := by
  simp only [PyData.eqv]
  by_cases h : a = b
  · subst h; simp
  · rw [decide_eq_false h]
    exact beq_eq_false_iff_ne.mpr h
theorem eqv_encA (p q : Pair) : PyData.eqv (encA p) (encA q) = decide (p = q) := by
  obtain ⟨a, b⟩ := p
  obtain ⟨c, d⟩ := q
  simp only [encA, PyData.eqv, PyData.eqvAll]
  have h1 : (sing b == sing d) = decide (b = d) := by
    by_cases h : b = d
    · subst h; simp
    · rw [decide_eq_false h]
      exact beq_eq_false_iff_ne.mpr fun e => h (sing_inj e)
  rw [h1]
  by_cases h : a = c
  · subst h
    by_cases h2 : b = d
    · subst h2; simp
    · simp [h2]
  · have : (a == c) = false := beq_eq_false_iff_ne.mpr h
    rw [this]
    simp [h]
theorem any_encA (l : List Pair) (p : Pair) : ((l.map encA).any fun z => PyData.eqv z (encA p)) = decide (p ∈ l) := by
  induction l with
  | nil => simp
  | cons x l ih =>
    rw [List.map_cons, List.any_cons, ih, eqv_encA]
    by_cases h : x = p
    · subst h; simp
    · have h2 : ¬ p = x := fun e => h e.symm
      simp [h, h2]
theorem any_sing (l : List Nat) (c : Nat) : (((l.map sing).map PyData.str).any fun z => PyData.eqv z (.str (sing c))) = decide (c ∈ l) := by
  induction l with
  | nil => simp
  | cons x l ih =>
    rw [List.map_cons, List.map_cons, List.any_cons, ih, eqv_str]
    by_cases h : x = c
    · subst h; simp
    · have h2 : ¬ c = x := fun e => h e.symm
      have h3 : ¬ sing x = sing c := fun e => h (sing_inj e)
      simp [h2, h3]
theorem lay_sing {c : Nat} (h : c ∈ abc) : (PyData.str (sing c)).canLay0 = true := by
  have := strs_lay [sing c] fun s hs c' hc' => by
    rw [List.mem_singleton] at hs
    subst hs
    have : c' = c := by simpa [sing] using hc'
    rw [this]; exact h
  simpa [PyData.canLayAll0] using this
theorem sings_shaped {l : List Nat} (h : ∀ c ∈ l, c ∈ abc) : SeqAt.shaped (.list ((l.map sing).map PyData.str)) = true := strs_shaped fun s hs c hc => by
  obtain ⟨d, hd, rfl⟩ := List.mem_map.mp hs
  have : c = d := by simpa [sing] using hc
  rw [this]; exact h d hd
theorem sing_shaped {c : Nat} (h : c ∈ abc) : SeqAt.shaped (.str (sing c)) = true := shaped_of (lay_sing h) (by simp [PyData.depth])
theorem encAs_lay : ∀ l : List Pair, (∀ p ∈ l, p.2 ∈ abc) → PyData.canLayAll0 (l.map encA) = true
  | [], _ => by simp [PyData.canLayAll0]
  | p :: l, h => by
    have i := encAs_lay l fun q hq => h q (List.mem_cons_of_mem _ hq)
    have e := lay_sing (h p List.mem_cons_self)
    simp [PyData.canLayAll0, PyData.canLay0, encA, i, e]
    simpa [PyData.canLay0] using e
theorem encAs_depth : ∀ l : List Pair, PyData.depthAll (l.map encA) ≤ 1
  | [] => by simp [PyData.depthAll]
  | p :: l => by
    have := encAs_depth l
    simp [PyData.depthAll, PyData.depth, encA]
    omega
theorem encAs_shaped {l : List Pair} (h : ∀ p ∈ l, p.2 ∈ abc) : SeqAt.shaped (.list (l.map encA)) = true := by
  refine shaped_of ?_ ?_
  · simp only [PyData.canLay0]; exact encAs_lay l h
  · have := encAs_depth l
    simp only [PyData.depth]; omega
theorem encA_shaped {p : Pair} (h : p.2 ∈ abc) : SeqAt.shaped (encA p) = true := by
  refine shaped_of ?_ ?_
  · have := encAs_lay [p] fun q hq => by rw [List.mem_singleton] at hq; rw [hq]; exact h
    simpa [PyData.canLayAll0] using this
  · simp [encA, PyData.depth, PyData.depthAll]
theorem eqv_encAs : ∀ a b : List Pair, PyData.eqvAll (a.map encA) (b.map encA) = decide (a = b)
  | [], [] => by simp [PyData.eqvAll]
  | [], _ :: _ => by simp [PyData.eqvAll]
  | _ :: _, [] => by simp [PyData.eqvAll]
  | x :: a, y :: b => by
    simp only [List.map_cons, PyData.eqvAll, eqv_encAs a b, eqv_encA]
    by_cases h : x = y
    · subst h
      by_cases h2 : a = b
      · subst h2; simp
      · simp [h2]
    · simp [h]
section
variable {σ : L2.St} {H : Hp} {ta tb : TE}
theorem ed_neS {s s' : Str} (ha : ED ta σ H (.str s)) (hb : ED tb σ H (.str s')) : ED (tOp rNe ta tb) σ H (.bool (!decide (s = s'))) := ed_bin' ha hb fun x y H1 _ hx hy Q q => by
  have e1 := hx.toStr
  have e2 := hy.toStr
  subst e1 e2
  refine ⟨rfl, ?_⟩
  have e : decide (V.str s = V.str s') = decide (s = s') := by
    by_cases h : s = s'
    · subst h; simp
    · rw [decide_eq_false h]; exact decide_eq_false (fun z => h (V.str.inj z))
  rw [e]
  exact q _ H1 (Ex.refl H1) (.bl _)
theorem any_int (l : List Int) (c : Int) : ((l.map PyData.int).any fun z => PyData.eqv z (.int c)) = decide (c ∈ l) := by
  induction l with
  | nil => simp
  | cons x l ih =>
    rw [List.map_cons, List.any_cons, ih]
    simp only [PyData.eqv]
    by_cases h : x = c
    · subst h; simp
    · have h2 : ¬ c = x := fun e => h e.symm
      have h3 : (x == c) = false := beq_eq_false_iff_ne.mpr h
      simp [h2, h3]
end
theorem for_rng2 {ta : TA} {g : TG} {tb : TS} {Dn : Ends} {σ : L2.St} {H : Hp} {i j : Int} (h : EAs ta σ H [.int i, .int j]) (b : -(2 ^ 62) ≤ i ∧ i < 2 ^ 62 ∧ -(2 ^ 62) ≤ j ∧ j < 2 ^ 62)
    (k : ∀ H1, Ex H H1 → ∃ W : Nat → Nat → L2.St → Hp → Prop, (∃ m, W 0 m σ H1) ∧ ∀ n m σ H, W n m σ H →
      ((Itr i (j - i).toNat).stop n H ∧ Dn.nx σ H) ∨ ((Itr i (j - i).toNat).go n H ∧ ∃ N : L2.St → Hp → Prop, (∀ σ' H', N σ' H' → ∃ m', m' < m ∧ W (n + 1) m' σ' H') ∧ ∀ x H', (Itr i (j - i).toNat).yld n H x H' → g x σ H' fun σ2 H2 => tb { Dn with nx := N, ct := N, bk := Dn.nx } σ2 H2)) : tFor (iRng2 ta) g tb Dn σ H :=
  h H (Ex.refl _) _ fun vs H1 e a => by
    obtain ⟨v1, v2, rfl, g1, g2⟩ := a.args2
    obtain rfl := g1.toInt
    obtain rfl := g2.toInt
    exact ⟨i, j, rfl, b, k H1 e⟩
/-- a for over a new list of data -/
theorem for_elL {K : PySem.W.Frag} {α : Type} {as : List α} {enc : α → PyData} {te : TE} {g : TG} {tb : TS} {Dn : Ends} {σ : L2.St} {H : Hp} (h : EL te σ H (as.map enc)) (Pv : Hp → Nat → L2.St → Hp → Prop) (h0 : ∀ H1, Ex H H1 → Pv H1 0 σ H1) (hl : ∀ H1 i σ' H', Pv H1 i σ' H' → Ex H1 H')
    (hs : ∀ H1 i a x σ' H', Ex H H1 → as[i]? = some a → Pv H1 i σ' H' → D H' x (enc a) → g x σ' H' fun σ2 H2 => tb { Dn with nx := Pv H1 (i + 1), ct := Pv H1 (i + 1), bk := Dn.nx } σ2 H2) (hd : ∀ H1 σ' H', Ex H H1 → Pv H1 as.length σ' H' → Dn.nx σ' H') : tFor (iList K te) g tb Dn σ H :=
  h H (Ex.refl _) _ fun p xs H1 np e hp ha => by
    have xl : xs.length = as.length := by rw [ha.len, List.length_map]
    refine ⟨p, rfl, ⟨xs, SqL.of hp⟩, for_list (K := K) (a := p) (xs := xs) (Pv H1) (h0 H1 e) (fun i σ' H' _ q => SqL.of (hl H1 i σ' H' q _ _ hp)) (fun i v σ' H' hi q => ?_) (fun σ' H' q => hd H1 σ' H' e (xl ▸ q))⟩
    obtain ⟨dp, hdp, hv⟩ := ha.get2 hi
    obtain ⟨a, g1, g2⟩ : ∃ a, as[i]? = some a ∧ dp = enc a := by
      rw [List.getElem?_map] at hdp
      cases z : as[i]? with
      | none => rw [z] at hdp; cases hdp
      | some a => rw [z] at hdp; exact ⟨a, rfl, (Option.some.inj hdp).symm⟩
    subst g2
    exact hs H1 i a v σ' H' e g1 q (hv.mono (hl H1 i σ' H' q))
/-- a for over a new list of flat data, in which one list that stood is changed -/
theorem for_elLr {K : PySem.W.Frag} {α : Type} {as : List α} {enc : α → PyData} {te : TE} {g : TG} {tb : TS} {Dn : Ends} {σ : L2.St} {H : Hp} {r : Addr} {zs : List V} (hr : H r = some (.lst zs)) (fl : ∀ a ∈ as, flatT (enc a) = true) (h : EL te σ H (as.map enc)) (Pv : Hp → Nat → L2.St → Hp → Prop) (h0 : ∀ H1, Ex H H1 → Pv H1 0 σ H1)
    (hl : ∀ H1 i σ' H', Ex H H1 → Pv H1 i σ' H' → ∀ a o, a ≠ r → H1 a = some o → H' a = some o)
    (hs : ∀ H1 i a x σ' H', Ex H H1 → as[i]? = some a → Pv H1 i σ' H' → D H' x (enc a) → g x σ' H' fun σ2 H2 => tb { Dn with nx := Pv H1 (i + 1), ct := Pv H1 (i + 1), bk := Dn.nx } σ2 H2) (hd : ∀ H1 σ' H', Ex H H1 → Pv H1 as.length σ' H' → Dn.nx σ' H') : tFor (iList K te) g tb Dn σ H :=
  h H (Ex.refl _) _ fun p xs H1 np e hp ha => by
    have xl : xs.length = as.length := by rw [ha.len, List.length_map]
    have pr : p ≠ r := (ne_of_none hr np).symm
    refine ⟨p, rfl, ⟨xs, SqL.of hp⟩, for_list (K := K) (a := p) (xs := xs) (Pv H1) (h0 H1 e) (fun i σ' H' _ q => SqL.of (hl H1 i σ' H' e q _ _ pr hp)) (fun i v σ' H' hi q => ?_) (fun σ' H' q => hd H1 σ' H' e (xl ▸ q))⟩
    obtain ⟨dp, hdp, hv⟩ := ha.get2 hi
    obtain ⟨a, g1, g2⟩ : ∃ a, as[i]? = some a ∧ dp = enc a := by
      rw [List.getElem?_map] at hdp
      cases z : as[i]? with
      | none => rw [z] at hdp; cases hdp
      | some a => rw [z] at hdp; exact ⟨a, rfl, (Option.some.inj hdp).symm⟩
    subst g2
    exact hs H1 i a v σ' H' e g1 q (D.keep (fun b ys hb => hl H1 i σ' H' e q _ _ (ne_of hb (e _ _ hr) (by intro z; cases z)) hb) (fl a (List.mem_of_getElem? g1)) hv)
end KS
end
set_option maxHeartbeats 1000000
noncomputable section
namespace KS
open PySem PySem.Spec PyProof.Rows L2 Evl
/-! ### texts that tell a family -/
def weldL (e : Int × Int) : List Nat := (48 + e.1.toNat) :: (if e.2 = 0 then [] else [42])
def nameL (k : Kind) : List Nat := if k.el = [] then [45] else TL.joinL [44] (k.el.map weldL)
def deedL (k : Kind) : List Nat := if k.de.cps.toList = [] then [45] else k.de.cps.toList
def cellL (k : Kind) : List Nat := [48 + k.ce.toNat]
def kindL : List Nat := [107, 105, 110, 100]
def rowW (k : Kind) : List (List Nat) := [kindL, nameL k, deedL k, cellL k]
def rowL (k : Kind) : List Nat := TL.joinL [32] (rowW k)
def famL (f : Fam) : List Nat := TL.joinL [10] (f.map rowL)
theorem tl_txt (l : List Nat) : TL.tl (txt l) = l := rfl
theorem txt_app (a b : List Nat) : txt a ++ txt b = txt (a ++ b) := TL.ext_tl (by rw [TL.tl_append]; rfl)
theorem txt_len (l : List Nat) : (txt l).length = l.length := by rw [TL.len_tl]; rfl
theorem txt_inj {a b : List Nat} (h : txt a = txt b) : a = b := by
  have := congrArg TL.tl h
  exact this
theorem join_txt (s : List Nat) (ls : List (List Nat)) : Txt.join (txt s) (ls.map txt) = txt (TL.joinL s ls) := by
  refine TL.ext_tl ?_
  rw [TL.join_eq, TL.tl_join, List.map_map]
  show TL.joinL s (ls.map fun l => l) = TL.joinL s ls
  rw [List.map_id']
theorem split_txt {s : Nat} (hs : s < 256) {ls : List (List Nat)} (hne : ls ≠ []) (h : ∀ l ∈ ls, s ∉ l) : Txt.split (txt (TL.joinL [s] ls)) (txt [s]) = ls.map txt := by
  rw [← join_txt]
  refine TL.split_join (s := s) (S := []) rfl ?_ (by simpa using hne) fun p hp => ?_
  · show (#[s] : Array Nat).all _ = true
    simp [hs]
  · obtain ⟨l, hl, rfl⟩ := List.mem_map.mp hp
    exact h l hl
theorem join_mem {s x : Nat} : ∀ {ls : List (List Nat)}, x ∈ TL.joinL [s] ls → x = s ∨ ∃ l ∈ ls, x ∈ l
  | [], h => by simp [TL.joinL] at h
  | [l], h => .inr ⟨l, List.mem_singleton.mpr rfl, h⟩
  | l :: m :: r, h => by
    have h' : x ∈ l ++ ([s] ++ TL.joinL [s] (m :: r)) := h
    rcases List.mem_append.mp h' with h | h
    · exact .inr ⟨l, List.mem_cons_self, h⟩
    · rcases List.mem_append.mp h with h | h
      · exact .inl (List.mem_singleton.mp h)
      · rcases join_mem h with h | ⟨z, hz, h⟩
        · exact .inl h
        · exact .inr ⟨z, List.mem_cons_of_mem _ hz, h⟩
theorem join_len {s m : Nat} : ∀ {ls : List (List Nat)}, (∀ l ∈ ls, l.length ≤ m) → (TL.joinL [s] ls).length ≤ ls.length * (m + 1)
  | [], _ => Nat.zero_le _
  | [l], h => by
    have := h l (List.mem_singleton.mpr rfl)
    show l.length ≤ 1 * (m + 1)
    omega
  | l :: k :: r, h => by
    have h1 := h l List.mem_cons_self
    have h2 := join_len (s := s) (m := m) (ls := k :: r) fun z hz => h z (List.mem_cons_of_mem _ hz)
    show (l ++ ([s] ++ TL.joinL [s] (k :: r))).length ≤ _
    rw [List.length_append, List.length_append]
    show l.length + (1 + _) ≤ (r.length + 1 + 1) * (m + 1)
    have e : (r.length + 1 + 1) * (m + 1) = (r.length + 1) * (m + 1) + (m + 1) := Nat.succ_mul _ _
    rw [e]
    have h3 : (TL.joinL [s] (k :: r)).length ≤ (r.length + 1) * (m + 1) := h2
    omega
theorem join_lens {y : Nat} (ls : List (List Nat)) {m : Nat} (h : ∀ l ∈ ls, l.length ≤ m) : ((ls.map txt).map (·.length)).sum + (ls.map txt).length * (txt [y]).length ≤ ls.length * (m + 1) := by
  have e : (txt [y]).length = 1 := rfl
  rw [e, Nat.mul_one, List.length_map]
  induction ls with
  | nil => exact Nat.zero_le _
  | cons l r ih =>
    have h1 := h l List.mem_cons_self
    have h2 := ih fun z hz => h z (List.mem_cons_of_mem _ hz)
    rw [List.map_cons, List.map_cons, List.sum_cons, txt_len, List.length_cons]
    have e : (r.length + 1) * (m + 1) = r.length * (m + 1) + (m + 1) := Nat.succ_mul _ _
    rw [e]
    omega
/-- elders that can be told in one figure -/
def WdOk (e : Int × Int) : Prop := 0 ≤ e.1 ∧ e.1 < 10 ∧ (e.2 = 0 ∨ e.2 = 1)
theorem weld_len (e : Int × Int) : (weldL e).length ≤ 2 := by
  unfold weldL
  split <;> simp
theorem weld_sign {e : Int × Int} (h : WdOk e) {x : Nat} (hx : x ∈ weldL e) : (48 ≤ x ∧ x < 58) ∨ x = 42 := by
  obtain ⟨h0, h1, _⟩ := h
  unfold weldL at hx
  rcases List.mem_cons.mp hx with hx | hx
  · subst hx; left; omega
  · split at hx
    · cases hx
    · right; exact List.mem_singleton.mp hx
theorem abc_sign {x : Nat} (h : x ∈ abc) : 97 ≤ x ∧ x ≤ 102 := by
  simp only [abc, List.mem_cons, List.not_mem_nil, or_false] at h
  omega
theorem rise_abc2 {l : List Nat} (h : rise l) {x : Nat} (hx : x ∈ l) : x ∈ abc := by
  rw [h] at hx
  exact (List.mem_filter.mp hx).1
theorem rise_len6 {l : List Nat} (h : rise l) : l.length ≤ 6 := by
  rw [h]
  exact Nat.le_trans (List.length_filter_le _ _) (by decide)
section
variable {n : Nat} {k : Kind}
theorem KindOk.els (o : KindOk n k) (hn : n ≤ 10) : ∀ e ∈ k.el, WdOk e := fun e he => by
  obtain ⟨a, b, c⟩ := o.low e he
  exact ⟨a, by omega, c⟩
theorem name_sign (o : KindOk n k) (hn : n ≤ 10) {x : Nat} (hx : x ∈ nameL k) : 42 ≤ x ∧ x < 58 := by
  unfold nameL at hx
  split at hx
  · have := List.mem_singleton.mp hx; omega
  · rcases join_mem hx with h | ⟨l, hl, h⟩
    · omega
    · obtain ⟨e, he, rfl⟩ := List.mem_map.mp hl
      have := weld_sign (o.els hn e he) h
      omega
theorem name_len (o : KindOk n k) : (nameL k).length ≤ 9 := by
  unfold nameL
  split
  · decide
  · have := join_len (s := 44) (m := 2) (ls := k.el.map weldL) fun l hl => by
      obtain ⟨e, _, rfl⟩ := List.mem_map.mp hl
      exact weld_len e
    rw [List.length_map] at this
    have := o.few
    omega
theorem deed_sign (o : KindOk n k) {x : Nat} (hx : x ∈ deedL k) : x = 45 ∨ (97 ≤ x ∧ x ≤ 102) := by
  unfold deedL at hx
  split at hx
  · exact .inl (List.mem_singleton.mp hx)
  · exact .inr (abc_sign (rise_abc2 o.rise hx))
theorem deed_len (o : KindOk n k) : (deedL k).length ≤ 6 := by
  unfold deedL
  split
  · decide
  · exact rise_len6 o.rise
theorem roww_sign (o : KindOk n k) (hn : n ≤ 10) {l : List Nat} (hl : l ∈ rowW k) {x : Nat} (hx : x ∈ l) : 42 ≤ x := by
  simp only [rowW, List.mem_cons, List.not_mem_nil, or_false] at hl
  rcases hl with rfl | rfl | rfl | rfl
  · simp only [kindL, List.mem_cons, List.not_mem_nil, or_false] at hx
    omega
  · exact (name_sign o hn hx).1
  · have := deed_sign o hx; omega
  · have := List.mem_singleton.mp hx; omega
theorem roww_len (o : KindOk n k) {l : List Nat} (hl : l ∈ rowW k) : l.length ≤ 9 := by
  simp only [rowW, List.mem_cons, List.not_mem_nil, or_false] at hl
  rcases hl with rfl | rfl | rfl | rfl
  · decide
  · exact name_len o
  · have := deed_len o; omega
  · show 1 ≤ 9; decide
theorem row_len (o : KindOk n k) : (rowL k).length ≤ 40 := join_len (s := 32) (m := 9) (ls := rowW k) fun l hl => roww_len o hl
theorem row_sign (o : KindOk n k) (hn : n ≤ 10) {x : Nat} (hx : x ∈ rowL k) : 32 ≤ x := by
  rcases join_mem hx with h | ⟨l, hl, h⟩
  · omega
  · have := roww_sign o hn hl h; omega
theorem row_split (o : KindOk n k) (hn : n ≤ 10) : Txt.split (txt (rowL k)) (txt [32]) = (rowW k).map txt := split_txt (by decide) (by simp [rowW]) fun l hl hx => by
  have := roww_sign o hn hl hx; omega
theorem name_split (o : KindOk n k) (hn : n ≤ 10) (ne : k.el ≠ []) : Txt.split (txt (nameL k)) (txt [44]) = (k.el.map weldL).map txt := by
  unfold nameL
  rw [if_neg ne]
  refine split_txt (by decide) (by simpa using ne) fun l hl hx => ?_
  obtain ⟨e, he, rfl⟩ := List.mem_map.mp hl
  have := weld_sign (o.els hn e he) hx
  omega
end
theorem Valid.okAt {f : Fam} (V : Valid f) {k : Kind} (h : k ∈ f) : ∃ n, n ≤ 10 ∧ KindOk n k := by
  obtain ⟨i, hi⟩ := List.mem_iff_getElem?.mp h
  have := V.2.1
  have il : i < f.length := (List.getElem?_eq_some_iff.mp hi).1
  exact ⟨i, by omega, V.kinds i k hi⟩
theorem fam_split {f : Fam} (V : Valid f) : Txt.split (txt (famL f)) (txt [10]) = (f.map rowL).map txt := by
  refine split_txt (by decide) (by have := V.1; intro e; rw [List.map_eq_nil_iff] at e; subst e; exact absurd this (by decide)) fun l hl hx => ?_
  obtain ⟨k, hk, rfl⟩ := List.mem_map.mp hl
  obtain ⟨n, hn, o⟩ := V.okAt hk
  have := row_sign o hn hx
  omega
theorem fam_len {f : Fam} (V : Valid f) : (famL f).length ≤ 300 := by
  have := join_len (s := 10) (m := 40) (ls := f.map rowL) fun l hl => by
    obtain ⟨k, hk, rfl⟩ := List.mem_map.mp hl
    obtain ⟨n, hn, o⟩ := V.okAt hk
    exact row_len o
  rw [List.length_map] at this
  have := V.2.1
  unfold famL
  omega
theorem name_ne (k : Kind) : nameL k ≠ [] := by
  unfold nameL
  split
  · simp
  · rename_i h
    cases e : k.el with
    | nil => exact absurd e h
    | cons a r =>
      cases r with
      | nil => simp [TL.joinL, weldL]
      | cons b r => simp [TL.joinL, weldL]
theorem name_dash {n : Nat} {k : Kind} (o : KindOk n k) (hn : n ≤ 10) (ne : k.el ≠ []) : nameL k ≠ [45] := by
  unfold nameL
  rw [if_neg ne]
  cases e : k.el with
  | nil => exact absurd e ne
  | cons a r =>
    have h := o.els hn a (by rw [e]; exact List.mem_cons_self)
    obtain ⟨h0, h1, _⟩ := h
    cases r with
    | nil =>
      intro z
      have : weldL a = [45] := z
      have : 48 + a.1.toNat = 45 := (List.cons.inj this).1
      omega
    | cons b r =>
      intro z
      have : weldL a ++ ([44] ++ TL.joinL [44] (weldL b :: r.map weldL)) = [45] := z
      have : 48 + a.1.toNat = 45 := (List.cons.inj this).1
      omega
theorem deed_dash {n : Nat} {k : Kind} (o : KindOk n k) (ne : k.de.cps.toList ≠ []) : deedL k ≠ [45] := by
  unfold deedL
  rw [if_neg ne]
  intro z
  have : (45 : Nat) ∈ k.de.cps.toList := by rw [z]; exact List.mem_singleton.mpr rfl
  have := abc_sign (rise_abc2 o.rise this)
  omega
theorem num_txt {i : Int} (h0 : 0 ≤ i) (h1 : i < 10) : ((toString i : String) : Str) = txt [48 + i.toNat] := by
  obtain ⟨n, rfl⟩ := Int.eq_ofNat_of_zero_le h0
  refine TL.ext_tl ?_
  have := TL.tl_num n
  rw [TL.numL_lt (by omega)] at this
  exact this
theorem int_txt {i : Int} (h0 : 0 ≤ i) (h1 : i < 10) : intText? (txt [48 + i.toNat]) = some i := by
  rw [← num_txt h0 h1]
  obtain ⟨n, rfl⟩ := Int.eq_ofNat_of_zero_le h0
  exact TL.int_num (by rw [TL.numL_lt (by omega)]; exact (by decide : (1 : Nat) ≤ 4300))
end KS
end
set_option maxHeartbeats 1000000
noncomputable section
namespace KS
open PySem PySem.Spec PyProof.Rows L2 Evl
/-! ### texts joined, cut and filled -/
def rJn (K : PySem.W.Frag) : V → List V → Hp → VK → Prop := fun x xs H Q => ∃ a p, ∃ ys : List Str, x = .str a ∧ xs = [.ref p] ∧ (SqL K H p (ys.map V.str) ∨ SqT K H p (ys.map V.str)) ∧ (ys.map (·.length)).sum + ys.length * a.length ≤ 16777216 ∧ Q (.str (Txt.join a ys)) H
def rSpl : V → List V → Hp → VK → Prop := fun x xs H Q => ∃ a b, x = .str a ∧ xs = [.str b] ∧ (b.length == 0) = false ∧ a.length + 2 ≤ sizeLine ∧ rNewStrs (Txt.split a b) H Q
def rEnds : V → List V → Hp → VK → Prop := fun x xs H Q => ∃ a b, x = .str a ∧ xs = [.str b] ∧ Q (.bl (Txt.endswith a b)) H
section
variable {K : PySem.W.Frag} {σ : L2.St} {H : Hp} {ta tb te : TE} {d : PyData} {ds : List PyData}
theorem ed_cst {x : Str} {l : List Nat} (h : x = txt l) : ED (tC (.str x)) σ H (.str (txt l)) := h ▸ ed_cs x
theorem ed_joinT {y m : Nat} {ls : List (List Nat)} (h : ∀ l ∈ ls, l.length ≤ m) (hz : ls.length * (m + 1) ≤ 100000) (ha : ED ta σ H (.str (txt [y]))) (hb : ED tb σ H (.list ((ls.map txt).map PyData.str))) : ED (tM1 (rJn K) ta tb) σ H (.str (txt (TL.joinL [y] ls))) := fun H1 e Q q =>
  ha H1 e _ fun x H2 e2 hx => ⟨⟨_, hx.toStr⟩, hb H2 (e.trans e2) _ fun z H3 e3 hz' => by
    obtain ⟨p, xs, rfl, h1, t⟩ := hz'.toLst
    have e4 := t.strs
    subst e4
    refine ⟨txt [y], p, ls.map txt, hx.toStr, rfl, .inl (SqL.of h1), ?_, ?_⟩
    · have := join_lens (y := y) ls h
      omega
    · rw [join_txt]
      exact q _ H3 (e2.trans e3) (.str _)⟩
theorem el_split {s : Nat} {l : List Nat} {ls : List (List Nat)} (hs : Txt.split (txt l) (txt [s]) = ls.map txt) (hz : l.length ≤ 100000) (ha : ED ta σ H (.str (txt l))) (hb : ED tb σ H (.str (txt [s]))) : EL (tM1 rSpl ta tb) σ H ((ls.map txt).map PyData.str) := fun H1 e Q q =>
  ha H1 e _ fun x H2 e2 hx => ⟨⟨_, hx.toStr⟩, hb H2 (e.trans e2) _ fun z H3 e3 hz' => by
    refine ⟨txt l, txt [s], hx.toStr, by rw [hz'.toStr], rfl, by rw [txt_len]; show _ ≤ 16777216; omega, fun p np => ?_⟩
    rw [hs]
    exact q p _ _ (fresh_back (e2.trans e3) np) ((e2.trans e3).trans (Ex.new np)) upd_same (DA.ofStrs _)⟩
theorem ed_ends {a b : Str} {k : Bool} (hk : Txt.endswith a b = k) (ha : ED ta σ H (.str a)) (hb : ED tb σ H (.str b)) : ED (tM1 rEnds ta tb) σ H (.bool k) := fun H1 e Q q =>
  ha H1 e _ fun x H2 e2 hx => ⟨⟨_, hx.toStr⟩, hb H2 (e.trans e2) _ fun z H3 e3 hz' => ⟨a, b, hx.toStr, by rw [hz'.toStr], by rw [hk]; exact q _ H3 (e2.trans e3) (.bl _)⟩⟩
def EJs : List TE → L2.St → Hp → List (List Nat) → Prop
  | [], _, _, [] => True
  | t :: ts, σ, H, y :: ys => ED t σ H (.str (txt y)) ∧ EJs ts σ H ys
  | _, _, _, _ => False
theorem js_go : ∀ (ts : List TE) (ys : List (List Nat)), EJs ts σ H ys → ∀ (acc : List Nat), (acc ++ ys.flatten).length ≤ 10000 → ∀ H1, Ex H H1 → ∀ Q : Str → Hp → Prop, (∀ H2, Ex H1 H2 → Q (txt (acc ++ ys.flatten)) H2) → tJs ts (txt acc) σ H1 Q
  | [], [], _, acc, _, H1, _, Q, q => by
    have := q H1 (Ex.refl _)
    rw [List.flatten_nil, List.append_nil] at this
    exact this
  | t :: ts, y :: ys, h, acc, hz, H1, e, Q, q => by
    refine h.1 H1 e _ fun x H2 e2 hx => ⟨txt y, hx.toStr, ?_, ?_⟩
    · rw [txt_app, txt_len]
      rw [List.flatten_cons, List.length_append, List.length_append] at hz
      rw [List.length_append]
      show _ ≤ 16777216
      omega
    · rw [txt_app]
      refine js_go ts ys h.2 (acc ++ y) (by rw [List.flatten_cons, ← List.append_assoc] at hz; exact hz) H2 (e.trans e2) Q fun H3 e3 => ?_
      have := q H3 (e2.trans e3)
      rw [List.flatten_cons, ← List.append_assoc] at this
      exact this
  | [], _ :: _, h, _, _, _, _, _, _ => h.elim
  | _ :: _, [], h, _, _, _, _, _, _ => h.elim
theorem ed_js {ts : List TE} {ys : List (List Nat)} {l : List Nat} (h : EJs ts σ H ys) (hl : ys.flatten = l) (hz : l.length ≤ 10000) : ED (fun σ H Q => tJs ts Str.empty σ H fun out H1 => Q (.str out) H1) σ H (.str (txt l)) := fun H1 e Q q => by
  subst hl
  exact js_go ts ys h [] (by rw [List.nil_append]; exact hz) H1 e _ fun H2 e2 => q _ H2 e2 (.str _)
theorem ed_fmtS {l : List Nat} (hz : l.length ≤ 10000) (h : ED te σ H (.str (txt l))) : ED (tFmt te) σ H (.str (txt l)) := fun H1 e Q q =>
  h H1 e _ fun x H2 e2 hx => .inl ⟨txt l, hx.toStr, by rw [txt_len]; show _ ≤ 16777216; omega, q _ H2 e2 (.str _)⟩
theorem ed_fmtI {i : Int} (h0 : 0 ≤ i) (h1 : i < 10) (h : ED te σ H (.int i)) : ED (tFmt te) σ H (.str (txt [48 + i.toNat])) := fun H1 e Q q =>
  h H1 e _ fun x H2 e2 hx => .inr ⟨i, hx.toInt, by
    have : i.natAbs < 10 := by omega
    rcases Nat.eq_zero_or_pos i.natAbs with z | z
    · rw [z]; decide
    · exact Nat.lt_of_lt_of_le ((Nat.log2_lt (by omega)).mpr (show i.natAbs < 2 ^ 4 by omega)) (by decide), by
    rw [num_txt h0 h1]
    exact q _ H2 e2 (.str _)⟩
theorem ed_orS {l m : List Nat} (hz : l.length ≤ 10000) (ha : ED ta σ H (.str (txt l))) (hb : ED tb σ H (.str (txt m))) : ED (tOrT K ta tb) σ H (.str (txt (if l = [] then m else l))) := fun H1 e Q q =>
  ha H1 e _ fun x H2 e2 hx => by
    have ex := hx.toStr
    subst ex
    refine ⟨decide (l ≠ []), ⟨by rw [txt_len]; show _ ≤ 16777216; omega, ?_⟩, ?_⟩
    · rw [txt_len]
      cases l with
      | nil => rfl
      | cons a r =>
        rw [decide_eq_true (by simp)]
        have : ((a :: r).length : Int) ≠ 0 := by simp; omega
        exact (bne_iff_ne.mpr this).symm
    · by_cases h : l = []
      · rw [if_neg (by simp [h])]
        refine hb H2 (e.trans e2) _ fun v H3 e3 hv => q v H3 (e2.trans e3) ?_
        rw [if_pos h]; exact hv
      · rw [if_pos (by simp [h])]
        refine q _ H2 e2 ?_
        rw [if_neg h]; exact .str _
theorem ed_ixTx {l : List Nat} {i : Int} {c : Nat} (hz : l.length ≤ 10000) (hc : atI l i = some c) (ha : ED ta σ H (.str (txt l))) (hb : ED tb σ H (.int i)) : ED (tOp rIxS ta tb) σ H (.str (txt [c])) := ed_bin' ha hb fun x y H1 _ hx hy Q q =>
  ⟨txt l, i, c, hx.toStr, hy.toInt, by rw [txt_len]; show _ ≤ 16777216; omega, hc, q _ H1 (Ex.refl _) (.str _)⟩
theorem ed_lenTx {l : List Nat} (hz : l.length ≤ 10000) (ha : ED ta σ H (.str (txt l))) : ED (tCB (fun xs H Q => ∃ x n, xs = [x] ∧ LenV K x H n ∧ Q (.int n) H) (tCons ta tNil)) σ H (.int ((l.length : Nat) : Int)) := ed_len ha ⟨txt_len l, by show _ ≤ 16777216; omega⟩
def rIntS : List V → Hp → VK → Prop := fun xs H Q => ∃ a n, xs = [.str a] ∧ PySem.intText? a = some n ∧ a.length ≤ 640 ∧ Q (.int n) H
theorem ed_intS {i : Int} (h0 : 0 ≤ i) (h1 : i < 10) (ha : ED ta σ H (.str (txt [48 + i.toNat]))) : ED (tCB rIntS (tCons ta tNil)) σ H (.int i) := fun H1 e Q q =>
  ha H1 e _ fun x H2 e2 hx => ⟨_, i, by rw [hx.toStr], int_txt h0 h1, by rw [txt_len]; show 1 ≤ 640; decide, q _ H2 e2 (.int _)⟩
def rStrI : List V → Hp → VK → Prop := fun xs H Q => ∃ i, xs = [.int i] ∧ i.natAbs.log2 < 1920 ∧ Q (.str (toString i)) H
theorem ed_strI {i : Int} (h0 : 0 ≤ i) (h1 : i < 10) (ha : ED ta σ H (.int i)) : ED (tCB rStrI (tCons ta tNil)) σ H (.str (txt [48 + i.toNat])) := fun H1 e Q q =>
  ha H1 e _ fun x H2 e2 hx => ⟨i, by rw [hx.toInt], by
    rcases Nat.eq_zero_or_pos i.natAbs with z | z
    · rw [z]; decide
    · exact Nat.lt_of_lt_of_le ((Nat.log2_lt (by omega)).mpr (show i.natAbs < 2 ^ 4 by omega)) (by decide), by
    rw [num_txt h0 h1]
    exact q _ H2 e2 (.str _)⟩
def rTupOf (K : PySem.W.Frag) : List V → Hp → VK → Prop := fun xs H Q => ∃ p ys, xs = [.ref p] ∧ ((SqL K H p ys ∧ ∀ l, H l = none → Q (.ref l) (upd H l (.tup ys))) ∨ (SqT K H p ys ∧ Q (.ref p) H))
theorem ed_tupOf {ds : List PyData} (ha : ED ta σ H (.list ds)) : ED (tCB (rTupOf K) (tCons ta tNil)) σ H (.tuple ds) := fun H1 e Q q =>
  ha H1 e _ fun x H2 e2 hx => by
    obtain ⟨a, xs, rfl, h, t⟩ := hx.toLst
    exact ⟨a, xs, rfl, .inl ⟨SqL.of h, fun l nl => q _ _ (e2.trans (Ex.new nl)) (.tup upd_same (t.mono (Ex.new nl)))⟩⟩
theorem ed_eqT {a b : List Nat} (ha : ED ta σ H (.str (txt a))) (hb : ED tb σ H (.str (txt b))) : ED (tOp rEq ta tb) σ H (.bool (decide (a = b))) := ed_is (ed_eqS ha hb) (by
  by_cases h : a = b
  · subst h; simp
  · rw [decide_eq_false h, decide_eq_false fun e => h (txt_inj e)])
theorem ed_neT {a b : List Nat} (ha : ED ta σ H (.str (txt a))) (hb : ED tb σ H (.str (txt b))) : ED (tOp rNe ta tb) σ H (.bool (!decide (a = b))) := ed_is (ed_neS ha hb) (by
  by_cases h : a = b
  · subst h; simp
  · rw [decide_eq_false h, decide_eq_false fun e => h (txt_inj e)])
end
end KS
end
set_option maxHeartbeats 1000000
noncomputable section
namespace KS
open PySem PySem.Spec PyProof.Rows L2 Evl
/-! ### a text cut at a sign -/
def splitL (s : Nat) : List Nat → List (List Nat)
  | [] => [[]]
  | c :: r => if c = s then [] :: splitL s r else match splitL s r with
    | [] => [[c]]
    | h :: t => (c :: h) :: t
theorem splitL_ne (s : Nat) : ∀ l : List Nat, splitL s l ≠ []
  | [] => by simp [splitL]
  | c :: r => by
    show (if c = s then _ else _) ≠ []
    split
    · simp
    · split <;> simp
theorem splitL_free (s : Nat) : ∀ (l : List Nat), ∀ p ∈ splitL s l, s ∉ p
  | [], p, h => by
    have : p = [] := by simpa [splitL] using h
    subst this; simp
  | c :: r, p, h => by
    have ih := splitL_free s r
    have h' : p ∈ (if c = s then [] :: splitL s r else match splitL s r with
      | [] => [[c]]
      | h :: t => (c :: h) :: t) := h
    split at h'
    · rcases List.mem_cons.mp h' with rfl | h'
      · simp
      · exact ih p h'
    · rename_i nc
      split at h'
      · have : p = [c] := by simpa using h'
        subst this
        intro z
        exact nc (List.mem_singleton.mp z).symm
      · rename_i a t e
        rw [e] at ih
        rcases List.mem_cons.mp h' with rfl | h'
        · intro z
          rcases List.mem_cons.mp z with z | z
          · exact nc z.symm
          · exact ih a List.mem_cons_self z
        · exact ih p (List.mem_cons_of_mem _ h')
theorem splitL_join (s : Nat) : ∀ l : List Nat, TL.joinL [s] (splitL s l) = l
  | [] => rfl
  | c :: r => by
    have ih := splitL_join s r
    have ne := splitL_ne s r
    show TL.joinL [s] (if c = s then [] :: splitL s r else match splitL s r with
      | [] => [[c]]
      | h :: t => (c :: h) :: t) = c :: r
    split
    · rename_i e
      cases k : splitL s r with
      | nil => exact absurd k ne
      | cons a t =>
        rw [k] at ih
        show [] ++ ([s] ++ TL.joinL [s] (a :: t)) = _
        rw [ih, e]; rfl
    · cases k : splitL s r with
      | nil => exact absurd k ne
      | cons a t =>
        rw [k] at ih
        dsimp only
        cases t with
        | nil =>
          have : a = r := ih
          subst this; rfl
        | cons b t =>
          have e : a ++ ([s] ++ TL.joinL [s] (b :: t)) = r := ih
          show (c :: a) ++ ([s] ++ TL.joinL [s] (b :: t)) = _
          rw [← e]; rfl
theorem split_any {s : Nat} (hs : s < 256) (l : List Nat) : Txt.split (txt l) (txt [s]) = (splitL s l).map txt := by
  have := split_txt hs (splitL_ne s l) (splitL_free s l)
  rw [splitL_join] at this
  exact this
theorem splitL_len (s : Nat) : ∀ l : List Nat, (splitL s l).length ≤ l.length + 1
  | [] => by show 1 ≤ 1; decide
  | c :: r => by
    have ih := splitL_len s r
    show (if c = s then [] :: splitL s r else match splitL s r with
      | [] => [[c]]
      | h :: t => (c :: h) :: t).length ≤ _
    split
    · rw [List.length_cons, List.length_cons]; omega
    · split
      · show 1 ≤ _; omega
      · rename_i e
        rw [e] at ih
        rw [List.length_cons] at ih ⊢
        rw [List.length_cons]; omega
theorem splitL_part (s : Nat) : ∀ (l : List Nat), ∀ p ∈ splitL s l, p.length ≤ l.length
  | [], p, h => by
    have : p = [] := by simpa [splitL] using h
    subst this; simp
  | c :: r, p, h => by
    have ih := splitL_part s r
    have h' : p ∈ (if c = s then [] :: splitL s r else match splitL s r with
      | [] => [[c]]
      | h :: t => (c :: h) :: t) := h
    rw [List.length_cons]
    split at h'
    · rcases List.mem_cons.mp h' with rfl | h'
      · simp
      · have := ih p h'; omega
    · split at h'
      · have : p = [c] := by simpa using h'
        subst this; simp
      · rename_i a t e
        rw [e] at ih
        rcases List.mem_cons.mp h' with rfl | h'
        · have := ih a List.mem_cons_self
          rw [List.length_cons]; omega
        · have := ih p (List.mem_cons_of_mem _ h'); omega
theorem splitL_of {s : Nat} (hs : s < 256) {ls : List (List Nat)} (hne : ls ≠ []) (h : ∀ l ∈ ls, s ∉ l) : splitL s (TL.joinL [s] ls) = ls := by
  have a := split_any hs (TL.joinL [s] ls)
  rw [split_txt hs hne h] at a
  have inj : ∀ (x y : List (List Nat)), x.map txt = y.map txt → x = y := by
    intro x
    induction x with
    | nil => intro y e; cases y with
      | nil => rfl
      | cons _ _ => cases e
    | cons p x ih => intro y e; cases y with
      | nil => cases e
      | cons q y =>
        rw [List.map_cons, List.map_cons] at e
        obtain ⟨e1, e2⟩ := List.cons.inj e
        rw [txt_inj e1, ih y e2]
  exact (inj _ _ a).symm
/-! ### what a row is -/
def digs : List Nat := [48, 49, 50, 51, 52, 53, 54, 55, 56, 57]
def figB : List Nat → Bool
  | [c] => decide (c ∈ digs)
  | _ => false
def eldB (l : List Nat) : Bool := figB l || (match l with | [a, b] => figB [a] && decide ([b] = [42]) | _ => false)
def eldsB (l : List Nat) : Bool := decide (l = [45]) || (splitL 44 l).all eldB
def deedB (l : List Nat) : Bool := decide (l = [45]) || (!decide (l = []) && l.all fun c => decide (c ∈ abc))
def rowB : List (List Nat) → Bool
  | [a, b, c, d] => decide (a = kindL) && (eldsB b && (deedB c && figB d))
  | _ => false
/-! ### what it tells -/
def figV (l : List Nat) : Int := ((l.headD 48 - 48 : Nat) : Int)
def eldV (l : List Nat) : Int × Int := (figV l, if l.drop 1 = [] then 0 else 1)
def rdK : List (List Nat) → Kind
  | [_, b, c, d] => ⟨if b = [45] then [] else (splitL 44 b).map eldV, txt (if c = [45] then [] else c), figV d⟩
  | _ => ⟨[], txt [], 0⟩
theorem digs_iff {c : Nat} : c ∈ digs ↔ 48 ≤ c ∧ c < 58 := by
  simp only [digs, List.mem_cons, List.not_mem_nil, or_false]
  omega
theorem fig_of {i : Int} (h0 : 0 ≤ i) (h1 : i < 10) : figB [48 + i.toNat] = true := by
  show decide _ = true
  exact decide_eq_true (digs_iff.mpr (by omega))
theorem figV_of {i : Int} (h0 : 0 ≤ i) (r : List Nat) : figV ((48 + i.toNat) :: r) = i := by
  show ((48 + i.toNat - 48 : Nat) : Int) = i
  omega
theorem fig_inv {l : List Nat} (h : figB l = true) : ∃ i : Int, 0 ≤ i ∧ i < 10 ∧ l = [48 + i.toNat] := by
  match l, h with
  | [c], h =>
    have := digs_iff.mp (of_decide_eq_true h)
    exact ⟨((c - 48 : Nat) : Int), by omega, by omega, by rw [Int.toNat_natCast]; congr 1; omega⟩
theorem eld_inv {l : List Nat} (h : eldB l = true) : ∃ e : Int × Int, WdOk e ∧ l = weldL e ∧ eldV l = e := by
  unfold eldB at h
  rw [Bool.or_eq_true] at h
  rcases h with h | h
  · obtain ⟨i, h0, h1, rfl⟩ := fig_inv h
    refine ⟨(i, 0), ⟨h0, h1, .inl rfl⟩, rfl, ?_⟩
    unfold eldV
    rw [figV_of h0]; rfl
  · match l, h with
    | [a, b], h =>
      rw [Bool.and_eq_true] at h
      obtain ⟨i, h0, h1, e⟩ := fig_inv h.1
      have e2 := of_decide_eq_true h.2
      cases e; cases e2
      refine ⟨(i, 1), ⟨h0, h1, .inr rfl⟩, rfl, ?_⟩
      unfold eldV
      rw [figV_of h0]; rfl
theorem eld_of {e : Int × Int} (h : WdOk e) : eldB (weldL e) = true ∧ eldV (weldL e) = e := by
  obtain ⟨h0, h1, h2⟩ := h
  obtain ⟨i, s⟩ := e
  dsimp only at h0 h1 h2
  unfold weldL eldB eldV
  dsimp only
  rw [figV_of h0]
  rcases h2 with rfl | rfl
  · refine ⟨?_, rfl⟩
    rw [if_pos rfl, fig_of h0 h1]; rfl
  · refine ⟨?_, rfl⟩
    rw [if_neg (by decide)]
    dsimp only
    rw [fig_of h0 h1]
    simp
theorem name_cut {n : Nat} {k : Kind} (o : KindOk n k) (hn : n ≤ 10) : eldsB (nameL k) = true ∧ (if nameL k = [45] then [] else (splitL 44 (nameL k)).map eldV) = k.el := by
  by_cases ne : k.el = []
  · unfold nameL eldsB
    rw [if_pos ne]
    exact ⟨rfl, by rw [if_pos rfl, ne]⟩
  · rw [if_neg (name_dash o hn ne)]
    have e : splitL 44 (nameL k) = k.el.map weldL := by
      unfold nameL
      rw [if_neg ne]
      refine splitL_of (by decide) (by simpa using ne) fun l hl hx => ?_
      obtain ⟨e, he, rfl⟩ := List.mem_map.mp hl
      have := weld_sign (o.els hn e he) hx
      omega
    unfold eldsB
    rw [e]
    refine ⟨?_, ?_⟩
    · rw [Bool.or_eq_true]
      refine .inr (List.all_eq_true.mpr fun l hl => ?_)
      obtain ⟨e, he, rfl⟩ := List.mem_map.mp hl
      exact (eld_of (o.els hn e he)).1
    · rw [List.map_map]
      have : ∀ e ∈ k.el, (eldV ∘ weldL) e = id e := fun e he => (eld_of (o.els hn e he)).2
      rw [List.map_congr_left this, List.map_id]
theorem row_of {n : Nat} {k : Kind} (o : KindOk n k) (hn : n ≤ 10) : rowB (rowW k) = true ∧ rdK (rowW k) = k := by
  obtain ⟨c1, c2⟩ := name_cut o hn
  constructor
  · show (decide (kindL = kindL) && (eldsB (nameL k) && (deedB (deedL k) && figB (cellL k)))) = true
    rw [c1, decide_eq_true rfl, show figB (cellL k) = true from fig_of o.cells.1 (by have := o.cells.2; omega)]
    have : deedB (deedL k) = true := by
      unfold deedB
      rw [Bool.or_eq_true]
      by_cases z : k.de.cps.toList = []
      · left
        unfold deedL
        rw [if_pos z]; rfl
      · right
        unfold deedL
        rw [if_neg z, decide_eq_false z]
        exact List.all_eq_true.mpr fun c hc => decide_eq_true (rise_abc2 o.rise hc)
    rw [this]; rfl
  · show (⟨if nameL k = [45] then [] else (splitL 44 (nameL k)).map eldV, txt (if deedL k = [45] then [] else deedL k), figV (cellL k)⟩ : Kind) = k
    rw [c2, show figV (cellL k) = k.ce from figV_of o.cells.1 []]
    have : txt (if deedL k = [45] then [] else deedL k) = k.de := by
      by_cases z : k.de.cps.toList = []
      · have : deedL k = [45] := by unfold deedL; rw [if_pos z]
        rw [if_pos this, ← z, txt_tl]
      · rw [if_neg (deed_dash o z)]
        unfold deedL
        rw [if_neg z, txt_tl]
    rw [this]
theorem row_cut {n : Nat} {k : Kind} (o : KindOk n k) (hn : n ≤ 10) : splitL 32 (rowL k) = rowW k := splitL_of (by decide) (by simp [rowW]) fun l hl hx => by
  have := roww_sign o hn hl hx; omega
theorem fam_cut {f : Fam} (V : Valid f) : splitL 10 (famL f) = f.map rowL := by
  refine splitL_of (by decide) (by have := V.1; intro e; rw [List.map_eq_nil_iff] at e; subst e; exact absurd this (by decide)) fun l hl hx => ?_
  obtain ⟨k, hk, rfl⟩ := List.mem_map.mp hl
  obtain ⟨n, hn, o⟩ := V.okAt hk
  have := row_sign o hn hx
  omega
end KS
end
noncomputable section
namespace KS
open PySem PySem.Spec PyProof.Rows L2 Evl
def encW (l : List Nat) : PyData := .str (txt l)
def encWs (ls : List (List Nat)) : PyData := .list (ls.map encW)
theorem flat_Ws (ls : List (List Nat)) : flatTs (ls.map encW) = true := flat_map (fun _ => rfl) ls
section
variable {K : PySem.W.Frag} {σ : L2.St} {H : Hp} {ta tb te : TE}
theorem el_splitW {s : Nat} {l : List Nat} (hs : s < 256) (hz : l.length ≤ 100000) (ha : ED ta σ H (.str (txt l))) (hb : ED tb σ H (.str (txt [s]))) : EL (tM1 rSpl ta tb) σ H ((splitL s l).map encW) :=
  el_is (el_split (split_any hs l) hz ha hb) (by rw [List.map_map]; rfl)
end
section
variable {P : Program} {w : World} {K : PySem.W.Frag} {mg : Str → Option Value} {base : Heap}
/-! ### is_figure -/
theorem sc_fig : FnScope ["word"] ["word"] (defScope s_is_figure) := ⟨rfl, rfl, rfl, by decide +kernel, rfl, by decide +kernel, by decide +kernel⟩
def R_fig : List PyData → PyData → Prop := fun ds d => ∃ l : List Nat, ds = [encW l] ∧ l.length ≤ 10000 ∧ d = .bool (figB l)
theorem ok_fig (B : Bt mg) (mF : ∃ t, mg "FIGURES" = some (.str (txt digs) t)) (d : Df K mg "is_figure" s_is_figure ["word"]) : Cl P w K mg base "is_figure" ["word"] 1 (spD R_fig) := by
  obtain ⟨tF, mF⟩ := mF
  refine d.ok sc_fig (spD_len (by rintro _ _ ⟨_, rfl, _⟩; rfl)) (fun fa cdv A outer s H vs Q E hr h => ?_)
  obtain ⟨ds, dd, hv, ⟨l, rfl, lz, rfl⟩, q⟩ := h
  obtain ⟨x, rfl, hx⟩ := hv.args1
  refine ⟨_, pss_one (ps_ret (pe_and (pe_cmpR op_eq (pe_callB call_len rfl B.len PySem.boot_len (pa_cons (pv 0) pa_nil)) pe_int (nomark _)) (pe_one (pe_cmpR op_inS (pv 0) (pe_glob (v := .str (txt digs)) rfl mF ⟨_, rfl⟩) rfl)))), ?_⟩
  try dsimp only
  refine sd_ret (d := .bool (figB l)) ?_ fun v H1 e hv => q v H1 e hv
  refine ed_is (ed_andV (a := decide (((l.length : Nat) : Int) = 1)) (b := figB l) (ed_eqI (ed_lenTx lz (ed_var (i := 0) rfl hx)) (ed_ci 1)) fun hl => ?_) ?_
  · have := of_decide_eq_true hl
    match l, hx with
    | [c], hx => exact ed_inS (c := c) (z := txt digs) (ed_var (i := 0) rfl hx) (ed_cs _)
    | [], _ => exact absurd this (by decide)
    | _ :: _ :: _, _ => rw [List.length_cons, List.length_cons] at this; omega
  · congr 1
    match l with
    | [c] => simp
    | [] => rfl
    | _ :: _ :: _ => simp [figB]
/-! ### is_elder_word -/
theorem sc_elw : FnScope ["word"] ["word"] (defScope s_is_elder_word) := ⟨rfl, rfl, rfl, by decide +kernel, rfl, by decide +kernel, by decide +kernel⟩
def R_elw : List PyData → PyData → Prop := fun ds d => ∃ l : List Nat, ds = [encW l] ∧ l.length ≤ 10000 ∧ d = .bool (eldB l)
theorem ok_elw (B : Bt mg) (mS : ∃ t, mg "SHARED" = some (.str (txt [42]) t)) (d : Df K mg "is_elder_word" s_is_elder_word ["word"]) (cF : Cl P w K mg base "is_figure" ["word"] 1 (spD R_fig)) : Cl P w K mg base "is_elder_word" ["word"] 2 (spD R_elw) := by
  obtain ⟨tS, mS⟩ := mS
  refine d.ok sc_elw (spD_len (by rintro _ _ ⟨_, rfl, _⟩; rfl)) (fun fa cdv A outer s H vs Q E hr h => ?_)
  obtain ⟨ds, dd, hv, ⟨l, rfl, lz, rfl⟩, q⟩ := h
  obtain ⟨x, rfl, hx⟩ := hv.args1
  refine ⟨_, pss_one (ps_ret (pe_or (pe_cl cF hr (pa_cons (pv 0) pa_nil)) (pe_one (pe_and (pe_cmpR op_eq (pe_callB call_len rfl B.len PySem.boot_len (pa_cons (pv 0) pa_nil)) pe_int (nomark _)) (pe_and (pe_cl cF hr (pa_cons (pe_ix (r := rIxS) ix_str (pv 0) pe_int (fun _ _ => rfl)) pa_nil)) (pe_one (pe_cmpR op_eq (pe_ix (r := rIxS) ix_str (pv 0) pe_int (fun _ _ => rfl)) (pe_glob (v := .str (txt [42])) rfl mS ⟨_, rfl⟩) (nomark _)))))))), ?_⟩
  try dsimp only
  refine sd_ret (d := .bool (eldB l)) ?_ fun v H1 e hv => q v H1 e hv
  have e0 : ED (tVar 0) (start ["word"] [x]) H (.str (txt l)) := ed_var (i := 0) rfl hx
  unfold eldB
  refine ed_orV (a := figB l) (ed_call (eas1 e0) ⟨l, rfl, lz, rfl⟩) fun _ => ?_
  refine ed_is (ed_andV (a := decide (((l.length : Nat) : Int) = 2)) (b := (match l with | [a, b] => figB [a] && decide ([b] = [42]) | _ => false)) (ed_eqI (ed_lenTx lz e0) (ed_ci 2)) fun hl => ?_) ?_
  · have := of_decide_eq_true hl
    match l, e0 with
    | [a, b], e0 => exact ed_andV (a := figB [a]) (b := decide ([b] = [42])) (ed_call (eas1 (ed_ixTx (l := [a, b]) (i := 0) (c := a) (by show 2 ≤ 10000; decide) rfl e0 (ed_ci 0))) ⟨[a], rfl, by show 1 ≤ 10000; decide, rfl⟩) fun _ => ed_eqT (a := [b]) (b := [42]) (ed_ixTx (l := [a, b]) (i := 1) (c := b) (by show 2 ≤ 10000; decide) rfl e0 (ed_ci 1)) (ed_cst rfl)
    | [], _ => exact absurd this (by decide)
    | [_], _ => exact absurd this (by simp)
    | _ :: _ :: _ :: _, _ => rw [List.length_cons, List.length_cons, List.length_cons] at this; omega
  · congr 1
    match l with
    | [a, b] => simp
    | [] => rfl
    | [_] => simp
    | _ :: _ :: _ :: _ => simp
/-! ### are_elder_words -/
theorem sc_elws : FnScope ["word", "piece"] ["word"] (defScope s_are_elder_words) := ⟨rfl, rfl, rfl, by decide +kernel, rfl, by decide +kernel, by decide +kernel⟩
def R_elws : List PyData → PyData → Prop := fun ds d => ∃ l : List Nat, ds = [encW l] ∧ l.length ≤ 10000 ∧ d = .bool (eldsB l)
theorem ok_elws (B : Bt mg) (mN : ∃ t, mg "NONE" = some (.str (txt [45]) t)) (d : Df K mg "are_elder_words" s_are_elder_words ["word"]) (cE : Cl P w K mg base "is_elder_word" ["word"] 2 (spD R_elw)) : Cl P w K mg base "are_elder_words" ["word"] 3 (spD R_elws) := by
  obtain ⟨tN, mN⟩ := mN
  refine d.ok sc_elws (spD_len (by rintro _ _ ⟨_, rfl, _⟩; rfl)) (fun fa cdv A outer s H vs Q E hr h => ?_)
  obtain ⟨ds, dd, hv, ⟨l, rfl, lz, rfl⟩, q⟩ := h
  obtain ⟨x, rfl, hx⟩ := hv.args1
  refine ⟨_, pss_one (ps_ret (pe_or (pe_cmpR op_eq (pv 0) (pe_glob (v := .str (txt [45])) rfl mN ⟨_, rfl⟩) (nomark _)) (pe_one (pe_callB (cr_all (by rfl)) (by rfl) B.all boot_all (pa_cons (pe_lc (own := [("piece", 1)]) (g := gName 1) (tt := tYes) rfl sc_elws.nd (pi_list (show PE _ _ (tM1 rSpl _ _) from pe_split (pv 0) pe_str)) (blkOk_by (N := ["word", "piece"]) (sc := defScope s_are_elder_words) (by decide +kernel))
    (fun _ _ _ _ _ => pg_name (i := 1) sc_elws.nd rfl (.inl rfl)) (fun _ _ _ _ _ => pts_nil) (fun _ _ _ _ _ => by exact pe_cl cE hr (by exact pa_cons (pv 1) pa_nil))) pa_nil))))), ?_⟩
  try dsimp only
  refine sd_ret (d := .bool (eldsB l)) ?_ fun v H1 e hv => q v H1 e hv
  have e0 : ED (tVar 0) (start ["word", "piece"] [x]) H (.str (txt l)) := ed_var (i := 0) rfl hx
  unfold eldsB
  refine ed_orV (a := decide (l = [45])) (ed_eqT e0 (ed_cst rfl)) fun _ => ?_
  have cnt := splitL_len 44 l
  refine ed_is (ed_all (bs := (splitL 44 l).map eldB) (EL.ed (el_is (el_lcL2 (as := splitL 44 l) (enc := encW) (fun _ => true) (fun p => .bool (eldB p)) (EL.ed (el_splitW (by decide) (by omega) e0 (ed_cst rfl))) (by omega) (fun _ _ _ => rfl) fun p hp v H1 e1 hv => ?_) (by rw [filt_true, List.map_map]; rfl)))) (by rw [List.all_map]; rfl)
  have := splitL_part 44 l p hp
  exact ⟨[some x, some v], rfl, fun _ _ R h => h, et_yes, fun _ => ed_call (eas1 (ed_var (i := 1) rfl hv)) ⟨p, rfl, by omega, rfl⟩⟩
/-! ### are_deed_letters -/
theorem sc_adl : FnScope ["word", "letter"] ["word"] (defScope s_are_deed_letters) := ⟨rfl, rfl, rfl, by decide +kernel, rfl, by decide +kernel, by decide +kernel⟩
def R_adl : List PyData → PyData → Prop := fun ds d => ∃ l : List Nat, ds = [encW l] ∧ l.length ≤ 10000 ∧ d = .bool (deedB l)
theorem ok_adl (B : Bt mg) (mN : ∃ t, mg "NONE" = some (.str (txt [45]) t)) (mL : ∃ t, mg "LETTERS" = some (.str (txt abc) t)) (d : Df K mg "are_deed_letters" s_are_deed_letters ["word"]) : Cl P w K mg base "are_deed_letters" ["word"] 1 (spD R_adl) := by
  obtain ⟨tN, mN⟩ := mN
  obtain ⟨tL, mL⟩ := mL
  refine d.ok sc_adl (spD_len (by rintro _ _ ⟨_, rfl, _⟩; rfl)) (fun fa cdv A outer s H vs Q E hr h => ?_)
  obtain ⟨ds, dd, hv, ⟨l, rfl, lz, rfl⟩, q⟩ := h
  obtain ⟨x, rfl, hx⟩ := hv.args1
  refine ⟨_, pss_cons (ps_if (pt_cmpR op_eq (pv 0) (pe_glob (v := .str (txt [45])) rfl mN ⟨_, rfl⟩) (nomark _)) (pss_one (ps_ret pe_bl)) pss_nil)
    (pss_one (ps_ret (pe_and (pe_cmpR op_ne (pv 0) pe_str (nomark _)) (pe_one (pe_callB (cr_all (by rfl)) (by rfl) B.all boot_all (pa_cons (pe_lc (own := [("letter", 1)]) (g := gName 1) (tt := tYes) rfl sc_adl.nd (pi_str (pv 0)) (blkOk_by (N := ["word", "letter"]) (sc := defScope s_are_deed_letters) (by decide +kernel))
    (fun _ _ _ _ _ => pg_name (i := 1) sc_adl.nd rfl (.inl rfl)) (fun _ _ _ _ _ => pts_nil) (fun _ _ _ _ _ => by exact pe_cmpR op_inS (pv 1) (by exact pe_glob (v := .str (txt abc)) rfl mL ⟨_, rfl⟩) rfl)) pa_nil)))))), ?_⟩
  have e0 : ED (tVar 0) (start ["word", "letter"] [x]) H (.str (txt l)) := ed_var (i := 0) rfl hx
  try dsimp only
  refine sd_if (b := decide (l = [45])) (et_D (ed_eqT e0 (ed_cst rfl))) (fun hb H1 e1 => ?_) (fun hb H1 e1 => ?_)
  · try dsimp only
    refine sd_ret (ed_cb true) fun v H2 e2 hv => q v H2 (e1.trans e2) ?_
    unfold deedB
    rw [hb]
    exact hv
  · refine st_next ?_
    dsimp only
    refine sd_ret (d := .bool (deedB l)) ?_ fun v H2 e2 hv => q v H2 (e1.trans e2) hv
    unfold deedB
    rw [hb, Bool.false_or]
    refine ed_andV (a := !decide (l = [])) (b := l.all fun c => decide (c ∈ abc)) (ed_neT (b := []) (e0.mono e1) (ed_cst rfl)) fun _ => ?_
    refine ed_is (ed_all (bs := l.map fun c => decide (c ∈ abc)) (EL.ed (el_is (el_lcS (l := l) (fun _ => true) (fun c => .bool (decide (c ∈ abc))) (e0.mono e1) (by omega) (fun _ _ _ => rfl) fun c hc H2 e2 => ?_) (by rw [filt_true, List.map_map]; rfl)))) (by rw [List.all_map]; rfl)
    exact ⟨[some x, some (.str ⟨#[c]⟩)], rfl, fun _ _ R h => h, et_yes, fun _ => ed_inS (c := c) (z := txt abc) (ed_var (i := 1) rfl (.str _)) (ed_cs _)⟩
/-! ### is_row -/
theorem sc_row : FnScope ["words"] ["words"] (defScope s_is_row) := ⟨rfl, rfl, rfl, by decide +kernel, rfl, by decide +kernel, by decide +kernel⟩
def R_row : List PyData → PyData → Prop := fun ds d => ∃ ws : List (List Nat), ds = [encWs ws] ∧ ws.length ≤ 20000 ∧ (∀ l ∈ ws, l.length ≤ 10000) ∧ d = .bool (rowB ws)
theorem ok_row (B : Bt mg) (d : Df K mg "is_row" s_is_row ["words"]) (cF : Cl P w K mg base "is_figure" ["word"] 1 (spD R_fig)) (cE : Cl P w K mg base "are_elder_words" ["word"] 3 (spD R_elws)) (cD : Cl P w K mg base "are_deed_letters" ["word"] 1 (spD R_adl)) : Cl P w K mg base "is_row" ["words"] 4 (spD R_row) := by
  refine d.ok sc_row (spD_len (by rintro _ _ ⟨_, rfl, _⟩; rfl)) (fun fa cdv A outer s H vs Q E hr h => ?_)
  obtain ⟨ds, dd, hv, ⟨ws, rfl, wz, lz, rfl⟩, q⟩ := h
  obtain ⟨x, rfl, hx⟩ := hv.args1
  refine ⟨_, pss_cons (ps_if (PW.pt (pw_or (pt_cmpR op_ne (pe_callB call_len rfl B.len PySem.boot_len (pa_cons (pv 0) pa_nil)) pe_int (nomark _)) (pw_or1 (pt_cmpR op_ne (pe_ix (r := rIxL K) ix_list (pv 0) pe_int (fun _ _ => rfl)) pe_str (nomark _))))) (pss_one (ps_ret pe_bl)) pss_nil)
    (pss_one (ps_ret (pe_and (pe_cl cE hr (pa_cons (pe_ix (r := rIxL K) ix_list (pv 0) pe_int (fun _ _ => rfl)) pa_nil)) (pe_and (pe_cl cD (hr.mono (by decide)) (pa_cons (pe_ix (r := rIxL K) ix_list (pv 0) pe_int (fun _ _ => rfl)) pa_nil)) (pe_one (pe_cl cF (hr.mono (by decide)) (pa_cons (pe_ix (r := rIxL K) ix_list (pv 0) pe_int (fun _ _ => rfl)) pa_nil))))))), ?_⟩
  have e0 : ED (tVar 0) (start ["words"] [x]) H (encWs ws) := ed_var (i := 0) rfl hx
  have el : ED (tCB (fun xs H Q => ∃ x n, xs = [x] ∧ LenV K x H n ∧ Q (.int n) H) (tCons (tVar 0) tNil)) (start ["words"] [x]) H (.int ((ws.length : Nat) : Int)) := ed_is (ed_lenL (ds := ws.map encW) e0) (by rw [List.length_map])
  by_cases w4 : ws.length = 4
  · match ws, w4 with
    | [a, b, c, g], _ =>
      try dsimp only
      refine sd_if (b := !decide (a = kindL)) (et_or (a := false) (b := !decide (a = kindL)) (et_D (ed_is (ed_neI el (ed_ci 4)) rfl)) fun _ => et_D (ed_neT (a := a) (b := kindL) (ed_ixL (ds := [encW a, encW b, encW c, encW g]) (i := 0) e0 (ed_ci 0) rfl) (ed_cst rfl))) (fun hb H1 e1 => ?_) (fun hb H1 e1 => ?_)
      · try dsimp only
        refine sd_ret (ed_cb false) fun v H2 e2 hv => q v H2 (e1.trans e2) ?_
        have : decide (a = kindL) = false := by simpa using hb
        show D H2 v (.bool (decide (a = kindL) && _))
        rw [this]
        exact hv
      · refine st_next ?_
        dsimp only
        have : decide (a = kindL) = true := by simpa using hb
        try dsimp only
        refine sd_ret (d := .bool (eldsB b && (deedB c && figB g))) ?_ fun v H2 e2 hv => q v H2 (e1.trans e2) ?_
        · exact ed_andV (a := eldsB b) (ed_call (eas1 (ed_ixL (ds := [encW a, encW b, encW c, encW g]) (i := 1) (d := encW b) (e0.mono e1) (ed_ci 1) rfl)) ⟨b, rfl, lz b (by simp), rfl⟩) fun _ =>
            ed_andV (a := deedB c) (ed_call (eas1 (ed_ixL (ds := [encW a, encW b, encW c, encW g]) (i := 2) (d := encW c) (e0.mono e1) (ed_ci 2) rfl)) ⟨c, rfl, lz c (by simp), rfl⟩) fun _ =>
            ed_call (eas1 (ed_ixL (ds := [encW a, encW b, encW c, encW g]) (i := 3) (d := encW g) (e0.mono e1) (ed_ci 3) rfl)) ⟨g, rfl, lz g (by simp), rfl⟩
        · show D H2 v (.bool (decide (a = kindL) && _))
          rw [this, Bool.true_and]
          exact hv
  · have w4' : ¬ ((ws.length : Nat) : Int) = 4 := by omega
    try dsimp only
    refine sd_if (b := true) (et_is (et_or (a := true) (b := true) (et_D (ed_is (ed_neI el (ed_ci 4)) (by rw [decide_eq_false w4']; rfl))) fun z => nomatch z) rfl) (fun _ H1 e1 => ?_) (fun z => nomatch z)
    try dsimp only
    refine sd_ret (ed_cb false) fun v H2 e2 hv => q v H2 (e1.trans e2) ?_
    have : rowB ws = false := by
      match ws, w4 with
      | [], _ => rfl
      | [_], _ => rfl
      | [_, _], _ => rfl
      | [_, _, _], _ => rfl
      | [_, _, _, _], h => exact absurd rfl h
      | _ :: _ :: _ :: _ :: _ :: _, _ => rfl
    rw [this]
    exact hv
end
end KS
end
noncomputable section
namespace KS
open PySem PySem.Spec PyProof.Rows L2 Evl
theorem ends_weld {e : Int × Int} (h : WdOk e) : Txt.endswith (txt (weldL e)) (txt [42]) = decide (e.2 ≠ 0) := by
  obtain ⟨i, s⟩ := e
  obtain ⟨h0, h1, h2⟩ := h
  dsimp only at h0 h1 h2
  rcases h2 with rfl | rfl
  · show (decide (0 + 1 ≤ 1) && PySem.Builtin.Str.subAt (txt [48 + i.toNat]) (txt [42]) (1 - 1)) = false
    rw [StrLaws.subAt_eq]
    show (true && ([48 + i.toNat] == [42])) = false
    have : ¬ 48 + i.toNat = 42 := by omega
    simp [this]
  · show (decide (0 + 1 ≤ 2) && PySem.Builtin.Str.subAt (txt [48 + i.toNat, 42]) (txt [42]) (2 - 1)) = true
    rw [StrLaws.subAt_eq]
    rfl
section
variable {P : Program} {w : World} {K : PySem.W.Frag} {mg : Str → Option Value} {base : Heap}
/-! ### read_elder -/
theorem sc_rel : FnScope ["word", "shared"] ["word"] (defScope s_read_elder) := ⟨rfl, rfl, rfl, by decide +kernel, rfl, by decide +kernel, by decide +kernel⟩
def R_rel : List PyData → PyData → Prop := fun ds d => ∃ e : Int × Int, ds = [encW (weldL e)] ∧ WdOk e ∧ d = encE e
theorem ok_rel (B : Bt mg) (mS : ∃ t, mg "SHARED" = some (.str (txt [42]) t)) (d : Df K mg "read_elder" s_read_elder ["word"]) : Cl P w K mg base "read_elder" ["word"] 1 (spD R_rel) := by
  obtain ⟨tS, mS⟩ := mS
  refine d.ok sc_rel (spD_len (by rintro _ _ ⟨_, rfl, _⟩; rfl)) (fun fa cdv A outer s H vs Q E hr h => ?_)
  obtain ⟨ds, dd, hv, ⟨e, rfl, o, rfl⟩, q⟩ := h
  obtain ⟨x, rfl, hx⟩ := hv.args1
  refine ⟨_, pss_cons (ps_set (i := 1) sc_rel.nd rfl (.inl rfl) (pe_ifExp (pt_val (show PE _ _ (tM1 rEnds _ _) from pe_m1 PySem.F.slot_str_endswith PySem.F.type_str_endswith mt_endswith (pv 0) (pe_glob (v := .str (txt [42])) rfl mS ⟨_, rfl⟩))) pe_int pe_int))
    (pss_one (ps_ret (pe_tup (pa_cons (pe_callTy call_int_str rfl B.int boot_int (pa_cons (pe_ix (r := rIxS) ix_str (pv 0) pe_int (fun _ _ => rfl)) pa_nil)) (pa_cons (pv 1) pa_nil))))), ?_⟩
  have wl := weld_len e
  try dsimp only
  refine sd_asg (d := .int e.2) (ed_if (et_DB (ed_ends (ends_weld o) (ed_var (i := 0) rfl hx) (ed_cst rfl))) (fun z => ?_) (fun z => ?_)) fun v1 H1 e1 h1 => ?_
  · have : e.2 = 1 := by
      have := of_decide_eq_true z
      rcases o.2.2 with h | h
      · exact absurd h this
      · exact h
    rw [this]; exact ed_ci 1
  · have : e.2 = 0 := by simpa using z
    rw [this]; exact ed_ci 0
  · try dsimp only
    refine sd_ret (d := encE e) ?_ fun v H2 e2 hv => q v H2 (e1.trans e2) hv
    refine ed_tup (ds := [.int e.1, .int e.2]) (eas2 (ed_intS o.1 o.2.1 (ed_ixTx (l := weldL e) (i := 0) (c := 48 + e.1.toNat) (by omega) (by unfold weldL; split <;> rfl) (ed_var (i := 0) rfl (hx.mono e1)) (ed_ci 0))) (ed_var (i := 1) rfl h1)) (by show 2 ≤ 100000; decide)
/-! ### read_row -/
theorem sc_rro : FnScope ["words", "elders", "piece", "deeds"] ["words"] (defScope s_read_row) := ⟨rfl, rfl, rfl, by decide +kernel, rfl, by decide +kernel, by decide +kernel⟩
def R_rro : List PyData → PyData → Prop := fun ds d => ∃ ws : List (List Nat), ds = [encWs ws] ∧ rowB ws = true ∧ (∀ l ∈ ws, l.length ≤ 10000) ∧ d = encK (rdK ws)
theorem ok_rro (B : Bt mg) (mN : ∃ t, mg "NONE" = some (.str (txt [45]) t)) (d : Df K mg "read_row" s_read_row ["words"]) (cE : Cl P w K mg base "read_elder" ["word"] 1 (spD R_rel)) : Cl P w K mg base "read_row" ["words"] 4 (spD R_rro) := by
  obtain ⟨tN, mN⟩ := mN
  refine d.ok sc_rro (spD_len (by rintro _ _ ⟨_, rfl, _⟩; rfl)) (fun fa cdv A outer s H vs Q E hr h => ?_)
  obtain ⟨ds, dd, hv, ⟨ws, rfl, rb, lz, rfl⟩, q⟩ := h
  obtain ⟨x, rfl, hx⟩ := hv.args1
  refine ⟨_, pss_cons (ps_set (i := 1) sc_rro.nd rfl (.inl rfl) (pe_ifExp (pt_cmpR op_eq (pe_ix (r := rIxL K) ix_list (pv 0) pe_int (fun _ _ => rfl)) (pe_glob (v := .str (txt [45])) rfl mN ⟨_, rfl⟩) (nomark _)) (pe_tup pa_nil)
      (pe_callTy call_tuple_of rfl B.tuple boot_tuple (pa_cons (pe_lc (own := [("piece", 2)]) (g := gName 2) (tt := tYes) rfl sc_rro.nd (pi_list (show PE _ _ (tM1 rSpl _ _) from pe_split (pe_ix (r := rIxL K) ix_list (pv 0) pe_int (fun _ _ => rfl)) pe_str)) (blkOk_by (N := ["words", "elders", "piece", "deeds"]) (sc := defScope s_read_row) (by decide +kernel))
        (fun _ _ _ _ _ => pg_name (i := 2) sc_rro.nd rfl (.inl rfl)) (fun _ _ _ _ _ => pts_nil) (fun _ _ _ _ _ => by exact pe_cl cE (hr.mono (by decide)) (by exact pa_cons (pv 2) pa_nil))) pa_nil))))
    (pss_cons (ps_set (i := 3) sc_rro.nd rfl (.inl rfl) (pe_ifExp (pt_cmpR op_eq (pe_ix (r := rIxL K) ix_list (pv 0) pe_int (fun _ _ => rfl)) (pe_glob (v := .str (txt [45])) rfl mN ⟨_, rfl⟩) (nomark _)) pe_str (pe_ix (r := rIxL K) ix_list (pv 0) pe_int (fun _ _ => rfl))))
    (pss_one (ps_ret (pe_tup (pa_cons (pv 1) (pa_cons (pv 3) (pa_cons (pe_callTy call_int_str rfl B.int boot_int (pa_cons (pe_ix (r := rIxL K) ix_list (pv 0) pe_int (fun _ _ => rfl)) pa_nil)) pa_nil))))))), ?_⟩
  match ws, rb with
  | [a, b, c, g], rb =>
    have rb' : (decide (a = kindL) && (eldsB b && (deedB c && figB g))) = true := rb
    rw [Bool.and_eq_true, Bool.and_eq_true, Bool.and_eq_true] at rb'
    obtain ⟨_, be, _, fg⟩ := rb'
    obtain ⟨i, i0, i1, eg⟩ := fig_inv fg
    have lb := lz b (by simp)
    have lc := lz c (by simp)
    have cnt := splitL_len 44 b
    have e0 : ∀ (u1 u2 u3 : Option V) (H1 : Hp), Ex H H1 → ED (tVar 0) [some x, u1, u2, u3] H1 (.list [encW a, encW b, encW c, encW g]) := fun u1 u2 u3 H1 e => ed_var (i := 0) rfl (hx.mono e)
    try dsimp only
    refine sd_asg (d := .tuple ((rdK [a, b, c, g]).el.map encE)) (ed_if (b := decide (b = [45])) (et_D (ed_eqT (ed_ixL (d := encW b) (i := 1) (e0 none none none H (Ex.refl H)) (ed_ci 1) rfl) (ed_cst rfl))) (fun z => ?_) (fun z => ?_)) fun v1 H1 e1 h1 => ?_
    · have : (rdK [a, b, c, g]).el = [] := by
        show (if b = [45] then [] else _) = _
        rw [if_pos (of_decide_eq_true z)]
      rw [this]
      exact ed_tup (ds := []) eas_nil (by show 0 ≤ 100000; decide)
    · have nb : ¬ b = [45] := of_decide_eq_false z
      have : (rdK [a, b, c, g]).el = (splitL 44 b).map eldV := by
        show (if b = [45] then [] else _) = _
        rw [if_neg nb]
      rw [this]
      have al : ∀ p ∈ splitL 44 b, eldB p = true := by
        unfold eldsB at be
        rw [z, Bool.false_or, List.all_eq_true] at be
        exact be
      refine ed_tupOf (ds := ((splitL 44 b).map eldV).map encE) (EL.ed (el_is (el_lcL2 (as := splitL 44 b) (enc := encW) (fun _ => true) (fun p => encE (eldV p)) (EL.ed (el_splitW (by decide) (by omega) (ed_ixL (d := encW b) (i := 1) (e0 none none none H (Ex.refl H)) (ed_ci 1) rfl) (ed_cst rfl))) (by omega) (fun _ _ _ => rfl) fun p hp v H2 e2 hv => ?_) (by rw [filt_true, List.map_map]; rfl)))
      refine ⟨[some x, none, some v, none], rfl, fun _ _ R h => h, et_yes, fun _ => ?_⟩
      obtain ⟨e, o, e5, e6⟩ := eld_inv (al p hp)
      rw [e6]
      refine ed_call (eas1 (ed_var (i := 2) rfl hv)) ⟨e, by rw [e5], o, rfl⟩
    · try dsimp only
      refine sd_asg (d := .str (txt (if c = [45] then [] else c))) (ed_if (b := decide (c = [45])) (et_D (ed_eqT (ed_ixL (d := encW c) (i := 2) (e0 (some v1) none none H1 e1) (ed_ci 2) rfl) (ed_cst rfl))) (fun z => ?_) (fun z => ?_)) fun v3 H2 e2 h3 => ?_
      · rw [if_pos (of_decide_eq_true z)]
        exact ed_cst rfl
      · rw [if_neg (of_decide_eq_false z)]
        exact ed_ixL (d := encW c) (i := 2) (e0 (some v1) none none H1 e1) (ed_ci 2) rfl
      · try dsimp only
        refine sd_ret (d := encK (rdK [a, b, c, g])) ?_ fun v H3 e3 hv => q v H3 ((e1.trans e2).trans e3) hv
        have ev : figV g = i := by rw [eg]; exact figV_of i0 []
        refine ed_tup (ds := [.tuple ((rdK [a, b, c, g]).el.map encE), .str (txt (if c = [45] then [] else c)), .int (figV g)]) (eas_cons (ed_var (i := 1) rfl (h1.mono e2)) (eas2 (ed_var (i := 3) rfl h3) ?_)) (by show 3 ≤ 100000; decide)
        rw [ev]
        exact ed_intS i0 i1 (ed_is (ed_ixL (d := encW g) (i := 3) (e0 (some v1) none (some v3) H2 (e1.trans e2)) (ed_ci 3) rfl) (by rw [eg]; rfl))
end
end KS
end
noncomputable section
namespace KS
open PySem PySem.Spec PyProof.Rows L2 Evl
/-! ### isinstance of a caught exception -/
structure ExcC (K : PySem.W.Frag) (C : Addr) : Prop where
  c0 : (PySem.W.clsIn K C).isSome = true
  c4 : PySem.W.findIn K (.ref C) "__getattribute__" = some (some (.builtin "BaseException.__getattribute__"))
  c5 : PySem.W.findIn K (.ref C) "__getattr__" = some none
  c6 : PySem.W.subIn K (.ref C) (.type "BaseException") = some true
  c7 : PySem.W.findIn K (.ref C) "__class__" = some (some (.builtin "object.__class__"))
  c8 : PySem.W.specialIn K (.builtin "object.__class__") "__get__" = some (some (.builtin "getset_descriptor.__get__"))
  c9 : PySem.W.takesIn K (.builtin "object.__class__") = some true
  c10 : PySem.W.mroIn K C (.type "object") = some true
def DictOk (d : Option Addr) (H : Hp) : Prop := d = none ∨ ∃ dd fs, d = some dd ∧ H dd = some (.xd fs)
theorem DictOk.ex {d : Option Addr} {H H' : Hp} (e : Ex H H') (h : DictOk d H) : DictOk d H' := by
  rcases h with h | ⟨dd, fs, h1, h2⟩
  · exact .inl h
  · exact .inr ⟨dd, fs, h1, e _ _ h2⟩
def rIsE (K : PySem.W.Frag) (a : Addr) (cls : Value) (d : Option Addr) : List V → Hp → VK → Prop := fun xs H Q => ∃ C c t b, cls = .ref C ∧ ExcC K C ∧ xs = [.ref a, c] ∧ ClsV c t ∧ PySem.W.kitOne K (.ref C) t = some b ∧ DictOk d H ∧ Q (.bl b) H
theorem cr_isE {X : Cx} {a : Addr} {cls : Value} {oe : Obj} {d : Option Addr} {pn : List (Addr × Obj)} (hz : Zc cls d oe) (hf : ∃ vs, oe.data = .fields vs) : CallR (X.suite a ((a, oe) :: pn)) (.builtin "isinstance") (rIsE X.K a cls d) := by
  intro pins s σ H xs us Q I r h
  obtain ⟨C, c, t, b, rfl, F, rfl, hc, hk, hd, q⟩ := h
  cases r with
  | cons r1 rr =>
    cases rr with
    | cons r2 rn =>
      cases rn
      rename_i u1 u2
      obtain rfl : u1 = Value.ref a := r1
      have e2 := hc.eq r2
      subst e2
      obtain ⟨ha, _⟩ := I.pin (a, oe) (List.mem_append_left _ List.mem_cons_self)
      obtain ⟨vs, hv⟩ := hf
      have od : ∃ od, PySem.W.InstAt s.heap a oe C od := by
        rcases hd with hd | ⟨dd, fs, hd, hx⟩
        · exact ⟨none, ha, hz.1, by unfold PySem.W.notCls; rw [hv] <;> rfl, by rw [hz.2, hd]; trivial⟩
        · have hx : ObjOk X.prog X.w H s.heap dd (.xd fs) := I.hok dd _ hx
          obtain ⟨mA, hns, hr⟩ := hx
          obtain ⟨od, ho, hl⟩ := lookIn_ns hns
          exact ⟨some od, ha, hz.1, by unfold PySem.W.notCls; rw [hv] <;> rfl, by rw [hz.2, hd]; exact ho⟩
      obtain ⟨od, J⟩ := od
      exact PySem.W.kia_one (PySem.W.kitx_exc F.c0 F.c4 F.c5 F.c6 F.c7 F.c8 F.c9 F.c10) I.kIn J hk (fun z => nomatch z) fun tk => ⟨.bl b, H, I.tok _, rfl, q⟩
/-! ### list.count(True) -/
def rCntB (K : PySem.W.Frag) : V → List V → Hp → VK → Prop := fun x xs H Q => ∃ (p : Addr) (bs : List Bool), x = .ref p ∧ xs = [.bl true] ∧ SqL K H p (bs.map V.bl) ∧ Q (.int (bs.count true : Nat)) H
def eqb (v : Value) : Bool := match v with
  | .bool b => b
  | _ => false
theorem eqb_all : ∀ {us : List Value} {bs : List Bool}, Vals (bs.map V.bl) us → (∀ u ∈ us, ∃ b, u = .bool b) ∧ us.countP eqb = bs.count true
  | [], [], _ => ⟨(fun _ h => nomatch h), rfl⟩
  | [], _ :: _, h => by cases h
  | _ :: _, [], h => by cases h
  | u :: us, b :: bs, h => by
    cases h with
    | cons h1 h2 =>
      obtain rfl : u = Value.bool b := h1
      obtain ⟨i1, i2⟩ := eqb_all h2
      refine ⟨fun v hv => ?_, ?_⟩
      · rcases List.mem_cons.mp hv with rfl | hv
        · exact ⟨b, rfl⟩
        · exact i1 v hv
      · rw [List.countP_cons, List.count_cons, i2]
        cases b <;> rfl
theorem mt_countB {X : Cx} : MtR X "list.count" (rCntB X.K) := by
  intro pins s σ H x xs v us Q I rx rxs h
  obtain ⟨p, bs, rfl, rfl, hs, q⟩ := h
  cases rx
  obtain ⟨u, rfl, ru⟩ := rxs.one
  obtain rfl : u = Value.bool true := ru
  obtain ⟨its, rv, ⟨⟨cls, dd, data, sl⟩, n, ho, hc, hdn, hd⟩, hlen⟩ := I.list hs
  simp only at hc hd
  subst hc hd
  obtain ⟨h1, h2⟩ := eqb_all rv
  refine call_meets PySem.F.slot_list_count ⟨_, ho, rfl⟩ PySem.F.entry_list_count (PySem.F.args_list_count_2 _ _)
    (SeqAt.list_countAt p its.toArray n dd sl (.bool true) eqb) ⟨ho, fun y hy => ?_, ?_⟩
  · obtain ⟨b, rfl⟩ := h1 y (by simpa using hy)
    have := SeqAt.EqAt.bool_bool (A := X.A.in1) (s := s) b true
    have e : (b == true) = eqb (.bool b) := by cases b <;> rfl
    rw [e] at this
    exact this
  refine ⟨.int (bs.count true : Nat), H, I.tok _, ⟨s.toks, ?_⟩, q⟩
  show Value.int ((its.toArray.toList.countP eqb : Nat) : Int) s.toks = Value.int ((bs.count true : Nat) : Int) s.toks
  rw [show its.toArray.toList = its from by simp, h2]
end KS
end
noncomputable section
namespace KS
open PySem PySem.Spec PyProof.Rows L2 Evl
/-! ### defs that may raise -/
structure ClX (P : Program) (w : World) (K : PySem.W.Frag) (mg : Str → Option Value) (base : Heap) (x : Str) (ps : List Str) (k : Nat) (sp : Sp) : Prop where
  ex : ∃ (f : Addr) (fd : FuncData), FnOk P w K mg base (L2.CX P w) k f fd ps sp ∧ mg x = some (.ref f) ∧ PySem.W.keepIn K (.ref f) = true ∧ Binds K fd ps []
section
variable {P : Program} {w : World} {K : PySem.W.Frag} {mg : Str → Option Value} {base : Heap}
theorem ClX.mono {x : Str} {ps : List Str} {j k : Nat} {sp : Sp} (c : ClX P w K mg base x ps j sp) (h : j ≤ k) : ClX P w K mg base x ps k sp := by
  obtain ⟨f, fd, G, g, kp, b⟩ := c.ex
  exact ⟨f, fd, G.mono h, g, kp, b⟩
theorem ClX.imp {x : Str} {ps : List Str} {k : Nat} {sp sp' : Sp} (c : ClX P w K mg base x ps k sp) (h : ∀ vs H Q E, sp' vs H Q E → sp vs H Q E) : ClX P w K mg base x ps k sp' := by
  obtain ⟨f, fd, G, g, kp, b⟩ := c.ex
  exact ⟨f, fd, G.imp h, g, kp, b⟩
theorem Df.okX {x : Str} {st : Stmt} {ps N : List Str} {k : Nat} {sp : Sp} (d : Df K mg x st ps) (S : FnScope N ps (defScope st)) (len : ∀ vs H Q E, sp vs H Q E → vs.length = ps.length)
    (body : ∀ (f : Addr) (cdv : Value) (A : Around) (outer : List Env) (s : Shared) (H : Hp) (vs : List V) (Q : VK) (E : XK), Room k (A.deeper (envOfC x (defScope st) s.heap.objs.size f cdv)) → sp vs H Q E →
      ∃ t, PSs (cxOf (L2.CX P w) P w K mg base N x (defScope st) f cdv A outer s H E) (defBody st) t ∧ t { nx := fun _ H' => Q .non H', rt := Q } (start N vs) H) : ClX P w K mg base x ps (k + 1) sp := by
  obtain ⟨f, fd, F, g, b⟩ := d.ex
  exact ⟨f, fd, F.okX S len (fun cdv A outer s H vs Q E hr h => body f cdv A outer s H vs Q E hr h), g, F.kp, b⟩
/-- called where it raises nothing -/
theorem pe_clX {X : Cx} {x : Str} {ps : List Str} {k : Nat} {sp : Sp} {e : Expr} {es : List Expr} {t : TA} {p pos : Pos} (c : ClX X.prog X.w X.K X.mg X.base x ps k sp) (hr : Room k X.A) (ha : PA X (e :: es) t) (hg : Gl X x := by rfl)
    (hdb : (x == ("__debug__" : Str)) = false := by decide) (he : starEach (e :: es) X.env = (false, eval e X.env) :: starEach es X.env := by rfl) (hpl : (backTo pos (starEach es X.env)).any (·.1) = false := by rfl) :
    PE X (.Call (.Name x p) (e :: es) [] pos) (tCall sp [] E0 t) := by
  obtain ⟨f, fd, G, g, kp, b⟩ := c.ex
  exact pe_call G hr hg g kp b .nil passL ha hdb he hpl
/-- .. where it may raise, and the wish is the def's own -/
theorem pe_clW {X : Cx} {W : WX} {x : Str} {ps : List Str} {k : Nat} {sp : Sp} {e : Expr} {es : List Expr} {t : TA} {p pos : Pos} (c : ClX X.prog X.w X.K X.mg X.base x ps k sp) (hr : Room k X.A) (tk : Takes X W) (ha : PA X (e :: es) t) (hg : Gl X x := by rfl)
    (hdb : (x == ("__debug__" : Str)) = false := by decide) (he : starEach (e :: es) X.env = (false, eval e X.env) :: starEach es X.env := by rfl) (hpl : (backTo pos (starEach es X.env)).any (·.1) = false := by rfl) :
    PE X (.Call (.Name x p) (e :: es) [] pos) (tCallS sp (WE W) t) := by
  obtain ⟨f, fd, G, g, kp, b⟩ := c.ex
  exact pe_callS G hr hg g kp b (fun σ => passAt tk σ) ha hdb he hpl
end
/-- a class of errors without an __init__ of its own -/
structure ErrC (K : PySem.W.Frag) (mg : Str → Option Value) (x : Str) (C : Addr) (bmB : List Value) : Prop where
  g : mg x = some (.ref C)
  x : PySem.W.excIn K C bmB "ValueError.__new__" = true
  k : PySem.W.keepIn K (.ref C) = true
  b : PySem.W.subIn K (.ref C) (.type "BaseException") = some true
  t : PySem.W.typeIn K (.ref C) = some (.type "type")
abbrev bmV : List Value := [.type "ValueError", .type "Exception", .type "BaseException", .type "object"]
end KS
end
noncomputable section
namespace KS
open PySem PySem.Spec PyProof.Rows L2 Evl
/-! ### Base.__init__(self, ..), Base an own class -/
structure BaseC (K : PySem.W.Frag) (mg : Str → Option Value) (B : Addr) : Prop where
  g : mg "SlotError" = some (.ref B)
  ga : PySem.W.specialIn K (.ref B) "__getattribute__" = some (some (.builtin "type.__getattribute__"))
  rd : PySem.W.readsIn K B (.type "type") = true
  v : PySem.W.findCls K (.ref B) (.type "type") "__init__" = some (.val (.builtin "ValueError.__init__"))
section
variable {X : Cx} {e : Expr} {es : List Expr} {ta : TA} {p1 p2 pos : Pos}
theorem pe_bainit {B : Addr} {pl : Sem Bool} (T : BaseC X.K X.mg B) (hg : Gl X "SlotError") (ha : PA X (e :: es) ta)
    (hc : eval (.Call (.Attribute (.Name "SlotError" p1) "__init__" p2) (e :: es) [] pos) X.env = (do
      let ov ← eval (.Name "SlotError" p1) X.env
      standAt p2.atName
      let (f, first) ← holding [ov] (getMethod ov "__init__" pl)
      callWith pos f first (backTo pos (starEach (e :: es) X.env)) (backToKw pos (keywordEach [] X.env))) := by rfl)
    (he : starEach (e :: es) X.env = (false, eval e X.env) :: starEach es X.env := by rfl) (hpl : (backTo pos (starEach es X.env)).any (·.1) = false := by rfl) :
    PE X (.Call (.Attribute (.Name "SlotError" p1) "__init__" p2) (e :: es) [] pos) (tVeI X.K ta) := by
  refine ⟨fun pins s σ H Q I h => ?_⟩
  refine PySem.W.methodCall_KW (ld_glob I hg T.g ?_ (by decide)) hc
  refine PySem.W.method_cls I.kIn T.ga (PySem.W.cls_value I.kIn T.rd T.v (by decide +kernel) ?_)
  show wpAny _ _ (callWith pos (Value.builtin "ValueError.__init__") [] (backTo pos (starEach (e :: es) X.env)) []) _ _ _
  refine PyProof.Rows.callWith_method1 (thn (ha.run pos pins _ σ H _ (I.tok _) h) fun us s1 ⟨vs, H1, I1, r1, a, C, ws, ev, hl, T, ea, q⟩ => ?_) he hpl
  subst ev
  cases r1 with
  | @cons _ u0 _ ur ra rw' =>
    obtain rfl : u0 = Value.ref a := ra
    have hlen : ur.length ≤ sizeLine := by
      rw [← Paired.length rw', sizeLine_eq]
      omega
    exact oinit_ok T I1 ea hlen fun s' J => ⟨.non, H1, J, rfl, q⟩
end
/-- what such a class's __init__ does: the field holds the number -/
def spIni (K : PySem.W.Frag) (f : Str) : Sp := fun vs H Q _ => ∃ (a C : Addr) (n : Int), vs = [.ref a, .int n] ∧ H a = some (exo a C none) ∧ OexC K C ∧ PySem.W.findIn K (.ref C) f = some none ∧ n.natAbs.log2 < 1920 ∧
  ∀ dx, H dx = none → dx ≠ a → Q .non (upd (upd H dx (exd dx [(f, .int n)])) a (exo a C (some dx)))
structure ErrN (P : Program) (w : World) (K : PySem.W.Frag) (mg : Str → Option Value) (base : Heap) (x f : Str) (C : Addr) : Prop where
  g : mg x = some (.ref C)
  T : OexC K C
  no : PySem.W.findIn K (.ref C) f = some none
  ex : ∃ (fI : Addr) (fd : FuncData) (ps : List Str), PySem.W.findIn K (.ref C) "__init__" = some (some (.ref fI)) ∧ PySem.W.typeIn K (.ref fI) = some (.type "function") ∧ FnOk P w K mg base CX0 1 fI fd ps (spIni K f) ∧ Binds K fd ps []
theorem mk_num {σ : L2.St} {H : Hp} {K : PySem.W.Frag} {ta : TA} {C : Addr} {f : Str} {n : Int} {Q : XK} (T : OexC K C) (no : PySem.W.findIn K (.ref C) f = some none) (hn : n.natAbs.log2 < 1920) (h : EAs ta σ H [.int n])
    (k : ∀ d H', Ex H H' → H' d = some (.xd [(f, .int n)]) → Q (.ref C) (some d) H') : tMkO C (spIni K f) [] ta σ H Q := h H (Ex.refl _) _ fun vs H1 e hv => by
  obtain ⟨v, rfl, h1⟩ := hv.args1
  have e1 := h1.toInt
  subst e1
  refine ⟨by show 1 ≤ 1000; decide, fun a na => ⟨a, C, n, rfl, upd_same, T, no, hn, fun dx nd ne => ?_⟩⟩
  have nd1 : H1 dx = none := by rw [upd_ne ne] at nd; exact nd
  refine ⟨rfl, dx, [(f, .int n)], upd_same, by rw [upd_ne ne, upd_same], nd1, ?_⟩
  refine k dx _ (e.trans fun b o hb => ?_) upd_same
  have hbd : b ≠ dx := fun z => by rw [z, nd1] at hb; cases hb
  have hba : b ≠ a := fun z => by rw [z, na] at hb; cases hb
  rw [upd_ne hbd, del_ne hba, upd_ne hba, upd_ne hbd, upd_ne hba]
  exact hb
/-- raise X(e) -/
theorem pmk_num {X : Cx} {x f : Str} {C : Addr} {k : Nat} {e : Expr} {ta : TA} {p pos : Pos} (N : ErrN X.prog X.w X.K X.mg X.base x f C) (hr : Room k X.A) (hk : 2 ≤ k) (ha : PA X [e] ta) (hg : Gl X x := by rfl)
    (hdb : (x == ("__debug__" : Str)) = false := by decide) (he : starEach [e] X.env = (false, eval e X.env) :: starEach [] X.env := by rfl) (hpl : (backTo pos (starEach [] X.env)).any (·.1) = false := by rfl) : PMk X (.Call (.Name x p) [e] [] pos) (tMkO C (spIni X.K f) [] ta) := by
  obtain ⟨fI, fd, ps, iC, tI, F, b⟩ := N.ex
  exact pmk_oex N.T iC tI F (hr.mono hk) b .nil pass0 hg N.g ha hdb he hpl
/-- what raising a class with a number leaves -/
def RaisesN (C : Addr) (f : Str) (n : Nat) (H : Hp) (E : XK) : Prop := ∀ d H', Ex H H' → H' d = some (.xd [(f, .int ((n : Nat) : Int))]) → E (.ref C) (some d) H'
theorem RaisesN.ex {C : Addr} {f : Str} {n : Nat} {H H' : Hp} {E : XK} (h : RaisesN C f n H E) (e : Ex H H') : RaisesN C f n H' E := fun d H2 e2 hd => h d H2 (e.trans e2) hd
theorem mem_fields {σ : L2.St} {H : Hp} {s : Str} : ED (tC (.str s)) σ H (.str s) := ed_cs s
/-! ### BadFamily -/
theorem sc_iBadFamily : FnScope ["self", "number"] ["self", "number"] (defScope i_BadFamily) := ⟨rfl, rfl, rfl, by decide +kernel, rfl, by decide +kernel, by decide +kernel⟩
theorem ok_iBadFamily {P : Program} {w : World} {K : PySem.W.Frag} {mg : Str → Option Value} {base : Heap} {B fI : Addr} {fd : FuncData} (T : BaseC K mg B) (F : Fun K "__init__" "BadFamily.__init__" i_BadFamily fI fd) : FnOk P w K mg base CX0 1 fI fd ["self", "number"] (spIni K "number") := by
  refine F.ok sc_iBadFamily (fun vs H Q E h => by obtain ⟨_, _, _, rfl, _⟩ := h; rfl) (fun cdv A outer s H vs Q E hr h => ?_)
  obtain ⟨a, C, n, rfl, ha, O, no, hn, q⟩ := h
  refine ⟨_, pss_cons (ps_expr (pe_bainit T rfl (pa_cons (pv 0) (pa_cons (pe_joined (.cons pe_str (.cons (pe_fmt (pv 1)) .nil))) pa_nil)))) (pss_one (ps_ost (pv 0) (pv 1))), ?_⟩
  refine ⟨.ref a, rfl, ?_⟩
  refine ⟨_, rfl, by decide, .int n, rfl, .inr ⟨n, rfl, hn, _, rfl, ?_, ?_⟩⟩
  · rw [PySem.Str.length_append, sizeLine_eq]
    have := int_text_len_1921 hn
    refine Nat.le_trans (Nat.add_le_add_left this _) (by decide)
  refine ⟨a, C, _, rfl, by show 1 ≤ 1000; decide, O, ha, ?_⟩
  refine ⟨.int n, rfl, .ref a, rfl, a, C, rfl, O, no, .inl ⟨ha, fun dx nd ne => q dx nd ne⟩⟩
/-! ### BadAsked -/
theorem sc_iBadAsked : FnScope ["self", "number"] ["self", "number"] (defScope i_BadAsked) := ⟨rfl, rfl, rfl, by decide +kernel, rfl, by decide +kernel, by decide +kernel⟩
theorem ok_iBadAsked {P : Program} {w : World} {K : PySem.W.Frag} {mg : Str → Option Value} {base : Heap} {B fI : Addr} {fd : FuncData} (T : BaseC K mg B) (F : Fun K "__init__" "BadAsked.__init__" i_BadAsked fI fd) : FnOk P w K mg base CX0 1 fI fd ["self", "number"] (spIni K "number") := by
  refine F.ok sc_iBadAsked (fun vs H Q E h => by obtain ⟨_, _, _, rfl, _⟩ := h; rfl) (fun cdv A outer s H vs Q E hr h => ?_)
  obtain ⟨a, C, n, rfl, ha, O, no, hn, q⟩ := h
  refine ⟨_, pss_cons (ps_expr (pe_bainit T rfl (pa_cons (pv 0) (pa_cons (pe_joined (.cons pe_str (.cons (pe_fmt (pv 1)) .nil))) pa_nil)))) (pss_one (ps_ost (pv 0) (pv 1))), ?_⟩
  refine ⟨.ref a, rfl, ?_⟩
  refine ⟨_, rfl, by decide, .int n, rfl, .inr ⟨n, rfl, hn, _, rfl, ?_, ?_⟩⟩
  · rw [PySem.Str.length_append, sizeLine_eq]
    have := int_text_len_1921 hn
    refine Nat.le_trans (Nat.add_le_add_left this _) (by decide)
  refine ⟨a, C, _, rfl, by show 1 ≤ 1000; decide, O, ha, ?_⟩
  refine ⟨.int n, rfl, .ref a, rfl, a, C, rfl, O, no, .inl ⟨ha, fun dx nd ne => q dx nd ne⟩⟩
/-! ### BadText -/
theorem sc_iBadText : FnScope ["self", "row"] ["self", "row"] (defScope i_BadText) := ⟨rfl, rfl, rfl, by decide +kernel, rfl, by decide +kernel, by decide +kernel⟩
theorem ok_iBadText {P : Program} {w : World} {K : PySem.W.Frag} {mg : Str → Option Value} {base : Heap} {B fI : Addr} {fd : FuncData} (T : BaseC K mg B) (F : Fun K "__init__" "BadText.__init__" i_BadText fI fd) : FnOk P w K mg base CX0 1 fI fd ["self", "row"] (spIni K "row") := by
  refine F.ok sc_iBadText (fun vs H Q E h => by obtain ⟨_, _, _, rfl, _⟩ := h; rfl) (fun cdv A outer s H vs Q E hr h => ?_)
  obtain ⟨a, C, n, rfl, ha, O, no, hn, q⟩ := h
  refine ⟨_, pss_cons (ps_expr (pe_bainit T rfl (pa_cons (pv 0) (pa_cons (pe_joined (.cons pe_str (.cons (pe_fmt (pv 1)) .nil))) pa_nil)))) (pss_one (ps_ost (pv 0) (pv 1))), ?_⟩
  refine ⟨.ref a, rfl, ?_⟩
  refine ⟨_, rfl, by decide, .int n, rfl, .inr ⟨n, rfl, hn, _, rfl, ?_, ?_⟩⟩
  · rw [PySem.Str.length_append, sizeLine_eq]
    have := int_text_len_1921 hn
    refine Nat.le_trans (Nat.add_le_add_left this _) (by decide)
  refine ⟨a, C, _, rfl, by show 1 ≤ 1000; decide, O, ha, ?_⟩
  refine ⟨.int n, rfl, .ref a, rfl, a, C, rfl, O, no, .inl ⟨ha, fun dx nd ne => q dx nd ne⟩⟩
end KS
end
noncomputable section
namespace KS
open PySem PySem.Spec PyProof.Rows L2 Evl
/-! ### len(set(xs)), xs with or without twins -/
def dist (ns : List Int) : Nat := (PyProof.Rows.firstMet (fun i => ns.getD i 0) ns.length).length
theorem met_all (val : Nat → Int) : ∀ n : Nat, (PyProof.Rows.firstMet val n).length = n → ∀ a b : Nat, a < b → b < n → val a ≠ val b
  | 0, _ => fun a b _ h => absurd h (Nat.not_lt_zero _)
  | n + 1, h => fun a b hab hb => by
    have le := PyProof.Rows.firstMet_length_le val n
    rw [PyProof.Rows.firstMet_succ] at h
    have h' : (if (PyProof.Rows.firstMet val n).any (· == val n) then PyProof.Rows.firstMet val n else PyProof.Rows.firstMet val n ++ [val n]).length = n + 1 := h
    cases hc : (PyProof.Rows.firstMet val n).any (· == val n) with
    | true =>
      rw [hc, if_pos rfl] at h'
      omega
    | false =>
      rw [hc, if_neg (by decide), List.length_append, List.length_singleton] at h'
      rcases Nat.lt_succ_iff_lt_or_eq.mp hb with z | z
      · exact met_all val n (by omega) a b hab z
      · subst z
        rw [PyProof.Rows.firstMet_any] at hc
        intro e
        have : ((List.range b).map val).any (· == val b) = true := List.any_eq_true.mpr ⟨val a, List.mem_map.mpr ⟨a, List.mem_range.mpr hab, rfl⟩, by rw [e]; exact beq_self_eq_true _⟩
        rw [this] at hc
        cases hc
theorem dist_iff (ns : List Int) : dist ns = ns.length ↔ ns.Nodup := by
  refine ⟨fun h => ?_, fun h => ?_⟩
  · refine List.pairwise_iff_getElem.mpr fun i j hi hj hij => ?_
    have := met_all _ ns.length h i j hij hj
    rw [List.getD_eq_getElem?_getD, List.getD_eq_getElem?_getD, List.getElem?_eq_getElem hi, List.getElem?_eq_getElem hj] at this
    exact this
  · unfold dist
    rw [RZ.firstMet_nodup h ns.length (Nat.le_refl _), List.take_length]
def tLenSetX (K : PySem.W.Frag) (ta : TE) : TE := fun σ H Q => ta σ H fun x H1 => ∃ (l : Addr) (ns : List Int), x = .ref l ∧ SqL K H1 l (ns.map V.int) ∧ ns.length ≤ 4000 ∧ Q (.int ((dist ns : Nat) : Int)) H1
theorem pe_lenSetX {X : Cx} {a : Expr} {ta : TE} {p p2 q pos : Pos} (hg : Gl X "len") (hm : X.mg "len" = none) (hg2 : Gl X "set") (hm2 : X.mg "set" = none) (ha : PE X a ta) (hc : X.calm = true := by rfl)
    (na : starEach [a] X.env = (false, eval a X.env) :: starEach [] X.env := by rfl) : PE X (.Call (.Name "len" p) [.Call (.Name "set" p2) [a] [] q] [] pos) (tLenSetX X.K ta) := by
  refine ⟨fun pins s σ H Q I h => ?_⟩
  refine Call_ (ld_blt I hg hm boot_len ?_)
  refine PyProof.Rows.callWith_builtin1 (PyProof.Rows.args_cons ?_ rfl) rfl rfl
  refine Call_ (ld_blt I hg2 hm2 boot_set ?_)
  refine PyProof.Rows.callWith_type1 (PyProof.Rows.args_cons (thn (ha.run pins s σ H _ I h) fun v s1 ⟨x, H1, I1, r1, q1⟩ => PyProof.Rows.args_nil ?_) na) na rfl
  obtain ⟨l, ns, rfl, hq, hl, q1⟩ := q1
  cases r1
  obtain ⟨its, r, pl, hz⟩ := I1.list hq
  have hlen : its.toArray.size = ns.length := by rw [List.size_toArray, ← r.length, List.length_map]
  refine call_set_list (I1.ok.hd hc) pl.isList (by simpa using RZ.intsAre_vals r) (by rw [hlen]; unfold scanBound; omega) fun h' tk hS hk => ?_
  refine PyProof.Rows.args_nil ?_
  rw [hlen] at hS
  obtain ⟨o, es, ep, t, ho, hex, hd, _, _, _, hf, hn⟩ := hS
  have I2 : Inv X pins σ H1 { s1 with heap := h', toks := tk } := I1.kept fun b o e => hk b o (Heap.lt_size e) e
  have le := PyProof.Rows.firstMet_length_le (fun i => ns.getD i 0) ns.length
  exact call_len_set ho hex hd hf (by rw [hn] <;> omega) ⟨.int ((dist ns : Nat) : Int), H1, I2.tok _, ⟨_, by rw [hn] <;> rfl⟩, q1⟩
theorem ed_lenSetX {K : PySem.W.Frag} {σ : L2.St} {H : Hp} {ta : TE} {ns : List Int} (ha : ED ta σ H (.list (ns.map PyData.int))) (hz : ns.length ≤ 4000) : ED (tLenSetX K ta) σ H (.int ((dist ns : Nat) : Int)) := fun H1 e Q q =>
  ha H1 e _ fun x H2 e2 hx => by
    obtain ⟨a, xs, rfl, h, t⟩ := hx.toLst
    have e3 := t.ints
    subst e3
    exact ⟨a, ns, rfl, SqL.of h, hz, q _ H2 e2 (.int _)⟩
/-! ### kinds as they may be told -/
def elsB (n : Int) (es : List (Int × Int)) : Bool := decide (es.length ≤ 3) && (es.all (pairB n) && decide (es.map (·.1)).Nodup)
def deedsB (s : Str) : Bool := decide (s = txt (abc.filter fun c => decide (c ∈ s.cps.toList)))
def kindB (n : Int) (k : Kind) : Bool := (elsB n k.el && deedsB k.de) && (decide (0 ≤ k.ce) && decide (k.ce ≤ 3))
theorem deedsB_iff (s : Str) : deedsB s = true ↔ rise s.cps.toList := by
  unfold deedsB
  rw [decide_eq_true_eq]
  refine ⟨fun h => ?_, fun h => rise_txt h⟩
  unfold rise
  have e : s.cps.toList = (txt (abc.filter fun c => decide (c ∈ s.cps.toList))).cps.toList := congrArg (fun z : Str => z.cps.toList) h
  have e2 : ∀ l : List Nat, (txt l).cps.toList = l := fun l => rfl
  rw [e2] at e
  exact e
theorem kindB_iff (n : Nat) (k : Kind) : kindB n k = true ↔ KindOk n k := by
  unfold kindB elsB
  simp only [Bool.and_eq_true, decide_eq_true_eq, List.all_eq_true]
  rw [deedsB_iff]
  refine ⟨fun ⟨⟨⟨a, b, c⟩, d⟩, e, f⟩ => ⟨a, fun x hx => ?_, c, d, e, f⟩, fun o => ⟨⟨⟨o.few, pairs_ok o, o.once⟩, o.rise⟩, o.cells⟩⟩
  have := b x hx
  unfold pairB at this
  simp only [Bool.and_eq_true, Bool.or_eq_true, decide_eq_true_eq] at this
  exact ⟨this.1.1, this.1.2, this.2⟩
section
variable {P : Program} {w : World} {K : PySem.W.Frag} {mg : Str → Option Value} {base : Heap}
def R_are_eldersX : List PyData → PyData → Prop := fun ds d => ∃ (es : List (Int × Int)) (n : Int), ds = [.tuple (es.map encE), .int n] ∧ d = .bool (elsB n es)
theorem ok_are_eldersX (B : Bt mg) (m3 : ∃ t, mg "MOST_ELDERS" = some (.int 3 t)) (d : Df K mg "are_elders" s_are_elders ["elders", "number"]) (cP : Cl P w K mg base "is_pair" ["pair", "number"] 2 (spD R_is_pair)) : Cl P w K mg base "are_elders" ["elders", "number"] 3 (spD R_are_eldersX) := by
  obtain ⟨t3, m3⟩ := m3
  refine d.ok sc_are_elders (spD_len (by rintro _ _ ⟨_, _, rfl, _⟩; rfl)) (fun fa cdv A outer s H vs Q E hr h => ?_)
  obtain ⟨ds, ee, hv, ⟨es, n, rfl, rfl⟩, q⟩ := h
  obtain ⟨x, y, rfl, hx, hy⟩ := hv.args2
  refine ⟨_, pss_cons (ps_if (PW.pt (pw_or (pt_not (pt_val (pe_callB call_isi rfl B.isinstance boot_isinstance (pa_cons (pv 0) (pa_cons (pe_bltn (v := .ty "tuple") rfl B.tuple (by decide +kernel) rfl) pa_nil)))))
      (pw_or1 (pt_cmpR op_gt (pe_callB call_len rfl B.len PySem.boot_len (pa_cons (pv 0) pa_nil)) (pe_glob (v := .int 3) rfl m3 ⟨_, rfl⟩) (nomark _))))) (pss_one (ps_ret pe_bl)) pss_nil)
    (pss_cons (ps_if (pt_not (pt_val (pe_callB (cr_all (by rfl)) (by rfl) B.all boot_all (pa_cons (pe_lc (own := [("pair", 2)]) (g := gName 2) (tt := tYes) rfl sc_are_elders.nd (pi_tup (pv 0)) (blkOk_by (N := ["elders", "number", "pair"]) (sc := defScope s_are_elders) (by decide +kernel))
      (fun _ _ _ _ _ => pg_name (i := 2) sc_are_elders.nd rfl (.inl rfl)) (fun _ _ _ _ _ => pts_nil) (fun _ _ _ _ _ => pe_cl cP hr (pa_cons (pv 2) (pa_cons (pv 1) pa_nil)))) pa_nil)))) (pss_one (ps_ret pe_bl)) pss_nil)
    (pss_one (ps_ret (pe_cmpR op_eq (pe_lenSetX (by rfl) B.len (by rfl) B.set (pe_lc (own := [("pair", 2)]) (g := gName 2) (tt := tYes) rfl sc_are_elders.nd (pi_tup (pv 0)) (blkOk_by (N := ["elders", "number", "pair"]) (sc := defScope s_are_elders) (by decide +kernel))
      (fun _ _ _ _ _ => pg_name (i := 2) sc_are_elders.nd rfl (.inl rfl)) (fun _ _ _ _ _ => pts_nil) (fun _ _ _ _ _ => pe_ix (r := rIxT K) ix_tup (pv 2) pe_int (fun _ _ => rfl)))) (pe_callB call_len rfl B.len PySem.boot_len (pa_cons (pv 0) pa_nil)) (nomark _))))), ?_⟩
  have tst : ∀ b, decide (3 < ((es.length : Nat) : Int)) = b → EvT (tTest (tOp (rI0 fun i j => .bl (decide (j < i))) (tCB (fun xs H Q => ∃ x n, xs = [x] ∧ LenV K x H n ∧ Q (.int n) H) (tCons (tVar 0) tNil)) (tC (.int 3)))) [some x, some y, none] H b := fun b hb => et_D (ed_is (ed_I0 (i := ((es.length : Nat) : Int)) (j := 3) (d := .bool (decide (3 < ((es.length : Nat) : Int)))) (ed_is (ed_lenT (ed_var (i := 0) rfl hx)) (by rw [List.length_map])) (ed_ci 3) fun H => .bl _) (by rw [hb]))
  by_cases h3 : es.length ≤ 3
  · refine sd_if (b := false) (et_or (a := false) (b := false) (et_not (a := true) (et_DB (ed_isi (ed_var (i := 0) rfl hx) rfl kb_tuple_tuple))) fun _ => tst false (by rw [decide_eq_false (by omega)])) (fun z => nomatch z) fun _ H1 e1 => ?_
    refine st_next ?_
    dsimp only
    have hx1 := hx.mono e1
    have e3 : elsB n es = (es.all (pairB n) && decide (es.map (·.1)).Nodup) := by unfold elsB; rw [decide_eq_true h3, Bool.true_and]
    refine sd_if (b := !es.all (pairB n)) (et_not (a := es.all (pairB n)) (et_DB (ed_is (ed_all (bs := es.map (pairB n)) (EL.ed (el_is (el_lcT (as := es) (enc := encE) (fun _ => true) (fun e => .bool (pairB n e)) (ed_var (i := 0) rfl hx1) (by omega) (fun _ _ _ => rfl) fun e he z H2 e2 hz => ?_) (by rw [filt_true, List.map_map]; rfl)))) (by rw [List.all_map]; rfl)))) (fun hb H2 e2 => ?_) fun hb H2 e2 => ?_
    · exact ⟨[some x, some y, some z], rfl, fun _ _ R h => h, et_yes, fun _ => ed_call (eas2 (ed_var (i := 2) rfl hz) (ed_var (i := 1) rfl ((hy.mono e1).mono e2))) ⟨e, n, rfl, rfl⟩⟩
    · have hb' : es.all (pairB n) = false := by simpa using hb
      rw [e3, hb', Bool.false_and] at q
      refine sd_ret (ed_cb false) fun v H3 e3 hv3 => q v H3 ((e1.trans e2).trans e3) hv3
    · have hb' : es.all (pairB n) = true := by simpa using hb
      rw [e3, hb', Bool.true_and] at q
      refine st_next ?_
      dsimp only
      refine sd_ret (d := .bool (decide (es.map (·.1)).Nodup)) ?_ fun v H3 e3 hv3 => q v H3 ((e1.trans e2).trans e3) hv3
      refine ed_is (ed_eqI (s := ((dist (es.map (·.1)) : Nat) : Int)) (s' := ((es.length : Nat) : Int)) (ed_lenSetX (EL.ed (el_is (el_lcT (as := es) (enc := encE) (fun _ => true) (fun e => .int e.1) (ed_var (i := 0) rfl (hx1.mono e2)) (by omega) (fun _ _ _ => rfl) fun e he z H3 e3 hz => ?_) (by rw [filt_true, List.map_map]; rfl))) (by rw [List.length_map]; omega)) (ed_is (ed_lenT (ed_var (i := 0) rfl (hx1.mono e2))) (by rw [List.length_map]))) ?_
      · exact ⟨[some x, some y, some z], rfl, fun _ _ R h => h, et_yes, fun _ => ed_ixT (ed_var (i := 2) rfl hz) (ed_ci 0) rfl⟩
      · congr 1
        refine decide_eq_decide.mpr ⟨fun h => (dist_iff _).mp (by rw [List.length_map]; omega), fun h => ?_⟩
        have := (dist_iff _).mpr h
        rw [List.length_map] at this
        omega
  · have e3 : elsB n es = false := by unfold elsB; rw [decide_eq_false h3, Bool.false_and]
    rw [e3] at q
    refine sd_if (b := true) (et_or (a := false) (b := true) (et_not (a := true) (et_DB (ed_isi (ed_var (i := 0) rfl hx) rfl kb_tuple_tuple))) fun _ => tst true (by rw [decide_eq_true (by omega)])) (fun _ H1 e1 => ?_) (fun z => nomatch z)
    refine sd_ret (ed_cb false) fun v H3 e3 hv3 => q v H3 (e1.trans e3) hv3
def R_is_kindX : List PyData → PyData → Prop := fun ds d => ∃ (k : Kind) (n : Nat), ds = [encK k, .int n] ∧ d = .bool (kindB n k)
theorem ok_is_kindX (B : Bt mg) (m3 : ∃ t, mg "MOST_CELLS" = some (.int 3 t)) (d : Df K mg "is_kind" s_is_kind ["kind", "number"]) (cE : Cl P w K mg base "are_elders" ["elders", "number"] 3 (spD R_are_eldersX)) (cD : Cl P w K mg base "are_deeds" ["deeds"] 1 (spD R_are_deeds))
    (cW : Cl P w K mg base "is_whole" ["value"] 1 (spD R_is_whole)) : Cl P w K mg base "is_kind" ["kind", "number"] 4 (spD R_is_kindX) := by
  obtain ⟨t3, m3⟩ := m3
  refine d.ok sc_is_kind (spD_len (by rintro _ _ ⟨_, _, rfl, _⟩; rfl)) (fun fa cdv A outer s H vs Q E hr h => ?_)
  obtain ⟨ds, ee, hv, ⟨k, n, rfl, rfl⟩, q⟩ := h
  obtain ⟨x, y, rfl, hx, hy⟩ := hv.args2
  refine ⟨_, pss_cons (ps_if (PW.pt (pw_or (pt_not (pt_val (pe_callB call_isi rfl B.isinstance boot_isinstance (pa_cons (pv 0) (pa_cons (pe_bltn (v := .ty "tuple") rfl B.tuple (by decide +kernel) rfl) pa_nil)))))
      (pw_or1 (pt_cmpR op_ne (pe_callB call_len rfl B.len PySem.boot_len (pa_cons (pv 0) pa_nil)) pe_int (nomark _))))) (pss_one (ps_ret pe_bl)) pss_nil)
    (pss_cons (ps_asg (pv 0) (pg_tup rfl (pgs_cons (pg_name (i := 2) sc_is_kind.nd rfl (.inl rfl)) (pgs_cons (pg_name (i := 3) sc_is_kind.nd rfl (.inl rfl)) (pgs_cons (pg_name (i := 4) sc_is_kind.nd rfl (.inl rfl)) pgs_nil)))))
    (pss_cons (ps_if (PW.pt (pw_or (pt_not (pt_val (pe_cl cE hr (pa_cons (pv 2) (pa_cons (pv 1) pa_nil))))) (pw_or1 (pt_not (pt_val (pe_cl cD (hr.mono (by decide)) (pa_cons (pv 3) pa_nil))))))) (pss_one (ps_ret pe_bl)) pss_nil)
    (pss_one (ps_ret (pe_and (pe_cl cW (hr.mono (by decide)) (pa_cons (pv 4) pa_nil)) (pe_one (pe_chain op_le op_le pe_int (pv 4) (pe_glob (v := .int 3) rfl m3 ⟨_, rfl⟩)))))))), ?_⟩
  refine sd_if (b := false) (et_or (a := false) (b := false) (et_not (a := true) (et_DB (ed_isi (ed_var (i := 0) rfl hx) rfl kb_tuple_tuple))) fun _ => et_D (b := false) (ed_is (ed_neI (s := 3) (s' := 3) (ed_is (ed_lenT (ed_var (i := 0) rfl hx)) rfl) (ed_ci 3)) rfl)) (fun z => nomatch z) fun _ H1 e1 => ?_
  refine st_next ?_
  dsimp only
  refine sd_asg3 (d1 := .tuple (k.el.map encE)) (d2 := .str k.de) (d3 := .int k.ce) (ed_var (i := 0) rfl (hx.mono e1)) fun v1 v2 v3 H2 e2 h1 h2 h3 => ?_
  have hy2 := (hy.mono e1).mono e2
  refine sd_if (b := !elsB n k.el || !deedsB k.de) (et_or (et_not (et_DB (ed_call (eas2 (ed_var (i := 2) rfl h1) (ed_var (i := 1) rfl hy2)) ⟨k.el, n, rfl, rfl⟩))) fun _ => et_not (et_DB (ed_call (eas1 (ed_var (i := 3) rfl h2)) ⟨k.de, rfl, rfl⟩))) (fun hb H3 e3 => ?_) fun hb H3 e3 => ?_
  · have e0 : kindB n k = false := by
      unfold kindB
      rw [← Bool.not_and] at hb
      have : (elsB n k.el && deedsB k.de) = false := by simpa only [Bool.not_eq_true'] using hb
      rw [this, Bool.false_and]
    rw [e0] at q
    refine sd_ret (ed_cb false) fun v H4 e4 hv4 => q v H4 (((e1.trans e2).trans e3).trans e4) hv4
  · have e0 : kindB n k = (decide (0 ≤ k.ce) && decide (k.ce ≤ 3)) := by
      unfold kindB
      rw [← Bool.not_and] at hb
      have : (elsB n k.el && deedsB k.de) = true := by simpa only [Bool.not_eq_false'] using hb
      rw [this, Bool.true_and]
    rw [e0] at q
    refine st_next ?_
    dsimp only
    refine sd_ret (d := .bool (decide (0 ≤ k.ce) && decide (k.ce ≤ 3))) ?_ fun v H4 e4 hv4 => q v H4 (((e1.trans e2).trans e3).trans e4) hv4
    exact ed_andV (a := true) (ed_call (eas1 (ed_var (i := 4) rfl (h3.mono e3))) (R_whole_int k.ce)) fun _ => ed_chain (p := fun i j => decide (i ≤ j)) (p' := fun i j => decide (i ≤ j)) (ed_ci 0) (ed_var (i := 4) rfl (h3.mono e3)) (ed_ci 3)
end
end KS
end
noncomputable section
namespace KS
open PySem PySem.Spec PyProof.Rows L2 Evl
/-! ### the first bad kind -/
theorem find_congr' {α : Type} {p q : α → Bool} : ∀ {l : List α}, (∀ a ∈ l, p a = q a) → l.find? p = l.find? q
  | [], _ => rfl
  | x :: l, h => by
    rw [List.find?_cons, List.find?_cons, h x List.mem_cons_self, find_congr' fun a ha => h a (List.mem_cons_of_mem _ ha)]
theorem soundB_app {g l : Fam} (L : Low (g ++ l)) {j : Nat} (h : j < g.length) : soundB (g ++ l) j = soundB g j := by
  have e : lm NN (g ++ l) [(j : Int)] = lm NN g [(j : Int)] := lm_append L (by rw [lastP_one]; omega) (by rw [lastP_one]; omega) NN
  have bd : ∀ y ∈ lm NN g [(j : Int)], 0 ≤ lastP y ∧ lastP y < g.length := fun y hy => by
    rw [← e] at hy
    have b := mem_bound L (by omega) hy
    exact ⟨b.1, by omega⟩
  have ed : ∀ c, doing (g ++ l) c (lm NN g [(j : Int)]) = doing g c (lm NN g [(j : Int)]) := fun c => by
    unfold doing
    exact List.filter_congr fun y hy => does_append (bd y hy).1 (bd y hy).2 c
  have ek : known (g ++ l) (lm NN g [(j : Int)]) = known g (lm NN g [(j : Int)]) := by
    unfold known
    refine List.filter_congr fun c _ => ?_
    rw [Bool.eq_iff_iff, List.any_eq_true, List.any_eq_true]
    refine ⟨fun ⟨y, hy, z⟩ => ⟨y, hy, by rw [← does_append (l := l) (bd y hy).1 (bd y hy).2 c]; exact z⟩, fun ⟨y, hy, z⟩ => ⟨y, hy, by rw [does_append (l := l) (bd y hy).1 (bd y hy).2 c]; exact z⟩⟩
  have ef : ∀ c, foremost NN (g ++ l) (doing g c (lm NN g [(j : Int)])) = foremost NN g (doing g c (lm NN g [(j : Int)])) := fun c => by
    unfold foremost
    refine find_congr' fun y hy => over_congr (lm_append L ?_ ?_ NN)
    · exact (bd y (List.mem_filter.mp hy).1).1
    · exact (bd y (List.mem_filter.mp hy).1).2
  unfold soundB
  rw [e, ek]
  congr 1
  congr 1
  funext c
  rw [ed, ef]
theorem sound_of {f : Fam} (K : Kinds f) {j : Nat} (h : j < f.length) (S : soundB f j = true) : Sound f j := by
  unfold soundB at S
  rw [Bool.and_eq_true, decide_eq_true_eq, List.all_eq_true] at S
  refine ⟨S.1, fun c hc => ?_⟩
  obtain ⟨p, hp⟩ := List.exists_mem_of_ne_nil _ hc
  have hp' := List.mem_filter.mp hp
  have b := mem_bound (kinds_low K) (show (0 : Int) ≤ (j : Int) by omega) hp'.1
  have ca : c ∈ abc := by
    have hd := of_decide_eq_true hp'.2
    have l0 : (lastP p).toNat < f.length := by omega
    have hk := K (lastP p).toNat f[(lastP p).toNat] (List.getElem?_eq_getElem l0)
    have e : kd f (lastP p) = f[(lastP p).toNat] := by
      have := kd_at (List.getElem?_eq_getElem l0)
      rwa [show (((lastP p).toNat : Nat) : Int) = lastP p by omega] at this
    rw [e] at hd
    exact rise_abc hk.rise hd
  have := S.2 c (known_iff.mpr ⟨ca, hc⟩)
  cases hx : foremost NN f (doing f c (lm NN f [(j : Int)])) with
  | none => rw [hx] at this; cases this
  | some x => exact ⟨x, List.mem_of_find?_eq_some hx, List.find?_some hx⟩
def goodK (f : Fam) (j : Nat) : Bool := kindB j (kd f j) && soundB (f.take (j + 1)) j
def famBad (f : Fam) : Option Nat := if 7 < f.length then some 7 else if f.length = 0 then some 0 else (List.range f.length).find? fun j => !goodK f j
theorem kinds_take {f : Fam} {i : Nat} (hi : i ≤ f.length) (h : ∀ j, j < i → kindB j (kd f j) = true) : Kinds (f.take i) := fun j k hk => by
  have hj : j < i := by
    have := (List.getElem?_eq_some_iff.mp hk).1
    rw [List.length_take] at this
    omega
  rw [List.getElem?_take, if_pos hj] at hk
  rw [← kd_at hk]
  exact (kindB_iff j _).mp (h j hj)
theorem fam_good {f : Fam} (f1 : 1 ≤ f.length) (f7 : f.length ≤ 7) (h : ∀ j, j < f.length → goodK f j = true) : Valid f := by
  have hk : ∀ j, j < f.length → kindB j (kd f j) = true := fun j hj => by
    have := h j hj
    unfold goodK at this
    rw [Bool.and_eq_true] at this
    exact this.1
  have K : Kinds f := by
    have := kinds_take (Nat.le_refl _) hk
    rwa [List.take_length] at this
  refine ⟨f1, f7, by omega, K, fun j hj => sound_of K hj ?_⟩
  have := h j hj
  unfold goodK at this
  rw [Bool.and_eq_true] at this
  have e := soundB_app (g := f.take (j + 1)) (l := f.drop (j + 1)) (j := j) (by rw [List.take_append_drop]; exact kinds_low K) (by rw [List.length_take]; omega)
  rw [List.take_append_drop] at e
  rw [e]
  exact this.2
theorem valid_good {f : Fam} (V : Valid f) {j : Nat} (hj : j < f.length) : goodK f j = true := by
  unfold goodK
  have L := kinds_low V.kinds
  have e := soundB_app (g := f.take (j + 1)) (l := f.drop (j + 1)) (j := j) (by rw [List.take_append_drop]; exact L) (by rw [List.length_take]; omega)
  rw [List.take_append_drop] at e
  have o := V.kinds j f[j] (List.getElem?_eq_getElem hj)
  rw [← kd_at (List.getElem?_eq_getElem hj)] at o
  rw [(kindB_iff j _).mpr o, Bool.true_and, ← e]
  exact sound_true L (V.2.2.2.2 j hj)
theorem famBad_none {f : Fam} : famBad f = none ↔ Valid f := by
  unfold famBad
  refine ⟨fun h => ?_, fun V => ?_⟩
  · split at h
    · cases h
    · split at h
      · cases h
      · refine fam_good (by omega) (by omega) fun j hj => ?_
        have := List.find?_eq_none.mp h j (List.mem_range.mpr hj)
        simpa using this
  · rw [if_neg (by have := V.2.1; omega), if_neg (by have := V.1; omega)]
    refine List.find?_eq_none.mpr fun j hj => ?_
    rw [valid_good V (List.mem_range.mp hj)]
    decide
/-- the first of a range -/
theorem find_range {n i : Nat} {p : Nat → Bool} (hi : i < n) (h : p i = true) (hb : ∀ j, j < i → p j = false) : (List.range n).find? p = some i := by
  rw [List.find?_eq_some_iff_getElem]
  exact ⟨h, i, by rw [List.length_range]; exact hi, List.getElem_range _, fun j hj => by rw [List.getElem_range]; rw [hb j hj]; rfl⟩
theorem famBad_at {f : Fam} {i : Nat} (f7 : f.length ≤ 7) (hi : i < f.length) (hb : goodK f i = false) (h : ∀ j, j < i → goodK f j = true) : famBad f = some i := by
  unfold famBad
  rw [if_neg (by omega), if_neg (by omega)]
  exact find_range hi (by rw [hb]; rfl) fun j hj => by rw [h j hj]; rfl
theorem kdeP {f : Fam} {i : Nat} (K : Kinds (f.take i)) (hi : i ≤ f.length) (i7 : i ≤ 7) (k : Int) : (kd (f.take i) k).el.length ≤ 3 := kd_few (fun k hk => by
  obtain ⟨j, hj⟩ := List.mem_iff_getElem?.mp hk
  exact (K j k hj).few) k
section
variable {P : Program} {w : World} {K : PySem.W.Frag} {mg : Str → Option Value} {base : Heap}
def spNfX (CB : Addr) : Sp := fun vs H Q E => ∃ f : Fam, DA H vs [encF f] ∧ f.length ≤ 10000 ∧ ((famBad f = none ∧ ∀ H', Ex H H' → Q .non H') ∨ ∃ n, famBad f = some n ∧ RaisesN CB "number" n H E)
theorem ok_nfX {CB : Addr} (B : Bt mg) (N : ErrN P w K mg base "BadFamily" "number" CB) (m7 : ∃ t, mg "MOST_KINDS" = some (.int 7 t)) (d : Df K mg "need_family" s_need_family ["family"]) (cK : Cl P w K mg base "is_kind" ["kind", "number"] 4 (spD R_is_kindX)) (cS : Cl P w K mg base "is_sound" ["family", "kind"] 20 (spD R_is_sound)) :
    ClX P w K mg base "need_family" ["family"] 21 (spNfX CB) := by
  obtain ⟨t7, m7⟩ := m7
  refine d.okX sc_need_family (fun vs H Q E h => by obtain ⟨_, h, _⟩ := h; exact h.len) (fun fa cdv A outer s H vs Q E hr h => ?_)
  obtain ⟨f, hv, fz, q⟩ := h
  obtain ⟨x, rfl, hx⟩ := hv.args1
  refine ⟨_, pss_cons (ps_if (pt_cmpR op_gt (pe_callB call_len rfl B.len PySem.boot_len (pa_cons (pv 0) pa_nil)) (pe_glob (v := .int 7) rfl m7 ⟨_, rfl⟩) (nomark _)) (pss_one (ps_raise rfl (takes_of rfl rfl rfl rfl) (pmk_num N hr (by omega) (pa_cons (pe_glob (v := .int 7) rfl m7 ⟨_, rfl⟩) pa_nil)))) pss_nil)
    (pss_cons (ps_if (pt_cmpR op_eq (pe_callB call_len rfl B.len PySem.boot_len (pa_cons (pv 0) pa_nil)) pe_int (nomark _)) (pss_one (ps_raise rfl (takes_of rfl rfl rfl rfl) (pmk_num N hr (by omega) (pa_cons pe_int pa_nil)))) pss_nil)
    (pss_one (ps_for (passes_of rfl) rfl (pi_enumT (by rfl) B.enumerate (pa_cons (pv 0) pa_nil)) (pg_tup rfl (pgs_cons (pg_name (i := 1) sc_need_family.nd rfl (.inl rfl)) (pgs_cons (pg_name (i := 2) sc_need_family.nd rfl (.inl rfl)) pgs_nil)))
      (pss_one (ps_if (PW.pt (pw_or (pt_not (pt_val (pe_cl cK (hr.mono (by decide)) (pa_cons (pv 2) (pa_cons (pv 1) pa_nil))))) (pw_or1 (pt_not (pt_val (pe_cl cS hr (pa_cons (pv 0) (pa_cons (pv 1) pa_nil)))))))) (pss_one (ps_raise rfl (takes_of rfl rfl rfl rfl) (pmk_num N hr (by omega) (pa_cons (pv 1) pa_nil)))) pss_nil))))), ?_⟩
  have hn : ED (tCB (fun xs H Q => ∃ x n, xs = [x] ∧ LenV K x H n ∧ Q (.int n) H) (tCons (tVar 0) tNil)) (start ["family", "number", "kind"] [x]) H (.int ((f.length : Nat) : Int)) := ed_is (ed_lenT (ds := f.map encK) (ed_var (i := 0) rfl hx)) (by rw [List.length_map])
  have stop : ∀ (n : Nat) (te : TE) (σ : L2.St) (H1 : Hp), famBad f = some n → n ≤ 10000 → Ex H H1 → ED te σ H1 (.int ((n : Nat) : Int)) → tMkO CB (spIni K "number") [] (tCons te tNil) σ H1 (fun cls d H' => E cls d H') := fun n te σ H1 hb hn e1 he => by
    rcases q with ⟨hb2, _⟩ | ⟨m, hb2, q⟩
    · rw [hb] at hb2; cases hb2
    · rw [hb] at hb2
      have hb2 := Option.some.inj hb2
      subst hb2
      refine mk_num N.T N.no ?_ (eas1 he) fun d H' e hd => q d H' (e1.trans e) hd
      rw [Int.natAbs_natCast]
      rcases Nat.eq_zero_or_pos n with z | z
      · rw [z]; decide
      · exact Nat.lt_of_lt_of_le ((Nat.log2_lt (by omega)).mpr (show n < 2 ^ 20 by omega)) (by decide)
  by_cases h7 : 7 < f.length
  · refine sd_if (b := true) (et_D (ed_is (ed_I0 (d := .bool (decide (7 < ((f.length : Nat) : Int)))) hn (ed_ci 7) fun H => .bl _) (by rw [decide_eq_true (by omega)]))) (fun _ H1 e1 => ?_) (fun z => nomatch z)
    exact stop 7 _ _ H1 (by unfold famBad; rw [if_pos h7]) (by decide) e1 (ed_ci 7)
  refine sd_if (b := false) (et_D (ed_is (ed_I0 (d := .bool (decide (7 < ((f.length : Nat) : Int)))) hn (ed_ci 7) fun H => .bl _) (by rw [decide_eq_false (by omega)]))) (fun z => nomatch z) fun _ H1 e1 => ?_
  refine st_next ?_
  dsimp only
  by_cases h0 : f.length = 0
  · refine sd_if (b := true) (et_D (ed_is (ed_eqI (hn.mono e1) (ed_ci 0)) (by rw [decide_eq_true (by omega)]))) (fun _ H2 e2 => ?_) (fun z => nomatch z)
    exact stop 0 _ _ H2 (by unfold famBad; rw [if_neg h7, if_pos h0]) (by decide) (e1.trans e2) (ed_ci 0)
  refine sd_if (b := false) (et_D (ed_is (ed_eqI (hn.mono e1) (ed_ci 0)) (by rw [decide_eq_false (by omega)]))) (fun z => nomatch z) fun _ H2 e2 => ?_
  refine st_next ?_
  dsimp only
  have hx2 := (hx.mono e1).mono e2
  obtain ⟨a, xs, rfl, ha, hd⟩ := hx2.toTup
  have xl : xs.length = f.length := by rw [hd.len, List.length_map]
  refine ⟨.ref a, rfl, a, xs, rfl, SqT.of ha, for_enumT (K := K) (a := a) (xs := xs) (fun i σ H' => (∃ u1 u2, σ = [some (.ref a), u1, u2]) ∧ Ex H2 H' ∧ ∀ j, j < i → goodK f j = true) ⟨⟨_, _, rfl⟩, Ex.refl _, fun j z => absurd z (Nat.not_lt_zero _)⟩ (fun i σ H' _ ⟨_, e, _⟩ => SqT.of (e _ _ ha)) (fun i y T σ H' hi ⟨⟨u1, u2, es⟩, e3, all_⟩ nT => ?_) (fun σ H' ⟨_, e3, all_⟩ => ?_)⟩
  · subst es
    obtain ⟨dd, hd1, hy⟩ := hd.get2 hi
    obtain ⟨k, h1, h2⟩ : ∃ k, f[i]? = some k ∧ dd = encK k := by
      rw [List.getElem?_map] at hd1
      cases z : f[i]? with
      | none => rw [z] at hd1; cases hd1
      | some k => rw [z] at hd1; exact ⟨k, rfl, (Option.some.inj hd1).symm⟩
    subst h2
    have il : i < f.length := (List.getElem?_eq_some_iff.mp h1).1
    have ek := kd_at h1
    have e4 : Ex H' (upd H' T (.tup [.int (i : Nat), y])) := Ex.new nT
    have hy4 := (hy.mono e3).mono e4
    have hf4 : D (upd H' T (.tup [.int (i : Nat), y])) (.ref a) (encF (f.take (i + 1) ++ f.drop (i + 1))) := by
      rw [List.take_append_drop]; exact (hx2.mono e3).mono e4
    have kall : ∀ j, j < i → kindB j (kd f j) = true := fun j hj => by
      have := all_ j hj
      unfold goodK at this
      rw [Bool.and_eq_true] at this
      exact this.1
    refine ⟨T, [.int (i : Nat), y], rfl, SqT.of upd_same, rfl, .int (i : Nat), [y], rfl, y, [], rfl, rfl, ?_⟩
    have tst : EvT (tOr (tNot (tB (tCall (spD R_is_kindX) [] E0 (tCons (tVar 2) (tCons (tVar 1) tNil))))) (tNot (tB (tCall (spD R_is_sound) [] E0 (tCons (tVar 0) (tCons (tVar 1) tNil)))))) [some (.ref a), some (.int (i : Nat)), some y] (upd H' T (.tup [.int (i : Nat), y])) (!goodK f i) := by
      have t1 : EvT (tNot (tB (tCall (spD R_is_kindX) [] E0 (tCons (tVar 2) (tCons (tVar 1) tNil))))) [some (.ref a), some (.int (i : Nat)), some y] (upd H' T (.tup [.int (i : Nat), y])) (!kindB i k) := et_not (et_DB (ed_call (eas2 (ed_var (i := 2) rfl hy4) (ed_var (i := 1) rfl (.int _))) ⟨k, i, rfl, rfl⟩))
      by_cases hk : kindB i k = true
      · have KT : Kinds (f.take (i + 1)) := kinds_take (by omega) fun j hj => by
          rcases Nat.lt_succ_iff_lt_or_eq.mp hj with z | z
          · exact kall j z
          · subst z; rw [ek]; exact hk
        have lt : (f.take (i + 1)).length = i + 1 := by rw [List.length_take]; omega
        refine et_is (et_or (a := !kindB i k) (b := !soundB (f.take (i + 1)) i) t1 fun _ => et_not (et_DB (ed_call (eas2 (ed_var (i := 0) rfl hf4) (ed_var (i := 1) rfl (.int _))) ⟨f.take (i + 1), f.drop (i + 1), (i : Int), rfl, KT, by omega, by omega, by omega, lm_small (kinds_low KT) (kdeP KT (by omega) (by omega)) (by omega) (by omega), rfl⟩))) ?_
        unfold goodK
        rw [ek, Bool.not_and]
      · rw [Bool.not_eq_true] at hk
        refine et_is (et_or (a := !kindB i k) (b := true) t1 fun z => by rw [hk] at z; cases z) ?_
        unfold goodK
        rw [ek, hk]; rfl
    refine sd_if (b := !goodK f i) tst (fun hb H5 e5 => ?_) fun hb H5 e5 => ?_
    · have hb' : goodK f i = false := by simpa using hb
      exact stop i _ _ H5 (famBad_at (by omega) il hb' all_) (by omega) ((((e1.trans e2).trans e3).trans e4).trans e5) (ed_var (i := 1) rfl (.int _))
    · have hb' : goodK f i = true := by simpa using hb
      refine ⟨⟨_, _, rfl⟩, (e3.trans e4).trans e5, fun j hj => ?_⟩
      rcases Nat.lt_succ_iff_lt_or_eq.mp hj with z | z
      · exact all_ j z
      · subst z; exact hb'
  · have hv : famBad f = none := famBad_none.mpr (fam_good (by omega) (by omega) fun j hj => all_ j (by omega))
    rcases q with ⟨_, q⟩ | ⟨n, hb, _⟩
    · exact q H' ((e1.trans e2).trans e3)
    · rw [hv] at hb; cases hb
end
end KS
end
noncomputable section
namespace KS
open PySem PySem.Spec PyProof.Rows L2 Evl
/-! ### read over any text -/
def rws (l : List Nat) : List (List (List Nat)) := (splitL 10 l).map (splitL 32)
def rowAt (l : List Nat) : Option Nat := (rws l).findIdx? fun ws => !rowB ws
def famT (l : List Nat) : Fam := (rws l).map rdK
theorem rws_few (l : List Nat) : (rws l).length ≤ l.length + 1 := by unfold rws; rw [List.length_map]; exact splitL_len 10 l
theorem rws_len {l : List Nat} {ws : List (List Nat)} (h : ws ∈ rws l) : ws.length ≤ l.length + 1 ∧ ∀ r ∈ ws, r.length ≤ l.length := by
  obtain ⟨r, hr, rfl⟩ := List.mem_map.mp h
  have h1 := splitL_part 10 l r hr
  have h2 := splitL_len 32 r
  refine ⟨by omega, fun x hx => ?_⟩
  have := splitL_part 32 r x hx
  omega
theorem rowAt_none {l : List Nat} : rowAt l = none ↔ ∀ ws ∈ rws l, rowB ws = true := by
  unfold rowAt
  rw [List.findIdx?_eq_none_iff]
  exact ⟨fun h ws hw => by have := h ws hw; simpa using this, fun h ws hw => by rw [h ws hw]; rfl⟩
theorem s_dropW {σ : L2.St} {H : Hp} {ds : List PyData} {Dn : Ends} {sp : Sp} {E : L2.St → XK} {ta : TA} (h : EAs ta σ H ds) (k : ∀ vs H1, Ex H H1 → DA H1 vs ds → sp vs H1 (fun _ H2 => Dn.nx σ H2) (E σ)) : tDrop (tCallS sp E ta) Dn σ H := h H (Ex.refl H) _ fun vs H1 e hv => k vs H1 e hv
def spRead (CT CF : Addr) : Sp := fun vs H Q E => ∃ l : List Nat, DA H vs [.str (txt l)] ∧ l.length ≤ 5000 ∧
  ((∃ n, rowAt l = some n ∧ RaisesN CT "row" n H E) ∨ (rowAt l = none ∧ ∃ n, famBad (famT l) = some n ∧ RaisesN CF "number" n H E) ∨ (rowAt l = none ∧ famBad (famT l) = none ∧ ∀ v H', Ex H H' → D H' v (encF (famT l)) → Q v H'))
section
variable {P : Program} {w : World} {K : PySem.W.Frag} {mg : Str → Option Value} {base : Heap}
abbrev N_read : List Str := ["text", "rows", "row", "number", "words", "family"]
theorem sc_read : FnScope N_read ["text"] (defScope s_read) := ⟨rfl, rfl, rfl, by decide +kernel, rfl, by decide +kernel, by decide +kernel⟩
theorem ok_readX {CT CF : Addr} (B : Bt mg) (N : ErrN P w K mg base "BadText" "row" CT) (d : Df K mg "read" s_read ["text"]) (cR : Cl P w K mg base "is_row" ["words"] 4 (spD R_row)) (cD : Cl P w K mg base "read_row" ["words"] 4 (spD R_rro)) (cF : ClX P w K mg base "need_family" ["family"] 21 (spNfX CF)) :
    ClX P w K mg base "read" ["text"] 22 (spRead CT CF) := by
  refine d.okX sc_read (fun vs H Q E h => by obtain ⟨_, h, _⟩ := h; exact h.len) (fun fa cdv A outer s H vs Q E hr h => ?_)
  obtain ⟨l, hv, lz, q⟩ := h
  obtain ⟨x, rfl, hx⟩ := hv.args1
  refine ⟨_, pss_cons (ps_setLc (i := 1) (own := [("row", 2)]) (g := gName 2) (tt := tYes) rfl sc_read.nd rfl rfl (sw_true rfl rfl rfl (by decide +kernel)) (pi_list (show PE _ _ (tM1 rSpl _ _) from pe_split (pv 0) pe_str)) (blkOk_by (N := N_read) (sc := defScope s_read) (by decide +kernel))
      (fun _ _ _ _ _ => pg_name (i := 2) sc_read.nd rfl (.inl rfl)) (fun _ _ _ _ _ => pts_nil) (fun _ _ _ _ _ => (show PE _ _ (tM1 rSpl _ _) from by exact pe_split (by exact pv 2) (by exact pe_str))))
    (pss_cut (ps_for (passes_of rfl) rfl (pi_enum (by rfl) B.enumerate (pa_cons (pv 1) pa_nil)) (pg_tup rfl (pgs_cons (pg_name (i := 3) sc_read.nd rfl (.inl rfl)) (pgs_cons (pg_name (i := 4) sc_read.nd rfl (.inl rfl)) pgs_nil)))
      (pss_one (ps_if (pt_not (pt_val (pe_cl cR (hr.mono (by decide)) (pa_cons (pv 4) pa_nil)))) (pss_one (ps_raise rfl (takes_of rfl rfl rfl rfl) (pmk_num N hr (by omega) (pa_cons (pv 3) pa_nil)))) pss_nil)))
    (pss_cons (ps_set (i := 5) sc_read.nd rfl (.inl rfl) (pe_callTy call_tuple_of rfl B.tuple boot_tuple (pa_cons (pe_lc (own := [("words", 4)]) (g := gName 4) (tt := tYes) rfl sc_read.nd (pi_list (pv 1)) (blkOk_by (N := N_read) (sc := defScope s_read) (by decide +kernel))
      (fun _ _ _ _ _ => pg_name (i := 4) sc_read.nd rfl (.inl rfl)) (fun _ _ _ _ _ => pts_nil) (fun _ _ _ _ _ => by exact pe_cl cD (hr.mono (by decide)) (by exact pa_cons (pv 4) pa_nil))) pa_nil)))
    (pss_cons (ps_expr (pe_clW (W := fun cls d _ H => E cls d H) cF hr (takes_of rfl rfl rfl rfl) (pa_cons (pv 5) pa_nil)))
    (pss_one (ps_ret (pv 5)))))), ?_⟩
  have sl := splitL_len 10 l
  have rf := rws_few l
  try dsimp only
  refine sll_asg (rs := (rws l).map fun ws => ws.map encW) (by
    have := el_lcLN (K := K) (σ := start N_read [x]) (H := H) (as := splitL 10 l) (enc := encW) (g := gName 2) (vs := [2]) (te := tM1 rSpl (tVar 2) (tC (.str ((32 : Nat) |> fun c => ⟨#[c]⟩)))) (tl := tM1 rSpl (tVar 0) (tC (.str (txt [10])))) (fun l => (splitL 32 l).map encW) (EL.ed (el_splitW (s := 10) (l := l) (by decide) (by omega) (ed_var (i := 0) rfl hx) (ed_cst rfl))) (by omega) (fun l _ => flat_Ws _) (fun r hr' v H2 e2 hv => by
      have : r.length ≤ l.length := splitL_part 10 l r hr'
      exact ⟨[some x, none, some v, none, none, none], rfl, fun _ _ R h => h, el_splitW (by decide) (by omega) (ed_var (i := 2) rfl hv) (ed_cst rfl)⟩)
    have e : ((splitL 10 l).map fun l => (splitL 32 l).map encW) = (rws l).map fun ws => ws.map encW := by
      unfold rws
      rw [List.map_map]; rfl
    rw [e] at this
    exact this) fun ek acc H1 nk e1 hek al => ?_
  dsimp only
  have hek1 : D H1 (.ref ek) (.list ((rws l).map fun ws => encWs ws)) := by
    have := D.lst hek al.da
    rw [List.map_map] at this
    exact this
  obtain ⟨a, xs, ea, ha, hd⟩ := hek1.toLst
  cases ea
  have xl : xs.length = (rws l).length := by rw [hd.len, List.length_map]
  refine ⟨fun σ H' => (∃ u3 u4, σ = [some x, some (.ref ek), none, u3, u4, none]) ∧ Ex H1 H' ∧ ∀ ws ∈ rws l, rowB ws = true, ⟨.ref ek, rfl, ek, xs, rfl, SqL.of ha, for_it walk_enum (fun i σ H' => (∃ u3 u4, σ = [some x, some (.ref ek), none, u3, u4, none]) ∧ Ex H1 H' ∧ ∀ j ws, j < i → (rws l)[j]? = some ws → rowB ws = true) ⟨⟨_, _, rfl⟩, Ex.refl _, fun j ws z => absurd z (Nat.not_lt_zero _)⟩ (fun i σ H' _ ⟨_, e, _⟩ => SqL.of (e _ _ ha)) (fun i y' σ H' H'' hi ⟨⟨u3, u4, es⟩, e3, all_⟩ hY => ?_) (fun σ H' ⟨h, e, all_⟩ => ⟨h, e, fun ws hw => ?_⟩)⟩, ?_⟩
  · subst es
    obtain ⟨T, v1, v2, rfl, nT, rfl, g1, g2⟩ := hY
    obtain rfl := Option.some.inj g1
    obtain ⟨dd, hd1, hv2⟩ := hd.get2 g2
    obtain ⟨ws, h1, h2⟩ : ∃ ws, (rws l)[i]? = some ws ∧ dd = encWs ws := by
      rw [List.getElem?_map] at hd1
      cases z : (rws l)[i]? with
      | none => rw [z] at hd1; cases hd1
      | some k => rw [z] at hd1; exact ⟨k, rfl, (Option.some.inj hd1).symm⟩
    subst h2
    have km := List.mem_of_getElem? h1
    obtain ⟨w1, w2⟩ := rws_len km
    have il : i < (rws l).length := (List.getElem?_eq_some_iff.mp h1).1
    have e4 : Ex H' (upd H' T (.tup [.int (i : Nat), v2])) := Ex.new nT
    have hp4 := (hv2.mono e3).mono e4
    refine ⟨T, [.int (i : Nat), v2], rfl, SqT.of upd_same, rfl, .int (i : Nat), [v2], rfl, v2, [], rfl, rfl, ?_⟩
    try dsimp only
    refine sd_if (b := !rowB ws) (et_not (et_DB (ed_call (eas1 (ed_var (σ := [some x, some (.ref ek), none, some (.int (i : Nat)), some v2, none]) (i := 4) rfl hp4)) ⟨ws, rfl, by omega, fun r hr' => by have := w2 r hr'; omega, rfl⟩))) (fun hb H5 e5 => ?_) fun hb H5 e5 => ?_
    · have hb' : rowB ws = false := by simpa using hb
      have hidx : rowAt l = some i := by
        unfold rowAt
        rw [List.findIdx?_eq_some_iff_getElem]
        refine ⟨il, ?_, fun j hj => ?_⟩
        · rw [(List.getElem?_eq_some_iff.mp h1).2, hb']; rfl
        · rw [all_ j _ hj (List.getElem?_eq_getElem (by omega))]; decide
      rcases q with ⟨n, hn, q⟩ | ⟨hn, _⟩ | ⟨hn, _⟩
      · rw [hidx] at hn
        have hn := Option.some.inj hn
        subst hn
        refine mk_num N.T N.no ?_ (eas1 (ed_var (i := 3) rfl (.int _))) fun d H' e hd => q d H' ((((e1.trans e3).trans e4).trans e5).trans e) hd
        show ((i : Int)).natAbs.log2 < 1920
        rw [Int.natAbs_natCast]
        rcases Nat.eq_zero_or_pos i with z | z
        · rw [z]; decide
        · exact Nat.lt_of_lt_of_le ((Nat.log2_lt (by omega)).mpr (show i < 2 ^ 20 by omega)) (by decide)
      · rw [hidx] at hn; cases hn
      · rw [hidx] at hn; cases hn
    · refine ⟨⟨_, _, rfl⟩, (e3.trans e4).trans e5, fun j ws' hj hp' => ?_⟩
      rcases Nat.lt_succ_iff_lt_or_eq.mp hj with z2 | z2
      · exact all_ j ws' z2 hp'
      · subst z2
        rw [h1] at hp'
        cases hp'
        simpa using hb
  · obtain ⟨j, hj⟩ := List.getElem?_of_mem hw
    exact all_ j ws (by rw [xl]; exact (List.getElem?_eq_some_iff.mp hj).1) hj
  · rintro σ H2 ⟨⟨u3, u4, rfl⟩, e2, all_⟩
    have rn : rowAt l = none := rowAt_none.mpr all_
    try dsimp only
    refine sd_asg (d := encF (famT l)) (ed_tupOf (ds := (famT l).map encK) (EL.ed (el_is (el_lcL2 (as := rws l) (enc := fun ws => encWs ws) (fun _ => true) (fun ws => encK (rdK ws)) (ed_var (i := 1) rfl (hek1.mono e2)) (by omega) (fun k _ _ => flat_K _) fun ws hw v H3 e3 hv => ?_) (by rw [filt_true]; unfold famT; rw [List.map_map]; rfl)))) fun v5 H3 e3 h5 => ?_
    · obtain ⟨w1, w2⟩ := rws_len hw
      refine ⟨[some x, some (.ref ek), none, u3, some v, none], rfl, fun _ _ R h => h, et_yes, fun _ => ?_⟩
      exact ed_call (eas1 (ed_var (i := 4) rfl hv)) ⟨ws, rfl, all_ ws hw, fun r hr' => by have := w2 r hr'; omega, rfl⟩
    · try dsimp only
      refine s_dropW (eas1 (ed_var (i := 5) rfl h5)) fun vs H4 e4 hvs => ?_
      have e04 := ((e1.trans e2).trans e3).trans e4
      have fl : (famT l).length ≤ 10000 := by unfold famT; rw [List.length_map]; omega
      rcases q with ⟨n, hn, q⟩ | ⟨_, n, hn, q⟩ | ⟨_, hn, q⟩
      · rw [rn] at hn; cases hn
      · exact ⟨famT l, hvs, fl, .inr ⟨n, hn, q.ex e04⟩⟩
      · refine ⟨famT l, hvs, fl, .inl ⟨hn, fun H5 e5 => ?_⟩⟩
        try dsimp only
        refine sd_ret (d := encF (famT l)) (ed_var (i := 5) rfl ((h5.mono e4).mono e5)) fun v H6 e6 hv => q v H6 ((e04.trans e5).trans e6) hv
end
end KS
end
noncomputable section
namespace KS
open PySem PySem.W PySem.Calls PyProof.Rows PyProof.V PySem.Spec
/-! ### list(view of a dict's items), its keys tuples -/
section
variable {pg : Program} {w : World} {A : Around} {E : Value → Shared → Prop} {s : Shared} {vw dc : Addr} {en : Array DictEntry} {epo : Nat}
theorem fill_items {R : Result → Shared → Prop} (calm : A.handled = none) (hvw : s.heap.IsItemsView vw dc) (hdc : DT.Raw s.heap dc en epo) (l : Addr) (lv : l ≠ vw) (ld : dc ≠ l)
    (hl : s.heap.get? l = some { cls := .type "list", data := .seq #[] }) (few : en.size ≤ sizeLine)
    (k : ∀ g tk its cap ts, (∀ b o, b ≠ l → s.heap.get? b = some o → g.get? b = some o) → g.get? l = some { cls := .type "list", dict := none, data := .seq its cap, slots := #[] } → ts.length = en.size → DT.Made en l g ts →
      its.toList = ts.map Value.ref → R (.ok (.ret .none)) { s with heap := g, toks := tk }) :
    wpAny (model pg w) A.in1 (Builtin.«list.__init__» ⟨[.ref l, .ref vw], []⟩)
      (fun z s' => match z with | .done y => R (.ok y) s' | .again c => c.quiet = true ∧ codeAny (model pg w) A c R s') (fun x s' => R (.error x) s') s := by
  show wpAny _ _ (do let was ← Builtin.List.listItems (.ref l); Builtin.List.listUpdate (.ref l) (fun _ => #[]); letGo was.toList.reverse; Builtin.List.listExtendWith (.ref l) (.ref vw) .none) _ _ s
  refine wpAny_bind ?_
  unfold Builtin.List.listItems
  refine wpAny_bind (wpAny_seqItems hl rfl (wpAny_pure ?_))
  show wpAny _ _ (updateSeq l (fun _ => #[]) >>= fun _ => letGo (#[] : Array Value).toList.reverse >>= fun _ => Builtin.List.listExtendWith (.ref l) (.ref vw) .none) _ _ s
  refine wpAny_bind (wpAny_updateSeq hl rfl ?_)
  have hl2 := Heap.get?_update_self (Obj.mapSeq (fun _ => (#[] : Array Value))) hl rfl
  have rest : ∀ b o, b ≠ l → s.heap.get? b = some o → (s.heap.update l (Obj.mapSeq (fun _ => (#[] : Array Value)))).get? b = some o := fun b o n x => (Heap.get?_update_other _ _ (Ne.symm n)).trans x
  refine wpAny_bind (wpAny_letGo ?_)
  refine DT.extI (es := en) (ep := epo) calm (let ⟨o, ho, x⟩ := hvw; ⟨o, rest vw o lv.symm ho, x⟩) (hdc.at' fun o x => rest dc o ld x) l lv ld .none _ hl2 (fun g tk its cap ts k1 k2 k3 k4 k5 => ?_) few
  exact k g tk its cap ts (fun b o n x => k1 b o n (rest b o n x)) k2 k3 (k4.low (Nat.le_of_lt (Heap.lt_size hl2))) k5
theorem call_items {Q : Value → Shared → Prop} (calm : A.handled = none) (hvw : s.heap.IsItemsView vw dc) (hdc : DT.Raw s.heap dc en epo) (few : en.size ≤ sizeLine)
    (k : ∀ g tk its cap ts, (∀ b o, s.heap.get? b = some o → g.get? b = some o) → g.get? s.heap.objs.size = some { cls := .type "list", dict := none, data := .seq its cap, slots := #[] } → ts.length = en.size → DT.Made en s.heap.objs.size g ts →
      its.toList = ts.map Value.ref → Q (.ref s.heap.objs.size) { s with heap := g, toks := tk }) : wpAny (model pg w) A (call (.type "list") [.ref vw]) Q E s := by
  refine callType_codes (Q₁ := fun ob t => ob = .ref s.heap.objs.size ∧ t = { s with heap := s.heap.push { cls := .type "list", data := .seq #[] } }) PySem.F.called_list (PySem.F.typeCall_list_1 _) PySem.F.entry_list_init
    (code_list_new _ ⟨rfl, rfl⟩) fun ob t ht => ?_
  obtain ⟨rfl, rfl⟩ := ht
  have new : (s.heap.push { cls := .type "list", data := .seq #[] }).get? s.heap.objs.size = some { cls := .type "list", data := .seq #[] } := Heap.get?_push_size _ rfl
  have lv : vw < s.heap.objs.size := let ⟨_, ho, _⟩ := hvw; Heap.lt_size ho
  refine ⟨⟨_, new, rfl⟩, PySem.F.args_list_init_2 _ _, fill_items (A := A.in1) calm (let ⟨o, ho, x⟩ := hvw; ⟨o, Heap.get?_push_of_some _ ho, x⟩) (hdc.push _) _ (Nat.ne_of_gt lv) (Nat.ne_of_lt hdc.lt) new few (fun g tk its cap ts k1 k2 k3 k4 k5 => ?_)⟩
  exact ⟨rfl, k g tk its cap ts (fun b o x => k1 b o (Nat.ne_of_lt (Heap.lt_size x)) (Heap.get?_push_of_some _ x)) k2 k3 k4 k5⟩
end
open L2 L2.DX
/-- the pairs at ts are those of kvs, each with a tuple as the key -/
def PairsAt (H : Hp) (ts : List Addr) (kvs : List (List L2.Key × V)) : Prop := Paired (fun (t : Addr) (kv : List L2.Key × V) => ∃ q, H t = some (.tup [.ref q, kv.2]) ∧ H q = some (.tup (kv.1.map kV))) ts kvs
def rListIt : List V → Hp → VK → Prop := fun vs H Q => ∃ (p a : Addr) (kvs : List (List L2.Key × V)), vs = [.ref p] ∧ H p = some (itemsO p a) ∧ H a = some (.dT kvs) ∧
  ∀ (H' : Hp) (l : Addr) (ts : List Addr), (∀ b o, H b = some o → H' b = some o) → H l = none → H' l = some (.lst (ts.map V.ref)) → PairsAt H' ts kvs → Q (.ref l) H'
theorem paired_of {α β : Type} {F : α → β → Prop} : ∀ {xs : List α} {ys : List β}, xs.length = ys.length → (∀ (i : Nat) (x : α) (y : β), xs[i]? = some x → ys[i]? = some y → F x y) → Paired F xs ys
  | [], [], _, _ => .nil
  | [], _ :: _, h, _ => by cases h
  | _ :: _, [], h, _ => by cases h
  | x :: xs, y :: ys, h, f => .cons (f 0 x y rfl rfl) (paired_of (Nat.succ.inj h) fun i a b ha hb => f (i + 1) a b ha hb)
theorem cr_listItems {X : Cx} (hc : X.calm = true) : CallR X (.type "list") rListIt := by
  intro pins s σ H xs us Q I r h
  obtain ⟨p, a, kvs, rfl, hp, ha, q⟩ := h
  obtain rfl := Vals.ref1 r
  have view : s.heap.IsItemsView p a := (show ObjOk X.prog X.w H s.heap p (itemsO p a) from I.hok p _ hp).1
  obtain ⟨z, hd, ys, rel, o, en, epo, ho, hx, hdat, hen, his, hn⟩ := dt_of I.hok ha
  have l1 : kvs.length = ys.length := Paired.length rel
  have l2 : en.size = ys.length := size_of_entries hen
  refine call_items (en := en) (epo := epo) (I.ok.hd hc) view ⟨o, ho, hx, hdat⟩ (by omega) fun g tk its cap ts k1 k2 k3 k4 k5 => ?_
  have tl : ts.length = kvs.length := by omega
  have nd : ts.Nodup := List.Pairwise.imp (fun h => Nat.ne_of_lt h) k4.rise
  have made : ∀ (j : Nat) (b : Addr), ts[j]? = some b → ∃ (e : List L2.Key × V) (kq : Addr) (vv : Value), kvs[j]? = some e ∧ H kq = some (.tup (e.1.map kV)) ∧ RelV e.2 vv ∧ g.get? b = some { cls := .type "tuple", data := .seq #[Value.ref kq, vv] } := by
    intro j b hj
    obtain ⟨e1, he, hg⟩ := k4.pairs j b hj
    rw [entry_at hen j] at he
    cases hxj : ys[j]? with
    | none =>
      rw [hxj] at he
      exact nomatch (show (none : Option DictEntry) = some e1 from he)
    | some x =>
      rw [hxj] at he
      have ee : entryOfKey (tupleKind (mixKind X.prog X.w)) x = e1 := Option.some.inj he
      obtain ⟨e0, he0, r1, r2, r3⟩ := pget rel hxj
      refine ⟨e0, x.2.1, x.2.2, he0, r2, r3, ?_⟩
      rw [hg, ← ee]
      all_goals rfl
  have hn0 : H s.heap.objs.size = none := I.hok.fresh (Nat.le_refl _)
  have I1 : Inv X pins σ H { s with heap := g, toks := tk } := I.kept (t' := tk) k1
  have I2 : Inv X pins σ (upd H s.heap.objs.size (.lst (ts.map V.ref))) { s with heap := g, toks := tk } :=
    I1.take (h' := g) (t' := tk) (fun b ob _ x => x) (I.fpOk (Nat.le_refl _) hn0) ⟨by rw [List.length_map]; omega, its.toList, cap, by rw [k5]; exact vals_maps V.ref Value.ref ts fun _ _ => rfl, by rw [Array.toArray_toList]; exact k2⟩
  obtain ⟨H2, I3, gr, qt⟩ := takeT (P := fun b vs => ∃ (j : Nat) (e : List L2.Key × V) (kq : Addr), ts[j]? = some b ∧ kvs[j]? = some e ∧ vs = [.ref kq, e.2] ∧ H kq = some (.tup (e.1.map kV))) I ts _ I2 nd fun b hb => by
    obtain ⟨j, hj⟩ := List.mem_iff_getElem?.mp hb
    obtain ⟨e, kq, vv, he, hkq, hv, hg⟩ := made j b hj
    have above : s.heap.objs.size < b := k4.above b hb
    refine ⟨Nat.le_of_lt above, ?_, [.ref kq, e.2], ⟨j, e, kq, hj, he, rfl, hkq⟩, fun H3 => ⟨(by rw [sizeLine_eq]; show 2 ≤ 16777216; omega), [Value.ref kq, vv], .cons rfl (.cons hv .nil), ⟨_, hg, rfl, 0, rfl⟩⟩⟩
    rw [upd_ne (Nat.ne_of_gt above)]
    exact I.hok.fresh (Nat.le_of_lt above)
  have up : ∀ b o, H b = some o → H2 b = some o := fun b o x => gr b o (by rw [upd_ne (ne_of_none x hn0)]; exact x)
  refine ⟨.ref s.heap.objs.size, H2, I3, rfl, q H2 s.heap.objs.size ts up hn0 (gr _ _ upd_same) (paired_of tl fun i t kv ht hkv => ?_)⟩
  obtain ⟨vs, ⟨j, e, kq, j1, j2, ev, hkq⟩, hH⟩ := qt t (List.mem_of_getElem? ht)
  have eij : i = j := (List.getElem?_inj (List.getElem?_eq_some_iff.mp ht).1 nd).mp (ht.trans j1.symm)
  subst eij
  have ee : e = kv := Option.some.inj (j2.symm.trans hkv)
  subst ee
  rw [ev] at hH
  exact ⟨kq, hH, up _ _ hkq⟩
end KS
end
noncomputable section
namespace KS
open PySem PySem.Spec PyProof.Rows L2 Evl
open PySem.Froz (sing)
/-! ### isinstance(e, (A, B, ..)) of a caught exception, a field of it -/
def rIsET (K : PySem.W.Frag) (a : Addr) (cls : Value) (d : Option Addr) : List V → Hp → VK → Prop := fun xs H Q => ∃ C tp cs us b, cls = .ref C ∧ ExcC K C ∧ xs = [.ref a, .ref tp] ∧ H tp = some (.tup cs) ∧ Paired ClsV cs us ∧ PySem.W.kitAny K (.ref C) us = some b ∧ DictOk d H ∧ Q (.bl b) H
theorem cr_isET {X : Cx} {a : Addr} {cls : Value} {oe : Obj} {d : Option Addr} {pn : List (Addr × Obj)} (hz : Zc cls d oe) (hf : ∃ vs, oe.data = .fields vs) : CallR (X.suite a ((a, oe) :: pn)) (.builtin "isinstance") (rIsET X.K a cls d) := by
  intro pins s σ H xs us Q I r h
  obtain ⟨C, tp, cs, ws, b, rfl, F, rfl, hT, hc, hk, hd, q⟩ := h
  cases r with
  | cons r1 rr =>
    cases rr with
    | cons r2 rn =>
      cases rn
      rename_i u1 u2
      obtain rfl : u1 = Value.ref a := r1
      cases (show u2 = Value.ref tp from r2)
      obtain ⟨_, its, rv, o, h1, h2, n, h3⟩ := (show ObjOk X.prog X.w H s.heap tp (.tup cs) from I.hok tp _ hT)
      have e3 := ClsV.all hc rv
      subst e3
      obtain ⟨oc, od', dt, sl⟩ := o
      simp only at h2 h3
      subst h2 h3
      obtain ⟨ha, _⟩ := I.pin (a, oe) (List.mem_append_left _ List.mem_cons_self)
      obtain ⟨vs, hv⟩ := hf
      have od : ∃ od, PySem.W.InstAt s.heap a oe C od := by
        rcases hd with hd | ⟨dd, fs, hd, hx⟩
        · exact ⟨none, ha, hz.1, by unfold PySem.W.notCls; rw [hv] <;> rfl, by rw [hz.2, hd]; trivial⟩
        · have hx : ObjOk X.prog X.w H s.heap dd (.xd fs) := I.hok dd _ hx
          obtain ⟨mA, hns, hr⟩ := hx
          obtain ⟨od, ho, hl⟩ := lookIn_ns hns
          exact ⟨some od, ha, hz.1, by unfold PySem.W.notCls; rw [hv] <;> rfl, by rw [hz.2, hd]; exact ho⟩
      obtain ⟨od, J⟩ := od
      exact PySem.W.kia_tup (PySem.W.kitx_exc F.c0 F.c4 F.c5 F.c6 F.c7 F.c8 F.c9 F.c10) I.kIn J h1 hk (fun z => nomatch z) fun tk => ⟨.bl b, H, I.tok _, rfl, q⟩
section
variable {K : PySem.W.Frag} {σ : L2.St} {H : Hp} {ta tb tc te : TE} {d : PyData} {ds : List PyData}
theorem ed_isET {a C : Addr} {dd : Option Addr} {i : Nat} {cs : List V} {us : List Value} {tt : TA} {b : Bool} (hi : σ[i]? = some (some (.ref a))) (F : ExcC K C) (ht : tt = cs.foldr (fun c t => tCons (tC c) t) tNil) (hc : Paired ClsV cs us) (hz : cs.length ≤ 1000) (hk : PySem.W.kitAny K (.ref C) us = some b) (hd : DictOk dd H) :
    ED (tCB (rIsET K a (.ref C) dd) (tCons (tVar i) (tCons (tTup tt) tNil))) σ H (.bool b) := fun H1 e Q q => by
  subst ht
  have go : ∀ (cs : List V) (Q : List V → Hp → Prop), Q cs H1 → (cs.foldr (fun c t => tCons (tC c) t) tNil) σ H1 Q := by
    intro cs
    induction cs with
    | nil => exact fun Q q => q
    | cons c cs ih => exact fun Q q => ih _ q
  refine ⟨.ref a, hi, go cs _ ⟨?_, fun p np => ?_⟩⟩
  · exact sz_of (by omega)
  · exact ⟨C, p, cs, us, b, rfl, F, rfl, upd_same, hc, hk, (hd.ex e).ex (Ex.new np), q _ _ (Ex.new np) (.bl b)⟩
theorem ed_xf {a C dd : Addr} {f : Str} {n : Int} {i : Nat} (hi : σ[i]? = some (some (.ref a))) (hd : H dd = some (.xd [(f, .int n)])) : ED (tXf a (.ref C) (some dd) C f (tVar i)) σ H (.int n) := fun H1 e Q q =>
  ⟨.ref a, hi, rfl, rfl, dd, _, .int n, rfl, e _ _ hd, by unfold List.lookup; rw [beq_self_eq_true], q _ H1 (Ex.refl _) (.int n)⟩
end
/-! ### list(text) -/
def rListS : List V → Hp → VK → Prop := fun xs H Q => ∃ x : Str, xs = [.str x] ∧ x.length ≤ 10000 ∧ ∀ l, H l = none → Q (.ref l) (upd H l (.lst (x.cps.toList.map fun c => V.str (sing c))))
theorem cr_listS {X : Cx} (hc : X.calm = true) : CallR X (.type "list") rListS := by
  intro pins s σ H xs us Q I r h
  obtain ⟨x, rfl, hz, q⟩ := h
  obtain ⟨u, rfl, rx⟩ := vals1 r
  obtain ⟨t, rfl⟩ := rx
  have hz' : x.cps.size ≤ 10000 := hz
  refine call_list_str (I.ok.hd hc) x t (hn := Nat.le_trans hz' (by decide)) fun h' tk acc' c' hk hS' hacc => ?_
  have vals : Vals (x.cps.toList.map fun c => V.str (sing c)) acc'.toList := by
    refine paired_of (by rw [List.length_map, Array.length_toList, Array.length_toList, hacc.1]) fun i v y h1 h2 => ?_
    rw [List.getElem?_map] at h1
    rw [Array.getElem?_toList] at h2
    obtain ⟨c, u, hc2, rfl⟩ := hacc.2 i y h2
    rw [Array.getElem?_toList, hc2] at h1
    cases h1
    exact ⟨u, rfl⟩
  have ob : ObjOk X.prog X.w (upd H s.heap.objs.size (.lst (x.cps.toList.map fun c => V.str (sing c)))) h' s.heap.objs.size (.lst (x.cps.toList.map fun c => V.str (sing c))) :=
    ⟨by rw [List.length_map, Array.length_toList]; exact Nat.le_trans hz' (by decide), acc'.toList, c', vals, by simpa using hS'⟩
  exact ⟨.ref _, _, I.laid (t' := tk) hk (Nat.le_refl _) ob, rfl, q _ (I.hok.fresh (Nat.le_refl _))⟩
/-! ### slices -/
section
variable {K : PySem.W.Frag} {σ : L2.St} {H : Hp} {ta tb tc te : TE} {d : PyData} {ds : List PyData}
theorem el_listS {l : List Nat} (hz : l.length ≤ 10000) (ha : ED ta σ H (.str (txt l))) : EL (tCB rListS (tCons ta tNil)) σ H ((l.map sing).map PyData.str) := fun H1 e Q q =>
  ha H1 e _ fun x H2 e2 hx => by
    have ex := hx.toStr
    subst ex
    refine ⟨txt l, rfl, by rw [txt_len]; exact hz, fun p np => q p _ _ (fresh_back e2 np) (e2.trans (Ex.new np)) upd_same ?_⟩
    show DA _ (l.map fun c => V.str (sing c)) _
    have := DA.ofStrs (H := upd H2 p (.lst (l.map fun c => V.str (sing c)))) (l.map sing)
    rw [List.map_map] at this
    exact this
theorem cutS_txt (l : List Nat) (lo hi : Option Int) : cutS (txt l) lo hi = txt ((l.drop (HT.sIx l.length 0 lo)).take (HT.sIx l.length l.length hi - HT.sIx l.length 0 lo)) := by
  unfold cutS
  rw [txt_len]
  rfl
theorem six_k {n d : Nat} {k : Int} (k0 : 0 ≤ k) : HT.sIx n d (some k) = min k.toNat n := by
  have := HT.sIx_nat n d k.toNat
  rwa [show ((k.toNat : Nat) : Int) = k by omega] at this
theorem six_m1 (n d : Nat) : HT.sIx n d (some (-1)) = n - 1 := by
  show (if (-1 : Int) < 0 then ((-1 : Int) + (n : Int)).toNat else min (-1 : Int).toNat n) = _
  rw [if_pos (by decide)]
  omega
theorem ed_cutTo {l : List Nat} {k : Int} (hz : l.length ≤ 10000) (k0 : 0 ≤ k) (ha : ED te σ H (.str (txt l))) (hk : ED tb σ H (.int k)) : ED (tSl rSlS te tNoPart (tPart tb)) σ H (.str (txt (l.take k.toNat))) := fun H1 e Q q =>
  ha H1 e _ fun x H2 e2 hx => hk H2 (e.trans e2) _ fun y H3 e3 hy => by
    have ek := hy.toInt
    subst ek
    refine ⟨k, rfl, txt l, hx.toStr, by rw [txt_len]; show _ ≤ 16777216; omega, ?_⟩
    rw [cutS_txt, HT.sIx_none, six_k k0, List.drop_zero, Nat.sub_zero]
    have : l.take (min k.toNat l.length) = l.take k.toNat := by
      rcases Nat.le_total k.toNat l.length with g | g
      · rw [Nat.min_eq_left g]
      · rw [Nat.min_eq_right g, List.take_of_length_le (Nat.le_refl _), List.take_of_length_le g]
    rw [this]
    exact q _ H3 (e2.trans e3) (.str _)
theorem ed_cutFrom {l : List Nat} {k : Int} (hz : l.length ≤ 10000) (k0 : 0 ≤ k) (ha : ED te σ H (.str (txt l))) (hk : ED tb σ H (.int k)) : ED (tSl rSlS te (tPart tb) tNoPart) σ H (.str (txt (l.drop k.toNat))) := fun H1 e Q q =>
  ha H1 e _ fun x H2 e2 hx => hk H2 (e.trans e2) _ fun y H3 e3 hy => by
    have ek := hy.toInt
    subst ek
    refine ⟨k, rfl, txt l, hx.toStr, by rw [txt_len]; show _ ≤ 16777216; omega, ?_⟩
    rw [cutS_txt, HT.sIx_none, six_k k0]
    have : (l.drop (min k.toNat l.length)).take (l.length - min k.toNat l.length) = l.drop k.toNat := by
      rcases Nat.le_total k.toNat l.length with g | g
      · rw [Nat.min_eq_left g, List.take_of_length_le (by rw [List.length_drop]; exact Nat.le_refl _)]
      · rw [Nat.min_eq_right g, List.drop_eq_nil_of_le (Nat.le_refl _), List.drop_eq_nil_of_le g]; simp
    rw [this]
    exact q _ H3 (e2.trans e3) (.str _)
/-- x[:-1] and x[-1:] -/
theorem ed_cutInit {l : List Nat} (hz : l.length ≤ 10000) (ha : ED te σ H (.str (txt l))) (hk : ED tb σ H (.int (-1))) : ED (tSl rSlS te tNoPart (tPart tb)) σ H (.str (txt l.dropLast)) := fun H1 e Q q =>
  ha H1 e _ fun x H2 e2 hx => hk H2 (e.trans e2) _ fun y H3 e3 hy => by
    have ek := hy.toInt
    subst ek
    refine ⟨-1, rfl, txt l, hx.toStr, by rw [txt_len]; show _ ≤ 16777216; omega, ?_⟩
    rw [cutS_txt, HT.sIx_none, six_m1, List.drop_zero, Nat.sub_zero, ← List.dropLast_eq_take]
    exact q _ H3 (e2.trans e3) (.str _)
theorem ed_cutLast {l : List Nat} (hz : l.length ≤ 10000) (ha : ED te σ H (.str (txt l))) (hk : ED tb σ H (.int (-1))) : ED (tSl rSlS te (tPart tb) tNoPart) σ H (.str (txt (l.drop (l.length - 1)))) := fun H1 e Q q =>
  ha H1 e _ fun x H2 e2 hx => hk H2 (e.trans e2) _ fun y H3 e3 hy => by
    have ek := hy.toInt
    subst ek
    refine ⟨-1, rfl, txt l, hx.toStr, by rw [txt_len]; show _ ≤ 16777216; omega, ?_⟩
    rw [cutS_txt, HT.sIx_none, six_m1, List.take_of_length_le (by rw [List.length_drop]; exact Nat.le_refl _)]
    exact q _ H3 (e2.trans e3) (.str _)
theorem el_slDropL {ds : List PyData} {k : Int} (h : ED te σ H (.list ds)) (hk : ED tb σ H (.int k)) (k0 : 0 ≤ k) : EL (tSl (rSlL K) te (tPart tb) tNoPart) σ H (ds.drop k.toNat) := fun H1 e Q q =>
  h H1 e _ fun x H2 e2 hx => hk H2 (e.trans e2) _ fun y H3 e3 hy => by
    obtain ⟨a, xs, rfl, h1, h2⟩ := hx.toLst
    have ek := hy.toInt
    subst ek
    refine ⟨k, rfl, a, xs, rfl, SqL.of (e3 _ _ h1), fun p hp => ?_⟩
    have e1 : cutV xs (some k) none = xs.drop k.toNat := by
      unfold cutV
      rw [HT.sIx_none, six_k k0]
      rcases Nat.le_total k.toNat xs.length with g | g
      · rw [Nat.min_eq_left g, List.take_of_length_le (by rw [List.length_drop]; exact Nat.le_refl _)]
      · rw [Nat.min_eq_right g, List.drop_eq_nil_of_le (Nat.le_refl _), List.drop_eq_nil_of_le g]; simp
    rw [e1]
    exact q p _ _ (fresh_back (e2.trans e3) hp) ((e2.trans e3).trans (Ex.new hp)) upd_same (((h2.mono e3).drop _).mono (Ex.new hp))
/-- xs[k:k+1] -/
theorem el_slOne {ds : List PyData} {k : Nat} (h : ED te σ H (.list ds)) (hk : ED tb σ H (.int (k : Int))) (hm : ED tc σ H (.int ((k : Int) + 1))) : EL (tSl (rSlL K) te (tPart tb) (tPart tc)) σ H ((ds.drop k).take 1) := fun H1 e Q q =>
  h H1 e _ fun x H2 e2 hx => hk H2 (e.trans e2) _ fun y H3 e3 hy => ⟨_, hy.toInt, hm H3 ((e.trans e2).trans e3) _ fun z H4 e4 hz => by
    obtain ⟨a, xs, rfl, h1, h2⟩ := hx.toLst
    have ez := hz.toInt
    subst ez
    refine ⟨_, rfl, a, xs, rfl, SqL.of (e4 _ _ (e3 _ _ h1)), fun p hp => ?_⟩
    have e1 : cutV xs (some (k : Int)) (some ((k : Int) + 1)) = (xs.drop k).take 1 := by
      unfold cutV
      rw [six_k (by omega), six_k (by omega), Int.toNat_natCast, show ((k : Int) + 1).toNat = k + 1 by omega]
      rcases Nat.lt_or_ge k xs.length with g | g
      · rw [Nat.min_eq_left (by omega), Nat.min_eq_left (by omega), Nat.add_sub_cancel_left]
      · rw [Nat.min_eq_right g, Nat.min_eq_right (by omega), List.drop_eq_nil_of_le (Nat.le_refl _), List.drop_eq_nil_of_le g]; simp
    rw [e1]
    exact q p _ _ (fresh_back ((e2.trans e3).trans e4) hp) (((e2.trans e3).trans e4).trans (Ex.new hp)) upd_same (((((h2.mono e3).mono e4).drop _).take _).mono (Ex.new hp))⟩
end
/-! ### texts of pieces -/
def wt : List (List Nat) → Nat
  | [] => 0
  | r :: rs => r.length + 1 + wt rs
theorem wt_app : ∀ a b : List (List Nat), wt (a ++ b) = wt a + wt b
  | [], b => by simp [wt]
  | r :: a, b => by
    have := wt_app a b
    show r.length + 1 + wt (a ++ b) = r.length + 1 + wt a + wt b
    omega
theorem wt_take : ∀ (a : List (List Nat)) (k : Nat), wt (a.take k) ≤ wt a
  | [], k => by simp [wt]
  | r :: a, 0 => by simp [wt]
  | r :: a, k + 1 => by
    have := wt_take a k
    show r.length + 1 + wt (a.take k) ≤ r.length + 1 + wt a
    omega
theorem wt_drop (a : List (List Nat)) (k : Nat) : wt (a.drop k) ≤ wt a := by
  have := wt_app (a.take k) (a.drop k)
  rw [List.take_append_drop] at this
  omega
theorem wt_mem : ∀ {a : List (List Nat)} {r : List Nat}, r ∈ a → r.length + 1 ≤ wt a
  | x :: a, r, h => by
    show _ ≤ x.length + 1 + wt a
    rcases List.mem_cons.mp h with rfl | h
    · omega
    · have := wt_mem h; omega
theorem wt_len : ∀ a : List (List Nat), a.length ≤ wt a
  | [] => Nat.le_refl 0
  | x :: a => by
    have := wt_len a
    show a.length + 1 ≤ x.length + 1 + wt a
    omega
theorem wt_join (s : Nat) : ∀ a : List (List Nat), (TL.joinL [s] a).length ≤ wt a ∧ (a ≠ [] → (TL.joinL [s] a).length + 1 = wt a)
  | [] => ⟨Nat.le_refl 0, fun z => absurd rfl z⟩
  | [r] => ⟨by show r.length ≤ r.length + 1 + 0; omega, fun _ => rfl⟩
  | r :: m :: a => by
    have ih := wt_join s (m :: a)
    have h2 := ih.2 (by simp)
    have e : (TL.joinL [s] (r :: m :: a)).length + 1 = wt (r :: m :: a) := by
      show (r ++ ([s] ++ TL.joinL [s] (m :: a))).length + 1 = r.length + 1 + wt (m :: a)
      rw [List.length_append, List.length_append]
      show r.length + (1 + _) + 1 = _
      omega
    exact ⟨by omega, fun _ => e⟩
theorem wt_split (s : Nat) (l : List Nat) : wt (splitL s l) = l.length + 1 := by
  have h := (wt_join s (splitL s l)).2 (splitL_ne s l)
  rw [splitL_join] at h
  exact h.symm
def Asc (l : List Nat) : Prop := ∀ c ∈ l, c < 128
def Ascs (ls : List (List Nat)) : Prop := ∀ r ∈ ls, Asc r
theorem Asc.app {a b : List Nat} (h : Asc a) (k : Asc b) : Asc (a ++ b) := fun c hc => (List.mem_append.mp hc).elim (h c) (k c)
theorem Asc.take {a : List Nat} (h : Asc a) (k : Nat) : Asc (a.take k) := fun c hc => h c (List.mem_of_mem_take hc)
theorem Asc.drop {a : List Nat} (h : Asc a) (k : Nat) : Asc (a.drop k) := fun c hc => h c (List.mem_of_mem_drop hc)
theorem Ascs.app {a b : List (List Nat)} (h : Ascs a) (k : Ascs b) : Ascs (a ++ b) := fun c hc => (List.mem_append.mp hc).elim (h c) (k c)
theorem Ascs.take {a : List (List Nat)} (h : Ascs a) (k : Nat) : Ascs (a.take k) := fun c hc => h c (List.mem_of_mem_take hc)
theorem Ascs.drop {a : List (List Nat)} (h : Ascs a) (k : Nat) : Ascs (a.drop k) := fun c hc => h c (List.mem_of_mem_drop hc)
theorem Ascs.join {s : Nat} (hs : s < 128) {a : List (List Nat)} (h : Ascs a) : Asc (TL.joinL [s] a) := fun c hc => by
  rcases join_mem hc with e | ⟨r, hr, hc⟩
  · rw [e]; exact hs
  · exact h r hr c hc
theorem split_mem (s : Nat) : ∀ (l : List Nat) (r : List Nat), r ∈ splitL s l → ∀ c ∈ r, c ∈ l
  | [], r, h, c, hc => by
    have : r = [] := by simpa [splitL] using h
    subst this; cases hc
  | x :: l, r, h, c, hc => by
    have ih := split_mem s l
    have h' : r ∈ (if x = s then [] :: splitL s l else match splitL s l with
      | [] => [[x]]
      | h :: t => (x :: h) :: t) := h
    split at h'
    · rcases List.mem_cons.mp h' with rfl | h'
      · cases hc
      · exact List.mem_cons_of_mem _ (ih r h' c hc)
    · split at h'
      · have : r = [x] := by simpa using h'
        subst this
        rcases List.mem_cons.mp hc with rfl | hc
        · exact List.mem_cons_self
        · cases hc
      · rename_i a t e
        rw [e] at ih
        rcases List.mem_cons.mp h' with rfl | h'
        · rcases List.mem_cons.mp hc with rfl | hc
          · exact List.mem_cons_self
          · exact List.mem_cons_of_mem _ (ih a List.mem_cons_self c hc)
        · exact List.mem_cons_of_mem _ (ih r (List.mem_cons_of_mem _ h') c hc)
theorem Asc.split {s : Nat} {l : List Nat} (h : Asc l) : Ascs (splitL s l) := fun r hr c hc => h c (split_mem s l r hr c hc)
section
variable {K : PySem.W.Frag} {σ : L2.St} {H : Hp} {ta tb tc te : TE}
theorem ed_joinW {y : Nat} {ls : List (List Nat)} (hz : wt ls ≤ 100000) (ha : ED ta σ H (.str (txt [y]))) (hb : ED tb σ H (.list (ls.map encW))) : ED (tM1 (rJn K) ta tb) σ H (.str (txt (TL.joinL [y] ls))) := fun H1 e Q q =>
  ha H1 e _ fun x H2 e2 hx => ⟨⟨_, hx.toStr⟩, hb H2 (e.trans e2) _ fun z H3 e3 hz' => by
    obtain ⟨p, xs, rfl, h1, t⟩ := hz'.toLst
    have t' : DA H3 xs ((ls.map txt).map PyData.str) := by rw [List.map_map]; exact t
    have e4 := t'.strs
    subst e4
    have sm : ∀ ls : List (List Nat), ((ls.map txt).map (·.length)).sum + (ls.map txt).length = wt ls := by
      intro ls
      induction ls with
      | nil => rfl
      | cons l r ih =>
        rw [List.map_cons, List.map_cons, List.sum_cons, txt_len, List.length_cons]
        show _ = l.length + 1 + wt r
        omega
    refine ⟨txt [y], p, ls.map txt, hx.toStr, rfl, .inl (SqL.of h1), ?_, ?_⟩
    · have e : (txt [y]).length = 1 := rfl
      have := sm ls
      rw [e, Nat.mul_one]
      omega
    · rw [join_txt]
      exact q _ H3 (e2.trans e3) (.str _)⟩
theorem ed_addW {a b : List Nat} (hz : a.length + b.length ≤ 100000) (ha : ED ta σ H (.str (txt a))) (hb : ED tb σ H (.str (txt b))) : ED (tOp (fun x y H Q => ∃ i j, x = .str i ∧ y = .str j ∧ i.length + j.length ≤ sizeLine ∧ Q (.str (i ++ j)) H) ta tb) σ H (.str (txt (a ++ b))) := ed_bin' ha hb fun x y H1 _ hx hy Q q =>
  ⟨txt a, txt b, hx.toStr, hy.toStr, by rw [txt_len, txt_len]; show _ ≤ 16777216; omega, by rw [txt_app]; exact q _ H1 (Ex.refl _) (.str _)⟩
theorem lay_txt {l : List Nat} (h : Asc l) : (PyData.str (txt l)).canLay0 = true := by
  show PyData.strOk (txt l) = true
  unfold PyData.strOk
  rw [← Array.all_toList, List.all_eq_true]
  exact fun c hc => decide_eq_true (Nat.lt_trans (h c hc) (by decide))
theorem shaped_W {l : List Nat} (h : Asc l) : SeqAt.shaped (encW l) = true := shaped_of (lay_txt h) (by simp [encW, PyData.depth])
theorem shaped_Ws {b : Bool} {ls : List (List Nat)} (h : Ascs ls) : SeqAt.shaped (if b then .list (ls.map encW) else .tuple (ls.map encW)) = true := by
  have e : PyData.canLayAll0 (ls.map encW) = true := by
    induction ls with
    | nil => rfl
    | cons r ls ih =>
      have h1 := lay_txt (h r List.mem_cons_self)
      have h2 := ih fun x hx => h x (List.mem_cons_of_mem _ hx)
      rw [List.map_cons]
      show ((encW r).canLay0 && PyData.canLayAll0 (ls.map encW)) = true
      rw [h2, show (encW r).canLay0 = true from h1]; rfl
  have dp : ∀ ls : List (List Nat), PyData.depthAll (ls.map encW) ≤ 1 := fun ls => by
    induction ls with
    | nil => simp [PyData.depthAll]
    | cons r ls ih => simp [PyData.depthAll, PyData.depth, encW] at *; omega
  have := dp ls
  cases b
  · exact shaped_of (by simp only [PyData.canLay0, Bool.false_eq_true, if_false]; exact e) (by simp only [PyData.depth, Bool.false_eq_true, if_false]; omega)
  · exact shaped_of (by simp only [PyData.canLay0, if_true]; exact e) (by simp only [PyData.depth, if_true]; omega)
theorem any_W (ls : List (List Nat)) (l : List Nat) : ((ls.map encW).any fun z => PyData.eqv z (encW l)) = decide (l ∈ ls) := by
  induction ls with
  | nil => simp
  | cons r ls ih =>
    rw [List.map_cons, List.any_cons, ih]
    show (PyData.eqv (.str (txt r)) (.str (txt l)) || _) = _
    rw [eqv_str]
    by_cases h : r = l
    · subst h; simp
    · have : ¬ txt r = txt l := fun e => h (txt_inj e)
      rw [decide_eq_false this]
      simp [Ne.symm h]
end
end KS
end
noncomputable section
namespace KS
open PySem PySem.Spec PyProof.Rows L2 Evl
open RZ (tLenSetI pe_lenSetI)
section
variable {K : PySem.W.Frag} {σ : L2.St} {H H' : Hp} {ta tb tc te : TE} {tt : TT} {d d1 d2 : PyData} {ds es : List PyData}
theorem ed_famKX {b : Bool} {f t : Fam} {k : Int} (ha : ED ta σ H (famD b (f ++ t))) (hb : ED tb σ H (.int k)) (k0 : 0 ≤ k) (k1 : k < f.length) : ED (tOp (rIx K) ta tb) σ H (encK (kd f k)) := by
  have := ed_famK (K := K) ha hb k0 (by rw [List.length_append]; omega)
  rwa [kd_append k0 k1] at this
theorem ed_kdeedsX {tf tk : TE} {b : Bool} {f t : Fam} {k : Int} (h1 : ED tf σ H (famD b (f ++ t))) (h2 : ED tk σ H (.int k)) (k0 : 0 ≤ k) (k1 : k < f.length) : ED (tOp (rIxT K) (tOp (rIx K) tf tk) (tC (.int 1))) σ H (.str (kd f k).de) := by
  have := ed_kdeeds (K := K) h1 h2 k0 (by rw [List.length_append]; omega)
  rwa [kd_append k0 k1] at this
end
def R_lmetX (n : Nat) : List PyData → List PyData → Prop := fun ds es => ∃ (f t : Fam) (b : Bool) (p : Part), ds = [famD b (f ++ t), encP p] ∧ Els f ∧ p ≠ [] ∧ 0 ≤ lastP p ∧ lastP p < f.length ∧ lastP p < n ∧ p.length + n ≤ 1000 ∧ (lm n f p).length ≤ 10000 ∧ es = (lm n f p).map encP
theorem lmet_okX {f t : Fam} (h : Half f) {b : Bool} {p : Part} (o : PartOk f p) : R_lmetX NN [famD b (f ++ t), encP p] ((lm NN f p).map encP) :=
  ⟨f, t, b, p, rfl, h.els, o.1, o.2.1, o.2.2.1, by show lastP p < (16 : Int); have := h.few; have := o.2.2.1; omega, by have := o.2.2.2.1; show p.length + 16 ≤ 1000; omega, o.2.2.2.2, rfl⟩
def R_ldoerX : List PyData → PyData → Prop := fun ds d => ∃ (f t : Fam) (b : Bool) (k : Int) (c : Nat), ds = [famD b (f ++ t), .int k, .str (Froz.sing c)] ∧ Half f ∧ 0 ≤ k ∧ k < f.length ∧ (lm NN f [k]).length ≤ 100 ∧ d = optP (ldoer NN f (doing f c (lm NN f [k])))
def R_lknowsX : List PyData → List PyData → Prop := fun ds es => ∃ (f t : Fam) (b : Bool) (k : Int), ds = [famD b (f ++ t), .int k] ∧ Half f ∧ 0 ≤ k ∧ k < f.length ∧ (lm NN f [k]).length ≤ 100 ∧ es = ((known f (lm NN f [k])).map Froz.sing).map PyData.str
theorem lmet_back (n : Nat) : ∀ vs H Q E, spL (R_lmet n) vs H Q E → spL (R_lmetX n) vs H Q E := fun vs H Q E ⟨ds, es, hv, ⟨f, b, p, e, r⟩, q⟩ => ⟨ds, es, hv, ⟨f, [], b, p, by rw [List.append_nil]; exact e, r⟩, q⟩
theorem ldoer_back : ∀ vs H Q E, spD R_ldoer vs H Q E → spD R_ldoerX vs H Q E := fun vs H Q E ⟨ds, es, hv, ⟨f, b, k, c, e, r⟩, q⟩ => ⟨ds, es, hv, ⟨f, [], b, k, c, by rw [List.append_nil]; exact e, r⟩, q⟩
theorem lknows_back : ∀ vs H Q E, spL R_lknows vs H Q E → spL R_lknowsX vs H Q E := fun vs H Q E ⟨ds, es, hv, ⟨f, b, k, e, r⟩, q⟩ => ⟨ds, es, hv, ⟨f, [], b, k, by rw [List.append_nil]; exact e, r⟩, q⟩
section
variable {P : Program} {w : World} {K : PySem.W.Frag} {mg : Str → Option Value} {base : Heap}
theorem lmet_stepX {n : Nat} (d : Df K mg "_law_met" s_law_met ["_law_f", "_law_part"]) (G : Cl P w K mg base "_law_met" ["_law_f", "_law_part"] (n + 1) (spL (R_lmetX n))) : Cl P w K mg base "_law_met" ["_law_f", "_law_part"] (n + 2) (spL (R_lmetX (n + 1))) := by
  refine d.ok sc_lmet (spL_len (by rintro _ _ ⟨_, _, _, _, rfl, _⟩; rfl)) (fun fa cdv A outer s H vs Q E hr h => ?_)
  obtain ⟨ds, ee, hv, ⟨f, t, b, p, rfl, EF, pne, p0, p1, pn, pz, mz, rfl⟩, q⟩ := h
  obtain ⟨u, v, rfl, hu, hv⟩ := hv.args2
  refine ⟨_, pss_cons (ps_set (i := 2) sc_lmet.nd rfl (.inl rfl) (pe_lst (pa_cons (pv 1) pa_nil)))
    (pss_cons (ps_for PassesOwn.never rfl (pi_tup (pe_ix ix_tup (pe_ix ix_seq (pv 0) (pe_ix ix_tup (pv 1) (pe_un un_neg pe_int) (fun _ _ => rfl)) (fun _ _ => rfl)) pe_int (fun _ _ => rfl)))
        (pg_tup rfl (pgs_cons (pg_name (i := 3) sc_lmet.nd rfl (.inl rfl)) (pgs_cons (pg_name (i := 4) sc_lmet.nd rfl (.inl rfl)) pgs_nil)))
      (pss_one (ps_for PassesOwn.never rfl (pi_list (pe_cl G hr (pa_cons (pv 0) (pa_cons (pe_ifExp (pt_cmpR op_eq (pv 4) pe_int (nomark _)) (pe_tup (pa_cons (pv 3) pa_nil)) (pe_op op_catA (pv 1) (pe_tup (pa_cons (pv 3) pa_nil)))) pa_nil)))) (pg_name (i := 5) sc_lmet.nd rfl (.inl rfl))
        (pss_one (ps_if (pt_cmpR (op_notInD (hu64 hr)) (pv 5) (pv 2) rfl) (pss_one (ps_expr (pe_bm PySem.F.plainAttrs_list PySem.F.slot_list_append PySem.F.type_list_append mt_append (pv 2) (pa_cons (pv 5) pa_nil)))) pss_nil)))))
    (pss_one (ps_ret (pv 2)))), ?_⟩
  have L := els_low EF
  have le : lm (n + 1) f p = (kids f p).foldl (fun a c => dd a (lm n f c)) [p] := rfl
  refine sl_asg (ds := [encP p]) (el_lst' (eas1 (ed_var (i := 1) rfl hv)) (by show 1 ≤ 100000; decide)) fun l xs H1 nl e1 hl ha => ?_
  have t1 : ED (tOp (rIxT K) (tOp (rIx K) (tVar 0) (tOp (rIxT K) (tVar 1) (tUn (rU fun i => .int (-i)) (tC (.int 1))))) (tC (.int 0))) [some u, some v, some (.ref l), none, none, none] H1 (.tuple ((kd f (lastP p)).el.map encE)) :=
    ed_ixT (ed_famKX (ed_var (i := 0) rfl (hu.mono e1)) (ed_last (ed_var (i := 1) rfl (hv.mono e1)) pne) p0 p1) (ed_ci 0) rfl
  refine t1 H1 (Ex.refl _) _ fun x2 H2 e2 hx2 => ?_
  obtain ⟨a, es, rfl, haT, he⟩ := hx2.toTup
  have el : es.length = (kd f (lastP p)).el.length := by rw [he.len, List.length_map]
  have kel : ∀ e ∈ (kd f (lastP p)).el, 0 ≤ e.1 ∧ e.1 < (lastP p).toNat ∧ (e.2 = 0 ∨ e.2 = 1) := by
    refine EF (lastP p).toNat (kd f (lastP p)) ?_
    unfold kd
    rw [List.getD_eq_getElem?_getD, List.getElem?_eq_getElem (by omega)]; rfl
  refine ⟨a, rfl, ⟨es, SqT.of haT⟩, for_tup (K := K) (a := a) (xs := es) (fun i σ H' => (∃ y3 y4 y5, σ = [some u, some v, some (.ref l), y3, y4, y5]) ∧ Ex H H' ∧ Tu H2 H' ∧ ∃ acc, H' l = some (.lst acc) ∧ DA H' acc ((((kids f p).take i).foldl (fun a c => dd a (lm n f c)) [p]).map encP))
    ⟨⟨_, _, _, rfl⟩, e1.trans e2, Tu.refl _, xs, e2 _ _ hl, ha.mono e2⟩ (fun i σ H' _ ⟨_, _, tu, _⟩ => SqT.of (tu _ _ haT)) (fun i x σ H' hi ⟨⟨y3, y4, y5, es'⟩, eH, tu, acc, lx, ax⟩ => ?_) (fun σ H' ⟨⟨y3, y4, y5, es'⟩, eH, tu, acc, lx, ax⟩ => ?_)⟩
  · subst es'
    obtain ⟨du, hd, hxd⟩ := he.get2 hi
    obtain ⟨ee, h1, h2⟩ : ∃ ee, (kd f (lastP p)).el[i]? = some ee ∧ du = encE ee := by
      rw [List.getElem?_map] at hd
      cases k : (kd f (lastP p)).el[i]? with
      | none => rw [k] at hd; cases hd
      | some a => rw [k] at hd; exact ⟨a, rfl, (Option.some.inj hd).symm⟩
    subst h2
    have em := kel ee (List.mem_of_getElem? h1)
    have kc : (kids f p)[i]? = some (ep p ee) := by unfold kids; rw [List.getElem?_map, h1]; rfl
    have cm : ep p ee ∈ kids f p := List.mem_of_getElem? kc
    have step : ((kids f p).take (i + 1)).foldl (fun a c => dd a (lm n f c)) [p] = dd (((kids f p).take i).foldl (fun a c => dd a (lm n f c)) [p]) (lm n f (ep p ee)) := by
      rw [List.take_add_one, kc, List.foldl_append]; rfl
    have hx4 := hxd.keep tu (flat_E ee)
    refine g_pair (d1 := .int ee.1) (d2 := .int ee.2) hx4 fun v1 v2 w1 w2 => ?_
    have z1 := w1.toInt
    have z2 := w2.toInt
    subst z1 z2
    have hu4 := hu.mono eH
    have hv4 := hv.mono eH
    have clen : (lm n f (ep p ee)).length ≤ 10000 := by
      refine Nat.le_trans (nodup_len (lm_nodup n f (ep p ee)) (k := lm (n + 1) f p) fun y hy => mem_lm.mpr (.inr ⟨_, cm, hy⟩)) mz
    have plen : (ep p ee).length ≤ p.length + 1 := by
      unfold ep
      split <;> simp
    have hc : ED (tIf (tTest (tOp rEq (tVar 4) (tC (.int 1)))) (tTup (tCons (tVar 3) tNil)) (tOp (rCatA K) (tVar 1) (tTup (tCons (tVar 3) tNil)))) [some u, some v, some (.ref l), some (.int ee.1), some (.int ee.2), y5] H' (encP (ep p ee)) := by
      refine ed_if (b := decide (ee.2 = 1)) (et_D (ed_eqI (ed_var (i := 4) rfl (.int _)) (ed_ci 1))) (fun hb => ?_) (fun hb => ?_)
      · have e := of_decide_eq_true hb
        have ne : ¬ ee.2 = 0 := by omega
        have e3 : ep p ee = [ee.1] := if_neg ne
        rw [e3]
        exact ed_tup (ds := [.int ee.1]) (eas1 (ed_var (i := 3) rfl (.int _))) (by show 1 ≤ 100000; decide)
      · have ne := of_decide_eq_false hb
        have e : ee.2 = 0 := by
          rcases em.2.2 with h | h
          · exact h
          · exact absurd h ne
        have e3 : encP (ep p ee) = .tuple (p.map PyData.int ++ [.int ee.1]) := by
          have : ep p ee = p ++ [ee.1] := if_pos e
          rw [this]
          unfold encP
          rw [List.map_append]; rfl
        rw [e3]
        exact ed_catT (ds := p.map PyData.int) (es := [.int ee.1]) (ed_var (i := 1) rfl hv4) (ed_tup (eas1 (ed_var (i := 3) rfl (.int _))) (by show 1 ≤ 100000; decide)) (by rw [List.length_map]; show p.length + 1 ≤ 100000; omega)
    refine (el_call' (R := R_lmetX n) (E := E0) (eas2 (ed_var (σ := [some u, some v, some (.ref l), some (.int ee.1), some (.int ee.2), y5]) (i := 0) rfl hu4) hc) ⟨f, t, b, ep p ee, rfl, EF, ep_ne _ _, by rw [lastP_ep]; omega, by rw [lastP_ep]; omega, by rw [lastP_ep]; omega, by omega, clen, rfl⟩) H' (Ex.refl _) _ fun r xs3 H3 nr e3 hr3 ha3 => ?_
    have lx3 := e3 _ _ lx
    have x3l : xs3.length = (lm n f (ep p ee)).length := by rw [ha3.len, List.length_map]
    have mlen : ∀ j, (dd (((kids f p).take i).foldl (fun a c => dd a (lm n f c)) [p]) ((lm n f (ep p ee)).take j)).length ≤ 10000 := fun j => by
      refine Nat.le_trans (dd_take _ _ _) ?_
      rw [← step]
      exact Nat.le_trans (foldd_take (fun c => lm n f c) (kids f p) [p] (i + 1)) (by rw [← le]; exact mz)
    refine ⟨r, rfl, ⟨xs3, SqL.of hr3⟩, for_list (K := K) (a := r) (xs := xs3) (fun j σ H' => (∃ y5, σ = [some u, some v, some (.ref l), some (.int ee.1), some (.int ee.2), y5]) ∧ But l H3 H' ∧ ∃ acc, H' l = some (.lst acc) ∧ DA H' acc ((dd (((kids f p).take i).foldl (fun a c => dd a (lm n f c)) [p]) ((lm n f (ep p ee)).take j)).map encP))
      ⟨⟨_, rfl⟩, But.refl _ _, acc, lx3, ax.mono e3⟩ (fun j σ H5 _ ⟨_, bt, _⟩ => SqL.of (bt _ _ (ne_of_none lx nr).symm hr3)) (fun j x5 σ H5 hj ⟨⟨y6, es6⟩, bt, acc5, l5, a5⟩ => ?_) (fun σ H5 ⟨⟨y6, es6⟩, bt, acc5, l5, a5⟩ => ?_)⟩
    · subst es6
      obtain ⟨dw, hd5, hx5⟩ := ha3.get2 hj
      obtain ⟨qq, g1, g2⟩ : ∃ qq, (lm n f (ep p ee))[j]? = some qq ∧ dw = encP qq := by
        rw [List.getElem?_map] at hd5
        cases k : (lm n f (ep p ee))[j]? with
        | none => rw [k] at hd5; cases hd5
        | some a => rw [k] at hd5; exact ⟨a, rfl, (Option.some.inj hd5).symm⟩
      subst g2
      have hx6 := hx5.keep (bt.tu lx3) (flat_P qq)
      have dl5 : D H5 (.ref l) (.list ((dd (((kids f p).take i).foldl (fun a c => dd a (lm n f c)) [p]) ((lm n f (ep p ee)).take j)).map encP)) := .lst l5 a5
      have st2 : dd (((kids f p).take i).foldl (fun a c => dd a (lm n f c)) [p]) ((lm n f (ep p ee)).take (j + 1)) = ins (dd (((kids f p).take i).foldl (fun a c => dd a (lm n f c)) [p]) ((lm n f (ep p ee)).take j)) qq := by
        rw [List.take_add_one, g1, dd_append]; rfl
      have tst := ed_notInD (K := K) (σ := [some u, some v, some (.ref l), some (.int ee.1), some (.int ee.2), some x5]) (ed_var (i := 5) rfl hx6) (ed_var (i := 2) rfl dl5) (encP_shaped qq) (encPs_shaped _)
      rw [any_encP] at tst
      have ml := mlen j
      refine sd_if (et_D tst) (fun hb H6 e6 => ?_) (fun hb H6 e6 => ?_)
      · have nm : ¬ qq ∈ dd (((kids f p).take i).foldl (fun a c => dd a (lm n f c)) [p]) ((lm n f (ep p ee)).take j) := by simpa using hb
        refine ⟨_, rfl, .inl ⟨rfl, _, SqL.of (e6 _ _ l5)⟩, _, rfl, l, acc5, x5, rfl, rfl, e6 _ _ l5, sz_lt (by rw [a5.len, List.length_map]; omega), ⟨_, rfl⟩, (bt.trans (But.ex e6)).trans But.upd, _, upd_same, ?_⟩
        rw [st2, ins_of_not nm, List.map_append]
        have tk := tu_upd (ys := acc5 ++ [x5]) (e6 _ _ l5)
        exact ((a5.mono e6).keep tk (flat_Ps _)).append (.one ((hx6.mono e6).keep tk (flat_P qq)))
      · have nm : qq ∈ dd (((kids f p).take i).foldl (fun a c => dd a (lm n f c)) [p]) ((lm n f (ep p ee)).take j) := by simpa using hb
        refine ⟨⟨_, rfl⟩, bt.trans (But.ex e6), acc5, e6 _ _ l5, ?_⟩
        rw [st2, ins_of_mem nm]
        exact a5.mono e6
    · subst es6
      rw [x3l, List.take_length, ← step] at a5
      refine ⟨⟨_, _, _, rfl⟩, fun c o hc => bt c o (ne_of_none hc nl) (e3 _ _ (eH _ _ hc)), (tu.trans (tu_ex e3)).trans (bt.tu lx3), acc5, l5, a5⟩
  · subst es'
    rw [el] at ax
    have ek : (kids f p).take (kd f (lastP p)).el.length = kids f p := List.take_of_length_le (by unfold kids; rw [List.length_map]; exact Nat.le_refl _)
    rw [ek, ← le] at ax
    exact ⟨_, rfl, q l acc H' nl eH lx ax⟩
theorem ok_lmetX (d : Df K mg "_law_met" s_law_met ["_law_f", "_law_part"]) : ∀ n : Nat, Cl P w K mg base "_law_met" ["_law_f", "_law_part"] (n + 1) (spL (R_lmetX n))
  | 0 => Cl.never d fun vs H Q E h => by
    obtain ⟨_, _, _, ⟨_, _, _, _, _, _, h0, _, h1, _⟩, _⟩ := h
    omega
  | n + 1 => lmet_stepX d (ok_lmetX d n)
theorem ok_ldoerX (B : Bt mg) (d : Df K mg "_law_doer" s_law_doer ["_law_f", "_law_kind", "_law_deed"]) (cM : Cl P w K mg base "_law_met" ["_law_f", "_law_part"] 17 (spL (R_lmetX NN))) : Cl P w K mg base "_law_doer" ["_law_f", "_law_kind", "_law_deed"] 18 (spD R_ldoerX) := by
  refine d.ok sc_ldoer (spD_len (by rintro _ _ ⟨_, _, _, _, _, rfl, _⟩; rfl)) (fun fa cdv A outer s H vs Q E hr h => ?_)
  obtain ⟨ds, ee, hv, ⟨f, t, b, k, c, rfl, HF, k0, k1, sz, rfl⟩, q⟩ := h
  obtain ⟨x, y, z, rfl, hx, hy, hz⟩ := hv.args3
  refine ⟨_, pss_cons (ps_setLc (i := 3) (own := [("_law_part", 4)]) (g := gName 4) rfl sc_ldoer.nd rfl rfl (sw_true rfl rfl rfl (by decide +kernel)) (pi_list (pe_cl cM hr (pa_cons (pv 0) (pa_cons (pe_tup (pa_cons (pv 1) pa_nil)) pa_nil)))) (blkOk_by (N := N_ldoer) (sc := defScope s_law_doer) (by decide +kernel))
      (fun _ _ _ _ _ => pg_name (i := 4) sc_ldoer.nd rfl (.inl rfl)) (fun _ _ _ _ _ => by exact pts_one (pt_cmpR op_inS (pv 2) (by exact pe_ix (r := rIxT K) ix_tup (pe_ix (r := rIx K) ix_seq (pv 0) (pe_ix (r := rIxT K) ix_tup (pv 4) (pe_un un_neg pe_int) (fun _ _ => rfl)) (fun _ _ => rfl)) pe_int (fun _ _ => rfl)) rfl)) (fun _ _ _ _ _ => pv 4))
    (pss_cons (ps_set (i := 5) sc_ldoer.nd rfl (.inr rfl) (pe_lst pa_nil))
    (pss_cons (ps_for PassesOwn.never rfl (pi_list (pv 3)) (pg_name (i := 4) sc_ldoer.nd rfl (.inl rfl))
      (pss_one (ps_expr (pe_bm PySem.F.plainAttrs_list PySem.F.slot_list_extend PySem.F.type_list_extend mt_extend (pv 5) (pa_cons (pe_slice sl_list (pe_cl cM hr (pa_cons (pv 0) (pa_cons (pv 4) pa_nil))) (po_some pe_int) po_none) pa_nil)))))
    (pss_cons (ps_setLc (i := 6) (own := [("_law_part", 4)]) (g := gName 4) rfl sc_ldoer.nd rfl rfl (sw_true rfl rfl rfl (by decide +kernel)) (pi_list (pv 3)) (blkOk_by (N := N_ldoer) (sc := defScope s_law_doer) (by decide +kernel))
      (fun _ _ _ _ _ => pg_name (i := 4) sc_ldoer.nd rfl (.inl rfl)) (fun _ _ _ _ _ => by exact pts_one (pt_cmpR (r := rNotInD K) (op_notInD (hu64 hr)) (pv 4) (pv 5) rfl)) (fun _ _ _ _ _ => pv 4))
    (pss_one (ps_ret (pe_ifExp (pt_cmpR op_eq (pe_callB call_len rfl B.len PySem.boot_len (pa_cons (pv 6) pa_nil)) pe_int (nomark _)) (pe_ix ix_list (pv 6) pe_int (fun _ _ => rfl)) pe_non)))))), ?_⟩
  have L := els_low HF.els
  have sz' : (lm NN f [k]).length ≤ 10000 := by omega
  have pk := HF.part k0 k1 sz' (root_in f k)
  have dz : (doing f c (lm NN f [k])).length ≤ (lm NN f [k]).length := List.length_filter_le _ _
  have dm : ∀ p ∈ doing f c (lm NN f [k]), p ∈ lm NN f [k] := fun p hp => (List.mem_filter.mp hp).1
  refine sl_asg (ds := (doing f c (lm NN f [k])).map encP) ?_ fun p xs H1 np e1 hp ha => ?_
  · refine el_lcL (as := lm NN f [k]) (enc := encP) (does f c) encP (EL.ed (el_call' (eas2 (ed_var (i := 0) rfl hx) (ed_tup (ds := [.int k]) (eas1 (ed_var (i := 1) rfl hy)) (by show 1 ≤ 100000; decide))) (lmet_okX HF pk))) (by omega) (fun a _ _ => flat_P a) (fun a _ => flat_P a) fun a ha v H2 e2 hv => ?_
    have pa := HF.part k0 k1 sz' ha
    refine ⟨[some x, some y, some z, none, some v, none, none], rfl, fun _ _ R h => h, ?_, fun _ => ed_var (i := 4) rfl hv⟩
    exact et_D (ed_inS (ed_var (i := 2) rfl (hz.mono e2)) (ed_kdeedsX (ed_var (i := 0) rfl (hx.mono e2)) (ed_last (ed_var (i := 4) rfl hv) pa.1) pa.2.1 pa.2.2.1))
  · have ds1 : D H1 (.ref p) (.list ((doing f c (lm NN f [k])).map encP)) := .lst hp ha
    refine sl_asg (ds := []) (el_lst' eas_nil (by decide)) fun l xl H2 nl e2 hl al => ?_
    have xn : xs.length = (doing f c (lm NN f [k])).length := by rw [ha.len, List.length_map]
    have hp2 := e2 _ _ hp
    have npl : p ≠ l := ne_of_none hp nl
    refine ⟨.ref p, rfl, p, rfl, ⟨xs, SqL.of hp2⟩, for_list (K := K) (a := p) (xs := xs) (fun i σ H' => (∃ y4, σ = [some x, some y, some z, some (.ref p), y4, some (.ref l), none]) ∧ Ex H1 H' ∧ ∃ acc, H' l = some (.lst acc) ∧ DA H' acc ((hidden NN f ((doing f c (lm NN f [k])).take i)).map encP))
      ⟨⟨_, rfl⟩, e2, xl, hl, al⟩ (fun i σ H' _ ⟨_, e, _⟩ => SqL.of (e _ _ hp)) (fun i v σ H' hi ⟨⟨y4, es⟩, e3, acc, lx, ax⟩ => ?_) (fun σ H' ⟨⟨y4, es⟩, e3, acc, lx, ax⟩ => ?_)⟩
    · subst es
      obtain ⟨du, hd, hv⟩ := ha.get2 hi
      obtain ⟨a, h1, h2⟩ : ∃ a, (doing f c (lm NN f [k]))[i]? = some a ∧ du = encP a := by
        rw [List.getElem?_map] at hd
        cases k : (doing f c (lm NN f [k]))[i]? with
        | none => rw [k] at hd; cases hd
        | some a => rw [k] at hd; exact ⟨a, rfl, (Option.some.inj hd).symm⟩
      subst h2
      have am := dm a (List.mem_of_getElem? h1)
      have pa := HF.part k0 k1 sz' am
      have la : (lm NN f a).length ≤ 100 := by
        have sub : ∀ y ∈ lm NN f a, y ∈ lm NN f [k] := fun y hy => lm_trans L NN (by show lastP [k] < (16 : Int); rw [lastP_one]; have := HF.few; omega) am hy
        have := nodup_len (lm_nodup NN f a) sub
        omega
      have hl0 : ∀ j, (hidden NN f ((doing f c (lm NN f [k])).take j)).length ≤ 100 * j := fun j => by
        induction j with
        | zero => simp [hidden]
        | succ j ih =>
          cases g : (doing f c (lm NN f [k]))[j]? with
          | none =>
            have : (doing f c (lm NN f [k])).take (j + 1) = (doing f c (lm NN f [k])).take j := by rw [List.take_add_one, g]; simp
            rw [this]; omega
          | some r =>
            rw [hidden_take NN f g, List.length_append, List.length_tail]
            have rm := dm r (List.mem_of_getElem? g)
            have sub : ∀ y ∈ lm NN f r, y ∈ lm NN f [k] := fun y hy => lm_trans L NN (by show lastP [k] < (16 : Int); rw [lastP_one]; have := HF.few; omega) rm hy
            have := nodup_len (lm_nodup NN f r) sub
            omega
      have il : i < (doing f c (lm NN f [k])).length := (List.getElem?_eq_some_iff.mp h1).1
      refine ⟨.ref l, rfl, .inl ⟨rfl, _, SqL.of lx⟩, ?_⟩
      refine (el_call' (R := R_lmetX NN) (E := E0) (eas2 (ed_var (σ := [some x, some y, some z, some (.ref p), some v, some (.ref l), none]) (i := 0) rfl ((hx.mono e1).mono e3)) (ed_var (i := 4) rfl (hv.mono e3))) (lmet_okX HF pa)) H' (Ex.refl _) _ fun r xr H4 nr e4 hr4 ha4 => ?_
      refine ⟨1, rfl, r, xr, rfl, SqL.of hr4, fun p5 np5 => ?_⟩
      rw [cut1']
      have lx4 := e4 _ _ lx
      have n5 : l ≠ p5 := ne_of_none lx4 np5
      have hacc : acc.length ≤ 100 * i := by
        rw [ax.len, List.length_map]
        exact hl0 i
      have xrl : xr.length ≤ 100 := by rw [ha4.len, List.length_map]; exact la
      refine ⟨l, p5, acc, xr.tail, rfl, rfl, by rw [upd_ne n5]; exact lx4, upd_same, sz_of (by rw [List.length_tail]; omega), ?_⟩
      refine ⟨⟨_, rfl⟩, fun a' o' hc => ?_, acc ++ xr.tail, upd_same, ?_⟩
      · have hc4 := e4 _ _ (e3 _ _ hc)
        rw [upd_ne (ne_of_none hc nl), upd_ne (ne_of_none hc4 np5)]
        exact hc4
      · have tu : Tu H4 (upd (upd H4 p5 (.lst xr.tail)) l (.lst (acc ++ xr.tail))) := fun a' zs hz' => by
          rw [upd_ne (ne_of hz' lx4 (by intro z; cases z)), upd_ne (ne_of_none hz' np5)]
          exact hz'
        rw [hidden_take NN f h1, List.map_append]
        refine ((ax.mono e4).keep tu (flat_Ps _)).append ?_
        have e7 : ((lm NN f a).tail).map encP = ((lm NN f a).map encP).drop 1 := by rw [← List.map_drop, List.drop_one]
        rw [e7]
        have fd : flatTs (((lm NN f a).map encP).drop 1) = true := by rw [← List.map_drop]; exact flat_Ps _
        have t := DA.keep tu fd (ha4.drop 1)
        rw [show xr.drop 1 = xr.tail from List.drop_one] at t
        exact t
    · subst es
      rw [xn, List.take_length] at ax
      have dh : D H' (.ref l) (.list ((hidden NN f (doing f c (lm NN f [k]))).map encP)) := .lst lx ax
      have hleft : left NN f (doing f c (lm NN f [k])) = (doing f c (lm NN f [k])).filter fun p => decide (¬ p ∈ hidden NN f (doing f c (lm NN f [k]))) := rfl
      dsimp only
      refine sl_asg (ds := (left NN f (doing f c (lm NN f [k]))).map encP) ?_ fun p6 x6 H6 np6 e6 hp6 ha6 => ?_
      · refine el_lcL (as := doing f c (lm NN f [k])) (enc := encP) (fun p => decide (¬ p ∈ hidden NN f (doing f c (lm NN f [k])))) encP (ed_var (i := 3) rfl (ds1.mono e3)) (by omega) (fun a _ _ => flat_P a) (fun a _ => flat_P a) fun a ha v H7 e7 hv => ?_
        refine ⟨[some x, some y, some z, some (.ref p), some v, some (.ref l), none], rfl, fun _ _ R h => h, ?_, fun _ => ed_var (i := 4) rfl hv⟩
        have tst := ed_notInD (K := K) (σ := [some x, some y, some z, some (.ref p), some v, some (.ref l), none]) (ed_var (i := 4) rfl hv) (ed_var (i := 5) rfl (dh.mono e7)) (encP_shaped a) (encPs_shaped _)
        rw [any_encP] at tst
        exact et_D (ed_is tst (by rw [decide_not]))
      · have d6 : D H6 (.ref p6) (.list ((left NN f (doing f c (lm NN f [k]))).map encP)) := .lst hp6 ha6
        dsimp only
        refine sd_ret (d := optP (ldoer NN f (doing f c (lm NN f [k])))) ?_ fun v H8 e8 hv8 => q v H8 (((e1.trans e3).trans e6).trans e8) hv8
        refine ed_if (b := decide (((left NN f (doing f c (lm NN f [k]))).length : Int) = 1)) (et_D (ed_eqI (ed_is (ed_lenL (ed_var (i := 6) rfl d6)) (by rw [List.length_map])) (ed_ci 1))) (fun hb => ?_) (fun hb => ?_)
        · have e := of_decide_eq_true hb
          have e1' : (left NN f (doing f c (lm NN f [k]))).length = 1 := by omega
          unfold ldoer
          rw [if_pos e1']
          match g : left NN f (doing f c (lm NN f [k])), e1' with
          | [r], _ =>
            rw [g] at d6
            exact ed_ixL (ed_var (i := 6) rfl d6) (ed_ci 0) rfl
        · have e := of_decide_eq_false hb
          unfold ldoer
          rw [if_neg (by omega)]
          exact ed_cn
theorem ok_lknowsX (B : Bt mg) (d : Df K mg "_law_knows" s_law_knows ["_law_f", "_law_kind"]) (cM : Cl P w K mg base "_law_met" ["_law_f", "_law_part"] 17 (spL (R_lmetX NN))) : Cl P w K mg base "_law_knows" ["_law_f", "_law_kind"] 18 (spL R_lknowsX) := by
  refine d.ok sc_lknows (spL_len (by rintro _ _ ⟨_, _, _, _, rfl, _⟩; rfl)) (fun fa cdv A outer s H vs Q E hr h => ?_)
  obtain ⟨ds, ee, hv, ⟨f, t, b, k, rfl, HF, k0, k1, sz, rfl⟩, q⟩ := h
  obtain ⟨x, y, rfl, hx, hy⟩ := hv.args2
  refine ⟨_, pss_cons (ps_set (i := 2) sc_lknows.nd rfl (.inr rfl) (pe_lc (own := [("_law_part", 3)]) (g := gName 3) (tt := tYes) rfl sc_lknows.nd (pi_list (pe_cl cM hr (pa_cons (pv 0) (pa_cons (pe_tup (pa_cons (pv 1) pa_nil)) pa_nil)))) (blkOk_by (N := N_lknows) (sc := defScope s_law_knows) (by decide +kernel))
      (fun _ _ _ _ _ => pg_name (i := 3) sc_lknows.nd rfl (.inl rfl)) (fun _ _ _ _ _ => pts_nil) (fun _ _ _ _ _ => by exact pe_ix (r := rIxT K) ix_tup (pe_ix (r := rIx K) ix_seq (pv 0) (pe_ix (r := rIxT K) ix_tup (pv 3) (pe_un un_neg pe_int) (fun _ _ => rfl)) (fun _ _ => rfl)) pe_int (fun _ _ => rfl))))
    (pss_one (ps_ret (pe_lc (own := [("_law_letter", 4)]) (g := gName 4) rfl sc_lknows.nd (pi_str pe_str) (blkOk_by (N := N_lknows) (sc := defScope s_law_knows) (by decide +kernel))
      (fun _ _ _ _ _ => pg_name (i := 4) sc_lknows.nd rfl (.inr rfl)) (fun _ _ _ _ _ => by exact pts_one (pt_cmpR (r := rNeD K) (op_neD (Nat.lt_of_succ_lt (hu64 hr))) (by exact pe_lc (wi := iList K (tVar 2)) (own := [("_law_row_here", 5)]) (g := gName 5) rfl sc_lknows.nd (pi_list (pv 2)) (blkOk_by (N := N_lknows) (sc := csc [(".0", .local), ("_law_letter", .cell), ("_law_deeds", .cell)]) (by decide +kernel)) (fun _ _ _ _ _ => pg_name (i := 5) sc_lknows.nd rfl (.inl rfl)) (fun _ _ _ _ _ => by exact pts_one (pt_cmpR op_inS (pv 4) (pv 5) rfl)) (fun _ _ _ _ _ => pv 5)) (pe_lst pa_nil) (nomark _))) (fun _ _ _ _ _ => pv 4)))), ?_⟩
  have sz' : (lm NN f [k]).length ≤ 10000 := by omega
  have pk := HF.part k0 k1 sz' (root_in f k)
  refine sl_asg (ds := ((lm NN f [k]).map fun p => (kd f (lastP p)).de).map PyData.str) ?_ fun p xs H1 np e1 hp ha => ?_
  · refine el_is (el_lcL (as := lm NN f [k]) (enc := encP) (fun _ => true) (fun p => .str (kd f (lastP p)).de) (EL.ed (el_call' (eas2 (ed_var (i := 0) rfl hx) (ed_tup (ds := [.int k]) (eas1 (ed_var (i := 1) rfl hy)) (by show 1 ≤ 100000; decide))) (lmet_okX HF pk))) (by omega) (fun _ _ _ => rfl) (fun a _ => flat_P a) fun a ha v H2 e2 hv => ?_) (by rw [filt_true, List.map_map]; rfl)
    have pa := HF.part k0 k1 sz' ha
    exact ⟨[some x, some y, none, some v, none, none], rfl, fun _ _ R h => h, et_yes, fun _ => ed_kdeedsX (ed_var (i := 0) rfl (hx.mono e2)) (ed_last (ed_var (i := 3) rfl hv) pa.1) pa.2.1 pa.2.2.1⟩
  · have hd : D H1 (.ref p) (.list (((lm NN f [k]).map fun p => (kd f (lastP p)).de).map PyData.str)) := .lst hp ha
    refine sl_ret (ds := ((known f (lm NN f [k])).map Froz.sing).map PyData.str) (el_is (el_lcS (l := abc) (fun c => (lm NN f [k]).any (does f c)) (fun c => .str (Froz.sing c)) (ed_cs _) (by decide) (fun _ _ _ => rfl) fun c hc H2 e2 => ?_) (by unfold known; rw [List.map_map]; rfl)) fun p2 xs2 H2 np2 e2 hp2 ha2 => q p2 xs2 H2 (fresh_back e1 np2) (e1.trans e2) hp2 ha2
    refine ⟨[some x, some y, some (.ref p), none, some (.str ⟨#[c]⟩), none], rfl, fun _ _ R h => h, ?_, fun _ => ed_var (i := 4) rfl (.str _)⟩
    have okS : ∀ s ∈ ((lm NN f [k]).map fun p => (kd f (lastP p)).de), ∀ c ∈ s.cps.toList, c ∈ abc := fun s hs => by
      obtain ⟨p, hp, e⟩ := List.mem_map.mp hs
      subst e
      have pa := HF.part k0 k1 sz' hp
      exact HF.kdAbc pa.2.1 pa.2.2.1
    refine et_D (ed_is (ed_neD (d := .list ((((lm NN f [k]).map fun p => (kd f (lastP p)).de).filter fun s => decide (c ∈ s.cps.toList)).map PyData.str)) (d' := .list []) (EL.ed (el_lcL (as := (lm NN f [k]).map fun p => (kd f (lastP p)).de) (enc := PyData.str) (fun s => decide (c ∈ s.cps.toList)) PyData.str (ed_var (i := 2) rfl (hd.mono e2)) (by rw [List.length_map]; omega) (fun _ _ _ => rfl) (fun _ _ => rfl) fun a ha v H3 e3 hv => ?_)) (EL.ed (el_lst' (ds := []) eas_nil (by decide))) (strs_shaped fun s hs => okS s (List.mem_filter.mp hs).1) (intsL_shaped [])) ?_)
    · exact ⟨[some x, some y, some (.ref p), none, some (.str ⟨#[c]⟩), some v], rfl, fun _ _ R h => h, et_D (ed_inS (ed_var (i := 4) rfl (.str _)) (ed_var (i := 5) rfl hv)), fun _ => ed_var (i := 5) rfl hv⟩
    · congr 1
      have e5 : (lm NN f [k]).any (does f c) = !((((lm NN f [k]).map fun p => (kd f (lastP p)).de).filter fun s => decide (c ∈ s.cps.toList)).isEmpty) := by
        generalize lm NN f [k] = l
        induction l with
        | nil => rfl
        | cons a l ih =>
          rw [List.any_cons, List.map_cons, List.filter_cons, ih]
          unfold does
          by_cases h : c ∈ (kd f (lastP a)).de.cps.toList
          · simp [h]
          · simp [h]
      rw [e5]
      cases (((lm NN f [k]).map fun p => (kd f (lastP p)).de).filter fun s => decide (c ∈ s.cps.toList)) with
      | nil => simp [PyData.eqv, PyData.eqvAll]
      | cons a l => simp [PyData.eqv, PyData.eqvAll]
end
end KS
end
noncomputable section
namespace KS
open PySem PySem.Spec PyProof.Rows L2 Evl
theorem okD_E {n : Nat} (e : Int × Int) : okD (n + 2) (encE e) := by
  refine ⟨by show 2 ≤ 40000; decide, fun d hd => ?_⟩
  rcases List.mem_cons.mp hd with rfl | hd
  · exact trivial
  · rw [List.mem_singleton] at hd
    subst hd
    exact trivial
theorem okD_K {n : Nat} {k : Kind} (h : k.el.length ≤ 3) : okD (n + 4) (encK k) := by
  refine ⟨by show 3 ≤ 40000; decide, fun d hd => ?_⟩
  rcases List.mem_cons.mp hd with rfl | hd
  · refine ⟨by rw [List.length_map]; omega, fun d hd => ?_⟩
    obtain ⟨e, _, rfl⟩ := List.mem_map.mp hd
    exact okD_E e
  · rcases List.mem_cons.mp hd with rfl | hd
    · exact trivial
    · rw [List.mem_singleton] at hd
      subst hd
      exact trivial
theorem okD_F {n : Nat} {f : Fam} (V : Valid f) : okD (n + 5) (encF f) := by
  have := V.2.1
  refine ⟨by rw [List.length_map]; omega, fun d hd => ?_⟩
  obtain ⟨k, hk, rfl⟩ := List.mem_map.mp hd
  obtain ⟨m, hm, o⟩ := V.okAt hk
  exact okD_K o.few
theorem encEs_layT : ∀ l : List (Int × Int), PyData.canLayAll0 (l.map encE) = true
  | [] => by simp [PyData.canLayAll0]
  | e :: l => by simp [PyData.canLayAll0, PyData.canLay0, encE, encEs_layT l]
theorem encEs_depthT : ∀ l : List (Int × Int), PyData.depthAll (l.map encE) ≤ 1
  | [] => by simp [PyData.depthAll]
  | e :: l => by
    have := encEs_depthT l
    simp [PyData.depthAll, PyData.depth, encE]
    omega
theorem encEs_shapedT (l : List (Int × Int)) : SeqAt.shaped (.tuple (l.map encE)) = true := by
  have := encEs_depthT l
  exact shaped_of (by simp only [PyData.canLay0]; exact encEs_layT l) (by simp only [PyData.depth]; omega)
theorem eqv_nilT (l : List PyData) : PyData.eqv (.tuple l) (.tuple []) = decide (l = []) := by
  cases l <;> simp [PyData.eqv, PyData.eqvAll]
def rAddS : R2 := fun x y H Q => ∃ i j, x = .str i ∧ y = .str j ∧ i.length + j.length ≤ sizeLine ∧ Q (.str (i ++ j)) H
theorem ed_addT {σ : L2.St} {H : Hp} {ta tb : TE} {a b c : List Nat} (hc : a ++ b = c) (hz : c.length ≤ 10000) (ha : ED ta σ H (.str (txt a))) (hb : ED tb σ H (.str (txt b))) : ED (tOp rAddS ta tb) σ H (.str (txt c)) := ed_bin' ha hb fun x y H1 _ hx hy Q q =>
  ⟨txt a, txt b, hx.toStr, hy.toStr, by
    rw [txt_len, txt_len]
    have : a.length + b.length = c.length := by rw [← hc, List.length_append]
    show _ ≤ 16777216
    omega, by
    rw [txt_app, hc]
    exact q _ H1 (Ex.refl _) (.str _)⟩
def R_wrt : List PyData → PyData → Prop := fun ds d => ∃ f : Fam, ds = [encF f] ∧ Valid f ∧ d = .str (txt (famL f))
theorem asc_fam {f : Fam} (V : Valid f) : Asc (famL f) := by
  refine Ascs.join (by decide) fun r hr => ?_
  obtain ⟨k, hk, rfl⟩ := List.mem_map.mp hr
  obtain ⟨n, hn, o⟩ := V.okAt hk
  refine Ascs.join (by decide) fun w hw c hc => ?_
  simp only [rowW, List.mem_cons, List.not_mem_nil, or_false] at hw
  rcases hw with rfl | rfl | rfl | rfl
  · simp only [kindL, List.mem_cons, List.not_mem_nil, or_false] at hc
    rcases hc with rfl | rfl | rfl | rfl <;> decide
  · have := name_sign o hn hc
    omega
  · unfold deedL at hc
    split at hc
    · rw [List.mem_singleton] at hc
      subst hc; decide
    · have := abc_sign (rise_abc2 o.rise hc)
      omega
  · have hc' : c = 48 + k.ce.toNat := List.mem_singleton.mp hc
    have := o.cells.2
    omega
section
variable {P : Program} {w : World} {K : PySem.W.Frag} {mg : Str → Option Value} {base : Heap}
/-! ### _law_text -/
abbrev N_ltx : List Str := ["_law_f", "_law_rows", "_law_elders_here", "_law_deeds", "_law_cells", "_law_names", "_law_elder", "_law_shared", "_law_words"]
theorem sc_ltx : FnScope N_ltx ["_law_f"] (defScope s_law_text) := ⟨rfl, rfl, rfl, by decide +kernel, rfl, by decide +kernel, by decide +kernel⟩
theorem ok_ltx (B : Bt mg) (d : Df K mg "_law_text" s_law_text ["_law_f"]) : Cl P w K mg base "_law_text" ["_law_f"] 1 (spD R_wrt) := by
  refine d.ok sc_ltx (spD_len (by rintro _ _ ⟨_, rfl, _⟩; rfl)) (fun fa cdv A outer s H vs Q E hr h => ?_)
  obtain ⟨ds, dd, hv, ⟨f, rfl, V, rfl⟩, q⟩ := h
  obtain ⟨x, rfl, hx⟩ := hv.args1
  refine ⟨_, pss_cons (ps_set (i := 1) sc_ltx.nd rfl (.inl rfl) (pe_lst pa_nil))
    (pss_cons (ps_for PassesOwn.never rfl (pi_tup (pv 0)) (pg_tup rfl (pgs_cons (pg_name (i := 2) sc_ltx.nd rfl (.inl rfl)) (pgs_cons (pg_name (i := 3) sc_ltx.nd rfl (.inl rfl)) (pgs_cons (pg_name (i := 4) sc_ltx.nd rfl (.inl rfl)) pgs_nil))))
      (pss_cons (ps_set (i := 5) sc_ltx.nd rfl (.inl rfl) (show PE _ _ (tM1 (rJn K) _ _) from pe_join pe_str (pe_lc (own := [("_law_elder", 6), ("_law_shared", 7)]) (g := gTup K 2 (gCons (gName 6) (gCons (gName 7) gNil))) (tt := tYes) rfl sc_ltx.nd (pi_tup (pv 2)) (blkOk_by (N := N_ltx) (sc := defScope s_law_text) (by decide +kernel))
        (fun _ _ _ _ _ => pg_tup rfl (pgs_cons (pg_name (i := 6) sc_ltx.nd rfl (.inl rfl)) (pgs_cons (pg_name (i := 7) sc_ltx.nd rfl (.inl rfl)) pgs_nil))) (fun _ _ _ _ _ => pts_nil)
        (fun _ _ _ _ _ => (show PE _ _ (tOp rAddS (tCB rStrI (tCons (tVar 6) tNil)) (tOp (rIxL K) (tLst (tCons (tC (.str Str.empty)) (tCons (tC (.str (txt [42]))) tNil))) (tVar 7))) from by exact pe_op op_add_str (by exact pe_callTy call_str_int rfl B.str (by decide +kernel) (pa_cons (pv 6) pa_nil)) (by exact pe_ix (r := rIxL K) ix_list (by exact pe_lst (pa_cons pe_str (pa_cons pe_str pa_nil))) (pv 7) (fun _ _ => rfl)))))))
      (pss_cons (ps_set (i := 8) sc_ltx.nd rfl (.inl rfl) (pe_lst (pa_cons pe_str (pa_cons (pe_ifExp (pt_cmpR (r := rNeD K) (op_neD (Nat.lt_of_succ_lt (hu64 hr))) (pv 2) (pe_tup pa_nil) (nomark _)) (pv 5) pe_str) (pa_cons (pe_ifExp (pt_cmpR op_ne (pv 3) pe_str (nomark _)) (pv 3) pe_str) (pa_cons (pe_callTy (show CallR _ _ rStrI from call_str_int) rfl B.str (by decide +kernel) (pa_cons (pv 4) pa_nil)) pa_nil))))))
      (pss_one (ps_expr (pe_bm PySem.F.plainAttrs_list PySem.F.slot_list_append PySem.F.type_list_append mt_append (pv 1) (pa_cons (show PE _ _ (tM1 (rJn K) _ _) from pe_join pe_str (pv 8)) pa_nil)))))))
    (pss_one (ps_ret (show PE _ _ (tM1 (rJn K) _ _) from pe_join pe_str (pv 1))))), ?_⟩
  have l7 := V.2.1
  obtain ⟨fad, fxs, rfl, hfa, hfd⟩ := hx.toTup
  have xl : fxs.length = f.length := by rw [hfd.len, List.length_map]
  try dsimp only
  refine sl_asg (ds := []) (el_lst' eas_nil (by decide)) fun l xs H1 nl e1 hl ha => ?_
  dsimp only
  have ex0 : xs = [] := by cases ha; rfl
  subst ex0
  refine ⟨.ref fad, rfl, fad, rfl, ⟨fxs, SqT.of (e1 _ _ hfa)⟩, for_tup (K := K) (a := fad) (xs := fxs) (fun i σ H' => (∃ u2 u3 u4 u5 u8, σ = [some (.ref fad), some (.ref l), u2, u3, u4, u5, none, none, u8]) ∧ Ex H H' ∧ H' l = some (.lst (((f.take i).map rowL).map fun r => L2.V.str (txt r)))) ⟨⟨_, _, _, _, _, rfl⟩, e1, hl⟩ (fun i σ H' _ ⟨_, e, _⟩ => SqT.of (e _ _ hfa)) (fun i y σ H2 hi ⟨⟨u2, u3, u4, u5, u8, es⟩, e2, hl2⟩ => ?_) (fun σ H2 ⟨⟨u2, u3, u4, u5, u8, es⟩, e2, hl2⟩ => ?_)⟩
  · subst es
    obtain ⟨dd, hd1, hy⟩ := hfd.get2 hi
    obtain ⟨k, h1, h2⟩ : ∃ k, f[i]? = some k ∧ dd = encK k := by
      rw [List.getElem?_map] at hd1
      cases z : f[i]? with
      | none => rw [z] at hd1; cases hd1
      | some k => rw [z] at hd1; exact ⟨k, rfl, (Option.some.inj hd1).symm⟩
    subst h2
    have km := List.mem_of_getElem? h1
    obtain ⟨n, hn, o⟩ := V.okAt km
    obtain ⟨ka, kxs, rfl, hka, hkd⟩ := (hy.mono e2).toTup
    obtain ⟨v2, v3, v4, rfl, g2, g3, g4⟩ := hkd.args3
    refine ⟨ka, [v2, v3, v4], rfl, SqT.of hka, rfl, v2, [v3, v4], rfl, v3, [v4], rfl, v4, [], rfl, rfl, ?_⟩
    have few := o.few
    try dsimp only
    refine sd_asg (d := .str (txt (TL.joinL [44] (k.el.map weldL)))) ?_ fun v5 H3 e3 g5 => ?_
    · refine ed_joinT (m := 2) (fun l hl => by obtain ⟨e, _, rfl⟩ := List.mem_map.mp hl; exact weld_len e) (by rw [List.length_map]; omega) (ed_cst rfl) (EL.ed (el_is (el_lcT (as := k.el) (enc := encE) (fun _ => true) (fun e => .str (txt (weldL e))) (ed_var (i := 2) rfl g2) (by omega) (fun _ _ _ => rfl) fun e he z H3 e3 hz => ?_) (by rw [filt_true, List.map_map, List.map_map]; rfl)))
      refine ⟨[some (.ref fad), some (.ref l), some v2, some v3, some v4, u5, some (.int e.1), some (.int e.2), u8], rfl, fun H4 e4 R hR => g_pair (hz.mono e4) fun w1 w2 a1 a2 => ?_, et_yes, fun _ => ?_⟩
      · have b1 := a1.toInt
        have b2 := a2.toInt
        subst b1 b2
        exact hR
      · obtain ⟨i0, i1, i2⟩ := o.els hn e he
        refine ed_addT (a := [48 + e.1.toNat]) (b := if e.2 = 0 then [] else [42]) rfl (by have := weld_len e; omega) (ed_strI i0 i1 (ed_var (i := 6) rfl (.int _))) (ed_ixL (ds := [.str (txt []), .str (txt [42])]) (i := e.2) (EL.ed (el_lst' (eas2 (ed_cst rfl) (ed_cst rfl)) (by show 2 ≤ 100000; decide))) (ed_var (i := 7) rfl (.int _)) ?_)
        rcases i2 with h | h <;> rw [h] <;> rfl
    dsimp only
    refine sl_asg (ds := (rowW k).map encW) ?_ fun p8 xs8 H4 n8 e4 h8 ha8 => ?_
    · refine el_lst' (ds := [encW kindL, encW (nameL k), encW (deedL k), encW (cellL k)]) (eas_cons (ed_cst rfl) (eas_cons ?_ (eas2 ?_ (ed_strI o.cells.1 (by have := o.cells.2; omega) (ed_var (i := 4) rfl (g4.mono e3)))))) (by show 4 ≤ 100000; decide)
      · refine ed_if (b := !decide (k.el.map encE = [])) (et_D (ed_is (ed_neD (K := K) (ed_var (i := 2) rfl (g2.mono e3)) (ed_tup (ds := []) eas_nil (by show 0 ≤ 100000; decide)) (encEs_shapedT k.el) (encEs_shapedT [])) (by rw [eqv_nilT]))) (fun z => ?_) (fun z => ?_)
        · have ne : ¬ k.el = [] := by simpa using z
          show ED _ _ _ (.str (txt (nameL k)))
          unfold nameL
          rw [if_neg ne]
          exact ed_var (i := 5) rfl g5
        · have ne : k.el = [] := by simpa using z
          show ED _ _ _ (.str (txt (nameL k)))
          unfold nameL
          rw [if_pos ne]
          exact ed_cst rfl
      · have g3' : D H3 v3 (.str (txt k.de.cps.toList)) := by rw [txt_tl]; exact g3.mono e3
        refine ed_if (b := !decide (k.de.cps.toList = [])) (et_D (ed_neT (b := []) (ed_var (i := 3) rfl g3') (ed_cst rfl))) (fun z => ?_) (fun z => ?_)
        · have ne : ¬ k.de.cps.toList = [] := by simpa using z
          show ED _ _ _ (.str (txt (deedL k)))
          unfold deedL
          rw [if_neg ne]
          exact ed_var (i := 3) rfl g3'
        · have ne : k.de.cps.toList = [] := by simpa using z
          show ED _ _ _ (.str (txt (deedL k)))
          unfold deedL
          rw [if_pos ne]
          exact ed_cst rfl
    dsimp only
    have hl4 := e4 _ _ (e3 _ _ hl2)
    have hd8 : D H4 (.ref p8) (.list ((rowW k).map encW)) := .lst h8 ha8
    refine ⟨.ref l, rfl, .inl ⟨rfl, _, SqL.of hl4⟩, ?_⟩
    refine (ed_joinT (K := K) (y := 32) (m := 9) (ls := rowW k) (fun l hl => roww_len o hl) (by show 4 * 10 ≤ 100000; decide) (ed_cst rfl) (ed_is (ed_var (σ := [some (.ref fad), some (.ref l), some v2, some v3, some v4, some v5, none, none, some (.ref p8)]) (i := 8) rfl hd8) (by rw [List.map_map]; rfl))) H4 (Ex.refl _) _ fun v H5 e5 hv5 => ?_
    have ev := hv5.toStr
    subst ev
    refine ⟨l, _, _, rfl, rfl, e5 _ _ hl4, sz_lt (by rw [List.length_map, List.length_map, List.length_take]; omega), ⟨_, _, _, _, _, rfl⟩, Ex.mut (((e2.trans e3).trans e4).trans e5) nl, ?_⟩
    rw [upd_same, List.take_add_one, h1]
    show some (HO.lst _) = _
    rw [Option.toList_some, List.map_append, List.map_append]
    rfl
  · subst es
    rw [xl, List.take_length] at hl2
    try dsimp only
    refine sd_ret (d := .str (txt (famL f))) ?_ fun v H3 e3 hv => q v H3 (e2.trans e3) hv
    refine ed_joinT (m := 40) (fun l hl => by obtain ⟨k, hk, rfl⟩ := List.mem_map.mp hl; obtain ⟨n, hn, o⟩ := V.okAt hk; exact row_len o) (by rw [List.length_map]; omega) (ed_cst rfl) (ed_var (i := 1) rfl (.lst hl2 ?_))
    have := DA.ofStrs (H := H2) ((f.map rowL).map txt)
    rw [List.map_map] at this
    rw [List.map_map] at this ⊢
    rw [List.map_map] at this ⊢
    exact this
end
end KS
end
noncomputable section
namespace KS
open PySem PySem.Spec PyProof.Rows L2 Evl
open PySem.Froz (SD sObj addTx tailTx sing runD TxOk add_ok add_x is_str code_update itObj finU finU_step two two_over itEnd tupObj stopObj at_of at_end end_x next_x endHeap two_only get_upd)
/-! ### a set of signs, made of a text with twins -/
theorem two_past {a b : Addr} (hne : a ≠ b) (h : Heap) (X Y Y' : Obj) : two (h.update b (fun _ => Y')) a X b Y = two h a X b Y := by
  rw [← two_over hne h X X Y Y']
  unfold two
  rw [PySem.Froz.upd_upd]
theorem finU_past {s : Shared} {a it : Addr} (hne : a ≠ it) (T : String) (X : SD) (Y : Obj) (n m : Nat) :
    finU { s with heap := s.heap.update it (fun _ => Y), toks := s.toks + 1 + 1 } a T it X n m = finU s a T it X n (m + 1) := by
  unfold finU
  dsimp only
  rw [two_past hne, Heap.size_after_update]
  congr 1
  omega
section
variable {P : Program} {w : World} {A : Around} {E : Value → Shared → Prop} {s : Shared} {R : Result → Shared → Prop}
theorem code_updateD {a it : Addr} (hne : a ≠ it) {T : String} {x : Str} {u : Tok} (hh : A.handled = none) {b : Bool} : ∀ (cs : List Nat) (i : Nat) (D : SD) (l : List Str) (s : Shared), x.cps.toList.drop i = cs →
    s.heap.get? a = some (sObj T D) → s.heap.get? it = some (itObj x u i) → TxOk P w D l → TabOk b D → l.length + cs.length < scanBound →
    (∀ Z : SD, TxOk P w Z ((cs.map sing).foldl addL l) → TabOk b Z → R (.ok (.ret .none)) (finU s a T it Z (i + cs.length) cs.length)) → codeAny (model P w) A (.builtin "set.update.loop" ⟨[.ref a, .ref it], []⟩) R s
  | [], i, D, l, s, hd, ha, hit, F, tb, _, h => by
    refine codeAny_builtin PyProof.Rows.F.entry_set_update_loop ?_
    rw [Around.under_plainId PyProof.Rows.F.plain_set_update_loop _]
    refine wpAny_bind (end_x (u := u) (by exact hh) hit (at_end hd) ?_)
    refine wpAny_pure ?_
    have hq := h D F tb
    unfold finU at hq
    rw [two_only ha] at hq
    exact hq
  | c :: r, i, D, l, s, hd, ha, hit, F, tb, hb, h => by
    obtain ⟨hx, hd2⟩ := at_of hd
    rw [List.length_cons] at hb
    refine codeAny_builtin PyProof.Rows.F.entry_set_update_loop ?_
    rw [Around.under_plainId PyProof.Rows.F.plain_set_update_loop _]
    refine wpAny_bind (next_x (u := u) hit hx ?_)
    refine wpAny_bind (wpAny_holding ?_)
    unfold setAdd
    refine wpAny_holding ?_
    refine wpAny_bind ((strKind P w).pyHash (k := sing c) (is_str _ _) ?_)
    have ha1 : (s.heap.update it (fun _ => itObj x u (i + 1))).get? a = some (sObj T D) := PySem.Heap.get?_update_of_ne _ (Ne.symm hne) ha
    have hit1 : (s.heap.update it (fun _ => itObj x u (i + 1))).get? it = some (itObj x u (i + 1)) := get_upd _ hit rfl
    have ei : i + 1 + r.length = i + (c :: r).length := by rw [List.length_cons]; omega
    by_cases hc : sing c ∈ l
    · refine add_old (s := { s with heap := s.heap.update it (fun _ => itObj x u (i + 1)), toks := s.toks + 1 + 1 }) ha1 F hc (by omega) ?_
      refine wpAny_pure ⟨plainId_quiet PyProof.Rows.F.plain_set_update_loop _, code_updateD hne hh r (i + 1) D l _ hd2 ha1 hit1 F tb (by omega) fun Z t1 t2 => ?_⟩
      have hq := h Z (by rw [List.map_cons, List.foldl_cons, addL_old hc]; exact t1) t2
      rw [← ei] at hq
      rw [finU_past hne]
      exact hq
    · refine add_x (l := l) (D := D) (s := { s with heap := s.heap.update it (fun _ => itObj x u (i + 1)), toks := s.toks + 1 + 1 }) ha1 F hc (by omega) ?_
      have ha2 := get_upd (sObj T (addTx (hashStr w (sing c)) (.str (sing c) s.toks) D)) ha1 rfl
      have hit2 : ((s.heap.update it (fun _ => itObj x u (i + 1))).update a (fun _ => sObj T (addTx (hashStr w (sing c)) (.str (sing c) s.toks) D))).get? it = some (itObj x u (i + 1)) := PySem.Heap.get?_update_of_ne _ hne hit1
      refine wpAny_pure ⟨plainId_quiet PyProof.Rows.F.plain_set_update_loop _, code_updateD hne hh r (i + 1) _ (sing c :: l) _ hd2 ha2 hit2 (add_ok s.toks F) (tab_add _ _ tb) (by rw [List.length_cons]; omega) fun Z t1 t2 => ?_⟩
      have hq := h Z (by rw [List.map_cons, List.foldl_cons, addL_new hc]; exact t1) t2
      rw [← ei] at hq
      exact (finU_step hne T Z _ _ _ _).symm ▸ hq
set_option maxHeartbeats 8000000 in
theorem call_set_textD {x : Str} {u : Tok} {Q : Value → Shared → Prop} (quiet : A.handled = none) (asc : x.cps.all (· < 128) = true) (few : x.cps.toList.length ≤ 3000) (fewD : ((x.cps.toList.map sing).foldl addL []).length < 64)
    (fin : ∀ (h' : Heap) (tk : Nat), STx P w h' s.heap.objs.size ((x.cps.toList.map sing).foldl addL []) → (∀ b o, s.heap.get? b = some o → h'.get? b = some o) → Q (.ref s.heap.objs.size) { s with heap := h', toks := tk }) :
    wpAny (model P w) A (call (.type "set") [.str x u]) Q E s := by
  let lb : Bool := !w.params.followText "set-order"
  let Z0 : SD := (#[], 0, .fresh 0 0 lb)
  obtain ⟨c, tl, hmro⟩ := F.called_set.mro
  have madeF := F.called_set.made
  have subF := F.called_set.sub
  refine wpAny_call (codeAny_of_tree ?_)
  show wpAny _ _ (callAny (.type "set") ⟨[.str x u], []⟩) _ _ s
  refine wpAny_pure ⟨Code.quiet_builtin _ (by decide +kernel), codeAny_builtin F.entry_type_call ?_⟩
  rw [Around.under_plain (weight_type_call_type "set" [.str x u] []) rfl]
  have n1 := F.called_set.notType
  have n2 := F.called_set.canCreate
  have n3 := F.typeCall_set_1 (.str x u)
  repeat (any_goals (first | assumption | wp_step))
  refine codeAny_mono (code_set_led1 (.str x u) (E := E) (Q₁ := fun ob t => ob = .ref s.heap.objs.size ∧ t = { s with heap := s.heap.push (sObj "set" Z0) }) ⟨rfl, rfl⟩) fun r t hr => ?_
  cases r with
  | error e => exact hr
  | ok fl =>
    cases fl with
    | ret ob =>
      obtain ⟨rfl, rfl⟩ := hr
      have here : (s.heap.push (sObj "set" Z0)).get? s.heap.objs.size = some (sObj "set" Z0) := Heap.get?_push_size _ rfl
      have isSet : Shared.TypeIs { s with heap := s.heap.push (sObj "set" Z0) } (.ref s.heap.objs.size) "set" := ⟨_, here, rfl⟩
      have i1 := F.called_set.init.lookup
      have i2 := F.called_set.init.bind (.ref s.heap.objs.size)
      repeat (any_goals (first | assumption | wp_step))
      refine codeAny_mono (codeAny_call_builtin (R := wants (fun r t₂ => r = .none ∧ ∃ h' tk, t₂ = { s with heap := h', toks := tk } ∧ STx P w h' s.heap.objs.size ((x.cps.toList.map sing).foldl addL []) ∧
          (∀ b o, s.heap.get? b = some o → h'.get? b = some o)) E) F.called_set.init.plain F.entry_set_init (check_set_init_1 isSet ?_)) fun r₂ t₂ hr₂ => ?_
      · have k1 := F.sub_str_set
        have k2 := F.sub_str_frozenset
        have k3 : (Value.type "str" == Value.type "dict") = false := by decide
        unfold Builtin.«set.__init__» noKeywords Builtin.Frozenset.updateFrom
        generalize hPI : pyIter = PI
        wp_walk
        subst hPI
        have far : s.heap.objs.size ≠ (s.heap.push (sObj "set" Z0)).objs.size := by
          rw [Heap.size_push]; exact Nat.ne_of_lt (Nat.lt_succ_self _)
        have t0 : TxOk P w Z0 [] := TxOk.nil (by rfl)
        have b0 : TabOk lb Z0 := ⟨List.Pairwise.nil, rfl⟩
        have q3 : A.in1.in1.in1.handled = none := by simp [quiet]
        refine wpAny_pyIter_ascii asc ?_
        refine wpAny_bind (wpAny_runValue ?_)
        refine code_updateD (T := "set") (x := x) (u := u) (l := []) (b := lb) far (by first | exact q3 | simp [quiet]) x.cps.toList 0 Z0 _ rfl (pushed here) (Heap.get?_push_size _ rfl) t0 b0 (by rw [List.length_nil]; unfold scanBound; omega) fun Z1 t1 b1 => ?_
        show wpAny _ _ (pure ()) _ _ _
        refine wpAny_pure ?_
        show wpAny _ _ (ret Value.none) _ _ _
        refine wpAny_pure ⟨rfl, _, _, rfl, ⟨Z1, ?_, t1, fewD, b1⟩, fun b o e => ?_⟩
        · refine pushed (pushed ?_)
          exact Heap.get?_update_of_ne _ (Ne.symm far) (Froz.get_upd _ (pushed here) rfl)
        · have lt := Heap.lt_size e
          have ne1 : s.heap.objs.size ≠ b := Nat.ne_of_gt lt
          have ne2 : (s.heap.push (sObj "set" Z0)).objs.size ≠ b := by
            rw [Heap.size_push]; exact Nat.ne_of_gt (Nat.lt_succ_of_lt lt)
          refine pushed (pushed ?_)
          exact Heap.get?_update_of_ne _ ne2 (Heap.get?_update_of_ne _ ne1 (pushed (pushed e)))
      · cases r₂ with
        | error e => exact hr₂
        | ok fl₂ =>
          cases fl₂ with
          | ret r =>
            obtain ⟨rfl, h', tk, rfl, z1, z2⟩ := hr₂
            repeat (any_goals (first | assumption | wp_step))
            exact fin _ _ z1 z2
          | _ => exact hr₂.elim
    | _ => exact hr.elim
end
/-! ### the rule -/
def rSetTxD (P : Program) (w : World) : List V → Hp → VK → Prop := fun xs H Q => ∃ x : Str, xs = [.str x] ∧ x.cps.all (· < 128) = true ∧ x.cps.toList.length ≤ 3000 ∧ ((x.cps.toList.map sing).foldl addL []).length < 64 ∧
  ∀ p, H p = none → Q (.ref p) (upd H p (SetTx P w p ((x.cps.toList.map sing).foldl addL [])))
theorem cr_setTxD {X : Cx} (hc : X.calm = true) : CallR X (.type "set") (rSetTxD X.prog X.w) := by
  intro pins s σ H xs us Q I r h
  obtain ⟨x, rfl, asc, few, fewD, q⟩ := h
  cases r with
  | cons r1 r2 =>
    cases r2
    obtain ⟨t, rfl⟩ := r1
    refine call_set_textD (I.ok.hd hc) asc few fewD fun h' tk R keep => ?_
    have ob : ObjOk X.prog X.w (upd H s.heap.objs.size (SetTx X.prog X.w s.heap.objs.size ((x.cps.toList.map sing).foldl addL []))) h' s.heap.objs.size (SetTx X.prog X.w s.heap.objs.size ((x.cps.toList.map sing).foldl addL [])) := by
      obtain ⟨Z, e, _⟩ := id R
      exact ⟨R, ⟨_, e⟩, fun h1 h2 p k => stx_at p k⟩
    exact ⟨.ref _, _, I.laid (t' := tk) keep (Nat.le_refl _) ob, rfl, q _ (I.hok.fresh (Nat.le_refl _))⟩
/-- the signs of a text, each once, rising -/
theorem foldA_singsX (l : List Nat) : ∃ m : List Nat, (l.map sing).foldl addL [] = m.map sing ∧ m.Nodup ∧ ∀ c, c ∈ m ↔ c ∈ l := by
  obtain ⟨m, e, h⟩ := map_sing_of (ys := (l.map sing).foldl addL []) (l := l) fun y hy => by
    rcases (mem_foldA (l.map sing) [] y).mp hy with h | h
    · cases h
    · obtain ⟨c, hc, e⟩ := List.mem_map.mp h
      exact ⟨c, hc, e.symm⟩
  have nd := foldA_nodup (l.map sing) [] List.nodup_nil
  rw [e] at nd
  refine ⟨m, e, (List.pairwise_map.mp nd).imp fun h e => h (congrArg sing e), fun c => ⟨h c, fun hc => ?_⟩⟩
  have : sing c ∈ (l.map sing).foldl addL [] := (mem_foldA _ _ _).mpr (.inr (List.mem_map.mpr ⟨c, hc, rfl⟩))
  rw [e] at this
  obtain ⟨d, hd, e2⟩ := List.mem_map.mp this
  rw [← sing_inj e2]
  exact hd
theorem sorted_sgs {l : List Nat} {ys : List Str} (nd : l.Nodup) (hs : sortedS ys = true) (hp : ys.Perm (l.map sing)) : ∃ m : List Nat, ys = m.map sing ∧ m.Pairwise (· < ·) ∧ ∀ c, c ∈ m ↔ c ∈ l := by
  obtain ⟨m, e, h⟩ := map_sing_of (ys := ys) (l := l) fun y hy => by
    obtain ⟨c, hc, e⟩ := List.mem_map.mp (hp.mem_iff.mp hy)
    exact ⟨c, hc, e.symm⟩
  subst e
  have hm : ∀ c, c ∈ m ↔ c ∈ l := fun c => ⟨h c, fun hc => by
    obtain ⟨d, hd, e⟩ := List.mem_map.mp (hp.mem_iff.mpr (List.mem_map.mpr ⟨c, hc, rfl⟩))
    rw [← sing_inj e]; exact hd⟩
  have ndm : m.Nodup := by
    have q : (m.map sing).Nodup := hp.nodup_iff.mpr (List.pairwise_map.mpr (nd.imp fun h e => h (sing_inj e)))
    exact (List.pairwise_map.mp q).imp fun h e => h (congrArg sing e)
  have le : m.Pairwise (· ≤ ·) := by
    cases m with
    | nil => exact .nil
    | cons x m => exact sorted_sings x m (by simpa [sortedS] using hs)
  refine ⟨m, rfl, (le.and ndm).imp fun ⟨h1, h2⟩ => ?_, hm⟩
  omega
/-- two rising lists of the same numbers -/
theorem rising_eq : ∀ {a b : List Nat}, a.Pairwise (· < ·) → b.Pairwise (· < ·) → (∀ c, c ∈ a ↔ c ∈ b) → a = b
  | [], [], _, _, _ => rfl
  | [], y :: b, _, _, h => by have := (h y).mpr List.mem_cons_self; cases this
  | x :: a, [], _, _, h => by have := (h x).mp List.mem_cons_self; cases this
  | x :: a, y :: b, ha, hb, h => by
    rw [List.pairwise_cons] at ha hb
    have e : x = y := by
      rcases List.mem_cons.mp ((h x).mp List.mem_cons_self) with z | z
      · exact z
      · rcases List.mem_cons.mp ((h y).mpr List.mem_cons_self) with z2 | z2
        · exact z2.symm
        · have := hb.1 x z; have := ha.1 y z2; omega
    subst e
    rw [rising_eq ha.2 hb.2 fun c => ⟨fun hc => ?_, fun hc => ?_⟩]
    · rcases List.mem_cons.mp ((h c).mp (List.mem_cons_of_mem _ hc)) with z | z
      · have := ha.1 c hc; omega
      · exact z
    · rcases List.mem_cons.mp ((h c).mpr (List.mem_cons_of_mem _ hc)) with z | z
      · have := hb.1 c hc; omega
      · exact z
def rJoL (K : PySem.W.Frag) : V → List V → Hp → VK → Prop := fun x xs H Q => ∃ a p, ∃ ys : List Str, x = .str a ∧ xs = [.ref p] ∧ (SqL K H p (ys.map V.str) ∨ SqT K H p (ys.map V.str)) ∧ (ys.map (·.length)).sum + ys.length * a.length ≤ 16777216 ∧ Q (.str (Txt.join a ys)) H
/-- "".join(sorted(set(text))), whether it is the text -/
theorem ed_sortsetD {P : Program} {w : World} {K : PySem.W.Frag} {σ : L2.St} {H : Hp} {te : TE} {l : List Nat} (h : ED te σ H (.str (txt l))) (asc : ∀ c ∈ l, c < 128) (few : l.length ≤ 3000) (fewD : ∀ m : List Nat, m.Nodup → (∀ c ∈ m, c ∈ l) → m.length < 64) :
    ∃ m : List Nat, m.Pairwise (· < ·) ∧ (∀ c, c ∈ m ↔ c ∈ l) ∧ ED (tM1 (rJoL K) (tC (.str Str.empty)) (tCB (rSortTx P w) (tCons (tCB (rSetTxD P w) (tCons te tNil)) tNil))) σ H (.str (txt m)) := by
  obtain ⟨k, ek, ndk, hk⟩ := foldA_singsX l
  have lk := fewD k ndk fun c hc => (hk c).mp hc
  obtain ⟨ys, hys⟩ : ∃ m : List Nat, m.Pairwise (· < ·) ∧ ∀ c, c ∈ m ↔ c ∈ l := by
    have ex : ∀ k : List Nat, k.Nodup → ∃ m : List Nat, m.Pairwise (· < ·) ∧ ∀ c, c ∈ m ↔ c ∈ k := fun k nk => by
      refine ⟨k.mergeSort (fun a b => decide (a ≤ b)), ?_, fun c => (List.mergeSort_perm k _).mem_iff⟩
      have s1 := List.pairwise_mergeSort (le := fun a b : Nat => decide (a ≤ b)) (fun a b c h1 h2 => by simp only [decide_eq_true_eq] at *; omega) (fun a b => by simp only [Bool.or_eq_true, decide_eq_true_eq]; omega) k
      have s2 : (k.mergeSort (fun a b => decide (a ≤ b))).Nodup := (List.mergeSort_perm k _).nodup_iff.mpr nk
      refine (s1.and s2).imp fun ⟨h1, h2⟩ => ?_
      have := of_decide_eq_true h1
      omega
    obtain ⟨m, h1, h2⟩ := ex k ndk
    exact ⟨m, h1, fun c => (h2 c).trans (hk c)⟩
  refine ⟨ys, hys.1, hys.2, fun H1 e Q q => ⟨⟨_, rfl⟩, h H1 e _ fun x H2 e2 hx => ?_⟩⟩
  have ex := hx.toStr
  subst ex
  have lk' : (l.map sing).foldl addL [] = k.map sing := ek
  refine ⟨txt l, rfl, ?_, few, ?_, fun p1 n1 => ⟨p1, _, rfl, upd_same, foldA_nodup _ _ List.nodup_nil, fun zs p2 hs hp n2 => ?_⟩⟩
  · rw [← Array.all_toList, List.all_eq_true]
    exact fun c hc => decide_eq_true (asc c hc)
  · show ((l.map sing).foldl addL []).length < 64
    rw [lk', List.length_map]; exact lk
  · have hp' : zs.Perm (k.map sing) := by rw [← lk']; exact hp
    obtain ⟨m, rfl, hr, hm⟩ := sorted_sgs ndk hs hp'
    have em : m = ys := rising_eq hr hys.1 fun c => ((hm c).trans (hk c)).trans (hys.2 c).symm
    subst em
    refine ⟨_, p2, m.map sing, rfl, rfl, .inl (SqL.of upd_same), ?_, ?_⟩
    · have e4 : (Str.empty).length = 0 := rfl
      have lm : m.length < 64 := fewD m (hr.imp fun h => Nat.ne_of_lt h) fun c hc => (hys.2 c).mp hc
      rw [e4, Nat.mul_zero, Nat.add_zero, sing_lens]
      omega
    · rw [join_sing]
      exact q _ _ ((e2.trans (Ex.new n1)).trans (Ex.new n2)) (.str _)
end KS
end
noncomputable section
namespace KS
open PySem PySem.Spec PyProof.Rows L2 Evl
open PySem.Froz (sing)
/-! ### what a word tells -/
def plainL (w : List Nat) : List Nat := if w.drop (w.length - 1) = [42] then w.dropLast else w
def digW : List (List Nat) := [[48], [49], [50], [51], [52], [53], [54], [55], [56], [57]]
theorem digW_iff {c : Nat} : [c] ∈ digW ↔ c ∈ digs := by simp [digW, digs]
theorem digW_len : ∀ x ∈ digW, x.length = 1 := by decide
theorem eld_plain (w : List Nat) : eldB w = decide (plainL w ∈ digW) := by
  match w with
  | [] => decide
  | [a] =>
    show (decide (a ∈ digs) || false) = decide ((if [a] = [42] then [] else [a]) ∈ digW)
    rw [Bool.or_false]
    by_cases h : a = 42
    · subst h; decide
    · rw [if_neg (by simpa using h)]
      exact decide_eq_decide.mpr digW_iff.symm
  | [a, b] =>
    show (false || (decide (a ∈ digs) && decide ([b] = [42]))) = decide ((if [b] = [42] then [a] else [a, b]) ∈ digW)
    rw [Bool.false_or]
    by_cases h : [b] = [42]
    · rw [if_pos h, decide_eq_true h, Bool.and_true]
      exact decide_eq_decide.mpr digW_iff.symm
    · rw [if_neg h, decide_eq_false h, Bool.and_false, eq_comm]
      exact decide_eq_false fun z => by have := digW_len _ z; cases this
  | a :: b :: c :: r =>
    show false = _
    rw [eq_comm]
    refine decide_eq_false fun z => ?_
    have h1 := digW_len _ z
    unfold plainL at h1
    split at h1
    · rw [List.length_dropLast] at h1
      simp only [List.length_cons] at h1
      omega
    · simp only [List.length_cons] at h1
      omega
theorem eld_val {w : List Nat} (h : eldB w = true) : ∃ i : Int, 0 ≤ i ∧ i < 10 ∧ plainL w = [48 + i.toNat] ∧ eldV w = (i, (w.length : Int) - 1) := by
  obtain ⟨⟨i, s⟩, ⟨h0, h1, h2⟩, rfl, ev⟩ := eld_inv h
  dsimp only at h0 h1 h2
  refine ⟨i, h0, h1, ?_, ?_⟩
  · rcases h2 with rfl | rfl
    · have hd : ¬ (weldL (i, 0)).drop ((weldL (i, 0)).length - 1) = [42] := by
        show ¬ [48 + i.toNat] = [42]
        simp; omega
      unfold plainL
      rw [if_neg hd]; rfl
    · have hd : (weldL (i, 1)).drop ((weldL (i, 1)).length - 1) = [42] := rfl
      unfold plainL
      rw [if_pos hd]; rfl
  · rw [ev]
    rcases h2 with rfl | rfl <;> rfl
def elV (l : List Nat) : List (Int × Int) := if l = [45] then [] else (splitL 44 l).map eldV
def lelD (l : List Nat) : PyData := if eldsB l = true then .tuple ((elV l).map encE) else .none
def lrowD (ws : List (List Nat)) : PyData := if rowB ws = true then encK (rdK ws) else .none
def rNotInDT2 (K : PySem.W.Frag) : R2 := fun x y H Q => ∃ d ds, Dp K H x d ∧ Dp K H y (.tuple ds) ∧ SeqAt.shaped d = true ∧ SeqAt.shaped (.tuple ds) = true ∧ Q (.bl (!ds.any fun z => PyData.eqv z d)) H
theorem op_notInDT2 {X : Cx} (hu : X.A.units + 65 < cLine) : OpR X (compareOp .NotIn) (rNotInDT2 X.K) := by
  intro pins s σ H x y v u Q I rx ry h
  obtain ⟨d, ds, hd, he, sd, se, q⟩ := h
  obtain ⟨as, r1⟩ := Dp.reads I d x v hd rx
  obtain ⟨bs, r2⟩ := Dp.reads I (.tuple ds) y u he ry
  exact SeqAt.notIn_tuple_reads r2 r1 (SeqAt.canLay_of_shaped se) (SeqAt.canLay_of_shaped sd) (room_in_shaped sd hu) ⟨.bl _, H, I, rfl, q⟩
section
variable {K : PySem.W.Frag} {σ : L2.St} {H : Hp} {ta tb : TE}
theorem ed_notInDT2 {d : PyData} {ds : List PyData} (ha : ED ta σ H d) (hb : ED tb σ H (.tuple ds)) (s1 : SeqAt.shaped d = true) (s2 : SeqAt.shaped (.tuple ds) = true) : ED (tOp (rNotInDT2 K) ta tb) σ H (.bool (!ds.any fun z => PyData.eqv z d)) := ed_bin' ha hb fun x y H1 _ hx hy Q q =>
  ⟨d, ds, hx.dp, hy.dp, s1, s2, q _ H1 (Ex.refl H1) (.bl _)⟩
theorem ed_notInS {c : Nat} {z : Str} (ha : ED ta σ H (.str ⟨#[c]⟩)) (hb : ED tb σ H (.str z)) : ED (tOp rNotInS ta tb) σ H (.bool (!decide (c ∈ z.cps.toList))) := ed_bin' ha hb fun x y H1 _ hx hy Q q =>
  ⟨c, z, hx.toStr, hy.toStr, q _ H1 (Ex.refl H1) (.bl _)⟩
end
theorem asc_digW : Ascs digW := by
  intro r hr c hc
  simp only [digW, List.mem_cons, List.not_mem_nil, or_false] at hr
  rcases hr with rfl | rfl | rfl | rfl | rfl | rfl | rfl | rfl | rfl | rfl <;> (rw [List.mem_singleton] at hc; subst hc; decide)
theorem Asc.plain {w : List Nat} (h : Asc w) : Asc (plainL w) := fun c hc => by
  unfold plainL at hc
  split at hc
  · exact h c (List.dropLast_sublist w |>.subset hc)
  · exact h c hc
section
variable {P : Program} {w : World} {K : PySem.W.Frag} {mg : Str → Option Value} {base : Heap}
/-! ### _law_elders -/
abbrev N_lel : List Str := ["_law_word", "_law_found", "_law_one", "_law_plain"]
theorem sc_lel : FnScope N_lel ["_law_word"] (defScope s_law_elders) := ⟨rfl, rfl, rfl, by decide +kernel, rfl, by decide +kernel, by decide +kernel⟩
def R_lel : List PyData → PyData → Prop := fun ds d => ∃ l : List Nat, ds = [encW l] ∧ l.length ≤ 10000 ∧ Asc l ∧ d = lelD l
theorem ok_lel (B : Bt mg) (d : Df K mg "_law_elders" s_law_elders ["_law_word"]) : Cl P w K mg base "_law_elders" ["_law_word"] 1 (spD R_lel) := by
  refine d.ok sc_lel (spD_len (by rintro _ _ ⟨_, rfl, _⟩; rfl)) (fun fa cdv A outer s H vs Q E hr h => ?_)
  obtain ⟨ds, dd, hv, ⟨l, rfl, lz, al, rfl⟩, q⟩ := h
  obtain ⟨x, rfl, hx⟩ := hv.args1
  refine ⟨_, pss_cons (ps_if (pt_cmpR op_eq (pv 0) pe_str (nomark _)) (pss_one (ps_ret (pe_tup pa_nil))) pss_nil)
    (pss_cons (ps_set (i := 1) sc_lel.nd rfl (.inl rfl) (pe_lst pa_nil))
    (pss_cons (ps_for PassesOwn.never rfl (pi_list (show PE _ _ (tM1 rSpl _ _) from pe_split (pv 0) pe_str)) (pg_name (i := 2) sc_lel.nd rfl (.inl rfl))
      (pss_cons (ps_set (i := 3) sc_lel.nd rfl (.inl rfl) (pe_ifExp (pt_cmpR op_eq (pe_slice sl_str (pv 2) (po_some (pe_un un_neg pe_int)) po_none) pe_str (nomark _)) (pe_slice sl_str (pv 2) po_none (po_some (pe_un un_neg pe_int))) (pv 2)))
      (pss_cons (ps_if (pt_cmpR (r := rNotInDT2 K) (op_notInDT2 (hu64 hr)) (pv 3) (pe_tup (pa_cons pe_str (pa_cons pe_str (pa_cons pe_str (pa_cons pe_str (pa_cons pe_str (pa_cons pe_str (pa_cons pe_str (pa_cons pe_str (pa_cons pe_str (pa_cons pe_str pa_nil))))))))))) rfl) (pss_one (ps_ret pe_non)) pss_nil)
      (pss_one (ps_expr (pe_bm PySem.F.plainAttrs_list PySem.F.slot_list_append PySem.F.type_list_append mt_append (pv 1) (pa_cons (pe_tup (pa_cons (pe_callTy (show CallR _ _ rIntS from call_int_str) rfl B.int boot_int (pa_cons (pv 3) pa_nil)) (pa_cons (pe_op op_sub (pe_callB call_len rfl B.len PySem.boot_len (pa_cons (pv 2) pa_nil)) (pe_callB call_len rfl B.len PySem.boot_len (pa_cons (pv 3) pa_nil))) pa_nil))) pa_nil)))))))
    (pss_one (ps_ret (pe_callTy (show CallR _ _ (rTupOf K) from call_tuple_of) rfl B.tuple boot_tuple (pa_cons (pv 1) pa_nil)))))), ?_⟩
  try dsimp only
  have e0 : ED (tVar 0) (start N_lel [x]) H (.str (txt l)) := ed_var (i := 0) rfl hx
  refine sd_if (b := decide (l = [45])) (et_D (ed_eqT e0 (ed_cst rfl))) (fun z H1 e1 => ?_) (fun z H1 e1 => ?_)
  · have el := of_decide_eq_true z
    subst el
    try dsimp only
    refine sd_ret (d := .tuple []) (ed_tup (ds := []) eas_nil (by show 0 ≤ 100000; decide)) fun v H2 e2 hv => q v H2 (e1.trans e2) hv
  · have nl : ¬ l = [45] := of_decide_eq_false z
    refine st_next ?_
    try dsimp only
    refine sl_asg (ds := []) (el_lst' eas_nil (by decide)) fun p xs H2 np e2 hp ha => ?_
    try dsimp only
    have xs0 : xs = [] := by cases ha; rfl
    subst xs0
    have e12 := e1.trans e2
    have np0 : H p = none := fresh_back e1 np
    have ev : elV l = (splitL 44 l).map eldV := by unfold elV; rw [if_neg nl]
    have eb : eldsB l = (splitL 44 l).all eldB := by unfold eldsB; rw [decide_eq_false nl, Bool.false_or]
    have as := al.split (s := 44)
    have sn := splitL_len 44 l
    have sp := splitL_part 44 l
    refine for_elLr (K := K) (r := p) (zs := []) (as := splitL 44 l) (enc := encW) hp (fun _ _ => rfl) (el_splitW (by decide) (by omega) (ed_var (i := 0) rfl (hx.mono e12)) (ed_cst rfl)) (fun H3 i σ H' => (∃ u2 u3, σ = [some x, some (.ref p), u2, u3]) ∧ But p H3 H' ∧ (∀ j r, j < i → (splitL 44 l)[j]? = some r → eldB r = true) ∧ ∃ acc, H' p = some (.lst acc) ∧ DA H' acc (((splitL 44 l).take i).map fun r => encE (eldV r)))
      (fun H3 e3 => ⟨⟨_, _, rfl⟩, But.refl _ _, fun j r z => absurd z (Nat.not_lt_zero _), [], e3 _ _ hp, .nil⟩) (fun H3 i σ' H' _ ⟨_, b, _⟩ a o na ho => b a o na ho) (fun H3 i r v σ H' e3 hi ⟨⟨u2, u3, es⟩, bt, all_, acc, hacc, hda⟩ hv => ?_) (fun H3 σ H' e3 ⟨⟨u2, u3, es⟩, bt, all_, acc, hacc, hda⟩ => ?_)
    · subst es
      have rm := List.mem_of_getElem? hi
      have rl : r.length ≤ 10000 := Nat.le_trans (sp r rm) lz
      have ra := as r rm
      try dsimp only
      have hr2 : ED (tVar 2) [some x, some (.ref p), some v, u3] H' (.str (txt r)) := ed_var (i := 2) rfl hv
      refine sd_asg (d := .str (txt (plainL r))) (ed_if (b := decide (r.drop (r.length - 1) = [42])) (et_D (ed_eqT (ed_cutLast rl hr2 ed_m1) (ed_cst rfl))) (fun z2 => ?_) (fun z2 => ?_)) fun v3 H4 e4 h3 => ?_
      · unfold plainL
        rw [if_pos (of_decide_eq_true z2)]
        exact ed_cutInit rl hr2 ed_m1
      · unfold plainL
        rw [if_neg (of_decide_eq_false z2)]
        exact hr2
      · try dsimp only
        have tst : ED (tOp (rNotInDT2 K) (tVar 3) (tTup (tCons (tC (.str (txt [48]))) (tCons (tC (.str (txt [49]))) (tCons (tC (.str (txt [50]))) (tCons (tC (.str (txt [51]))) (tCons (tC (.str (txt [52]))) (tCons (tC (.str (txt [53]))) (tCons (tC (.str (txt [54]))) (tCons (tC (.str (txt [55]))) (tCons (tC (.str (txt [56]))) (tCons (tC (.str (txt [57]))) tNil)))))))))))) [some x, some (.ref p), some v, some v3] H4 (.bool (!eldB r)) := by
          refine ed_is (ed_notInDT2 (K := K) (d := encW (plainL r)) (ds := digW.map encW) (ed_var (i := 3) rfl h3) (ed_tup (ds := digW.map encW) (eas_cons (ed_cst rfl) (eas_cons (ed_cst rfl) (eas_cons (ed_cst rfl) (eas_cons (ed_cst rfl) (eas_cons (ed_cst rfl) (eas_cons (ed_cst rfl) (eas_cons (ed_cst rfl) (eas_cons (ed_cst rfl) (eas2 (ed_cst rfl) (ed_cst rfl)))))))))) (by show 10 ≤ 100000; decide)) (shaped_W ra.plain) (shaped_Ws (b := false) asc_digW)) ?_
          rw [any_W, eld_plain]
        refine sd_if (b := !eldB r) (et_D tst) (fun hb H5 e5 => ?_) (fun hb H5 e5 => ?_)
        · have hb' : eldB r = false := by simpa using hb
          try dsimp only
          have ee : lelD l = .none := by
            unfold lelD
            rw [if_neg]
            rw [eb]
            intro z3
            rw [List.all_eq_true] at z3
            rw [z3 r rm] at hb'
            cases hb'
          refine sd_ret (d := .none) ed_cn fun v6 H6 e6 hv6 => ?_
          rw [ee] at q
          refine q v6 H6 (fun a o ho => ?_) hv6
          have na : a ≠ p := fun z => by rw [z, np0] at ho; cases ho
          exact e6 _ _ (e5 _ _ (e4 _ _ (bt a o na (e3 _ _ (e12 _ _ ho)))))
        · have hb' : eldB r = true := by simpa using hb
          try dsimp only
          obtain ⟨i0, i1, i2, pe, vv⟩ := eld_val hb'
          have hacc5 := e5 _ _ (e4 _ _ hacc)
          have h35 := h3.mono e5
          refine ⟨.ref p, rfl, .inl ⟨rfl, _, SqL.of hacc5⟩, ?_⟩
          rw [pe] at h35
          refine (ed_tup (σ := [some x, some (.ref p), some v, some v3]) (ds := [.int i0, .int ((r.length : Int) - 1)]) (eas2 (ed_intS i1 i2 (ed_var (i := 3) rfl h35)) (ed_I0 (d := .int ((r.length : Int) - 1)) (i := (r.length : Int)) (j := 1) (ed_lenTx rl (ed_var (i := 2) rfl ((hv.mono e4).mono e5))) (ed_is (ed_lenTx (l := [48 + i0.toNat]) (by show 1 ≤ 10000; decide) (ed_var (i := 3) rfl h35)) rfl) fun H => .int _)) (by show 2 ≤ 100000; decide)) H5 (Ex.refl _) _ fun v6 H6 e6 hv6 => ?_
          have hacc6 := e6 _ _ hacc5
          have iN : i < (splitL 44 l).length := (List.getElem?_eq_some_iff.mp hi).1
          refine ⟨p, acc, v6, rfl, rfl, hacc6, sz_lt (by rw [hda.len, List.length_map, List.length_take]; omega), ⟨_, _, rfl⟩, bt.trans ((But.ex ((e4.trans e5).trans e6)).trans But.upd), fun j r' hj hp' => ?_, acc ++ [v6], upd_same, ?_⟩
          · rcases Nat.lt_succ_iff_lt_or_eq.mp hj with z2 | z2
            · exact all_ j r' z2 hp'
            · subst z2
              rw [hi] at hp'
              cases hp'
              exact hb'
          · have tk := tu_upd (ys := acc ++ [v6]) hacc6
            rw [List.take_add_one, hi, Option.toList_some, List.map_append]
            refine DA.append (DA.keep tk (flat_map (fun _ => rfl) _) (((hda.mono e4).mono e5).mono e6)) (DA.one (D.keep tk rfl ?_))
            show D H6 v6 (encE (eldV r))
            rw [vv]
            exact hv6
    · subst es
      rw [List.take_length] at hda
      try dsimp only
      have eT : lelD l = .tuple (((splitL 44 l).map eldV).map encE) := by
        unfold lelD
        rw [if_pos, ev]
        rw [eb, List.all_eq_true]
        intro r hr
        obtain ⟨j, hj⟩ := List.getElem?_of_mem hr
        exact all_ j r (List.getElem?_eq_some_iff.mp hj).1 hj
      have hL : D H' (.ref p) (.list (((splitL 44 l).map eldV).map encE)) := by
        rw [List.map_map]; exact .lst hacc hda
      rw [eT] at q
      refine sd_ret (ed_tupOf (K := K) (ed_var (i := 1) rfl hL)) fun v6 H6 e6 hv6 => q v6 H6 (fun a o ho => ?_) hv6
      have na : a ≠ p := fun z => by rw [z, np0] at ho; cases ho
      exact e6 _ _ (bt a o na (e3 _ _ (e12 _ _ ho)))
/-! ### _law_row -/
abbrev N_lro : List Str := ["_law_words", "_law_elders_here", "_law_deeds", "_law_one"]
theorem sc_lro : FnScope N_lro ["_law_words"] (defScope s_law_row) := ⟨rfl, rfl, rfl, by decide +kernel, rfl, by decide +kernel, by decide +kernel⟩
def R_lro : List PyData → PyData → Prop := fun ds d => ∃ ws : List (List Nat), ds = [encWs ws] ∧ ws.length ≤ 20000 ∧ (∀ r ∈ ws, r.length ≤ 10000) ∧ Ascs ws ∧ d = lrowD ws
theorem deed_of (c : List Nat) : (decide (c = []) || !((if c = [45] then [] else c).all fun z => decide (z ∈ abc))) = !deedB c := by
  unfold deedB
  by_cases h : c = [45]
  · subst h; rfl
  · rw [if_neg h, decide_eq_false h, Bool.false_or]
    by_cases h0 : c = []
    · subst h0; rfl
    · rw [decide_eq_false h0, Bool.false_or, Bool.not_false, Bool.true_and]
theorem ok_lro (B : Bt mg) (d : Df K mg "_law_row" s_law_row ["_law_words"]) (cE : Cl P w K mg base "_law_elders" ["_law_word"] 1 (spD R_lel)) : Cl P w K mg base "_law_row" ["_law_words"] 2 (spD R_lro) := by
  refine d.ok sc_lro (spD_len (by rintro _ _ ⟨_, rfl, _⟩; rfl)) (fun fa cdv A outer s H vs Q E hr h => ?_)
  obtain ⟨ds, dd, hv, ⟨ws, rfl, lz, lw, as, rfl⟩, q⟩ := h
  obtain ⟨x, rfl, hx⟩ := hv.args1
  refine ⟨_, pss_cons (ps_if (PW.pt (pw_or (pt_cmpR op_ne (pe_callB call_len rfl B.len PySem.boot_len (pa_cons (pv 0) pa_nil)) pe_int (nomark _)) (pw_or (pt_cmpR op_ne (pe_ix (r := rIxL K) ix_list (pv 0) pe_int (fun _ _ => rfl)) pe_str (nomark _)) (pw_or1 (pt_cmpR op_eq (pe_ix (r := rIxL K) ix_list (pv 0) pe_int (fun _ _ => rfl)) pe_str (nomark _)))))) (pss_one (ps_ret pe_non)) pss_nil)
    (pss_cons (ps_set (i := 1) sc_lro.nd rfl (.inl rfl) (pe_cl cE hr (pa_cons (pe_ix (r := rIxL K) ix_list (pv 0) pe_int (fun _ _ => rfl)) pa_nil)))
    (pss_cons (ps_set (i := 2) sc_lro.nd rfl (.inl rfl) (pe_ifExp (pt_cmpR op_eq (pe_ix (r := rIxL K) ix_list (pv 0) pe_int (fun _ _ => rfl)) pe_str (nomark _)) pe_str (pe_ix (r := rIxL K) ix_list (pv 0) pe_int (fun _ _ => rfl))))
    (pss_cons (ps_if (PW.pt (pw_or (pt_cmpR op_isN1 (pv 1) pe_non (nomark _)) (pw_or1 (pt_cmpR (r := rNeD K) (op_neD (Nat.lt_of_succ_lt (hu64 hr))) (pe_lc (own := [("_law_one", 3)]) (g := gName 3) rfl sc_lro.nd (pi_str (pv 2)) (blkOk_by (N := N_lro) (sc := defScope s_law_row) (by decide +kernel))
        (fun _ _ _ _ _ => pg_name (i := 3) sc_lro.nd rfl (.inl rfl)) (fun _ _ _ _ _ => by exact pts_one (pt_cmpR op_notInS (pv 3) pe_str rfl)) (fun _ _ _ _ _ => pv 3)) (pe_lst pa_nil) (nomark _))))) (pss_one (ps_ret pe_non)) pss_nil)
    (pss_one (ps_ret (pe_ifExp (pt_cmpR (r := rInD K) (op_inD (hu64 hr)) (pe_ix (r := rIxL K) ix_list (pv 0) pe_int (fun _ _ => rfl)) (pe_callTy (cr_listS rfl) rfl B.list boot_list (pa_cons pe_str pa_nil)) rfl)
      (pe_tup (pa_cons (pv 1) (pa_cons (pv 2) (pa_cons (pe_callTy (show CallR _ _ rIntS from call_int_str) rfl B.int boot_int (pa_cons (pe_ix (r := rIxL K) ix_list (pv 0) pe_int (fun _ _ => rfl)) pa_nil)) pa_nil)))) pe_non)))))), ?_⟩
  try dsimp only
  have hlen : ED (tCB (fun xs H Q => ∃ x n, xs = [x] ∧ LenV K x H n ∧ Q (.int n) H) (tCons (tVar 0) tNil)) (start N_lro [x]) H (.int ((ws.length : Nat) : Int)) := ed_is (ed_lenL (ds := ws.map encW) (ed_var (i := 0) rfl hx)) (by rw [List.length_map])
  have bad : ∀ (σ : L2.St) (H1 : Hp), rowB ws = false → Ex H H1 → tRet (tC .non) { nx := fun _ H' => Q .non H', rt := Q } σ H1 := fun σ H1 hb e1 => by
    have en : lrowD ws = .none := by unfold lrowD; rw [if_neg (by rw [hb]; decide)]
    rw [en] at q
    exact sd_ret (d := .none) ed_cn fun v H2 e2 hv => q v H2 (e1.trans e2) hv
  by_cases h4 : ws.length = 4
  · match ws, h4 with
    | [a, b, c, g], _ =>
      have la := lw a (by simp)
      have lb := lw b (by simp)
      have lc := lw c (by simp)
      have lg := lw g (by simp)
      have e0 : ∀ (u1 u2 u3 : Option V) (H1 : Hp), Ex H H1 → ED (tVar 0) [some x, u1, u2, u3] H1 (.list [encW a, encW b, encW c, encW g]) := fun u1 u2 u3 H1 e => ed_var (i := 0) rfl (hx.mono e)
      have erow : rowB [a, b, c, g] = (decide (a = kindL) && (eldsB b && (deedB c && figB g))) := rfl
      refine sd_if (b := !decide (a = kindL) || decide (c = [])) (et_is (et_or (a := false) (b := !decide (a = kindL) || decide (c = [])) (et_D (ed_is (ed_neI hlen (ed_ci 4)) rfl)) fun _ => et_or (et_D (ed_neT (ed_ixL (d := encW a) (i := 0) (e0 none none none H (Ex.refl H)) (ed_ci 0) rfl) (ed_cst rfl))) fun _ => et_D (ed_eqT (ed_ixL (d := encW c) (i := 2) (e0 none none none H (Ex.refl H)) (ed_ci 2) rfl) (ed_cst rfl))) (by rw [Bool.false_or])) (fun hb H1 e1 => ?_) (fun hb H1 e1 => ?_)
      · refine bad _ H1 ?_ e1
        rw [erow]
        rcases Bool.or_eq_true_iff.mp hb with z | z
        · have : decide (a = kindL) = false := by simpa using z
          rw [this, Bool.false_and]
        · have z' := of_decide_eq_true z
          subst z'
          rw [show deedB [] = false from rfl, Bool.false_and, Bool.and_false, Bool.and_false]
      rw [Bool.or_eq_false_iff] at hb
      obtain ⟨hb1, hb2⟩ := hb
      have ak : a = kindL := by simpa using hb1
      have cn : ¬ c = [] := of_decide_eq_false hb2
      refine st_next ?_
      try dsimp only
      refine sd_asg (d := lelD b) (ed_call (eas1 (ed_ixL (d := encW b) (i := 1) (e0 none none none H1 e1) (ed_ci 1) rfl)) ⟨b, rfl, lb, as b (by simp), rfl⟩) fun v1 H2 e2 h1 => ?_
      try dsimp only
      have e12 := e1.trans e2
      refine sd_asg (d := .str (txt (if c = [45] then [] else c))) (ed_if (b := decide (c = [45])) (et_D (ed_eqT (ed_ixL (d := encW c) (i := 2) (e0 (some v1) none none H2 e12) (ed_ci 2) rfl) (ed_cst rfl))) (fun z => ?_) (fun z => ?_)) fun v2 H3 e3 h2 => ?_
      · rw [if_pos (of_decide_eq_true z)]
        exact ed_cst rfl
      · rw [if_neg (of_decide_eq_false z)]
        exact ed_ixL (d := encW c) (i := 2) (e0 (some v1) none none H2 e12) (ed_ci 2) rfl
      try dsimp only
      generalize hm : (if c = [45] then [] else c) = m at h2
      have ml : m.length ≤ 10000 := by rw [← hm]; split; exact Nat.zero_le _; exact lc
      have ma : Asc m := by
        rw [← hm]; split
        · intro z hz; cases hz
        · exact as c (by simp)
      have db : deedB c = m.all fun z => decide (z ∈ abc) := by
        have := deed_of c
        rw [decide_eq_false cn, Bool.false_or, hm] at this
        have := congrArg Bool.not this
        rw [Bool.not_not, Bool.not_not] at this
        exact this.symm
      have e123 := e12.trans e3
      refine sd_if (b := !eldsB b || !deedB c) (et_or (a := !eldsB b) (b := !deedB c) (et_D (ed_isN ((ed_var (i := 1) rfl (h1.mono e3))) ?_)) fun _ => et_D (ed_is (ed_neD (K := K) (d := .list ((m.filter fun z => !decide (z ∈ abc)).map fun z => .str (sing z))) (d' := .list []) (EL.ed (el_lcS (l := m) (fun z => !decide (z ∈ abc)) (fun z => .str (sing z)) (ed_var (i := 2) rfl h2) (by omega) (fun _ _ _ => rfl) fun z hz H4 e4 => ?_)) (EL.ed (el_lst' (ds := []) eas_nil (by decide))) ?_ (shaped_Ws (b := true) (ls := []) fun _ h => nomatch h)) ?_)) (fun hb H4 e4 => ?_) (fun hb H4 e4 => ?_)
      · unfold lelD
        cases eldsB b <;> rfl
      · exact ⟨[some x, some v1, some v2, some (.str ⟨#[z]⟩)], rfl, fun _ _ R h => h, et_D (ed_notInS (ed_var (i := 3) rfl (.str _)) (ed_cst (l := abc) rfl)), fun _ => ed_var (i := 3) rfl (.str _)⟩
      · have := shaped_Ws (b := true) (ls := (m.filter fun z => !decide (z ∈ abc)).map fun z => [z]) fun r hr z hz => by
          obtain ⟨z', hz', rfl⟩ := List.mem_map.mp hr
          rw [List.mem_singleton] at hz
          subst hz
          exact ma _ (List.mem_filter.mp hz').1
        rw [if_pos rfl, List.map_map] at this
        exact this
      · rw [db]
        congr 1
        cases hf : m.filter fun z => !decide (z ∈ abc) with
        | nil =>
          have : (m.all fun z => decide (z ∈ abc)) = true := by
            rw [List.all_eq_true]
            intro z hz
            have := List.filter_eq_nil_iff.mp hf z hz
            simpa using this
          rw [this]; rfl
        | cons y r =>
          have : (m.all fun z => decide (z ∈ abc)) = false := by
            have ym : y ∈ m.filter fun z => !decide (z ∈ abc) := by rw [hf]; exact List.mem_cons_self
            have y2 := List.mem_filter.mp ym
            rw [← Bool.not_eq_true, List.all_eq_true]
            intro z
            have := z y y2.1
            have y3 := y2.2
            rw [this] at y3
            cases y3
          rw [this]
          simp [PyData.eqv, PyData.eqvAll]
      · refine bad _ H4 ?_ (e123.trans e4)
        rw [erow]
        rcases Bool.or_eq_true_iff.mp hb with z | z
        · have : eldsB b = false := by simpa using z
          rw [this, Bool.false_and, Bool.and_false]
        · have : deedB c = false := by simpa using z
          rw [this, Bool.false_and, Bool.and_false, Bool.and_false]
      rw [Bool.or_eq_false_iff] at hb
      have be : eldsB b = true := by simpa using hb.1
      have de : deedB c = true := by simpa using hb.2
      have e14 := e123.trans e4
      have erow2 : rowB [a, b, c, g] = figB g := by rw [erow, decide_eq_true ak, be, de]; rfl
      refine st_next ?_
      try dsimp only
      have fg : decide (g ∈ digW) = figB g := by
        match g with
        | [] => rfl
        | [y] => exact decide_eq_decide.mpr digW_iff
        | y :: z :: r => exact decide_eq_false fun h => by have := digW_len _ h; simp at this
      refine sd_ret (d := lrowD [a, b, c, g]) (ed_if (b := figB g) (et_D (ed_is (ed_inD (K := K) (d := encW g) (ds := digW.map encW) (ed_ixL (d := encW g) (i := 3) (e0 (some v1) (some v2) none H4 e14) (ed_ci 3) rfl) (EL.ed (el_is (el_listS (l := digs) (by decide) (ed_cst rfl)) rfl)) (shaped_W (as g (by simp))) (shaped_Ws (b := true) asc_digW)) (by rw [any_W, fg]))) (fun z => ?_) (fun z => ?_)) fun v H5 e5 hv => q v H5 (e14.trans e5) hv
      · have er : lrowD [a, b, c, g] = encK (rdK [a, b, c, g]) := by unfold lrowD; rw [if_pos (by rw [erow2]; exact z)]
        rw [er]
        obtain ⟨i, i0, i1, eg⟩ := fig_inv z
        have ev : figV g = i := by rw [eg]; exact figV_of i0 []
        have el1 : lelD b = .tuple ((elV b).map encE) := by unfold lelD; rw [if_pos be]
        rw [el1] at h1
        have ek : encK (rdK [a, b, c, g]) = .tuple [.tuple ((elV b).map encE), .str (txt m), .int (figV g)] := by rw [← hm]; rfl
        rw [ek]
        refine ed_tup (ds := [.tuple ((elV b).map encE), .str (txt m), .int (figV g)]) (eas_cons (ed_var (i := 1) rfl ((h1.mono e3).mono e4)) (eas2 (ed_var (i := 2) rfl (h2.mono e4)) ?_)) (by show 3 ≤ 100000; decide)
        rw [ev]
        exact ed_intS i0 i1 (ed_is (ed_ixL (d := encW g) (i := 3) (e0 (some v1) (some v2) none H4 e14) (ed_ci 3) rfl) (by rw [eg]; rfl))
      · have er : lrowD [a, b, c, g] = .none := by unfold lrowD; rw [if_neg (by rw [erow2, z]; decide)]
        rw [er]
        exact ed_cn
  · have hb : rowB ws = false := by
      match ws, h4 with
      | [], _ => rfl
      | [_], _ => rfl
      | [_, _], _ => rfl
      | [_, _, _], _ => rfl
      | _ :: _ :: _ :: _ :: _ :: _, _ => rfl
    refine sd_if (b := true) (et_or (a := true) (b := true) (et_D (ed_is (ed_neI hlen (ed_ci 4)) (by rw [decide_eq_false (by omega)]; rfl))) fun z => nomatch z) (fun _ H1 e1 => bad _ H1 hb e1) (fun z => nomatch z)
end
end KS
end
noncomputable section
namespace KS
open PySem PySem.Spec PyProof.Rows L2 Evl
open PySem.Froz (sing)
/-! ### _law_bad -/
structure RowsOk (f : Fam) : Prop where
  el : ∀ k ∈ f, (∀ e ∈ k.el, WdOk e) ∧ k.el.length ≤ 10000
  de : ∀ k ∈ f, (∀ c ∈ k.de.cps.toList, c ∈ abc) ∧ k.de.cps.toList.length ≤ 3000
  ce : ∀ k ∈ f, 0 ≤ k.ce
def lbadD (f : Fam) : PyData := match famBad f with
  | some n => .int ((n : Nat) : Int)
  | none => .none
theorem halfK {f : Fam} (K : Kinds f) (l7 : f.length ≤ 7) : Half f := ⟨K.els, by omega, fun k hk c hc => by
  obtain ⟨j, hj⟩ := List.getElem?_of_mem hk
  exact rise_abc (K j k hj).rise hc⟩
theorem for_rngB {ta : TA} {g : TG} {tb : TS} {Dn : Ends} {σ : L2.St} {H : Hp} {n : Nat} (h : EAs ta σ H [.int ((n : Nat) : Int)]) (hz : n ≤ 1000000) (Pv : Hp → Nat → L2.St → Hp → Prop) (h0 : ∀ H1, Ex H H1 → Pv H1 0 σ H1)
    (hs : ∀ H1 i σ' H', Ex H H1 → i < n → Pv H1 i σ' H' → g (.int (0 + (i : Int))) σ' H' fun σ2 H2 => tb { Dn with nx := Pv H1 (i + 1), ct := Pv H1 (i + 1), bk := Dn.nx } σ2 H2) (hd : ∀ H1 σ' H', Ex H H1 → Pv H1 n σ' H' → Dn.nx σ' H') : tFor (iRng1 ta) g tb Dn σ H := h H (Ex.refl _) _ fun vs H1 e a => by
  obtain ⟨v, rfl, g1⟩ := a.args1
  obtain rfl := g1.toInt
  exact ⟨(n : Int), rfl, by omega, by omega, for_range (lo := 0) (n := n) (Pv H1) (h0 H1 e) (fun i σ' H' hi p => hs H1 i σ' H' e hi p) (fun σ' H' p => hd H1 σ' H' e p)⟩
theorem kind_law {n : Nat} {k : Kind} (he : ∀ e ∈ k.el, WdOk e) (hc : 0 ≤ k.ce) : (((decide (k.el.length < 4) && (decide ((k.el.map (·.1)).Nodup) && decide (k.ce < 4))) && decide (((k.el.map (·.1)).filter fun i => decide ((n : Int) ≤ i)) = [])) && deedsB k.de) = kindB n k := by
  unfold kindB elsB
  have e1 : (k.el.all (pairB n)) = decide (((k.el.map (·.1)).filter fun i => decide ((n : Int) ≤ i)) = []) := by
    rw [Bool.eq_iff_iff, decide_eq_true_eq, List.all_eq_true, List.filter_eq_nil_iff]
    refine ⟨fun h i hi => ?_, fun h e hm => ?_⟩
    · obtain ⟨e, hm, rfl⟩ := List.mem_map.mp hi
      have := h e hm
      unfold pairB at this
      simp only [Bool.and_eq_true, decide_eq_true_eq] at this ⊢
      omega
    · have h1 := h e.1 (List.mem_map.mpr ⟨e, hm, rfl⟩)
      obtain ⟨a, b, c⟩ := he e hm
      unfold pairB
      simp only [decide_eq_true_eq] at h1
      simp only [Bool.and_eq_true, Bool.or_eq_true, decide_eq_true_eq]
      exact ⟨⟨a, by omega⟩, c⟩
  rw [e1]
  have e2 : decide (k.el.length < 4) = decide (k.el.length ≤ 3) := decide_eq_decide.mpr (by omega)
  have e3 : decide (k.ce < 4) = decide (k.ce ≤ 3) := decide_eq_decide.mpr (by omega)
  rw [e2, e3, decide_eq_true hc, Bool.true_and]
  cases decide (k.el.length ≤ 3) <;> cases decide ((k.el.map (·.1)).Nodup) <;> cases decide (k.ce ≤ 3) <;> cases decide (((k.el.map (·.1)).filter fun i => decide ((n : Int) ≤ i)) = []) <;> cases deedsB k.de <;> rfl
theorem eqv_nilL (l : List PyData) : PyData.eqv (.list l) (.list []) = decide (l = []) := by
  cases l <;> simp [PyData.eqv, PyData.eqvAll]
theorem intsX_shaped (l : List Int) : SeqAt.shaped (.list (l.map PyData.int)) = true := intsL_shaped l
section
variable {P : Program} {w : World} {K : PySem.W.Frag} {mg : Str → Option Value} {base : Heap}
abbrev N_lbd : List Str := ["_law_f", "_law_number", "_law_elders_here", "_law_deeds", "_law_cells", "_law_names", "_law_good", "_law_elder", "_law_shared", "_law_one", "_law_deed"]
theorem sc_lbd : FnScope N_lbd ["_law_f"] (defScope s_law_bad) := ⟨rfl, rfl, rfl, by decide +kernel, rfl, by decide +kernel, by decide +kernel⟩
def R_lbd : List PyData → PyData → Prop := fun ds d => ∃ f : Fam, ds = [encF f] ∧ RowsOk f ∧ 1 ≤ f.length ∧ f.length ≤ 10000 ∧ d = lbadD f
theorem ok_lbd (B : Bt mg) (d : Df K mg "_law_bad" s_law_bad ["_law_f"]) (cM : Cl P w K mg base "_law_met" ["_law_f", "_law_part"] 17 (spL (R_lmetX NN))) (cD : Cl P w K mg base "_law_doer" ["_law_f", "_law_kind", "_law_deed"] 18 (spD R_ldoerX)) (cN : Cl P w K mg base "_law_knows" ["_law_f", "_law_kind"] 18 (spL R_lknowsX)) : Cl P w K mg base "_law_bad" ["_law_f"] 19 (spD R_lbd) := by
  refine d.ok sc_lbd (spD_len (by rintro _ _ ⟨_, rfl, _⟩; rfl)) (fun fa cdv A outer s H vs Q E hr h => ?_)
  obtain ⟨ds, dd, hv, ⟨f, rfl, RO, f1, fz, rfl⟩, q⟩ := h
  obtain ⟨x, rfl, hx⟩ := hv.args1
  have hu := hu64 hr
  refine ⟨_, pss_cons (ps_if (pt_cmpR op_gt (pe_callB call_len rfl B.len PySem.boot_len (pa_cons (pv 0) pa_nil)) pe_int (nomark _)) (pss_one (ps_ret pe_int)) pss_nil)
    (pss_cons (ps_for PassesOwn.never rfl (pi_range1 rfl B.range (pa_cons (pe_callB call_len rfl B.len PySem.boot_len (pa_cons (pv 0) pa_nil)) pa_nil)) (pg_name (i := 1) sc_lbd.nd rfl (.inr rfl))
      (pss_cons (ps_asg (pe_ix (r := rIxT K) ix_tup (pv 0) (pv 1) (fun _ _ => rfl)) (pg_tup rfl (pgs_cons (pg_name (i := 2) sc_lbd.nd rfl (.inl rfl)) (pgs_cons (pg_name (i := 3) sc_lbd.nd rfl (.inl rfl)) (pgs_cons (pg_name (i := 4) sc_lbd.nd rfl (.inl rfl)) pgs_nil)))))
      (pss_cons (ps_setLc (i := 5) (own := [("_law_elder", 7), ("_law_shared", 8)]) (g := gTup K 2 (gCons (gName 7) (gCons (gName 8) gNil))) (tt := tYes) rfl sc_lbd.nd rfl rfl (sw_true rfl rfl rfl (by decide +kernel)) (pi_tup (pv 2)) (blkOk_by (N := N_lbd) (sc := defScope s_law_bad) (by decide +kernel))
        (fun _ _ _ _ _ => pg_tup rfl (pgs_cons (pg_name (i := 7) sc_lbd.nd rfl (.inl rfl)) (pgs_cons (pg_name (i := 8) sc_lbd.nd rfl (.inl rfl)) pgs_nil))) (fun _ _ _ _ _ => pts_nil) (fun _ _ _ _ _ => pv 7))
      (pss_cons (ps_set (i := 6) sc_lbd.nd rfl (.inl rfl) (pe_and (pe_cmpR op_lt (pe_callB call_len rfl B.len PySem.boot_len (pa_cons (pv 2) pa_nil)) pe_int (nomark _)) (pe_and (pe_cmpR op_eq (pe_lenSetX (by rfl) B.len (by rfl) B.set (pv 5)) (pe_callB call_len rfl B.len PySem.boot_len (pa_cons (pv 5) pa_nil)) (nomark _)) (pe_one (pe_cmpR op_lt (pv 4) pe_int (nomark _))))))
      (pss_cons (ps_set (i := 6) sc_lbd.nd rfl (.inl rfl) (pe_and (pv 6) (pe_and (pe_cmpR (r := rEqD K) (op_eqD (Nat.lt_of_succ_lt hu)) (pe_lc (own := [("_law_one", 9)]) (g := gName 9) rfl sc_lbd.nd (pi_list (pv 5)) (blkOk_by (N := N_lbd) (sc := defScope s_law_bad) (by decide +kernel))
          (fun _ _ _ _ _ => pg_name (i := 9) sc_lbd.nd rfl (.inl rfl)) (fun _ _ _ _ _ => by exact pts_one (pt_cmpR op_ge (pv 9) (pv 1) (nomark _))) (fun _ _ _ _ _ => pv 9)) (pe_lst pa_nil) (nomark _))
        (pe_one (pe_cmpR op_eq (show PE _ _ (tM1 (rJoL K) _ _) from pe_join pe_str (pe_callB (cr_sortTx rfl) rfl B.sorted boot_sorted (pa_cons (pe_callTy (cr_setTxD rfl) rfl B.set boot_set (pa_cons (pv 3) pa_nil)) pa_nil))) (pv 3) (nomark _))))))
      (pss_cons (ps_if (PW.pt (pw_or (pt_not (pt_val (pv 6))) (pw_or1 (pt_cmpR op_gt (pe_callB call_len rfl B.len PySem.boot_len (pa_cons (pe_cl cM (hr.mono (by decide)) (pa_cons (pv 0) (pa_cons (pe_tup (pa_cons (pv 1) pa_nil)) pa_nil))) pa_nil)) pe_int (nomark _))))) (pss_one (ps_ret (pv 1))) pss_nil)
      (pss_one (ps_if (pt_cmpR (r := rNeD K) (op_neD (Nat.lt_of_succ_lt hu)) (pe_lc (own := [("_law_deed", 10)]) (g := gName 10) rfl sc_lbd.nd (pi_list (pe_cl cN hr (pa_cons (pv 0) (pa_cons (pv 1) pa_nil)))) (blkOk_by (N := N_lbd) (sc := defScope s_law_bad) (by decide +kernel))
          (fun _ _ _ _ _ => pg_name (i := 10) sc_lbd.nd rfl (.inl rfl)) (fun _ _ _ _ _ => by exact pts_one (pt_cmpR op_isN1 (by exact pe_cl cD hr (by exact (pa_cons (pv 0) (pa_cons (pv 1) (pa_cons (pv 10) pa_nil))))) pe_non (nomark _))) (fun _ _ _ _ _ => pv 10)) (pe_lst pa_nil) (nomark _)) (pss_one (ps_ret (pv 1))) pss_nil))))))))
    (pss_one (ps_ret pe_non))), ?_⟩
  have hn : ∀ σ1 H1, σ1[0]? = some (some x) → Ex H H1 → ED (tCB (fun xs H Q => ∃ x n, xs = [x] ∧ LenV K x H n ∧ Q (.int n) H) (tCons (tVar 0) tNil)) σ1 H1 (.int ((f.length : Nat) : Int)) := fun σ1 H1 h0 e => ed_is (ed_lenT (ds := f.map encK) (ed_var (i := 0) h0 (hx.mono e))) (by rw [List.length_map])
  try dsimp only
  by_cases h7 : 7 < f.length
  · refine sd_if (b := true) (et_D (ed_is (ed_I0 (d := .bool (decide (7 < ((f.length : Nat) : Int)))) (hn _ H rfl (Ex.refl _)) (ed_ci 7) fun H => .bl _) (by rw [decide_eq_true (by omega)]))) (fun _ H1 e1 => ?_) (fun z => nomatch z)
    have e7 : lbadD f = .int 7 := by unfold lbadD famBad; rw [if_pos h7]; rfl
    rw [e7] at q
    exact sd_ret (ed_ci 7) fun v H2 e2 hv => q v H2 (e1.trans e2) hv
  refine sd_if (b := false) (et_D (ed_is (ed_I0 (d := .bool (decide (7 < ((f.length : Nat) : Int)))) (hn _ H rfl (Ex.refl _)) (ed_ci 7) fun H => .bl _) (by rw [decide_eq_false (by omega)]))) (fun z => nomatch z) fun _ H1 e1 => ?_
  refine st_next ?_
  try dsimp only
  refine for_rngB (n := f.length) (eas1 (hn _ H1 rfl e1)) (by omega) (fun H2 i σ H' => (∃ u1 u2 u3 u4 u5 u6, σ = [some x, u1, u2, u3, u4, u5, u6, none, none, none, none]) ∧ Ex H2 H' ∧ ∀ j, j < i → goodK f j = true) (fun H2 e2 => ⟨⟨_, _, _, _, _, _, rfl⟩, Ex.refl _, fun j z => absurd z (Nat.not_lt_zero _)⟩) (fun H2 i σ H' e2 il ⟨⟨u1, u2, u3, u4, u5, u6, es⟩, e3, all_⟩ => ?_) (fun H2 σ H' e2 ⟨⟨u1, u2, u3, u4, u5, u6, es⟩, e3, all_⟩ => ?_)
  · subst es
    have i0 : (0 : Int) + (i : Int) = (i : Int) := Int.zero_add _
    rw [i0]
    have hx3 := ((hx.mono e1).mono e2).mono e3
    have e03 := (e1.trans e2).trans e3
    obtain ⟨k, h1⟩ : ∃ k, f[i]? = some k := ⟨_, List.getElem?_eq_getElem il⟩
    have ek := kd_at h1
    have km := List.mem_of_getElem? h1
    obtain ⟨he, hez⟩ := RO.el k km
    obtain ⟨hd, hdz⟩ := RO.de k km
    have hc := RO.ce k km
    have stop : ∀ (σ : L2.St) (H1 : Hp), goodK f i = false → σ[1]? = some (some (.int (i : Int))) → Ex H H1 → tRet (tVar 1) { nx := fun _ H' => Q .non H', rt := Q } σ H1 := fun σ H1 hb h1' e => by
      have eb : lbadD f = .int (i : Nat) := by unfold lbadD; rw [famBad_at (by omega) il hb all_]
      rw [eb] at q
      exact sd_ret (ed_var (i := 1) h1' (.int _)) fun v H2 e2 hv => q v H2 (e.trans e2) hv
    try dsimp only
    refine sd_asg3 (d1 := .tuple (k.el.map encE)) (d2 := .str k.de) (d3 := .int k.ce) (ed_ixT (ds := f.map encK) (i := (i : Int)) (ed_var (i := 0) rfl hx3) (ed_var (i := 1) rfl (.int (i : Int))) (atI_nat (by rw [List.getElem?_map, h1]; rfl))) fun v2 v3 v4 H4 e4 g2 g3 g4 => ?_
    try dsimp only
    refine sl_asg (ds := (k.el.map (·.1)).map PyData.int) (el_is (el_lcT (as := k.el) (enc := encE) (fun _ => true) (fun e => .int e.1) (ed_var (i := 2) rfl g2) (by omega) (fun _ _ _ => rfl) fun e hm z H5 e5 hz => ?_) (by rw [filt_true, List.map_map]; rfl)) fun p5 x5 H5 n5 e5 h5 a5 => ?_
    · refine ⟨[some x, some (.int (i : Int)), some v2, some v3, some v4, u5, u6, some (.int e.1), some (.int e.2), none, none], rfl, fun H6 e6 R hR => g_pair (hz.mono e6) fun w1 w2 a1 a2 => ?_, et_yes, fun _ => ed_var (i := 7) rfl (.int _)⟩
      have b1 := a1.toInt
      have b2 := a2.toInt
      subst b1 b2
      exact hR
    try dsimp only
    have g25 := g2.mono e5
    have g35 := g3.mono e5
    have g45 := g4.mono e5
    have d5 : D H5 (.ref p5) (.list ((k.el.map (·.1)).map PyData.int)) := .lst h5 a5
    have nl : (k.el.map (·.1)).length = k.el.length := List.length_map ..
    refine sd_asg (d := .bool (decide (k.el.length < 4) && (decide ((k.el.map (·.1)).Nodup) && decide (k.ce < 4)))) (ed_andV (a := decide (k.el.length < 4)) (ed_is (ed_I0 (d := .bool (decide (((k.el.length : Nat) : Int) < 4))) (ed_is (ed_lenT (ds := k.el.map encE) (ed_var (i := 2) rfl g25)) (by rw [List.length_map])) (ed_ci 4) fun H => .bl _) (by congr 1; exact decide_eq_decide.mpr (by omega))) fun hl => ed_andV (a := decide ((k.el.map (·.1)).Nodup)) (ed_is (ed_eqI (s := ((dist (k.el.map (·.1)) : Nat) : Int)) (s' := ((k.el.length : Nat) : Int)) (ed_lenSetX (ed_var (i := 5) rfl d5) (by have := of_decide_eq_true hl; omega)) (ed_is (ed_lenL (ed_var (i := 5) rfl d5)) (by rw [List.length_map, List.length_map]))) ?_) fun _ => ed_I0 (d := .bool (decide (k.ce < 4))) (ed_var (i := 4) rfl g45) (ed_ci 4) fun H => .bl _) fun v6 H6 e6 g6 => ?_
    · congr 1
      refine decide_eq_decide.mpr ⟨fun h => (dist_iff _).mp (by omega), fun h => ?_⟩
      have := (dist_iff _).mpr h
      omega
    try dsimp only
    have hd6 : D H6 v3 (.str (txt k.de.cps.toList)) := by rw [txt_tl]; exact g35.mono e6
    obtain ⟨m, mr, mm, em⟩ := ed_sortsetD (P := P) (w := w) (K := K) (σ := [some x, some (.int (i : Int)), some v2, some v3, some v4, some (.ref p5), some v6, none, none, none, none]) (te := tVar 3) (ed_var (i := 3) rfl hd6) (fun c hc => by have := abc_sign (hd c hc); omega) hdz (fun m nd hs => by
      have := nodup_len nd (k := abc) fun c hc => hd c (hs c hc)
      have h6 : abc.length = 6 := rfl
      omega)
    have em2 : m = abc.filter fun c => decide (c ∈ k.de.cps.toList) := by
      refine rising_eq mr (List.Pairwise.filter _ (by decide)) fun c => ?_
      rw [mm c, List.mem_filter, decide_eq_true_eq]
      exact ⟨fun h => ⟨hd c h, h⟩, fun h => h.2⟩
    refine sd_asg (d := .bool ((decide (k.el.length < 4) && (decide ((k.el.map (·.1)).Nodup) && decide (k.ce < 4))) && (decide (((k.el.map (·.1)).filter fun j => decide ((i : Int) ≤ j)) = []) && deedsB k.de))) (ed_andV (ed_var (i := 6) rfl g6) fun _ => ed_andV (ed_is (ed_eqD (K := K) (d := .list (((k.el.map (·.1)).filter fun j => decide ((i : Int) ≤ j)).map PyData.int)) (d' := .list []) (EL.ed (el_lcL (as := k.el.map (·.1)) (enc := PyData.int) (fun j => decide ((i : Int) ≤ j)) PyData.int (ed_var (i := 5) rfl (d5.mono e6)) (by omega) (fun _ _ _ => rfl) (fun _ _ => rfl) fun j hj z H7 e7 hz => ?_)) (EL.ed (el_lst' (ds := []) eas_nil (by decide))) (intsX_shaped _) (intsX_shaped [])) ?_) fun _ => ed_is (ed_eqS em (ed_var (i := 3) rfl (g35.mono e6))) ?_) fun v7 H7 e7 g7 => ?_
    · refine ⟨[some x, some (.int (i : Int)), some v2, some v3, some v4, some (.ref p5), some v6, none, none, some z, none], rfl, fun _ _ R h => h, et_D (ed_I0 (i := j) (j := (i : Int)) (d := .bool (decide ((i : Int) ≤ j))) (ed_var (i := 9) rfl hz) (ed_var (i := 1) rfl (.int _)) fun H => .bl _), fun _ => ed_var (i := 9) rfl hz⟩
    · rw [eqv_nilL]
      congr 1
      exact decide_eq_decide.mpr ⟨fun h => List.map_eq_nil_iff.mp h, fun h => by rw [h]; rfl⟩
    · congr 1
      unfold deedsB
      rw [em2]
      exact decide_eq_decide.mpr eq_comm
    try dsimp only
    have ekb := kind_law (n := i) he hc
    rw [Bool.and_assoc] at ekb
    rw [ekb] at g7
    have e47 := ((e4.trans e5).trans e6).trans e7
    have hx7 := hx3.mono e47
    by_cases hk : kindB i k = true
    · rw [hk] at g7
      have kall : ∀ j, j < i → kindB j (kd f j) = true := fun j hj => by
        have := all_ j hj
        unfold goodK at this
        rw [Bool.and_eq_true] at this
        exact this.1
      have KT : Kinds (f.take (i + 1)) := kinds_take (by omega) fun j hj => by
        rcases Nat.lt_succ_iff_lt_or_eq.mp hj with z | z
        · exact kall j z
        · subst z; rw [ek]; exact hk
      have lt : (f.take (i + 1)).length = i + 1 := by rw [List.length_take]; omega
      have HT := halfK KT (by omega)
      have LT := kinds_low KT
      have sm : (lm NN (f.take (i + 1)) [(i : Int)]).length ≤ 10000 := lm_small LT (kdeP KT (by omega) (by omega)) (by omega) (by omega)
      have k0 : (0 : Int) ≤ (i : Int) := by omega
      have k1 : (i : Int) < (f.take (i + 1)).length := by omega
      have pk := HT.part k0 k1 sm (root_in (f.take (i + 1)) (i : Int))
      have hF : ∀ H1, Ex H7 H1 → D H1 x (famD true (f.take (i + 1) ++ f.drop (i + 1))) := fun H1 e => by
        rw [List.take_append_drop]
        exact hx7.mono e
      generalize hg : f.take (i + 1) = g at *
      have egd : goodK f i = soundB g i := by unfold goodK; rw [ek, hk, Bool.true_and, hg]
      refine sd_if (b := decide (16 < ((lm NN g [(i : Int)]).length : Int))) (et_is (et_or (a := false) (b := decide (16 < ((lm NN g [(i : Int)]).length : Int))) (et_not (a := true) (et_DB (ed_var (i := 6) rfl g7))) fun _ => et_D (ed_I0 (i := ((lm NN g [(i : Int)]).length : Int)) (j := 16) (d := .bool (decide (16 < ((lm NN g [(i : Int)]).length : Int)))) (ed_is (ed_lenL (ds := (lm NN g [(i : Int)]).map encP) (EL.ed (el_call' (eas2 (ed_var (i := 0) rfl (hF H7 (Ex.refl _))) (ed_tup (ds := [.int (i : Int)]) (eas1 (ed_var (i := 1) rfl (.int (i : Int)))) (by show 1 ≤ 100000; decide))) (lmet_okX HT pk)))) (by rw [List.length_map])) (ed_ci 16) fun H => .bl _)) (by rw [Bool.false_or])) (fun hb H8 e8 => ?_) (fun hb H8 e8 => ?_)
      · refine stop _ H8 ?_ rfl ((e03.trans e47).trans e8)
        rw [egd]
        have h16 := of_decide_eq_true hb
        unfold soundB
        rw [decide_eq_false (by omega), Bool.false_and]
      have h16 : (lm NN g [(i : Int)]).length ≤ 16 := by have := of_decide_eq_false hb; omega
      refine st_next ?_
      try dsimp only
      have kn : ∀ c ∈ known g (lm NN g [(i : Int)]), c ∈ abc := fun c hc => (known_iff.mp hc).1
      have kl : (known g (lm NN g [(i : Int)])).length ≤ 6 := by unfold known; exact List.length_filter_le _ abc
      refine sd_if (b := !soundB g i) (et_D (ed_is (ed_neD (K := K) (d := .list (((known g (lm NN g [(i : Int)])).filter fun c => (ldoer NN g (doing g c (lm NN g [(i : Int)]))).isNone).map fun c => .str (sing c))) (d' := .list []) (EL.ed (el_lcL (as := known g (lm NN g [(i : Int)])) (enc := fun c => .str (sing c)) (fun c => (ldoer NN g (doing g c (lm NN g [(i : Int)]))).isNone) (fun c => .str (sing c)) (EL.ed (el_is (el_call' (eas2 (ed_var (i := 0) rfl (hF H8 e8)) (ed_var (i := 1) rfl (.int (i : Int)))) ⟨g, f.drop (i + 1), true, (i : Int), rfl, HT, k0, k1, by omega, rfl⟩) (by rw [List.map_map]; rfl))) (by omega) (fun _ _ _ => rfl) (fun _ _ => rfl) fun c hc z H9 e9 hz => ?_)) (EL.ed (el_lst' (ds := []) eas_nil (by decide))) ?_ (intsX_shaped [])) ?_)) (fun hb2 H9 e9 => ?_) (fun hb2 H9 e9 => ?_)
      · have ez := hz.toStr
        subst ez
        refine ⟨[some x, some (.int (i : Int)), some v2, some v3, some v4, some (.ref p5), some v7, none, none, none, some (.str (sing c))], rfl, fun _ _ R h => h, ?_, fun _ => ed_var (i := 10) rfl (.str _)⟩
        refine et_D (ed_isN (d := optP (ldoer NN g (doing g c (lm NN g [(i : Int)])))) (ed_call (eas3 (ed_var (i := 0) rfl (hF H9 (e8.trans e9))) (ed_var (i := 1) rfl (.int (i : Int))) (ed_var (i := 10) rfl (.str (sing c)))) ⟨g, f.drop (i + 1), true, (i : Int), c, rfl, HT, k0, k1, by omega, rfl⟩) (isND_optP _))
      · have := sings_shaped (l := (known g (lm NN g [(i : Int)])).filter fun c => (ldoer NN g (doing g c (lm NN g [(i : Int)]))).isNone) fun c hc => kn c (List.mem_filter.mp hc).1
        rw [List.map_map] at this
        exact this
      · rw [eqv_nilL]
        congr 2
        unfold soundB
        rw [decide_eq_true h16, Bool.true_and, Bool.eq_iff_iff, decide_eq_true_eq, List.map_eq_nil_iff, List.filter_eq_nil_iff, List.all_eq_true]
        have e5 : ∀ c, ldoer NN g (doing g c (lm NN g [(i : Int)])) = foremost NN g (doing g c (lm NN g [(i : Int)])) := fun c => ldoer_eq LT ((lm_nodup NN g [(i : Int)]).filter _) fun y hy => by
          have := (mem_bound LT k0 (List.mem_filter.mp hy).1).2
          show lastP y < (16 : Int)
          omega
        refine ⟨fun h c hc => ?_, fun h c hc => ?_⟩
        · have := h c hc
          rw [e5] at this
          cases hq : foremost NN g (doing g c (lm NN g [(i : Int)])) with
          | none => rw [hq] at this; exact absurd rfl this
          | some _ => rfl
        · have := h c hc
          rw [e5]
          cases hq : foremost NN g (doing g c (lm NN g [(i : Int)])) with
          | none => rw [hq] at this; cases this
          | some _ => exact fun z => nomatch z
      · refine stop _ H9 ?_ rfl (((e03.trans e47).trans e8).trans e9)
        rw [egd]
        simpa using hb2
      · refine ⟨⟨_, _, _, _, _, _, rfl⟩, ((e3.trans e47).trans e8).trans e9, fun j hj => ?_⟩
        rcases Nat.lt_succ_iff_lt_or_eq.mp hj with z | z
        · exact all_ j z
        · subst z
          rw [egd]
          simpa using hb2
    · rw [Bool.not_eq_true] at hk
      rw [hk] at g7
      refine sd_if (b := true) (et_or (a := true) (b := true) (et_not (a := false) (et_DB (ed_var (i := 6) rfl g7))) fun z => nomatch z) (fun _ H8 e8 => ?_) (fun z => nomatch z)
      refine stop _ H8 ?_ rfl ((e03.trans e47).trans e8)
      unfold goodK
      rw [ek, hk]; rfl
  · subst es
    have hv : famBad f = none := famBad_none.mpr (fam_good f1 (by omega) fun j hj => all_ j hj)
    have eb : lbadD f = .none := by unfold lbadD; rw [hv]
    rw [eb] at q
    try dsimp only
    exact sd_ret (d := .none) ed_cn fun v H4 e4 hv => q v H4 (((e1.trans e2).trans e3).trans e4) hv
end
end KS
end
noncomputable section
namespace KS
open PySem PySem.Spec PyProof.Rows L2 Evl LamX
/-! ### _law_kind -/
structure Cls8 where
  c0 : Addr
  c1 : Addr
  c2 : Addr
  c3 : Addr
  c4 : Addr
  c5 : Addr
  c6 : Addr
  c7 : Addr
structure Mg8 (mg : Str → Option Value) (CS : Addr) (c : Cls8) : Prop where
  s : mg "SlotError" = some (.ref CS)
  c0 : mg "BadFamily" = some (.ref c.c0)
  c1 : mg "NoKind" = some (.ref c.c1)
  c2 : mg "NoPart" = some (.ref c.c2)
  c3 : mg "NoElder" = some (.ref c.c3)
  c4 : mg "BadAsked" = some (.ref c.c4)
  c5 : mg "NotAsked" = some (.ref c.c5)
  c6 : mg "NoMatch" = some (.ref c.c6)
  c7 : mg "BadText" = some (.ref c.c7)
  ve : mg "ValueError" = none
  isi : mg "isinstance" = none
def wrdL : List Str := ["BadFamily", "NoKind", "NoPart", "NoElder", "BadAsked", "NotAsked", "NoMatch", "BadText"]
structure KindW (K : PySem.W.Frag) (CS : Addr) (c : Cls8) (C : Addr) (j : Nat) : Prop where
  exc : ExcC K C
  ex : PySem.W.exmOne K (.ref C) (.ref CS) = some true
  k0 : PySem.W.kitOne K (.ref C) (.ref c.c0) = some (decide (j = 0))
  k1 : PySem.W.kitOne K (.ref C) (.ref c.c1) = some (decide (j = 1))
  k2 : PySem.W.kitOne K (.ref C) (.ref c.c2) = some (decide (j = 2))
  k3 : PySem.W.kitOne K (.ref C) (.ref c.c3) = some (decide (j = 3))
  k4 : PySem.W.kitOne K (.ref C) (.ref c.c4) = some (decide (j = 4))
  k5 : PySem.W.kitOne K (.ref C) (.ref c.c5) = some (decide (j = 5))
  k6 : PySem.W.kitOne K (.ref C) (.ref c.c6) = some (decide (j = 6))
  k7 : PySem.W.kitOne K (.ref C) (.ref c.c7) = some (decide (j = 7))
  ve : PySem.W.kitOne K (.ref C) (.type "ValueError") = some true
/-- what _law_kind makes of a lambda's reading -/
def TTk (K : PySem.W.Frag) (CS : Addr) (c : Cls8) : (XK → Hp → VK → Prop) → Hp → VK → Prop := fun tl H Q =>
  tl (fun cls d H' => ∃ C j wd, cls = .ref C ∧ KindW K CS c C j ∧ wrdL[j]? = some wd ∧ DictOk d H' ∧ ∀ H'', Ex H' H'' → Q (.str wd) H'') H fun _ H' => Q (.str Str.empty) H'
theorem Takes.len {X : Cx} {W : WX} (t : Takes X W) : Takes X (fun cls d σ H => σ.length = X.N.length → W cls d σ H) := fun u s' ⟨a, B, sI, pins, σ, H, cls, d, e, I, nb, up, sky, na, os, ag, w⟩ =>
  t u s' ⟨a, B, sI, pins, σ, H, cls, d, e, I, nb, up, sky, na, os, ag, w I.len⟩
section
variable {K : PySem.W.Frag} {σ : L2.St} {H : Hp} {ta tb : TE}
theorem ed_isE {a C : Addr} {d : Option Addr} {i : Nat} {c : V} {t : Value} {b : Bool} (hi : σ[i]? = some (some (.ref a))) (F : ExcC K C) (hc : ClsV c t) (hk : PySem.W.kitOne K (.ref C) t = some b) (hd : DictOk d H) : ED (tCB (rIsE K a (.ref C) d) (tCons (tVar i) (tCons (tC c) tNil))) σ H (.bool b) := fun H1 e Q q =>
  ⟨.ref a, hi, C, c, t, b, rfl, F, rfl, hc, hk, hd.ex e, q _ H1 (Ex.refl _) (.bl b)⟩
theorem ed_cntB {bs : List Bool} (ha : ED ta σ H (.list (bs.map PyData.bool))) : ED (tBM K "list" (rCntB K) ta (tCons (tC (.bl true)) tNil)) σ H (.int ((bs.count true : Nat) : Int)) := fun H1 e Q q =>
  ha H1 e _ fun x H2 e2 hx => by
    obtain ⟨a, xs, rfl, h, t⟩ := hx.toLst
    have e3 := t.bools
    subst e3
    exact ⟨.inl ⟨rfl, _, SqL.of h⟩, a, bs, rfl, rfl, SqL.of h, q _ H2 e2 (.int _)⟩
theorem ed_idxB {bs : List Bool} {j : Nat} (ha : ED ta σ H (.list (bs.map PyData.bool))) (hj : bs[j]? = some true) (hno : ∀ m, m < j → bs[m]? = some false) : ED (tBM K "list" (rIndex K) ta (tCons (tC (.bl true)) tNil)) σ H (.int ((j : Nat) : Int)) := fun H1 e Q q =>
  ha H1 e _ fun x H2 e2 hx => by
    obtain ⟨a, xs, rfl, h, t⟩ := hx.toLst
    have e3 := t.bools
    subst e3
    refine ⟨.inl ⟨rfl, _, SqL.of h⟩, a, bs.map V.bl, .bl true, j, .bl true, rfl, rfl, SqL.of h, rfl, ?_, by rw [List.getElem?_map, hj]; rfl, rfl, fun m z' hm hz => ?_, q _ H2 e2 (.int _)⟩
    · rw [List.all_map, List.all_eq_true]
      intro _ _; rfl
    · rw [List.getElem?_map, hno m hm] at hz
      have : z' = .bl false := (Option.some.inj hz).symm
      rw [this]; rfl
end
end KS
end
noncomputable section
namespace KS
open PySem PySem.Spec PyProof.Rows L2 Evl
open PySem.Froz (sing)
/-! ### what is due -/
def dueD (l : List Nat) : PyData := match rowAt l with
  | some n => .tuple [.str "row", .int ((n : Nat) : Int)]
  | none => match famBad (famT l) with
    | some n => .tuple [.str "family", .int ((n : Nat) : Int)]
    | none => .tuple [.str "read", encF (famT l)]
theorem elV_ok {l : List Nat} (h : eldsB l = true) : (∀ e ∈ elV l, WdOk e) ∧ (elV l).length ≤ l.length + 1 := by
  unfold elV
  split
  · exact ⟨fun e he => (by cases he), Nat.zero_le _⟩
  · rename_i nl
    unfold eldsB at h
    rw [decide_eq_false nl, Bool.false_or, List.all_eq_true] at h
    refine ⟨fun e he => ?_, by rw [List.length_map]; exact splitL_len 44 l⟩
    obtain ⟨r, hr, rfl⟩ := List.mem_map.mp he
    obtain ⟨e, o, _, e6⟩ := eld_inv (h r hr)
    rw [e6]; exact o
theorem deed_ok {c : List Nat} (h : deedB c = true) : ∀ z ∈ (if c = [45] then [] else c), z ∈ abc := by
  intro z hz
  unfold deedB at h
  split at hz
  · cases hz
  · rename_i nc
    rw [decide_eq_false nc, Bool.false_or, Bool.and_eq_true, List.all_eq_true] at h
    exact of_decide_eq_true (h.2 z hz)
theorem row_ok {ws : List (List Nat)} (h : rowB ws = true) : (∀ e ∈ (rdK ws).el, WdOk e) ∧ (∀ c ∈ (rdK ws).de.cps.toList, c ∈ abc) ∧ 0 ≤ (rdK ws).ce := by
  match ws, h with
  | [a, b, c, g], h =>
    have h' : (decide (a = kindL) && (eldsB b && (deedB c && figB g))) = true := h
    rw [Bool.and_eq_true, Bool.and_eq_true, Bool.and_eq_true] at h'
    obtain ⟨_, be, de, _⟩ := h'
    refine ⟨(elV_ok be).1, deed_ok de, ?_⟩
    show 0 ≤ figV g
    unfold figV
    omega
theorem row_len2 {ws : List (List Nat)} {m : Nat} (h : rowB ws = true) (hm : ∀ r ∈ ws, r.length ≤ m) : (rdK ws).el.length ≤ m + 1 ∧ (rdK ws).de.cps.toList.length ≤ m := by
  match ws, h with
  | [a, b, c, g], h =>
    have h' : (decide (a = kindL) && (eldsB b && (deedB c && figB g))) = true := h
    rw [Bool.and_eq_true, Bool.and_eq_true] at h'
    obtain ⟨_, be, _⟩ := h'
    have h1 := (elV_ok be).2
    have h2 := hm b (by simp)
    have h3 := hm c (by simp)
    refine ⟨?_, ?_⟩
    · show (elV b).length ≤ _
      omega
    · show (if c = [45] then [] else c).length ≤ m
      split
      · exact Nat.zero_le _
      · exact h3
theorem rowsOk {l : List Nat} (lz : l.length ≤ 3000) (h : rowAt l = none) : RowsOk (famT l) := by
  have hr := rowAt_none.mp h
  have go : ∀ k ∈ famT l, ∃ ws, ws ∈ rws l ∧ k = rdK ws ∧ rowB ws = true := fun k hk => by
    obtain ⟨ws, hw, rfl⟩ := List.mem_map.mp hk
    exact ⟨ws, hw, rfl, hr ws hw⟩
  refine ⟨fun k hk => ?_, fun k hk => ?_, fun k hk => ?_⟩ <;> obtain ⟨ws, hw, rfl, hb⟩ := go k hk
  · have := (row_len2 hb (rws_len hw).2).1
    exact ⟨(row_ok hb).1, by omega⟩
  · have := (row_len2 hb (rws_len hw).2).2
    exact ⟨(row_ok hb).2.1, by omega⟩
  · exact (row_ok hb).2.2
theorem encK_layX {k : Kind} (h : ∀ c ∈ k.de.cps.toList, c ∈ abc) : (encK k).canLay0 = true := by
  have h1 := encEs_layT k.el
  have h2 : (PyData.str k.de).canLay0 = true := by
    have := lay_txt (l := k.de.cps.toList) fun c hc => by have := abc_sign (h c hc); omega
    rwa [txt_tl] at this
  show ((PyData.tuple (k.el.map encE)).canLay0 && ((PyData.str k.de).canLay0 && ((PyData.int k.ce).canLay0 && true))) = true
  rw [h2, show (PyData.tuple (k.el.map encE)).canLay0 = true from by simp only [PyData.canLay0]; exact h1]
  rfl
theorem encK_depthX (k : Kind) : (encK k).depth ≤ 3 := by
  have := encEs_depthT k.el
  simp [encK, PyData.depth, PyData.depthAll]
  omega
theorem lrow_lay (ws : List (List Nat)) : (lrowD ws).canLay0 = true ∧ (lrowD ws).depth ≤ 3 := by
  unfold lrowD
  split
  · rename_i h
    exact ⟨encK_layX (row_ok h).2.1, encK_depthX _⟩
  · exact ⟨rfl, by simp [PyData.depth]⟩
theorem lrows_shaped (l : List (List (List Nat))) : SeqAt.shaped (.list (l.map lrowD)) = true := by
  have h1 : ∀ l : List (List (List Nat)), PyData.canLayAll0 (l.map lrowD) = true ∧ PyData.depthAll (l.map lrowD) ≤ 3 := fun l => by
    induction l with
    | nil => exact ⟨rfl, by simp [PyData.depthAll]⟩
    | cons ws l ih =>
      obtain ⟨a, b⟩ := lrow_lay ws
      rw [List.map_cons]
      refine ⟨?_, ?_⟩
      · show ((lrowD ws).canLay0 && PyData.canLayAll0 (l.map lrowD)) = true
        rw [a, ih.1]; rfl
      · have := ih.2
        simp only [PyData.depthAll]
        omega
  obtain ⟨a, b⟩ := h1 l
  exact shaped_of (by simp only [PyData.canLay0]; exact a) (by simp only [PyData.depth]; omega)
theorem lrow_none (ws : List (List Nat)) : PyData.eqv (lrowD ws) .none = !rowB ws := by
  unfold lrowD
  split
  · rename_i h
    rw [h]; rfl
  · rename_i h
    rw [Bool.not_eq_true] at h
    rw [h]; rfl
theorem lrow_flat (ws : List (List Nat)) : flatT (lrowD ws) = true := by
  unfold lrowD
  split
  · exact flat_K _
  · rfl
section
variable {P : Program} {w : World} {K : PySem.W.Frag} {mg : Str → Option Value} {base : Heap}
/-! ### _law_due -/
abbrev N_ldu : List Str := ["_law_text_here", "_law_rows", "_law_bad_here", "_law_row_here"]
theorem sc_ldu : FnScope N_ldu ["_law_text_here"] (defScope s_law_due) := ⟨rfl, rfl, rfl, by decide +kernel, rfl, by decide +kernel, by decide +kernel⟩
def R_ldu : List PyData → PyData → Prop := fun ds d => ∃ l : List Nat, ds = [.str (txt l)] ∧ l.length ≤ 3000 ∧ Asc l ∧ d = dueD l
theorem ok_ldu (B : Bt mg) (d : Df K mg "_law_due" s_law_due ["_law_text_here"]) (cR : Cl P w K mg base "_law_row" ["_law_words"] 2 (spD R_lro)) (cB : Cl P w K mg base "_law_bad" ["_law_f"] 19 (spD R_lbd)) : Cl P w K mg base "_law_due" ["_law_text_here"] 20 (spD R_ldu) := by
  refine d.ok sc_ldu (spD_len (by rintro _ _ ⟨_, rfl, _⟩; rfl)) (fun fa cdv A outer s H vs Q E hr h => ?_)
  obtain ⟨ds, dd, hv, ⟨l, rfl, lz, al, rfl⟩, q⟩ := h
  obtain ⟨x, rfl, hx⟩ := hv.args1
  have hu := hu64 hr
  refine ⟨_, pss_cons (ps_setLc (i := 1) (own := [("_law_row_here", 3)]) (g := gName 3) (tt := tYes) rfl sc_ldu.nd rfl rfl (sw_true rfl rfl rfl (by decide +kernel)) (pi_list (show PE _ _ (tM1 rSpl _ _) from pe_split (pv 0) pe_str)) (blkOk_by (N := N_ldu) (sc := defScope s_law_due) (by decide +kernel))
      (fun _ _ _ _ _ => pg_name (i := 3) sc_ldu.nd rfl (.inl rfl)) (fun _ _ _ _ _ => pts_nil) (fun _ _ _ _ _ => by exact pe_cl cR (hr.mono (by decide)) (by exact pa_cons (show PE _ _ (tM1 rSpl _ _) from by exact pe_split (by exact pv 3) (by exact pe_str)) pa_nil)))
    (pss_cons (ps_if (pt_cmpR (r := rInD K) (op_inD hu) pe_non (pv 1) rfl) (pss_one (ps_ret (pe_tup (pa_cons pe_str (pa_cons (pe_bm PySem.F.plainAttrs_list PySem.F.slot_list_index PySem.F.type_list_index (mt_indexD hu) (pv 1) (pa_cons pe_non pa_nil)) pa_nil))))) pss_nil)
    (pss_cons (ps_set (i := 2) sc_ldu.nd rfl (.inl rfl) (pe_cl cB hr (pa_cons (pe_callTy (show CallR _ _ (rTupOf K) from call_tuple_of) rfl B.tuple boot_tuple (pa_cons (pv 1) pa_nil)) pa_nil)))
    (pss_one (ps_ret (pe_ifExp (pt_cmpR op_isN1 (pv 2) pe_non (nomark _)) (pe_tup (pa_cons pe_str (pa_cons (pe_callTy (show CallR _ _ (rTupOf K) from call_tuple_of) rfl B.tuple boot_tuple (pa_cons (pv 1) pa_nil)) pa_nil))) (pe_tup (pa_cons pe_str (pa_cons (pv 2) pa_nil)))))))), ?_⟩
  have rf := rws_few l
  have sl := splitL_len 10 l
  try dsimp only
  refine sl_asg (ds := (rws l).map lrowD) (el_is (el_lcL2 (as := splitL 10 l) (enc := encW) (fun _ => true) (fun r => lrowD (splitL 32 r)) (EL.ed (el_splitW (s := 10) (l := l) (by decide) (by omega) (ed_var (i := 0) rfl hx) (ed_cst rfl))) (by omega) (fun r _ _ => lrow_flat _) fun r hr' v H2 e2 hv => ?_) (by rw [filt_true]; unfold rws; rw [List.map_map]; rfl)) fun p xs H1 np e1 hp ha => ?_
  · have r1 := splitL_part 10 l r hr'
    have r2 := splitL_len 32 r
    refine ⟨[some x, none, none, some v], rfl, fun _ _ R h => h, et_yes, fun _ => ed_call (eas1 (EL.ed (el_splitW (s := 32) (by decide) (by omega) (ed_var (i := 3) rfl hv) (ed_cst rfl)))) ⟨splitL 32 r, rfl, by omega, fun z hz => ?_, ((al.split (s := 10)) r hr').split, rfl⟩⟩
    have := splitL_part 32 r z hz
    omega
  try dsimp only
  have hL : D H1 (.ref p) (.list ((rws l).map lrowD)) := .lst hp ha
  have any_ : (((rws l).map lrowD).any fun z => PyData.eqv z .none) = (rowAt l).isSome := by
    rw [List.any_map]
    unfold rowAt
    rw [Bool.eq_iff_iff, List.any_eq_true, List.findIdx?_isSome, List.any_eq_true]
    exact ⟨fun ⟨ws, a, b⟩ => ⟨ws, a, by rw [← lrow_none]; exact b⟩, fun ⟨ws, a, b⟩ => ⟨ws, a, by show PyData.eqv (lrowD ws) .none = true; rw [lrow_none]; exact b⟩⟩
  refine sd_if (b := (rowAt l).isSome) (et_D (ed_is (ed_inD (K := K) (d := .none) (ds := (rws l).map lrowD) ed_cn (ed_var (i := 1) rfl hL) rfl (lrows_shaped _)) (by rw [any_]))) (fun hb H2 e2 => ?_) (fun hb H2 e2 => ?_)
  · obtain ⟨n, hn⟩ := Option.isSome_iff_exists.mp hb
    have ed : dueD l = .tuple [.str "row", .int (n : Nat)] := by unfold dueD; rw [hn]
    rw [ed] at q
    have hn' := hn
    unfold rowAt at hn'
    rw [List.findIdx?_eq_some_iff_getElem] at hn'
    obtain ⟨nl, n1, n2⟩ := hn'
    try dsimp only
    refine sd_ret (ed_tup (ds := [.str "row", .int (n : Nat)]) (eas2 (ed_cs _) (fun H3 e3 R hR => ?_)) (by show 2 ≤ 100000; decide)) fun v H3 e3 hv => q v H3 ((e1.trans e2).trans e3) hv
    refine ⟨.ref p, rfl, .inl ⟨rfl, _, SqL.of (e3 _ _ (e2 _ _ hp))⟩, ?_⟩
    refine ⟨p, .non, .none, (rws l).map lrowD, n, lrowD (rws l)[n], rfl, rfl, ((hL.mono e2).mono e3).dp, (show D H3 V.non PyData.none from .non).dp, lrows_shaped _, rfl, by rw [List.getElem?_map, List.getElem?_eq_getElem nl]; rfl, by rw [lrow_none]; exact n1, fun m z' hm hz => ?_, hR _ H3 (Ex.refl _) (.int _)⟩
    rw [List.getElem?_map, List.getElem?_eq_getElem (by omega)] at hz
    obtain rfl := Option.some.inj hz
    rw [lrow_none]
    have := n2 m hm
    rwa [Bool.not_eq_true] at this
  · have rn : rowAt l = none := Option.not_isSome_iff_eq_none.mp (by rw [hb]; decide)
    have hall := rowAt_none.mp rn
    have eF : (rws l).map lrowD = (famT l).map encK := by
      unfold famT
      rw [List.map_map]
      refine List.map_congr_left fun ws hw => ?_
      unfold lrowD
      rw [if_pos (hall ws hw)]; rfl
    rw [eF] at hL
    have hL2 := hL.mono e2
    refine st_next ?_
    try dsimp only
    have fl : (famT l).length = (rws l).length := by unfold famT; rw [List.length_map]
    have f1 : 1 ≤ (famT l).length := by
      rw [fl]; unfold rws; rw [List.length_map]
      have := splitL_ne 10 l
      cases h : splitL 10 l with
      | nil => exact absurd h this
      | cons a r => show 1 ≤ r.length + 1; omega
    refine sd_asg (d := lbadD (famT l)) (ed_call (eas1 (ed_tupOf (K := K) (ed_var (i := 1) rfl hL2))) ⟨famT l, rfl, rowsOk lz rn, f1, by omega, rfl⟩) fun v2 H3 e3 h2 => ?_
    try dsimp only
    have e13 := (e1.trans e2).trans e3
    refine sd_ret (d := dueD l) (ed_if (b := (famBad (famT l)).isNone) (et_D (ed_isN (ed_var (i := 2) rfl h2) ?_)) (fun z => ?_) (fun z => ?_)) fun v H4 e4 hv => q v H4 (e13.trans e4) hv
    · unfold lbadD
      cases famBad (famT l) <;> rfl
    · have hn : famBad (famT l) = none := Option.isNone_iff_eq_none.mp z
      have ed : dueD l = .tuple [.str "read", encF (famT l)] := by unfold dueD; rw [rn, hn]
      rw [ed]
      exact ed_tup (ds := [.str "read", encF (famT l)]) (eas2 (ed_cs _) (ed_tupOf (K := K) (ed_var (i := 1) rfl (hL2.mono e3)))) (by show 2 ≤ 100000; decide)
    · cases hn : famBad (famT l) with
      | none => rw [hn] at z; cases z
      | some n =>
        have ed : dueD l = .tuple [.str "family", .int (n : Nat)] := by unfold dueD; rw [rn, hn]
        have el : lbadD (famT l) = .int (n : Nat) := by unfold lbadD; rw [hn]
        rw [el] at h2
        rw [ed]
        exact ed_tup (ds := [.str "family", .int (n : Nat)]) (eas2 (ed_cs _) (ed_var (i := 2) rfl h2)) (by show 2 ≤ 100000; decide)
/-! ### _law_told -/
theorem read_cases {CT CF : Addr} {l : List Nat} {vs : List V} {H : Hp} {Q : VK} {E : XK} (hv : DA H vs [.str (txt l)]) (lz : l.length ≤ 3000)
    (h1 : ∀ (C : Addr) (f wd : Str) (j n : Nat) d H', ((C = CT ∧ f = "row" ∧ wd = "row" ∧ j = 7) ∨ (C = CF ∧ f = "number" ∧ wd = "family" ∧ j = 0)) → Ex H H' → H' d = some (.xd [(f, .int ((n : Nat) : Int))]) → dueD l = .tuple [.str wd, .int ((n : Nat) : Int)] → E (.ref C) (some d) H')
    (h2 : ∀ v H', Ex H H' → D H' v (encF (famT l)) → dueD l = .tuple [.str "read", encF (famT l)] → Q v H') : spRead CT CF vs H Q E := by
  refine ⟨l, hv, by omega, ?_⟩
  cases hr : rowAt l with
  | some n => exact .inl ⟨n, rfl, fun d H' e hd => h1 CT "row" "row" 7 n d H' (.inl ⟨rfl, rfl, rfl, rfl⟩) e hd (by unfold dueD; rw [hr])⟩
  | none =>
    cases hf : famBad (famT l) with
    | some n => exact .inr (.inl ⟨rfl, n, rfl, fun d H' e hd => h1 CF "number" "family" 0 n d H' (.inr ⟨rfl, rfl, rfl, rfl⟩) e hd (by unfold dueD; rw [hr, hf])⟩)
    | none => exact .inr (.inr ⟨rfl, rfl, fun v H' e hd => h2 v H' e hd (by unfold dueD; rw [hr, hf])⟩)
abbrev N_ltd : List Str := ["_law_text_here", "e", "_law_other", "_law_kinds"]
theorem sc_ltd : FnScope N_ltd ["_law_text_here"] (defScope s_law_told) := ⟨rfl, rfl, rfl, by decide +kernel, rfl, by decide +kernel, by decide +kernel⟩
def R_ltd : List PyData → PyData → Prop := fun ds d => ∃ l : List Nat, ds = [.str (txt l)] ∧ l.length ≤ 3000 ∧ d = dueD l
def suiteT : List Stmt := match defBody s_law_told with
  | .Try _ [.ExceptHandler _ _ s _] _ _ _ :: _ => s
  | _ => []
abbrev toldCx (P : Program) (w : World) (K : PySem.W.Frag) (mg : Str → Option Value) (base : Heap) (fa : Addr) (cdv : Value) (A : Around) (outer : List Env) (s : Shared) (H : Hp) (E : XK) : Cx := (cxOf CX0 P w K mg base N_ltd "_law_told" (defScope s_law_told) fa cdv A outer s H E).nox
theorem ok_ltd {CS : Addr} {c8 : Cls8} (m : Mg8 mg CS c8) (B : Bt mg) (d : Df K mg "_law_told" s_law_told ["_law_text_here"]) (kT : KindW K CS c8 c8.c7 7) (kF : KindW K CS c8 c8.c0 0) (xT : XfC K c8.c7) (xF : XfC K c8.c0) (nT : PySem.W.findIn K (.ref c8.c7) "row" = some none) (nF : PySem.W.findIn K (.ref c8.c0) "number" = some none)
    (cR : ClX P w K mg base "read" ["text"] 22 (spRead c8.c7 c8.c0)) : Cl P w K mg base "_law_told" ["_law_text_here"] 23 (spD R_ltd) := by
  refine d.ok sc_ltd (spD_len (by rintro _ _ ⟨_, rfl, _⟩; rfl)) (fun fa cdv A outer s H vs Q E hr h => ?_)
  obtain ⟨ds, dd, hv, ⟨l, rfl, lz, rfl⟩, q⟩ := h
  obtain ⟨x, rfl, hx⟩ := hv.args1
  refine' ⟨_, pss_one (ps_try_as (X := toldCx P w K mg base fa cdv A outer s H E) (c := .ref CS) (i := 1) (Wout := fun _ _ _ _ => False)
      (tb := fun W => tRet (tTup (tCons (tC (.str "read")) (tCons (tCallS (spRead c8.c7 c8.c0) (WE W) (tCons (tVar 0) tNil)) tNil))))
      rfl rfl sc_ltd.nd rfl rfl ⟨rfl, by decide, .inl m.s⟩ LamX.takes0 (fun W pn xe tk _ => ?body) (fun a oe cls d pn hz hf => ?suite)), ?_⟩
  case body =>
    exact pss_one (ps_ret (pe_tup (pa_cons pe_str (pa_cons (by exact pe_clW (W := W) cR hr tk (by exact pa_cons (pv 0) pa_nil)) pa_nil))))
  case suite =>
    have S : PSs ((toldCx P w K mg base fa cdv A outer s H E).suite a ((a, oe) :: pn)) suiteT _ :=
      pss_cons (ps_set (i := 2) sc_ltd.nd rfl (.inl rfl) (pe_or (pe_callB (cr_isET (X := toldCx P w K mg base fa cdv A outer s H E) (a := a) (pn := pn) hz hf) (by rfl) m.isi boot_isinstance (pa_cons (pv 1) (pa_cons (pe_tup (pa_cons (pe_glob (v := .ref c8.c4) (by rfl) m.c4 rfl) (pa_cons (pe_glob (v := .ref c8.c3) (by rfl) m.c3 rfl) (pa_cons (pe_glob (v := .ref c8.c1) (by rfl) m.c1 rfl) (pa_cons (pe_glob (v := .ref c8.c6) (by rfl) m.c6 rfl) (pa_cons (pe_glob (v := .ref c8.c2) (by rfl) m.c2 rfl) (pa_cons (pe_glob (v := .ref c8.c5) (by rfl) m.c5 rfl) pa_nil))))))) pa_nil)))
          (pe_one (pe_not (pe_callB (cr_isE (X := toldCx P w K mg base fa cdv A outer s H E) (a := a) (pn := pn) hz hf) (by rfl) m.isi boot_isinstance (pa_cons (pv 1) (pa_cons (pe_bltn (v := .ty "ValueError") (by rfl) m.ve (by decide +kernel) rfl) pa_nil)))))))
      (pss_cons (ps_set (i := 3) sc_ltd.nd rfl (.inl rfl) (pe_lst (pa_cons (pe_callB (cr_isE (X := toldCx P w K mg base fa cdv A outer s H E) (a := a) (pn := pn) hz hf) (by rfl) m.isi boot_isinstance (pa_cons (pv 1) (pa_cons (pe_glob (v := .ref c8.c7) (by rfl) m.c7 rfl) pa_nil))) (pa_cons (pe_callB (cr_isE (X := toldCx P w K mg base fa cdv A outer s H E) (a := a) (pn := pn) hz hf) (by rfl) m.isi boot_isinstance (pa_cons (pv 1) (pa_cons (pe_glob (v := .ref c8.c0) (by rfl) m.c0 rfl) pa_nil))) (pa_cons (pv 2) pa_nil)))))
      (pss_cons (ps_if (PW.pt (pw_or (pt_cmpR op_ne (pe_bm PySem.F.plainAttrs_list PySem.F.slot_list_count PySem.F.type_list_count mt_countB (pv 3) (pa_cons pe_bl pa_nil)) pe_int (nomark _)) (pw_or1 (pt_val (pe_ix (r := rIxL K) ix_list (pv 3) pe_int (fun _ _ => rfl)))))) (pss_one (ps_ret (pe_tup (pa_cons pe_str (pa_cons pe_int pa_nil))))) pss_nil)
      (pss_one (ps_ret (pe_ifExp (pt_val (pe_ix (r := rIxL K) ix_list (pv 3) pe_int (fun _ _ => rfl))) (pe_tup (pa_cons pe_str (pa_cons (pe_xf (X := toldCx P w K mg base fa cdv A outer s H E) xT nT hz hf (pv 1)) pa_nil))) (pe_tup (pa_cons pe_str (pa_cons (pe_xf (X := toldCx P w K mg base fa cdv A outer s H E) xF nF hz hf (pv 1)) pa_nil))))))))
    dsimp only [Cx.suite, toldCx, Cx.nox, Cx.wish, cxOf] at S
    exact S
  · show tCallS (spRead c8.c7 c8.c0) (WE _) (tCons (tVar 0) tNil) (start N_ltd [x]) H _
    refine (eas1 (ed_var (σ := start N_ltd [x]) (i := 0) rfl hx)) H (Ex.refl _) _ fun vs H1 e1 hvs => ?_
    refine read_cases hvs lz (fun C f wd j n dx H2 hc e2 hd2 hdue => ?_) fun v H2 e2 hv2 hdue => ?_
    · have e02 := e1.trans e2
      have kw : KindW K CS c8 C j := by
        rcases hc with ⟨rfl, _, _, rfl⟩ | ⟨rfl, _, _, rfl⟩
        · exact kT
        · exact kF
      have hdk : DictOk (some dx) H2 := .inr ⟨dx, _, rfl, hd2⟩
      have F := kw.exc
      rw [hdue] at q
      refine ⟨true, kw.ex, fun _ a na => ?_, fun z => nomatch z⟩
      have V1 : ∀ (u2 u3 : Option V), ([some x, some (.ref a), u2, u3] : L2.St)[1]? = some (some (.ref a)) := fun _ _ => rfl
      have j16 : ∀ i : Nat, (i = 4 ∨ i = 3 ∨ i = 1 ∨ i = 6 ∨ i = 2 ∨ i = 5) → decide (j = i) = false := fun i hi => by
        rcases hc with ⟨_, _, _, rfl⟩ | ⟨_, _, _, rfl⟩ <;> (refine decide_eq_false ?_; omega)
      try dsimp only
      refine sd_asg (d := .bool false) (ed_orV (a := false) (b := false) (ed_isET (cs := [.ref c8.c4, .ref c8.c3, .ref c8.c1, .ref c8.c6, .ref c8.c2, .ref c8.c5]) (us := [.ref c8.c4, .ref c8.c3, .ref c8.c1, .ref c8.c6, .ref c8.c2, .ref c8.c5]) (V1 _ _) F rfl (.cons (.own _) (.cons (.own _) (.cons (.own _) (.cons (.own _) (.cons (.own _) (.cons (.own _) .nil)))))) (by show 6 ≤ 1000; decide) ?_ hdk) fun _ => ed_is (ed_notV (a := true) (ed_isE (V1 _ _) F (.ty _) kw.ve hdk)) rfl) fun v2 H3 e3 g2 => ?_
      · refine kitAny_cons (b := false) (kw.k4.trans (by rw [j16 4 (by omega)])) (fun _ => ?_) (fun z => nomatch z)
        refine kitAny_cons (b := false) (kw.k3.trans (by rw [j16 3 (by omega)])) (fun _ => ?_) (fun z => nomatch z)
        refine kitAny_cons (b := false) (kw.k1.trans (by rw [j16 1 (by omega)])) (fun _ => ?_) (fun z => nomatch z)
        refine kitAny_cons (b := false) (kw.k6.trans (by rw [j16 6 (by omega)])) (fun _ => ?_) (fun z => nomatch z)
        refine kitAny_cons (b := false) (kw.k2.trans (by rw [j16 2 (by omega)])) (fun _ => ?_) (fun z => nomatch z)
        refine kitAny_cons (b := false) (kw.k5.trans (by rw [j16 5 (by omega)])) (fun _ => kitAny_nil) (fun z => nomatch z)
      try dsimp only
      have hd3 := hdk.ex e3
      refine sl_asg (ds := [decide (j = 7), decide (j = 0), false].map PyData.bool) (el_lst' (ds := [.bool (decide (j = 7)), .bool (decide (j = 0)), .bool false]) (eas3 (ed_isE (V1 _ _) F (.own _) kw.k7 hd3) (ed_isE (V1 _ _) F (.own _) kw.k0 hd3) (ed_var (i := 2) rfl g2)) (by show 3 ≤ 100000; decide)) fun p3 x3 H4 n3 e4 h3 a3 => ?_
      try dsimp only
      have dl : D H4 (.ref p3) (.list ([decide (j = 7), decide (j = 0), false].map PyData.bool)) := .lst h3 a3
      have cnt : [decide (j = 7), decide (j = 0), false].count true = 1 := by
        rcases hc with ⟨_, _, _, rfl⟩ | ⟨_, _, _, rfl⟩ <;> rfl
      refine sd_if (b := false) (et_or (a := false) (b := false) (et_D (ed_is (ed_neI (ed_cntB (ed_var (i := 3) rfl dl)) (ed_ci 1)) (by rw [cnt]; rfl))) fun _ => et_DB (ed_ixL (d := .bool false) (i := 2) (ed_var (i := 3) rfl dl) (ed_ci 2) rfl)) (fun z => nomatch z) fun _ H5 e5 => ?_
      refine st_next ?_
      try dsimp only
      have d5 := dl.mono e5
      have hx5 := e5 _ _ (e4 _ _ (e3 _ _ hd2))
      refine sd_ret (d := .tuple [.str wd, .int ((n : Nat) : Int)]) (ed_if (b := decide (j = 7)) (et_DB (ed_ixL (d := .bool (decide (j = 7))) (i := 0) (ed_var (i := 3) rfl d5) (ed_ci 0) rfl)) (fun z => ?_) (fun z => ?_)) fun v H6 e6 hv6 => q v H6 ((((e02.trans e3).trans e4).trans e5).trans e6) hv6
      · rcases hc with ⟨rfl, rfl, rfl, rfl⟩ | ⟨_, _, _, rfl⟩
        · exact ed_tup (ds := [.str "row", .int ((n : Nat) : Int)]) (eas2 (ed_cs _) (ed_xf (V1 _ _) hx5)) (by show 2 ≤ 100000; decide)
        · cases z
      · rcases hc with ⟨_, _, _, rfl⟩ | ⟨rfl, rfl, rfl, rfl⟩
        · cases z
        · exact ed_tup (ds := [.str "family", .int ((n : Nat) : Int)]) (eas2 (ed_cs _) (ed_xf (V1 _ _) hx5)) (by show 2 ≤ 100000; decide)
    · rw [hdue] at q
      refine ⟨by show 2 ≤ sizeLine; decide, fun t nt => ?_⟩
      exact q (.ref t) _ ((e1.trans e2).trans (Ex.new nt)) (.tup upd_same (.cons (.str _) (DA.one (hv2.mono (Ex.new nt)))))
end
end KS
end
noncomputable section
namespace KS
open PySem PySem.Spec PyProof.Rows L2 Evl
open PySem.Froz (sing)
/-! ### a list that stays while the drawing goes on -/
def LsA (a b : Addr) (H : Hp) (p : Addr) (ds : List PyData) : Prop := p ≠ a ∧ p ≠ b ∧ flatTs ds = true ∧ ∃ xs, H p = some (.lst xs) ∧ DA H xs ds
theorem LsA.d {a b : Addr} {H : Hp} {p : Addr} {ds : List PyData} (h : LsA a b H p ds) : D H (.ref p) (.list ds) := by
  obtain ⟨_, _, _, xs, h1, h2⟩ := h
  exact .lst h1 h2
theorem LsA.off {a b : Addr} {H H' : Hp} {p : Addr} {ds : List PyData} (h : LsA a b H p ds) (hs : HS a b H) (o : Off a b H H') : LsA a b H' p ds := by
  obtain ⟨h1, h2, h3, xs, h4, h5⟩ := h
  exact ⟨h1, h2, h3, xs, o _ _ h1 h2 h4, h5.keep (hs.tu o) h3⟩
theorem LsA.ex {a b : Addr} {H H' : Hp} {p : Addr} {ds : List PyData} (h : LsA a b H p ds) (e : Ex H H') : LsA a b H' p ds := by
  obtain ⟨h1, h2, h3, xs, h4, h5⟩ := h
  exact ⟨h1, h2, h3, xs, e _ _ h4, h5.mono e⟩
theorem LsA.of {a b : Addr} {H H' : Hp} {p : Addr} {xs : List V} {ds : List PyData} (hs : HS a b H) (n : H p = none) (f : flatTs ds = true) (h : H' p = some (.lst xs)) (d : DA H' xs ds) : LsA a b H' p ds :=
  ⟨(hs.ne n).1, (hs.ne n).2, f, xs, h, d⟩
def rInt13 : List V → Hp → VK → Prop := fun xs H Q => (∃ i, xs = [.int i] ∧ Q (.int i) H) ∨ ∃ k, xs = [.bl k] ∧ Q (.int (if k then 1 else 0)) H
section
variable {K : PySem.W.Frag} {σ : L2.St} {H : Hp} {ta tb te : TE} {d : PyData} {ds : List PyData} {x : V}
theorem ed_int13 {b : Bool} (ha : ED ta σ H (.bool b)) : ED (tCB rInt13 (tCons ta tNil)) σ H (.int (if b then 1 else 0)) := fun H1 e Q q => ha H1 e _ fun x H2 e2 hx => .inr ⟨b, by rw [hx.toBool], q _ H2 e2 (.int _)⟩
theorem ed_kk (h : D H x d) : ED (tC x) σ H d := fun H1 e Q q => q x H1 (Ex.refl _) (h.mono e)
end
theorem tLst3 {ta tb tc : TE} {σ : L2.St} {H : Hp} {Q : VK} (h : ta σ H fun x H1 => tb σ H1 fun y H2 => tc σ H2 fun z H3 => 3 ≤ sizeLine ∧ ∀ p, H3 p = none → Q (.ref p) (upd H3 p (.lst [x, y, z]))) : tLst (tCons ta (tCons tb (tCons tc tNil))) σ H Q := h
theorem tLst1 {ta : TE} {σ : L2.St} {H : Hp} {Q : VK} (h : ta σ H fun x H1 => 1 ≤ sizeLine ∧ ∀ p, H1 p = none → Q (.ref p) (upd H1 p (.lst [x]))) : tLst (tCons ta tNil) σ H Q := h
theorem tOp_i {r : R2} {ta tb : TE} {σ : L2.St} {H : Hp} {Q : VK} (h : ta σ H fun x H1 => tb σ H1 fun y H2 => r x y H2 Q) : tOp r ta tb σ H Q := h
theorem wt_at : ∀ {a : List (List Nat)} {k : Nat} {r : List Nat}, a[k]? = some r → wt (a.take k) + (r.length + 1) + wt (a.drop (k + 1)) = wt a
  | [], k, r, h => by simp at h
  | x :: a, 0, r, h => by
    have : x = r := by simpa using h
    subst this
    show 0 + (x.length + 1) + wt a = x.length + 1 + wt a
    omega
  | x :: a, k + 1, r, h => by
    have ih := wt_at (a := a) (k := k) (r := r) (by simpa using h)
    show x.length + 1 + wt (a.take k) + (r.length + 1) + wt (a.drop (k + 1)) = x.length + 1 + wt a
    omega
theorem wt_cut (a : List (List Nat)) (k : Nat) : wt (a.take k) + wt (a.drop k) = wt a := by
  have := wt_app (a.take k) (a.drop k)
  rw [List.take_append_drop] at this
  exact this.symm
def sigs : List Nat := [48, 49, 50, 51, 52, 53, 54, 55, 56, 57, 97, 98, 99, 100, 101, 102, 42, 44, 45, 32, 103, 107]
def odds : List (List Nat) := [[], [45], [48], [48, 42], [48, 44, 49], [49, 42, 44, 48], [48, 42, 42], [42], [44], [97, 98], [98, 97], [97, 97], [103], [52], [57], [49, 48], [107, 105, 110, 100], [75, 105, 110, 100]]
theorem sigs_asc : Asc sigs := by
  intro c hc
  simp only [sigs, List.mem_cons, List.not_mem_nil, or_false] at hc
  omega
theorem odds_ok : ∀ r ∈ odds, r.length ≤ 4 ∧ ∀ c ∈ r, c < 128 := by decide
/-! ### _law_changed -/
section
variable {P : Program} {w : World} {K : PySem.W.Frag} {mg : Str → Option Value} {base : Heap}
abbrev N_lch : List Str := ["_law_h", "_law_text_here", "_law_turn", "_law_at", "_law_sign", "_law_rows", "_law_k", "_law_other", "_law_some", "_law_words", "_law_j", "_law_odd"]
theorem sc_lch : FnScope N_lch ["_law_h", "_law_text_here"] (defScope s_law_changed) := ⟨rfl, rfl, rfl, by decide +kernel, rfl, by decide +kernel, by decide +kernel⟩
def spTxC : Sp := fun vs H Q _ => ∃ (a b : Addr) (l : List Nat), vs = [.ref a, .str (txt l)] ∧ HS a b H ∧ Asc l ∧ l.length ≤ 3000 ∧ ∀ l' H', Off a b H H' → HS a b H' → Asc l' → l'.length ≤ 2 * l.length + 10 → Q (.str (txt l')) H'
set_option maxHeartbeats 8000000 in
theorem ok_lch (B : Bt mg) (d : Df K mg "_law_changed" s_law_changed ["_law_h", "_law_text_here"]) (cN : Cl P w K mg base "_law_next" ["_law_h", "_law_many"] 1 spNext) : Cl P w K mg base "_law_changed" ["_law_h", "_law_text_here"] 2 spTxC := by
  refine d.ok sc_lch (fun vs H Q E h => by obtain ⟨_, _, _, rfl, _⟩ := h; rfl) (fun fa cdv A outer s H vs Q E hr h => ?_)
  obtain ⟨a, b, l, rfl, hs, al, lz, q⟩ := h
  refine ⟨_, pss_cons (ps_set (i := 2) sc_lch.nd rfl (.inl rfl) (pe_cl cN hr (pa_cons (pv 0) (pa_cons pe_int pa_nil))))
    (pss_cons (ps_set (i := 3) sc_lch.nd rfl (.inl rfl) (pe_cl cN hr (pa_cons (pv 0) (pa_cons (pe_op op_add (pe_callB call_len rfl B.len PySem.boot_len (pa_cons (pv 1) pa_nil)) pe_int) pa_nil))))
    (pss_cons (ps_set (i := 4) sc_lch.nd rfl (.inl rfl) (pe_ix (r := rIxS) ix_str pe_str (pe_cl cN hr (pa_cons (pv 0) (pa_cons pe_int pa_nil))) (fun _ _ => rfl)))
    (pss_cons (ps_if (pt_cmpR op_lt (pv 2) pe_int (nomark _)) (pss_one (ps_ret (pe_op op_add_str (pe_op op_add_str (pe_slice sl_str (pv 1) po_none (po_some (pv 3))) (pe_ix (r := rIxL K) ix_list (pe_lst (pa_cons (pv 4) (pa_cons pe_str (pa_cons (pv 4) pa_nil)))) (pv 2) (fun _ _ => rfl)))
        (pe_slice sl_str (pv 1) (po_some (pe_op op_add (pv 3) (pe_callTy (show CallR _ _ rInt13 from call_int1) rfl B.int boot_int (pa_cons (pe_cmpR op_gt (pv 2) pe_int (nomark _)) pa_nil)))) po_none)))) pss_nil)
    (pss_cons (ps_set (i := 5) sc_lch.nd rfl (.inl rfl) (show PE _ _ (tM1 rSpl _ _) from pe_split (pv 1) pe_str))
    (pss_cons (ps_set (i := 6) sc_lch.nd rfl (.inl rfl) (pe_cl cN hr (pa_cons (pv 0) (pa_cons (pe_callB call_len rfl B.len PySem.boot_len (pa_cons (pv 5) pa_nil)) pa_nil))))
    (pss_cons (ps_if (pt_cmpR op_lt (pv 2) pe_int (nomark _))
      (pss_cons (ps_set (i := 7) sc_lch.nd rfl (.inl rfl) (pe_cl cN hr (pa_cons (pv 0) (pa_cons (pe_callB call_len rfl B.len PySem.boot_len (pa_cons (pv 5) pa_nil)) pa_nil))))
      (pss_cons (ps_set (i := 8) sc_lch.nd rfl (.inl rfl) (pe_lst (pa_cons (pe_op op_cat (pe_slice sl_list (pv 5) po_none (po_some (pv 6))) (pe_slice sl_list (pv 5) (po_some (pe_op op_add (pv 6) pe_int)) po_none))
          (pa_cons (pe_op op_cat (pe_op op_cat (pe_slice sl_list (pv 5) po_none (po_some (pv 6))) (pe_slice sl_list (pv 5) (po_some (pv 6)) (po_some (pe_op op_add (pv 6) pe_int)))) (pe_slice sl_list (pv 5) (po_some (pv 6)) po_none))
          (pa_cons (pe_op op_cat (pe_slice sl_list (pv 5) po_none (po_some (pv 7))) (pe_slice sl_list (pv 5) (po_some (pv 6)) po_none)) pa_nil)))))
      (pss_one (ps_ret (show PE _ _ (tM1 (rJn K) _ _) from pe_join pe_str (pe_ix (r := rIxL K) ix_list (pv 8) (pe_op op_sub (pv 2) pe_int) (fun _ _ => rfl))))))) pss_nil)
    (pss_cons (ps_set (i := 9) sc_lch.nd rfl (.inl rfl) (show PE _ _ (tM1 rSpl _ _) from pe_split (pe_ix (r := rIxL K) ix_list (pv 5) (pv 6) (fun _ _ => rfl)) pe_str))
    (pss_cons (ps_set (i := 10) sc_lch.nd rfl (.inl rfl) (pe_cl cN hr (pa_cons (pv 0) (pa_cons (pe_callB call_len rfl B.len PySem.boot_len (pa_cons (pv 9) pa_nil)) pa_nil))))
    (pss_cons (ps_set (i := 11) sc_lch.nd rfl (.inl rfl) (pe_lst (pa_cons pe_str (pa_cons pe_str (pa_cons pe_str (pa_cons pe_str (pa_cons pe_str (pa_cons pe_str (pa_cons pe_str (pa_cons pe_str (pa_cons pe_str (pa_cons pe_str (pa_cons pe_str (pa_cons pe_str (pa_cons pe_str (pa_cons pe_str (pa_cons pe_str (pa_cons pe_str (pa_cons pe_str (pa_cons pe_str pa_nil))))))))))))))))))))
    (pss_cons (ps_set (i := 9) sc_lch.nd rfl (.inl rfl) (pe_op op_cat (pe_op op_cat (pe_slice sl_list (pv 9) po_none (po_some (pv 10))) (pe_ix (r := rIxL K) ix_list (pe_lst (pa_cons (pe_lst pa_nil) (pa_cons (pe_lst (pa_cons (pe_ix (r := rIxL K) ix_list (pv 9) (pv 10) (fun _ _ => rfl)) (pa_cons (pe_ix (r := rIxL K) ix_list (pv 9) (pv 10) (fun _ _ => rfl)) pa_nil)))
        (pa_cons (pe_lst (pa_cons (pe_ix (r := rIxL K) ix_list (pv 11) (pe_cl cN hr (pa_cons (pv 0) (pa_cons pe_int pa_nil))) (fun _ _ => rfl)) pa_nil)) pa_nil)))) (pe_op op_sub (pv 2) pe_int) (fun _ _ => rfl))) (pe_slice sl_list (pv 9) (po_some (pe_op op_add (pv 10) pe_int)) po_none)))
    (pss_one (ps_ret (show PE _ _ (tM1 (rJn K) _ _) from pe_join pe_str (pe_op op_cat (pe_op op_cat (pe_slice sl_list (pv 5) po_none (po_some (pv 6))) (pe_lst (pa_cons (show PE _ _ (tM1 (rJn K) _ _) from pe_join pe_str (pv 9)) pa_nil))) (pe_slice sl_list (pv 5) (po_some (pe_op op_add (pv 6) pe_int)) po_none))))))))))))))), ?_⟩
  have lz' : l.length ≤ 10000 := by omega
  have eT : ∀ (σ : L2.St) (H : Hp), σ[1]? = some (some (.str (txt l))) → ED (tVar 1) σ H (.str (txt l)) := fun σ H h => ed_var (i := 1) h (.str _)
  refine ⟨.ref a, rfl, a, b, 9, rfl, hs, by decide, by decide, fun tn H1 off1 hs1 t0 t9 => ?_⟩
  try dsimp only
  refine ⟨.ref a, rfl, ?_⟩
  refine (ed_I0 (d := .int (((l.length : Nat) : Int) + 1)) (ed_lenTx lz' (eT [some (.ref a), some (.str (txt l)), some (.int tn), none, none, none, none, none, none, none, none, none] H1 rfl)) (ed_ci 1) fun H => .int _) H1 (Ex.refl _) _ fun v H2 e2 g2 => ?_
  obtain rfl := g2.toInt
  refine ⟨a, b, _, rfl, hs1.ex e2, by omega, by omega, fun at_ H3 off3 hs3 a0 a1 => ?_⟩
  try dsimp only
  refine ⟨.ref a, rfl, a, b, 22, rfl, hs3, by decide, by decide, fun r4 H4 off4 hs4 r40 r41 => ?_⟩
  obtain ⟨c, hc, cm⟩ : ∃ c, atI sigs r4 = some c ∧ c ∈ sigs := by
    have lt : r4.toNat < sigs.length := by show r4.toNat < 22; omega
    have := atI_nat (xs := sigs) (j := r4.toNat) (v := sigs[r4.toNat]) (List.getElem?_eq_getElem lt)
    rw [show ((r4.toNat : Nat) : Int) = r4 by omega] at this
    exact ⟨_, this, List.getElem_mem _⟩
  refine ⟨txt sigs, r4, c, rfl, rfl, by show 22 ≤ 16777216; decide, hc, ?_⟩
  have c128 := sigs_asc c cm
  have off04 : Off a b H H4 := ((off1.trans (Off.ex e2)).trans off3).trans off4
  try dsimp only
  refine sd_if (b := decide (tn < 3)) (et_D (ed_I0 (d := .bool (decide (tn < 3))) (ed_var (i := 2) rfl (.int tn)) (ed_ci 3) fun H => .bl _)) (fun hb H5 e5 => ?_) (fun hb H5 e5 => ?_)
  · have t3 := of_decide_eq_true hb
    try dsimp only
    generalize hm : (if tn = 1 then ([] : List Nat) else [c]) = m
    have ml : m.length ≤ 1 := by rw [← hm]; split <;> simp
    have ma : Asc m := by
      rw [← hm]; split
      · intro z hz; cases hz
      · intro z hz; rw [List.mem_singleton] at hz; subst hz; exact c128
    have at0 : (0 : Int) ≤ at_ + (if decide (0 < tn) = true then 1 else 0) := by split <;> omega
    refine sd_ret (d := .str (txt (l.take at_.toNat ++ m ++ l.drop (at_ + (if decide (0 < tn) = true then 1 else 0)).toNat))) (ed_addW (by rw [List.length_append, List.length_take, List.length_drop]; omega) (ed_addW (by rw [List.length_take]; omega) (ed_cutTo lz' a0 (eT _ _ rfl) (ed_var (i := 3) rfl (.int at_))) (ed_ixL (d := encW m) (ds := [encW [c], encW [], encW [c]]) (i := tn) (EL.ed (el_lst' (eas3 (ed_var (i := 4) rfl (.str _)) (ed_cst rfl) (ed_var (i := 4) rfl (.str _))) (by show 3 ≤ 100000; decide))) (ed_var (i := 2) rfl (.int tn)) ?_)) (ed_cutFrom lz' at0 (eT _ _ rfl) (ed_I0 (d := .int (at_ + (if decide (0 < tn) = true then 1 else 0))) (ed_var (i := 3) rfl (.int at_)) (ed_int13 (b := decide (0 < tn)) (ed_I0 (d := .bool (decide (0 < tn))) (ed_var (i := 2) rfl (.int tn)) (ed_ci 0) fun H => .bl _)) fun H => .int _))) fun v H6 e6 hv => ?_
    · rw [← hm]
      have : tn = 0 ∨ tn = 1 ∨ tn = 2 := by omega
      rcases this with z | z | z <;> subst z <;> rfl
    · have ev := hv.toStr
      subst ev
      refine q _ H6 ((off04.trans (Off.ex e5)).trans (Off.ex e6)) ((hs4.ex e5).ex e6) (((al.take _).app ma).app (al.drop _)) ?_
      rw [List.length_append, List.length_append, List.length_take, List.length_drop]
      omega
  have t3 : ¬ tn < 3 := of_decide_eq_false hb
  refine st_next ?_
  try dsimp only
  generalize hR : splitL 10 l = R
  have wR : wt R = l.length + 1 := by rw [← hR]; exact wt_split 10 l
  have aR : Ascs R := by rw [← hR]; exact al.split
  have nR : 0 < R.length := by
    have := splitL_ne 10 l
    rw [hR] at this
    exact List.length_pos_iff.mpr this
  have lR : R.length ≤ 3001 := by have := wt_len R; omega
  have hs5 := hs4.ex e5
  refine sl_asg (ds := R.map encW) (el_is (el_splitW (s := 10) (l := l) (by decide) (by omega) (eT _ _ rfl) (ed_cst rfl)) (by rw [hR])) fun p5 x5 H6 n5 e6 h5 a5 => ?_
  have L6 : LsA a b H6 p5 (R.map encW) := LsA.of hs5 n5 (flat_Ws R) h5 a5
  have hs6 := hs5.ex e6
  try dsimp only
  refine ⟨.ref a, rfl, ?_⟩
  refine (ed_lenL (K := K) (ds := R.map encW) (ed_var (σ := [some (.ref a), some (.str (txt l)), some (.int tn), some (.int at_), some (.str ⟨#[c]⟩), some (.ref p5), none, none, none, none, none, none]) (i := 5) rfl L6.d)) H6 (Ex.refl _) _ fun v H7 e7 g7 => ?_
  obtain rfl := g7.toInt
  rw [List.length_map]
  refine ⟨a, b, _, rfl, hs6.ex e7, by omega, by omega, fun kk H8 off8 hs8 k0 k1 => ?_⟩
  have L8 : LsA a b H8 p5 (R.map encW) := (L6.ex e7).off (hs6.ex e7) off8
  have off08 : Off a b H H8 := (((off04.trans (Off.ex e5)).trans (Off.ex e6)).trans (Off.ex e7)).trans off8
  obtain ⟨k, rfl⟩ : ∃ k : Nat, kk = (k : Int) := ⟨kk.toNat, by omega⟩
  have kl : k < R.length := by omega
  obtain ⟨r, hr'⟩ : ∃ r, R[k]? = some r := ⟨_, List.getElem?_eq_getElem kl⟩
  have rm := List.mem_of_getElem? hr'
  have wk := wt_at hr'
  have wm := wt_mem rm
  clear a1 a0 r40 r41 hc cm off1 off3 off4 hs1 hs3 hs4 hs5 e2 e5 e6 e7 L6 h5 a5 n5 off04 hs6
  try dsimp only
  refine sd_if (b := decide (tn < 6)) (et_D (ed_I0 (d := .bool (decide (tn < 6))) (ed_var (i := 2) rfl (.int tn)) (ed_ci 6) fun H => .bl _)) (fun hb H9 e9 => ?_) (fun hb H9 e9 => ?_)
  · have t6 := of_decide_eq_true hb
    have L9 := L8.ex e9
    have hs9 := hs8.ex e9
    try dsimp only
    refine ⟨.ref a, rfl, ?_⟩
    refine (ed_lenL (K := K) (ds := R.map encW) (ed_var (σ := [some (.ref a), some (.str (txt l)), some (.int tn), some (.int at_), some (.str ⟨#[c]⟩), some (.ref p5), some (.int (k : Int)), none, none, none, none, none]) (i := 5) rfl L9.d)) H9 (Ex.refl _) _ fun v Ha ea ga => ?_
    obtain rfl := ga.toInt
    rw [List.length_map]
    refine ⟨a, b, _, rfl, hs9.ex ea, by omega, by omega, fun oo Hb offb hsb o0 o1 => ?_⟩
    have Lb : LsA a b Hb p5 (R.map encW) := (L9.ex ea).off (hs9.ex ea) offb
    have off0b : Off a b H Hb := ((off08.trans (Off.ex e9)).trans (Off.ex ea)).trans offb
    try dsimp only
    have lz3 : ∀ (i j : Nat), (R.take i).length + (R.drop j).length ≤ 10000 := fun i j => by rw [List.length_take, List.length_drop]; omega
    have T5 : ∀ (y7 y8 : Option V), ED (tVar 5) [some (.ref a), some (.str (txt l)), some (.int tn), some (.int at_), some (.str ⟨#[c]⟩), some (.ref p5), some (.int (k : Int)), y7, y8, none, none, none] Hb (.list (R.map encW)) := fun y7 y8 => ed_var (i := 5) rfl Lb.d
    have T6 : ∀ (y7 y8 : Option V), ED (tVar 6) [some (.ref a), some (.str (txt l)), some (.int tn), some (.int at_), some (.str ⟨#[c]⟩), some (.ref p5), some (.int (k : Int)), y7, y8, none, none, none] Hb (.int (k : Int)) := fun y7 y8 => ed_var (i := 6) rfl (.int _)
    have T61 : ∀ (y7 y8 : Option V), ED (tOp (rI0 fun i j => .int (i + j)) (tVar 6) (tC (.int 1))) [some (.ref a), some (.str (txt l)), some (.int tn), some (.int at_), some (.str ⟨#[c]⟩), some (.ref p5), some (.int (k : Int)), y7, y8, none, none, none] Hb (.int ((k : Int) + 1)) := fun y7 y8 => ed_I0 (d := .int ((k : Int) + 1)) (T6 y7 y8) (ed_ci 1) fun H => .int _
    have ck : (R.map encW).take ((k : Int)).toNat = (R.take k).map encW := by rw [Int.toNat_natCast, List.map_take]
    have cd : (R.map encW).drop ((k : Int)).toNat = (R.drop k).map encW := by rw [Int.toNat_natCast, List.map_drop]
    have cd1 : (R.map encW).drop ((k : Int) + 1).toNat = (R.drop (k + 1)).map encW := by rw [show ((k : Int) + 1).toNat = k + 1 by omega, List.map_drop]
    have co : (R.map encW).take oo.toNat = (R.take oo.toNat).map encW := by rw [List.map_take]
    have c1 : ((R.map encW).drop k).take 1 = ((R.drop k).take 1).map encW := by rw [List.map_take, List.map_drop]
    generalize hS : [R.take k ++ R.drop (k + 1), R.take k ++ (R.drop k).take 1 ++ R.drop k, R.take oo.toNat ++ R.drop k] = S
    refine sl_asg (ds := S.map fun ls => .list (ls.map encW)) (el_is (el_lst' (ds := [.list ((R.take k ++ R.drop (k + 1)).map encW), .list ((R.take k ++ (R.drop k).take 1 ++ R.drop k).map encW), .list ((R.take oo.toNat ++ R.drop k).map encW)]) (eas3
        (EL.ed (el_is (el_cat (ds := (R.take k).map encW) (es := (R.drop (k + 1)).map encW) (EL.ed (el_is (el_slTakeL (T5 _ _) (T6 _ _) (by omega)) ck)) (EL.ed (el_is (el_slDropL (T5 _ _) (T61 _ _) (by omega)) cd1)) (by rw [List.length_map, List.length_map]; have := lz3 k (k + 1); omega)) (by rw [List.map_append])))
        (EL.ed (el_is (el_cat (ds := (R.take k ++ (R.drop k).take 1).map encW) (es := (R.drop k).map encW) (EL.ed (el_is (el_cat (ds := (R.take k).map encW) (es := ((R.drop k).take 1).map encW) (EL.ed (el_is (el_slTakeL (T5 _ _) (T6 _ _) (by omega)) ck)) (EL.ed (el_is (el_slOne (k := k) (T5 _ _) (T6 _ _) (T61 _ _)) c1)) (by rw [List.length_map, List.length_map, List.length_take, List.length_take]; omega)) (by rw [List.map_append]))) (EL.ed (el_is (el_slDropL (T5 _ _) (T6 _ _) (by omega)) cd)) (by rw [List.length_map, List.length_map, List.length_append, List.length_take, List.length_take, List.length_drop]; omega)) (by rw [List.map_append (l₁ := R.take k ++ (R.drop k).take 1)])))
        (EL.ed (el_is (el_cat (ds := (R.take oo.toNat).map encW) (es := (R.drop k).map encW) (EL.ed (el_is (el_slTakeL (T5 _ _) (ed_var (i := 7) rfl (.int oo)) o0) co)) (EL.ed (el_is (el_slDropL (T5 _ _) (T6 _ _) (by omega)) cd)) (by rw [List.length_map, List.length_map]; have := lz3 oo.toNat k; omega)) (by rw [List.map_append])))) (by show 3 ≤ 100000; decide)) (by rw [← hS]; rfl)) fun p8 x8 Hc n8 ec h8 a8 => ?_
    try dsimp only
    obtain ⟨i, hi, ti⟩ : ∃ i : Nat, i < 3 ∧ tn - 3 = (i : Int) := ⟨(tn - 3).toNat, by omega, by omega⟩
    have Sl : S.length = 3 := by rw [← hS]; rfl
    obtain ⟨ls, hls⟩ : ∃ ls, S[i]? = some ls := ⟨_, List.getElem?_eq_getElem (by omega)⟩
    have lsm := List.mem_of_getElem? hls
    have hls2 : Ascs ls ∧ wt ls ≤ 2 * l.length + 2 := by
      have ww := wt_cut R k
      have w1 := wt_take (R.drop k) 1
      have w2 := wt_take R oo.toNat
      have w3 := wt_drop R k
      rw [← hS] at lsm
      simp only [List.mem_cons, List.not_mem_nil, or_false] at lsm
      rcases lsm with rfl | rfl | rfl
      · exact ⟨(aR.take _).app (aR.drop _), by rw [wt_app]; omega⟩
      · exact ⟨((aR.take _).app ((aR.drop _).take _)).app (aR.drop _), by rw [wt_app, wt_app]; omega⟩
      · exact ⟨(aR.take _).app (aR.drop _), by rw [wt_app]; omega⟩
    refine sd_ret (d := .str (txt (TL.joinL [10] ls))) (ed_joinW (K := K) (by omega) (ed_cst rfl) (ed_ixL (ds := S.map fun ls => .list (ls.map encW)) (i := (i : Int)) (ed_var (i := 8) rfl (.lst h8 a8)) (ed_is (ed_I0 (d := .int (tn - 3)) (ed_var (i := 2) rfl (.int tn)) (ed_ci 3) fun H => .int _) (by rw [ti])) (atI_nat (by rw [List.getElem?_map, hls]; rfl)))) fun v Hd ed hv => ?_
    have ev := hv.toStr
    subst ev
    have jw := (wt_join 10 ls).1
    exact q _ Hd ((off0b.trans (Off.ex ec)).trans (Off.ex ed)) ((hsb.ex ec).ex ed) (Ascs.join (by decide) hls2.1) (by omega)
  have t6 : ¬ tn < 6 := of_decide_eq_false hb
  have L9 := L8.ex e9
  have hs9 := hs8.ex e9
  refine st_next ?_
  try dsimp only
  generalize hW : splitL 32 r = W
  have wW : wt W = r.length + 1 := by rw [← hW]; exact wt_split 32 r
  have aW : Ascs W := by rw [← hW]; exact (aR r rm).split
  have nW : 0 < W.length := by
    have := splitL_ne 32 r
    rw [hW] at this
    exact List.length_pos_iff.mpr this
  have lW : W.length ≤ 3001 := by have := wt_len W; omega
  refine sl_asg (ds := W.map encW) (el_is (el_splitW (s := 32) (l := r) (by decide) (by omega) (ed_ixL (d := encW r) (ds := R.map encW) (i := (k : Int)) (ed_var (i := 5) rfl L9.d) (ed_var (i := 6) rfl (.int _)) (atI_nat (by rw [List.getElem?_map, hr']; rfl))) (ed_cst rfl)) (by rw [hW])) fun p9 x9 Ha n9 ea h9 a9 => ?_
  have La := L9.ex ea
  have hsa := hs9.ex ea
  have Wa : LsA a b Ha p9 (W.map encW) := LsA.of hs9 n9 (flat_Ws W) h9 a9
  try dsimp only
  refine ⟨.ref a, rfl, ?_⟩
  refine (ed_lenL (K := K) (ds := W.map encW) (ed_var (σ := [some (.ref a), some (.str (txt l)), some (.int tn), some (.int at_), some (.str ⟨#[c]⟩), some (.ref p5), some (.int (k : Int)), none, none, some (.ref p9), none, none]) (i := 9) rfl Wa.d)) Ha (Ex.refl _) _ fun v Hb eb gb => ?_
  obtain rfl := gb.toInt
  rw [List.length_map]
  refine ⟨a, b, _, rfl, hsa.ex eb, by omega, by omega, fun jj Hc offc hsc j0 j1 => ?_⟩
  have Lc : LsA a b Hc p5 (R.map encW) := (La.ex eb).off (hsa.ex eb) offc
  have Wc : LsA a b Hc p9 (W.map encW) := (Wa.ex eb).off (hsa.ex eb) offc
  have off0c : Off a b H Hc := (((off08.trans (Off.ex e9)).trans (Off.ex ea)).trans (Off.ex eb)).trans offc
  obtain ⟨j, rfl⟩ : ∃ j : Nat, jj = (j : Int) := ⟨jj.toNat, by omega⟩
  have jl : j < W.length := by omega
  obtain ⟨u, hu'⟩ : ∃ u, W[j]? = some u := ⟨_, List.getElem?_eq_getElem jl⟩
  have um := List.mem_of_getElem? hu'
  have wu := wt_at hu'
  have wum := wt_mem um
  clear L8 L9 La Wa hs8 hs9 hsa off08 e9 ea eb offc h9 a9 n9
  try dsimp only
  refine sl_asg (ds := odds.map encW) (el_lst' (ds := odds.map encW) (eas_cons (ed_cst rfl) (eas_cons (ed_cst rfl) (eas_cons (ed_cst rfl) (eas_cons (ed_cst rfl) (eas_cons (ed_cst rfl) (eas_cons (ed_cst rfl) (eas_cons (ed_cst rfl) (eas_cons (ed_cst rfl) (eas_cons (ed_cst rfl) (eas_cons (ed_cst rfl) (eas_cons (ed_cst rfl) (eas_cons (ed_cst rfl) (eas_cons (ed_cst rfl) (eas_cons (ed_cst rfl) (eas_cons (ed_cst rfl) (eas_cons (ed_cst rfl) (eas2 (ed_cst rfl) (ed_cst rfl)))))))))))))))))) (by show 18 ≤ 100000; decide)) fun po xo Hd no ed ho ao => ?_
  try dsimp only
  have Ld := Lc.ex ed
  have Wd := Wc.ex ed
  have hsd := hsc.ex ed
  have Od : LsA a b Hd po (odds.map encW) := LsA.of hsc no (flat_Ws odds) ho ao
  have off0d := off0c.trans (Off.ex ed)
  have cj : (W.map encW).take ((j : Int)).toNat = (W.take j).map encW := by rw [Int.toNat_natCast, List.map_take]
  refine (el_is (el_slTakeL (K := K) (ed_var (σ := [some (.ref a), some (.str (txt l)), some (.int tn), some (.int at_), some (.str ⟨#[c]⟩), some (.ref p5), some (.int (k : Int)), none, none, some (.ref p9), some (.int (j : Int)), some (.ref po)]) (i := 9) rfl Wd.d) (ed_var (i := 10) rfl (.int (j : Int))) (by omega)) cj) Hd (Ex.refl _) _ fun pq xq He nq ee hq haq => ?_
  have hse := hsd.ex ee
  have Qe : LsA a b He pq ((W.take j).map encW) := LsA.of hsd nq (flat_Ws _) hq haq
  refine tOp_i (tLst3 ?_)
  refine (el_lst' (σ := [some (.ref a), some (.str (txt l)), some (.int tn), some (.int at_), some (.str ⟨#[c]⟩), some (.ref p5), some (.int (k : Int)), none, none, some (.ref p9), some (.int (j : Int)), some (.ref po)]) (ds := []) eas_nil (by decide)) He (Ex.refl _) _ fun p1 x1 Hf n1 ef h1 a1 => ?_
  have hsf := hse.ex ef
  have F1 : LsA a b Hf p1 (([] : List (List Nat)).map encW) := LsA.of hse n1 rfl h1 a1
  have Wf := (Wd.ex ee).ex ef
  have eu : ED (tOp (rIxL K) (tVar 9) (tVar 10)) [some (.ref a), some (.str (txt l)), some (.int tn), some (.int at_), some (.str ⟨#[c]⟩), some (.ref p5), some (.int (k : Int)), none, none, some (.ref p9), some (.int (j : Int)), some (.ref po)] Hf (encW u) := ed_ixL (ds := W.map encW) (i := (j : Int)) (ed_var (i := 9) rfl Wf.d) (ed_var (i := 10) rfl (.int _)) (atI_nat (by rw [List.getElem?_map, hu']; rfl))
  refine (el_lst' (ds := [encW u, encW u]) (eas2 eu eu) (by show 2 ≤ 100000; decide)) Hf (Ex.refl _) _ fun p2 x2 Hg n2 eg h2 a2 => ?_
  have hsg := hsf.ex eg
  have F2 : LsA a b Hg p2 ([u, u].map encW) := LsA.of hsf n2 rfl h2 a2
  refine tLst1 (tOp_i ?_)
  refine ⟨.ref po, rfl, .ref a, rfl, a, b, 18, rfl, hsg, by decide, by decide, fun r3 Hh offh hsh r30 r31 => ?_⟩
  have Oh : LsA a b Hh po (odds.map encW) := (((Od.ex ee).ex ef).ex eg).off hsg offh
  obtain ⟨o, hoo, om⟩ : ∃ o, odds[r3.toNat]? = some o ∧ o ∈ odds := by
    have lt : r3.toNat < odds.length := by show r3.toNat < 18; omega
    exact ⟨_, List.getElem?_eq_getElem lt, List.getElem_mem _⟩
  obtain ⟨_, _, _, xh, hoh, doh⟩ := Oh
  obtain ⟨z, hz1, hz2⟩ := doh.get (i := r3.toNat) (d := encW o) (by rw [List.getElem?_map, hoo]; rfl)
  have atz : atI xh r3 = some z := by
    have := atI_nat hz1
    rwa [show ((r3.toNat : Nat) : Int) = r3 by omega] at this
  refine ⟨po, xh, r3, z, rfl, rfl, SqL.of hoh, atz, ?_⟩
  refine ⟨by show 1 ≤ sizeLine; decide, fun p3 n3 => ?_⟩
  have F2h := F2.off hsg offh
  have F1h := (F1.ex eg).off hsg offh
  have Qh := ((Qe.ex ef).ex eg).off hsg offh
  have Wh := (Wf.ex eg).off hsg offh
  have Lh := (((Ld.ex ee).ex ef).ex eg).off hsg offh
  have ei : Ex Hh (upd Hh p3 (.lst [z])) := Ex.new n3
  have F3 : LsA a b (upd Hh p3 (.lst [z])) p3 ([o].map encW) := LsA.of hsh n3 rfl upd_same (DA.one (hz2.mono ei))
  have hsi := hsh.ex ei
  have off0i : Off a b H (upd Hh p3 (.lst [z])) := ((((off0d.trans (Off.ex ee)).trans (Off.ex ef)).trans (Off.ex eg)).trans offh).trans (Off.ex ei)
  have F1i := F1h.ex ei
  have F2i := F2h.ex ei
  have Qi := Qh.ex ei
  have Wi := Wh.ex ei
  have Li := Lh.ex ei
  generalize upd Hh p3 (.lst [z]) = Hi at F1i F2i F3 Qi Wi Li hsi off0i ⊢
  clear hsh hsg hsf hse hsd offh F1h F2h Qh Wh Lh F1 F2 Wf Qe Od Wd Ld hoh doh hz1 hz2 ei n3
  refine ⟨by show 3 ≤ sizeLine; decide, fun p4 n4 => ?_⟩
  have ej : Ex Hi (upd Hi p4 (.lst [.ref p1, .ref p2, .ref p3])) := Ex.new n4
  have h4 : upd Hi p4 (.lst [.ref p1, .ref p2, .ref p3]) p4 = some (.lst [.ref p1, .ref p2, .ref p3]) := upd_same
  have hsj := hsi.ex ej
  have off0j := off0i.trans (Off.ex ej)
  have F1j := F1i.ex ej
  have F2j := F2i.ex ej
  have F3j := F3.ex ej
  have Qj := Qi.ex ej
  have Wj := Wi.ex ej
  have Lj := Li.ex ej
  generalize upd Hi p4 (.lst [.ref p1, .ref p2, .ref p3]) = Hj at F1j F2j F3j Qj Wj Lj hsj off0j h4 ⊢
  clear F1i F2i F3 Qi Wi Li hsi off0i ej n4
  refine (ed_I0 (d := .int (tn - 6)) (ed_var (σ := [some (.ref a), some (.str (txt l)), some (.int tn), some (.int at_), some (.str ⟨#[c]⟩), some (.ref p5), some (.int (k : Int)), none, none, some (.ref p9), some (.int (j : Int)), some (.ref po)]) (i := 2) rfl (.int tn)) (ed_ci 6) fun H => .int _) Hj (Ex.refl _) _ fun v Hk ek gk => ?_
  obtain rfl := gk.toInt
  obtain ⟨M, pm, hM, hMa, hMw, hpm⟩ : ∃ (M : List (List Nat)) (pm : Addr), LsA a b Hk pm (M.map encW) ∧ Ascs M ∧ wt M ≤ 2 * (u.length + 1) + 5 ∧ atI [V.ref p1, V.ref p2, V.ref p3] (tn - 6) = some (.ref pm) := by
    have : tn = 6 ∨ tn = 7 ∨ tn = 8 := by omega
    rcases this with z | z | z <;> subst z
    · exact ⟨[], p1, F1j.ex ek, (fun _ h => nomatch h), Nat.zero_le _, rfl⟩
    · exact ⟨[u, u], p2, F2j.ex ek, (fun y h => by
        have : y = u := by simpa using h
        rw [this]; exact aW u um), by show u.length + 1 + (u.length + 1 + 0) ≤ _; omega, rfl⟩
    · exact ⟨[o], p3, F3j.ex ek, (fun y h => by
        have : y = o := by simpa using h
        rw [this]; exact (odds_ok o om).2), by have := (odds_ok o om).1; show o.length + 1 + 0 ≤ _; omega, rfl⟩
  refine ⟨p4, _, tn - 6, .ref pm, rfl, rfl, SqL.of (ek _ _ h4), hpm, ?_⟩
  have Qk := Qj.ex ek
  have Wk := Wj.ex ek
  have Lk := Lj.ex ek
  have hsk := hsj.ex ek
  have cj1 : (W.map encW).drop ((j : Int) + 1).toNat = (W.drop (j + 1)).map encW := by rw [show ((j : Int) + 1).toNat = j + 1 by omega, List.map_drop]
  have lM := wt_len M
  have lWt := wt_len (W.take j)
  have lWd := wt_len (W.drop (j + 1))
  have key : EL (tOp rCat (tOp rCat (tC (.ref pq)) (tC (.ref pm))) (tSl (rSlL K) (tVar 9) (tPart (tOp (rI0 fun i j => .int (i + j)) (tVar 10) (tC (.int 1)))) tNoPart)) [some (.ref a), some (.str (txt l)), some (.int tn), some (.int at_), some (.str ⟨#[c]⟩), some (.ref p5), some (.int (k : Int)), none, none, some (.ref p9), some (.int (j : Int)), some (.ref po)] Hk ((W.take j ++ M ++ W.drop (j + 1)).map encW) :=
    el_is (el_cat (ds := (W.take j ++ M).map encW) (es := (W.drop (j + 1)).map encW) (EL.ed (el_is (el_cat (ed_kk Qk.d) (ed_kk hM.d) (by rw [List.length_map, List.length_map]; omega)) (by rw [List.map_append]))) (EL.ed (el_is (el_slDropL (ed_var (i := 9) rfl Wk.d) (ed_I0 (d := .int ((j : Int) + 1)) (ed_var (i := 10) rfl (.int _)) (ed_ci 1) fun H => .int _) (by omega)) cj1)) (by rw [List.length_map, List.length_map, List.length_append]; omega)) (by rw [List.map_append (l₁ := W.take j ++ M)])
  refine key Hk (Ex.refl _) _ fun pn xn Hl nn el hn an => ?_
  try dsimp only
  have Ll := Lk.ex el
  have wN : wt (W.take j ++ M ++ W.drop (j + 1)) ≤ 2 * (r.length + 1) + 5 := by rw [wt_app, wt_app]; omega
  have aN : Ascs (W.take j ++ M ++ W.drop (j + 1)) := ((aW.take _).app hMa).app (aW.drop _)
  generalize W.take j ++ M ++ W.drop (j + 1) = N at hn an wN aN
  have jN := (wt_join 32 N).1
  have T5 : ED (tVar 5) [some (.ref a), some (.str (txt l)), some (.int tn), some (.int at_), some (.str ⟨#[c]⟩), some (.ref p5), some (.int (k : Int)), none, none, some (.ref pn), some (.int (j : Int)), some (.ref po)] Hl (.list (R.map encW)) := ed_var (i := 5) rfl Ll.d
  have ck : (R.map encW).take ((k : Int)).toNat = (R.take k).map encW := by rw [Int.toNat_natCast, List.map_take]
  have cd1 : (R.map encW).drop ((k : Int) + 1).toNat = (R.drop (k + 1)).map encW := by rw [show ((k : Int) + 1).toNat = k + 1 by omega, List.map_drop]
  have wF : wt (R.take k ++ [TL.joinL [32] N] ++ R.drop (k + 1)) ≤ 2 * l.length + 10 := by
    rw [wt_app, wt_app]
    have : wt [TL.joinL [32] N] = (TL.joinL [32] N).length + 1 := rfl
    omega
  have lT := wt_len (R.take k)
  have lD := wt_len (R.drop (k + 1))
  refine sd_ret (d := .str (txt (TL.joinL [10] (R.take k ++ [TL.joinL [32] N] ++ R.drop (k + 1))))) (ed_joinW (K := K) (by omega) (ed_cst rfl) (EL.ed (el_is (el_cat (ds := (R.take k ++ [TL.joinL [32] N]).map encW) (es := (R.drop (k + 1)).map encW) (EL.ed (el_is (el_cat (ds := (R.take k).map encW) (es := [encW (TL.joinL [32] N)]) (EL.ed (el_is (el_slTakeL T5 (ed_var (i := 6) rfl (.int _)) (by omega)) ck)) (EL.ed (el_lst' (eas1 (ed_joinW (K := K) (by omega) (ed_cst rfl) (ed_var (i := 9) rfl (.lst hn an)))) (by show 1 ≤ 100000; decide))) (by rw [List.length_map, List.length_singleton]; omega)) (by rw [List.map_append]; rfl))) (EL.ed (el_is (el_slDropL T5 (ed_I0 (d := .int ((k : Int) + 1)) (ed_var (i := 6) rfl (.int _)) (ed_ci 1) fun H => .int _) (by omega)) cd1)) (by rw [List.length_map, List.length_map, List.length_append, List.length_singleton]; omega)) (by rw [List.map_append (l₁ := R.take k ++ [TL.joinL [32] N])])))) fun v Hm em hv => ?_
  have ev := hv.toStr
  subst ev
  have jF := (wt_join 10 (R.take k ++ [TL.joinL [32] N] ++ R.drop (k + 1))).1
  have aF : Ascs (R.take k ++ [TL.joinL [32] N] ++ R.drop (k + 1)) := ((aR.take _).app fun y hy => by
    rw [List.mem_singleton] at hy
    subst hy
    exact aN.join (by decide)).app (aR.drop _)
  exact q _ Hm (((off0j.trans (Off.ex ek)).trans (Off.ex el)).trans (Off.ex em)) ((hsk.ex el).ex em) (Ascs.join (by decide) aF) (by omega)
end
end KS
end
noncomputable section
namespace KS
open PySem PySem.Spec PyProof.Rows L2 Evl
open PySem.Froz (sing)
def oneT : List Nat := [107, 105, 110, 100, 32, 45, 32, 97, 32, 48]
def odd9 : List (List Nat) := [[], [32], [107, 105, 110, 100], [107, 105, 110, 100, 32, 45, 32, 45, 32, 48], [107, 105, 110, 100, 32, 45, 32, 45, 32, 48, 10], [107, 105, 110, 100, 32, 48, 32, 97, 32, 48], [107, 105, 110, 100, 32, 45, 32, 45, 32, 52], [107, 105, 110, 100, 32, 45, 32, 98, 97, 32, 48], [107, 105, 110, 100, 32, 32, 45, 32, 97, 32, 48]]
def odd3 : List (List Nat) := [[107, 105, 110, 100, 32, 45, 32, 97, 32, 48, 10, 107, 105, 110, 100, 32, 45, 32, 97, 32, 48, 10, 107, 105, 110, 100, 32, 45, 32, 97, 32, 48, 10, 107, 105, 110, 100, 32, 45, 32, 97, 32, 48, 10, 107, 105, 110, 100, 32, 45, 32, 97, 32, 48, 10, 107, 105, 110, 100, 32, 45, 32, 97, 32, 48, 10, 107, 105, 110, 100, 32, 45, 32, 97, 32, 48, 10, 107, 105, 110, 100, 32, 45, 32, 97, 32, 48], [107, 105, 110, 100, 32, 45, 32, 97, 32, 48, 10, 107, 105, 110, 100, 32, 45, 32, 97, 32, 48, 10, 107, 105, 110, 100, 32, 48, 44, 49, 32, 45, 32, 48], [107, 105, 110, 100, 32, 45, 32, 97, 32, 48, 10, 107, 105, 110, 100, 32, 45, 32, 97, 32, 48, 10, 107, 105, 110, 100, 32, 48, 42, 44, 49, 32, 97, 32, 51]]
def odd14 : List (List Nat) := odd9 ++ [oneT ++ [32]] ++ odd3 ++ [oneT ++ [10, 107, 105, 110, 100, 32, 48, 42, 44, 48, 32, 45, 32, 48]]
theorem odd_ok : odd14.length = 14 ∧ ∀ r ∈ odd14, r.length ≤ 200 ∧ ∀ c ∈ r, c < 128 := by decide
theorem okD_due {l : List Nat} : okD 10 (dueD l) := by
  unfold dueD
  have two : ∀ (s : Str) (d : PyData), okD 9 d → okD 10 (.tuple [.str s, d]) := fun s d h => by
    refine ⟨by show 2 ≤ 40000; decide, fun x hx => ?_⟩
    rcases List.mem_cons.mp hx with rfl | hx
    · exact trivial
    · rw [List.mem_singleton] at hx; subst hx; exact h
  split
  · exact two _ _ trivial
  · split
    · exact two _ _ trivial
    · rename_i hn
      exact two _ _ (okD_F (n := 4) (famBad_none.mp hn))
section
variable {K : PySem.W.Frag} {σ : L2.St} {H : Hp} {ta tb : TE} {t1 : TA} {d : PyData}
theorem el_rep8 (h : EAs t1 σ H [d]) (hb : ED tb σ H (.int 8)) : EL (tOp rRep (tLst t1) tb) σ H [d, d, d, d, d, d, d, d] := fun H1 e Q q =>
  (el_lst' (ds := [d]) h (by show 1 ≤ 100000; decide)) H1 e _ fun p xs H2 np e2 hp ha => hb H2 (e.trans e2) _ fun y H3 e3 hy => by
    have ey := hy.toInt
    subst ey
    have xl : xs.length = 1 := ha.len
    refine ⟨p, 8, xs, rfl, rfl, e3 _ _ hp, by decide, by decide, ?_, fun p' np' => ?_⟩
    · rw [xl, sizeLine_eq]; decide
    · obtain ⟨x, rfl, hx⟩ := ha.args1
      have hx' := (hx.mono e3).mono (Ex.new (o := .lst (List.replicate (8 : Int).toNat [x]).flatten) np')
      exact q p' _ _ (fresh_back (e2.trans e3) np') ((e2.trans e3).trans (Ex.new np')) upd_same (.cons hx' (.cons hx' (.cons hx' (.cons hx' (.cons hx' (.cons hx' (.cons hx' (.cons hx' .nil))))))))
end
/-! ### the law -/
section
variable {P : Program} {w : World} {K : PySem.W.Frag} {mg : Str → Option Value} {base : Heap}
abbrev N_law : List Str := ["_law_script", "_law_h", "_law_one", "_law_odd", "_law_turn", "_law_text_here", "_law_k", "_law_some", "_law_again"]
theorem sc_law : FnScope N_law ["_law_script"] (defScope s_law) := ⟨rfl, rfl, rfl, by decide +kernel, rfl, by decide +kernel, by decide +kernel⟩
def spLaw (K : PySem.W.Frag) : Sp := fun vs H Q _ => ∃ (a : Addr) (ns : List Int), vs = [.ref a] ∧ SqL K H a (ns.map V.int) ∧ ns.length ≤ 63 ∧ ∀ H', Q (.bl true) H'
theorem ok_law {fl : Addr} {fd : FuncData} (B : Bt mg) (F : Fun K "law" "law" s_law fl fd) (cX : Cl P w K mg base "_law_mix" ["_law_script", "_law_seed"] 1 (spMix K)) (cF : Cl P w K mg base "_law_family" ["_law_h", "_law_most"] 19 spFamily) (cN : Cl P w K mg base "_law_next" ["_law_h", "_law_many"] 1 spNext)
    (cA : Cl P w K mg base "_law_alike" ["_law_found", "_law_due_here"] 11 (spD (R_alike 10))) (cT : Cl P w K mg base "_law_text" ["_law_f"] 1 (spD R_wrt)) (cC : Cl P w K mg base "_law_changed" ["_law_h", "_law_text_here"] 2 spTxC) (cTo : Cl P w K mg base "_law_told" ["_law_text_here"] 23 (spD R_ltd)) (cDu : Cl P w K mg base "_law_due" ["_law_text_here"] 20 (spD R_ldu)) :
    FnOk P w K mg base CX0 24 fl fd ["_law_script"] (spLaw K) := by
  refine F.ok sc_law (fun vs H Q E h => by obtain ⟨_, _, rfl, _⟩ := h; rfl) (fun cdv A outer s H vs Q E hr h => ?_)
  obtain ⟨sa, ns, rfl, hS, h63, q⟩ := h
  have h1 : Room 1 _ := hr.mono (by decide)
  have h2r : Room 2 _ := hr.mono (by decide)
  have h11 : Room 11 _ := hr.mono (by decide)
  have h19 : Room 19 _ := hr.mono (by decide)
  have h20 : Room 20 _ := hr.mono (by decide)
  refine ⟨_, pss_cons (ps_set (i := 1) sc_law.nd rfl (.inl rfl) (pe_cl cX h1 (pa_cons (pv 0) (pa_cons pe_int pa_nil))))
    (pss_cons (ps_set (i := 2) sc_law.nd rfl (.inl rfl) pe_str)
    (pss_cons (ps_set (i := 3) sc_law.nd rfl (.inl rfl) (pe_lst (pa_cons pe_str (pa_cons pe_str (pa_cons pe_str (pa_cons pe_str (pa_cons pe_str (pa_cons pe_str (pa_cons pe_str (pa_cons pe_str (pa_cons pe_str pa_nil)))))))))))
    (pss_cons (ps_expr (pe_bm PySem.F.plainAttrs_list PySem.F.slot_list_append PySem.F.type_list_append mt_append (pv 3) (pa_cons (pe_op op_add_str (pv 2) pe_str) pa_nil)))
    (pss_cons (ps_set (i := 3) sc_law.nd rfl (.inl rfl) (pe_op op_cat (pv 3) (pe_lst (pa_cons (show PE _ _ (tM1 (rJn K) _ _) from pe_join pe_str (pe_op op_rep (pe_lst (pa_cons (pv 2) pa_nil)) pe_int)) (pa_cons (pe_op op_add_str (pe_op op_add_str (pe_op op_add_str (pv 2) pe_str) (pv 2)) pe_str) (pa_cons (pe_op op_add_str (pe_op op_add_str (pe_op op_add_str (pv 2) pe_str) (pv 2)) pe_str) pa_nil))))))
    (pss_cons (ps_expr (pe_bm PySem.F.plainAttrs_list PySem.F.slot_list_append PySem.F.type_list_append mt_append (pv 3) (pa_cons (pe_op op_add_str (pv 2) pe_str) pa_nil)))
    (pss_cons (ps_for PassesOwn.never rfl (pi_range1 rfl B.range (pa_cons pe_int pa_nil)) (pg_name (i := 4) sc_law.nd rfl (.inl rfl))
 (pss_cons (ps_set (i := 5) sc_law.nd rfl (.inl rfl) (pe_cl cT h1 (pa_cons (pe_cl cF h19 (pa_cons (pv 1) (pa_cons pe_int pa_nil))) pa_nil)))
    (pss_cut (ps_for PassesOwn.never rfl (pi_range1 rfl B.range (pa_cons (pe_cl cN h1 (pa_cons (pv 1) (pa_cons pe_int pa_nil))) pa_nil)) (pg_name (i := 6) sc_law.nd rfl (.inl rfl))
 (pss_one (ps_set (i := 5) sc_law.nd rfl (.inl rfl) (pe_cl cC h2r (pa_cons (pv 1) (pa_cons (pv 5) pa_nil))))))
    (pss_one (ps_for PassesOwn.never rfl (pi_list (pe_lst (pa_cons (pv 5) (pa_cons (pe_ix (r := rIxL K) ix_list (pv 3) (pe_cl cN h1 (pa_cons (pv 1) (pa_cons pe_int pa_nil))) (fun _ _ => rfl)) pa_nil)))) (pg_name (i := 7) sc_law.nd rfl (.inl rfl))
 (pss_one (ps_for PassesOwn.never rfl (pi_range1 rfl B.range (pa_cons pe_int pa_nil)) (pg_name (i := 8) sc_law.nd rfl (.inl rfl))
 (pss_one (ps_if (pt_not (pt_val (pe_cl cA h11 (pa_cons (pe_cl cTo hr (pa_cons (pv 7) pa_nil)) (pa_cons (pe_cl cDu h20 (pa_cons (pv 7) pa_nil)) pa_nil))))) (pss_one (ps_ret pe_bl)) pss_nil)))))))))
    (pss_one (ps_ret pe_bl)))))))), ?_⟩
  refine ⟨.ref sa, rfl, sa, ns, 43, rfl, hS, h63, by decide, by decide, fun h b H1 n1 nb e1 hs1 => ?_⟩
  try dsimp only
  refine sd_asg (d := .str (txt oneT)) (ed_cst rfl) fun v2 H2 e2 g2 => ?_
  have ev := g2.toStr
  subst ev
  have hs2 := hs1.ex e2
  try dsimp only
  refine sl_asg (ds := odd9.map encW) (el_lst' (ds := odd9.map encW) (eas_cons (ed_cst rfl) (eas_cons (ed_cst rfl) (eas_cons (ed_cst rfl) (eas_cons (ed_cst rfl) (eas_cons (ed_cst rfl) (eas_cons (ed_cst rfl) (eas_cons (ed_cst rfl) (eas2 (ed_cst rfl) (ed_cst rfl))))))))) (by show 9 ≤ 100000; decide)) fun p3 x3 H3 n3 e3 h3 a3 => ?_
  try dsimp only
  have hs3 := hs2.ex e3
  have T2 : ∀ (σ : L2.St) (H : Hp), σ[2]? = some (some (.str (txt oneT))) → ED (tVar 2) σ H (.str (txt oneT)) := fun σ H h => ed_var (i := 2) h (.str _)
  refine ⟨.ref p3, rfl, .inl ⟨rfl, _, SqL.of h3⟩, ?_⟩
  refine (ed_addW (a := oneT) (b := [32]) (by decide) (T2 [some (.ref sa), some (.ref h), some (.str (txt oneT)), some (.ref p3), none, none, none, none, none] H3 rfl) (ed_cst rfl)) H3 (Ex.refl _) _ fun v4 H4 e4 g4 => ?_
  have h34 := e4 _ _ h3
  refine ⟨p3, x3, v4, rfl, rfl, h34, sz_lt (by rw [a3.len]; decide), ?_⟩
  have hs4 := hs3.ex e4
  have c3 := hs2.ne n3
  have hs5 : HS h b (upd H4 p3 (.lst (x3 ++ [v4]))) := hs4.put c3.1 c3.2
  have D5 : D (upd H4 p3 (.lst (x3 ++ [v4]))) (.ref p3) (.list ((odd9 ++ [oneT ++ [32]]).map encW)) := by
    have tk := tu_upd (ys := x3 ++ [v4]) h34
    rw [List.map_append]
    exact .lst upd_same (DA.append (DA.keep tk (flat_Ws _) (a3.mono e4)) (DA.one (D.keep tk rfl g4)))
  generalize upd H4 p3 (.lst (x3 ++ [v4])) = H5 at hs5 D5 ⊢
  try dsimp only
  refine sl_asg (ds := (odd9 ++ [oneT ++ [32]] ++ odd3).map encW) (el_is (el_cat (ds := (odd9 ++ [oneT ++ [32]]).map encW) (es := odd3.map encW) (ed_var (i := 3) rfl D5) (EL.ed (el_lst' (ds := odd3.map encW) (eas3 (ed_is (ed_joinW (K := K) (ls := [oneT, oneT, oneT, oneT, oneT, oneT, oneT, oneT]) (by decide) (ed_cst rfl) (EL.ed (el_rep8 (d := encW oneT) (eas1 (T2 _ _ rfl)) (ed_ci 8)))) rfl) (ed_is (ed_addW (a := oneT ++ [10] ++ oneT) (b := [10, 107, 105, 110, 100, 32, 48, 44, 49, 32, 45, 32, 48]) (by decide) (ed_addW (a := oneT ++ [10]) (b := oneT) (by decide) (ed_addW (by decide) (T2 _ _ rfl) (ed_cst rfl)) (T2 _ _ rfl)) (ed_cst rfl)) rfl) (ed_is (ed_addW (a := oneT ++ [10] ++ oneT) (b := [10, 107, 105, 110, 100, 32, 48, 42, 44, 49, 32, 97, 32, 51]) (by decide) (ed_addW (a := oneT ++ [10]) (b := oneT) (by decide) (ed_addW (by decide) (T2 _ _ rfl) (ed_cst rfl)) (T2 _ _ rfl)) (ed_cst rfl)) rfl)) (by show 3 ≤ 100000; decide))) (by rw [List.length_map, List.length_map]; decide)) (by rw [List.map_append (l₁ := odd9 ++ [oneT ++ [32]])])) fun p6 x6 H6 n6 e6 h6 a6 => ?_
  try dsimp only
  have hs6 := hs5.ex e6
  refine ⟨.ref p6, rfl, .inl ⟨rfl, _, SqL.of h6⟩, ?_⟩
  refine (ed_addW (a := oneT) (b := [10, 107, 105, 110, 100, 32, 48, 42, 44, 48, 32, 45, 32, 48]) (by decide) (T2 [some (.ref sa), some (.ref h), some (.str (txt oneT)), some (.ref p6), none, none, none, none, none] H6 rfl) (ed_cst rfl)) H6 (Ex.refl _) _ fun v7 H7 e7 g7 => ?_
  have h67 := e7 _ _ h6
  refine ⟨p6, x6, v7, rfl, rfl, h67, sz_lt (by rw [a6.len]; decide), ?_⟩
  have c6 := hs5.ne n6
  have hs8 : HS h b (upd H7 p6 (.lst (x6 ++ [v7]))) := (hs6.ex e7).put c6.1 c6.2
  have O8 : LsA h b (upd H7 p6 (.lst (x6 ++ [v7]))) p6 (odd14.map encW) := by
    have tk := tu_upd (ys := x6 ++ [v7]) h67
    refine ⟨c6.1, c6.2, flat_Ws _, _, upd_same, ?_⟩
    show DA _ _ ((odd9 ++ [oneT ++ [32]] ++ odd3 ++ [oneT ++ [10, 107, 105, 110, 100, 32, 48, 42, 44, 48, 32, 45, 32, 48]]).map encW)
    rw [List.map_append (l₁ := odd9 ++ [oneT ++ [32]] ++ odd3)]
    exact DA.append (DA.keep tk (flat_Ws _) (a6.mono e7)) (DA.one (D.keep tk rfl g7))
  generalize upd H7 p6 (.lst (x6 ++ [v7])) = H8 at hs8 O8 ⊢
  clear e1 e2 e3 e4 e6 e7 g4 g7 h34 h67 h3 h6 a3 a6 n3 n6 hs1 hs2 hs3 hs4 hs5 hs6 D5 n1 nb c3 c6
  try dsimp only
  refine ⟨5, rfl, by decide, by decide, for_range (lo := 0) (n := 5) (fun i σ H' => (∃ y4 y5 y6 y7 y8, σ = [some (.ref sa), some (.ref h), some (.str (txt oneT)), some (.ref p6), y4, y5, y6, y7, y8]) ∧ HS h b H' ∧ LsA h b H' p6 (odd14.map encW)) ⟨⟨_, _, _, _, _, rfl⟩, hs8, O8⟩ (fun i σ H9 hi ⟨⟨y4, y5, y6, y7, y8, es⟩, hs9, O9⟩ => ?_) (fun σ H9 _ => ?_)⟩
  · subst es
    try dsimp only
    refine ⟨.ref h, rfl, h, b, 7, rfl, hs9, by decide, by decide, fun f vf Ha offa hsa FO f1 f7 hf => ?_⟩
    have V : Valid f := ⟨f1, by omega, FO⟩
    have fl := fam_len V
    have Oa := O9.off hs9 offa
    refine (ed_call (R := R_wrt) (E := E0) (ta := tCons (tC vf) tNil) (σ := [some (.ref sa), some (.ref h), some (.str (txt oneT)), some (.ref p6), some (.int (0 + (i : Int))), y5, y6, y7, y8]) (eas1 (ed_kk hf)) ⟨f, rfl, V, rfl⟩) Ha (Ex.refl _) _ fun v5 Hb eb g5 => ?_
    have ev := g5.toStr
    subst ev
    have hsb := hsa.ex eb
    have Ob := Oa.ex eb
    have af := asc_fam V
    generalize famL f = l0 at fl af
    clear hs9 O9 offa hsa hf Oa eb g5 FO f1 f7 V
    try dsimp only
    refine ⟨fun σ H' => (∃ l y6, σ = [some (.ref sa), some (.ref h), some (.str (txt oneT)), some (.ref p6), some (.int (0 + (i : Int))), some (.str (txt l)), y6, y7, y8] ∧ Asc l ∧ l.length ≤ 3000) ∧ HS h b H' ∧ LsA h b H' p6 (odd14.map encW), ?_, ?_⟩
    · refine ⟨.ref h, rfl, h, b, 4, rfl, hsb, by decide, by decide, fun r Hc offc hsc r0 r4 => ?_⟩
      have Oc := Ob.off hsb offc
      refine ⟨r, rfl, by omega, by omega, for_range (lo := 0) (n := r.toNat) (fun j σ H' => (∃ l y6, σ = [some (.ref sa), some (.ref h), some (.str (txt oneT)), some (.ref p6), some (.int (0 + (i : Int))), some (.str (txt l)), y6, y7, y8] ∧ Asc l ∧ l.length ≤ 310 * 2 ^ j - 10) ∧ HS h b H' ∧ LsA h b H' p6 (odd14.map encW)) ⟨⟨l0, _, rfl, af, by show l0.length ≤ 300; exact fl⟩, hsc, Oc⟩ (fun j σ Hd hj ⟨⟨l, y6, es, al, lz⟩, hsd, Od⟩ => ?_) (fun σ Hd ⟨⟨l, y6, es, al, lz⟩, hsd, Od⟩ => ⟨⟨l, y6, es, al, ?_⟩, hsd, Od⟩)⟩
      · subst es
        have j4 : j = 0 ∨ j = 1 ∨ j = 2 := by omega
        have lz2 : l.length ≤ 3000 ∧ 2 * l.length + 10 ≤ 310 * 2 ^ (j + 1) - 10 := by
          rcases j4 with z | z | z <;> subst z <;> simp at lz ⊢ <;> omega
        try dsimp only
        refine ⟨.ref h, rfl, .str (txt l), rfl, h, b, l, rfl, hsd, al, lz2.1, fun l' He offe hse al' le => ?_⟩
        exact ⟨⟨l', _, rfl, al', by omega⟩, hse, Od.off hsd offe⟩
      · have j4 : r.toNat = 0 ∨ r.toNat = 1 ∨ r.toNat = 2 ∨ r.toNat = 3 := by omega
        rcases j4 with z | z | z | z <;> rw [z] at lz <;> simp at lz <;> omega
    · rintro σ Hc ⟨⟨l, y6', rfl, al, lz⟩, hsc, Oc⟩
      try dsimp only
      refine ⟨.str (txt l), rfl, .ref p6, rfl, .ref h, rfl, h, b, 14, rfl, hsc, by decide, by decide, fun r Hd offd hsd r0 r14 => ?_⟩
      have Od := Oc.off hsc offd
      obtain ⟨o, hoo, om⟩ : ∃ o, odd14[r.toNat]? = some o ∧ o ∈ odd14 := by
        have lt : r.toNat < odd14.length := by rw [odd_ok.1]; omega
        exact ⟨_, List.getElem?_eq_getElem lt, List.getElem_mem _⟩
      obtain ⟨oz, oa⟩ := odd_ok.2 o om
      obtain ⟨_, _, _, xh, hoh, doh⟩ := id Od
      obtain ⟨z, hz1, hz2⟩ := doh.get (i := r.toNat) (d := encW o) (by rw [List.getElem?_map, hoo]; rfl)
      have atz : atI xh r = some z := by
        have := atI_nat hz1
        rwa [show ((r.toNat : Nat) : Int) = r by omega] at this
      have ez : z = .str (txt o) := hz2.toStr
      subst ez
      refine ⟨p6, xh, r, _, rfl, rfl, SqL.of hoh, atz, ?_⟩
      refine ⟨by show 2 ≤ sizeLine; decide, fun pl npl => ?_⟩
      have ee : Ex Hd (upd Hd pl (.lst [.str (txt l), .str (txt o)])) := Ex.new npl
      have hse := hsd.ex ee
      have Oe := Od.ex ee
      have Le : LsA h b (upd Hd pl (.lst [.str (txt l), .str (txt o)])) pl ([l, o].map encW) := LsA.of hsd npl rfl upd_same (.cons (.str _) (.cons (.str _) .nil))
      have hpl : upd Hd pl (.lst [.str (txt l), .str (txt o)]) pl = some (.lst [.str (txt l), .str (txt o)]) := upd_same
      generalize upd Hd pl (.lst [.str (txt l), .str (txt o)]) = He at hse Oe Le hpl ⊢
      clear ee Od hsd hoh doh hz1 hz2 offd hsc Oc npl
      refine ⟨pl, rfl, ⟨_, SqL.of hpl⟩, for_list (K := K) (a := pl) (xs := [.str (txt l), .str (txt o)]) (fun j σ H' => (∃ y7 y8, σ = [some (.ref sa), some (.ref h), some (.str (txt oneT)), some (.ref p6), some (.int (0 + (i : Int))), some (.str (txt l)), y6', y7, y8]) ∧ HS h b H' ∧ LsA h b H' p6 (odd14.map encW) ∧ H' pl = some (.lst [.str (txt l), .str (txt o)])) ⟨⟨_, _, rfl⟩, hse, Oe, hpl⟩ (fun j σ H' _ ⟨_, _, _, e⟩ => SqL.of e) (fun j v σ Hf hj ⟨⟨y7, y8, es⟩, hsf, Of, hpf⟩ => ?_) (fun σ Hf ⟨⟨y7, y8, es⟩, hsf, Of, _⟩ => ⟨⟨_, _, _, _, _, es⟩, hsf, Of⟩)⟩
      subst es
      obtain ⟨t, rfl, ta, tz⟩ : ∃ t, v = .str (txt t) ∧ Asc t ∧ t.length ≤ 3000 := by
        have : j = 0 ∨ j = 1 := by
          have := (List.getElem?_eq_some_iff.mp hj).1
          simp at this; omega
        rcases this with z | z <;> subst z
        · cases hj; exact ⟨l, rfl, al, lz⟩
        · cases hj; exact ⟨o, rfl, oa, by omega⟩
      try dsimp only
      refine ⟨2, rfl, by decide, by decide, for_range (lo := 0) (n := 2) (fun k σ H' => (∃ y8, σ = [some (.ref sa), some (.ref h), some (.str (txt oneT)), some (.ref p6), some (.int (0 + (i : Int))), some (.str (txt l)), y6', some (.str (txt t)), y8]) ∧ HS h b H' ∧ LsA h b H' p6 (odd14.map encW) ∧ H' pl = some (.lst [.str (txt l), .str (txt o)])) ⟨⟨_, rfl⟩, hsf, Of, hpf⟩ (fun k σ Hg hk ⟨⟨y8, es⟩, hsg, Og, hpg⟩ => ?_) (fun σ Hg ⟨⟨y8, es⟩, hsg, Og, hpg⟩ => ⟨⟨_, _, es⟩, hsg, Og, hpg⟩)⟩
      subst es
      try dsimp only
      refine sd_if (b := false) (et_not (a := true) (et_DB (ed_call (eas2 (ed_call (eas1 (ed_var (i := 7) rfl (.str (txt t)))) ⟨t, rfl, tz, rfl⟩) (ed_call (eas1 (ed_var (i := 7) rfl (.str (txt t)))) ⟨t, rfl, tz, ta, rfl⟩)) ⟨_, rfl, okD_due, rfl⟩))) (fun z => nomatch z) fun _ Hh eh => ?_
      exact ⟨⟨_, rfl⟩, hsg.ex eh, Og.ex eh, eh _ _ hpg⟩
  · try dsimp only
    exact q H9
end
end KS
end
noncomputable section
namespace KS
open PySem PySem.Spec PyProof.Rows L2 Evl
/-- a def as the open heap holds it -/
structure At (K : PySem.W.Frag) (x : Str) (st : Stmt) : Prop where
  ex : ∃ (f : Addr) (od an : Option Addr) (sl : Array (Option Value)) (oc kV dc pm cd ct : Value), PySem.W.nsIn K mainGlobals x = some (some (.ref f)) ∧
    K.lookup f = some ⟨oc, od, .func (PySem.W.fnOf x x (defArgs st) (defBody st) (defScope st) .none kV dc pm an cd ct), sl⟩ ∧ PySem.W.codeIn K cd x = true ∧ PySem.W.keepIn K (.ref f) = true
theorem At.of {K : PySem.W.Frag} {x : Str} {st : Stmt} {f : Addr} {od an : Option Addr} {sl : Array (Option Value)} {oc kV dc pm cd ct : Value} (a : PySem.W.nsIn K mainGlobals x = some (some (.ref f)))
    (l : K.lookup f = some ⟨oc, od, .func (PySem.W.fnOf x x (defArgs st) (defBody st) (defScope st) .none kV dc pm an cd ct), sl⟩) (c : PySem.W.codeIn K cd x = true) (k : PySem.W.keepIn K (.ref f) = true) : At K x st :=
  ⟨⟨f, od, an, sl, oc, kV, dc, pm, cd, ct, a, l, c, k⟩⟩
theorem At.df {K : PySem.W.Frag} {h : Heap} {mg : Str → Option Value} (X : K.In h) (G : h.Ns mainGlobals mg) {x : Str} {st : Stmt} (a : At K x st) (ps : List Str)
    (b : ∀ (f : Addr) (fd : FuncData), Fun K x x st f fd → Binds K fd ps []) : Df K mg x st ps := by
  obtain ⟨f, od, an, sl, oc, kV, dc, pm, cd, ct, a, l, c, k⟩ := a.ex
  have F := fun_mk (st := st) l c k
  exact ⟨f, _, F, PySem.W.mg_of X G a, b _ _ F⟩
structure Ins (K : PySem.W.Frag) : Prop where
  z_isinstance : PySem.W.nsIn K mainGlobals "isinstance" = some none
  z_int : PySem.W.nsIn K mainGlobals "int" = some none
  z_bool : PySem.W.nsIn K mainGlobals "bool" = some none
  z_tuple : PySem.W.nsIn K mainGlobals "tuple" = some none
  z_str : PySem.W.nsIn K mainGlobals "str" = some none
  z_list : PySem.W.nsIn K mainGlobals "list" = some none
  z_len : PySem.W.nsIn K mainGlobals "len" = some none
  z_all : PySem.W.nsIn K mainGlobals "all" = some none
  z_any : PySem.W.nsIn K mainGlobals "any" = some none
  z_set : PySem.W.nsIn K mainGlobals "set" = some none
  z_enumerate : PySem.W.nsIn K mainGlobals "enumerate" = some none
  z_range : PySem.W.nsIn K mainGlobals "range" = some none
  z_sorted : PySem.W.nsIn K mainGlobals "sorted" = some none
  z_max : PySem.W.nsIn K mainGlobals "max" = some none
  z_min : PySem.W.nsIn K mainGlobals "min" = some none
  z_sum : PySem.W.nsIn K mainGlobals "sum" = some none
  z_dict : PySem.W.nsIn K mainGlobals "dict" = some none
theorem Ins.bt {K : PySem.W.Frag} {h : Heap} {mg : Str → Option Value} (X : K.In h) (G : h.Ns mainGlobals mg) (z : Ins K) : Bt mg :=
  ⟨PySem.W.mg_none_of X G z.z_isinstance, PySem.W.mg_none_of X G z.z_int, PySem.W.mg_none_of X G z.z_bool, PySem.W.mg_none_of X G z.z_tuple, PySem.W.mg_none_of X G z.z_str, PySem.W.mg_none_of X G z.z_list, PySem.W.mg_none_of X G z.z_len, PySem.W.mg_none_of X G z.z_all, PySem.W.mg_none_of X G z.z_any, PySem.W.mg_none_of X G z.z_set, PySem.W.mg_none_of X G z.z_enumerate, PySem.W.mg_none_of X G z.z_range, PySem.W.mg_none_of X G z.z_sorted, PySem.W.mg_none_of X G z.z_max, PySem.W.mg_none_of X G z.z_min⟩
theorem all_mk {l : PySem.W.OpenLaw} {w : World} {K : PySem.W.Frag} {h : Heap} {mg : Str → Option Value} {fa fl : Addr} (X : K.In h) (G : h.Ns mainGlobals mg) (hfa : mg "law" = some (.ref fa))
    {od an : Option Addr} {sl : Array (Option Value)} {oc kV dc pm cd ct : Value} {sL : Str} {t1 t2 t3 t4 t5 : Tok}
    (la : PySem.W.nsIn K mainGlobals "law" = some (some (.ref fl))) (ll : K.lookup fl = some ⟨oc, od, .func (PySem.W.fnOf "law" "law" (defArgs s_law) (defBody s_law) (defScope s_law) .none kV dc pm an cd ct), sl⟩) (lc : PySem.W.codeIn K cd "law" = true) (lk : PySem.W.keepIn K (.ref fl) = true)
    (n1 : PySem.W.nsIn K mainGlobals "MOST_KINDS" = some (some (.int 7 t1))) (n2 : PySem.W.nsIn K mainGlobals "MOST_ELDERS" = some (some (.int 3 t2))) (n3 : PySem.W.nsIn K mainGlobals "MOST_CELLS" = some (some (.int 3 t3))) (n4 : PySem.W.nsIn K mainGlobals "MOST_PARTS" = some (some (.int 16 t4)))
    (n5 : PySem.W.nsIn K mainGlobals "LETTERS" = some (some (.str sL t5))) (eL : sL = txt abc) (z : Ins K)
    {scN1 : Str} {tcN1 : Tok} (cN1 : PySem.W.nsIn K mainGlobals "NONE" = some (some (.str scN1 tcN1))) (ecN1 : scN1 = txt [45])
    {scS1 : Str} {tcS1 : Tok} (cS1 : PySem.W.nsIn K mainGlobals "SHARED" = some (some (.str scS1 tcS1))) (ecS1 : scS1 = txt [42])
    {scF1 : Str} {tcF1 : Tok} (cF1 : PySem.W.nsIn K mainGlobals "FIGURES" = some (some (.str scF1 tcF1))) (ecF1 : scF1 = txt digs)
    {CS C0 C1 C2 C3 C4 C5 C6 C7 : Addr} (y_gS : PySem.W.nsIn K mainGlobals "SlotError" = some (some (.ref CS))) (y_g0 : PySem.W.nsIn K mainGlobals "BadFamily" = some (some (.ref C0))) (y_g1 : PySem.W.nsIn K mainGlobals "NoKind" = some (some (.ref C1))) (y_g2 : PySem.W.nsIn K mainGlobals "NoPart" = some (some (.ref C2))) (y_g3 : PySem.W.nsIn K mainGlobals "NoElder" = some (some (.ref C3))) (y_g4 : PySem.W.nsIn K mainGlobals "BadAsked" = some (some (.ref C4))) (y_g5 : PySem.W.nsIn K mainGlobals "NotAsked" = some (some (.ref C5))) (y_g6 : PySem.W.nsIn K mainGlobals "NoMatch" = some (some (.ref C6))) (y_g7 : PySem.W.nsIn K mainGlobals "BadText" = some (some (.ref C7))) (y_zV : PySem.W.nsIn K mainGlobals "ValueError" = some none)
    (y_oc8 : PySem.W.specialIn K (.builtin "object.__class__") "__get__" = some (some (.builtin "getset_descriptor.__get__"))) (y_oc9 : PySem.W.takesIn K (.builtin "object.__class__") = some true)
    {nm0 qn0 : Str} {Nn0 : Addr} {bs0 sub0 : List Value} {sn0 : List Str} {ab0 : Bool} {col0 : Option Bool} {dd0 : Option Addr} {m00 m01 m02 m03 m05 : Option Value} {fI0 : Addr} {od0 an0 : Option Addr} {sl0 : Array (Option Value)} {oc0 kV0 dc0 pm0 cd0 ct0 : Value} (y_xL0 : K.lookup C0 = some (excClassObj nm0 qn0 C0 Nn0 bs0 [.ref CS, .type "ValueError", .type "Exception", .type "BaseException", .type "object"] true sn0 sub0 ab0 col0 dd0 m00 m01 m02 m03 m05 "ValueError.__new__")) (y_sa0 : PySem.W.findIn K (.ref C0) "__setattr__" = some (some (.builtin "object.__setattr__"))) (y_k0 : PySem.W.keepIn K (.ref C0) = true) (y_b0 : PySem.W.subIn K (.ref C0) (.type "BaseException") = some true) (y_t0 : PySem.W.typeIn K (.ref C0) = some (.type "type")) (y_no0 : PySem.W.findIn K (.ref C0) "number" = some none) (y_iC0 : PySem.W.findIn K (.ref C0) "__init__" = some (some (.ref fI0))) (y_tI0 : PySem.W.typeIn K (.ref fI0) = some (.type "function")) (y_lI0 : K.lookup fI0 = some ⟨oc0, od0, .func (PySem.W.fnOf "__init__" "BadFamily.__init__" (defArgs i_BadFamily) (defBody i_BadFamily) (defScope i_BadFamily) .none kV0 dc0 pm0 an0 cd0 ct0), sl0⟩) (y_cI0 : PySem.W.codeIn K cd0 "BadFamily.__init__" = true) (y_kI0 : PySem.W.keepIn K (.ref fI0) = true) (y_ec0 : (PySem.W.clsIn K C0).isSome = true) (y_eg0 : PySem.W.findIn K (.ref C0) "__getattribute__" = some (some (.builtin "BaseException.__getattribute__"))) (y_eh0 : PySem.W.findIn K (.ref C0) "__getattr__" = some none) (y_ek0 : PySem.W.findIn K (.ref C0) "__class__" = some (some (.builtin "object.__class__"))) (y_em0 : PySem.W.mroIn K C0 (.type "object") = some true) (y_ex0 : PySem.W.exmOne K (.ref C0) (.ref CS) = some true) (y_q00 : PySem.W.kitOne K (.ref C0) (.ref C0) = some true) (y_q01 : PySem.W.kitOne K (.ref C0) (.ref C1) = some false) (y_q02 : PySem.W.kitOne K (.ref C0) (.ref C2) = some false) (y_q03 : PySem.W.kitOne K (.ref C0) (.ref C3) = some false) (y_q04 : PySem.W.kitOne K (.ref C0) (.ref C4) = some false) (y_q05 : PySem.W.kitOne K (.ref C0) (.ref C5) = some false) (y_q06 : PySem.W.kitOne K (.ref C0) (.ref C6) = some false) (y_q07 : PySem.W.kitOne K (.ref C0) (.ref C7) = some false) (y_qv0 : PySem.W.kitOne K (.ref C0) (.type "ValueError") = some true)
    {nm7 qn7 : Str} {Nn7 : Addr} {bs7 sub7 : List Value} {sn7 : List Str} {ab7 : Bool} {col7 : Option Bool} {dd7 : Option Addr} {m70 m71 m72 m73 m75 : Option Value} {fI7 : Addr} {od7 an7 : Option Addr} {sl7 : Array (Option Value)} {oc7 kV7 dc7 pm7 cd7 ct7 : Value} (y_xL7 : K.lookup C7 = some (excClassObj nm7 qn7 C7 Nn7 bs7 [.ref CS, .type "ValueError", .type "Exception", .type "BaseException", .type "object"] true sn7 sub7 ab7 col7 dd7 m70 m71 m72 m73 m75 "ValueError.__new__")) (y_sa7 : PySem.W.findIn K (.ref C7) "__setattr__" = some (some (.builtin "object.__setattr__"))) (y_k7 : PySem.W.keepIn K (.ref C7) = true) (y_b7 : PySem.W.subIn K (.ref C7) (.type "BaseException") = some true) (y_t7 : PySem.W.typeIn K (.ref C7) = some (.type "type")) (y_no7 : PySem.W.findIn K (.ref C7) "row" = some none) (y_iC7 : PySem.W.findIn K (.ref C7) "__init__" = some (some (.ref fI7))) (y_tI7 : PySem.W.typeIn K (.ref fI7) = some (.type "function")) (y_lI7 : K.lookup fI7 = some ⟨oc7, od7, .func (PySem.W.fnOf "__init__" "BadText.__init__" (defArgs i_BadText) (defBody i_BadText) (defScope i_BadText) .none kV7 dc7 pm7 an7 cd7 ct7), sl7⟩) (y_cI7 : PySem.W.codeIn K cd7 "BadText.__init__" = true) (y_kI7 : PySem.W.keepIn K (.ref fI7) = true) (y_ec7 : (PySem.W.clsIn K C7).isSome = true) (y_eg7 : PySem.W.findIn K (.ref C7) "__getattribute__" = some (some (.builtin "BaseException.__getattribute__"))) (y_eh7 : PySem.W.findIn K (.ref C7) "__getattr__" = some none) (y_ek7 : PySem.W.findIn K (.ref C7) "__class__" = some (some (.builtin "object.__class__"))) (y_em7 : PySem.W.mroIn K C7 (.type "object") = some true) (y_ex7 : PySem.W.exmOne K (.ref C7) (.ref CS) = some true) (y_q70 : PySem.W.kitOne K (.ref C7) (.ref C0) = some false) (y_q71 : PySem.W.kitOne K (.ref C7) (.ref C1) = some false) (y_q72 : PySem.W.kitOne K (.ref C7) (.ref C2) = some false) (y_q73 : PySem.W.kitOne K (.ref C7) (.ref C3) = some false) (y_q74 : PySem.W.kitOne K (.ref C7) (.ref C4) = some false) (y_q75 : PySem.W.kitOne K (.ref C7) (.ref C5) = some false) (y_q76 : PySem.W.kitOne K (.ref C7) (.ref C6) = some false) (y_q77 : PySem.W.kitOne K (.ref C7) (.ref C7) = some true) (y_qv7 : PySem.W.kitOne K (.ref C7) (.type "ValueError") = some true)
    (y_bga : PySem.W.specialIn K (.ref CS) "__getattribute__" = some (some (.builtin "type.__getattribute__"))) (y_brd : PySem.W.readsIn K CS (.type "type") = true) (y_bv : PySem.W.findCls K (.ref CS) (.type "type") "__init__" = some (.val (.builtin "ValueError.__init__")))
    (y_hd0 : PySem.W.hasDictIn K C0 = true) (y_hd7 : PySem.W.hasDictIn K C7 = true)
    (d_is_whole : At K "is_whole" s_is_whole)
    (d_is_pair : At K "is_pair" s_is_pair)
    (d_are_elders : At K "are_elders" s_are_elders)
    (d_are_deeds : At K "are_deeds" s_are_deeds)
    (d_is_kind : At K "is_kind" s_is_kind)
    (d_elders_of : At K "elders_of" s_elders_of)
    (d_deeds_of : At K "deeds_of" s_deeds_of)
    (d_elder_part : At K "elder_part" s_elder_part)
    (d_meet : At K "meet" s_meet)
    (d_met_from : At K "met_from" s_met_from)
    (d_known : At K "known" s_known)
    (d_foremost : At K "foremost" s_foremost)
    (d_is_sound : At K "is_sound" s_is_sound)
    (d_need_family : At K "need_family" s_need_family)
    (d_is_figure : At K "is_figure" s_is_figure)
    (d_is_elder_word : At K "is_elder_word" s_is_elder_word)
    (d_are_elder_words : At K "are_elder_words" s_are_elder_words)
    (d_are_deed_letters : At K "are_deed_letters" s_are_deed_letters)
    (d_is_row : At K "is_row" s_is_row)
    (d_read_elder : At K "read_elder" s_read_elder)
    (d_read_row : At K "read_row" s_read_row)
    (d_read : At K "read" s_read)
    (d_law_mix : At K "_law_mix" s_law_mix)
    (d_law_next : At K "_law_next" s_law_next)
    (d_law_alike : At K "_law_alike" s_law_alike)
    (d_law_met : At K "_law_met" s_law_met)
    (d_law_doer : At K "_law_doer" s_law_doer)
    (d_law_knows : At K "_law_knows" s_law_knows)
    (d_law_family : At K "_law_family" s_law_family)
    (d_law_text : At K "_law_text" s_law_text)
    (d_law_elders : At K "_law_elders" s_law_elders)
    (d_law_row : At K "_law_row" s_law_row)
    (d_law_bad : At K "_law_bad" s_law_bad)
    (d_law_due : At K "_law_due" s_law_due)
    (d_law_told : At K "_law_told" s_law_told)
    (d_law_changed : At K "_law_changed" s_law_changed)
    : ∃ fd : FuncData, (∀ (s : Shared) (v : Value), BindsTo s fd ⟨[v], []⟩ [("_law_script", v)]) ∧ ∀ base : Heap, K.In base → base.Ns mainGlobals mg → FnOk l.prog w K mg base CX0 24 fa fd ["_law_script"] (spLaw K) := by
  have e := hfa.symm.trans (PySem.W.mg_of X G la)
  cases e
  subst eL
  have F := fun_mk (st := s_law) ll lc lk
  have B := z.bt X G
  have m7 : ∃ t, mg "MOST_KINDS" = some (.int 7 t) := ⟨_, PySem.W.mg_of X G n1⟩
  have mE : ∃ t, mg "MOST_ELDERS" = some (.int 3 t) := ⟨_, PySem.W.mg_of X G n2⟩
  have mC : ∃ t, mg "MOST_CELLS" = some (.int 3 t) := ⟨_, PySem.W.mg_of X G n3⟩
  have mP : ∃ t, mg "MOST_PARTS" = some (.int 16 t) := ⟨_, PySem.W.mg_of X G n4⟩
  have mL : ∃ t, mg "LETTERS" = some (.str (txt abc) t) := ⟨_, PySem.W.mg_of X G n5⟩
  have D_is_whole := d_is_whole.df X G ["value"] fun _ _ F => F.binds (ps := ["value"]) fun _ _ _ _ _ _ us hl => match us, hl with | [_], _ => rfl
  have D_is_pair := d_is_pair.df X G ["pair", "number"] fun _ _ F => F.binds (ps := ["pair", "number"]) fun _ _ _ _ _ _ us hl => match us, hl with | [_, _], _ => rfl
  have D_are_elders := d_are_elders.df X G ["elders", "number"] fun _ _ F => F.binds (ps := ["elders", "number"]) fun _ _ _ _ _ _ us hl => match us, hl with | [_, _], _ => rfl
  have D_are_deeds := d_are_deeds.df X G ["deeds"] fun _ _ F => F.binds (ps := ["deeds"]) fun _ _ _ _ _ _ us hl => match us, hl with | [_], _ => rfl
  have D_is_kind := d_is_kind.df X G ["kind", "number"] fun _ _ F => F.binds (ps := ["kind", "number"]) fun _ _ _ _ _ _ us hl => match us, hl with | [_, _], _ => rfl
  have D_elders_of := d_elders_of.df X G ["family", "kind"] fun _ _ F => F.binds (ps := ["family", "kind"]) fun _ _ _ _ _ _ us hl => match us, hl with | [_, _], _ => rfl
  have D_deeds_of := d_deeds_of.df X G ["family", "kind"] fun _ _ F => F.binds (ps := ["family", "kind"]) fun _ _ _ _ _ _ us hl => match us, hl with | [_, _], _ => rfl
  have D_elder_part := d_elder_part.df X G ["part", "pair"] fun _ _ F => F.binds (ps := ["part", "pair"]) fun _ _ _ _ _ _ us hl => match us, hl with | [_, _], _ => rfl
  have D_meet := d_meet.df X G ["family", "part", "met"] fun _ _ F => F.binds (ps := ["family", "part", "met"]) fun _ _ _ _ _ _ us hl => match us, hl with | [_, _, _], _ => rfl
  have D_met_from := d_met_from.df X G ["family", "part"] fun _ _ F => F.binds (ps := ["family", "part"]) fun _ _ _ _ _ _ us hl => match us, hl with | [_, _], _ => rfl
  have D_known := d_known.df X G ["family", "found"] fun _ _ F => F.binds (ps := ["family", "found"]) fun _ _ _ _ _ _ us hl => match us, hl with | [_, _], _ => rfl
  have D_foremost := d_foremost.df X G ["family", "found", "deed"] fun _ _ F => F.binds (ps := ["family", "found", "deed"]) fun _ _ _ _ _ _ us hl => match us, hl with | [_, _, _], _ => rfl
  have D_is_sound := d_is_sound.df X G ["family", "kind"] fun _ _ F => F.binds (ps := ["family", "kind"]) fun _ _ _ _ _ _ us hl => match us, hl with | [_, _], _ => rfl
  have D_need_family := d_need_family.df X G ["family"] fun _ _ F => F.binds (ps := ["family"]) fun _ _ _ _ _ _ us hl => match us, hl with | [_], _ => rfl
  have D_is_figure := d_is_figure.df X G ["word"] fun _ _ F => F.binds (ps := ["word"]) fun _ _ _ _ _ _ us hl => match us, hl with | [_], _ => rfl
  have D_is_elder_word := d_is_elder_word.df X G ["word"] fun _ _ F => F.binds (ps := ["word"]) fun _ _ _ _ _ _ us hl => match us, hl with | [_], _ => rfl
  have D_are_elder_words := d_are_elder_words.df X G ["word"] fun _ _ F => F.binds (ps := ["word"]) fun _ _ _ _ _ _ us hl => match us, hl with | [_], _ => rfl
  have D_are_deed_letters := d_are_deed_letters.df X G ["word"] fun _ _ F => F.binds (ps := ["word"]) fun _ _ _ _ _ _ us hl => match us, hl with | [_], _ => rfl
  have D_is_row := d_is_row.df X G ["words"] fun _ _ F => F.binds (ps := ["words"]) fun _ _ _ _ _ _ us hl => match us, hl with | [_], _ => rfl
  have D_read_elder := d_read_elder.df X G ["word"] fun _ _ F => F.binds (ps := ["word"]) fun _ _ _ _ _ _ us hl => match us, hl with | [_], _ => rfl
  have D_read_row := d_read_row.df X G ["words"] fun _ _ F => F.binds (ps := ["words"]) fun _ _ _ _ _ _ us hl => match us, hl with | [_], _ => rfl
  have D_read := d_read.df X G ["text"] fun _ _ F => F.binds (ps := ["text"]) fun _ _ _ _ _ _ us hl => match us, hl with | [_], _ => rfl
  have D_law_mix := d_law_mix.df X G ["_law_script", "_law_seed"] fun _ _ F => F.binds (ps := ["_law_script", "_law_seed"]) fun _ _ _ _ _ _ us hl => match us, hl with | [_, _], _ => rfl
  have D_law_next := d_law_next.df X G ["_law_h", "_law_many"] fun _ _ F => F.binds (ps := ["_law_h", "_law_many"]) fun _ _ _ _ _ _ us hl => match us, hl with | [_, _], _ => rfl
  have D_law_alike := d_law_alike.df X G ["_law_found", "_law_due_here"] fun _ _ F => F.binds (ps := ["_law_found", "_law_due_here"]) fun _ _ _ _ _ _ us hl => match us, hl with | [_, _], _ => rfl
  have D_law_met := d_law_met.df X G ["_law_f", "_law_part"] fun _ _ F => F.binds (ps := ["_law_f", "_law_part"]) fun _ _ _ _ _ _ us hl => match us, hl with | [_, _], _ => rfl
  have D_law_doer := d_law_doer.df X G ["_law_f", "_law_kind", "_law_deed"] fun _ _ F => F.binds (ps := ["_law_f", "_law_kind", "_law_deed"]) fun _ _ _ _ _ _ us hl => match us, hl with | [_, _, _], _ => rfl
  have D_law_knows := d_law_knows.df X G ["_law_f", "_law_kind"] fun _ _ F => F.binds (ps := ["_law_f", "_law_kind"]) fun _ _ _ _ _ _ us hl => match us, hl with | [_, _], _ => rfl
  have D_law_family := d_law_family.df X G ["_law_h", "_law_most"] fun _ _ F => F.binds (ps := ["_law_h", "_law_most"]) fun _ _ _ _ _ _ us hl => match us, hl with | [_, _], _ => rfl
  have D_law_text := d_law_text.df X G ["_law_f"] fun _ _ F => F.binds (ps := ["_law_f"]) fun _ _ _ _ _ _ us hl => match us, hl with | [_], _ => rfl
  have D_law_elders := d_law_elders.df X G ["_law_word"] fun _ _ F => F.binds (ps := ["_law_word"]) fun _ _ _ _ _ _ us hl => match us, hl with | [_], _ => rfl
  have D_law_row := d_law_row.df X G ["_law_words"] fun _ _ F => F.binds (ps := ["_law_words"]) fun _ _ _ _ _ _ us hl => match us, hl with | [_], _ => rfl
  have D_law_bad := d_law_bad.df X G ["_law_f"] fun _ _ F => F.binds (ps := ["_law_f"]) fun _ _ _ _ _ _ us hl => match us, hl with | [_], _ => rfl
  have D_law_due := d_law_due.df X G ["_law_text_here"] fun _ _ F => F.binds (ps := ["_law_text_here"]) fun _ _ _ _ _ _ us hl => match us, hl with | [_], _ => rfl
  have D_law_told := d_law_told.df X G ["_law_text_here"] fun _ _ F => F.binds (ps := ["_law_text_here"]) fun _ _ _ _ _ _ us hl => match us, hl with | [_], _ => rfl
  have D_law_changed := d_law_changed.df X G ["_law_h", "_law_text_here"] fun _ _ F => F.binds (ps := ["_law_h", "_law_text_here"]) fun _ _ _ _ _ _ us hl => match us, hl with | [_, _], _ => rfl
  refine ⟨PySem.W.fnOf "law" "law" (defArgs s_law) (defBody s_law) (defScope s_law) .none kV dc pm an cd ct, fun s v => .of_eq rfl, fun base kin bns => ?_⟩
  have ms := PySem.W.mg_none_of X G z.z_sum
  have md := PySem.W.mg_none_of X G z.z_dict
  have cW := ok_is_whole (P := l.prog) (w := w) (base := base) B D_is_whole
  have cE := ok_elders_of (P := l.prog) (w := w) (base := base) D_elders_of
  have cD := ok_deeds_of (P := l.prog) (w := w) (base := base) D_deeds_of
  have cEP := ok_elder_part (P := l.prog) (w := w) (base := base) D_elder_part
  have cMe := ok_meet cE cEP D_meet 16
  have cM := ok_met_from D_met_from cMe
  have cN := ok_known B mL D_known cD
  have cF := ok_foremost B D_foremost cD cM
  have cS := ok_is_sound B mP D_is_sound cM cN cF
  have cPr := ok_is_pair B D_is_pair cW
  have cEl := ok_are_eldersX B mE D_are_elders cPr
  have cDe := ok_are_deeds (P := l.prog) (w := w) (base := base) B mL D_are_deeds
  have cK := ok_is_kindX B mC D_is_kind cEl cDe cW
  have cMx := ok_mix (P := l.prog) (w := w) (base := base) B D_law_mix
  have cNx := ok_next (P := l.prog) (w := w) (base := base) B D_law_next
  have cAl := ok_alike (P := l.prog) (w := w) (base := base) B D_law_alike 10
  have cLMX := ok_lmetX (P := l.prog) (w := w) (base := base) D_law_met 16
  have cLDX := ok_ldoerX B D_law_doer cLMX
  have cLKX := ok_lknowsX B D_law_knows cLMX
  have cLM := cLMX.imp (lmet_back 16)
  have cLD := cLDX.imp ldoer_back
  have cLK := cLKX.imp lknows_back
  have cFa := ok_family B D_law_family cNx cLM cLD cLK
  have mN : ∃ t, mg "NONE" = some (.str (txt [45]) t) := by subst ecN1; exact ⟨_, PySem.W.mg_of X G cN1⟩
  have mS : ∃ t, mg "SHARED" = some (.str (txt [42]) t) := by subst ecS1; exact ⟨_, PySem.W.mg_of X G cS1⟩
  have mF : ∃ t, mg "FIGURES" = some (.str (txt digs) t) := by subst ecF1; exact ⟨_, PySem.W.mg_of X G cF1⟩
  have cFg := ok_fig (P := l.prog) (w := w) (base := base) B mF D_is_figure
  have cEw := ok_elw B mS D_is_elder_word cFg
  have cEs := ok_elws B mN D_are_elder_words cEw
  have cAl2 := ok_adl (P := l.prog) (w := w) (base := base) B mN mL D_are_deed_letters
  have cRow := ok_row B D_is_row cFg cEs cAl2
  have cRe := ok_rel (P := l.prog) (w := w) (base := base) B mS D_read_elder
  have cRr := ok_rro B mN D_read_row cRe
  have cTx := ok_ltx (P := l.prog) (w := w) (base := base) B D_law_text
  have m8 : Mg8 mg CS ⟨C0, C1, C2, C3, C4, C5, C6, C7⟩ := ⟨PySem.W.mg_of X G y_gS, PySem.W.mg_of X G y_g0, PySem.W.mg_of X G y_g1, PySem.W.mg_of X G y_g2, PySem.W.mg_of X G y_g3, PySem.W.mg_of X G y_g4, PySem.W.mg_of X G y_g5, PySem.W.mg_of X G y_g6, PySem.W.mg_of X G y_g7, PySem.W.mg_none_of X G y_zV, PySem.W.mg_none_of X G z.z_isinstance⟩
  have TB0 : BaseC K mg CS := ⟨m8.s, y_bga, y_brd, y_bv⟩
  have F0 := fun_mk (st := i_BadFamily) y_lI0 y_cI0 y_kI0
  have N0 : ErrN l.prog w K mg base "BadFamily" "number" C0 := ⟨m8.c0, ⟨⟨_, _, _, _, _, _, _, _, _, _, _, _, _, _, _, y_xL0, (by show PySem.HandSPX.refsVE [.type "ValueError", .type "Exception", .type "BaseException", .type "object"] = true; decide +kernel)⟩, y_sa0, y_b0, y_t0, y_k0⟩, y_no0, ⟨fI0, _, ["self", "number"], y_iC0, y_tI0, ok_iBadFamily (P := l.prog) (w := w) (base := base) TB0 F0, F0.binds (ps := ["self", "number"]) fun _ _ _ _ _ _ us hl => match us, hl with | [_, _], _ => rfl⟩⟩
  have F7 := fun_mk (st := i_BadText) y_lI7 y_cI7 y_kI7
  have N7 : ErrN l.prog w K mg base "BadText" "row" C7 := ⟨m8.c7, ⟨⟨_, _, _, _, _, _, _, _, _, _, _, _, _, _, _, y_xL7, (by show PySem.HandSPX.refsVE [.type "ValueError", .type "Exception", .type "BaseException", .type "object"] = true; decide +kernel)⟩, y_sa7, y_b7, y_t7, y_k7⟩, y_no7, ⟨fI7, _, ["self", "row"], y_iC7, y_tI7, ok_iBadText (P := l.prog) (w := w) (base := base) TB0 F7, F7.binds (ps := ["self", "row"]) fun _ _ _ _ _ _ us hl => match us, hl with | [_, _], _ => rfl⟩⟩
  have cNFX := ok_nfX B N0 m7 D_need_family cK cS
  have cRd := ok_readX B N7 D_read cRow cRr cNFX
  have kT : KindW K CS ⟨C0, C1, C2, C3, C4, C5, C6, C7⟩ C7 7 := ⟨⟨y_ec7, y_eg7, y_eh7, y_b7, y_ek7, y_oc8, y_oc9, y_em7⟩, y_ex7, y_q70, y_q71, y_q72, y_q73, y_q74, y_q75, y_q76, y_q77, y_qv7⟩
  have kF : KindW K CS ⟨C0, C1, C2, C3, C4, C5, C6, C7⟩ C0 0 := ⟨⟨y_ec0, y_eg0, y_eh0, y_b0, y_ek0, y_oc8, y_oc9, y_em0⟩, y_ex0, y_q00, y_q01, y_q02, y_q03, y_q04, y_q05, y_q06, y_q07, y_qv0⟩
  have cTo := ok_ltd m8 B D_law_told kT kF ⟨y_eg7, y_eh7, y_b7, y_hd7⟩ ⟨y_eg0, y_eh0, y_b0, y_hd0⟩ y_no7 y_no0 cRd
  have cEl2 := ok_lel (P := l.prog) (w := w) (base := base) B D_law_elders
  have cRo := ok_lro B D_law_row cEl2
  have cBd := ok_lbd B D_law_bad cLMX cLDX cLKX
  have cDu := ok_ldu B D_law_due cRo cBd
  have cCh := ok_lch B D_law_changed cNx
  exact ok_law B F cMx cFa cNx cAl cTx cCh cTo cDu
theorem walk {l : PySem.W.OpenLaw} {q : Program} {loose : List Str} {XP : (Str → Option Value) → Heap → Prop} {YP : World → Heap → Prop} {d : DefRec} {K : Params → PySem.W.Frag} (hn : l.most = some 63) (hdf : d.params.defaults = [])
    (hY : ∀ (w : World) (h : Heap), YP w h → (K w.params).In h)
    (F : ∀ (w : World) (mg : Str → Option Value) (fa : Addr) (h : Heap), (K w.params).In h → h.Ns mainGlobals mg → mg d.name = some (.ref fa) →
      ∃ fd : FuncData, (∀ (s : Shared) (u : Value), BindsTo s fd ⟨[u], []⟩ [("_law_script", u)]) ∧ ∀ base : Heap, (K w.params).In base → base.Ns mainGlobals mg → FnOk l.prog w (K w.params) mg base CX0 24 fa fd ["_law_script"] (spLaw (K w.params))) :
    PySem.W.WalkO q loose XP YP l.row.toRowW d [] (fun f vs => PySem.call f vs) :=
  L2.walk_of (n := 63) (k := 24) (x := "_law_script") (CX := fun _ => CX0) (sp := fun w => spLaw (K w.params)) hn (by decide) hdf ⟨rfl, by decide, by decide⟩ hY F (fun _ _ a ns hl _ hS => ⟨a, ns, rfl, hS, hl, fun _ => rfl⟩) fun _ _ _ _ _ z => z
end KS
end
open PySem PySem.W PyProof.Rows
set_option maxRecDepth 100000 in
set_option maxHeartbeats 0 in
theorem PySem.Challenge.cw_castslots_k13_texts_that_tell_no_family_holds : PySem.Challenge.rw_castslots_k13_texts_that_tell_no_family.Holds := by
  w_on; o_law; k_head; (case hw => w_witness2)
  k_fill
  refine KS.walk (l := PySem.Challenge.rw_castslots_k13_texts_that_tell_no_family) rfl rfl (fun w h Y => PySem.W.kIn_of Y) ?F
  case F =>
    intro w mg fa h KX G hmg
    refine' KS.all_mk KX G hmg ?la ?ll ?lc ?lk ?n1 ?n2 ?n3 ?n4 ?n5 ?eL ?z ?cN1 ?ecN1 ?cS1 ?ecS1 ?cF1 ?ecF1 ?y_gS ?y_g0 ?y_g1 ?y_g2 ?y_g3 ?y_g4 ?y_g5 ?y_g6 ?y_g7 ?y_zV ?y_oc8 ?y_oc9 ?y_xL0 ?y_sa0 ?y_k0 ?y_b0 ?y_t0 ?y_no0 ?y_iC0 ?y_tI0 ?y_lI0 ?y_cI0 ?y_kI0 ?y_ec0 ?y_eg0 ?y_eh0 ?y_ek0 ?y_em0 ?y_ex0 ?y_q00 ?y_q01 ?y_q02 ?y_q03 ?y_q04 ?y_q05 ?y_q06 ?y_q07 ?y_qv0 ?y_xL7 ?y_sa7 ?y_k7 ?y_b7 ?y_t7 ?y_no7 ?y_iC7 ?y_tI7 ?y_lI7 ?y_cI7 ?y_kI7 ?y_ec7 ?y_eg7 ?y_eh7 ?y_ek7 ?y_em7 ?y_ex7 ?y_q70 ?y_q71 ?y_q72 ?y_q73 ?y_q74 ?y_q75 ?y_q76 ?y_q77 ?y_qv7 ?y_bga ?y_brd ?y_bv ?y_hd0 ?y_hd7 ?d_is_whole ?d_is_pair ?d_are_elders ?d_are_deeds ?d_is_kind ?d_elders_of ?d_deeds_of ?d_elder_part ?d_meet ?d_met_from ?d_known ?d_foremost ?d_is_sound ?d_need_family ?d_is_figure ?d_is_elder_word ?d_are_elder_words ?d_are_deed_letters ?d_is_row ?d_read_elder ?d_read_row ?d_read ?d_law_mix ?d_law_next ?d_law_alike ?d_law_met ?d_law_doer ?d_law_knows ?d_law_family ?d_law_text ?d_law_elders ?d_law_row ?d_law_bad ?d_law_due ?d_law_told ?d_law_changed
    (case la => k_is); (case ll => k_is); (case lc => k_is); (case lk => k_is)
    (case n1 => k_is); (case n2 => k_is); (case n3 => k_is); (case n4 => k_is); (case n5 => k_is); (case eL => rfl)
    (case z => refine' ⟨?z0, ?z1, ?z2, ?z3, ?z4, ?z5, ?z6, ?z7, ?z8, ?z9, ?z10, ?z11, ?z12, ?z13, ?z14, ?z15, ?z16⟩ <;> k_is)
    (case cN1 => k_is); (case ecN1 => rfl)
    (case cS1 => k_is); (case ecS1 => rfl)
    (case cF1 => k_is); (case ecF1 => rfl)
    (case y_gS => k_is); (case y_g0 => k_is); (case y_g1 => k_is); (case y_g2 => k_is); (case y_g3 => k_is); (case y_g4 => k_is); (case y_g5 => k_is); (case y_g6 => k_is); (case y_g7 => k_is); (case y_zV => k_is)
    (case y_oc8 => k_is); (case y_oc9 => k_is)
    (case y_xL0 => k_is); (case y_sa0 => k_is); (case y_k0 => k_is); (case y_b0 => k_is); (case y_t0 => k_is); (case y_no0 => k_is); (case y_iC0 => k_is); (case y_tI0 => k_is); (case y_lI0 => k_is); (case y_cI0 => k_is); (case y_kI0 => k_is); (case y_ec0 => kernel_rfl); (case y_eg0 => k_is); (case y_eh0 => k_is); (case y_ek0 => k_is); (case y_em0 => k_is); (case y_ex0 => kernel_rfl); (case y_q00 => kernel_rfl); (case y_q01 => kernel_rfl); (case y_q02 => kernel_rfl); (case y_q03 => kernel_rfl); (case y_q04 => kernel_rfl); (case y_q05 => kernel_rfl); (case y_q06 => kernel_rfl); (case y_q07 => kernel_rfl); (case y_qv0 => kernel_rfl)
    (case y_xL7 => k_is); (case y_sa7 => k_is); (case y_k7 => k_is); (case y_b7 => k_is); (case y_t7 => k_is); (case y_no7 => k_is); (case y_iC7 => k_is); (case y_tI7 => k_is); (case y_lI7 => k_is); (case y_cI7 => k_is); (case y_kI7 => k_is); (case y_ec7 => kernel_rfl); (case y_eg7 => k_is); (case y_eh7 => k_is); (case y_ek7 => k_is); (case y_em7 => k_is); (case y_ex7 => kernel_rfl); (case y_q70 => kernel_rfl); (case y_q71 => kernel_rfl); (case y_q72 => kernel_rfl); (case y_q73 => kernel_rfl); (case y_q74 => kernel_rfl); (case y_q75 => kernel_rfl); (case y_q76 => kernel_rfl); (case y_q77 => kernel_rfl); (case y_qv7 => kernel_rfl)
    (case y_bga => first | k_is | kernel_rfl); (case y_brd => first | k_is | kernel_rfl); (case y_bv => first | k_is | kernel_rfl)
    (case y_hd0 => first | k_is | kernel_rfl); (case y_hd7 => first | k_is | kernel_rfl)
    (case d_is_whole => refine' KS.At.of ?a ?l ?c ?k; (case a => k_is); (case l => k_is); (case c => k_is); (case k => k_is))
    (case d_is_pair => refine' KS.At.of ?a ?l ?c ?k; (case a => k_is); (case l => k_is); (case c => k_is); (case k => k_is))
    (case d_are_elders => refine' KS.At.of ?a ?l ?c ?k; (case a => k_is); (case l => k_is); (case c => k_is); (case k => k_is))
    (case d_are_deeds => refine' KS.At.of ?a ?l ?c ?k; (case a => k_is); (case l => k_is); (case c => k_is); (case k => k_is))
    (case d_is_kind => refine' KS.At.of ?a ?l ?c ?k; (case a => k_is); (case l => k_is); (case c => k_is); (case k => k_is))
    (case d_elders_of => refine' KS.At.of ?a ?l ?c ?k; (case a => k_is); (case l => k_is); (case c => k_is); (case k => k_is))
    (case d_deeds_of => refine' KS.At.of ?a ?l ?c ?k; (case a => k_is); (case l => k_is); (case c => k_is); (case k => k_is))
    (case d_elder_part => refine' KS.At.of ?a ?l ?c ?k; (case a => k_is); (case l => k_is); (case c => k_is); (case k => k_is))
    (case d_meet => refine' KS.At.of ?a ?l ?c ?k; (case a => k_is); (case l => k_is); (case c => k_is); (case k => k_is))
    (case d_met_from => refine' KS.At.of ?a ?l ?c ?k; (case a => k_is); (case l => k_is); (case c => k_is); (case k => k_is))
    (case d_known => refine' KS.At.of ?a ?l ?c ?k; (case a => k_is); (case l => k_is); (case c => k_is); (case k => k_is))
    (case d_foremost => refine' KS.At.of ?a ?l ?c ?k; (case a => k_is); (case l => k_is); (case c => k_is); (case k => k_is))
    (case d_is_sound => refine' KS.At.of ?a ?l ?c ?k; (case a => k_is); (case l => k_is); (case c => k_is); (case k => k_is))
    (case d_need_family => refine' KS.At.of ?a ?l ?c ?k; (case a => k_is); (case l => k_is); (case c => k_is); (case k => k_is))
    (case d_is_figure => refine' KS.At.of ?a ?l ?c ?k; (case a => k_is); (case l => k_is); (case c => k_is); (case k => k_is))
    (case d_is_elder_word => refine' KS.At.of ?a ?l ?c ?k; (case a => k_is); (case l => k_is); (case c => k_is); (case k => k_is))
    (case d_are_elder_words => refine' KS.At.of ?a ?l ?c ?k; (case a => k_is); (case l => k_is); (case c => k_is); (case k => k_is))
    (case d_are_deed_letters => refine' KS.At.of ?a ?l ?c ?k; (case a => k_is); (case l => k_is); (case c => k_is); (case k => k_is))
    (case d_is_row => refine' KS.At.of ?a ?l ?c ?k; (case a => k_is); (case l => k_is); (case c => k_is); (case k => k_is))
    (case d_read_elder => refine' KS.At.of ?a ?l ?c ?k; (case a => k_is); (case l => k_is); (case c => k_is); (case k => k_is))
    (case d_read_row => refine' KS.At.of ?a ?l ?c ?k; (case a => k_is); (case l => k_is); (case c => k_is); (case k => k_is))
    (case d_read => refine' KS.At.of ?a ?l ?c ?k; (case a => k_is); (case l => k_is); (case c => k_is); (case k => k_is))
    (case d_law_mix => refine' KS.At.of ?a ?l ?c ?k; (case a => k_is); (case l => k_is); (case c => k_is); (case k => k_is))
    (case d_law_next => refine' KS.At.of ?a ?l ?c ?k; (case a => k_is); (case l => k_is); (case c => k_is); (case k => k_is))
    (case d_law_alike => refine' KS.At.of ?a ?l ?c ?k; (case a => k_is); (case l => k_is); (case c => k_is); (case k => k_is))
    (case d_law_met => refine' KS.At.of ?a ?l ?c ?k; (case a => k_is); (case l => k_is); (case c => k_is); (case k => k_is))
    (case d_law_doer => refine' KS.At.of ?a ?l ?c ?k; (case a => k_is); (case l => k_is); (case c => k_is); (case k => k_is))
    (case d_law_knows => refine' KS.At.of ?a ?l ?c ?k; (case a => k_is); (case l => k_is); (case c => k_is); (case k => k_is))
    (case d_law_family => refine' KS.At.of ?a ?l ?c ?k; (case a => k_is); (case l => k_is); (case c => k_is); (case k => k_is))
    (case d_law_text => refine' KS.At.of ?a ?l ?c ?k; (case a => k_is); (case l => k_is); (case c => k_is); (case k => k_is))
    (case d_law_elders => refine' KS.At.of ?a ?l ?c ?k; (case a => k_is); (case l => k_is); (case c => k_is); (case k => k_is))
    (case d_law_row => refine' KS.At.of ?a ?l ?c ?k; (case a => k_is); (case l => k_is); (case c => k_is); (case k => k_is))
    (case d_law_bad => refine' KS.At.of ?a ?l ?c ?k; (case a => k_is); (case l => k_is); (case c => k_is); (case k => k_is))
    (case d_law_due => refine' KS.At.of ?a ?l ?c ?k; (case a => k_is); (case l => k_is); (case c => k_is); (case k => k_is))
    (case d_law_told => refine' KS.At.of ?a ?l ?c ?k; (case a => k_is); (case l => k_is); (case c => k_is); (case k => k_is))
    (case d_law_changed => refine' KS.At.of ?a ?l ?c ?k; (case a => k_is); (case l => k_is); (case c => k_is); (case k => k_is))
