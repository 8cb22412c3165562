import PyProof.Rows.All
import Wide.All
import OpenK.AllK
import Wide.FinOn
import Open.SpecLaws
import KE.OsGo
import HandS.ForSpec
import HandS.ForMost
import HandS.Walk
import HandS.Zip
import HandS.Conv
import HandS.SortInts
import HandS.TupSets
import PySem.Challenge.RW_wayposts_s01_answers
set_option Elab.async false
set_option linter.all false
set_option maxRecDepth 100000
set_option maxHeartbeats 2000000
/-! A layer of data over the hand layer: what a value stands for is told by a predicate that only looks at objects that never change (the region G); lists and objects that change stand apart, each owned by one slot. -/
namespace Wp
open PySem L2

/-! ### predicates of values, of changing objects -/
structure Pr where
  p : Hp → V → Prop
  mono : ∀ {G H : Hp} {v : V}, Same G H → p G v → p H v
structure Mu where
  m : Hp → HO → Prop
  mono : ∀ {G H : Hp} {o : HO}, Same G H → m G o → m H o
def AllP (G : Hp) : List Pr → List V → Prop
  | [], [] => True
  | P :: Ps, v :: vs => P.p G v ∧ AllP G Ps vs
  | _, _ => False
theorem AllP.mono {G H : Hp} (e : Same G H) : ∀ {Ps : List Pr} {vs : List V}, AllP G Ps vs → AllP H Ps vs
  | [], [], _ => trivial
  | _ :: _, _ :: _, h => ⟨Pr.mono _ e h.1, AllP.mono e h.2⟩
  | [], _ :: _, h => h.elim
  | _ :: _, [], h => h.elim
theorem AllP.length {G : Hp} : ∀ {Ps : List Pr} {vs : List V}, AllP G Ps vs → vs.length = Ps.length
  | [], [], _ => rfl
  | _ :: _, _ :: _, h => congrArg (· + 1) (AllP.length h.2)
  | [], _ :: _, h => h.elim
  | _ :: _, [], h => h.elim
theorem AllP.append {G : Hp} : ∀ {Ps : List Pr} {vs : List V} {Qs : List Pr} {us : List V}, AllP G Ps vs → AllP G Qs us → AllP G (Ps ++ Qs) (vs ++ us)
  | [], [], _, _, _, k => k
  | _ :: _, _ :: _, _, _, h, k => ⟨h.1, AllP.append h.2 k⟩
  | [], _ :: _, _, _, h, _ => h.elim
  | _ :: _, [], _, _, h, _ => h.elim
theorem AllP.get {G : Hp} : ∀ {Ps : List Pr} {vs : List V} {i : Nat} {P : Pr}, AllP G Ps vs → Ps[i]? = some P → ∃ v, vs[i]? = some v ∧ P.p G v
  | [], [], _, _, _, e => by simp at e
  | P :: _, v :: _, 0, _, h, e => by
    have e' : P = _ := Option.some.inj (by simpa using e)
    subst e'
    exact ⟨v, rfl, h.1⟩
  | _ :: _, _ :: _, i + 1, P, h, e => by
    obtain ⟨v, h1, h2⟩ := AllP.get (i := i) (P := P) h.2 (by simpa using e)
    exact ⟨v, by simpa using h1, h2⟩
  | [], _ :: _, _, _, h, _ => h.elim
  | _ :: _, [], _, _, h, _ => h.elim
theorem AllP.one {G : Hp} {P : Pr} {vs : List V} (h : AllP G [P] vs) : ∃ v, vs = [v] ∧ P.p G v := by
  match vs, h with
  | [v], h => exact ⟨v, rfl, h.1⟩
  | [], h => exact h.elim
  | _ :: _ :: _, h => exact h.2.elim
theorem AllP.two {G : Hp} {P Q : Pr} {vs : List V} (h : AllP G [P, Q] vs) : ∃ v u, vs = [v, u] ∧ P.p G v ∧ Q.p G u := by
  match vs, h with
  | [v, u], h => exact ⟨v, u, rfl, h.1, h.2.1⟩
  | [], h => exact h.elim
  | [_], h => exact h.2.elim
  | _ :: _ :: _ :: _, h => exact h.2.2.elim
theorem AllP.drop {G : Hp} : ∀ {Ps : List Pr} {vs : List V} (n : Nat), AllP G Ps vs → AllP G (Ps.drop n) (vs.drop n)
  | _, _, 0, h => h
  | [], [], _ + 1, h => h
  | _ :: _, _ :: _, n + 1, h => AllP.drop n h.2
  | [], _ :: _, _ + 1, h => h.elim
  | _ :: _, [], _ + 1, h => h.elim
theorem AllP.take {G : Hp} : ∀ {Ps : List Pr} {vs : List V} (n : Nat), AllP G Ps vs → AllP G (Ps.take n) (vs.take n)
  | _, _, 0, _ => by rw [List.take_zero, List.take_zero]; trivial
  | [], [], _ + 1, h => h
  | _ :: _, _ :: _, n + 1, h => ⟨h.1, AllP.take n h.2⟩
  | [], _ :: _, _ + 1, h => h.elim
  | _ :: _, [], _ + 1, h => h.elim
theorem AllP.set {G : Hp} {P : Pr} {v : V} (k : P.p G v) : ∀ {Ps : List Pr} {vs : List V} (n : Nat), AllP G Ps vs → AllP G (Ps.set n P) (vs.set n v)
  | [], [], _, h => h
  | _ :: _, _ :: _, 0, h => ⟨k, h.2⟩
  | _ :: _, _ :: _, n + 1, h => ⟨h.1, AllP.set k n h.2⟩
  | [], _ :: _, _, h => h.elim
  | _ :: _, [], _, h => h.elim

def pInt (i : Int) : Pr := ⟨fun _ v => v = .int i, fun _ h => h⟩
def pBl (b : Bool) : Pr := ⟨fun _ v => v = .bl b, fun _ h => h⟩
def pNon : Pr := ⟨fun _ v => v = .non, fun _ h => h⟩
def pList (Ps : List Pr) : Pr := ⟨fun G v => ∃ a vs, v = .ref a ∧ G a = some (.lst vs) ∧ AllP G Ps vs, fun e ⟨a, vs, h1, h2, h3⟩ => ⟨a, vs, h1, e _ _ h2, h3.mono e⟩⟩
def pTup (Ps : List Pr) : Pr := ⟨fun G v => ∃ a vs, v = .ref a ∧ G a = some (.tup vs) ∧ AllP G Ps vs, fun e ⟨a, vs, h1, h2, h3⟩ => ⟨a, vs, h1, e _ _ h2, h3.mono e⟩⟩
theorem sqT_mono {K : PySem.W.Frag} {H H' : Hp} {a : Addr} {xs : List V} (e : Same H H') (h : SqT K H a xs) : SqT K H' a xs := by
  rcases h with (h | ⟨o, h⟩) | h
  · exact .inl (.inl (e _ _ h))
  · exact .inl (.inr ⟨o, e _ _ h⟩)
  · exact .inr h
/-- a list, a tuple that is read alone (handed in, or written at the top) -/
def pSqL (K : PySem.W.Frag) (xs : List V) : Pr := ⟨fun G v => ∃ a, v = .ref a ∧ SqL K G a xs, fun e ⟨a, h1, h2⟩ => ⟨a, h1, e.seq h2⟩⟩
def pSqT (K : PySem.W.Frag) (xs : List V) : Pr := ⟨fun G v => ∃ a, v = .ref a ∧ SqT K G a xs, fun e ⟨a, h1, h2⟩ => ⟨a, h1, sqT_mono e h2⟩⟩
def muL (Ps : List Pr) : Mu := ⟨fun G o => ∃ vs, o = .lst vs ∧ AllP G Ps vs, fun e ⟨vs, h1, h2⟩ => ⟨vs, h1, h2.mono e⟩⟩
/-- an instance by its attributes -/
def AllF (G : Hp) : List (Str × Pr) → List (Str × V) → Prop
  | [], [] => True
  | (n, P) :: fs, (m, v) :: gs => n = m ∧ P.p G v ∧ AllF G fs gs
  | _, _ => False
theorem AllF.mono {G H : Hp} (e : Same G H) : ∀ {Ps : List (Str × Pr)} {vs : List (Str × V)}, AllF G Ps vs → AllF H Ps vs
  | [], [], _ => trivial
  | (_, P) :: _, (_, _) :: _, h => ⟨h.1, P.mono e h.2.1, AllF.mono e h.2.2⟩
  | [], _ :: _, h => h.elim
  | _ :: _, [], h => h.elim
def muI (C : Addr) (fs : List (Str × Pr)) : Mu := ⟨fun G o => ∃ dx gs, o = .ins C dx gs ∧ AllF G fs gs, fun e ⟨dx, gs, h1, h2⟩ => ⟨dx, gs, h1, h2.mono e⟩⟩

/-! ### slots -/
inductive Sl where
  | any
  | val (P : Pr)
  | own (a : Addr) (M : Mu)
def owns (Γ : List Sl) (b : Addr) : Prop := ∃ (i : Nat) (M : Mu), Γ[i]? = some (Sl.own b M)
structure Fits (G H : Hp) (σ : L2.St) (Γ : List Sl) : Prop where
  gh : Same G H
  len : Γ.length ≤ σ.length
  val : ∀ (i : Nat) (P : Pr), Γ[i]? = some (Sl.val P) → ∃ v : V, σ[i]? = some (some v) ∧ P.p G v
  own : ∀ (i : Nat) (a : Addr) (M : Mu), Γ[i]? = some (Sl.own a M) → σ[i]? = some (some (V.ref a)) ∧ G a = none ∧ ∃ o, H a = some o ∧ M.m G o
  dis : ∀ (i j : Nat) (a : Addr) (M N : Mu), Γ[i]? = some (Sl.own a M) → Γ[j]? = some (Sl.own a N) → i = j
/-- an expression's way: nothing that stood is changed, the region grows by new objects alone -/
structure GrowE (G H G2 H2 : Hp) : Prop where
  eG : Same G G2
  eH : Same H H2
  gh : Same G2 H2
  fr : ∀ b, G b = none → H b ≠ none → G2 b = none
theorem GrowE.refl {G H : Hp} (e : Same G H) : GrowE G H G H := ⟨.refl _, .refl _, e, fun _ h _ => h⟩
theorem GrowE.trans {G H G2 H2 G3 H3 : Hp} (a : GrowE G H G2 H2) (b : GrowE G2 H2 G3 H3) : GrowE G H G3 H3 :=
  ⟨a.eG.trans b.eG, a.eH.trans b.eH, b.gh, fun c h k => b.fr c (a.fr c h k) fun z => k (a.eH.free z)⟩
theorem GrowE.new {G H : Hp} {p : Addr} {o : HO} (e : Same G H) (hp : H p = none) : GrowE G H (upd G p o) (upd H p o) where
  eG := fun b u h => by rw [upd_ne (ne_of_none (e _ _ h) hp)]; exact h
  eH := fun b u h => by rw [upd_ne (ne_of_none h hp)]; exact h
  gh := fun b u h => by
    by_cases hb : b = p
    · subst hb; rw [upd_same] at h ⊢; exact h
    · rw [upd_ne hb] at h ⊢; exact e _ _ h
  fr := fun b h k => by
    have hb : b ≠ p := fun z => k (by rw [z]; exact hp)
    rw [upd_ne hb]; exact h
theorem Fits.grow {G H G2 H2 : Hp} {σ : L2.St} {Γ : List Sl} (f : Fits G H σ Γ) (g : GrowE G H G2 H2) : Fits G2 H2 σ Γ where
  gh := g.gh
  len := f.len
  val := fun i P h => by
    obtain ⟨v, h1, h2⟩ := f.val i P h
    exact ⟨v, h1, P.mono g.eG h2⟩
  own := fun i a M h => by
    obtain ⟨h1, h2, o, h3, h4⟩ := f.own i a M h
    exact ⟨h1, g.fr a h2 (by rw [h3]; intro z; cases z), o, g.eH _ _ h3, M.mono g.eG h4⟩
  dis := f.dis
/-- a statement's way: what the slots own may be changed -/
structure Grow (O : Addr → Prop) (G H : Hp) (O2 : Addr → Prop) (G2 H2 : Hp) : Prop where
  eG : Same G G2
  eH : ∀ b o, H b = some o → ¬ O b → H2 b = some o
  fr : ∀ b, G b = none → H b ≠ none → ¬ O b → G2 b = none
  ow : ∀ b, O2 b → O b ∨ H b = none
theorem Grow.refl {O : Addr → Prop} {G H : Hp} : Grow O G H O G H := ⟨.refl _, fun _ _ h _ => h, fun _ h _ _ => h, fun _ h => .inl h⟩
theorem Grow.trans {O O2 O3 : Addr → Prop} {G H G2 H2 G3 H3 : Hp} (a : Grow O G H O2 G2 H2) (b : Grow O2 G2 H2 O3 G3 H3) : Grow O G H O3 G3 H3 where
  eG := a.eG.trans b.eG
  eH := fun c o h k => b.eH c o (a.eH c o h k) fun z => (a.ow c z).elim k fun q => by rw [q] at h; cases h
  fr := fun c h k n => by
    refine b.fr c (a.fr c h k n) (fun z => ?_) fun z => (a.ow c z).elim n fun q => k q
    cases e : H c with
    | none => exact k e
    | some o => rw [a.eH c o e n] at z; cases z
  ow := fun c z => (b.ow c z).elim (a.ow c) fun q => by
    by_cases n : O c
    · exact .inl n
    · refine .inr ?_
      cases e : H c with
      | none => rfl
      | some o => rw [a.eH c o e n] at q; cases q
theorem GrowE.grow {O : Addr → Prop} {G H G2 H2 : Hp} (g : GrowE G H G2 H2) : Grow O G H O G2 H2 := ⟨g.eG, fun b o h _ => g.eH b o h, fun b h k _ => g.fr b h k, fun _ h => .inl h⟩
theorem Grow.less {O O2 O3 : Addr → Prop} {G H G2 H2 : Hp} (g : Grow O G H O2 G2 H2) (h : ∀ b, O3 b → O2 b) : Grow O G H O3 G2 H2 := ⟨g.eG, g.eH, g.fr, fun b z => g.ow b (h b z)⟩

/-! ### expressions -/
def DE (te : TE) (Γ : List Sl) (P : Pr) : Prop := ∀ (G H : Hp) (σ : L2.St), Fits G H σ Γ → ∀ Q : VK, (∀ v G2 H2, GrowE G H G2 H2 → P.p G2 v → Q v H2) → te σ H Q
def EA (ta : TA) (Γ : List Sl) (Ps : List Pr) : Prop := ∀ (G H : Hp) (σ : L2.St), Fits G H σ Γ → ∀ Q : List V → Hp → Prop, (∀ vs G2 H2, GrowE G H G2 H2 → AllP G2 Ps vs → Q vs H2) → ta σ H Q
def ET (tt : TT) (Γ : List Sl) (b : Bool) : Prop := ∀ (G H : Hp) (σ : L2.St), Fits G H σ Γ → ∀ Q : Bool → Hp → Prop, (∀ G2 H2, GrowE G H G2 H2 → Q b H2) → tt σ H Q
def EO (to : TO) (Γ : List Sl) (i : Option Int) : Prop := ∀ (G H : Hp) (σ : L2.St), Fits G H σ Γ → ∀ Q : Option Int → Hp → Prop, (∀ G2 H2, GrowE G H G2 H2 → Q i H2) → to σ H Q
/-- an operation on values, a call on values -/
def RR (r : R2) (P Q R : Pr) : Prop := ∀ (G H : Hp) (x y : V), Same G H → P.p G x → Q.p G y → ∀ k : VK, (∀ v G2 H2, GrowE G H G2 H2 → R.p G2 v → k v H2) → r x y H k
def RC (r : List V → Hp → VK → Prop) (Ps : List Pr) (R : Pr) : Prop := ∀ (G H : Hp) (vs : List V), Same G H → AllP G Ps vs → ∀ k : VK, (∀ v G2 H2, GrowE G H G2 H2 → R.p G2 v → k v H2) → r vs H k
section
variable {Γ : List Sl} {P Q R : Pr} {Ps : List Pr} {ta tb te : TE} {K : PySem.W.Frag}
theorem de_is (h : DE te Γ P) (e : P = Q) : DE te Γ Q := e ▸ h
theorem ea_is {tA : TA} {Qs : List Pr} (h : EA tA Γ Ps) (e : Ps = Qs) : EA tA Γ Qs := e ▸ h
theorem et_is {tt : TT} {b c : Bool} (h : ET tt Γ b) (e : b = c) : ET tt Γ c := e ▸ h
theorem de_var {i : Nat} (h : Γ[i]? = some (Sl.val P)) : DE (tVar i) Γ P := fun G H σ f k q => by
  obtain ⟨v, h1, h2⟩ := f.val i P h
  exact ⟨v, h1, q v G H (.refl f.gh) h2⟩
theorem de_c {v : V} (h : ∀ G, P.p G v) : DE (tC v) Γ P := fun G H _ f _ q => q v G H (.refl f.gh) (h G)
theorem de_int {i : Int} : DE (tC (.int i)) Γ (pInt i) := de_c fun _ => rfl
theorem de_bl {b : Bool} : DE (tC (.bl b)) Γ (pBl b) := de_c fun _ => rfl
theorem de_non : DE (tC .non) Γ pNon := de_c fun _ => rfl
theorem de_op {r : R2} (ha : DE ta Γ P) (hb : DE tb Γ Q) (hr : RR r P Q R) : DE (tOp r ta tb) Γ R := fun G H σ f k q =>
  ha G H σ f _ fun x G2 H2 g2 hx => hb G2 H2 σ (f.grow g2) _ fun y G3 H3 g3 hy => hr G3 H3 x y g3.gh (P.mono g3.eG hx) hy k fun v G4 H4 g4 hv => q v G4 H4 ((g2.trans g3).trans g4) hv
theorem de_un {r : V → Hp → VK → Prop} (ha : DE ta Γ P) (hr : ∀ (G H : Hp) (x : V), Same G H → P.p G x → ∀ k : VK, (∀ v G2 H2, GrowE G H G2 H2 → R.p G2 v → k v H2) → r x H k) : DE (tUn r ta) Γ R := fun G H σ f k q =>
  ha G H σ f _ fun x G2 H2 g2 hx => hr G2 H2 x g2.gh hx k fun v G4 H4 g4 hv => q v G4 H4 (g2.trans g4) hv
theorem ea_nil : EA tNil Γ [] := fun G H _ f _ q => q [] G H (.refl f.gh) trivial
theorem ea_cons {tr : TA} (ha : DE ta Γ P) (hr : EA tr Γ Ps) : EA (tCons ta tr) Γ (P :: Ps) := fun G H σ f k q =>
  ha G H σ f _ fun x G2 H2 g2 hx => hr G2 H2 σ (f.grow g2) _ fun xs G3 H3 g3 hs => q (x :: xs) G3 H3 (g2.trans g3) ⟨P.mono g3.eG hx, hs⟩
theorem de_cb {r : List V → Hp → VK → Prop} {tA : TA} (ha : EA tA Γ Ps) (hr : RC r Ps R) : DE (tCB r tA) Γ R := fun G H σ f k q =>
  ha G H σ f _ fun vs G2 H2 g2 hv => hr G2 H2 vs g2.gh hv k fun v G3 H3 g3 h3 => q v G3 H3 (g2.trans g3) h3
theorem rr_I0 {g : Int → Int → V} {i j : Int} (h : ∀ G, R.p G (g i j)) : RR (rI0 g) (pInt i) (pInt j) R := fun G H _ _ e hx hy k q => ⟨i, j, hx, hy, q _ G H (.refl e) (h G)⟩
theorem rr_I {C : Int → Int → Prop} {g : Int → Int → V} {i j : Int} (c : C i j) (h : ∀ G, R.p G (g i j)) : RR (rI C g) (pInt i) (pInt j) R := fun G H _ _ e hx hy k q => ⟨i, j, hx, hy, c, q _ G H (.refl e) (h G)⟩
theorem de_add {i j : Int} (ha : DE ta Γ (pInt i)) (hb : DE tb Γ (pInt j)) : DE (tOp (rI0 fun i j => .int (i + j)) ta tb) Γ (pInt (i + j)) := de_op ha hb (rr_I0 fun _ => rfl)
theorem de_sub {i j : Int} (ha : DE ta Γ (pInt i)) (hb : DE tb Γ (pInt j)) : DE (tOp (rI0 fun i j => .int (i - j)) ta tb) Γ (pInt (i - j)) := de_op ha hb (rr_I0 fun _ => rfl)
theorem de_mul {i j : Int} (ha : DE ta Γ (pInt i)) (hb : DE tb Γ (pInt j)) (c : CMul i j) : DE (tOp (rI CMul fun i j => .int (i * j)) ta tb) Γ (pInt (i * j)) := de_op ha hb (rr_I c fun _ => rfl)
theorem de_neg {i : Int} (ha : DE ta Γ (pInt i)) : DE (tUn (rU fun i => .int (-i)) ta) Γ (pInt (-i)) := de_un ha fun G H x e hx k q => ⟨i, hx, q _ G H (.refl e) rfl⟩
theorem de_lt {i j : Int} (ha : DE ta Γ (pInt i)) (hb : DE tb Γ (pInt j)) : DE (tOp (rI0 fun i j => .bl (decide (i < j))) ta tb) Γ (pBl (decide (i < j))) := de_op ha hb (rr_I0 fun _ => rfl)
theorem de_le {i j : Int} (ha : DE ta Γ (pInt i)) (hb : DE tb Γ (pInt j)) : DE (tOp (rI0 fun i j => .bl (decide (i ≤ j))) ta tb) Γ (pBl (decide (i ≤ j))) := de_op ha hb (rr_I0 fun _ => rfl)
theorem de_gt {i j : Int} (ha : DE ta Γ (pInt i)) (hb : DE tb Γ (pInt j)) : DE (tOp (rI0 fun i j => .bl (decide (j < i))) ta tb) Γ (pBl (decide (j < i))) := de_op ha hb (rr_I0 fun _ => rfl)
theorem de_ge {i j : Int} (ha : DE ta Γ (pInt i)) (hb : DE tb Γ (pInt j)) : DE (tOp (rI0 fun i j => .bl (decide (j ≤ i))) ta tb) Γ (pBl (decide (j ≤ i))) := de_op ha hb (rr_I0 fun _ => rfl)
theorem dec_int (i j : Int) : decide (V.int i = V.int j) = decide (i = j) := by
  by_cases e : i = j
  · rw [decide_eq_true e, e, decide_eq_true rfl]
  · rw [decide_eq_false e, decide_eq_false fun z => e (V.int.inj z)]
theorem de_eq {i j : Int} (ha : DE ta Γ (pInt i)) (hb : DE tb Γ (pInt j)) : DE (tOp rEq ta tb) Γ (pBl (decide (i = j))) := de_op ha hb fun G H x y e hx hy k q => by
  have hx' : x = .int i := hx
  have hy' : y = .int j := hy
  subst hx' hy'
  exact ⟨rfl, q _ G H (.refl e) (congrArg V.bl (dec_int i j))⟩
theorem de_ne {i j : Int} (ha : DE ta Γ (pInt i)) (hb : DE tb Γ (pInt j)) : DE (tOp rNe ta tb) Γ (pBl (!decide (i = j))) := de_op ha hb fun G H x y e hx hy k q => by
  have hx' : x = .int i := hx
  have hy' : y = .int j := hy
  subst hx' hy'
  exact ⟨rfl, q _ G H (.refl e) (congrArg (fun b => V.bl (!b)) (dec_int i j))⟩
/-- x is None -/
theorem de_isN {b : Bool} (ha : DE ta Γ P) (h : ∀ G v, P.p G v → decide (v = .non) = b) : DE (tOp (fun x y H Q => y = .non ∧ Q (.bl (decide (x = .non))) H) ta (tC .non)) Γ (pBl b) := de_op ha de_non fun G H x y e hx hy k q =>
  ⟨hy, q _ G H (.refl e) (congrArg V.bl (h G x hx))⟩
theorem de_notN {b : Bool} (ha : DE ta Γ P) (h : ∀ G v, P.p G v → (!decide (v = .non)) = b) : DE (tOp (fun x y H Q => y = .non ∧ Q (.bl (!decide (x = .non))) H) ta (tC .non)) Γ (pBl b) := de_op ha de_non fun G H x y e hx hy k q =>
  ⟨hy, q _ G H (.refl e) (congrArg V.bl (h G x hx))⟩
theorem notNon_list {Ps : List Pr} (G : Hp) (v : V) (h : (pList Ps).p G v) : decide (v = .non) = false := by
  obtain ⟨a, vs, rfl, _⟩ := h
  rfl
theorem isNon (G : Hp) (v : V) (h : pNon.p G v) : decide (v = .non) = true := by
  cases (show v = .non from h)
  rfl
theorem et_test {b : Bool} (h : DE te Γ (pBl b)) : ET (tTest te) Γ b := fun G H σ f k q => h G H σ f _ fun v G2 H2 g hv => ⟨b, hv, q G2 H2 g⟩
theorem et_B {b : Bool} (h : DE te Γ (pBl b)) : ET (tB te) Γ b := fun G H σ f k q => h G H σ f _ fun v G2 H2 g hv => ⟨b, hv, q G2 H2 g⟩
theorem et_yes : ET tYes Γ true := fun G H _ f _ q => q G H (.refl f.gh)
theorem et_and {t u : TT} {a b : Bool} (h1 : ET t Γ a) (h2 : a = true → ET u Γ b) : ET (tAnd t u) Γ (a && b) := fun G H σ f k q => h1 G H σ f _ fun G2 H2 g => by
  cases a with
  | true => exact h2 rfl G2 H2 σ (f.grow g) k fun G3 H3 g3 => q G3 H3 (g.trans g3)
  | false => exact q G2 H2 g
theorem et_or {t u : TT} {a b : Bool} (h1 : ET t Γ a) (h2 : a = false → ET u Γ b) : ET (tOr t u) Γ (a || b) := fun G H σ f k q => h1 G H σ f _ fun G2 H2 g => by
  cases a with
  | true => exact q G2 H2 g
  | false => exact h2 rfl G2 H2 σ (f.grow g) k fun G3 H3 g3 => q G3 H3 (g.trans g3)
theorem et_not {t : TT} {a : Bool} (h : ET t Γ a) : ET (tNot t) Γ (!a) := fun G H σ f k q => h G H σ f _ fun G2 H2 g => q G2 H2 g
/-! lists and tuples -/
theorem de_lst {tA : TA} (ha : EA tA Γ Ps) (hl : Ps.length ≤ 100000) : DE (tLst tA) Γ (pList Ps) := fun G H σ f k q => ha G H σ f _ fun vs G2 H2 g hv =>
  ⟨Nat.le_trans (by rw [hv.length]; exact hl) (by decide), fun p hp => q _ _ _ (g.trans (.new g.gh hp)) ⟨p, vs, rfl, upd_same, hv.mono (GrowE.new g.gh hp).eG⟩⟩
theorem de_tup {tA : TA} (ha : EA tA Γ Ps) (hl : Ps.length ≤ 100000) : DE (tTup tA) Γ (pTup Ps) := fun G H σ f k q => ha G H σ f _ fun vs G2 H2 g hv =>
  ⟨Nat.le_trans (by rw [hv.length]; exact hl) (by decide), fun p hp => q _ _ _ (g.trans (.new g.gh hp)) ⟨p, vs, rfl, upd_same, hv.mono (GrowE.new g.gh hp).eG⟩⟩
theorem ixAt {G : Hp} {Ps : List Pr} {vs : List V} {i : Int} {P : Pr} (h : AllP G Ps vs) (e : atI Ps i = some P) : ∃ v, atI vs i = some v ∧ P.p G v := by
  unfold atI at e ⊢
  rw [h.length]
  cases c : ixN Ps.length i with
  | none => rw [c] at e; cases e
  | some j =>
    rw [c] at e
    exact h.get e
theorem de_ixL {i : Int} (ha : DE ta Γ (pList Ps)) (hb : DE tb Γ (pInt i)) (e : atI Ps i = some P) : DE (tOp (rIxL K) ta tb) Γ P := de_op ha hb fun G H x y s hx hy k q => by
  obtain ⟨a, vs, rfl, h2, h3⟩ := hx
  obtain ⟨v, h4, h5⟩ := ixAt h3 e
  exact ⟨a, vs, i, v, rfl, hy, .of (s _ _ h2), h4, q v G H (.refl s) h5⟩
theorem de_ixT {i : Int} (ha : DE ta Γ (pTup Ps)) (hb : DE tb Γ (pInt i)) (e : atI Ps i = some P) : DE (tOp (rIxT K) ta tb) Γ P := de_op ha hb fun G H x y s hx hy k q => by
  obtain ⟨a, vs, rfl, h2, h3⟩ := hx
  obtain ⟨v, h4, h5⟩ := ixAt h3 e
  exact ⟨a, vs, i, v, rfl, hy, .of (s _ _ h2), h4, q v G H (.refl s) h5⟩
theorem de_ixSL {xs : List V} {i j : Int} (ha : DE ta Γ (pSqL K xs)) (hb : DE tb Γ (pInt i)) (e : atI xs i = some (.int j)) : DE (tOp (rIxL K) ta tb) Γ (pInt j) := de_op ha hb fun G H x y s hx hy k q => by
  obtain ⟨a, rfl, h2⟩ := hx
  exact ⟨a, xs, i, _, rfl, hy, s.seq h2, e, q _ G H (.refl s) rfl⟩
theorem de_ixST {xs : List V} {i j : Int} (ha : DE ta Γ (pSqT K xs)) (hb : DE tb Γ (pInt i)) (e : atI xs i = some (.int j)) : DE (tOp (rIxT K) ta tb) Γ (pInt j) := de_op ha hb fun G H x y s hx hy k q => by
  obtain ⟨a, rfl, h2⟩ := hx
  exact ⟨a, xs, i, _, rfl, hy, sqT_mono s h2, e, q _ G H (.refl s) rfl⟩
theorem de_cat {Qs : List Pr} (ha : DE ta Γ (pList Ps)) (hb : DE tb Γ (pList Qs)) (hl : Ps.length + Qs.length ≤ 100000) : DE (tOp rCat ta tb) Γ (pList (Ps ++ Qs)) := de_op ha hb fun G H x y s hx hy k q => by
  obtain ⟨a, vs, rfl, h2, h3⟩ := hx
  obtain ⟨b, us, rfl, h5, h6⟩ := hy
  exact ⟨a, b, vs, us, rfl, rfl, s _ _ h2, s _ _ h5, Nat.le_trans (by rw [h3.length, h6.length]; exact hl) (by decide), fun p hp =>
    q _ _ _ (.new s hp) ⟨p, vs ++ us, rfl, upd_same, (h3.append h6).mono (GrowE.new s hp).eG⟩⟩
theorem allP_rep {G : Hp} {P : Pr} {v : V} (h : P.p G v) : ∀ n : Nat, AllP G (List.replicate n P) (List.replicate n [v]).flatten
  | 0 => trivial
  | n + 1 => ⟨h, allP_rep h n⟩
theorem de_rep {n : Int} (ha : DE ta Γ (pList [P])) (hb : DE tb Γ (pInt n)) (h0 : 0 ≤ n) (hl : n ≤ 100000) : DE (tOp rRep ta tb) Γ (pList (List.replicate n.toNat P)) := de_op ha hb fun G H x y s hx hy k q => by
  obtain ⟨a, vs, rfl, h2, h3⟩ := hx
  obtain ⟨v, rfl, h4⟩ := h3.one
  exact ⟨a, n, [v], rfl, hy, s _ _ h2, by omega, by omega, Nat.le_trans (by rw [List.length_singleton]; omega) (show 100000 ≤ sizeLine by decide), fun p hp =>
    q _ _ _ (.new s hp) ⟨p, _, rfl, upd_same, (allP_rep h4 _).mono (GrowE.new s hp).eG⟩⟩
theorem eo_none : EO tNoPart Γ none := fun G H _ f _ q => q G H (.refl f.gh)
theorem eo_some {i : Int} (h : DE te Γ (pInt i)) : EO (tPart te) Γ (some i) := fun G H σ f _ q => h G H σ f _ fun v G2 H2 g hv => ⟨i, hv, q G2 H2 g⟩
/-- the part of a list from lo to hi -/
def cutP {α : Type} (xs : List α) (lo hi : Option Int) : List α := (xs.drop (HT.sIx xs.length 0 lo)).take (HT.sIx xs.length xs.length hi - HT.sIx xs.length 0 lo)
theorem allP_cut {G : Hp} {Ps : List Pr} {vs : List V} (h : AllP G Ps vs) (lo hi : Option Int) : AllP G (cutP Ps lo hi) (cutV vs lo hi) := by
  unfold cutP cutV
  rw [h.length]
  exact (h.drop _).take _
theorem de_sl {tl th : TO} {lo hi : Option Int} (ha : DE te Γ (pList Ps)) (h1 : EO tl Γ lo) (h2 : EO th Γ hi) : DE (tSl (rSlL K) te tl th) Γ (pList (cutP Ps lo hi)) := fun G H σ f k q =>
  ha G H σ f _ fun x G2 H2 g2 hx => h1 G2 H2 σ (f.grow g2) _ fun G3 H3 g3 => h2 G3 H3 σ ((f.grow g2).grow g3) _ fun G4 H4 g4 => by
    obtain ⟨a, vs, rfl, e2, e3⟩ := hx
    have s4 : Same G2 G4 := g3.eG.trans g4.eG
    refine ⟨a, vs, rfl, .of (g4.gh _ _ (s4 _ _ e2)), fun p hp => q _ _ _ (((g2.trans g3).trans g4).trans (.new g4.gh hp)) ⟨p, _, rfl, upd_same, ?_⟩⟩
    exact (allP_cut (e3.mono s4) lo hi).mono (GrowE.new g4.gh hp).eG
theorem allP_ints {G : Hp} : ∀ ns : List Int, AllP G (ns.map pInt) (ns.map V.int)
  | [] => trivial
  | _ :: r => ⟨rfl, allP_ints r⟩
theorem ints_allP {G : Hp} : ∀ {ns : List Int} {vs : List V}, AllP G (ns.map pInt) vs → vs = ns.map V.int
  | [], [], _ => rfl
  | n :: r, v :: vs, h => by
    have h1 : v = .int n := h.1
    rw [h1, ints_allP (ns := r) h.2]
    rfl
  | [], _ :: _, h => h.elim
  | _ :: _, [], h => h.elim
/-- a slice of the list that was handed in -/
theorem de_slS {tl th : TO} {ns ms : List Int} {lo hi : Option Int} (ha : DE te Γ (pSqL K (ns.map V.int))) (h1 : EO tl Γ lo) (h2 : EO th Γ hi) (e : cutV (ns.map V.int) lo hi = ms.map V.int) : DE (tSl (rSlL K) te tl th) Γ (pList (ms.map pInt)) := fun G H σ f k q =>
  ha G H σ f _ fun x G2 H2 g2 hx => h1 G2 H2 σ (f.grow g2) _ fun G3 H3 g3 => h2 G3 H3 σ ((f.grow g2).grow g3) _ fun G4 H4 g4 => by
    obtain ⟨a, rfl, e2⟩ := hx
    have s4 : Same G2 G4 := g3.eG.trans g4.eG
    refine ⟨a, _, rfl, g4.gh.seq (s4.seq e2), fun p hp => q _ _ _ (((g2.trans g3).trans g4).trans (.new g4.gh hp)) ⟨p, _, rfl, upd_same, ?_⟩⟩
    rw [e]
    exact allP_ints ms
/-! calls of what is built in -/
theorem rc_len : RC (fun xs H Q => ∃ p ys, xs = [.ref p] ∧ (SqL K H p ys ∨ SqT K H p ys) ∧ Q (.int ys.length) H) [pList Ps] (pInt Ps.length) := fun G H vs s hv k q => by
  obtain ⟨v, rfl, a, us, rfl, h2, h3⟩ := hv.one
  refine ⟨a, us, rfl, .inl (.of (s _ _ h2)), ?_⟩
  rw [h3.length]
  exact q _ G H (.refl s) rfl
theorem rc_lenS {xs : List V} : RC (fun xs H Q => ∃ p ys, xs = [.ref p] ∧ (SqL K H p ys ∨ SqT K H p ys) ∧ Q (.int ys.length) H) [pSqL K xs] (pInt xs.length) := fun G H vs s hv k q => by
  obtain ⟨v, rfl, a, rfl, h2⟩ := hv.one
  exact ⟨a, xs, rfl, .inl (s.seq h2), q _ G H (.refl s) rfl⟩
theorem rc_list : RC (fun xs H Q => ∃ p ys, xs = [.ref p] ∧ (SqL K H p ys ∨ SqT K H p ys) ∧ ∀ l, H l = none → Q (.ref l) (upd H l (.lst ys))) [pList Ps] (pList Ps) := fun G H vs s hv k q => by
  obtain ⟨v, rfl, a, us, rfl, h2, h3⟩ := hv.one
  exact ⟨a, us, rfl, .inl (.of (s _ _ h2)), fun p hp => q _ _ _ (.new s hp) ⟨p, us, rfl, upd_same, h3.mono (GrowE.new s hp).eG⟩⟩
theorem rc_sum {ns : List Int} : RC (rSum K) [pList (ns.map pInt)] (pInt ns.sum) := fun G H vs s hv k q => by
  obtain ⟨v, rfl, a, us, rfl, h2, h3⟩ := hv.one
  have e := ints_allP h3
  subst e
  exact ⟨a, ns, rfl, .of (s _ _ h2), q _ G H (.refl s) rfl⟩
theorem rc_min {i j : Int} : RC (fun xs H Q => ∃ i j, xs = [.int i, .int j] ∧ Q (.int (if j < i then j else i)) H) [pInt i, pInt j] (pInt (min i j)) := fun G H vs s hv k q => by
  obtain ⟨v, u, rfl, hi, hj⟩ := hv.two
  have hi' : v = .int i := hi
  have hj' : u = .int j := hj
  subst hi' hj'
  refine ⟨i, j, rfl, q _ G H (.refl s) ?_⟩
  show V.int _ = V.int _
  congr 1
  split <;> omega
theorem rc_max {i j : Int} : RC (fun xs H Q => ∃ i j, xs = [.int i, .int j] ∧ Q (.int (if j > i then j else i)) H) [pInt i, pInt j] (pInt (max i j)) := fun G H vs s hv k q => by
  obtain ⟨v, u, rfl, hi, hj⟩ := hv.two
  have hi' : v = .int i := hi
  have hj' : u = .int j := hj
  subst hi' hj'
  refine ⟨i, j, rfl, q _ G H (.refl s) ?_⟩
  show V.int _ = V.int _
  congr 1
  split <;> omega
/-- list(range(n)) -/
theorem rgV_nat (n : Nat) : rgV 0 (n : Int) = ((List.range n).map fun i => ((i : Nat) : Int)).map V.int := by
  unfold rgV
  rw [List.map_map]
  have e : ((n : Int) - 0).toNat = n := by omega
  rw [e]
  refine List.map_congr_left fun i _ => ?_
  show V.int (0 + (i : Int)) = V.int (i : Int)
  rw [Int.zero_add]
theorem de_listRg {n : Nat} (ha : DE ta Γ (pInt n)) (hn : n ≤ 100000) : DE (tLstRg (tRg1 ta)) Γ (pList (((List.range n).map fun i => ((i : Nat) : Int)).map pInt)) := fun G H σ f k q => ha G H σ f _ fun v G2 H2 g hv =>
  ⟨(n : Int), hv, RgOk.of_le (by omega) (by omega) (by omega) (by omega), fun p hp => q _ _ _ (g.trans (.new g.gh hp)) ⟨p, _, rfl, upd_same, by rw [rgV_nat]; exact allP_ints _⟩⟩
/-- sorted(xs), ints -/
theorem rc_sortedI {ns : List Int} {R : Pr} (h : ∀ ns' : List Int, ns'.Perm ns → ns'.Pairwise (· ≤ ·) → pList (ns'.map pInt) = R) : RC (rSortedI K) [pList (ns.map pInt)] R := fun G H vs s hv k q => by
  obtain ⟨v, rfl, a, us, rfl, h2, h3⟩ := hv.one
  have e := ints_allP h3
  subst e
  refine ⟨a, ns, rfl, .of (s _ _ h2), fun ns' p hp1 hp2 hp => q _ _ _ (.new s hp) ?_⟩
  rw [← h ns' hp1 hp2]
  exact ⟨p, _, rfl, upd_same, allP_ints ns'⟩
/-- x in xs, ints -/
theorem inV_ints (x : Int) : ∀ ns : List Int, inV (.int x) (ns.map V.int) = ns.contains x
  | [] => rfl
  | n :: r => by
    have ih := inV_ints x r
    unfold inV at ih ⊢
    rw [List.map_cons, List.any_cons, ih, List.contains_cons]
    congr 1
    show eqV (.int n) (.int x) = (x == n)
    show (n == x) = (x == n)
    by_cases e : n = x
    · rw [e]
    · rw [beq_eq_false_iff_ne.mpr e, beq_eq_false_iff_ne.mpr (Ne.symm e)]
theorem flat_ints : ∀ ns : List Int, (ns.map V.int).all flatV = true
  | [] => rfl
  | _ :: r => by rw [List.map_cons, List.all_cons, flat_ints r]; rfl
theorem de_in {x : Int} {ns : List Int} (ha : DE ta Γ (pInt x)) (hb : DE tb Γ (pList (ns.map pInt))) : DE (tOp (rIn K false) ta tb) Γ (pBl (ns.contains x)) := de_op ha hb fun G H u y s hx hy k q => by
  obtain ⟨a, us, rfl, h2, h3⟩ := hy
  have e := ints_allP h3
  subst e
  cases (show u = .int x from hx)
  exact ⟨a, _, rfl, .inl (.of (s _ _ h2)), rfl, flat_ints ns, q _ G H (.refl s) (congrArg V.bl (inV_ints x ns))⟩
theorem de_notIn {x : Int} {ns : List Int} (ha : DE ta Γ (pInt x)) (hb : DE tb Γ (pList (ns.map pInt))) : DE (tOp (rIn K true) ta tb) Γ (pBl (!ns.contains x)) := de_op ha hb fun G H u y s hx hy k q => by
  obtain ⟨a, us, rfl, h2, h3⟩ := hy
  have e := ints_allP h3
  subst e
  cases (show u = .int x from hx)
  exact ⟨a, _, rfl, .inl (.of (s _ _ h2)), rfl, flat_ints ns, q _ G H (.refl s) (congrArg (fun b => V.bl (!b)) (inV_ints x ns))⟩
theorem de_inT {x : Int} {ns : List Int} (ha : DE ta Γ (pInt x)) (hb : DE tb Γ (pSqT K (ns.map V.int))) : DE (tOp (rIn K false) ta tb) Γ (pBl (ns.contains x)) := de_op ha hb fun G H u y s hx hy k q => by
  obtain ⟨a, rfl, h2⟩ := hy
  cases (show u = .int x from hx)
  exact ⟨a, _, rfl, .inr (sqT_mono s h2), rfl, flat_ints ns, q _ G H (.refl s) (congrArg V.bl (inV_ints x ns))⟩
end
end Wp
set_option Elab.async false
set_option linter.all false
set_option maxRecDepth 100000
set_option maxHeartbeats 2000000
namespace Wp
open PySem L2

/-! ### statements -/
inductive Out where
  | nx (Γ : List Sl)
  | rt (P : Pr) (Γ : List Sl)
def Post (D : Ends) (O : Addr → Prop) (G H : Hp) : Out → Prop
  | .nx Γ2 => ∀ (G2 H2 : Hp) (σ2 : L2.St), Fits G2 H2 σ2 Γ2 → Grow O G H (owns Γ2) G2 H2 → D.nx σ2 H2
  | .rt P Γ2 => ∀ (v : V) (G2 H2 : Hp) (σ2 : L2.St), Fits G2 H2 σ2 Γ2 → Grow O G H (owns Γ2) G2 H2 → P.p G2 v → D.rt v H2
def SE (ts : TS) (Γ : List Sl) (o : Out) : Prop := ∀ (D : Ends) (G H : Hp) (σ : L2.St), Fits G H σ Γ → Post D (owns Γ) G H o → ts D σ H
/-- fewer slots are known -/
inductive Wk : List Sl → List Sl → Prop
  | nil {Γ : List Sl} : Wk Γ []
  | keep {s : Sl} {Γ Δ : List Sl} : Wk Γ Δ → Wk (s :: Γ) (s :: Δ)
  | drop {s : Sl} {Γ Δ : List Sl} : Wk Γ Δ → Wk (s :: Γ) (.any :: Δ)
theorem Wk.refl : ∀ Γ : List Sl, Wk Γ Γ
  | [] => .nil
  | _ :: r => .keep (Wk.refl r)
theorem Wk.len : ∀ {Γ Δ : List Sl}, Wk Γ Δ → Δ.length ≤ Γ.length
  | _, _, .nil => Nat.zero_le _
  | _, _, .keep h => Nat.succ_le_succ h.len
  | _, _, .drop h => Nat.succ_le_succ h.len
theorem Wk.get : ∀ {Γ Δ : List Sl} {i : Nat} {s : Sl}, Wk Γ Δ → Δ[i]? = some s → s = .any ∨ Γ[i]? = some s
  | _, _, i, s, .nil, e => by simp at e
  | _, _, 0, s, .keep _, e => .inr e
  | _, _, 0, s, .drop _, e => .inl (Option.some.inj (by simpa using e)).symm
  | _, _, i + 1, s, .keep h, e => by
    have := Wk.get (i := i) (s := s) h (by simpa using e)
    simpa using this
  | _, _, i + 1, s, .drop h, e => by
    have := Wk.get (i := i) (s := s) h (by simpa using e)
    simpa using this
theorem Wk.owns {Γ Δ : List Sl} (w : Wk Γ Δ) (b : Addr) (h : owns Δ b) : owns Γ b := by
  obtain ⟨i, M, e⟩ := h
  rcases w.get e with z | z
  · cases z
  · exact ⟨i, M, z⟩
theorem Fits.weak {G H : Hp} {σ : L2.St} {Γ Δ : List Sl} (f : Fits G H σ Γ) (w : Wk Γ Δ) : Fits G H σ Δ where
  gh := f.gh
  len := Nat.le_trans w.len f.len
  val := fun i P e => by
    rcases w.get e with z | z
    · cases z
    · exact f.val i P z
  own := fun i a M e => by
    rcases w.get e with z | z
    · cases z
    · exact f.own i a M z
  dis := fun i j a M N e1 e2 => by
    rcases w.get e1 with z | z
    · cases z
    · rcases w.get e2 with y | y
      · cases y
      · exact f.dis i j a M N z y
/-- a slot is set to a value -/
theorem Fits.put {G H : Hp} {σ : L2.St} {Γ : List Sl} {i : Nat} {P : Pr} {v : V} (f : Fits G H σ Γ) (h : P.p G v) : Fits G H (σ.set i (some v)) (Γ.set i (.val P)) where
  gh := f.gh
  len := by rw [List.length_set, List.length_set]; exact f.len
  val := fun j R e => by
    by_cases c : i = j
    · subst c
      by_cases hl : i < Γ.length
      · rw [List.getElem?_set_self hl] at e
        cases e
        exact ⟨v, List.getElem?_set_self (Nat.lt_of_lt_of_le hl f.len), h⟩
      · rw [List.set_eq_of_length_le (by omega)] at e
        rw [List.getElem?_eq_none (by omega)] at e
        cases e
    · rw [List.getElem?_set_ne c] at e ⊢
      exact f.val j R e
  own := fun j a M e => by
    by_cases c : i = j
    · subst c
      by_cases hl : i < Γ.length
      · rw [List.getElem?_set_self hl] at e
        cases e
      · rw [List.set_eq_of_length_le (by omega)] at e
        rw [List.getElem?_eq_none (by omega)] at e
        cases e
    · rw [List.getElem?_set_ne c] at e ⊢
      exact f.own j a M e
  dis := fun j k a M N e1 e2 => by
    have g : ∀ {j : Nat} {M : Mu}, (Γ.set i (.val P))[j]? = some (Sl.own a M) → Γ[j]? = some (Sl.own a M) := fun {j M} e => by
      by_cases c : i = j
      · subst c
        by_cases hl : i < Γ.length
        · rw [List.getElem?_set_self hl] at e
          cases e
        · rw [List.set_eq_of_length_le (by omega)] at e
          exact e
      · rw [List.getElem?_set_ne c] at e
        exact e
    exact f.dis j k a M N (g e1) (g e2)
theorem owns_put {Γ : List Sl} {i : Nat} {P : Pr} (b : Addr) (h : owns (Γ.set i (.val P)) b) : owns Γ b := by
  obtain ⟨j, M, e⟩ := h
  by_cases c : i = j
  · subst c
    by_cases hl : i < Γ.length
    · rw [List.getElem?_set_self hl] at e
      cases e
    · rw [List.set_eq_of_length_le (by omega)] at e
      exact ⟨i, M, e⟩
  · rw [List.getElem?_set_ne c] at e
    exact ⟨j, M, e⟩
section
variable {Γ Γ1 Γ2 : List Sl} {P Q R : Pr} {Ps : List Pr} {te : TE} {t u : TS} {K : PySem.W.Frag} {o : Out}
theorem se_is {o2 : Out} (h : SE t Γ o) (e : o = o2) : SE t Γ o2 := e ▸ h
theorem se_from (w : Wk Γ Γ1) (h : SE t Γ1 o) : SE t Γ o := fun D G H σ f q => h D G H σ (f.weak w) (by
  cases o with
  | nx Γ2 => exact fun G2 H2 σ2 f2 g2 => q G2 H2 σ2 f2 ⟨g2.eG, fun b o e n => g2.eH b o e fun z => n (w.owns b z), fun b e k n => g2.fr b e k fun z => n (w.owns b z), fun b z => (g2.ow b z).elim (fun y => .inl (w.owns b y)) .inr⟩
  | rt P Γ2 => exact fun v G2 H2 σ2 f2 g2 => q v G2 H2 σ2 f2 ⟨g2.eG, fun b o e n => g2.eH b o e fun z => n (w.owns b z), fun b e k n => g2.fr b e k fun z => n (w.owns b z), fun b z => (g2.ow b z).elim (fun y => .inl (w.owns b y)) .inr⟩)
theorem se_weak (h : SE t Γ (.nx Γ1)) (w : Wk Γ1 Γ2 := by repeat (first | exact Wk.nil | apply Wk.keep | apply Wk.drop)) : SE t Γ (.nx Γ2) := fun D G H σ f q => h D G H σ f fun G2 H2 σ2 f2 g2 => q G2 H2 σ2 (f2.weak w) (g2.less w.owns)
theorem se_weakR (h : SE t Γ (.rt P Γ1)) (w : Wk Γ1 Γ2) : SE t Γ (.rt P Γ2) := fun D G H σ f q => h D G H σ f fun v G2 H2 σ2 f2 g2 => q v G2 H2 σ2 (f2.weak w) (g2.less w.owns)
theorem se_next : SE tNext Γ (.nx Γ) := fun D G H σ f q => q G H σ f .refl
theorem se_seq (h1 : SE t Γ (.nx Γ1)) (h2 : SE u Γ1 o) : SE (tSeq t u) Γ o := fun D G H σ f q => h1 { D with nx := u D } G H σ f fun G2 H2 σ2 f2 g2 => h2 D G2 H2 σ2 f2 (by
  cases o with
  | nx Γ2 => exact fun G3 H3 σ3 f3 g3 => q G3 H3 σ3 f3 (g2.trans g3)
  | rt P Γ2 => exact fun v G3 H3 σ3 f3 g3 => q v G3 H3 σ3 f3 (g2.trans g3))
theorem se_seqR (h1 : SE t Γ (.rt P Γ1)) : SE (tSeq t u) Γ (.rt P Γ1) := fun D G H σ f q => h1 { D with nx := u D } G H σ f q
theorem se_asg {i : Nat} (h : DE te Γ P) : SE (tAsg te (gName i)) Γ (.nx (Γ.set i (.val P))) := fun D G H σ f q => h G H σ f _ fun v G2 H2 g hv => q G2 H2 _ ((f.grow g).put hv) (g.grow.less fun b z => owns_put b z)
theorem se_drop (h : DE te Γ P) : SE (tDrop te) Γ (.nx Γ) := fun D G H σ f q => h G H σ f _ fun v G2 H2 g hv => q G2 H2 _ (f.grow g) g.grow
theorem se_ret (h : DE te Γ P) (w : Wk Γ Γ2 := by repeat (first | exact Wk.nil | apply Wk.keep | apply Wk.drop)) : SE (tRet te) Γ (.rt P Γ2) := fun D G H σ f q => h G H σ f _ fun v G2 H2 g hv => q v G2 H2 σ ((f.grow g).weak w) (g.grow.less w.owns) hv
theorem post_grow {D : Ends} {O : Addr → Prop} {G H G2 H2 : Hp} (g : Grow O G H O G2 H2) (q : Post D O G H o) : Post D O G2 H2 o := by
  cases o with
  | nx Γ2 => exact fun G3 H3 σ3 f3 g3 => q G3 H3 σ3 f3 (g.trans g3)
  | rt P Γ2 => exact fun v G3 H3 σ3 f3 g3 => q v G3 H3 σ3 f3 (g.trans g3)
theorem se_if {c : TT} {b : Bool} (hc : ET c Γ b) (h1 : b = true → SE t Γ o) (h2 : b = false → SE u Γ o) : SE (tIfS c t u) Γ o := fun D G H σ f q => hc G H σ f _ fun G2 H2 g => by
  cases b with
  | true => exact h1 rfl D G2 H2 σ (f.grow g) (post_grow g.grow q)
  | false => exact h2 rfl D G2 H2 σ (f.grow g) (post_grow g.grow q)
/-- if c: return ..; the rest -/
theorem se_ifR {c : TT} {b : Bool} (hc : ET c Γ b) (h1 : b = true → SE t Γ o) (h2 : b = false → SE u Γ o) (hr : b = true → ∃ P Δ, o = .rt P Δ) : SE (tSeq (tIfS c t tNext) u) Γ o := by
  cases b with
  | true =>
    obtain ⟨P, Δ, rfl⟩ := hr rfl
    exact se_seqR (se_if hc h1 fun z => by cases z)
  | false => exact se_seq (se_if hc (fun z => by cases z) fun _ => se_next) (h2 rfl)

/-! ### owned lists -/
theorem Fits.owned {G H : Hp} {σ : L2.St} {Γ : List Sl} {i : Nat} {a : Addr} {M : Mu} {hl : HO} (f : Fits G H σ Γ) (hi : i < Γ.length) (ha : H a = none) (hm : M.m G hl) : Fits G (upd H a hl) (σ.set i (some (.ref a))) (Γ.set i (.own a M)) where
  gh := fun b o e => by rw [upd_ne (ne_of_none (f.gh _ _ e) ha)]; exact f.gh _ _ e
  len := by rw [List.length_set, List.length_set]; exact f.len
  val := fun j R e => by
    by_cases c : i = j
    · subst c
      rw [List.getElem?_set_self hi] at e
      cases e
    · rw [List.getElem?_set_ne c] at e ⊢
      exact f.val j R e
  own := fun j b N e => by
    by_cases c : i = j
    · subst c
      rw [List.getElem?_set_self hi] at e
      cases e
      exact ⟨List.getElem?_set_self (Nat.lt_of_lt_of_le hi f.len), f.gh.free ha, hl, upd_same, hm⟩
    · rw [List.getElem?_set_ne c] at e ⊢
      obtain ⟨h1, h2, o, h3, h4⟩ := f.own j b N e
      exact ⟨h1, h2, o, by rw [upd_ne (ne_of_none h3 ha)]; exact h3, h4⟩
  dis := fun j k b M' N' e1 e2 => by
    have g : ∀ {j : Nat} {N : Mu}, (Γ.set i (.own a M))[j]? = some (Sl.own b N) → (i = j ∧ b = a) ∨ (i ≠ j ∧ Γ[j]? = some (Sl.own b N) ∧ b ≠ a) := fun {j N} e => by
      by_cases c : i = j
      · subst c
        rw [List.getElem?_set_self hi] at e
        cases e
        exact .inl ⟨rfl, rfl⟩
      · rw [List.getElem?_set_ne c] at e
        obtain ⟨_, _, o, h3, _⟩ := f.own j b N e
        exact .inr ⟨c, e, ne_of_none h3 ha⟩
    rcases g e1 with ⟨c1, d1⟩ | ⟨c1, z1, d1⟩
    · rcases g e2 with ⟨c2, d2⟩ | ⟨c2, z2, d2⟩
      · exact c1.symm.trans c2
      · exact absurd d1 d2
    · rcases g e2 with ⟨c2, d2⟩ | ⟨c2, z2, d2⟩
      · exact absurd d2 d1
      · exact f.dis j k b M' N' z1 z2
theorem owns_own {Γ : List Sl} {i : Nat} {a : Addr} {M : Mu} (b : Addr) (h : owns (Γ.set i (.own a M)) b) : owns Γ b ∨ b = a := by
  obtain ⟨j, N, e⟩ := h
  by_cases c : i = j
  · subst c
    by_cases hl : i < Γ.length
    · rw [List.getElem?_set_self hl] at e
      cases e
      exact .inr rfl
    · rw [List.set_eq_of_length_le (by omega)] at e
      exact .inl ⟨i, N, e⟩
  · rw [List.getElem?_set_ne c] at e
    exact .inl ⟨j, N, e⟩
/-- x = [..], a list that will change; the rest of the block -/
theorem se_new {i : Nat} {tA : TA} (ha : EA tA Γ Ps) (hi : i < Γ.length) (hl : Ps.length ≤ 100000) (hr : ∀ a, SE u (Γ.set i (.own a (muL Ps))) o) : SE (tSeq (tAsg (tLst tA) (gName i)) u) Γ o := fun D G H σ f q => by
  refine ha G H σ f _ fun vs G2 H2 g hv => ⟨Nat.le_trans (by rw [hv.length]; exact hl) (by decide), fun p hp => ?_⟩
  have f2 := (f.grow g).owned (i := i) (M := muL Ps) hi hp ⟨vs, rfl, hv⟩
  have g2 : Grow (owns Γ) G H (owns (Γ.set i (.own p (muL Ps)))) G2 (upd H2 p (.lst vs)) :=
    ⟨g.eG, fun b o e _ => by rw [upd_ne (ne_of_none (g.eH _ _ e) hp)]; exact g.eH _ _ e, fun b e k _ => g.fr b e k, fun b z => (owns_own b z).elim .inl fun e => .inr (by rw [e]; exact g.eH.free hp)⟩
  refine hr p D G2 _ _ f2 ?_
  cases o with
  | nx Γ2 => exact fun G3 H3 σ3 f3 g3 => q G3 H3 σ3 f3 (g2.trans g3)
  | rt P Γ2 => exact fun v G3 H3 σ3 f3 g3 => q v G3 H3 σ3 f3 (g2.trans g3)
/-- what slot i owns is changed -/
theorem Fits.turn {G H : Hp} {σ : L2.St} {Γ : List Sl} {i : Nat} {a : Addr} {M N : Mu} {hl : HO} (f : Fits G H σ Γ) (hi : Γ[i]? = some (Sl.own a M)) (hm : N.m G hl) : Fits G (upd H a hl) σ (Γ.set i (.own a N)) where
  gh := fun b o e => by
    have na := (f.own i a M hi).2.1
    rw [upd_ne (ne_of_none e na)]; exact f.gh _ _ e
  len := by rw [List.length_set]; exact f.len
  val := fun j R e => by
    by_cases c : i = j
    · subst c
      rw [List.getElem?_set_self (List.getElem?_eq_some_iff.mp hi).1] at e
      cases e
    · rw [List.getElem?_set_ne c] at e
      exact f.val j R e
  own := fun j b N' e => by
    by_cases c : i = j
    · subst c
      rw [List.getElem?_set_self (List.getElem?_eq_some_iff.mp hi).1] at e
      cases e
      obtain ⟨h1, h2, _⟩ := f.own i a M hi
      exact ⟨h1, h2, hl, upd_same, hm⟩
    · rw [List.getElem?_set_ne c] at e
      obtain ⟨h1, h2, o, h3, h4⟩ := f.own j b N' e
      have nb : b ≠ a := fun z => by
        subst z
        exact c (f.dis i j b M N' hi e)
      exact ⟨h1, h2, o, by rw [upd_ne nb]; exact h3, h4⟩
  dis := fun j k b M' N' e1 e2 => by
    have g : ∀ {j : Nat} {M' : Mu}, (Γ.set i (.own a N))[j]? = some (Sl.own b M') → ∃ M2, Γ[j]? = some (Sl.own b M2) := fun {j M'} e => by
      by_cases c : i = j
      · subst c
        rw [List.getElem?_set_self (List.getElem?_eq_some_iff.mp hi).1] at e
        cases e
        exact ⟨M, hi⟩
      · rw [List.getElem?_set_ne c] at e
        exact ⟨M', e⟩
    obtain ⟨_, z1⟩ := g e1
    obtain ⟨_, z2⟩ := g e2
    exact f.dis j k b _ _ z1 z2
theorem owns_turn {Γ : List Sl} {i : Nat} {a : Addr} {M N : Mu} (hi : Γ[i]? = some (Sl.own a M)) (b : Addr) (h : owns (Γ.set i (.own a N)) b) : owns Γ b := by
  rcases owns_own b h with z | z
  · exact z
  · rw [z]; exact ⟨i, M, hi⟩
theorem grow_turn {G H : Hp} {Γ : List Sl} {i : Nat} {a : Addr} {M N : Mu} {hl : HO} (hi : Γ[i]? = some (Sl.own a M)) : Grow (owns Γ) G H (owns (Γ.set i (.own a N))) G (upd H a hl) :=
  ⟨.refl _, fun b o e n => by rw [upd_ne fun z => n (by rw [z]; exact ⟨i, M, hi⟩)]; exact e, fun b e _ _ => e, fun b z => .inl (owns_turn hi b z)⟩
/-- xs.append(e) -/
theorem se_append {i : Nat} {a : Addr} (hi : Γ[i]? = some (Sl.own a (muL Ps))) (h : DE te Γ P) (hl : Ps.length < 100000) :
    SE (tDrop (tBM K "list" rAppend (tVar i) (tCons te tNil))) Γ (.nx (Γ.set i (.own a (muL (Ps ++ [P]))))) := fun D G H σ f q => by
  obtain ⟨h1, h2, o, h3, vs, rfl, h4⟩ := f.own i a _ hi
  refine ⟨.ref a, h1, .inl ⟨rfl, vs, .of h3⟩, h G H σ f _ fun v G2 H2 g hv => ⟨a, vs, v, rfl, rfl, g.eH _ _ h3, Nat.lt_of_lt_of_le (by rw [h4.length]; exact hl) (by decide), ?_⟩⟩
  exact q G2 _ σ ((f.grow g).turn hi ⟨_, rfl, (h4.mono g.eG).append ⟨hv, trivial⟩⟩) (g.grow.trans (grow_turn hi))
/-- xs.extend(e) -/
theorem se_extend {i : Nat} {a : Addr} {Qs : List Pr} (hi : Γ[i]? = some (Sl.own a (muL Ps))) (h : DE te Γ (pList Qs)) (hl : Ps.length + Qs.length ≤ 10000000) :
    SE (tDrop (tBM K "list" rExtend (tVar i) (tCons te tNil))) Γ (.nx (Γ.set i (.own a (muL (Ps ++ Qs))))) := fun D G H σ f q => by
  obtain ⟨h1, h2, o, h3, vs, rfl, h4⟩ := f.own i a _ hi
  refine ⟨.ref a, h1, .inl ⟨rfl, vs, .of h3⟩, h G H σ f _ fun v G2 H2 g hv => ?_⟩
  obtain ⟨b, us, rfl, hb, hu⟩ := hv
  refine ⟨a, b, vs, us, rfl, rfl, g.eH _ _ h3, g.gh _ _ hb, Nat.le_trans (by rw [h4.length, hu.length]; exact hl) (by decide), ?_⟩
  exact q G2 _ σ ((f.grow g).turn hi ⟨_, rfl, (h4.mono g.eG).append hu⟩) (g.grow.trans (grow_turn hi))
/-- from here on the list stays as it is -/
theorem se_freeze {i : Nat} {a : Addr} (hi : Γ[i]? = some (Sl.own a (muL Ps))) (h : SE t (Γ.set i (.val (pList Ps))) o) : SE t Γ o := fun D G H σ f q => by
  obtain ⟨h1, h2, o', h3, vs, rfl, h4⟩ := f.own i a _ hi
  have hlt := (List.getElem?_eq_some_iff.mp hi).1
  have e : Same G (upd G a (.lst vs)) := fun b u z => by rw [upd_ne (ne_of_none z h2)]; exact z
  have gg : ∀ {j : Nat} {b : Addr} {M : Mu}, (Γ.set i (.val (pList Ps)))[j]? = some (Sl.own b M) → i ≠ j ∧ Γ[j]? = some (Sl.own b M) ∧ b ≠ a := fun {j b M} z => by
    by_cases c : i = j
    · subst c
      rw [List.getElem?_set_self hlt] at z
      cases z
    · rw [List.getElem?_set_ne c] at z
      exact ⟨c, z, fun y => by subst y; exact c (f.dis i j b _ _ hi z)⟩
  have f2 : Fits (upd G a (.lst vs)) H σ (Γ.set i (.val (pList Ps))) := {
    gh := fun b u z => by
      by_cases hb : b = a
      · subst hb; rw [upd_same] at z; cases z; exact h3
      · rw [upd_ne hb] at z; exact f.gh _ _ z
    len := by rw [List.length_set]; exact f.len
    val := fun j R z => by
      by_cases c : i = j
      · subst c
        rw [List.getElem?_set_self hlt] at z
        cases z
        exact ⟨_, h1, a, vs, rfl, upd_same, h4.mono e⟩
      · rw [List.getElem?_set_ne c] at z
        obtain ⟨v, k1, k2⟩ := f.val j R z
        exact ⟨v, k1, R.mono e k2⟩
    own := fun j b M z => by
      obtain ⟨c, z2, nb⟩ := gg z
      obtain ⟨k1, k2, u, k3, k4⟩ := f.own j b M z2
      exact ⟨k1, by rw [upd_ne nb]; exact k2, u, k3, M.mono e k4⟩
    dis := fun j k b M N z1 z2 => f.dis j k b M N (gg z1).2.1 (gg z2).2.1 }
  have g2 : Grow (owns Γ) G H (owns (Γ.set i (.val (pList Ps)))) (upd G a (.lst vs)) H :=
    ⟨e, fun b o z _ => z, fun b z _ n => by rw [upd_ne fun y => n (by rw [y]; exact ⟨i, _, hi⟩)]; exact z, fun b z => .inl (owns_put b z)⟩
  refine h D _ H σ f2 ?_
  cases o with
  | nx Γ2 => exact fun G3 H3 σ3 f3 g3 => q G3 H3 σ3 f3 (g2.trans g3)
  | rt P Γ2 => exact fun v G3 H3 σ3 f3 g3 => q v G3 H3 σ3 f3 (g2.trans g3)

/-! ### what is walked -/
structure ItOk (J : It) (G : Hp) (Ps : List Pr) : Prop where
  goes : ∀ i H, i < Ps.length → Same G H → J.go i H
  stops : ∀ H, Same G H → J.stop Ps.length H
  yields : ∀ i H x H' P, Ps[i]? = some P → Same G H → J.yld i H x H' → ∀ G1, Same G G1 → Same G1 H → ∃ G2, GrowE G1 H G2 H' ∧ P.p G2 x
def WI (wi : TI) (Γ : List Sl) (Ps : List Pr) : Prop := ∀ (G H : Hp) (σ : L2.St), Fits G H σ Γ → ∀ R : It → Hp → Prop, (∀ J G2 H2, GrowE G H G2 H2 → ItOk J G2 Ps → R J H2) → wi σ H R
theorem wi_list (h : DE te Γ (pList Ps)) : WI (iList K te) Γ Ps := fun G H σ f R q => h G H σ f _ fun v G2 H2 g hv => by
  obtain ⟨a, vs, rfl, h2, h3⟩ := hv
  refine ⟨a, rfl, ⟨vs, .of (g.gh _ _ h2)⟩, q _ G2 H2 g ⟨fun i H' hi s => ?_, fun H' s => ?_, fun i H' x H'' P hP s hy G1 s1 s2 => ?_⟩⟩
  · obtain ⟨v, k1, _⟩ := h3.get (List.getElem?_eq_getElem hi)
    exact ⟨vs, v, .of (s _ _ h2), k1⟩
  · exact ⟨vs, .of (s _ _ h2), Nat.le_of_eq h3.length⟩
  · obtain ⟨rfl, hy⟩ := hy
    obtain ⟨v, k1, k2⟩ := h3.get hP
    have e := hy vs (.of (s _ _ h2))
    rw [k1] at e
    cases e
    exact ⟨G1, .refl s2, P.mono s1 k2⟩
theorem wi_zip {tA : TA} {Qs : List Pr} (h : EA tA Γ [pList Ps, pList Qs]) : WI (iZip K tA) Γ (List.zipWith (fun P Q => pTup [P, Q]) Ps Qs) := fun G H σ f R q => h G H σ f _ fun vs G2 H2 g hv => by
  obtain ⟨x, y, rfl, ⟨a, xs, rfl, hx, kx⟩, ⟨b, ys, rfl, hy, ky⟩⟩ := hv.two
  have hlen : (List.zipWith (fun P Q => pTup [P, Q]) Ps Qs).length = min xs.length ys.length := by rw [List.length_zipWith, kx.length, ky.length]
  refine ⟨a, b, xs, ys, rfl, .of (g.gh _ _ hx), .of (g.gh _ _ hy), q _ G2 H2 g ⟨fun i H' hi s => ?_, fun H' s => ?_, fun i H' x H'' P hP s hyl G1 s1 s2 => ?_⟩⟩
  · rw [hlen] at hi
    have h1 : i < xs.length := by omega
    have h2 : i < ys.length := by omega
    exact ⟨xs, ys, xs[i], ys[i], .of (s _ _ hx), .of (s _ _ hy), by simp [h1], by simp [h2]⟩
  · exact ⟨xs, ys, .of (s _ _ hx), .of (s _ _ hy), by rw [hlen]; omega⟩
  · obtain ⟨T, u, v, rfl, hT, rfl, e1, e2⟩ := hyl
    rw [List.getElem?_zipWith] at hP
    cases c1 : Ps[i]? with
    | none => rw [c1] at hP; cases hP
    | some P1 =>
      cases c2 : Qs[i]? with
      | none => rw [c1, c2] at hP; cases hP
      | some P2 =>
        rw [c1, c2] at hP
        cases hP
        obtain ⟨u', k1, k2⟩ := kx.get c1
        obtain ⟨v', k3, k4⟩ := ky.get c2
        have d1 := e1 xs (.of (s _ _ hx))
        have d2 := e2 ys (.of (s _ _ hy))
        rw [k1] at d1
        rw [k3] at d2
        cases d1
        cases d2
        have gn : GrowE G1 H' (upd G1 T (.tup [u, v])) (upd H' T (.tup [u, v])) := .new s2 hT
        exact ⟨_, gn, T, _, rfl, upd_same, P1.mono (s1.trans gn.eG) k2, P2.mono (s1.trans gn.eG) k4, trivial⟩
theorem itr_ok {G : Hp} {lo : Int} {n : Nat} : ItOk (Itr lo n) G ((List.range n).map fun i => pInt (lo + (i : Nat))) where
  goes := fun i H hi _ => show i < n by simpa using hi
  stops := fun H _ => show n ≤ _ by simp
  yields := fun i H x H' P hP s hy G1 s1 s2 => by
    obtain ⟨rfl, rfl⟩ := hy
    rw [List.getElem?_map] at hP
    cases c : (List.range n)[i]? with
    | none => rw [c] at hP; cases hP
    | some j =>
      rw [c] at hP
      have ej : j = i := by
        have := List.getElem?_eq_some_iff.mp c
        obtain ⟨_, e⟩ := this
        rw [List.getElem_range] at e
        exact e.symm
      cases hP
      rw [ej]
      exact ⟨G1, .refl s2, rfl⟩
theorem wi_range {tA : TA} {n : Nat} (h : EA tA Γ [pInt n]) (hn : n ≤ 100000) : WI (iRng1 tA) Γ ((List.range n).map fun i => pInt ((i : Nat) : Int)) := fun G H σ f R q => h G H σ f _ fun vs G2 H2 g hv => by
  obtain ⟨v, rfl, hv'⟩ := hv.one
  have e : (List.range n).map (fun i => pInt ((i : Nat) : Int)) = (List.range ((n : Int)).toNat).map fun i => pInt (0 + ((i : Nat) : Int)) := by
    rw [Int.toNat_natCast]
    refine List.map_congr_left fun i _ => ?_
    rw [Int.zero_add]
  refine ⟨n, congrArg (fun z => [z]) hv', by omega, by omega, q _ G2 H2 g ?_⟩
  rw [e]
  exact itr_ok
theorem wi_range2 {tA : TA} {lo n : Nat} (h : EA tA Γ [pInt lo, pInt n]) (hl : lo ≤ 100000) (hn : n ≤ 100000) : WI (iRng2 tA) Γ ((List.range (n - lo)).map fun i => pInt (((lo + i : Nat)) : Int)) := fun G H σ f R q => h G H σ f _ fun vs G2 H2 g hv => by
  obtain ⟨v, u, rfl, hv', hu'⟩ := hv.two
  have e : (List.range (n - lo)).map (fun i => pInt (((lo + i : Nat)) : Int)) = (List.range ((n : Int) - (lo : Int)).toNat).map fun i => pInt ((lo : Int) + ((i : Nat) : Int)) := by
    have e1 : ((n : Int) - (lo : Int)).toNat = n - lo := by omega
    rw [e1]
    refine List.map_congr_left fun i _ => ?_
    rw [Int.natCast_add]
  have hv2 : v = .int lo := hv'
  have hu2 : u = .int n := hu'
  subst hv2 hu2
  refine ⟨lo, n, rfl, ⟨by omega, by omega, by omega, by omega⟩, q _ G2 H2 g ?_⟩
  rw [e]
  exact itr_ok

/-! ### targets -/
def GB (g : TG) (Γ : List Sl) (P : Pr) (Γ2 : List Sl) : Prop := (∀ b, owns Γ2 b → owns Γ b) ∧ ∀ (G H : Hp) (σ : L2.St) (v : V), Fits G H σ Γ → P.p G v → ∀ Q : L2.St → Hp → Prop, (∀ σ2, Fits G H σ2 Γ2 → Q σ2 H) → g v σ H Q
theorem gb_name {i : Nat} : GB (gName i) Γ P (Γ.set i (.val P)) := ⟨fun b z => owns_put b z, fun G H σ v f hv Q q => q _ (f.put hv)⟩
theorem gb_two {i j : Nat} : GB (gTup K 2 (gCons (gName i) (gCons (gName j) gNil))) Γ (pTup [P, Q]) ((Γ.set i (.val P)).set j (.val Q)) := ⟨fun b z => owns_put b (owns_put b z), fun G H σ v f hv R q => by
  obtain ⟨a, vs, rfl, h2, h3⟩ := hv
  obtain ⟨x, y, rfl, hx, hy⟩ := h3.two
  exact ⟨a, [x, y], rfl, .of (f.gh _ _ h2), rfl, x, [y], rfl, y, [], rfl, rfl, q _ ((f.put hx).put hy)⟩⟩
theorem gb_three {i j l : Nat} : GB (gTup K 3 (gCons (gName i) (gCons (gName j) (gCons (gName l) gNil)))) Γ (pTup [P, Q, R]) (((Γ.set i (.val P)).set j (.val Q)).set l (.val R)) := ⟨fun b z => owns_put b (owns_put b (owns_put b z)), fun G H σ v f hv k q => by
  obtain ⟨a, vs, rfl, h2, h3⟩ := hv
  match vs, h3 with
  | [x, y, z], h3 =>
    exact ⟨a, [x, y, z], rfl, .of (f.gh _ _ h2), rfl, x, [y, z], rfl, y, [z], rfl, z, [], rfl, rfl, q _ (((f.put h3.1).put h3.2.1).put h3.2.2.1)⟩
  | [], h3 => exact h3.elim
  | [_], h3 => exact h3.2.elim
  | [_, _], h3 => exact h3.2.2.elim
  | _ :: _ :: _ :: _ :: _, h3 => exact h3.2.2.2.elim⟩

/-! ### for -/
/-- through all items, or back out of the item j -/
theorem se_forG {wi : TI} {g : TG} {tb : TS} (n : Nat) (hw : WI wi (Γ : List Sl) Ps) (Δ Δb : Nat → List Sl) (h0 : Δ 0 = Γ)
    (hg : ∀ i P, Ps[i]? = some P → i ≤ n → GB g (Δ i) P (Δb i)) (hb : ∀ i P, Ps[i]? = some P → i < n → SE tb (Δb i) (.nx (Δ (i + 1))))
    (he : (n = Ps.length ∧ o = .nx (Δ n)) ∨ (n < Ps.length ∧ SE tb (Δb n) o ∧ ∃ P Γr, o = .rt P Γr)) : SE (tFor wi g tb) Γ o := fun D G H σ f q => hw G H σ f _ fun J G1 H1 g1 ok => by
  have hn : n ≤ Ps.length := by rcases he with ⟨e, _⟩ | ⟨e, _⟩ <;> omega
  refine ⟨fun i m σ' H' => m = Ps.length - i ∧ i ≤ n ∧ ∃ G', Fits G' H' σ' (Δ i) ∧ Same G1 G' ∧ Grow (owns Γ) G H (owns (Δ i)) G' H', ⟨Ps.length, by simp, Nat.zero_le _, G1, by rw [h0]; exact f.grow g1, .refl _, by rw [h0]; exact g1.grow⟩, ?_⟩
  rintro i m σ' H' ⟨rfl, hi, G', f', s', gr'⟩
  by_cases hlt : i < Ps.length
  · refine .inr ⟨ok.goes i H' hlt (s'.trans f'.gh), ?_⟩
    have hP : Ps[i]? = some Ps[i] := List.getElem?_eq_getElem hlt
    have hgi := hg i _ hP hi
    have step : ∀ x H'', J.yld i H' x H'' → ∃ G2, GrowE G' H' G2 H'' ∧ Ps[i].p G2 x := fun x H'' y => ok.yields i H' x H'' _ hP (s'.trans f'.gh) y G' s' f'.gh
    by_cases hin : i < n
    · refine ⟨fun σ2 H2 => ∃ G2, Fits G2 H2 σ2 (Δ (i + 1)) ∧ Same G1 G2 ∧ Grow (owns Γ) G H (owns (Δ (i + 1))) G2 H2, fun σ2 H2 h2 => ⟨Ps.length - (i + 1), by omega, rfl, hin, h2⟩, fun x H'' y => ?_⟩
      obtain ⟨G2, g2, hx⟩ := step x H'' y
      refine hgi.2 G2 H'' σ' x (f'.grow g2) hx _ fun σ3 f3 => hb i _ hP hin _ G2 H'' σ3 f3 fun G4 H4 σ4 f4 g4 => ?_
      exact ⟨G4, f4, (s'.trans g2.eG).trans g4.eG, (gr'.trans (g2.grow.less hgi.1)).trans g4⟩
    · have e : i = n := by omega
      subst e
      rcases he with ⟨e, _⟩ | ⟨_, hr, P, Γr, rfl⟩
      · omega
      · refine ⟨fun _ _ => False, fun _ _ z => z.elim, fun x H'' y => ?_⟩
        obtain ⟨G2, g2, hx⟩ := step x H'' y
        refine hgi.2 G2 H'' σ' x (f'.grow g2) hx _ fun σ3 f3 => hr _ G2 H'' σ3 f3 fun v G4 H4 σ4 f4 g4 hv => ?_
        exact q v G4 H4 σ4 f4 ((gr'.trans (g2.grow.less hgi.1)).trans g4) hv
  · rcases he with ⟨e, rfl⟩ | ⟨e, _⟩
    · have ei : i = Ps.length := by omega
      subst ei
      subst e
      exact .inl ⟨ok.stops H' (s'.trans f'.gh), q G' H' σ' f' gr'⟩
    · omega
/-- a for that folds -/
theorem se_fold {S α : Type} {wi : TI} {g : TG} {tb : TS} {xs : List α} {pf : α → Pr} (Δ : S → List Sl) (Δb : S → α → List Sl) (step : S → α → S) (s0 : S) (hw : WI wi (Δ s0) (xs.map pf)) (I : S → Prop) (hI : I s0)
    (hg : ∀ s x, GB g (Δ s) (pf x) (Δb s x)) (hb : ∀ s x, x ∈ xs → I s → I (step s x) ∧ SE tb (Δb s x) (.nx (Δ (step s x)))) : SE (tFor wi g tb) (Δ s0) (.nx (Δ (xs.foldl step s0))) := by
  have inv : ∀ i, i ≤ xs.length → I ((xs.take i).foldl step s0) := fun i => by
    induction i with
    | zero => intro _; exact hI
    | succ i ih =>
      intro hi
      have hlt : i < xs.length := hi
      rw [List.take_add_one, List.getElem?_eq_getElem hlt, List.foldl_append]
      exact (hb _ _ (List.getElem_mem hlt) (ih (Nat.le_of_lt hlt))).1
  have hx : ∀ {i : Nat} {P : Pr}, (xs.map pf)[i]? = some P → ∃ h : i < xs.length, P = pf xs[i] := fun {i P} e => by
    rw [List.getElem?_map] at e
    cases c : xs[i]? with
    | none => rw [c] at e; cases e
    | some x =>
      rw [c] at e
      obtain ⟨h, rfl⟩ := List.getElem?_eq_some_iff.mp c
      exact ⟨h, (Option.some.inj e).symm⟩
  refine se_forG (Ps := xs.map pf) xs.length hw (fun i => Δ ((xs.take i).foldl step s0)) (fun i => match xs[i]? with | some x => Δb ((xs.take i).foldl step s0) x | none => []) rfl (fun i P e _ => ?_) (fun i P e hi => ?_) (.inl ⟨by rw [List.length_map], by rw [List.take_length]⟩)
  · obtain ⟨h, rfl⟩ := hx e
    show GB g _ _ (match xs[i]? with | some x => Δb ((xs.take i).foldl step s0) x | none => [])
    rw [List.getElem?_eq_getElem h]
    exact hg _ _
  · obtain ⟨h, rfl⟩ := hx e
    have := (hb _ _ (List.getElem_mem h) (inv i (Nat.le_of_lt h))).2
    show SE tb (match xs[i]? with | some x => Δb ((xs.take i).foldl step s0) x | none => []) (.nx (Δ ((xs.take (i + 1)).foldl step s0)))
    rw [List.getElem?_eq_getElem h, List.take_add_one, List.getElem?_eq_getElem h, List.foldl_append]
    exact this
end
end Wp
set_option Elab.async false
set_option linter.all false
set_option maxRecDepth 100000
set_option maxHeartbeats 2000000
namespace Wp
open PySem L2

/-! ### comprehensions -/
theorem wipe_get (σ : L2.St) (j : Nat) : ∀ vs : List Nat, (wipe σ vs)[j]? = if j ∈ vs then σ[j]?.map (fun _ => none) else σ[j]?
  | [] => by simp [wipe]
  | v :: vs => by
    have ih := wipe_get σ j vs
    show ((wipe σ vs).set v none)[j]? = _
    by_cases c : v = j
    · subst c
      rw [if_pos List.mem_cons_self]
      by_cases h : v < (wipe σ vs).length
      · rw [List.getElem?_set_self h]
        rw [wipe_length] at h
        rw [List.getElem?_eq_getElem h]
        rfl
      · rw [List.set_eq_of_length_le (by omega), List.getElem?_eq_none (by omega)]
        rw [wipe_length] at h
        rw [List.getElem?_eq_none (by omega)]
        rfl
    · rw [List.getElem?_set_ne c, ih]
      have e : (j ∈ v :: vs) ↔ j ∈ vs := by
        rw [List.mem_cons]
        exact ⟨fun z => z.elim (fun y => absurd y.symm c) id, .inr⟩
      by_cases h : j ∈ vs
      · rw [if_pos h, if_pos (e.mpr h)]
      · rw [if_neg h, if_neg fun z => h (e.mp z)]
theorem wipe_set {σ : L2.St} {i : Nat} {x : Option V} {vs : List Nat} (h : i ∈ vs) : wipe (σ.set i x) vs = wipe σ vs := by
  apply List.ext_getElem?
  intro j
  rw [wipe_get, wipe_get]
  by_cases c : j ∈ vs
  · rw [if_pos c, if_pos c]
    by_cases e : i = j
    · subst e
      by_cases hl : i < σ.length
      · rw [List.getElem?_set_self hl, List.getElem?_eq_getElem hl]
        rfl
      · rw [List.set_eq_of_length_le (by omega)]
    · rw [List.getElem?_set_ne e]
  · rw [if_neg c, if_neg c, List.getElem?_set_ne (fun e : i = j => c (by rw [← e]; exact h))]
theorem wipe_wipe (σ : L2.St) (vs : List Nat) : wipe (wipe σ vs) vs = wipe σ vs := by
  apply List.ext_getElem?
  intro j
  rw [wipe_get, wipe_get]
  by_cases c : j ∈ vs
  · rw [if_pos c, if_pos c]
    cases σ[j]? <;> rfl
  · rw [if_neg c, if_neg c]
def anys (Γ : List Sl) (vs : List Nat) : Bool := vs.all fun i => match Γ[i]? with | some .any => true | _ => false
theorem Fits.wipe {G H : Hp} {σ : L2.St} {Γ : List Sl} {vs : List Nat} (f : Fits G H σ Γ) (h : anys Γ vs = true) : Fits G H (L2.wipe σ vs) Γ := by
  have nv : ∀ {i : Nat} {s : Sl}, Γ[i]? = some s → s ≠ .any → i ∉ vs := fun {i s} e n m => by
    have := List.all_eq_true.mp h i m
    rw [e] at this
    cases s with
    | any => exact n rfl
    | val P => cases this
    | own a M => cases this
  exact {
    gh := f.gh
    len := by rw [wipe_length]; exact f.len
    val := fun i P e => by
      obtain ⟨v, h1, h2⟩ := f.val i P e
      exact ⟨v, by rw [wipe_get, if_neg (nv e (by intro z; cases z))]; exact h1, h2⟩
    own := fun i a M e => by
      obtain ⟨h1, h2⟩ := f.own i a M e
      exact ⟨by rw [wipe_get, if_neg (nv e (by intro z; cases z))]; exact h1, h2⟩
    dis := f.dis }
/-- a target within a comprehension -/
def GC (g : TG) (vs : List Nat) (Γ : List Sl) (P : Pr) (Γ2 : List Sl) : Prop := ∀ (G H : Hp) (σ : L2.St) (v : V), Fits G H σ Γ → P.p G v → ∀ Q : L2.St → Hp → Prop, (∀ σ2, Fits G H σ2 Γ2 → L2.wipe σ2 vs = L2.wipe σ vs → Q σ2 H) → g v σ H Q
section
variable {Γ : List Sl} {P Q R : Pr} {Ps : List Pr} {ta te : TE} {K : PySem.W.Frag} {vs : List Nat}
theorem gc_name {i : Nat} (h : i ∈ vs) : GC (gName i) vs Γ P (Γ.set i (.val P)) := fun G H σ v f hv k q => q _ (f.put hv) (wipe_set h)
theorem gc_two {i j : Nat} (hi : i ∈ vs) (hj : j ∈ vs) : GC (gTup K 2 (gCons (gName i) (gCons (gName j) gNil))) vs Γ (pTup [P, Q]) ((Γ.set i (.val P)).set j (.val Q)) := fun G H σ v f hv k q => by
  obtain ⟨a, us, rfl, h2, h3⟩ := hv
  obtain ⟨x, y, rfl, hx, hy⟩ := h3.two
  exact ⟨a, [x, y], rfl, .of (f.gh _ _ h2), rfl, x, [y], rfl, y, [], rfl, rfl, q _ ((f.put hx).put hy) ((wipe_set hj).trans (wipe_set hi))⟩
theorem gc_three {i j l : Nat} (hi : i ∈ vs) (hj : j ∈ vs) (hl : l ∈ vs) : GC (gTup K 3 (gCons (gName i) (gCons (gName j) (gCons (gName l) gNil)))) vs Γ (pTup [P, Q, R]) (((Γ.set i (.val P)).set j (.val Q)).set l (.val R)) := fun G H σ v f hv k q => by
  obtain ⟨a, us, rfl, h2, h3⟩ := hv
  match us, h3 with
  | [x, y, z], h3 =>
    exact ⟨a, [x, y, z], rfl, .of (f.gh _ _ h2), rfl, x, [y, z], rfl, y, [z], rfl, z, [], rfl, rfl, q _ (((f.put h3.1).put h3.2.1).put h3.2.2.1) ((wipe_set hl).trans ((wipe_set hj).trans (wipe_set hi)))⟩
  | [], h3 => exact h3.elim
  | [_], h3 => exact h3.2.elim
  | [_, _], h3 => exact h3.2.2.elim
  | _ :: _ :: _ :: _ :: _, h3 => exact h3.2.2.2.elim
theorem de_lc {α : Type} {xs : List α} {pf rf : α → Pr} {b : α → Bool} {wi : TI} {g : TG} {tt : TT} (Γb : α → List Sl) (hw : WI wi Γ (xs.map pf)) (hv : anys Γ vs = true) (hg : ∀ x, GC g vs Γ (pf x) (Γb x))
    (ht : ∀ x ∈ xs, ET tt (Γb x) (b x)) (he : ∀ x ∈ xs, b x = true → DE te (Γb x) (rf x)) (hl : xs.length ≤ 100000) : DE (tLc wi g tt te vs) Γ (pList ((xs.filter b).map rf)) := fun G H σ f k q => hw G H σ f _ fun J G1 H1 g1 ok D hD => by
  have flen : ∀ i, (((xs.take i).filter b).map rf).length ≤ i := fun i => by
    rw [List.length_map]
    exact Nat.le_trans (List.length_filter_le _ _) (by rw [List.length_take]; omega)
  refine ⟨fun i m H' => m = xs.length - i ∧ i ≤ xs.length ∧ ∃ G' acc, GrowE G1 H1 G' H' ∧ G' D = none ∧ H' D = some (.lst acc) ∧ AllP G' (((xs.take i).filter b).map rf) acc,
    ⟨xs.length, by simp, Nat.zero_le _, G1, [], ⟨.refl _, fun c o e => by rw [upd_ne (ne_of_none e hD)]; exact e, fun c o e => by rw [upd_ne (ne_of_none (g1.gh _ _ e) hD)]; exact g1.gh _ _ e, fun c e _ => e⟩, g1.gh.free hD, upd_same, trivial⟩, ?_⟩
  rintro i m H' ⟨rfl, hi, G', acc, gr, nD, eD, al⟩
  have f' : Fits G' H' (L2.wipe σ vs) Γ := ((f.grow g1).grow gr).wipe hv
  by_cases hlt : i < xs.length
  · refine .inr ⟨ok.goes i H' (by rw [List.length_map]; exact hlt) (gr.eG.trans gr.gh), fun H2 => ∃ G' acc, GrowE G1 H1 G' H2 ∧ G' D = none ∧ H2 D = some (.lst acc) ∧ AllP G' (((xs.take (i + 1)).filter b).map rf) acc,
      fun H2 h2 => ⟨xs.length - (i + 1), by omega, rfl, hlt, h2⟩, fun x H'' y => ?_⟩
    have hP : (xs.map pf)[i]? = some (pf xs[i]) := by rw [List.getElem?_map, List.getElem?_eq_getElem hlt]; rfl
    obtain ⟨G2, g2, hx⟩ := ok.yields i H' x H'' _ hP (gr.eG.trans gr.gh) y G' gr.eG gr.gh
    have hm := List.getElem_mem hlt
    have tk : xs.take (i + 1) = xs.take i ++ [xs[i]] := by rw [List.take_add_one, List.getElem?_eq_getElem hlt]; rfl
    refine hg xs[i] G2 H'' _ x (f'.grow g2) hx _ fun σ2 f2 w2 => ⟨w2.trans (wipe_wipe σ vs), ht _ hm G2 H'' σ2 f2 _ fun G3 H3 g3 => ?_⟩
    have n3 : G3 D = none := g3.fr D (g2.fr D nD (by rw [eD]; intro z; cases z)) (by rw [g2.eH _ _ eD]; intro z; cases z)
    have e3 : H3 D = some (.lst acc) := g3.eH _ _ (g2.eH _ _ eD)
    cases c : b xs[i] with
    | true =>
      show te σ2 H3 _
      refine he _ hm c G3 H3 σ2 (f2.grow g3) _ fun yv G4 H4 g4 hy => ?_
      have n4 : G4 D = none := g4.fr D n3 (by rw [e3]; intro z; cases z)
      have gall := ((gr.trans g2).trans g3).trans g4
      refine ⟨acc, g4.eH _ _ e3, Nat.lt_of_le_of_lt (by rw [al.length]; exact flen i) (Nat.lt_of_lt_of_le (Nat.lt_of_lt_of_le hlt hl) (by decide)), G4, _, ⟨gall.eG, fun c o e => ?_, fun c o e => ?_, gall.fr⟩, n4, upd_same, ?_⟩
      · rw [upd_ne (ne_of_none e hD)]; exact gall.eH _ _ e
      · rw [upd_ne (ne_of_none e n4)]; exact gall.gh _ _ e
      · rw [tk, List.filter_append, List.filter_cons, c, if_pos rfl, List.map_append]
        exact (al.mono ((g2.eG.trans g3.eG).trans g4.eG)).append ⟨hy, trivial⟩
    | false =>
      show ∃ G' acc, _
      have gall := (gr.trans g2).trans g3
      refine ⟨G3, acc, gall, n3, e3, ?_⟩
      rw [tk, List.filter_append, List.filter_cons, c, if_neg Bool.false_ne_true, List.filter_nil, List.append_nil]
      exact al.mono (g2.eG.trans g3.eG)
  · have ei : i = xs.length := by omega
    subst ei
    rw [List.take_length] at al
    refine .inl ⟨?_, q _ (upd G' D (.lst acc)) H' (g1.trans ⟨fun c o e => ?_, gr.eH, fun c o e => ?_, fun c e n => ?_⟩) ⟨D, acc, rfl, upd_same, al.mono fun c o e => ?_⟩⟩
    · have := ok.stops H' (gr.eG.trans gr.gh)
      rw [List.length_map] at this
      exact this
    · rw [upd_ne (ne_of_none (gr.eG _ _ e) nD)]; exact gr.eG _ _ e
    · by_cases hc : c = D
      · subst hc; rw [upd_same] at e; cases e; exact eD
      · rw [upd_ne hc] at e; exact gr.gh _ _ e
    · rw [upd_ne fun z => n (by rw [z]; exact hD)]; exact gr.fr c e n
    · rw [upd_ne (ne_of_none e nD)]; exact e

/-! ### promises -/
/-- a def that changes nothing -/
def PSp {A : Type} (args : A → List Pr) (pre : A → Prop) (res : A → Pr) : Sp := fun vs H Q _ => ∃ (x : A) (G : Hp), Same G H ∧ pre x ∧ AllP G (args x) vs ∧ ∀ v G2 H2, GrowE G H G2 H2 → (res x).p G2 v → Q v H2
theorem de_call {A : Type} {args : A → List Pr} {pre : A → Prop} {res : A → Pr} {tA : TA} {E : XK} (x : A) (ha : EA tA Γ (args x)) (hp : pre x) : DE (tCall (PSp args pre res) [] E tA) Γ (res x) := fun G H σ f k q => ha G H σ f _ fun vs G2 H2 g hv =>
  ⟨x, G2, g.gh, hp, by rw [List.append_nil]; exact hv, fun v G3 H3 g3 hr => q v G3 H3 (g.trans g3) hr⟩
theorem psp_len {A : Type} {args : A → List Pr} {pre : A → Prop} {res : A → Pr} {n : Nat} (hn : ∀ x, (args x).length = n) : ∀ vs H Q E, PSp args pre res vs H Q E → vs.length = n := fun vs H Q E ⟨x, G, _, _, h, _⟩ => by rw [h.length]; exact hn x
theorem get_val {Ps : List Pr} {m i : Nat} {s : Sl} (e : (Ps.map Sl.val ++ List.replicate m Sl.any)[i]? = some s) : s = .any ∨ ∃ P, Ps[i]? = some P ∧ s = .val P := by
  rw [List.getElem?_append] at e
  split at e
  · rw [List.getElem?_map] at e
    cases c : Ps[i]? with
    | none => rw [c] at e; cases e
    | some P => rw [c] at e; exact .inr ⟨P, rfl, (Option.some.inj e).symm⟩
  · have := List.mem_of_getElem? e
    exact .inl (List.eq_of_mem_replicate this)
theorem fits_start {G H : Hp} {N : List Str} {vs : List V} {Ps : List Pr} (s : Same G H) (h : AllP G Ps vs) : Fits G H (L2.start N vs) (Ps.map Sl.val ++ List.replicate (N.length - Ps.length) Sl.any) where
  gh := s
  len := by
    unfold L2.start
    simp only [List.length_append, List.length_map, List.length_replicate, h.length]
    omega
  val := fun i P e => by
    rcases get_val e with z | ⟨P', h1, h2⟩
    · cases z
    · cases h2
      obtain ⟨v, k1, k2⟩ := h.get h1
      refine ⟨v, ?_, k2⟩
      unfold L2.start
      rw [List.getElem?_append_left (by rw [List.length_map]; exact (List.getElem?_eq_some_iff.mp k1).1), List.getElem?_map, k1]
      rfl
  own := fun i a M e => by
    rcases get_val e with z | ⟨P', h1, h2⟩
    · cases z
    · cases h2
  dis := fun i j a M N e _ => by
    rcases get_val e with z | ⟨P', h1, h2⟩
    · cases z
    · cases h2
theorem body_pure {A : Type} {args : A → List Pr} {pre : A → Prop} {res : A → Pr} {N : List Str} {us : List V} {H : Hp} {k : VK} {E : XK} {t : TS} (h : PSp args pre res us H k E) (Γ0 : A → List Sl)
    (e0 : ∀ x, Γ0 x = (args x).map Sl.val ++ List.replicate (N.length - (args x).length) Sl.any) (hs : ∀ x, pre x → SE t (Γ0 x) (.rt (res x) [])) : t { nx := fun _ H' => k .non H', rt := k } (L2.start N us) H := by
  obtain ⟨x, G, s, hp, ha, q⟩ := h
  have hse := hs x hp
  rw [e0] at hse
  have no : ∀ b, ¬ owns ((args x).map Sl.val ++ List.replicate (N.length - (args x).length) Sl.any) b := fun b ⟨i, M, e⟩ => by
    rcases get_val e with z | ⟨P', h1, h2⟩
    · cases z
    · cases h2
  exact hse _ G H _ (fits_start s ha) fun v G2 H2 σ2 f2 g2 hv => q v G2 H2 ⟨g2.eG, fun b o e => g2.eH b o e (no b), f2.gh, fun b e n => g2.fr b e n (no b)⟩ hv

/-! ### objects -/
def IsObj (M : Mu) (C : Addr) (fs : List (Str × Pr)) : Prop := ∀ G o, M.m G o → ∃ dx gs, o = .ins C dx gs ∧ AllF G fs gs
theorem isObj_I {C : Addr} {fs : List (Str × Pr)} : IsObj (muI C fs) C fs := fun _ _ h => h
theorem AllF.look {G : Hp} {f : Str} : ∀ {fs : List (Str × Pr)} {gs : List (Str × V)} {P : Pr}, AllF G fs gs → fs.lookup f = some P → ∃ v, gs.lookup f = some v ∧ P.p G v
  | [], [], _, _, e => by cases e
  | (n, P') :: fs, (m, v) :: gs, P, h, e => by
    obtain ⟨rfl, h2, h3⟩ := h
    rw [List.lookup_cons] at e ⊢
    cases c : (f == n) with
    | true =>
      rw [c] at e
      cases e
      exact ⟨v, rfl, h2⟩
    | false =>
      rw [c] at e
      exact AllF.look h3 e
  | [], _ :: _, _, h, _ => h.elim
  | _ :: _, [], _, h, _ => h.elim
theorem AllF.no {G : Hp} {f : Str} : ∀ {fs : List (Str × Pr)} {gs : List (Str × V)}, AllF G fs gs → fs.lookup f = none → gs.lookup f = none
  | [], [], _, _ => rfl
  | (n, P') :: fs, (m, v) :: gs, h, e => by
    obtain ⟨rfl, h2, h3⟩ := h
    rw [List.lookup_cons] at e ⊢
    cases c : (f == n) with
    | true =>
      rw [c] at e
      cases e
    | false =>
      rw [c] at e
      exact AllF.no h3 e
  | [], _ :: _, h, _ => h.elim
  | _ :: _, [], h, _ => h.elim
def putP (f : Str) (P : Pr) : List (Str × Pr) → List (Str × Pr)
  | [] => [(f, P)]
  | (g, x) :: r => if g = f then (g, P) :: r else (g, x) :: putP f P r
theorem AllF.put {G : Hp} {f : Str} {P : Pr} {v : V} (hv : P.p G v) : ∀ {fs : List (Str × Pr)} {gs : List (Str × V)}, AllF G fs gs → AllF G (putP f P fs) (putF f v gs)
  | [], [], _ => ⟨rfl, hv, trivial⟩
  | (n, P') :: fs, (m, x) :: gs, h => by
    obtain ⟨rfl, h2, h3⟩ := h
    unfold putP putF
    by_cases c : n = f
    · rw [if_pos c, if_pos c]
      exact ⟨rfl, hv, h3⟩
    · rw [if_neg c, if_neg c]
      exact ⟨rfl, h2, AllF.put hv h3⟩
  | [], _ :: _, h => h.elim
  | _ :: _, [], h => h.elim
theorem AllF.length {G : Hp} : ∀ {fs : List (Str × Pr)} {gs : List (Str × V)}, AllF G fs gs → gs.length = fs.length
  | [], [], _ => rfl
  | (_, _) :: _, (_, _) :: _, h => congrArg (· + 1) (AllF.length h.2.2)
  | [], _ :: _, h => h.elim
  | _ :: _, [], h => h.elim
theorem de_fld {i : Nat} {a C : Addr} {M : Mu} {fs : List (Str × Pr)} {n : Str} (hi : Γ[i]? = some (Sl.own a M)) (hM : IsObj M C fs) (c : Cls K C) (na : NoAttr K C n) (hl : fs.lookup n = some P) : DE (tFld K (tVar i) n) Γ P := fun G H σ f k q => by
  obtain ⟨h1, h2, o, h3, h4⟩ := f.own i a M hi
  obtain ⟨dx, gs, rfl, h5⟩ := hM G o h4
  obtain ⟨v, h6, h7⟩ := h5.look hl
  exact ⟨.ref a, h1, a, C, dx, gs, v, rfl, h3, c, na, h6, q v G H (.refl f.gh) h7⟩
theorem se_fld {i : Nat} {a C : Addr} {fs : List (Str × Pr)} {n : Str} (hi : Γ[i]? = some (Sl.own a (muI C fs))) (c : Cls K C) (na : NoAttr K C n) (hl : fs.length < 1000) (h : DE te Γ P) :
    SE (sFld K (tVar i) te n) Γ (.nx (Γ.set i (.own a (muI C (putP n P fs))))) := fun D G H σ f q => h G H σ f _ fun v G2 H2 g hv => by
  obtain ⟨h1, h2, o, h3, dx, gs, rfl, h5⟩ := (f.grow g).own i a _ hi
  exact ⟨.ref a, h1, a, C, dx, gs, rfl, h3, c, na, by rw [h5.length]; exact hl, q G2 _ σ ((f.grow g).turn hi ⟨dx, _, rfl, h5.put hv⟩) (g.grow.trans (grow_turn hi))⟩
/-- a method that only reads its object -/
def RSp {A : Type} (C : Addr) (self : A → List (Str × Pr)) (args : A → List Pr) (pre : A → Prop) (res : A → Pr) : Sp := fun vs H Q _ => ∃ (x : A) (G : Hp) (a : Addr) (ws : List V), vs = .ref a :: ws ∧ Same G H ∧ G a = none ∧ pre x ∧
  (∃ dx gs, H a = some (.ins C dx gs) ∧ AllF G (self x) gs) ∧ AllP G (args x) ws ∧ ∀ v G2 H2, GrowE G H G2 H2 → (res x).p G2 v → Q v H2
/-- a method, or a def whose first argument it is, that changes an object -/
def MSp {A : Type} (C : Addr) (self : A → List (Str × Pr)) (args : A → List Pr) (pre : A → Prop) (self2 : A → List (Str × Pr)) (res : A → Pr) : Sp := fun vs H Q _ => ∃ (x : A) (G : Hp) (a : Addr) (ws : List V), vs = .ref a :: ws ∧ Same G H ∧ G a = none ∧ pre x ∧
  (∃ dx gs, H a = some (.ins C dx gs) ∧ AllF G (self x) gs) ∧ AllP G (args x) ws ∧ ∀ v G2 H2, Grow (fun b => b = a) G H (fun b => b = a) G2 H2 → Same G2 H2 → G2 a = none → (∃ dx gs, H2 a = some (.ins C dx gs) ∧ AllF G2 (self2 x) gs) → (res x).p G2 v → Q v H2
theorem rsp_len {A : Type} {C : Addr} {self : A → List (Str × Pr)} {args : A → List Pr} {pre : A → Prop} {res : A → Pr} {n : Nat} (hn : ∀ x, (args x).length + 1 = n) : ∀ vs H Q E, RSp C self args pre res vs H Q E → vs.length = n := fun vs H Q E ⟨x, G, a, ws, e, _, _, _, _, h, _⟩ => by rw [e, List.length_cons, h.length]; exact hn x
theorem msp_len {A : Type} {C : Addr} {self self2 : A → List (Str × Pr)} {args : A → List Pr} {pre : A → Prop} {res : A → Pr} {n : Nat} (hn : ∀ x, (args x).length + 1 = n) : ∀ vs H Q E, MSp C self args pre self2 res vs H Q E → vs.length = n := fun vs H Q E ⟨x, G, a, ws, e, _, _, _, _, h, _⟩ => by rw [e, List.length_cons, h.length]; exact hn x
theorem de_meth {A : Type} {self : A → List (Str × Pr)} {args : A → List Pr} {pre : A → Prop} {res : A → Pr} {tA : TA} {E : XK} {i : Nat} {a C : Addr} {M : Mu} {m : Str} (x : A) (hi : Γ[i]? = some (Sl.own a M)) (hM : IsObj M C (self x)) (hm : (self x).lookup m = none) (ha : EA tA Γ (args x)) (hp : pre x) :
    DE (tMeth C m (RSp C self args pre res) [] E (tVar i) tA) Γ (res x) := fun G H σ f k q => by
  obtain ⟨h1, h2, o, h3, h4⟩ := f.own i a M hi
  obtain ⟨dx, gs, rfl, h5⟩ := hM G o h4
  refine ⟨.ref a, h1, a, dx, gs, rfl, h3, h5.no hm, ha G H σ f _ fun vs G2 H2 g hv => ?_⟩
  obtain ⟨_, h2', o', h3', h4'⟩ := (f.grow g).own i a M hi
  obtain ⟨dx', gs', rfl, h5'⟩ := hM G2 o' h4'
  exact ⟨x, G2, a, vs, by rw [List.append_nil], g.gh, h2', hp, ⟨dx', gs', h3', h5'⟩, hv, fun v G3 H3 g3 hr => q v G3 H3 (g.trans g3) hr⟩
/-- an expression that changes what slot i owns -/
def DM (te : TE) (Γ : List Sl) (P : Pr) (Γ2 : List Sl) : Prop := ∀ (G H : Hp) (σ : L2.St), Fits G H σ Γ → ∀ Q : VK, (∀ v G2 H2, Fits G2 H2 σ Γ2 → Grow (owns Γ) G H (owns Γ2) G2 H2 → P.p G2 v → Q v H2) → te σ H Q
theorem se_retD {Γ2 Γ3 : List Sl} (h : DM te Γ P Γ2) (w : Wk Γ2 Γ3 := by repeat (first | exact Wk.nil | apply Wk.keep | apply Wk.drop)) : SE (tRet te) Γ (.rt P Γ3) := fun D G H σ f q => h G H σ f _ fun v G2 H2 f2 g hv => q v G2 H2 σ (f2.weak w) (g.less w.owns) hv
theorem se_asgD {Γ2 : List Sl} {i : Nat} (h : DM te Γ P Γ2) : SE (tAsg te (gName i)) Γ (.nx (Γ2.set i (.val P))) := fun D G H σ f q => h G H σ f _ fun v G2 H2 f2 g hv => q G2 H2 _ (f2.put hv) (g.less fun b z => owns_put b z)
theorem dm_core {A : Type} {self self2 : A → List (Str × Pr)} {args : A → List Pr} {pre : A → Prop} {res : A → Pr} {E : XK} {i : Nat} {a C : Addr} (x : A) (hi : Γ[i]? = some (Sl.own a (muI C (self x)))) (hp : pre x) {G H : Hp} {σ : L2.St} (f : Fits G H σ Γ) {vs : List V} (hv : AllP G (args x) vs) {k : VK}
    (q : ∀ v G2 H2, Fits G2 H2 σ (Γ.set i (.own a (muI C (self2 x)))) → Grow (owns Γ) G H (owns (Γ.set i (.own a (muI C (self2 x))))) G2 H2 → (res x).p G2 v → k v H2) : MSp C self args pre self2 res (.ref a :: vs) H k E := by
  obtain ⟨h1, h2, o, h3, dx, gs, rfl, h5⟩ := f.own i a _ hi
  refine ⟨x, G, a, vs, rfl, f.gh, h2, hp, ⟨dx, gs, h3, h5⟩, hv, fun v G2 H2 g s2 n2 ⟨dx2, gs2, e2, al2⟩ hr => q v G2 H2 ?_ ⟨g.eG, fun b o e n => g.eH b o e fun z => n (by rw [z]; exact ⟨i, _, hi⟩), fun b e k n => g.fr b e k fun z => n (by rw [z]; exact ⟨i, _, hi⟩), fun b z => .inl (owns_turn hi b z)⟩ hr⟩
  have hlt := (List.getElem?_eq_some_iff.mp hi).1
  have gg : ∀ {j : Nat} {b : Addr} {M : Mu}, (Γ.set i (.own a (muI C (self2 x))))[j]? = some (Sl.own b M) → (i = j ∧ b = a ∧ M = muI C (self2 x)) ∨ (i ≠ j ∧ Γ[j]? = some (Sl.own b M) ∧ b ≠ a) := fun {j b M} z => by
    by_cases c : i = j
    · subst c
      rw [List.getElem?_set_self hlt] at z
      cases z
      exact .inl ⟨rfl, rfl, rfl⟩
    · rw [List.getElem?_set_ne c] at z
      exact .inr ⟨c, z, fun y => by subst y; exact c (f.dis i j b _ _ hi z)⟩
  exact {
    gh := s2
    len := by rw [List.length_set]; exact f.len
    val := fun j R z => by
      by_cases c : i = j
      · subst c
        rw [List.getElem?_set_self hlt] at z
        cases z
      · rw [List.getElem?_set_ne c] at z
        obtain ⟨v, k1, k2⟩ := f.val j R z
        exact ⟨v, k1, R.mono g.eG k2⟩
    own := fun j b M z => by
      rcases gg z with ⟨rfl, rfl, rfl⟩ | ⟨c, z2, nb⟩
      · exact ⟨h1, n2, _, e2, dx2, gs2, rfl, al2⟩
      · obtain ⟨k1, k2, u, k3, k4⟩ := f.own j b M z2
        exact ⟨k1, g.fr b k2 (by rw [k3]; intro y; cases y) nb, u, g.eH b u k3 nb, M.mono g.eG k4⟩
    dis := fun j l b M N z1 z2 => by
      rcases gg z1 with ⟨c1, d1, _⟩ | ⟨c1, y1, d1⟩
      · rcases gg z2 with ⟨c2, d2, _⟩ | ⟨c2, y2, d2⟩
        · exact c1.symm.trans c2
        · exact absurd d1 d2
      · rcases gg z2 with ⟨c2, d2, _⟩ | ⟨c2, y2, d2⟩
        · exact absurd d2 d1
        · exact f.dis j l b M N y1 y2 }
theorem dm_meth {A : Type} {self self2 : A → List (Str × Pr)} {args : A → List Pr} {pre : A → Prop} {res : A → Pr} {tA : TA} {E : XK} {i : Nat} {a C : Addr} {m : Str} (x : A) (hi : Γ[i]? = some (Sl.own a (muI C (self x)))) (hm : (self x).lookup m = none) (ha : EA tA Γ (args x)) (hp : pre x) :
    DM (tMeth C m (MSp C self args pre self2 res) [] E (tVar i) tA) Γ (res x) (Γ.set i (.own a (muI C (self2 x)))) := fun G H σ f k q => by
  obtain ⟨h1, h2, o, h3, dx, gs, rfl, h5⟩ := f.own i a _ hi
  refine ⟨.ref a, h1, a, dx, gs, rfl, h3, h5.no hm, ha G H σ f _ fun vs G2 H2 g hv => ?_⟩
  rw [List.append_nil]
  exact dm_core x hi hp (f.grow g) hv fun v G3 H3 f3 g3 hr => q v G3 H3 f3 (g.grow.trans g3) hr
theorem dm_call {A : Type} {self self2 : A → List (Str × Pr)} {args : A → List Pr} {pre : A → Prop} {res : A → Pr} {tA : TA} {E : XK} {i : Nat} {a C : Addr} (x : A) (hi : Γ[i]? = some (Sl.own a (muI C (self x)))) (ha : EA tA Γ (args x)) (hp : pre x) :
    DM (tCall (MSp C self args pre self2 res) [] E (tCons (tVar i) tA)) Γ (res x) (Γ.set i (.own a (muI C (self2 x)))) := fun G H σ f k q => by
  obtain ⟨h1, _⟩ := f.own i a _ hi
  refine ⟨.ref a, h1, ha G H σ f _ fun vs G2 H2 g hv => ?_⟩
  show MSp C self args pre self2 res ((.ref a :: vs) ++ []) H2 k E
  rw [List.append_nil]
  exact dm_core x hi hp (f.grow g) hv fun v G3 H3 f3 g3 hr => q v G3 H3 f3 (g.grow.trans g3) hr
/-- a reading def whose first argument is the object -/
theorem de_callR {A : Type} {self : A → List (Str × Pr)} {args : A → List Pr} {pre : A → Prop} {res : A → Pr} {tA : TA} {E : XK} {i : Nat} {a C : Addr} {M : Mu} (x : A) (hi : Γ[i]? = some (Sl.own a M)) (hM : IsObj M C (self x)) (ha : EA tA Γ (args x)) (hp : pre x) :
    DE (tCall (RSp C self args pre res) [] E (tCons (tVar i) tA)) Γ (res x) := fun G H σ f k q => by
  obtain ⟨h1, _⟩ := f.own i a M hi
  refine ⟨.ref a, h1, ha G H σ f _ fun vs G2 H2 g hv => ?_⟩
  obtain ⟨_, h2', o', h3', h4'⟩ := (f.grow g).own i a M hi
  obtain ⟨dx', gs', rfl, h5'⟩ := hM G2 o' h4'
  exact ⟨x, G2, a, vs, by rw [List.append_nil], g.gh, h2', hp, ⟨dx', gs', h3', h5'⟩, hv, fun v G3 H3 g3 hr => q v G3 H3 (g.trans g3) hr⟩
theorem get_own {a : Addr} {M : Mu} {Ps : List Pr} {m i : Nat} {b : Addr} {N : Mu} (e : (Sl.own a M :: (Ps.map Sl.val ++ List.replicate m Sl.any))[i]? = some (Sl.own b N)) : i = 0 ∧ b = a ∧ N = M := by
  cases i with
  | zero => cases e; exact ⟨rfl, rfl, rfl⟩
  | succ i =>
    rw [List.getElem?_cons_succ] at e
    rcases get_val e with z | ⟨P', h1, h2⟩
    · cases z
    · cases h2
theorem fits_startO {G H : Hp} {N : List Str} {vs : List V} {Ps : List Pr} {a : Addr} {M : Mu} {o : HO} (s : Same G H) (na : G a = none) (ho : H a = some o) (hm : M.m G o) (h : AllP G Ps vs) : Fits G H (L2.start N (.ref a :: vs)) (Sl.own a M :: (Ps.map Sl.val ++ List.replicate (N.length - (Ps.length + 1)) Sl.any)) where
  gh := s
  len := by
    unfold L2.start
    simp only [List.length_append, List.length_cons, List.length_map, List.length_replicate, h.length]
    omega
  val := fun i P e => by
    cases i with
    | zero => cases e
    | succ i =>
      rw [List.getElem?_cons_succ] at e
      rcases get_val e with z | ⟨P', h1, h2⟩
      · cases z
      · cases h2
        obtain ⟨v, k1, k2⟩ := h.get h1
        refine ⟨v, ?_, k2⟩
        unfold L2.start
        rw [List.map_cons, List.cons_append, List.getElem?_cons_succ, List.getElem?_append_left (by rw [List.length_map]; exact (List.getElem?_eq_some_iff.mp k1).1), List.getElem?_map, k1]
        rfl
  own := fun i b N' e => by
    obtain ⟨rfl, rfl, rfl⟩ := get_own e
    exact ⟨rfl, na, o, ho, hm⟩
  dis := fun i j b M' N' e1 e2 => (get_own e1).1.trans (get_own e2).1.symm
theorem owns_start {a : Addr} {M : Mu} {Ps : List Pr} {m : Nat} (b : Addr) : owns (Sl.own a M :: (Ps.map Sl.val ++ List.replicate m Sl.any)) b ↔ b = a := ⟨fun ⟨_, _, e⟩ => (get_own e).2.1, fun e => ⟨0, M, by rw [e]; rfl⟩⟩
def muE (C : Addr) (o : HO) (fs : List (Str × Pr)) : Mu := ⟨fun G o2 => o2 = o ∧ ∃ dx gs, o2 = .ins C dx gs ∧ AllF G fs gs, fun e ⟨h, dx, gs, h1, h2⟩ => ⟨h, dx, gs, h1, h2.mono e⟩⟩
theorem body_read {A : Type} {C : Addr} {self : A → List (Str × Pr)} {args : A → List Pr} {pre : A → Prop} {res : A → Pr} {N : List Str} {us : List V} {H : Hp} {k : VK} {E : XK} {t : TS} (h : RSp C self args pre res us H k E) (Γ0 : A → Addr → Mu → List Sl)
    (e0 : ∀ x a M, Γ0 x a M = Sl.own a M :: ((args x).map Sl.val ++ List.replicate (N.length - ((args x).length + 1)) Sl.any))
    (hs : ∀ x a M, pre x → IsObj M C (self x) → SE t (Γ0 x a M) (.rt (res x) [Sl.own a M])) : t { nx := fun _ H' => k .non H', rt := k } (L2.start N us) H := by
  obtain ⟨x, G, a, ws, rfl, s, na, hp, ⟨dx, gs, ho, al⟩, ha, q⟩ := h
  have hse := hs x a (muE C (.ins C dx gs) (self x)) hp fun _ _ z => z.2
  rw [e0] at hse
  refine hse _ G H _ (fits_startO s na ho ⟨rfl, dx, gs, rfl, al⟩ ha) fun v G2 H2 σ2 f2 g2 hv => q v G2 H2 ?_ hv
  obtain ⟨_, n2, o2, e2, rfl, _⟩ := f2.own 0 a _ rfl
  refine ⟨g2.eG, fun b o e => ?_, f2.gh, fun b e n => ?_⟩
  · by_cases c : b = a
    · subst c
      rw [ho] at e
      cases e
      exact e2
    · exact g2.eH b o e fun z => c ((owns_start b).mp z)
  · by_cases c : b = a
    · rw [c]; exact n2
    · exact g2.fr b e n fun z => c ((owns_start b).mp z)
theorem body_mut {A : Type} {C : Addr} {self self2 : A → List (Str × Pr)} {args : A → List Pr} {pre : A → Prop} {res : A → Pr} {N : List Str} {us : List V} {H : Hp} {k : VK} {E : XK} {t : TS} (h : MSp C self args pre self2 res us H k E) (Γ0 : A → Addr → List Sl)
    (e0 : ∀ x a, Γ0 x a = Sl.own a (muI C (self x)) :: ((args x).map Sl.val ++ List.replicate (N.length - ((args x).length + 1)) Sl.any))
    (hs : ∀ x a, pre x → SE t (Γ0 x a) (.rt (res x) [Sl.own a (muI C (self2 x))])) : t { nx := fun _ H' => k .non H', rt := k } (L2.start N us) H := by
  obtain ⟨x, G, a, ws, rfl, s, na, hp, ⟨dx, gs, ho, al⟩, ha, q⟩ := h
  have hse := hs x a hp
  rw [e0] at hse
  refine hse _ G H _ (fits_startO s na ho ⟨dx, gs, rfl, al⟩ ha) fun v G2 H2 σ2 f2 g2 hv => ?_
  obtain ⟨_, n2, o2, e2, dx2, gs2, rfl, al2⟩ := f2.own 0 a _ rfl
  refine q v G2 H2 ⟨g2.eG, fun b o e n => g2.eH b o e fun z => n ((owns_start b).mp z), fun b e k n => g2.fr b e k fun z => n ((owns_start b).mp z), fun b z => .inl z⟩ f2.gh n2 ⟨dx2, gs2, e2, al2⟩ hv
end
end Wp
set_option Elab.async false
set_option linter.all false
set_option maxRecDepth 100000
set_option maxHeartbeats 2000000
namespace Wp
open PySem PySem.Spec PyProof.Rows L2

/-- the module's name x holds the int i -/
def GI (mg : Str → Option Value) (x : Str) (i : Int) : Prop := ∃ t, mg x = some (Value.int i t)
theorem pe_gi {X : Cx} {x : Str} {i : Int} {pos : Pos} (h : GI X.mg x i) (hg : Gl X x) (hd : (x == ("__debug__" : Str)) = false := by decide) : PE X (.Name x pos) (tC (.int i)) := by
  obtain ⟨t, e⟩ := h
  exact pe_glob hg e ⟨t, rfl⟩ hd
/-- the module's name x holds a def that keeps the promise sp -/
structure Has (P : Program) (w : World) (K : PySem.W.Frag) (mg : Str → Option Value) (base : Heap) (k : Nat) (x : Str) (ps : List Str) (sp : Sp) : Prop where
  ex : ∃ f fd, FnOk P w K mg base CX0 k f fd ps sp ∧ mg x = some (.ref f) ∧ PySem.W.keepIn K (.ref f) = true ∧ Binds K fd ps []
/-- the class at C has a method m that keeps the promise sp -/
structure HasM (P : Program) (w : World) (K : PySem.W.Frag) (mg : Str → Option Value) (base : Heap) (k : Nat) (C : Addr) (m : Str) (ps : List Str) (sp : Sp) : Prop where
  ex : ∃ f fd, FnOk P w K mg base CX0 k f fd ps sp ∧ Meth K C m f ∧ Binds K fd ps []
/-- the class at C, under the name x, has an __init__ that keeps the promise sp -/
structure HasC (P : Program) (w : World) (K : PySem.W.Frag) (mg : Str → Option Value) (base : Heap) (k : Nat) (C : Addr) (x : Str) (ps : List Str) (sp : Sp) : Prop where
  ex : ∃ f fd, FnOk P w K mg base CX0 k f fd ps sp ∧ Mk K C f ∧ mg x = some (.ref C) ∧ Binds K fd ps []
section
variable {X : Cx} {k : Nat} {x m : Str} {C : Addr} {ps : List Str} {sp : Sp} {p pos apos : Pos} {e o : Expr} {es : List Expr} {t : TA} {ta : TE}
theorem pe_callH (h : Has X.prog X.w X.K X.mg X.base k x ps sp) (hr : Room k X.A) (hg : Gl X x) (ha : PA X (e :: es) t) (hdb : (x == ("__debug__" : Str)) = false := by decide) (he : starEach (e :: es) X.env = (false, eval e X.env) :: starEach es X.env := by rfl) (hpl : (backTo pos (starEach es X.env)).any (·.1) = false := by rfl) :
    PE X (.Call (.Name x p) (e :: es) [] pos) (tCall sp [] E0 t) := by
  obtain ⟨f, fd, F, hm, hk, hb⟩ := h.ex
  exact pe_call F hr hg hm hk hb .nil pass0 ha hdb he hpl
theorem pe_make0H (h : HasC X.prog X.w X.K X.mg X.base k C x ps sp) (hr : Room (k + 1) X.A) (hg : Gl X x) (hdb : (x == ("__debug__" : Str)) = false := by decide) : PE X (.Call (.Name x p) [] [] pos) (tMake C sp [] E0 tNil) := by
  obtain ⟨f, fd, F, hm, hn, hb⟩ := h.ex
  exact pe_make0 hm F hr hg hn hb .nil pass0 hdb
end
theorem hu64 {A : Around} {k : Nat} (hr : Room k A) : A.units + 64 < cLine := hr.units
end Wp
set_option Elab.async false
set_option linter.all false
set_option maxRecDepth 100000
set_option maxHeartbeats 4000000
namespace Wp
open PySem L2
def topS (i : Nat) : Stmt := PySem.Challenge.pw_wayposts_s01_answers.main.body.getD i (.Pass ⟨0, 0, 0, 0⟩)
structure Txt (K : PySem.W.Frag) (mg : Str → Option Value) (C : Addr) : Prop where
  cl : Cls K C
  NOTHING : GI mg "NOTHING" (-1)
  NO_SUCH : GI mg "NO_SUCH" (-2)
  NO_CHANGE : GI mg "NO_CHANGE" (-6)
  OUT_OF_RANGE : GI mg "OUT_OF_RANGE" (-22)
  TOO_MANY : GI mg "TOO_MANY" (-28)
  THERE_IS_NONE : GI mg "THERE_IS_NONE" (-33)
  MOST_PLACES : GI mg "MOST_PLACES" (8)
  MOST_LINES : GI mg "MOST_LINES" (14)
  MOST_LENGTH : GI mg "MOST_LENGTH" (99)
  MOST_TRIED : GI mg "MOST_TRIED" (5)
  MOST_TAKEN_BACK : GI mg "MOST_TAKEN_BACK" (10)
  NOT_BEGUN : GI mg "NOT_BEGUN" (-11)
  BEGIN : GI mg "BEGIN" (0)
  LINE : GI mg "LINE" (1)
  CUT : GI mg "CUT" (2)
  ORDER : GI mg "ORDER" (3)
  FIRST : GI mg "FIRST" (4)
  BESTORDER : GI mg "BESTORDER" (5)
  LINES : GI mg "LINES" (6)
  ORDERIS : GI mg "ORDERIS" (7)
  MARKS : GI mg "MARKS" (8)
  SIZE : GI mg "SIZE" (9)
  TOLD : GI mg "TOLD" (10)
  DIST : GI mg "DIST" (11)
  BY : GI mg "BY" (12)
  WHO : GI mg "WHO" (13)
  WITHOUT : GI mg "WITHOUT" (14)
  AFTER : GI mg "AFTER" (15)
  WOULD : GI mg "WOULD" (16)
  FEWEST : GI mg "FEWEST" (17)
  RIGHT : GI mg "RIGHT" (18)
  BACK : GI mg "BACK" (19)
  enumerate : mg "enumerate" = none
  len : mg "len" = none
  list : mg "list" = none
  max : mg "max" = none
  min : mg "min" = none
  range : mg "range" = none
  sorted : mg "sorted" = none
  sum : mg "sum" = none
  zip : mg "zip" = none
  NUMBERS : ∃ a, mg "NUMBERS" = some (.ref a) ∧ ∀ H, SqT K H a (([1, 3, 1, 0, 1, 0, 0, 0, 1, 0, 2, 2, 2, 1, 2, 1, 0, 0, 0, 0, 0] : List Int).map V.int)
  WITH_ROW : ∃ a, mg "WITH_ROW" = some (.ref a) ∧ ∀ H, SqT K H a (([3, 16, 18] : List Int).map V.int)
  n_lines : NoAttr K C "lines"
  n_order : NoAttr K C "order"
  n_past : NoAttr K C "past"
  n_places : NoAttr K C "places"
abbrev s_lines_but : Stmt := topS 2
theorem sc_lines_but : FnScope ["lines", "a", "b", "low", "high", "line"] ["lines", "a", "b"] (defScope s_lines_but) := ⟨rfl, rfl, rfl, by decide +kernel, rfl, by decide +kernel, by decide +kernel⟩
abbrev s_with_line : Stmt := topS 3
theorem sc_with_line : FnScope ["lines", "a", "b", "w"] ["lines", "a", "b", "w"] (defScope s_with_line) := ⟨rfl, rfl, rfl, by decide +kernel, rfl, by decide +kernel, by decide +kernel⟩
abbrev s_shorter : Stmt := topS 4
theorem sc_shorter : FnScope ["known", "one", "other"] ["known", "one", "other"] (defScope s_shorter) := ⟨rfl, rfl, rfl, by decide +kernel, rfl, by decide +kernel, by decide +kernel⟩
abbrev s_line_table : Stmt := topS 5
theorem sc_line_table : FnScope ["places", "lines", "table", "place", "w", "a", "b"] ["places", "lines"] (defScope s_line_table) := ⟨rfl, rfl, rfl, by decide +kernel, rfl, by decide +kernel, by decide +kernel⟩
abbrev s_through : Stmt := topS 6
theorem sc_through : FnScope ["table", "middle", "found", "row", "known", "far"] ["table", "middle"] (defScope s_through) := ⟨rfl, rfl, rfl, by decide +kernel, rfl, by decide +kernel, by decide +kernel⟩
abbrev s_distance_table : Stmt := topS 7
theorem sc_distance_table : FnScope ["places", "lines", "table", "middle"] ["places", "lines"] (defScope s_distance_table) := ⟨rfl, rfl, rfl, by decide +kernel, rfl, by decide +kernel, by decide +kernel⟩
abbrev s_told_by : Stmt := topS 9
theorem sc_told_by : FnScope ["ours", "theirs", "least", "place", "near", "other", "far"] ["ours", "theirs"] (defScope s_told_by) := ⟨rfl, rfl, rfl, by decide +kernel, rfl, by decide +kernel, by decide +kernel⟩
abbrev s_told_through : Stmt := topS 10
theorem sc_told_through : FnScope ["ours", "theirs", "least", "mark"] ["ours", "theirs"] (defScope s_told_through) := ⟨rfl, rfl, rfl, by decide +kernel, rfl, by decide +kernel, by decide +kernel⟩
abbrev s_marks_behind : Stmt := topS 11
theorem sc_marks_behind : FnScope ["table", "marks", "place", "behind", "had", "distance"] ["table", "marks", "place"] (defScope s_marks_behind) := ⟨rfl, rfl, rfl, by decide +kernel, rfl, by decide +kernel, by decide +kernel⟩
abbrev s_marks_by : Stmt := topS 12
theorem sc_marks_by : FnScope ["table", "order", "marks", "distances", "place"] ["table", "order"] (defScope s_marks_by) := ⟨rfl, rfl, rfl, by decide +kernel, rfl, by decide +kernel, by decide +kernel⟩
abbrev s_how_many : Stmt := topS 13
theorem sc_how_many : FnScope ["marks", "had"] ["marks"] (defScope s_how_many) := ⟨rfl, rfl, rfl, by decide +kernel, rfl, by decide +kernel, by decide +kernel⟩
abbrev s_has_mark : Stmt := topS 14
theorem sc_has_mark : FnScope ["had", "place", "mark"] ["had", "place"] (defScope s_has_mark) := ⟨rfl, rfl, rfl, by decide +kernel, rfl, by decide +kernel, by decide +kernel⟩
abbrev s_without_mark : Stmt := topS 15
theorem sc_without_mark : FnScope ["marks", "place", "number", "fewer"] ["marks", "place", "number"] (defScope s_without_mark) := ⟨rfl, rfl, rfl, by decide +kernel, rfl, by decide +kernel, by decide +kernel⟩
abbrev s_one_longer : Stmt := topS 16
theorem sc_one_longer : FnScope ["rows", "places", "longer", "row", "place"] ["rows", "places"] (defScope s_one_longer) := ⟨rfl, rfl, rfl, by decide +kernel, rfl, by decide +kernel, by decide +kernel⟩
abbrev s_all_orders : Stmt := topS 17
theorem sc_all_orders : FnScope ["places", "rows", "place"] ["places"] (defScope s_all_orders) := ⟨rfl, rfl, rfl, by decide +kernel, rfl, by decide +kernel, by decide +kernel⟩
abbrev s_best_order : Stmt := topS 18
theorem sc_best_order : FnScope ["table", "best", "fewest", "order", "number"] ["table"] (defScope s_best_order) := ⟨rfl, rfl, rfl, by decide +kernel, rfl, by decide +kernel, by decide +kernel⟩
abbrev s_marks_in : Stmt := topS 19
theorem sc_marks_in : FnScope ["row", "places", "marks", "at", "place", "end", "k"] ["row", "places"] (defScope s_marks_in) := ⟨rfl, rfl, rfl, by decide +kernel, rfl, by decide +kernel, by decide +kernel⟩
abbrev s_all_right : Stmt := topS 20
theorem sc_all_right : FnScope ["table", "marks", "ours", "distances", "theirs", "distance"] ["table", "marks"] (defScope s_all_right) := ⟨rfl, rfl, rfl, by decide +kernel, rfl, by decide +kernel, by decide +kernel⟩
abbrev s_right_pairs : Stmt := topS 21
theorem sc_right_pairs : FnScope ["table", "marks", "number", "v", "u"] ["table", "marks"] (defScope s_right_pairs) := ⟨rfl, rfl, rfl, by decide +kernel, rfl, by decide +kernel, by decide +kernel⟩
abbrev s_or_none : Stmt := topS 33
theorem sc_or_none : FnScope ["number"] ["number"] (defScope s_or_none) := ⟨rfl, rfl, rfl, by decide +kernel, rfl, by decide +kernel, by decide +kernel⟩
abbrev s_Posts___init__ : Stmt := inClass (topS 34) 0
theorem sc_Posts___init__ : FnScope ["self"] ["self"] (defScope s_Posts___init__) := ⟨rfl, rfl, rfl, by decide +kernel, rfl, by decide +kernel, by decide +kernel⟩
abbrev s_Posts_begun : Stmt := inClass (topS 34) 1
theorem sc_Posts_begun : FnScope ["self"] ["self"] (defScope s_Posts_begun) := ⟨rfl, rfl, rfl, by decide +kernel, rfl, by decide +kernel, by decide +kernel⟩
abbrev s_Posts_has_place : Stmt := inClass (topS 34) 2
theorem sc_Posts_has_place : FnScope ["self", "place"] ["self", "place"] (defScope s_Posts_has_place) := ⟨rfl, rfl, rfl, by decide +kernel, rfl, by decide +kernel, by decide +kernel⟩
abbrev s_Posts_has_both : Stmt := inClass (topS 34) 3
theorem sc_Posts_has_both : FnScope ["self", "u", "v"] ["self", "u", "v"] (defScope s_Posts_has_both) := ⟨rfl, rfl, rfl, by decide +kernel, rfl, by decide +kernel, by decide +kernel⟩
abbrev s_Posts_is_order : Stmt := inClass (topS 34) 4
theorem sc_Posts_is_order : FnScope ["self", "row"] ["self", "row"] (defScope s_Posts_is_order) := ⟨rfl, rfl, rfl, by decide +kernel, rfl, by decide +kernel, by decide +kernel⟩
abbrev s_Posts_table : Stmt := inClass (topS 34) 5
theorem sc_Posts_table : FnScope ["self"] ["self"] (defScope s_Posts_table) := ⟨rfl, rfl, rfl, by decide +kernel, rfl, by decide +kernel, by decide +kernel⟩
abbrev s_Posts_all_marks : Stmt := inClass (topS 34) 6
theorem sc_Posts_all_marks : FnScope ["self"] ["self"] (defScope s_Posts_all_marks) := ⟨rfl, rfl, rfl, by decide +kernel, rfl, by decide +kernel, by decide +kernel⟩
abbrev s_Posts_tells_all : Stmt := inClass (topS 34) 7
theorem sc_Posts_tells_all : FnScope ["self", "marks"] ["self", "marks"] (defScope s_Posts_tells_all) := ⟨rfl, rfl, rfl, by decide +kernel, rfl, by decide +kernel, by decide +kernel⟩
abbrev s_Posts_change : Stmt := inClass (topS 34) 8
theorem sc_Posts_change : FnScope ["self", "lines", "order", "past"] ["self", "lines", "order"] (defScope s_Posts_change) := ⟨rfl, rfl, rfl, by decide +kernel, rfl, by decide +kernel, by decide +kernel⟩
abbrev s_Posts_begin : Stmt := inClass (topS 34) 9
theorem sc_Posts_begin : FnScope ["self", "n"] ["self", "n"] (defScope s_Posts_begin) := ⟨rfl, rfl, rfl, by decide +kernel, rfl, by decide +kernel, by decide +kernel⟩
abbrev s_Posts_back : Stmt := inClass (topS 34) 10
theorem sc_Posts_back : FnScope ["self", "was"] ["self"] (defScope s_Posts_back) := ⟨rfl, rfl, rfl, by decide +kernel, rfl, by decide +kernel, by decide +kernel⟩
abbrev s_Posts_state : Stmt := inClass (topS 34) 11
theorem sc_Posts_state : FnScope ["self"] ["self"] (defScope s_Posts_state) := ⟨rfl, rfl, rfl, by decide +kernel, rfl, by decide +kernel, by decide +kernel⟩
abbrev s_Posts_line : Stmt := inClass (topS 34) 12
theorem sc_Posts_line : FnScope ["self", "a", "b", "w"] ["self", "a", "b", "w"] (defScope s_Posts_line) := ⟨rfl, rfl, rfl, by decide +kernel, rfl, by decide +kernel, by decide +kernel⟩
abbrev s_Posts_cut : Stmt := inClass (topS 34) 13
theorem sc_Posts_cut : FnScope ["self", "i"] ["self", "i"] (defScope s_Posts_cut) := ⟨rfl, rfl, rfl, by decide +kernel, rfl, by decide +kernel, by decide +kernel⟩
abbrev s_Posts_take_order : Stmt := inClass (topS 34) 14
theorem sc_Posts_take_order : FnScope ["self", "row"] ["self", "row"] (defScope s_Posts_take_order) := ⟨rfl, rfl, rfl, by decide +kernel, rfl, by decide +kernel, by decide +kernel⟩
abbrev s_Posts_put_first : Stmt := inClass (topS 34) 15
theorem sc_Posts_put_first : FnScope ["self", "v", "place"] ["self", "v"] (defScope s_Posts_put_first) := ⟨rfl, rfl, rfl, by decide +kernel, rfl, by decide +kernel, by decide +kernel⟩
abbrev s_Posts_take_best : Stmt := inClass (topS 34) 16
theorem sc_Posts_take_best : FnScope ["self"] ["self"] (defScope s_Posts_take_best) := ⟨rfl, rfl, rfl, by decide +kernel, rfl, by decide +kernel, by decide +kernel⟩
abbrev s_Posts_show_lines : Stmt := inClass (topS 34) 17
theorem sc_Posts_show_lines : FnScope ["self", "shown", "w", "a", "b"] ["self"] (defScope s_Posts_show_lines) := ⟨rfl, rfl, rfl, by decide +kernel, rfl, by decide +kernel, by decide +kernel⟩
abbrev s_Posts_show_order : Stmt := inClass (topS 34) 18
theorem sc_Posts_show_order : FnScope ["self"] ["self"] (defScope s_Posts_show_order) := ⟨rfl, rfl, rfl, by decide +kernel, rfl, by decide +kernel, by decide +kernel⟩
abbrev s_Posts_show_marks : Stmt := inClass (topS 34) 19
theorem sc_Posts_show_marks : FnScope ["self", "v", "marks", "shown", "place", "distance"] ["self", "v"] (defScope s_Posts_show_marks) := ⟨rfl, rfl, rfl, by decide +kernel, rfl, by decide +kernel, by decide +kernel⟩
abbrev s_Posts_size : Stmt := inClass (topS 34) 20
theorem sc_Posts_size : FnScope ["self"] ["self"] (defScope s_Posts_size) := ⟨rfl, rfl, rfl, by decide +kernel, rfl, by decide +kernel, by decide +kernel⟩
abbrev s_Posts_told : Stmt := inClass (topS 34) 21
theorem sc_Posts_told : FnScope ["self", "u", "v", "marks"] ["self", "u", "v"] (defScope s_Posts_told) := ⟨rfl, rfl, rfl, by decide +kernel, rfl, by decide +kernel, by decide +kernel⟩
abbrev s_Posts_dist : Stmt := inClass (topS 34) 22
theorem sc_Posts_dist : FnScope ["self", "u", "v"] ["self", "u", "v"] (defScope s_Posts_dist) := ⟨rfl, rfl, rfl, by decide +kernel, rfl, by decide +kernel, by decide +kernel⟩
abbrev s_Posts_by : Stmt := inClass (topS 34) 23
theorem sc_Posts_by : FnScope ["self", "u", "v", "marks"] ["self", "u", "v"] (defScope s_Posts_by) := ⟨rfl, rfl, rfl, by decide +kernel, rfl, by decide +kernel, by decide +kernel⟩
abbrev s_Posts_who : Stmt := inClass (topS 34) 24
theorem sc_Posts_who : FnScope ["self", "h", "having", "place", "had"] ["self", "h"] (defScope s_Posts_who) := ⟨rfl, rfl, rfl, by decide +kernel, rfl, by decide +kernel, by decide +kernel⟩
abbrev s_Posts_without : Stmt := inClass (topS 34) 25
theorem sc_Posts_without : FnScope ["self", "v", "i", "marks"] ["self", "v", "i"] (defScope s_Posts_without) := ⟨rfl, rfl, rfl, by decide +kernel, rfl, by decide +kernel, by decide +kernel⟩
abbrev s_Posts_after : Stmt := inClass (topS 34) 26
theorem sc_Posts_after : FnScope ["self", "k", "table", "marks"] ["self", "k"] (defScope s_Posts_after) := ⟨rfl, rfl, rfl, by decide +kernel, rfl, by decide +kernel, by decide +kernel⟩
abbrev s_Posts_would : Stmt := inClass (topS 34) 27
theorem sc_Posts_would : FnScope ["self", "row"] ["self", "row"] (defScope s_Posts_would) := ⟨rfl, rfl, rfl, by decide +kernel, rfl, by decide +kernel, by decide +kernel⟩
abbrev s_Posts_fewest : Stmt := inClass (topS 34) 28
theorem sc_Posts_fewest : FnScope ["self", "best"] ["self"] (defScope s_Posts_fewest) := ⟨rfl, rfl, rfl, by decide +kernel, rfl, by decide +kernel, by decide +kernel⟩
abbrev s_Posts_right : Stmt := inClass (topS 34) 29
theorem sc_Posts_right : FnScope ["self", "row", "marks"] ["self", "row"] (defScope s_Posts_right) := ⟨rfl, rfl, rfl, by decide +kernel, rfl, by decide +kernel, by decide +kernel⟩
abbrev s_given_start : Stmt := topS 59
theorem sc_given_start : FnScope ["calls", "at"] ["calls", "at"] (defScope s_given_start) := ⟨rfl, rfl, rfl, by decide +kernel, rfl, by decide +kernel, by decide +kernel⟩
abbrev s_given_end : Stmt := topS 60
theorem sc_given_end : FnScope ["calls", "at"] ["calls", "at"] (defScope s_given_end) := ⟨rfl, rfl, rfl, by decide +kernel, rfl, by decide +kernel, by decide +kernel⟩
abbrev s_change : Stmt := topS 61
theorem sc_change : FnScope ["posts", "number", "given"] ["posts", "number", "given"] (defScope s_change) := ⟨rfl, rfl, rfl, by decide +kernel, rfl, by decide +kernel, by decide +kernel⟩
abbrev s_look : Stmt := topS 62
theorem sc_look : FnScope ["posts", "number", "given"] ["posts", "number", "given"] (defScope s_look) := ⟨rfl, rfl, rfl, by decide +kernel, rfl, by decide +kernel, by decide +kernel⟩
abbrev s_weigh : Stmt := topS 63
theorem sc_weigh : FnScope ["posts", "number", "given"] ["posts", "number", "given"] (defScope s_weigh) := ⟨rfl, rfl, rfl, by decide +kernel, rfl, by decide +kernel, by decide +kernel⟩
abbrev s_answer : Stmt := topS 64
theorem sc_answer : FnScope ["posts", "number", "given"] ["posts", "number", "given"] (defScope s_answer) := ⟨rfl, rfl, rfl, by decide +kernel, rfl, by decide +kernel, by decide +kernel⟩
abbrev s_answers : Stmt := topS 65
theorem sc_answers : FnScope ["calls", "posts", "found", "at", "end", "numbers"] ["calls"] (defScope s_answers) := ⟨rfl, rfl, rfl, by decide +kernel, rfl, by decide +kernel, by decide +kernel⟩
end Wp
set_option Elab.async false
set_option linter.all false
set_option maxRecDepth 100000
set_option maxHeartbeats 4000000
/-! what the top has left of each def and constant, to be found once by k_is -/
namespace Wp
open PySem PySem.Spec PyProof.Rows L2
/-- a def of the module -/
def FD (K : PySem.W.Frag) (mg : Str → Option Value) (x : Str) (st : Stmt) (ps : List Str) : Prop := ∃ f fd, Fun K x x st f fd ∧ mg x = some (.ref f) ∧ Binds K fd ps []
/-- a method of the class at C -/
def FM (K : PySem.W.Frag) (C : Addr) (m q : Str) (st : Stmt) (ps : List Str) : Prop := ∃ f fd, Fun K m q st f fd ∧ Meth K C m f ∧ Binds K fd ps []
theorem fn_at {K : PySem.W.Frag} {mg : Str → Option Value} {h : Heap} {x : Str} {st : Stmt} {ps : List Str} {f : Addr} {oc : Value} {od an : Option Addr} {sl : Array (Option Value)} {kV dc pm cd ct : Value} (X : K.In h) (G : h.Ns mainGlobals mg)
    (b : ∀ (kV doc pm : Value) (an : Option Addr) (cdv ct : Value) (us : List Value), us.length = ps.length → bindArgs (PySem.W.fnOf x x (defArgs st) (defBody st) (defScope st) .none kV doc pm an cdv ct) ⟨us, []⟩ = pure (ps.zip us))
    (a : PySem.W.nsIn K mainGlobals x = some (some (.ref f))) (l : K.lookup f = some ⟨oc, od, .func (PySem.W.fnOf x x (defArgs st) (defBody st) (defScope st) .none kV dc pm an cd ct), sl⟩) (c : PySem.W.codeIn K cd x = true) (k : PySem.W.keepIn K (.ref f) = true) : FD K mg x st ps :=
  ⟨f, _, fun_mk l c k, PySem.W.mg_of X G a, (fun_mk (st := st) l c k).binds b⟩
theorem mt_at {K : PySem.W.Frag} {C : Addr} {m q : Str} {st : Stmt} {ps : List Str} {f : Addr} {oc : Value} {od an : Option Addr} {sl : Array (Option Value)} {kV dc pm cd ct : Value}
    (b : ∀ (kV doc pm : Value) (an : Option Addr) (cdv ct : Value) (us : List Value), us.length = ps.length → bindArgs (PySem.W.fnOf m q (defArgs st) (defBody st) (defScope st) .none kV doc pm an cdv ct) ⟨us, []⟩ = pure (ps.zip us))
    (a : PySem.W.findIn K (.ref C) m = some (some (.ref f))) (i : PySem.W.isFn K (.ref f) = true) (l : K.lookup f = some ⟨oc, od, .func (PySem.W.fnOf m q (defArgs st) (defBody st) (defScope st) .none kV dc pm an cd ct), sl⟩) (c : PySem.W.codeIn K cd q = true) (k : PySem.W.keepIn K (.ref f) = true) : FM K C m q st ps :=
  ⟨f, _, fun_mk l c k, ⟨a, i, k⟩, (fun_mk (st := st) l c k).binds b⟩
theorem gi_at {K : PySem.W.Frag} {mg : Str → Option Value} {h : Heap} {x : Str} {i : Int} {t : Tok} (X : K.In h) (G : h.Ns mainGlobals mg) (a : PySem.W.nsIn K mainGlobals x = some (some (.int i t))) : GI mg x i := ⟨t, PySem.W.mg_of X G a⟩
/-- a tuple of ints, written at the top -/
theorem valsI : ∀ {us : List Value} {ns : List Int}, us.map (fun u => match u with | .int i _ => some i | _ => none) = ns.map some → Vals (ns.map V.int) us
  | [], [], _ => .nil
  | [], _ :: _, e => by cases e
  | _ :: _, [], e => by cases e
  | u :: us, n :: ns, e => by
    obtain ⟨e1, e2⟩ := List.cons.inj e
    refine .cons ?_ (valsI e2)
    cases u with
    | int i t => exact ⟨t, by rw [Option.some.inj e1]⟩
    | _ => cases e1
theorem gt_at {K : PySem.W.Frag} {mg : Str → Option Value} {h : Heap} {x : Str} {f : Addr} {ob : Obj} {its : Array Value} {n : Nat} {ns : List Int} (X : K.In h) (G : h.Ns mainGlobals mg) (a : PySem.W.nsIn K mainGlobals x = some (some (.ref f))) (l : K.lookup f = some ob) (hc : ob.cls = .type "tuple") (hd : ob.data = .seq its n)
    (hs : its.size ≤ 1000) (hv : its.toList.map (fun u => match u with | .int i _ => some i | _ => none) = ns.map some) : ∃ a, mg x = some (.ref a) ∧ ∀ H, SqT K H a (ns.map V.int) :=
  ⟨f, PySem.W.mg_of X G a, fun H => .inr ⟨ob, its, n, l, hc, hd, Nat.le_trans hs (by decide), valsI hv⟩⟩
theorem b_lines_but : ∀ (kV doc pm : Value) (an : Option Addr) (cdv ct : Value) (us : List Value), us.length = (["lines", "a", "b"] : List Str).length → bindArgs (PySem.W.fnOf "lines_but" "lines_but" (defArgs s_lines_but) (defBody s_lines_but) (defScope s_lines_but) .none kV doc pm an cdv ct) ⟨us, []⟩ = pure ((["lines", "a", "b"] : List Str).zip us) := fun _ _ _ _ _ _ us hl => match us, hl with | [_, _, _], _ => rfl
theorem b_with_line : ∀ (kV doc pm : Value) (an : Option Addr) (cdv ct : Value) (us : List Value), us.length = (["lines", "a", "b", "w"] : List Str).length → bindArgs (PySem.W.fnOf "with_line" "with_line" (defArgs s_with_line) (defBody s_with_line) (defScope s_with_line) .none kV doc pm an cdv ct) ⟨us, []⟩ = pure ((["lines", "a", "b", "w"] : List Str).zip us) := fun _ _ _ _ _ _ us hl => match us, hl with | [_, _, _, _], _ => rfl
theorem b_shorter : ∀ (kV doc pm : Value) (an : Option Addr) (cdv ct : Value) (us : List Value), us.length = (["known", "one", "other"] : List Str).length → bindArgs (PySem.W.fnOf "shorter" "shorter" (defArgs s_shorter) (defBody s_shorter) (defScope s_shorter) .none kV doc pm an cdv ct) ⟨us, []⟩ = pure ((["known", "one", "other"] : List Str).zip us) := fun _ _ _ _ _ _ us hl => match us, hl with | [_, _, _], _ => rfl
theorem b_line_table : ∀ (kV doc pm : Value) (an : Option Addr) (cdv ct : Value) (us : List Value), us.length = (["places", "lines"] : List Str).length → bindArgs (PySem.W.fnOf "line_table" "line_table" (defArgs s_line_table) (defBody s_line_table) (defScope s_line_table) .none kV doc pm an cdv ct) ⟨us, []⟩ = pure ((["places", "lines"] : List Str).zip us) := fun _ _ _ _ _ _ us hl => match us, hl with | [_, _], _ => rfl
theorem b_through : ∀ (kV doc pm : Value) (an : Option Addr) (cdv ct : Value) (us : List Value), us.length = (["table", "middle"] : List Str).length → bindArgs (PySem.W.fnOf "through" "through" (defArgs s_through) (defBody s_through) (defScope s_through) .none kV doc pm an cdv ct) ⟨us, []⟩ = pure ((["table", "middle"] : List Str).zip us) := fun _ _ _ _ _ _ us hl => match us, hl with | [_, _], _ => rfl
theorem b_distance_table : ∀ (kV doc pm : Value) (an : Option Addr) (cdv ct : Value) (us : List Value), us.length = (["places", "lines"] : List Str).length → bindArgs (PySem.W.fnOf "distance_table" "distance_table" (defArgs s_distance_table) (defBody s_distance_table) (defScope s_distance_table) .none kV doc pm an cdv ct) ⟨us, []⟩ = pure ((["places", "lines"] : List Str).zip us) := fun _ _ _ _ _ _ us hl => match us, hl with | [_, _], _ => rfl
theorem b_told_by : ∀ (kV doc pm : Value) (an : Option Addr) (cdv ct : Value) (us : List Value), us.length = (["ours", "theirs"] : List Str).length → bindArgs (PySem.W.fnOf "told_by" "told_by" (defArgs s_told_by) (defBody s_told_by) (defScope s_told_by) .none kV doc pm an cdv ct) ⟨us, []⟩ = pure ((["ours", "theirs"] : List Str).zip us) := fun _ _ _ _ _ _ us hl => match us, hl with | [_, _], _ => rfl
theorem b_told_through : ∀ (kV doc pm : Value) (an : Option Addr) (cdv ct : Value) (us : List Value), us.length = (["ours", "theirs"] : List Str).length → bindArgs (PySem.W.fnOf "told_through" "told_through" (defArgs s_told_through) (defBody s_told_through) (defScope s_told_through) .none kV doc pm an cdv ct) ⟨us, []⟩ = pure ((["ours", "theirs"] : List Str).zip us) := fun _ _ _ _ _ _ us hl => match us, hl with | [_, _], _ => rfl
theorem b_marks_behind : ∀ (kV doc pm : Value) (an : Option Addr) (cdv ct : Value) (us : List Value), us.length = (["table", "marks", "place"] : List Str).length → bindArgs (PySem.W.fnOf "marks_behind" "marks_behind" (defArgs s_marks_behind) (defBody s_marks_behind) (defScope s_marks_behind) .none kV doc pm an cdv ct) ⟨us, []⟩ = pure ((["table", "marks", "place"] : List Str).zip us) := fun _ _ _ _ _ _ us hl => match us, hl with | [_, _, _], _ => rfl
theorem b_marks_by : ∀ (kV doc pm : Value) (an : Option Addr) (cdv ct : Value) (us : List Value), us.length = (["table", "order"] : List Str).length → bindArgs (PySem.W.fnOf "marks_by" "marks_by" (defArgs s_marks_by) (defBody s_marks_by) (defScope s_marks_by) .none kV doc pm an cdv ct) ⟨us, []⟩ = pure ((["table", "order"] : List Str).zip us) := fun _ _ _ _ _ _ us hl => match us, hl with | [_, _], _ => rfl
theorem b_how_many : ∀ (kV doc pm : Value) (an : Option Addr) (cdv ct : Value) (us : List Value), us.length = (["marks"] : List Str).length → bindArgs (PySem.W.fnOf "how_many" "how_many" (defArgs s_how_many) (defBody s_how_many) (defScope s_how_many) .none kV doc pm an cdv ct) ⟨us, []⟩ = pure ((["marks"] : List Str).zip us) := fun _ _ _ _ _ _ us hl => match us, hl with | [_], _ => rfl
theorem b_has_mark : ∀ (kV doc pm : Value) (an : Option Addr) (cdv ct : Value) (us : List Value), us.length = (["had", "place"] : List Str).length → bindArgs (PySem.W.fnOf "has_mark" "has_mark" (defArgs s_has_mark) (defBody s_has_mark) (defScope s_has_mark) .none kV doc pm an cdv ct) ⟨us, []⟩ = pure ((["had", "place"] : List Str).zip us) := fun _ _ _ _ _ _ us hl => match us, hl with | [_, _], _ => rfl
theorem b_without_mark : ∀ (kV doc pm : Value) (an : Option Addr) (cdv ct : Value) (us : List Value), us.length = (["marks", "place", "number"] : List Str).length → bindArgs (PySem.W.fnOf "without_mark" "without_mark" (defArgs s_without_mark) (defBody s_without_mark) (defScope s_without_mark) .none kV doc pm an cdv ct) ⟨us, []⟩ = pure ((["marks", "place", "number"] : List Str).zip us) := fun _ _ _ _ _ _ us hl => match us, hl with | [_, _, _], _ => rfl
theorem b_one_longer : ∀ (kV doc pm : Value) (an : Option Addr) (cdv ct : Value) (us : List Value), us.length = (["rows", "places"] : List Str).length → bindArgs (PySem.W.fnOf "one_longer" "one_longer" (defArgs s_one_longer) (defBody s_one_longer) (defScope s_one_longer) .none kV doc pm an cdv ct) ⟨us, []⟩ = pure ((["rows", "places"] : List Str).zip us) := fun _ _ _ _ _ _ us hl => match us, hl with | [_, _], _ => rfl
theorem b_all_orders : ∀ (kV doc pm : Value) (an : Option Addr) (cdv ct : Value) (us : List Value), us.length = (["places"] : List Str).length → bindArgs (PySem.W.fnOf "all_orders" "all_orders" (defArgs s_all_orders) (defBody s_all_orders) (defScope s_all_orders) .none kV doc pm an cdv ct) ⟨us, []⟩ = pure ((["places"] : List Str).zip us) := fun _ _ _ _ _ _ us hl => match us, hl with | [_], _ => rfl
theorem b_best_order : ∀ (kV doc pm : Value) (an : Option Addr) (cdv ct : Value) (us : List Value), us.length = (["table"] : List Str).length → bindArgs (PySem.W.fnOf "best_order" "best_order" (defArgs s_best_order) (defBody s_best_order) (defScope s_best_order) .none kV doc pm an cdv ct) ⟨us, []⟩ = pure ((["table"] : List Str).zip us) := fun _ _ _ _ _ _ us hl => match us, hl with | [_], _ => rfl
theorem b_marks_in : ∀ (kV doc pm : Value) (an : Option Addr) (cdv ct : Value) (us : List Value), us.length = (["row", "places"] : List Str).length → bindArgs (PySem.W.fnOf "marks_in" "marks_in" (defArgs s_marks_in) (defBody s_marks_in) (defScope s_marks_in) .none kV doc pm an cdv ct) ⟨us, []⟩ = pure ((["row", "places"] : List Str).zip us) := fun _ _ _ _ _ _ us hl => match us, hl with | [_, _], _ => rfl
theorem b_all_right : ∀ (kV doc pm : Value) (an : Option Addr) (cdv ct : Value) (us : List Value), us.length = (["table", "marks"] : List Str).length → bindArgs (PySem.W.fnOf "all_right" "all_right" (defArgs s_all_right) (defBody s_all_right) (defScope s_all_right) .none kV doc pm an cdv ct) ⟨us, []⟩ = pure ((["table", "marks"] : List Str).zip us) := fun _ _ _ _ _ _ us hl => match us, hl with | [_, _], _ => rfl
theorem b_right_pairs : ∀ (kV doc pm : Value) (an : Option Addr) (cdv ct : Value) (us : List Value), us.length = (["table", "marks"] : List Str).length → bindArgs (PySem.W.fnOf "right_pairs" "right_pairs" (defArgs s_right_pairs) (defBody s_right_pairs) (defScope s_right_pairs) .none kV doc pm an cdv ct) ⟨us, []⟩ = pure ((["table", "marks"] : List Str).zip us) := fun _ _ _ _ _ _ us hl => match us, hl with | [_, _], _ => rfl
theorem b_or_none : ∀ (kV doc pm : Value) (an : Option Addr) (cdv ct : Value) (us : List Value), us.length = (["number"] : List Str).length → bindArgs (PySem.W.fnOf "or_none" "or_none" (defArgs s_or_none) (defBody s_or_none) (defScope s_or_none) .none kV doc pm an cdv ct) ⟨us, []⟩ = pure ((["number"] : List Str).zip us) := fun _ _ _ _ _ _ us hl => match us, hl with | [_], _ => rfl
theorem b_Posts___init__ : ∀ (kV doc pm : Value) (an : Option Addr) (cdv ct : Value) (us : List Value), us.length = (["self"] : List Str).length → bindArgs (PySem.W.fnOf "__init__" "Posts.__init__" (defArgs s_Posts___init__) (defBody s_Posts___init__) (defScope s_Posts___init__) .none kV doc pm an cdv ct) ⟨us, []⟩ = pure ((["self"] : List Str).zip us) := fun _ _ _ _ _ _ us hl => match us, hl with | [_], _ => rfl
theorem b_Posts_begun : ∀ (kV doc pm : Value) (an : Option Addr) (cdv ct : Value) (us : List Value), us.length = (["self"] : List Str).length → bindArgs (PySem.W.fnOf "begun" "Posts.begun" (defArgs s_Posts_begun) (defBody s_Posts_begun) (defScope s_Posts_begun) .none kV doc pm an cdv ct) ⟨us, []⟩ = pure ((["self"] : List Str).zip us) := fun _ _ _ _ _ _ us hl => match us, hl with | [_], _ => rfl
theorem b_Posts_has_place : ∀ (kV doc pm : Value) (an : Option Addr) (cdv ct : Value) (us : List Value), us.length = (["self", "place"] : List Str).length → bindArgs (PySem.W.fnOf "has_place" "Posts.has_place" (defArgs s_Posts_has_place) (defBody s_Posts_has_place) (defScope s_Posts_has_place) .none kV doc pm an cdv ct) ⟨us, []⟩ = pure ((["self", "place"] : List Str).zip us) := fun _ _ _ _ _ _ us hl => match us, hl with | [_, _], _ => rfl
theorem b_Posts_has_both : ∀ (kV doc pm : Value) (an : Option Addr) (cdv ct : Value) (us : List Value), us.length = (["self", "u", "v"] : List Str).length → bindArgs (PySem.W.fnOf "has_both" "Posts.has_both" (defArgs s_Posts_has_both) (defBody s_Posts_has_both) (defScope s_Posts_has_both) .none kV doc pm an cdv ct) ⟨us, []⟩ = pure ((["self", "u", "v"] : List Str).zip us) := fun _ _ _ _ _ _ us hl => match us, hl with | [_, _, _], _ => rfl
theorem b_Posts_is_order : ∀ (kV doc pm : Value) (an : Option Addr) (cdv ct : Value) (us : List Value), us.length = (["self", "row"] : List Str).length → bindArgs (PySem.W.fnOf "is_order" "Posts.is_order" (defArgs s_Posts_is_order) (defBody s_Posts_is_order) (defScope s_Posts_is_order) .none kV doc pm an cdv ct) ⟨us, []⟩ = pure ((["self", "row"] : List Str).zip us) := fun _ _ _ _ _ _ us hl => match us, hl with | [_, _], _ => rfl
theorem b_Posts_table : ∀ (kV doc pm : Value) (an : Option Addr) (cdv ct : Value) (us : List Value), us.length = (["self"] : List Str).length → bindArgs (PySem.W.fnOf "table" "Posts.table" (defArgs s_Posts_table) (defBody s_Posts_table) (defScope s_Posts_table) .none kV doc pm an cdv ct) ⟨us, []⟩ = pure ((["self"] : List Str).zip us) := fun _ _ _ _ _ _ us hl => match us, hl with | [_], _ => rfl
theorem b_Posts_all_marks : ∀ (kV doc pm : Value) (an : Option Addr) (cdv ct : Value) (us : List Value), us.length = (["self"] : List Str).length → bindArgs (PySem.W.fnOf "all_marks" "Posts.all_marks" (defArgs s_Posts_all_marks) (defBody s_Posts_all_marks) (defScope s_Posts_all_marks) .none kV doc pm an cdv ct) ⟨us, []⟩ = pure ((["self"] : List Str).zip us) := fun _ _ _ _ _ _ us hl => match us, hl with | [_], _ => rfl
theorem b_Posts_tells_all : ∀ (kV doc pm : Value) (an : Option Addr) (cdv ct : Value) (us : List Value), us.length = (["self", "marks"] : List Str).length → bindArgs (PySem.W.fnOf "tells_all" "Posts.tells_all" (defArgs s_Posts_tells_all) (defBody s_Posts_tells_all) (defScope s_Posts_tells_all) .none kV doc pm an cdv ct) ⟨us, []⟩ = pure ((["self", "marks"] : List Str).zip us) := fun _ _ _ _ _ _ us hl => match us, hl with | [_, _], _ => rfl
theorem b_Posts_change : ∀ (kV doc pm : Value) (an : Option Addr) (cdv ct : Value) (us : List Value), us.length = (["self", "lines", "order"] : List Str).length → bindArgs (PySem.W.fnOf "change" "Posts.change" (defArgs s_Posts_change) (defBody s_Posts_change) (defScope s_Posts_change) .none kV doc pm an cdv ct) ⟨us, []⟩ = pure ((["self", "lines", "order"] : List Str).zip us) := fun _ _ _ _ _ _ us hl => match us, hl with | [_, _, _], _ => rfl
theorem b_Posts_begin : ∀ (kV doc pm : Value) (an : Option Addr) (cdv ct : Value) (us : List Value), us.length = (["self", "n"] : List Str).length → bindArgs (PySem.W.fnOf "begin" "Posts.begin" (defArgs s_Posts_begin) (defBody s_Posts_begin) (defScope s_Posts_begin) .none kV doc pm an cdv ct) ⟨us, []⟩ = pure ((["self", "n"] : List Str).zip us) := fun _ _ _ _ _ _ us hl => match us, hl with | [_, _], _ => rfl
theorem b_Posts_back : ∀ (kV doc pm : Value) (an : Option Addr) (cdv ct : Value) (us : List Value), us.length = (["self"] : List Str).length → bindArgs (PySem.W.fnOf "back" "Posts.back" (defArgs s_Posts_back) (defBody s_Posts_back) (defScope s_Posts_back) .none kV doc pm an cdv ct) ⟨us, []⟩ = pure ((["self"] : List Str).zip us) := fun _ _ _ _ _ _ us hl => match us, hl with | [_], _ => rfl
theorem b_Posts_state : ∀ (kV doc pm : Value) (an : Option Addr) (cdv ct : Value) (us : List Value), us.length = (["self"] : List Str).length → bindArgs (PySem.W.fnOf "state" "Posts.state" (defArgs s_Posts_state) (defBody s_Posts_state) (defScope s_Posts_state) .none kV doc pm an cdv ct) ⟨us, []⟩ = pure ((["self"] : List Str).zip us) := fun _ _ _ _ _ _ us hl => match us, hl with | [_], _ => rfl
theorem b_Posts_line : ∀ (kV doc pm : Value) (an : Option Addr) (cdv ct : Value) (us : List Value), us.length = (["self", "a", "b", "w"] : List Str).length → bindArgs (PySem.W.fnOf "line" "Posts.line" (defArgs s_Posts_line) (defBody s_Posts_line) (defScope s_Posts_line) .none kV doc pm an cdv ct) ⟨us, []⟩ = pure ((["self", "a", "b", "w"] : List Str).zip us) := fun _ _ _ _ _ _ us hl => match us, hl with | [_, _, _, _], _ => rfl
theorem b_Posts_cut : ∀ (kV doc pm : Value) (an : Option Addr) (cdv ct : Value) (us : List Value), us.length = (["self", "i"] : List Str).length → bindArgs (PySem.W.fnOf "cut" "Posts.cut" (defArgs s_Posts_cut) (defBody s_Posts_cut) (defScope s_Posts_cut) .none kV doc pm an cdv ct) ⟨us, []⟩ = pure ((["self", "i"] : List Str).zip us) := fun _ _ _ _ _ _ us hl => match us, hl with | [_, _], _ => rfl
theorem b_Posts_take_order : ∀ (kV doc pm : Value) (an : Option Addr) (cdv ct : Value) (us : List Value), us.length = (["self", "row"] : List Str).length → bindArgs (PySem.W.fnOf "take_order" "Posts.take_order" (defArgs s_Posts_take_order) (defBody s_Posts_take_order) (defScope s_Posts_take_order) .none kV doc pm an cdv ct) ⟨us, []⟩ = pure ((["self", "row"] : List Str).zip us) := fun _ _ _ _ _ _ us hl => match us, hl with | [_, _], _ => rfl
theorem b_Posts_put_first : ∀ (kV doc pm : Value) (an : Option Addr) (cdv ct : Value) (us : List Value), us.length = (["self", "v"] : List Str).length → bindArgs (PySem.W.fnOf "put_first" "Posts.put_first" (defArgs s_Posts_put_first) (defBody s_Posts_put_first) (defScope s_Posts_put_first) .none kV doc pm an cdv ct) ⟨us, []⟩ = pure ((["self", "v"] : List Str).zip us) := fun _ _ _ _ _ _ us hl => match us, hl with | [_, _], _ => rfl
theorem b_Posts_take_best : ∀ (kV doc pm : Value) (an : Option Addr) (cdv ct : Value) (us : List Value), us.length = (["self"] : List Str).length → bindArgs (PySem.W.fnOf "take_best" "Posts.take_best" (defArgs s_Posts_take_best) (defBody s_Posts_take_best) (defScope s_Posts_take_best) .none kV doc pm an cdv ct) ⟨us, []⟩ = pure ((["self"] : List Str).zip us) := fun _ _ _ _ _ _ us hl => match us, hl with | [_], _ => rfl
theorem b_Posts_show_lines : ∀ (kV doc pm : Value) (an : Option Addr) (cdv ct : Value) (us : List Value), us.length = (["self"] : List Str).length → bindArgs (PySem.W.fnOf "show_lines" "Posts.show_lines" (defArgs s_Posts_show_lines) (defBody s_Posts_show_lines) (defScope s_Posts_show_lines) .none kV doc pm an cdv ct) ⟨us, []⟩ = pure ((["self"] : List Str).zip us) := fun _ _ _ _ _ _ us hl => match us, hl with | [_], _ => rfl
theorem b_Posts_show_order : ∀ (kV doc pm : Value) (an : Option Addr) (cdv ct : Value) (us : List Value), us.length = (["self"] : List Str).length → bindArgs (PySem.W.fnOf "show_order" "Posts.show_order" (defArgs s_Posts_show_order) (defBody s_Posts_show_order) (defScope s_Posts_show_order) .none kV doc pm an cdv ct) ⟨us, []⟩ = pure ((["self"] : List Str).zip us) := fun _ _ _ _ _ _ us hl => match us, hl with | [_], _ => rfl
theorem b_Posts_show_marks : ∀ (kV doc pm : Value) (an : Option Addr) (cdv ct : Value) (us : List Value), us.length = (["self", "v"] : List Str).length → bindArgs (PySem.W.fnOf "show_marks" "Posts.show_marks" (defArgs s_Posts_show_marks) (defBody s_Posts_show_marks) (defScope s_Posts_show_marks) .none kV doc pm an cdv ct) ⟨us, []⟩ = pure ((["self", "v"] : List Str).zip us) := fun _ _ _ _ _ _ us hl => match us, hl with | [_, _], _ => rfl
theorem b_Posts_size : ∀ (kV doc pm : Value) (an : Option Addr) (cdv ct : Value) (us : List Value), us.length = (["self"] : List Str).length → bindArgs (PySem.W.fnOf "size" "Posts.size" (defArgs s_Posts_size) (defBody s_Posts_size) (defScope s_Posts_size) .none kV doc pm an cdv ct) ⟨us, []⟩ = pure ((["self"] : List Str).zip us) := fun _ _ _ _ _ _ us hl => match us, hl with | [_], _ => rfl
theorem b_Posts_told : ∀ (kV doc pm : Value) (an : Option Addr) (cdv ct : Value) (us : List Value), us.length = (["self", "u", "v"] : List Str).length → bindArgs (PySem.W.fnOf "told" "Posts.told" (defArgs s_Posts_told) (defBody s_Posts_told) (defScope s_Posts_told) .none kV doc pm an cdv ct) ⟨us, []⟩ = pure ((["self", "u", "v"] : List Str).zip us) := fun _ _ _ _ _ _ us hl => match us, hl with | [_, _, _], _ => rfl
theorem b_Posts_dist : ∀ (kV doc pm : Value) (an : Option Addr) (cdv ct : Value) (us : List Value), us.length = (["self", "u", "v"] : List Str).length → bindArgs (PySem.W.fnOf "dist" "Posts.dist" (defArgs s_Posts_dist) (defBody s_Posts_dist) (defScope s_Posts_dist) .none kV doc pm an cdv ct) ⟨us, []⟩ = pure ((["self", "u", "v"] : List Str).zip us) := fun _ _ _ _ _ _ us hl => match us, hl with | [_, _, _], _ => rfl
theorem b_Posts_by : ∀ (kV doc pm : Value) (an : Option Addr) (cdv ct : Value) (us : List Value), us.length = (["self", "u", "v"] : List Str).length → bindArgs (PySem.W.fnOf "by" "Posts.by" (defArgs s_Posts_by) (defBody s_Posts_by) (defScope s_Posts_by) .none kV doc pm an cdv ct) ⟨us, []⟩ = pure ((["self", "u", "v"] : List Str).zip us) := fun _ _ _ _ _ _ us hl => match us, hl with | [_, _, _], _ => rfl
theorem b_Posts_who : ∀ (kV doc pm : Value) (an : Option Addr) (cdv ct : Value) (us : List Value), us.length = (["self", "h"] : List Str).length → bindArgs (PySem.W.fnOf "who" "Posts.who" (defArgs s_Posts_who) (defBody s_Posts_who) (defScope s_Posts_who) .none kV doc pm an cdv ct) ⟨us, []⟩ = pure ((["self", "h"] : List Str).zip us) := fun _ _ _ _ _ _ us hl => match us, hl with | [_, _], _ => rfl
theorem b_Posts_without : ∀ (kV doc pm : Value) (an : Option Addr) (cdv ct : Value) (us : List Value), us.length = (["self", "v", "i"] : List Str).length → bindArgs (PySem.W.fnOf "without" "Posts.without" (defArgs s_Posts_without) (defBody s_Posts_without) (defScope s_Posts_without) .none kV doc pm an cdv ct) ⟨us, []⟩ = pure ((["self", "v", "i"] : List Str).zip us) := fun _ _ _ _ _ _ us hl => match us, hl with | [_, _, _], _ => rfl
theorem b_Posts_after : ∀ (kV doc pm : Value) (an : Option Addr) (cdv ct : Value) (us : List Value), us.length = (["self", "k"] : List Str).length → bindArgs (PySem.W.fnOf "after" "Posts.after" (defArgs s_Posts_after) (defBody s_Posts_after) (defScope s_Posts_after) .none kV doc pm an cdv ct) ⟨us, []⟩ = pure ((["self", "k"] : List Str).zip us) := fun _ _ _ _ _ _ us hl => match us, hl with | [_, _], _ => rfl
theorem b_Posts_would : ∀ (kV doc pm : Value) (an : Option Addr) (cdv ct : Value) (us : List Value), us.length = (["self", "row"] : List Str).length → bindArgs (PySem.W.fnOf "would" "Posts.would" (defArgs s_Posts_would) (defBody s_Posts_would) (defScope s_Posts_would) .none kV doc pm an cdv ct) ⟨us, []⟩ = pure ((["self", "row"] : List Str).zip us) := fun _ _ _ _ _ _ us hl => match us, hl with | [_, _], _ => rfl
theorem b_Posts_fewest : ∀ (kV doc pm : Value) (an : Option Addr) (cdv ct : Value) (us : List Value), us.length = (["self"] : List Str).length → bindArgs (PySem.W.fnOf "fewest" "Posts.fewest" (defArgs s_Posts_fewest) (defBody s_Posts_fewest) (defScope s_Posts_fewest) .none kV doc pm an cdv ct) ⟨us, []⟩ = pure ((["self"] : List Str).zip us) := fun _ _ _ _ _ _ us hl => match us, hl with | [_], _ => rfl
theorem b_Posts_right : ∀ (kV doc pm : Value) (an : Option Addr) (cdv ct : Value) (us : List Value), us.length = (["self", "row"] : List Str).length → bindArgs (PySem.W.fnOf "right" "Posts.right" (defArgs s_Posts_right) (defBody s_Posts_right) (defScope s_Posts_right) .none kV doc pm an cdv ct) ⟨us, []⟩ = pure ((["self", "row"] : List Str).zip us) := fun _ _ _ _ _ _ us hl => match us, hl with | [_, _], _ => rfl
theorem b_given_start : ∀ (kV doc pm : Value) (an : Option Addr) (cdv ct : Value) (us : List Value), us.length = (["calls", "at"] : List Str).length → bindArgs (PySem.W.fnOf "given_start" "given_start" (defArgs s_given_start) (defBody s_given_start) (defScope s_given_start) .none kV doc pm an cdv ct) ⟨us, []⟩ = pure ((["calls", "at"] : List Str).zip us) := fun _ _ _ _ _ _ us hl => match us, hl with | [_, _], _ => rfl
theorem b_given_end : ∀ (kV doc pm : Value) (an : Option Addr) (cdv ct : Value) (us : List Value), us.length = (["calls", "at"] : List Str).length → bindArgs (PySem.W.fnOf "given_end" "given_end" (defArgs s_given_end) (defBody s_given_end) (defScope s_given_end) .none kV doc pm an cdv ct) ⟨us, []⟩ = pure ((["calls", "at"] : List Str).zip us) := fun _ _ _ _ _ _ us hl => match us, hl with | [_, _], _ => rfl
theorem b_change : ∀ (kV doc pm : Value) (an : Option Addr) (cdv ct : Value) (us : List Value), us.length = (["posts", "number", "given"] : List Str).length → bindArgs (PySem.W.fnOf "change" "change" (defArgs s_change) (defBody s_change) (defScope s_change) .none kV doc pm an cdv ct) ⟨us, []⟩ = pure ((["posts", "number", "given"] : List Str).zip us) := fun _ _ _ _ _ _ us hl => match us, hl with | [_, _, _], _ => rfl
theorem b_look : ∀ (kV doc pm : Value) (an : Option Addr) (cdv ct : Value) (us : List Value), us.length = (["posts", "number", "given"] : List Str).length → bindArgs (PySem.W.fnOf "look" "look" (defArgs s_look) (defBody s_look) (defScope s_look) .none kV doc pm an cdv ct) ⟨us, []⟩ = pure ((["posts", "number", "given"] : List Str).zip us) := fun _ _ _ _ _ _ us hl => match us, hl with | [_, _, _], _ => rfl
theorem b_weigh : ∀ (kV doc pm : Value) (an : Option Addr) (cdv ct : Value) (us : List Value), us.length = (["posts", "number", "given"] : List Str).length → bindArgs (PySem.W.fnOf "weigh" "weigh" (defArgs s_weigh) (defBody s_weigh) (defScope s_weigh) .none kV doc pm an cdv ct) ⟨us, []⟩ = pure ((["posts", "number", "given"] : List Str).zip us) := fun _ _ _ _ _ _ us hl => match us, hl with | [_, _, _], _ => rfl
theorem b_answer : ∀ (kV doc pm : Value) (an : Option Addr) (cdv ct : Value) (us : List Value), us.length = (["posts", "number", "given"] : List Str).length → bindArgs (PySem.W.fnOf "answer" "answer" (defArgs s_answer) (defBody s_answer) (defScope s_answer) .none kV doc pm an cdv ct) ⟨us, []⟩ = pure ((["posts", "number", "given"] : List Str).zip us) := fun _ _ _ _ _ _ us hl => match us, hl with | [_, _, _], _ => rfl
theorem b_answers : ∀ (kV doc pm : Value) (an : Option Addr) (cdv ct : Value) (us : List Value), us.length = (["calls"] : List Str).length → bindArgs (PySem.W.fnOf "answers" "answers" (defArgs s_answers) (defBody s_answers) (defScope s_answers) .none kV doc pm an cdv ct) ⟨us, []⟩ = pure ((["calls"] : List Str).zip us) := fun _ _ _ _ _ _ us hl => match us, hl with | [_], _ => rfl
structure Found (K : PySem.W.Frag) (mg : Str → Option Value) (C : Addr) : Prop where
  T : Txt K mg C
  cls : mg "Posts" = some (.ref C)
  mks : PySem.W.makesIn K C = true
  kc : PySem.W.keepIn K (.ref C) = true
  lines_but : FD K mg "lines_but" s_lines_but ["lines", "a", "b"]
  with_line : FD K mg "with_line" s_with_line ["lines", "a", "b", "w"]
  shorter : FD K mg "shorter" s_shorter ["known", "one", "other"]
  line_table : FD K mg "line_table" s_line_table ["places", "lines"]
  through : FD K mg "through" s_through ["table", "middle"]
  distance_table : FD K mg "distance_table" s_distance_table ["places", "lines"]
  told_by : FD K mg "told_by" s_told_by ["ours", "theirs"]
  told_through : FD K mg "told_through" s_told_through ["ours", "theirs"]
  marks_behind : FD K mg "marks_behind" s_marks_behind ["table", "marks", "place"]
  marks_by : FD K mg "marks_by" s_marks_by ["table", "order"]
  how_many : FD K mg "how_many" s_how_many ["marks"]
  has_mark : FD K mg "has_mark" s_has_mark ["had", "place"]
  without_mark : FD K mg "without_mark" s_without_mark ["marks", "place", "number"]
  one_longer : FD K mg "one_longer" s_one_longer ["rows", "places"]
  all_orders : FD K mg "all_orders" s_all_orders ["places"]
  best_order : FD K mg "best_order" s_best_order ["table"]
  marks_in : FD K mg "marks_in" s_marks_in ["row", "places"]
  all_right : FD K mg "all_right" s_all_right ["table", "marks"]
  right_pairs : FD K mg "right_pairs" s_right_pairs ["table", "marks"]
  or_none : FD K mg "or_none" s_or_none ["number"]
  Posts___init__ : FM K C "__init__" "Posts.__init__" s_Posts___init__ ["self"]
  Posts_begun : FM K C "begun" "Posts.begun" s_Posts_begun ["self"]
  Posts_has_place : FM K C "has_place" "Posts.has_place" s_Posts_has_place ["self", "place"]
  Posts_has_both : FM K C "has_both" "Posts.has_both" s_Posts_has_both ["self", "u", "v"]
  Posts_is_order : FM K C "is_order" "Posts.is_order" s_Posts_is_order ["self", "row"]
  Posts_table : FM K C "table" "Posts.table" s_Posts_table ["self"]
  Posts_all_marks : FM K C "all_marks" "Posts.all_marks" s_Posts_all_marks ["self"]
  Posts_tells_all : FM K C "tells_all" "Posts.tells_all" s_Posts_tells_all ["self", "marks"]
  Posts_change : FM K C "change" "Posts.change" s_Posts_change ["self", "lines", "order"]
  Posts_begin : FM K C "begin" "Posts.begin" s_Posts_begin ["self", "n"]
  Posts_back : FM K C "back" "Posts.back" s_Posts_back ["self"]
  Posts_state : FM K C "state" "Posts.state" s_Posts_state ["self"]
  Posts_line : FM K C "line" "Posts.line" s_Posts_line ["self", "a", "b", "w"]
  Posts_cut : FM K C "cut" "Posts.cut" s_Posts_cut ["self", "i"]
  Posts_take_order : FM K C "take_order" "Posts.take_order" s_Posts_take_order ["self", "row"]
  Posts_put_first : FM K C "put_first" "Posts.put_first" s_Posts_put_first ["self", "v"]
  Posts_take_best : FM K C "take_best" "Posts.take_best" s_Posts_take_best ["self"]
  Posts_show_lines : FM K C "show_lines" "Posts.show_lines" s_Posts_show_lines ["self"]
  Posts_show_order : FM K C "show_order" "Posts.show_order" s_Posts_show_order ["self"]
  Posts_show_marks : FM K C "show_marks" "Posts.show_marks" s_Posts_show_marks ["self", "v"]
  Posts_size : FM K C "size" "Posts.size" s_Posts_size ["self"]
  Posts_told : FM K C "told" "Posts.told" s_Posts_told ["self", "u", "v"]
  Posts_dist : FM K C "dist" "Posts.dist" s_Posts_dist ["self", "u", "v"]
  Posts_by : FM K C "by" "Posts.by" s_Posts_by ["self", "u", "v"]
  Posts_who : FM K C "who" "Posts.who" s_Posts_who ["self", "h"]
  Posts_without : FM K C "without" "Posts.without" s_Posts_without ["self", "v", "i"]
  Posts_after : FM K C "after" "Posts.after" s_Posts_after ["self", "k"]
  Posts_would : FM K C "would" "Posts.would" s_Posts_would ["self", "row"]
  Posts_fewest : FM K C "fewest" "Posts.fewest" s_Posts_fewest ["self"]
  Posts_right : FM K C "right" "Posts.right" s_Posts_right ["self", "row"]
  given_start : FD K mg "given_start" s_given_start ["calls", "at"]
  given_end : FD K mg "given_end" s_given_end ["calls", "at"]
  change : FD K mg "change" s_change ["posts", "number", "given"]
  look : FD K mg "look" s_look ["posts", "number", "given"]
  weigh : FD K mg "weigh" s_weigh ["posts", "number", "given"]
  answer : FD K mg "answer" s_answer ["posts", "number", "given"]
  answers : FD K mg "answers" s_answers ["calls"]
theorem exF {K : PySem.W.Frag} {h : Heap} {mg : Str → Option Value} {R : Prop} (KX : K.In h) (f : ∀ C, Found K mg C → R) (x : ∃ C, Found K mg C) : R := x.elim f
end Wp
set_option Elab.async false
set_option linter.all false
set_option maxRecDepth 100000
set_option maxHeartbeats 4000000
namespace Wp
open PySem L2
/-! ### the data -/
def onI : Option Nat → Int
  | none => -1
  | some d => (d : Int)
theorem onI_none {o : Option Nat} : onI o = -1 ↔ o = none := by
  cases o with
  | none => exact ⟨fun _ => rfl, fun _ => rfl⟩
  | some d => exact ⟨fun h => by have h' : (d : Int) = -1 := h; omega, fun h => by cases h⟩
theorem onI_inj {a b : Option Nat} : onI a = onI b ↔ a = b := by
  cases a with
  | none =>
    cases b with
    | none => exact ⟨fun _ => rfl, fun _ => rfl⟩
    | some d => exact ⟨fun h => by have h' : -1 = (d : Int) := h; omega, fun h => by cases h⟩
  | some c =>
    cases b with
    | none => exact ⟨fun h => by have h' : (c : Int) = -1 := h; omega, fun h => by cases h⟩
    | some d => exact ⟨fun h => by have h' : (c : Int) = (d : Int) := h; congr 1; omega, fun h => by cases h; rfl⟩
abbrev pNat (n : Nat) : Pr := pInt (n : Int)
def pON (o : Option Nat) : Pr := pInt (onI o)
def pMark (m : Nat × Nat) : Pr := pTup [pInt (m.1 : Int), pInt (m.2 : Int)]
def pMarks (l : List (Nat × Nat)) : Pr := pList (l.map pMark)
def pAll (s : List (List (Nat × Nat))) : Pr := pList (s.map pMarks)
def pRow (r : List (Option Nat)) : Pr := pList (r.map pON)
def pTab (t : List (List (Option Nat))) : Pr := pList (t.map pRow)
def inl (l : List Nat) : List Int := l.map fun n : Nat => (n : Int)
def pNats (l : List Nat) : Pr := pList ((inl l).map pInt)
theorem inl_map (l : List Nat) : (inl l).map pInt = l.map pNat := by unfold inl; rw [List.map_map]; rfl
def pLine (l : Kv402.Line) : Pr := pTup [pInt (l.w : Int), pInt (l.a : Int), pInt (l.b : Int)]
def pLines (l : List Kv402.Line) : Pr := pList (l.map pLine)
theorem wi_is {wi : TI} {Γ : List Sl} {Ps Qs : List Pr} (h : WI wi Γ Ps) (e : Ps = Qs) : WI wi Γ Qs := e ▸ h
theorem zip_pr {α β : Type} (f : α → Pr) (g : β → Pr) : ∀ (xs : List α) (ys : List β), List.zipWith (fun P Q => pTup [P, Q]) (xs.map f) (ys.map g) = (List.zip xs ys).map fun z => pTup [f z.1, g z.2]
  | [], _ => rfl
  | _ :: _, [] => rfl
  | x :: xs, y :: ys => congrArg (pTup [f x, g y] :: ·) (zip_pr f g xs ys)
theorem filter_all {α : Type} (xs : List α) : xs.filter (fun _ => true) = xs := List.filter_eq_self.mpr fun _ _ => rfl
theorem de_map {Γ : List Sl} {vs : List Nat} {te : TE} {α : Type} {xs : List α} {pf rf : α → Pr} {wi : TI} {g : TG} (Γb : α → List Sl) (hw : WI wi Γ (xs.map pf)) (hv : anys Γ vs = true) (hg : ∀ x, GC g vs Γ (pf x) (Γb x))
    (he : ∀ x ∈ xs, DE te (Γb x) (rf x)) (hl : xs.length ≤ 100000) : DE (tLc wi g tYes te vs) Γ (pList (xs.map rf)) := by
  have h := de_lc (b := fun _ => true) (rf := rf) Γb hw hv hg (fun x _ => et_yes) (fun x m _ => he x m) hl
  rw [filter_all] at h
  exact h
/-- a for that folds, what went before known -/
theorem se_foldx {S α : Type} {wi : TI} {g : TG} {tb : TS} {xs : List α} {pf : α → Pr} (Δ : S → List Sl) (Δb : S → α → List Sl) (step : S → α → S) (s0 : S) (hw : WI wi (Δ s0) (xs.map pf))
    (hg : ∀ s x, GB g (Δ s) (pf x) (Δb s x)) (hb : ∀ (pre : List α) (x : α) (post : List α), xs = pre ++ x :: post → SE tb (Δb (pre.foldl step s0) x) (.nx (Δ (step (pre.foldl step s0) x)))) : SE (tFor wi g tb) (Δ s0) (.nx (Δ (xs.foldl step s0))) := by
  have hx : ∀ {i : Nat} {P : Pr}, (xs.map pf)[i]? = some P → ∃ h : i < xs.length, P = pf xs[i] := fun {i P} e => by
    rw [List.getElem?_map] at e
    cases c : xs[i]? with
    | none => rw [c] at e; cases e
    | some x =>
      rw [c] at e
      obtain ⟨h, rfl⟩ := List.getElem?_eq_some_iff.mp c
      exact ⟨h, (Option.some.inj e).symm⟩
  refine se_forG (Ps := xs.map pf) xs.length hw (fun i => Δ ((xs.take i).foldl step s0)) (fun i => match xs[i]? with | some x => Δb ((xs.take i).foldl step s0) x | none => []) rfl (fun i P e _ => ?_) (fun i P e hi => ?_) (.inl ⟨by rw [List.length_map], by rw [List.take_length]⟩)
  · obtain ⟨h, rfl⟩ := hx e
    show GB g _ _ (match xs[i]? with | some x => Δb ((xs.take i).foldl step s0) x | none => [])
    rw [List.getElem?_eq_getElem h]
    exact hg _ _
  · obtain ⟨h, rfl⟩ := hx e
    have := hb (xs.take i) xs[i] (xs.drop (i + 1)) (by rw [List.getElem_cons_drop, List.take_append_drop])
    show SE tb (match xs[i]? with | some x => Δb ((xs.take i).foldl step s0) x | none => []) (.nx (Δ ((xs.take (i + 1)).foldl step s0)))
    rw [List.getElem?_eq_getElem h, List.take_add_one, List.getElem?_eq_getElem h, List.foldl_append]
    exact this
theorem foldl_push {α β : Type} (f : α → β) : ∀ (l : List α) (acc : List β), l.foldl (fun s r => s ++ [f r]) acc = acc ++ l.map f
  | [], acc => (List.append_nil acc).symm
  | x :: r, acc => by rw [List.foldl_cons, foldl_push f r, List.map_cons, List.append_assoc]; rfl
/-- a for that lays one thing a turn into a list -/
theorem se_push {α : Type} {wi : TI} {g : TG} {tb : TS} {xs : List α} {pf rf : α → Pr} (Δ : List Pr → List Sl) (Δb : List Pr → α → List Sl) (hw : WI wi (Δ []) (xs.map pf))
    (hg : ∀ s x, GB g (Δ s) (pf x) (Δb s x)) (hb : ∀ (pre : List α) (x : α) (post : List α), xs = pre ++ x :: post → SE tb (Δb (pre.map rf) x) (.nx (Δ (pre.map rf ++ [rf x])))) : SE (tFor wi g tb) (Δ []) (.nx (Δ (xs.map rf))) := by
  have h := se_foldx (tb := tb) Δ Δb (fun s r => s ++ [rf r]) [] hw hg (fun pre x post e => by rw [foldl_push]; exact hb pre x post e)
  rw [foldl_push] at h
  exact h
section
variable {P : Program} {w : World} {K : PySem.W.Frag} {mg : Str → Option Value} {base : Heap} {C : Addr}
/-! ### told_by -/
def sp_told_by : Sp := PSp (fun x : List (Nat × Nat) × List (Nat × Nat) => [pMarks x.1, pMarks x.2]) (fun _ => True) (fun x => pON (Kv403.told x.1 x.2))
theorem less_some (s : Option Nat) (z : Nat) : Kv402.less s (some z) = if (decide (onI s = -1) || decide ((z : Int) < onI s)) = true then some z else s := by
  cases s with
  | none => rfl
  | some d =>
    show some (min d z) = if (decide ((d : Int) = -1) || decide ((z : Int) < (d : Int))) = true then some z else some d
    rw [decide_eq_false (show ¬ (d : Int) = -1 by omega), Bool.false_or]
    by_cases h : (z : Int) < (d : Int)
    · rw [decide_eq_true h, if_pos rfl, Nat.min_eq_right (by omega)]
    · rw [decide_eq_false h, if_neg Bool.false_ne_true, Nat.min_eq_left (by omega)]
theorem ok_told_by {f : Addr} {fd : FuncData} (F : Fun K "told_by" "told_by" s_told_by f fd) (T : Txt K mg C) : FnOk P w K mg base CX0 1 f fd ["ours", "theirs"] sp_told_by := by
  refine F.ok sc_told_by (psp_len fun _ => rfl) (fun cdv A outer s H vs Q E hr h => ?_)
  refine ⟨_, (pss_cons (ps_set (i := 2) sc_told_by.nd rfl (Or.inl rfl) (pe_gi T.NOTHING rfl)) (pss_cons (ps_for PassesOwn.never rfl (pi_list (pv 0)) (pg_tup rfl (pgs_cons (pg_name (i := 3) sc_told_by.nd rfl (Or.inl rfl)) (pgs_cons (pg_name (i := 4) sc_told_by.nd rfl (Or.inl rfl)) pgs_nil))) (pss_one (ps_for PassesOwn.never rfl (pi_list (pv 1)) (pg_tup rfl (pgs_cons (pg_name (i := 5) sc_told_by.nd rfl (Or.inl rfl)) (pgs_cons (pg_name (i := 6) sc_told_by.nd rfl (Or.inl rfl)) pgs_nil))) (pss_one (ps_if (PW.pt (pw_and (pt_cmpR op_eq (pv 3) (pv 5) (nomark _)) (pw_and1 (PW.pt (pw_or (pt_cmpR op_eq (pv 2) (pe_gi T.NOTHING rfl) (nomark _)) (pw_or1 (pt_cmpR op_lt (pe_op op_add (pv 4) (pv 6)) (pv 2) (nomark _)))))))) (pss_one (ps_set (i := 2) sc_told_by.nd rfl (Or.inl rfl) (pe_op op_add (pv 4) (pv 6)))) pss_nil))))) (pss_one (ps_ret (pv 2))))), ?_⟩
  refine body_pure h (fun x => [.val (pMarks x.1), .val (pMarks x.2), .any, .any, .any, .any, .any]) (fun _ => rfl) fun x _ => ?_
  obtain ⟨l, m⟩ := x
  refine se_seq (se_asg de_int) (se_seq (se_fold (pf := pMark) (fun s => [.val (pMarks l), .val (pMarks m), .val (pON s), .any, .any, .any, .any]) (fun s a => [.val (pMarks l), .val (pMarks m), .val (pON s), .val (pInt (a.1 : Int)), .val (pInt (a.2 : Int)), .any, .any])
      (fun s a => m.foldl (fun s y => if a.1 = y.1 then Kv402.less s (some (a.2 + y.2)) else s) s) none (wi_list (de_var rfl)) (fun _ => True) trivial (fun s a => gb_two) (fun s a _ _ => ⟨trivial, ?_⟩)) (se_ret (de_var rfl)))
  refine se_weak (se_fold (pf := pMark) (fun s => [.val (pMarks l), .val (pMarks m), .val (pON s), .val (pInt (a.1 : Int)), .val (pInt (a.2 : Int)), .any, .any]) (fun s b => [.val (pMarks l), .val (pMarks m), .val (pON s), .val (pInt (a.1 : Int)), .val (pInt (a.2 : Int)), .val (pInt (b.1 : Int)), .val (pInt (b.2 : Int))])
      (fun s y => if a.1 = y.1 then Kv402.less s (some (a.2 + y.2)) else s) s (wi_list (de_var rfl)) (fun _ => True) trivial (fun s b => gb_two) (fun s b _ _ => ⟨trivial, ?_⟩))
  refine se_if (b := decide (a.1 = b.1) && (decide (onI s = -1) || decide (((a.2 + b.2 : Nat) : Int) < onI s))) ?_ (fun e => ?_) (fun e => ?_)
  · refine et_is (et_and (et_test (de_eq (de_var rfl) (de_var rfl))) fun _ => et_or (et_test (de_eq (de_var rfl) de_int)) fun _ => et_test (de_lt (de_add (de_var rfl) (de_var rfl)) (de_var rfl))) ?_
    rw [Int.natCast_add]
    congr 1
    exact decide_eq_decide.mpr (by omega)
  · rw [Bool.and_eq_true, decide_eq_true_eq] at e
    refine se_weak (se_asg (de_add (de_var rfl) (de_var rfl))) ?_
    show Wk [.val (pMarks l), .val (pMarks m), .val (pInt ((a.2 : Int) + (b.2 : Int))), .val (pInt (a.1 : Int)), .val (pInt (a.2 : Int)), .val (pInt (b.1 : Int)), .val (pInt (b.2 : Int))] _
    rw [if_pos e.1, less_some, if_pos e.2, show pON (some (a.2 + b.2)) = pInt ((a.2 : Int) + (b.2 : Int)) from congrArg pInt (Int.natCast_add _ _)]
    exact .keep (.keep (.keep (.keep (.keep (.drop (.drop .nil))))))
  · refine se_weak se_next ?_
    have e2 : (if a.1 = b.1 then Kv402.less s (some (a.2 + b.2)) else s) = s := by
      by_cases c : a.1 = b.1
      · rw [decide_eq_true c, Bool.true_and] at e
        rw [if_pos c, less_some, if_neg (by rw [e]; exact Bool.false_ne_true)]
      · rw [if_neg c]
    rw [e2]
    exact .keep (.keep (.keep (.keep (.keep (.drop (.drop .nil))))))
/-! ### shorter -/
def sp_shorter : Sp := PSp (fun x : Option Nat × Option Nat × Option Nat => [pON x.1, pON x.2.1, pON x.2.2]) (fun _ => True) (fun x => pON (Kv402.less x.1 (Kv402.plus x.2.1 x.2.2)))
theorem ok_shorter {f : Addr} {fd : FuncData} (F : Fun K "shorter" "shorter" s_shorter f fd) (T : Txt K mg C) : FnOk P w K mg base CX0 1 f fd ["known", "one", "other"] sp_shorter := by
  refine F.ok sc_shorter (psp_len fun _ => rfl) (fun cdv A outer s H vs Q E hr h => ?_)
  refine ⟨_, (pss_cons (ps_if (PW.pt (pw_or (pt_cmpR op_eq (pv 1) (pe_gi T.NOTHING rfl) (nomark _)) (pw_or1 (pt_cmpR op_eq (pv 2) (pe_gi T.NOTHING rfl) (nomark _))))) (pss_one (ps_ret (pv 0))) pss_nil) (pss_cons (ps_if (PW.pt (pw_or (pt_cmpR op_eq (pv 0) (pe_gi T.NOTHING rfl) (nomark _)) (pw_or1 (pt_cmpR op_lt (pe_op op_add (pv 1) (pv 2)) (pv 0) (nomark _))))) (pss_one (ps_ret (pe_op op_add (pv 1) (pv 2)))) pss_nil) (pss_one (ps_ret (pv 0))))), ?_⟩
  refine body_pure h (fun x => [.val (pON x.1), .val (pON x.2.1), .val (pON x.2.2)]) (fun _ => rfl) fun x _ => ?_
  obtain ⟨k, a, b⟩ := x
  refine se_ifR (et_or (et_test (de_eq (de_var rfl) de_int)) fun _ => et_test (de_eq (de_var rfl) de_int)) (fun e => se_ret (de_is (de_var rfl) ?_)) (fun e => ?_) (fun _ => ⟨_, _, rfl⟩)
  · congr 1
    rw [Bool.or_eq_true, decide_eq_true_eq, decide_eq_true_eq, onI_none, onI_none] at e
    rcases e with e | e
    · rw [e]; cases k <;> rfl
    · rw [e]; cases a <;> cases k <;> rfl
  · rw [Bool.or_eq_false_iff, decide_eq_false_iff_not, decide_eq_false_iff_not, onI_none, onI_none] at e
    obtain ⟨x, rfl⟩ := Option.ne_none_iff_exists'.mp e.1
    obtain ⟨y, rfl⟩ := Option.ne_none_iff_exists'.mp e.2
    have es : Kv402.less k (Kv402.plus (some x) (some y)) = if (decide (onI k = -1) || decide (((x + y : Nat) : Int) < onI k)) = true then some (x + y) else k := less_some k (x + y)
    refine se_ifR (b := decide (onI k = -1) || decide (((x + y : Nat) : Int) < onI k)) (et_is (et_or (et_test (de_eq (de_var rfl) de_int)) fun _ => et_test (de_lt (de_add (de_var rfl) (de_var rfl)) (de_var rfl))) ?_) (fun e2 => se_ret (de_is (de_add (de_var rfl) (de_var rfl)) ?_)) (fun e2 => se_ret (de_is (de_var rfl) ?_)) (fun _ => ⟨_, _, rfl⟩)
    · rw [Int.natCast_add]; rfl
    · show pInt ((x : Int) + (y : Int)) = pON (Kv402.less k (Kv402.plus (some x) (some y)))
      rw [es, if_pos e2]
      exact congrArg pInt (Int.natCast_add x y).symm
    · show pON k = pON (Kv402.less k (Kv402.plus (some x) (some y)))
      rw [es, if_neg (by rw [e2]; exact Bool.false_ne_true)]
end
end Wp
set_option Elab.async false
set_option linter.all false
set_option maxRecDepth 100000
set_option maxHeartbeats 4000000
namespace Wp
open PySem L2
/-- a square table -/
def Sq (n : Nat) (t : List (List (Option Nat))) : Prop := t.length = n ∧ ∀ r ∈ t, r.length = n
/-! ### through -/
def thr (t : List (List (Option Nat))) (k : Nat) : List (List (Option Nat)) := t.map fun r => (List.zip r (t.getD k [])).map fun z => Kv402.less z.1 (Kv402.plus (r.getD k none) z.2)
theorem via_thr {n k : Nat} {t : List (List (Option Nat))} (s : Sq n t) (hk : k < n) : Kv402.via t k = thr t k := by
  unfold Kv402.via thr
  have hkt : k < t.length := by rw [s.1]; exact hk
  have ek : t.getD k [] = t[k] := by rw [List.getD_eq_getElem?_getD, List.getElem?_eq_getElem hkt]; rfl
  have lk : t[k].length = n := s.2 _ (List.getElem_mem hkt)
  apply List.ext_getElem?
  intro i
  rw [List.getElem?_map, List.getElem?_map, List.getElem?_zipIdx]
  cases h : t[i]? with
  | none => rfl
  | some r =>
    have lr : r.length = n := s.2 _ (List.mem_of_getElem? h)
    show some (r.zipIdx.map _) = some ((List.zip r (t.getD k [])).map _)
    congr 1
    apply List.ext_getElem?
    intro j
    rw [List.getElem?_map, List.getElem?_map, List.getElem?_zipIdx, List.zip, List.getElem?_zipWith, ek]
    have ei : t.getD (0 + i) [] = r := by rw [Nat.zero_add, List.getD_eq_getElem?_getD, h]; rfl
    cases g : r[j]? with
    | none => rfl
    | some x =>
      have hj : j < t[k].length := by rw [lk, ← lr]; exact (List.getElem?_eq_some_iff.mp g).1
      rw [List.getElem?_eq_getElem hj]
      show some (Kv402.less x (Kv402.plus ((t.getD (0 + i) []).getD k none) ((t.getD k []).getD (0 + j) none))) = some (Kv402.less x (Kv402.plus (r.getD k none) t[k][j]))
      rw [ei, ek, Nat.zero_add, List.getD_eq_getElem?_getD (l := t[k]), List.getElem?_eq_getElem hj]
      rfl
theorem thr_sq {n k : Nat} {t : List (List (Option Nat))} (s : Sq n t) (hk : k < n) : Sq n (thr t k) := by
  have hkt : k < t.length := by rw [s.1]; exact hk
  have ek : t.getD k [] = t[k] := by rw [List.getD_eq_getElem?_getD, List.getElem?_eq_getElem hkt]; rfl
  have lk : t[k].length = n := s.2 _ (List.getElem_mem hkt)
  refine ⟨by unfold thr; rw [List.length_map]; exact s.1, fun r hr => ?_⟩
  obtain ⟨q, hq, rfl⟩ := List.mem_map.mp hr
  rw [List.length_map, List.length_zip, ek, lk, s.2 _ hq]
  exact Nat.min_self n
section
variable {P : Program} {w : World} {K : PySem.W.Frag} {mg : Str → Option Value} {base : Heap} {C : Addr}
theorem atI_map {α : Type} (f : α → Pr) {l : List α} {k : Nat} {x : α} (h : l[k]? = some x) : atI (l.map f) (k : Int) = some (f x) := atI_nat (by rw [List.getElem?_map, h]; rfl)
def sp_through : Sp := PSp (fun x : List (List (Option Nat)) × Nat => [pTab x.1, pNat x.2]) (fun x => x.2 < x.1.length ∧ Sq x.1.length x.1 ∧ x.1.length ≤ 8) (fun x => pTab (Kv402.via x.1 x.2))
theorem ok_through {f : Addr} {fd : FuncData} (F : Fun K "through" "through" s_through f fd) (T : Txt K mg C) (h_shorter : Has P w K mg base 1 "shorter" ["known", "one", "other"] sp_shorter) : FnOk P w K mg base CX0 2 f fd ["table", "middle"] sp_through := by
  refine F.ok sc_through (psp_len fun _ => rfl) (fun cdv A outer s H vs Q E hr h => ?_)
  refine ⟨_, (pss_cons (ps_set (i := 2) sc_through.nd rfl (Or.inl rfl) (pe_lst pa_nil)) (pss_cons (ps_for PassesOwn.never rfl (pi_list (pv 0)) (pg_name (i := 3) sc_through.nd rfl (Or.inr rfl)) (pss_one (ps_expr (pe_bm PySem.F.plainAttrs_list PySem.F.slot_list_append PySem.F.type_list_append mt_append (pv 2) (pa_cons (pe_lc (own := [("known", 4), ("far", 5)]) (g := (gTup K 2 (gCons (gName 4) (gCons (gName 5) gNil)))) (tt := tYes) (te := (tCall sp_shorter [] E0 (tCons (tVar 4) (tCons (tOp (rIxL K) (tVar 3) (tVar 1)) (tCons (tVar 5) tNil))))) rfl sc_through.nd (pi_zip rfl T.zip (pa_cons (pv 3) (pa_cons (pe_ix ix_list (pv 0) (pv 1) (fun _ _ => rfl)) pa_nil))) (blkOk_by (own := [("known", 4), ("far", 5)]) (N := ["table", "middle", "found", "row", "known", "far"]) (sc := defScope s_through) (by decide +kernel)) (fun _ _ _ _ _ => (pg_tup rfl (pgs_cons (pg_name (i := 4) sc_through.nd rfl (Or.inl rfl)) (pgs_cons (pg_name (i := 5) sc_through.nd rfl (Or.inl rfl)) pgs_nil)))) (fun _ _ _ _ _ => pts_nil) (fun _ _ _ _ _ => (pe_callH h_shorter (hr.mono (by decide)) rfl (pa_cons (pv 4) (pa_cons (pe_ix ix_list (pv 3) (pv 1) (fun _ _ => rfl)) (pa_cons (pv 5) pa_nil)))))) pa_nil))))) (pss_one (ps_ret (pv 2))))), ?_⟩
  refine body_pure h (fun x => [.val (pTab x.1), .val (pNat x.2), .any, .any, .any, .any]) (fun _ => rfl) fun x hp => ?_
  obtain ⟨t, k⟩ := x
  obtain ⟨hk, hs, h8⟩ := hp
  have hk : k < t.length := hk
  have hs : Sq t.length t := hs
  have h8 : t.length ≤ 8 := h8
  have gk : t[k]? = some t[k] := List.getElem?_eq_getElem hk
  have ek : t.getD k [] = t[k] := by rw [List.getD_eq_getElem?_getD, gk]; rfl
  refine se_new (Ps := []) ea_nil (by show 2 < 6; decide) (by decide) fun a => ?_
  refine se_seq (se_push (pf := pRow) (rf := fun r => pRow ((List.zip r t[k]).map fun z => Kv402.less z.1 (Kv402.plus (r.getD k none) z.2))) (fun Ps => [.val (pTab t), .val (pNat k), .own a (muL Ps), .any, .any, .any]) (fun Ps r => [.val (pTab t), .val (pNat k), .own a (muL Ps), .val (pRow r), .any, .any])
    (wi_list (de_var rfl)) (fun s r => gb_name) (fun pre r post e => ?_)) (se_freeze (i := 2) rfl (se_ret (de_is (de_var rfl) ?_)))
  · have hr : r ∈ t := by rw [e]; simp
    have hl : r.length = t.length := hs.2 r hr
    have hlk : t[k].length = t.length := hs.2 _ (List.getElem_mem hk)
    have hpre : pre.length < t.length := by rw [e]; simp
    refine se_weak (se_append (i := 2) rfl (de_map (pf := fun z : Option Nat × Option Nat => pTup [pON z.1, pON z.2]) (rf := fun z => pON (Kv402.less z.1 (Kv402.plus (r.getD k none) z.2))) (xs := List.zip r t[k])
      (fun z => [.val (pTab t), .val (pNat k), .own a (muL _), .val (pRow r), .val (pON z.1), .val (pON z.2)])
      (wi_is (wi_zip (ea_cons (de_var rfl) (ea_cons (de_ixL (de_var rfl) (de_var rfl) (atI_map pRow gk)) ea_nil))) (zip_pr _ _ _ _)) rfl (fun z => gc_two (by simp) (by simp)) (fun z _ => ?_) ?_) ?_) ?_
    · exact de_call (x := (z.1, r.getD k none, z.2)) (ea_cons (de_var rfl) (ea_cons (de_ixL (de_var rfl) (de_var rfl) (atI_map pON (x := r.getD k none) (by rw [List.getD_eq_getElem?_getD, List.getElem?_eq_getElem (by omega)]; rfl))) (ea_cons (de_var rfl) ea_nil))) trivial
    · rw [List.length_zip]; omega
    · rw [List.length_map]; omega
    · have e3 : (List.zip r t[k]).map (fun z => pON (Kv402.less z.1 (Kv402.plus (r.getD k none) z.2))) = ((List.zip r t[k]).map fun z => Kv402.less z.1 (Kv402.plus (r.getD k none) z.2)).map pON := by rw [List.map_map]; rfl
      rw [e3]
      exact .keep (.keep (.keep (.drop (.keep (.keep .nil)))))
  · show pList (t.map _) = pTab (Kv402.via t k)
    rw [via_thr hs hk]
    unfold pTab thr
    rw [ek, List.map_map]
    rfl
end
end Wp
set_option Elab.async false
set_option linter.all false
set_option maxRecDepth 100000
set_option maxHeartbeats 4000000
namespace Wp
open PySem L2
open Kv402 (Line)
/-! ### lines in order -/
def lc (l : Line) : Int := (l.w : Int) * 1000000 + (l.a : Int) * 1000 + (l.b : Int)
def Bnd (l : Line) : Prop := l.a < 1000 ∧ l.b < 1000 ∧ l.w < 1000
theorem code_line (l : Line) : TS.code 1000 [(l.w : Int), (l.a : Int), (l.b : Int)] = lc l := by
  have e2 : (1000 : Int) ^ 2 = 1000000 := by decide
  have e1 : (1000 : Int) ^ 1 = 1000 := by decide
  have e0 : (1000 : Int) ^ 0 = 1 := by decide
  show (l.w : Int) * 1000 ^ 2 + ((l.a : Int) * 1000 ^ 1 + ((l.b : Int) * 1000 ^ 0 + 0)) = lc l
  unfold lc
  rw [e2, e1, e0]
  omega
theorem lc_inj {l m : Line} (hl : Bnd l) (hm : Bnd m) (h : lc l = lc m) : l = m := by
  unfold lc at h
  obtain ⟨h1, h2, h3⟩ := hl
  obtain ⟨k1, k2, k3⟩ := hm
  obtain ⟨a, b, w⟩ := l
  obtain ⟨a', b', w'⟩ := m
  simp only at *
  have e1 : w = w' := by omega
  have e2 : a = a' := by omega
  have e3 : b = b' := by omega
  rw [e1, e2, e3]
theorem before_iff {l m : Line} (hl : Bnd l) (hm : Bnd m) : Kv402.before l m = true ↔ lc l < lc m := by
  unfold Kv402.before lc
  obtain ⟨h1, h2, h3⟩ := hl
  obtain ⟨k1, k2, k3⟩ := hm
  simp only [Bool.or_eq_true, Bool.and_eq_true, decide_eq_true_eq, beq_iff_eq]
  omega
theorem put_perm (l : Line) : ∀ ls : List Line, (Kv402.put l ls).Perm (l :: ls)
  | [] => List.Perm.refl _
  | m :: r => by
    unfold Kv402.put
    split
    · exact List.Perm.refl _
    · exact ((put_perm l r).cons m).trans (List.Perm.swap l m r)
theorem put_sorted (l : Line) (hl : Bnd l) : ∀ ls : List Line, (∀ m ∈ ls, Bnd m) → ls.Pairwise (fun x y => lc x ≤ lc y) → (Kv402.put l ls).Pairwise (fun x y => lc x ≤ lc y)
  | [], _, _ => List.pairwise_singleton _ _
  | m :: r, hb, hs => by
    have hm := hb m List.mem_cons_self
    have hs' := List.pairwise_cons.mp hs
    unfold Kv402.put
    split
    · rename_i c
      rw [before_iff hl hm] at c
      refine List.pairwise_cons.mpr ⟨fun x hx => ?_, hs⟩
      rcases List.mem_cons.mp hx with e | e
      · rw [e]; exact Int.le_of_lt c
      · exact Int.le_trans (Int.le_of_lt c) (hs'.1 x e)
    · rename_i c
      rw [before_iff hl hm] at c
      refine List.pairwise_cons.mpr ⟨fun x hx => ?_, put_sorted l hl r (fun y hy => hb y (List.mem_cons_of_mem _ hy)) hs'.2⟩
      rcases List.mem_cons.mp ((put_perm l r).mem_iff.mp hx) with e | e
      · rw [e]; omega
      · exact hs'.1 x e
/-! ### what is well formed -/
structure Wf (n : Nat) (ls : List Line) : Prop where
  n1 : 1 ≤ n
  n8 : n ≤ 8
  ln : ∀ l ∈ ls, l.a < l.b ∧ l.b < n ∧ 1 ≤ l.w ∧ l.w ≤ 99
  srt : ls.Pairwise fun l m => lc l ≤ lc m
  dis : ls.Pairwise fun l m => ¬ (l.a = m.a ∧ l.b = m.b)
  few : ls.length ≤ 14
theorem Wf.bnd {n : Nat} {ls : List Line} (h : Wf n ls) : ∀ l ∈ ls, Bnd l := fun l hl => by
  have h1 := h.ln l hl
  have h2 := h.n8
  exact ⟨by omega, by omega, by omega⟩
theorem Wf.sub {n : Nat} {ls ms : List Line} (h : Wf n ls) (s : List.Sublist ms ls) : Wf n ms :=
  ⟨h.n1, h.n8, fun l hl => h.ln l (s.subset hl), h.srt.sublist s, h.dis.sublist s, Nat.le_trans s.length_le h.few⟩
/-! ### a sort of lines -/
theorem allP_perm {α : Type} {G : Hp} (f : α → Pr) : ∀ {xs ys : List V}, ys.Perm xs → ∀ l : List α, AllP G (l.map f) xs → ∃ m : List α, m.Perm l ∧ AllP G (m.map f) ys := fun {xs ys} h => by
  induction h with
  | nil => intro l hl; exact ⟨l, .refl _, hl⟩
  | cons x h ih =>
    intro l hl
    match l, hl with
    | a :: l, hl =>
      obtain ⟨m, h1, h2⟩ := ih l hl.2
      exact ⟨a :: m, h1.cons a, hl.1, h2⟩
  | swap x y r =>
    intro l hl
    match l, hl with
    | a :: b :: l, hl => exact ⟨b :: a :: l, .swap a b l, hl.2.1, hl.1, hl.2.2⟩
  | trans h1 h2 ih1 ih2 =>
    intro l hl
    obtain ⟨m, k1, k2⟩ := ih2 l hl
    obtain ⟨m', k3, k4⟩ := ih1 m k2
    exact ⟨m', k3.trans k1, k4⟩
theorem line_tup {K : PySem.W.Frag} {G H : Hp} {l : Line} {v : V} (s : Same G H) (h : (pLine l).p G v) : TupI K H v [(l.w : Int), (l.a : Int), (l.b : Int)] := by
  obtain ⟨a, vs, rfl, h2, h3⟩ := h
  match vs, h3 with
  | [x, y, z], h3 =>
    obtain ⟨e1, e2, e3, _⟩ := h3
    have e1' : x = .int l.w := e1
    have e2' : y = .int l.a := e2
    have e3' : z = .int l.b := e3
    subst e1' e2' e3'
    exact ⟨a, rfl, .of (s _ _ h2)⟩
  | [], h3 => exact h3.elim
  | [_], h3 => exact h3.2.elim
  | [_, _], h3 => exact h3.2.2.elim
  | _ :: _ :: _ :: _ :: _, h3 => exact h3.2.2.2.elim
theorem sorted_lines {K : PySem.W.Frag} {G H : Hp} (s : Same G H) : ∀ {l : List Line} {xs : List V}, AllP G (l.map pLine) xs → xs.Pairwise (fun x y => ∀ n m, TupI K H x n → TupI K H y m → TS.code 1000 n ≤ TS.code 1000 m) → l.Pairwise fun a b => lc a ≤ lc b
  | [], _, _, _ => .nil
  | a :: l, x :: xs, h, p => by
    have p' := List.pairwise_cons.mp p
    refine List.pairwise_cons.mpr ⟨fun b hb => ?_, sorted_lines s h.2 p'.2⟩
    obtain ⟨i, hi⟩ := List.getElem?_of_mem hb
    obtain ⟨v, k1, k2⟩ := AllP.get (i := i) (P := pLine b) h.2 (by rw [List.getElem?_map, hi]; rfl)
    have := p'.1 v (List.mem_of_getElem? k1) _ _ (line_tup s h.1) (line_tup s k2)
    rw [code_line, code_line] at this
    exact this
  | _ :: _, [], h, _ => h.elim
theorem rc_sortL {K : PySem.W.Frag} {ls zs : List Line} (hb : ∀ l ∈ ls, Bnd l) (hl : ls.length < 64) (hp : zs.Perm ls) (hs : zs.Pairwise fun a b => lc a ≤ lc b) : RC (rSortU K 3 1000) [pLines ls] (pLines zs) := fun G H vs s hv k q => by
  obtain ⟨v, rfl, a, xs, rfl, h2, h3⟩ := hv.one
  refine ⟨a, xs, rfl, .of (s _ _ h2), by rw [h3.length, List.length_map]; exact hl, fun x hx => ?_, fun ys p hy1 hy2 hp' => ?_⟩
  · obtain ⟨i, hi⟩ := List.getElem?_of_mem hx
    have hlt : i < ls.length := by
      have := (List.getElem?_eq_some_iff.mp hi).1
      rw [h3.length, List.length_map] at this
      exact this
    obtain ⟨v, k1, k2⟩ := AllP.get (i := i) (P := pLine ls[i]) h3 (by rw [List.getElem?_map, List.getElem?_eq_getElem hlt]; rfl)
    rw [hi] at k1
    cases k1
    obtain ⟨b1, b2, b3⟩ := hb _ (List.getElem_mem hlt)
    refine ⟨_, line_tup s k2, rfl, fun m hm => ?_⟩
    simp only [List.mem_cons, List.not_mem_nil, or_false] at hm
    omega
  · obtain ⟨m, k1, k2⟩ := allP_perm pLine hy1 ls h3
    have k3 := sorted_lines s k2 hy2
    have e : m = zs := List.Perm.eq_of_pairwise (le := fun a b => lc a ≤ lc b) (fun x y hx hy h1 h2 => lc_inj (hb x (k1.mem_iff.mp hx)) (hb y (hp.mem_iff.mp hy)) (Int.le_antisymm h1 h2)) k3 hs (k1.trans hp.symm)
    subst e
    exact q _ _ _ (.new s hp') ⟨p, ys, rfl, upd_same, k2.mono (GrowE.new s hp').eG⟩
section
variable {P : Program} {w : World} {K : PySem.W.Frag} {mg : Str → Option Value} {base : Heap} {C : Addr}
/-! ### lines_but -/
def but (ls : List Line) (a b : Nat) : List Line := ls.filter fun m => !Kv402.ends m a b
def sp_lines_but : Sp := PSp (fun x : List Line × Nat × Nat => [pLines x.1, pNat x.2.1, pNat x.2.2]) (fun x => (∀ l ∈ x.1, l.a < l.b) ∧ x.1.length ≤ 14) (fun x => pLines (but x.1 x.2.1 x.2.2))
theorem ok_lines_but {f : Addr} {fd : FuncData} (F : Fun K "lines_but" "lines_but" s_lines_but f fd) (T : Txt K mg C) : FnOk P w K mg base CX0 1 f fd ["lines", "a", "b"] sp_lines_but := by
  refine F.ok sc_lines_but (psp_len fun _ => rfl) (fun cdv A outer s H vs Q E hr h => ?_)
  refine ⟨_, (pss_cons (ps_set (i := 3) sc_lines_but.nd rfl (Or.inr rfl) (pe_callB (call_min2 rfl) rfl T.min (by decide +kernel) (pa_cons (pv 1) (pa_cons (pv 2) pa_nil)))) (pss_cons (ps_set (i := 4) sc_lines_but.nd rfl (Or.inr rfl) (pe_callB (call_max2 rfl) rfl T.max (by decide +kernel) (pa_cons (pv 1) (pa_cons (pv 2) pa_nil)))) (pss_one (ps_ret (pe_lc (own := [("line", 5)]) (g := (gName 5)) (tt := (tOr (tTest (tOp rNe (tOp (rIxT K) (tVar 5) (tC (.int 1))) (tVar 3))) (tTest (tOp rNe (tOp (rIxT K) (tVar 5) (tC (.int 2))) (tVar 4))))) (te := (tVar 5)) rfl sc_lines_but.nd (pi_list (pv 0)) (blkOk_by (own := [("line", 5)]) (N := ["lines", "a", "b", "low", "high", "line"]) (sc := defScope s_lines_but) (by decide +kernel)) (fun _ _ _ _ _ => (pg_name (i := 5) sc_lines_but.nd rfl (Or.inl rfl))) (fun _ _ _ _ _ => (pts_one (PW.pt (pw_or (pt_cmpR op_ne (pe_ix ix_tup (pv 5) pe_int (fun _ _ => rfl)) (pv 3) (nomark _)) (pw_or1 (pt_cmpR op_ne (pe_ix ix_tup (pv 5) pe_int (fun _ _ => rfl)) (pv 4) (nomark _))))))) (fun _ _ _ _ _ => (pv 5))))))), ?_⟩
  refine body_pure h (fun x => [.val (pLines x.1), .val (pNat x.2.1), .val (pNat x.2.2), .any, .any, .any]) (fun _ => rfl) fun x hp => ?_
  obtain ⟨ls, a, b⟩ := x
  obtain ⟨hw, h14⟩ := hp
  refine se_seq (se_asg (de_cb (ea_cons (de_var rfl) (ea_cons (de_var rfl) ea_nil)) rc_min)) (se_seq (se_asg (de_cb (ea_cons (de_var rfl) (ea_cons (de_var rfl) ea_nil)) rc_max)) (se_ret (de_is (de_lc (pf := pLine) (rf := pLine) (xs := ls)
    (b := fun l => (!decide ((l.a : Int) = min (a : Int) (b : Int))) || (!decide ((l.b : Int) = max (a : Int) (b : Int)))) (fun l => [.val (pLines ls), .val (pNat a), .val (pNat b), .val (pInt (min (a : Int) (b : Int))), .val (pInt (max (a : Int) (b : Int))), .val (pLine l)])
    (wi_list (de_var rfl)) rfl (fun l => gc_name (by simp)) (fun l _ => et_or (et_test (de_ne (de_ixT (de_var rfl) de_int rfl) (de_var rfl))) fun _ => et_test (de_ne (de_ixT (de_var rfl) de_int rfl) (de_var rfl))) (fun l _ _ => de_var rfl) (Nat.le_trans h14 (by decide))) ?_)))
  show pList ((ls.filter _).map pLine) = pList ((ls.filter _).map pLine)
  congr 2
  refine List.filter_congr fun l hl => ?_
  have h1 := hw l hl
  unfold Kv402.ends
  by_cases c : (l.a : Int) = min (a : Int) (b : Int) ∧ (l.b : Int) = max (a : Int) (b : Int)
  · rw [decide_eq_true c.1, decide_eq_true c.2]
    have : (l.a = a ∧ l.b = b) ∨ (l.a = b ∧ l.b = a) := by omega
    rcases this with ⟨e1, e2⟩ | ⟨e1, e2⟩
    · rw [e1, e2]; simp
    · rw [e1, e2]; simp
  · have n1 : ¬ (l.a = a ∧ l.b = b) := by omega
    have n2 : ¬ (l.a = b ∧ l.b = a) := by omega
    have z : ((l.a == a && l.b == b) || (l.a == b && l.b == a)) = false := by
      rw [Bool.or_eq_false_iff]
      constructor
      · rw [← Bool.not_eq_true, Bool.and_eq_true, beq_iff_eq, beq_iff_eq]; exact n1
      · rw [← Bool.not_eq_true, Bool.and_eq_true, beq_iff_eq, beq_iff_eq]; exact n2
    rw [z]
    by_cases d : (l.a : Int) = min (a : Int) (b : Int)
    · rw [decide_eq_false (p := (l.b : Int) = max (a : Int) (b : Int)) (fun y => c ⟨d, y⟩)]; simp
    · rw [decide_eq_false d]; rfl
/-! ### with_line -/
def sp_with_line : Sp := PSp (fun x : List Line × Nat × Nat × Nat => [pLines x.1, pNat x.2.1, pNat x.2.2.1, pNat x.2.2.2]) (fun x => (∃ n, Wf n x.1) ∧ x.2.1 < 8 ∧ x.2.2.1 < 8 ∧ x.2.2.2 ≤ 99) (fun x => pLines (Kv402.put ⟨min x.2.1 x.2.2.1, max x.2.1 x.2.2.1, x.2.2.2⟩ (but x.1 x.2.1 x.2.2.1)))
theorem ok_with_line {f : Addr} {fd : FuncData} (F : Fun K "with_line" "with_line" s_with_line f fd) (T : Txt K mg C) (h_lines_but : Has P w K mg base 1 "lines_but" ["lines", "a", "b"] sp_lines_but) : FnOk P w K mg base CX0 2 f fd ["lines", "a", "b", "w"] sp_with_line := by
  refine F.ok sc_with_line (psp_len fun _ => rfl) (fun cdv A outer s H vs Q E hr h => ?_)
  refine ⟨_, (pss_one (ps_ret (pe_callB (cr_sortT (d := 3) (B := 1000) (by decide)) rfl T.sorted (by decide +kernel) (pa_cons (pe_op op_cat (pe_callH h_lines_but (hr.mono (by decide)) rfl (pa_cons (pv 0) (pa_cons (pv 1) (pa_cons (pv 2) pa_nil)))) (pe_lst (pa_cons (pe_tup (pa_cons (pv 3) (pa_cons (pe_callB (call_min2 rfl) rfl T.min (by decide +kernel) (pa_cons (pv 1) (pa_cons (pv 2) pa_nil))) (pa_cons (pe_callB (call_max2 rfl) rfl T.max (by decide +kernel) (pa_cons (pv 1) (pa_cons (pv 2) pa_nil))) pa_nil)))) pa_nil))) pa_nil)))), ?_⟩
  refine body_pure h (fun x => [.val (pLines x.1), .val (pNat x.2.1), .val (pNat x.2.2.1), .val (pNat x.2.2.2)]) (fun _ => rfl) fun x hp => ?_
  obtain ⟨ls, a, b, v⟩ := x
  obtain ⟨⟨n, hw⟩, ha, hb, hv⟩ := hp
  have ha : a < 8 := ha
  have hb : b < 8 := hb
  have hv : v ≤ 99 := hv
  have hs : Wf n (but ls a b) := hw.sub List.filter_sublist
  have bl : Bnd ⟨min a b, max a b, v⟩ := ⟨by show min a b < 1000; omega, by show max a b < 1000; omega, by show v < 1000; omega⟩
  have e : pLine ⟨min a b, max a b, v⟩ = pTup [pInt (v : Int), pInt (min (a : Int) (b : Int)), pInt (max (a : Int) (b : Int))] := by
    show pTup [pInt (v : Int), pInt ((min a b : Nat) : Int), pInt ((max a b : Nat) : Int)] = _
    rw [show ((min a b : Nat) : Int) = min (a : Int) (b : Int) by omega, show ((max a b : Nat) : Int) = max (a : Int) (b : Int) by omega]
  refine se_ret (de_cb (ea_cons (P := pLines (but ls a b ++ [⟨min a b, max a b, v⟩])) (de_is (de_cat (de_call (x := (ls, a, b)) (ea_cons (de_var rfl) (ea_cons (de_var rfl) (ea_cons (de_var rfl) ea_nil))) ⟨fun l hl => (hw.ln l hl).1, hw.few⟩)
    (de_lst (ea_cons (de_tup (ea_cons (de_var rfl) (ea_cons (de_cb (ea_cons (de_var rfl) (ea_cons (de_var rfl) ea_nil)) rc_min) (ea_cons (de_cb (ea_cons (de_var rfl) (ea_cons (de_var rfl) ea_nil)) rc_max) ea_nil))) (by simp)) ea_nil) (by simp)) ?_) ?_) ea_nil) (rc_sortL ?_ ?_ ?_ ?_))
  · have := hs.few
    rw [List.length_map]
    show (but ls a b).length + 1 ≤ 100000
    omega
  · show pList ((but ls a b).map pLine ++ [_]) = pList ((but ls a b ++ [_]).map pLine)
    rw [List.map_append, List.map_singleton, e]
  · intro l hl
    rcases List.mem_append.mp hl with h1 | h1
    · exact hs.bnd l h1
    · rw [List.mem_singleton.mp h1]; exact bl
  · have := hs.few
    rw [List.length_append, List.length_singleton]
    omega
  · exact (put_perm _ _).trans (List.perm_append_singleton _ _).symm
  · exact put_sorted _ bl _ hs.bnd hs.srt
end
end Wp
set_option Elab.async false
set_option linter.all false
set_option maxRecDepth 100000
set_option maxHeartbeats 4000000
namespace Wp
open PySem L2
open Kv402 (Line)
/-! ### tables by place -/
abbrev Tb := List (List (Option Nat))
def set2 (t : Tb) (u v : Nat) (x : Option Nat) : Tb := t.set u ((t.getD u []).set v x)
theorem getD_lt {α : Type} {l : List α} {i : Nat} {d : α} (h : i < l.length) : l.getD i d = l[i] := by rw [List.getD_eq_getElem?_getD, List.getElem?_eq_getElem h]; rfl
theorem sq_row {n : Nat} {t : Tb} (s : Sq n t) {u : Nat} (h : u < n) : (t.getD u []).length = n := by
  rw [getD_lt (by rw [s.1]; exact h)]
  exact s.2 _ (List.getElem_mem _)
theorem sq_set2 {n : Nat} {t : Tb} (s : Sq n t) {u v : Nat} {x : Option Nat} (h : u < n) : Sq n (set2 t u v x) := by
  refine ⟨by unfold set2; rw [List.length_set]; exact s.1, fun r hr => ?_⟩
  rcases List.mem_or_eq_of_mem_set hr with e | e
  · exact s.2 r e
  · rw [e, List.length_set]; exact sq_row s h
theorem at_set2 {n : Nat} {t : Tb} (s : Sq n t) {u v i j : Nat} {x : Option Nat} (hu : u < n) (hv : v < n) : Kv402.at_ (set2 t u v x) i j = if i = u ∧ j = v then x else Kv402.at_ t i j := by
  unfold Kv402.at_ set2
  by_cases c : i = u
  · subst c
    have e : (t.set i ((t.getD i []).set v x)).getD i [] = (t.getD i []).set v x := by
      rw [List.getD_eq_getElem?_getD, List.getElem?_set_self (by rw [s.1]; exact hu)]; rfl
    rw [e]
    by_cases d : j = v
    · subst d
      rw [if_pos ⟨rfl, rfl⟩, List.getD_eq_getElem?_getD, List.getElem?_set_self (by rw [sq_row s hu]; exact hv)]
      rfl
    · rw [if_neg fun z => d z.2, List.getD_eq_getElem?_getD, List.getElem?_set_ne (Ne.symm d), ← List.getD_eq_getElem?_getD]
  · rw [if_neg fun z => c z.1]
    have e : (t.set u ((t.getD u []).set v x)).getD i [] = t.getD i [] := by
      rw [List.getD_eq_getElem?_getD, List.getElem?_set_ne (Ne.symm c), ← List.getD_eq_getElem?_getD]
    rw [e]
theorem tab_ext {n : Nat} {t u : Tb} (s : Sq n t) (r : Sq n u) (h : ∀ i j, i < n → j < n → Kv402.at_ t i j = Kv402.at_ u i j) : t = u := by
  apply List.ext_getElem (s.1.trans r.1.symm)
  intro i h1 h2
  have hi : i < n := by rw [← s.1]; exact h1
  apply List.ext_getElem ((s.2 _ (List.getElem_mem h1)).trans (r.2 _ (List.getElem_mem h2)).symm)
  intro j g1 g2
  have hj : j < n := by rw [← s.2 _ (List.getElem_mem h1)]; exact g1
  have := h i j hi hj
  unfold Kv402.at_ at this
  rw [getD_lt h1, getD_lt h2, getD_lt g1, getD_lt g2] at this
  exact this
theorem at_start {n : Nat} {ls : List Line} {i j : Nat} (hi : i < n) (hj : j < n) : Kv402.at_ (Kv402.start n ls) i j = if i = j then some 0 else (ls.find? fun l => Kv402.ends l i j).map Line.w := by
  unfold Kv402.at_ Kv402.start
  rw [getD_lt (i := i) (by rw [List.length_map, List.length_range]; exact hi), List.getElem_map, List.getElem_range, getD_lt (i := j) (by rw [List.length_map, List.length_range]; exact hj), List.getElem_map, List.getElem_range]
theorem sq_start (n : Nat) (ls : List Line) : Sq n (Kv402.start n ls) := by
  refine ⟨by unfold Kv402.start; rw [List.length_map, List.length_range], fun r hr => ?_⟩
  obtain ⟨u, _, rfl⟩ := List.mem_map.mp hr
  rw [List.length_map, List.length_range]
def tab0 (n : Nat) : Tb := List.replicate n (List.replicate n none)
theorem sq_tab0 (n : Nat) : Sq n (tab0 n) := ⟨List.length_replicate, fun r hr => by rw [List.eq_of_mem_replicate hr]; exact List.length_replicate⟩
theorem at_tab0 {n i j : Nat} (hi : i < n) (hj : j < n) : Kv402.at_ (tab0 n) i j = none := by
  unfold Kv402.at_ tab0
  have e : (List.replicate n (List.replicate n (none : Option Nat))).getD i [] = List.replicate n none := by rw [getD_lt (by rw [List.length_replicate]; exact hi), List.getElem_replicate]
  rw [e, getD_lt (by rw [List.length_replicate]; exact hj), List.getElem_replicate]
def diag (n k : Nat) : Tb := (List.range k).foldl (fun t u => set2 t u u (some 0)) (tab0 n)
theorem diag_succ (n k : Nat) : diag n (k + 1) = set2 (diag n k) k k (some 0) := by unfold diag; rw [List.range_succ, List.foldl_append]; rfl
theorem diag_ok {n : Nat} : ∀ k, k ≤ n → Sq n (diag n k) ∧ ∀ i j, i < n → j < n → Kv402.at_ (diag n k) i j = if i = j ∧ i < k then some 0 else none
  | 0, _ => ⟨sq_tab0 n, fun i j hi hj => by rw [if_neg (show ¬ (i = j ∧ i < 0) by omega)]; exact at_tab0 hi hj⟩
  | k + 1, hk => by
    obtain ⟨s, h⟩ := diag_ok (n := n) k (by omega)
    rw [diag_succ]
    refine ⟨sq_set2 s hk, fun i j hi hj => ?_⟩
    rw [at_set2 s hk hk, h i j hi hj]
    by_cases c : i = k ∧ j = k
    · rw [if_pos c, if_pos (by omega)]
    · rw [if_neg c]
      by_cases d : i = j ∧ i < k
      · rw [if_pos d, if_pos (by omega)]
      · rw [if_neg d, if_neg (by omega)]
def laid (t : Tb) (l : Line) : Tb := set2 (set2 t l.a l.b (some l.w)) l.b l.a (some l.w)
theorem ends_iff {l : Line} {i j : Nat} : Kv402.ends l i j = true ↔ (l.a = i ∧ l.b = j) ∨ (l.a = j ∧ l.b = i) := by
  unfold Kv402.ends
  simp only [Bool.or_eq_true, Bool.and_eq_true, beq_iff_eq]
theorem laid_ok {n : Nat} {ls : List Line} (w : Wf n ls) : ∀ k, k ≤ ls.length → Sq n ((ls.take k).foldl laid (diag n n)) ∧ ∀ i j, i < n → j < n → Kv402.at_ ((ls.take k).foldl laid (diag n n)) i j = if i = j then some 0 else ((ls.take k).find? fun l => Kv402.ends l i j).map Line.w := by
  intro k
  induction k with
  | zero =>
    intro _
    obtain ⟨s, h⟩ := diag_ok (n := n) n (Nat.le_refl n)
    refine ⟨s, fun i j hi hj => ?_⟩
    show Kv402.at_ (diag n n) i j = _
    rw [h i j hi hj]
    by_cases c : i = j
    · rw [if_pos ⟨c, hi⟩, if_pos c]
    · rw [if_neg fun z => c z.1, if_neg c]; rfl
  | succ k ih =>
    intro hk
    have hk' : k < ls.length := hk
    obtain ⟨s, h⟩ := ih (Nat.le_of_lt hk')
    have ml : ls[k] ∈ ls := List.getElem_mem hk'
    have hl := w.ln ls[k] ml
    have et : ls.take (k + 1) = ls.take k ++ [ls[k]] := by rw [List.take_add_one, List.getElem?_eq_getElem hk']; rfl
    have dis := w.dis.sublist (List.take_sublist (k + 1) ls)
    rw [et] at dis
    rw [et, List.foldl_append]
    generalize ls[k] = l at ml hl dis
    have hb : l.b < n := hl.2.1
    have ha : l.a < n := by omega
    have s1 := sq_set2 (v := l.b) (x := some l.w) s ha
    refine ⟨sq_set2 s1 hb, fun i j hi hj => ?_⟩
    show Kv402.at_ (set2 (set2 ((ls.take k).foldl laid (diag n n)) l.a l.b (some l.w)) l.b l.a (some l.w)) i j = _
    rw [at_set2 s1 hb ha, at_set2 s ha hb, h i j hi hj, List.find?_append]
    by_cases c : Kv402.ends l i j = true
    · have c' := ends_iff.mp c
      have nij : ¬ i = j := by omega
      have none_before : ((ls.take k).find? fun l => Kv402.ends l i j) = none := by
        rw [List.find?_eq_none]
        intro m hm z
        have z' := ends_iff.mp z
        have hm' := w.ln m (List.mem_of_mem_take hm)
        have d2 := (List.pairwise_append.mp dis).2.2 m hm l (by simp)
        exact d2 (by omega)
      rw [none_before, if_neg nij, if_neg nij]
      have e1 : List.find? (fun l => Kv402.ends l i j) [l] = some l := by rw [List.find?_cons, c]
      rw [e1]
      by_cases c1 : i = l.b ∧ j = l.a
      · rw [if_pos c1]; rfl
      · rw [if_neg c1, if_pos (by omega)]; rfl
    · have e1 : List.find? (fun l => Kv402.ends l i j) [l] = none := by rw [List.find?_cons, Bool.eq_false_iff.mpr c]; rfl
      rw [e1, Option.or_none]
      have nc : ¬ ((l.a = i ∧ l.b = j) ∨ (l.a = j ∧ l.b = i)) := fun z => c (ends_iff.mpr z)
      rw [if_neg (by omega), if_neg (by omega)]
theorem laid_start {n : Nat} {ls : List Line} (w : Wf n ls) : ls.foldl laid (diag n n) = Kv402.start n ls := by
  obtain ⟨s, h⟩ := laid_ok w ls.length (Nat.le_refl _)
  rw [List.take_length] at s h
  exact tab_ext s (sq_start n ls) fun i j hi hj => by rw [h i j hi hj, at_start hi hj]
theorem laid_sq {n k : Nat} {ls : List Line} (w : Wf n ls) (h : k ≤ ls.length) : Sq n ((ls.take k).foldl laid (diag n n)) := (laid_ok w k h).1
end Wp
set_option Elab.async false
set_option linter.all false
set_option maxRecDepth 100000
set_option maxHeartbeats 4000000
namespace Wp
open PySem L2
open Kv402 (Line)
def vrow (r : List (Option Nat)) : List V := r.map fun o => V.int (onI o)
/-- the table at p, its rows at qs -/
structure TabAt (H : Hp) (p : Addr) (qs : List Addr) (t : Tb) : Prop where
  top : H p = some (.lst (qs.map V.ref))
  len : qs.length = t.length
  row : ∀ (i : Nat) (q : Addr), qs[i]? = some q → H q = some (.lst (vrow (t.getD i [])))
  nd : (p :: qs).Nodup
theorem TabAt.set2 {H : Hp} {p q : Addr} {qs : List Addr} {t : Tb} {n u v : Nat} {x : Option Nat} (h : TabAt H p qs t) (s : Sq n t) (hu : u < n) (hq : qs[u]? = some q) : TabAt (upd H q (.lst ((vrow (t.getD u [])).set v (.int (onI x))))) p qs (set2 t u v x) where
  top := by
    have : p ≠ q := fun e => (List.nodup_cons.mp h.nd).1 (by rw [e]; exact List.mem_of_getElem? hq)
    rw [upd_ne this]; exact h.top
  len := by unfold Wp.set2; rw [List.length_set]; exact h.len
  row := fun i r hr => by
    by_cases c : i = u
    · subst c
      rw [hq] at hr
      cases hr
      rw [upd_same]
      have e : (Wp.set2 t i v x).getD i [] = (t.getD i []).set v x := by
        unfold Wp.set2
        rw [List.getD_eq_getElem?_getD, List.getElem?_set_self (by rw [s.1]; exact hu)]; rfl
      rw [e]
      unfold vrow
      rw [List.map_set]
    · have nq : r ≠ q := fun e => by
        subst e
        exact c (nd_ix (List.nodup_cons.mp h.nd).2 hr hq)
      rw [upd_ne nq, h.row i r hr]
      unfold Wp.set2
      rw [List.getD_eq_getElem?_getD, List.getD_eq_getElem?_getD, List.getElem?_set_ne (Ne.symm c)]
  nd := h.nd
theorem ixN_nat {m v : Nat} (h : v < m) : ixN m (v : Int) = some v := by
  unfold ixN
  rw [if_pos (by omega), if_pos (by omega)]
  rfl
theorem store2 {K : PySem.W.Frag} {H : Hp} {p : Addr} {qs : List Addr} {t : Tb} {n u v : Nat} {x : Option Nat} {te : TE} {cu cv : Nat} {σ : L2.St} {D : Ends} (h : TabAt H p qs t) (s : Sq n t) (hu : u < n) (hv : v < n)
    (h2 : σ[2]? = some (some (.ref p))) (ku : σ[cu]? = some (some (.int (u : Int)))) (kv : σ[cv]? = some (some (.int (v : Int)))) (ht : ∀ Q : VK, Q (.int (onI x)) H → te σ H Q)
    (k : ∀ H', TabAt H' p qs (set2 t u v x) → (∀ b o, H b = some o → b ∉ qs → H' b = some o) → D.nx σ H') : tAsg te (gSub (tOp (rIxL K) (tVar 2) (tVar cu)) (tVar cv) rSetL) D σ H := by
  have hlt : u < qs.length := by rw [h.len, s.1]; exact hu
  have hq : qs[u]? = some qs[u] := List.getElem?_eq_getElem hlt
  refine ht _ ⟨.ref p, h2, .int u, ku, p, qs.map V.ref, u, .ref qs[u], rfl, rfl, .of h.top, atI_nat (by rw [List.getElem?_map, hq]; rfl), .int v, kv, qs[u], vrow (t.getD u []), v, v, rfl, rfl, h.row u _ hq, ixN_nat (by unfold vrow; rw [List.length_map, sq_row s hu]; exact hv), ?_⟩
  exact k _ (h.set2 s hu hq) fun b o e nb => by rw [upd_ne fun z => nb (by rw [z]; exact List.getElem_mem hlt)]; exact e
section
variable {P : Program} {w : World} {K : PySem.W.Frag} {mg : Str → Option Value} {base : Heap} {C : Addr}
def sp_line_table : Sp := PSp (fun x : Nat × List Line => [pNat x.1, pLines x.2]) (fun x => Wf x.1 x.2) (fun x => pTab (Kv402.start x.1 x.2))
theorem allP_row {G : Hp} : ∀ r : List (Option Nat), AllP G (r.map pON) (vrow r)
  | [] => trivial
  | _ :: r => ⟨rfl, allP_row r⟩
theorem allP_of_get {G : Hp} : ∀ {Ps : List Pr} {vs : List V}, vs.length = Ps.length → (∀ (i : Nat) (P : Pr) (v : V), Ps[i]? = some P → vs[i]? = some v → P.p G v) → AllP G Ps vs
  | [], [], _, _ => trivial
  | P :: Ps, v :: vs, hl, h => ⟨h 0 P v rfl rfl, allP_of_get (Nat.succ.inj hl) fun i P' v' e1 e2 => h (i + 1) P' v' (by simpa using e1) (by simpa using e2)⟩
  | [], _ :: _, hl, _ => by simp at hl
  | _ :: _, [], hl, _ => by simp at hl
theorem ok_line_table {f : Addr} {fd : FuncData} (F : Fun K "line_table" "line_table" s_line_table f fd) (T : Txt K mg C) : FnOk P w K mg base CX0 1 f fd ["places", "lines"] sp_line_table := by
  refine F.ok sc_line_table (psp_len fun _ => rfl) (fun cdv A outer s H vs Q E hr h => ?_)
  refine ⟨_, (pss_cons (ps_setLc (i := 2) (own := [("place", 3)]) (g := (gName 3)) (tt := tYes) (te := (tOp rRep (tLst (tCons (tC (.int (-1))) tNil)) (tVar 0))) rfl sc_line_table.nd rfl rfl (sw_true rfl rfl rfl (by decide +kernel)) (pi_range1 rfl T.range (pa_cons (pv 0) pa_nil)) (blkOk_by (own := [("place", 3)]) (N := ["places", "lines", "table", "place", "w", "a", "b"]) (sc := defScope s_line_table) (by decide +kernel)) (fun _ _ _ _ _ => (pg_name (i := 3) sc_line_table.nd rfl (Or.inl rfl))) (fun _ _ _ _ _ => pts_nil) (fun _ _ _ _ _ => (pe_op op_rep (pe_lst (pa_cons (pe_gi T.NOTHING rfl) pa_nil)) (pv 0)))) (pss_cons (ps_for PassesOwn.never rfl (pi_range1 rfl T.range (pa_cons (pv 0) pa_nil)) (pg_name (i := 3) sc_line_table.nd rfl (Or.inl rfl)) (pss_one (ps_asg pe_int (pg_sub (pe_ix ix_list (pv 2) (pv 3) (fun _ _ => rfl)) (pv 3) set_list)))) (pss_cons (ps_for PassesOwn.never rfl (pi_list (pv 1)) (pg_tup rfl (pgs_cons (pg_name (i := 4) sc_line_table.nd rfl (Or.inl rfl)) (pgs_cons (pg_name (i := 5) sc_line_table.nd rfl (Or.inl rfl)) (pgs_cons (pg_name (i := 6) sc_line_table.nd rfl (Or.inl rfl)) pgs_nil)))) (pss_cons (ps_asg (pv 4) (pg_sub (pe_ix ix_list (pv 2) (pv 5) (fun _ _ => rfl)) (pv 6) set_list)) (pss_one (ps_asg (pv 4) (pg_sub (pe_ix ix_list (pv 2) (pv 6) (fun _ _ => rfl)) (pv 5) set_list))))) (pss_one (ps_ret (pv 2)))))), ?_⟩
  obtain ⟨⟨n, ls⟩, G, sG, hp, ha, q⟩ := h
  have hp : Wf n ls := hp
  obtain ⟨v0, v1, rfl, e0, e1⟩ := ha.two
  have e0' : v0 = .int (n : Int) := e0
  subst e0'
  obtain ⟨L, lv, rfl, hL, hlv⟩ := e1
  have n8 := hp.n8
  -- table = [[NOTHING] * places for place in range(places)]
  refine ⟨.int n, rfl, (n : Int), rfl, by omega, by omega, fun D hD => ?_⟩
  have en : ((n : Int)).toNat = n := Int.toNat_natCast n
  rw [en]
  refine lc_it (walk_range (lo := 0) (n := n)) (fun i H' => ∃ qs : List Addr, TabAt H' D qs (List.replicate i (List.replicate n none)) ∧ Same H H' ∧ ∀ b ∈ D :: qs, H b = none) ?_ (fun _ _ _ _ => trivial) ?_ ?_
  · refine ⟨[], ⟨upd_same, rfl, fun i q e => by simp at e, by simp⟩, fun b o e => by rw [upd_ne (ne_of_none e hD)]; exact e, fun b hb => by rw [List.mem_singleton.mp hb]; exact hD⟩
  · rintro i x H' H'' hi ⟨qs, tb, sm, fr⟩ ⟨rfl, rfl⟩
    refine ⟨rfl, ?_⟩
    show tOp rRep (tLst (tCons (tC (.int (-1))) tNil)) (tVar 0) _ _ _
    refine ⟨by decide, fun p1 n1 => ⟨.int n, rfl, p1, (n : Int), [.int (-1)], rfl, rfl, upd_same, by omega, by omega, ?_, fun p2 n2 => ?_⟩⟩
    · rw [en, List.length_singleton, Nat.one_mul]
      exact Nat.le_trans n8 (by decide)
    · have nD1 : D ≠ p1 := ne_of_none tb.top n1
      have n2' : p2 ≠ p1 := fun e => by rw [e, upd_same] at n2; cases n2
      have n2H : H'' p2 = none := by rw [upd_ne n2'] at n2; exact n2
      have nD2 : D ≠ p2 := ne_of_none tb.top n2H
      have lq : qs.length = i := by rw [tb.len, List.length_replicate]
      refine ⟨qs.map V.ref, by rw [upd_ne nD2, upd_ne nD1]; exact tb.top, ?_, qs ++ [p2], ⟨?_, ?_, ?_, ?_⟩, ?_, ?_⟩
      · rw [List.length_map, lq]
        exact Nat.lt_of_lt_of_le (Nat.lt_of_lt_of_le hi n8) (by decide)
      · rw [upd_same, List.map_append]; rfl
      · rw [List.length_append, List.length_replicate, lq]; rfl
      · intro j r hr
        by_cases c : j < qs.length
        · rw [List.getElem?_append_left c] at hr
          have hrow := tb.row j r hr
          have k1 : r ≠ D := fun e => (List.nodup_cons.mp tb.nd).1 (by rw [← e]; exact List.mem_of_getElem? hr)
          rw [upd_ne k1, upd_ne (ne_of_none hrow n2H), upd_ne (ne_of_none hrow n1), hrow]
          rw [getD_lt (by rw [List.length_replicate]; omega), getD_lt (by rw [List.length_replicate]; omega), List.getElem_replicate, List.getElem_replicate]
        · rw [List.getElem?_append_right (by omega)] at hr
          have ej : j - qs.length = 0 := by
            have := (List.getElem?_eq_some_iff.mp hr).1
            rw [List.length_singleton] at this
            omega
          rw [ej] at hr
          cases hr
          rw [upd_ne (Ne.symm nD2), upd_same, getD_lt (by rw [List.length_replicate]; omega), List.getElem_replicate]
          have e3 : ∀ m : Nat, (List.replicate m [V.int (-1)]).flatten = vrow (List.replicate m none) := fun m => by
            induction m with
            | zero => rfl
            | succ m ih => rw [List.replicate_succ, List.flatten_cons, ih]; rfl
          rw [en, e3]
      · have h1 := tb.nd
        rw [List.nodup_cons] at h1 ⊢
        have np : ∀ b ∈ qs, b ≠ p2 := fun b hb e => by
          obtain ⟨j, hj⟩ := List.getElem?_of_mem hb
          have := tb.row j b hj
          rw [e, n2H] at this
          cases this
        refine ⟨fun z => ?_, List.nodup_append.mpr ⟨h1.2, by simp, fun a ha b hb => by rw [List.mem_singleton.mp hb]; exact np a ha⟩⟩
        rcases List.mem_append.mp z with y | y
        · exact h1.1 y
        · exact nD2 (List.mem_singleton.mp y)
      · intro b o e
        have e2 := sm b o e
        rw [upd_ne (ne_of_none e hD), upd_ne (ne_of_none e2 n2H), upd_ne (ne_of_none e2 n1)]
        exact e2
      · intro b hb
        rcases List.mem_cons.mp hb with y | y
        · rw [y]; exact hD
        · rcases List.mem_append.mp y with y | y
          · exact fr b (List.mem_cons_of_mem _ y)
          · rw [List.mem_singleton.mp y]; exact sm.free n2H
  rintro H1 ⟨qs, tb, sm, fr⟩
  -- the frame through the stores
  have keep : ∀ {H' H'' : Hp}, Same H H' → (∀ b o, H' b = some o → b ∉ qs → H'' b = some o) → Same H H'' := fun {H' H''} s1 k b o e => k b o (s1 b o e) fun z => by
    have := fr b (List.mem_cons_of_mem _ z)
    rw [this] at e
    cases e
  -- for place in range(places): table[place][place] = 0
  refine ⟨.int n, rfl, (n : Int), rfl, by omega, by omega, ?_⟩
  rw [en]
  refine for_it (walk_range (lo := 0) (n := n)) (fun i σ H' => ∃ y, σ = [some (.int n), some (.ref L), some (.ref D), y, none, none, none] ∧ TabAt H' D qs (diag n i) ∧ Same H H') ⟨none, rfl, tb, sm⟩ (fun _ _ _ _ _ => trivial) ?_ ?_
  · rintro i x σ H' H'' hi ⟨y, rfl, tb', sm'⟩ ⟨rfl, rfl⟩
    refine store2 (x := some 0) (u := i) (v := i) tb' (diag_ok i (Nat.le_of_lt hi)).1 hi hi rfl ?_ ?_ (fun _ z => z) fun H2 tb2 k2 => ?_
    · show some (some (V.int (0 + (i : Int)))) = _
      rw [Int.zero_add]
    · show some (some (V.int (0 + (i : Int)))) = _
      rw [Int.zero_add]
    · rw [← diag_succ] at tb2
      exact ⟨_, rfl, tb2, keep sm' k2⟩
  rintro σ H2 ⟨y, rfl, tb2, sm2⟩
  -- for w, a, b in lines
  have hlen : lv.length = ls.length := by rw [hlv.length, List.length_map]
  refine ⟨.ref L, rfl, L, rfl, ⟨lv, .of (sm2 _ _ (sG _ _ hL))⟩, for_list (K := K) (a := L) (xs := lv) (fun i σ H' => ∃ y3 y4 y5 y6, σ = [some (.int n), some (.ref L), some (.ref D), y3, y4, y5, y6] ∧ TabAt H' D qs ((ls.take i).foldl laid (diag n n)) ∧ Same H H')
    ⟨y, none, none, none, rfl, tb2, sm2⟩ (fun i σ H' _ ⟨_, _, _, _, _, _, s5⟩ => .of (s5 _ _ (sG _ _ hL))) ?_ ?_⟩
  · rintro i x σ H' hi ⟨y3, y4, y5, y6, rfl, tb3, sm3⟩
    have hlt : i < ls.length := by
      rw [← hlen]; exact (List.getElem?_eq_some_iff.mp hi).1
    obtain ⟨x', k1, k2⟩ := hlv.get (i := i) (P := pLine ls[i]) (by rw [List.getElem?_map, List.getElem?_eq_getElem hlt]; rfl)
    rw [hi] at k1
    cases k1
    have wl := hp.ln _ (List.getElem_mem hlt)
    have et : ls.take (i + 1) = ls.take i ++ [ls[i]] := by rw [List.take_add_one, List.getElem?_eq_getElem hlt]; rfl
    have sq := laid_sq hp (Nat.le_of_lt hlt)
    generalize ls[i] = l at k2 wl et
    obtain ⟨a, us, rfl, h2, h3⟩ := k2
    match us, h3 with
    | [x1, x2, x3], h3 =>
      obtain ⟨z1, z2, z3, _⟩ := h3
      have z1' : x1 = .int l.w := z1
      have z2' : x2 = .int l.a := z2
      have z3' : x3 = .int l.b := z3
      subst z1' z2' z3'
      have hb : l.b < n := wl.2.1
      have ha : l.a < n := by omega
      refine ⟨a, _, rfl, .of (sm3 _ _ (sG _ _ h2)), rfl, _, _, rfl, _, _, rfl, _, _, rfl, rfl, ?_⟩
      refine store2 (x := some l.w) (u := l.a) (v := l.b) tb3 sq ha hb rfl rfl rfl (fun _ z => ⟨_, rfl, z⟩) fun H4 tb4 k4 => ?_
      show tAsg (tVar 4) (gSub (tOp (rIxL K) (tVar 2) (tVar 6)) (tVar 5) rSetL) _ _ H4
      refine store2 (x := some l.w) (u := l.b) (v := l.a) tb4 (sq_set2 sq ha) hb ha rfl rfl rfl (fun _ z => ⟨_, rfl, z⟩) fun H5 tb5 k5 => ?_
      refine ⟨_, _, _, _, rfl, ?_, keep (keep sm3 k4) k5⟩
      rw [et, List.foldl_append]
      exact tb5
    | [], h3 => exact h3.elim
    | [_], h3 => exact h3.2.elim
    | [_, _], h3 => exact h3.2.2.elim
    | _ :: _ :: _ :: _ :: _, h3 => exact h3.2.2.2.elim
  · rintro σ H3 ⟨y3, y4, y5, y6, rfl, tb3, sm3⟩
    rw [hlen, List.take_length, laid_start hp] at tb3
    -- return table
    have hrow : ∀ b ∈ D :: qs, ∃ o, H3 b = some o := fun b hb => by
      rcases List.mem_cons.mp hb with e | e
      · rw [e]; exact ⟨_, tb3.top⟩
      · obtain ⟨j, hj⟩ := List.getElem?_of_mem e
        exact ⟨_, tb3.row j b hj⟩
    refine ⟨.ref D, rfl, q _ (fun b => if b ∈ D :: qs then H3 b else G b) H3 ⟨fun b o e => ?_, sm3, fun b o e => ?_, fun b e nb => ?_⟩ ?_⟩
    · have nb : b ∉ D :: qs := fun z => by
        have := fr b z
        rw [sG b o e] at this
        cases this
      rw [if_neg nb]; exact e
    · by_cases c : b ∈ D :: qs
      · rw [if_pos c] at e; exact e
      · rw [if_neg c] at e; exact sm3 _ _ (sG _ _ e)
    · have c : b ∉ D :: qs := fun z => nb (fr b z)
      rw [if_neg c]; exact e
    · refine ⟨D, qs.map V.ref, rfl, by (show (if D ∈ D :: qs then H3 D else G D) = _); rw [if_pos List.mem_cons_self]; exact tb3.top, allP_of_get (by rw [List.length_map, List.length_map]; exact tb3.len) fun i R v e1 e2 => ?_⟩
      rw [List.getElem?_map] at e1 e2
      cases c1 : (Kv402.start n ls)[i]? with
      | none => rw [c1] at e1; cases e1
      | some r =>
        cases c2 : qs[i]? with
        | none => rw [c2] at e2; cases e2
        | some p =>
          rw [c1] at e1
          rw [c2] at e2
          cases e1
          cases e2
          refine ⟨p, vrow r, rfl, ?_, allP_row r⟩
          show (if p ∈ D :: qs then H3 p else G p) = _
          rw [if_pos (List.mem_cons_of_mem _ (List.mem_of_getElem? c2)), tb3.row i p c2, List.getD_eq_getElem?_getD, c1]
          rfl
/-! ### distance_table -/
theorem via_sq {n k : Nat} {t : Tb} (s : Sq n t) (hk : k < n) : Sq n (Kv402.via t k) := by rw [via_thr s hk]; exact thr_sq s hk
def sp_distance_table : Sp := PSp (fun x : Nat × List Line => [pNat x.1, pLines x.2]) (fun x => Wf x.1 x.2) (fun x => pTab (Kv402.table x.1 x.2))
theorem ok_distance_table {f : Addr} {fd : FuncData} (F : Fun K "distance_table" "distance_table" s_distance_table f fd) (T : Txt K mg C) (h_line_table : Has P w K mg base 1 "line_table" ["places", "lines"] sp_line_table) (h_through : Has P w K mg base 2 "through" ["table", "middle"] sp_through) :
    FnOk P w K mg base CX0 3 f fd ["places", "lines"] sp_distance_table := by
  refine F.ok sc_distance_table (psp_len fun _ => rfl) (fun cdv A outer s H vs Q E hr h => ?_)
  refine ⟨_, (pss_cons (ps_set (i := 2) sc_distance_table.nd rfl (Or.inl rfl) (pe_callH h_line_table (hr.mono (by decide)) rfl (pa_cons (pv 0) (pa_cons (pv 1) pa_nil)))) (pss_cons (ps_for PassesOwn.never rfl (pi_range1 rfl T.range (pa_cons (pv 0) pa_nil)) (pg_name (i := 3) sc_distance_table.nd rfl (Or.inl rfl)) (pss_one (ps_set (i := 2) sc_distance_table.nd rfl (Or.inl rfl) (pe_callH h_through (hr.mono (by decide)) rfl (pa_cons (pv 2) (pa_cons (pv 3) pa_nil)))))) (pss_one (ps_ret (pv 2))))), ?_⟩
  refine body_pure h (fun x => [.val (pNat x.1), .val (pLines x.2), .any, .any]) (fun _ => rfl) fun x hp => ?_
  obtain ⟨n, ls⟩ := x
  have hp : Wf n ls := hp
  have n8 := hp.n8
  refine se_seq (se_asg (de_call (x := (n, ls)) (ea_cons (de_var rfl) (ea_cons (de_var rfl) ea_nil)) hp)) (se_seq (se_fold (pf := pNat) (xs := List.range n) (fun t => [.val (pNat n), .val (pLines ls), .val (pTab t), .any]) (fun t k => [.val (pNat n), .val (pLines ls), .val (pTab t), .val (pNat k)]) Kv402.via (Kv402.start n ls)
    (wi_range (ea_cons (de_var rfl) ea_nil) (by omega)) (Sq n) (sq_start n ls) (fun t k => gb_name) (fun t k hk sq => ⟨via_sq sq (List.mem_range.mp hk), se_weak (se_asg (de_call (x := (t, k)) (ea_cons (de_var rfl) (ea_cons (de_var rfl) ea_nil)) ⟨?_, ?_, ?_⟩))⟩)) (se_ret (de_var rfl)))
  · rw [sq.1]; exact List.mem_range.mp hk
  · show Sq t.length t
    rw [sq.1]; exact sq
  · show t.length ≤ 8
    rw [sq.1]; exact n8
end
end Wp
set_option Elab.async false
set_option linter.all false
set_option maxRecDepth 100000
set_option maxHeartbeats 4000000
namespace Wp
open PySem L2
open Kv402 (Line Net)
/-! ### distances: alike both ways, and no way about is shorter -/
/-- no more than -/
def leO : Option Nat → Option Nat → Prop
  | _, none => True
  | some x, some y => x ≤ y
  | none, some _ => False
def Sym (n : Nat) (t : Tb) : Prop := ∀ i j, i < n → j < n → Kv402.at_ t i j = Kv402.at_ t j i
def Tri (n m : Nat) (t : Tb) : Prop := ∀ i j k, i < n → j < n → k < m → leO (Kv402.at_ t i j) (Kv402.plus (Kv402.at_ t i k) (Kv402.at_ t k j))
theorem at_via {n k i j : Nat} {t : Tb} (s : Sq n t) (hk : k < n) (hi : i < n) (hj : j < n) : Kv402.at_ (Kv402.via t k) i j = Kv402.less (Kv402.at_ t i j) (Kv402.plus (Kv402.at_ t i k) (Kv402.at_ t k j)) := by
  rw [via_thr s hk]
  have hi' : i < t.length := by rw [s.1]; exact hi
  have hk' : k < t.length := by rw [s.1]; exact hk
  have li : t[i].length = n := s.2 _ (List.getElem_mem hi')
  have lk : t[k].length = n := s.2 _ (List.getElem_mem hk')
  unfold Kv402.at_ thr
  rw [getD_lt (l := t.map _) (by rw [List.length_map]; exact hi'), List.getElem_map, getD_lt hi', getD_lt hk']
  rw [getD_lt (l := List.map _ (List.zip _ _)) (by rw [List.length_map, List.length_zip, li, lk]; omega), List.getElem_map, List.getElem_zip, getD_lt (l := t[i]) (i := j) (by omega), getD_lt (l := t[k]) (i := j) (by omega)]
theorem less_comm_sym {a b c : Option Nat} : Kv402.less a (Kv402.plus b c) = Kv402.less a (Kv402.plus c b) := by
  cases b with
  | none => cases c <;> rfl
  | some b =>
    cases c with
    | none => rfl
    | some c => show Kv402.less a (some (b + c)) = Kv402.less a (some (c + b)); rw [Nat.add_comm]
theorem sym_via {n k : Nat} {t : Tb} (s : Sq n t) (hk : k < n) (h : Sym n t) : Sym n (Kv402.via t k) := fun i j hi hj => by
  rw [at_via s hk hi hj, at_via s hk hj hi, h i j hi hj, h i k hi hk, h k j hk hj]
  exact less_comm_sym
theorem tri_via {n k : Nat} {t : Tb} (s : Sq n t) (hk : k < n) (h : Tri n k t) : Tri n (k + 1) (Kv402.via t k) := fun i j m hi hj hm => by
  have hmn : m < n := by omega
  rw [at_via s hk hi hj, at_via s hk hi hmn, at_via s hk hmn hj]
  by_cases c : m < k
  · have h1 := h i j m hi hj c
    have h2 := h k j m hk hj c
    have h3 := h i k m hi hk c
    have h4 := h k k m hk hk c
    generalize Kv402.at_ t i j = a at *
    generalize Kv402.at_ t i m = b at *
    generalize Kv402.at_ t m j = d at *
    generalize Kv402.at_ t i k = e at *
    generalize Kv402.at_ t k m = f at *
    generalize Kv402.at_ t m k = g at *
    generalize Kv402.at_ t k j = r at *
    cases a <;> cases b <;> cases d <;> cases e <;> cases f <;> cases g <;> cases r <;> simp only [leO, Kv402.plus, Kv402.less] at * <;> omega
  · have e : m = k := by omega
    subst e
    generalize Kv402.at_ t i j = a at *
    generalize Kv402.at_ t i m = b at *
    generalize Kv402.at_ t m j = d at *
    generalize Kv402.at_ t m m = f at *
    cases a <;> cases b <;> cases d <;> cases f <;> simp only [leO, Kv402.plus, Kv402.less] at * <;> omega
theorem table_fold {n : Nat} (ls : List Line) : ∀ k, k ≤ n → Sq n ((List.range k).foldl Kv402.via (Kv402.start n ls)) ∧ Sym n ((List.range k).foldl Kv402.via (Kv402.start n ls)) ∧ Tri n k ((List.range k).foldl Kv402.via (Kv402.start n ls))
  | 0, _ => ⟨sq_start n ls, fun i j hi hj => by
      show Kv402.at_ (Kv402.start n ls) i j = Kv402.at_ (Kv402.start n ls) j i
      rw [at_start hi hj, at_start hj hi]
      by_cases c : i = j
      · rw [if_pos c, if_pos c.symm]
      · rw [if_neg c, if_neg (Ne.symm c)]
        congr 2
        funext l
        unfold Kv402.ends
        rw [Bool.or_comm], fun i j k _ _ hk => absurd hk (Nat.not_lt_zero k)⟩
  | k + 1, hk => by
    obtain ⟨h1, h2, h3⟩ := table_fold ls k (Nat.le_of_lt hk)
    rw [List.range_succ, List.foldl_append]
    exact ⟨via_sq h1 hk, sym_via h1 hk h2, tri_via h1 hk h3⟩
theorem table_sq (n : Nat) (ls : List Line) : Sq n (Kv402.table n ls) := (table_fold ls n (Nat.le_refl n)).1
theorem table_sym (n : Nat) (ls : List Line) : Sym n (Kv402.table n ls) := (table_fold ls n (Nat.le_refl n)).2.1
theorem table_tri (n : Nat) (ls : List Line) : Tri n n (Kv402.table n ls) := (table_fold ls n (Nat.le_refl n)).2.2
/-! ### marks -/
abbrev Mks := List (List (Nat × Nat))
/-- each mark tells the distance -/
def True_ (n : Nat) (t : Tb) (s : Mks) : Prop := s.length = n ∧ ∀ v, v < n → ∀ m ∈ s.getD v [], m.1 < n ∧ Kv402.at_ t m.1 v = some m.2
/-- told is no less than the distance -/
theorem less_ge {d : Nat} {a b : Option Nat} (ha : ∀ x, a = some x → d ≤ x) (hb : ∀ x, b = some x → d ≤ x) : ∀ x, Kv402.less a b = some x → d ≤ x := fun x e => by
  cases a with
  | none => exact hb x (by cases b <;> exact e)
  | some a =>
    cases b with
    | none => exact ha x e
    | some b =>
      have e' : min a b = x := Option.some.inj e
      have := ha a rfl
      have := hb b rfl
      omega
theorem fold_inv {α β : Type} {I : α → Prop} {f : α → β → α} : ∀ {l : List β} {a : α}, I a → (∀ a b, b ∈ l → I a → I (f a b)) → I (l.foldl f a)
  | [], _, h, _ => h
  | b :: r, a, h, k => fold_inv (l := r) (k a b List.mem_cons_self h) fun a c hc => k a c (List.mem_cons_of_mem _ hc)
theorem told_ge {n : Nat} {t : Tb} {s : Mks} {h v d : Nat} (sy : Sym n t) (tr : Tri n n t) (ok : True_ n t s) (hh : h < n) (hv : v < n) (e : Kv402.at_ t h v = some d) : ∀ x, Kv403.told (s.getD h []) (s.getD v []) = some x → d ≤ x := by
  unfold Kv403.told
  refine fold_inv (I := fun o : Option Nat => ∀ x, o = some x → d ≤ x) (fun x z => by cases z) fun o m hm io => ?_
  refine fold_inv (I := fun o : Option Nat => ∀ x, o = some x → d ≤ x) io fun o m' hm' io => ?_
  by_cases c : m.1 = m'.1
  · rw [if_pos c]
    refine less_ge io fun x z => ?_
    have z' : m.2 + m'.2 = x := Option.some.inj z
    obtain ⟨k1, k2⟩ := ok.2 h hh m hm
    obtain ⟨k3, k4⟩ := ok.2 v hv m' hm'
    have q := tr h v m.1 hh hv k1
    rw [sy h m.1 hh k1, k2, c, k4, e] at q
    have q' : d ≤ m.2 + m'.2 := q
    omega
  · rw [if_neg c]; exact io
/-- one place marks, as the program does it -/
def mkP (t : Tb) (s : Mks) (h : Nat) : Mks := (List.zip s (t.getD h [])).map fun z => match z.2 with
  | none => z.1
  | some d => if Kv403.told (s.getD h []) z.1 = some d then z.1 else z.1 ++ [(h, d)]
theorem mkP_len {n : Nat} {t : Tb} {s : Mks} {h : Nat} (sq : Sq n t) (hs : s.length = n) (hh : h < n) : (mkP t s h).length = n := by
  unfold mkP
  rw [List.length_map, List.length_zip, hs, sq_row sq hh]
  exact Nat.min_self n
theorem mkP_get {n : Nat} {t : Tb} {s : Mks} {h v : Nat} (sq : Sq n t) (hs : s.length = n) (hh : h < n) (hv : v < n) : (mkP t s h).getD v [] = match Kv402.at_ t h v with
    | none => s.getD v []
    | some d => if Kv403.told (s.getD h []) (s.getD v []) = some d then s.getD v [] else s.getD v [] ++ [(h, d)] := by
  have hv' : v < s.length := by rw [hs]; exact hv
  have hr : v < (t.getD h []).length := by rw [sq_row sq hh]; exact hv
  rw [getD_lt (by rw [mkP_len sq hs hh]; exact hv)]
  unfold mkP Kv402.at_
  rw [List.getElem_map, List.getElem_zip, getD_lt hv', getD_lt hr]
theorem mark_mkP {n : Nat} {t : Tb} {s : Mks} {h : Nat} (sq : Sq n t) (sy : Sym n t) (tr : Tri n n t) (ok : True_ n t s) (hh : h < n) : Kv403.mark n t s h = mkP t s h := by
  apply List.ext_getElem
  · unfold Kv403.mark
    rw [List.length_map, List.length_range, mkP_len sq ok.1 hh]
  · intro v h1 h2
    have hv : v < n := by rw [mkP_len sq ok.1 hh] at h2; exact h2
    rw [← getD_lt (d := []) h2, mkP_get sq ok.1 hh hv]
    simp only [Kv403.mark, List.getElem_map, List.getElem_range]
    show (match Kv402.at_ t h v with
      | none => s.getD v []
      | some d => if Kv402.within 1 (Kv403.told (s.getD h []) (s.getD v [])) (some d) = true then s.getD v [] else s.getD v [] ++ [(h, d)]) = _
    cases e : Kv402.at_ t h v with
    | none => rfl
    | some d =>
      have ge := told_ge sy tr ok hh hv e
      show (if Kv402.within 1 (Kv403.told (s.getD h []) (s.getD v [])) (some d) = true then s.getD v [] else s.getD v [] ++ [(h, d)]) = if Kv403.told (s.getD h []) (s.getD v []) = some d then s.getD v [] else s.getD v [] ++ [(h, d)]
      cases c : Kv403.told (s.getD h []) (s.getD v []) with
      | none =>
        rw [if_neg (by show ¬ false = true; decide), if_neg (by intro z; cases z)]
      | some x =>
        have := ge x c
        by_cases z : x = d
        · rw [if_pos (by show decide (x ≤ 1 * d) = true; exact decide_eq_true (by omega)), if_pos (by rw [z])]
        · rw [if_neg (by show ¬ decide (x ≤ 1 * d) = true; rw [decide_eq_true_eq]; omega), if_neg (by intro y; cases y; exact z rfl)]
theorem mkP_true {n : Nat} {t : Tb} {s : Mks} {h : Nat} (sq : Sq n t) (ok : True_ n t s) (hh : h < n) : True_ n t (mkP t s h) := by
  refine ⟨mkP_len sq ok.1 hh, fun v hv m hm => ?_⟩
  rw [mkP_get sq ok.1 hh hv] at hm
  cases e : Kv402.at_ t h v with
  | none => rw [e] at hm; exact ok.2 v hv m hm
  | some d =>
    rw [e] at hm
    have hm' : m ∈ if Kv403.told (s.getD h []) (s.getD v []) = some d then s.getD v [] else s.getD v [] ++ [(h, d)] := hm
    by_cases c : Kv403.told (s.getD h []) (s.getD v []) = some d
    · rw [if_pos c] at hm'; exact ok.2 v hv m hm'
    · rw [if_neg c] at hm'
      rcases List.mem_append.mp hm' with z | z
      · exact ok.2 v hv m z
      · rw [List.mem_singleton.mp z]; exact ⟨hh, e⟩
theorem true_start (n : Nat) (t : Tb) : True_ n t (List.replicate n []) := ⟨List.length_replicate, fun v hv m hm => by
  rw [getD_lt (by rw [List.length_replicate]; exact hv), List.getElem_replicate] at hm
  cases hm⟩
theorem marks_fold {n : Nat} {t : Tb} (sq : Sq n t) (sy : Sym n t) (tr : Tri n n t) : ∀ {o : List Nat} {s : Mks}, (∀ h ∈ o, h < n) → True_ n t s → o.foldl (Kv403.mark n t) s = o.foldl (mkP t) s ∧ True_ n t (o.foldl (mkP t) s)
  | [], s, _, ok => ⟨rfl, ok⟩
  | h :: o, s, ho, ok => by
    have hh := ho h List.mem_cons_self
    rw [List.foldl_cons, List.foldl_cons, mark_mkP sq sy tr ok hh]
    exact marks_fold sq sy tr (fun x hx => ho x (List.mem_cons_of_mem _ hx)) (mkP_true sq ok hh)
/-- each place gets one mark at most in a turn -/
theorem mkP_few {n k : Nat} {t : Tb} {s : Mks} {h : Nat} (sq : Sq n t) (hs : s.length = n) (hh : h < n) (hk : ∀ l ∈ s, l.length ≤ k) : ∀ l ∈ mkP t s h, l.length ≤ k + 1 := fun l hl => by
  obtain ⟨v, hv, rfl⟩ := List.mem_iff_getElem.mp hl
  have hvn : v < n := by rw [mkP_len sq hs hh] at hv; exact hv
  have hle : (s.getD v []).length ≤ k := by rw [getD_lt (by rw [hs]; exact hvn)]; exact hk _ (List.getElem_mem _)
  rw [← getD_lt (d := []) hv, mkP_get sq hs hh hvn]
  cases Kv402.at_ t h v with
  | none => exact Nat.le_succ_of_le hle
  | some d =>
    show (if _ then s.getD v [] else s.getD v [] ++ [(h, d)]).length ≤ k + 1
    split
    · exact Nat.le_succ_of_le hle
    · rw [List.length_append, List.length_singleton]; omega
theorem few_fold {n : Nat} {t : Tb} (sq : Sq n t) : ∀ {o : List Nat} {s : Mks} {k : Nat}, (∀ h ∈ o, h < n) → s.length = n → (∀ l ∈ s, l.length ≤ k) → ∀ l ∈ o.foldl (mkP t) s, l.length ≤ k + o.length
  | [], s, k, _, _, hk => hk
  | h :: o, s, k, ho, hs, hk => fun l hl => by
    have hh := ho h List.mem_cons_self
    have := few_fold sq (o := o) (k := k + 1) (fun x hx => ho x (List.mem_cons_of_mem _ hx)) (mkP_len sq hs hh) (mkP_few sq hs hh hk) l hl
    rw [List.length_cons]; omega
end Wp
set_option Elab.async false
set_option linter.all false
set_option maxRecDepth 100000
set_option maxHeartbeats 4000000
namespace Wp
open PySem L2
open Kv402 (Line Net)
section
variable {P : Program} {w : World} {K : PySem.W.Frag} {mg : Str → Option Value} {base : Heap} {C : Addr}
/-! ### marks_behind -/
def sp_marks_behind : Sp := PSp (fun x : Tb × Mks × Nat => [pTab x.1, pAll x.2.1, pNat x.2.2]) (fun x => ∃ n, n ≤ 8 ∧ Sq n x.1 ∧ x.2.1.length = n ∧ x.2.2 < n ∧ ∀ l ∈ x.2.1, l.length ≤ 1000) (fun x => pAll (mkP x.1 x.2.1 x.2.2))
theorem ok_marks_behind {f : Addr} {fd : FuncData} (F : Fun K "marks_behind" "marks_behind" s_marks_behind f fd) (T : Txt K mg C) (h_told_by : Has P w K mg base 1 "told_by" ["ours", "theirs"] sp_told_by) : FnOk P w K mg base CX0 2 f fd ["table", "marks", "place"] sp_marks_behind := by
  refine F.ok sc_marks_behind (psp_len fun _ => rfl) (fun cdv A outer s H vs Q E hr h => ?_)
  refine ⟨_, (pss_cons (ps_set (i := 3) sc_marks_behind.nd rfl (Or.inl rfl) (pe_lst pa_nil)) (pss_cons (ps_for PassesOwn.never rfl (pi_zip rfl T.zip (pa_cons (pv 1) (pa_cons (pe_ix ix_list (pv 0) (pv 2) (fun _ _ => rfl)) pa_nil))) (pg_tup rfl (pgs_cons (pg_name (i := 4) sc_marks_behind.nd rfl (Or.inl rfl)) (pgs_cons (pg_name (i := 5) sc_marks_behind.nd rfl (Or.inl rfl)) pgs_nil))) (pss_one (ps_if (PW.pt (pw_or (pt_cmpR op_eq (pv 5) (pe_gi T.NOTHING rfl) (nomark _)) (pw_or1 (pt_cmpR op_eq (pe_callH h_told_by (hr.mono (by decide)) rfl (pa_cons (pe_ix ix_list (pv 1) (pv 2) (fun _ _ => rfl)) (pa_cons (pv 4) pa_nil))) (pv 5) (nomark _))))) (pss_one (ps_expr (pe_bm PySem.F.plainAttrs_list PySem.F.slot_list_append PySem.F.type_list_append mt_append (pv 3) (pa_cons (pv 4) pa_nil)))) (pss_one (ps_expr (pe_bm PySem.F.plainAttrs_list PySem.F.slot_list_append PySem.F.type_list_append mt_append (pv 3) (pa_cons (pe_op op_cat (pv 4) (pe_lst (pa_cons (pe_tup (pa_cons (pv 2) (pa_cons (pv 5) pa_nil))) pa_nil))) pa_nil))))))) (pss_one (ps_ret (pv 3))))), ?_⟩
  refine body_pure h (fun x => [.val (pTab x.1), .val (pAll x.2.1), .val (pNat x.2.2), .any, .any, .any]) (fun _ => rfl) fun x hp => ?_
  obtain ⟨t, s, h⟩ := x
  obtain ⟨n, n8, sq, hs, hh, few⟩ := hp
  have sq : Sq n t := sq
  have hs : s.length = n := hs
  have hh : h < n := hh
  have few : ∀ l ∈ s, l.length ≤ 1000 := few
  have gt : t[h]? = some (t.getD h []) := by rw [getD_lt (by rw [sq.1]; exact hh), List.getElem?_eq_getElem]
  have gs : s[h]? = some (s.getD h []) := by rw [getD_lt (by rw [hs]; exact hh), List.getElem?_eq_getElem]
  refine se_new (Ps := []) ea_nil (by show 3 < 6; decide) (by decide) fun a => ?_
  refine se_seq (se_push (xs := List.zip s (t.getD h [])) (pf := fun z : List (Nat × Nat) × Option Nat => pTup [pMarks z.1, pON z.2]) (rf := fun z => pMarks (match z.2 with | none => z.1 | some d => if Kv403.told (s.getD h []) z.1 = some d then z.1 else z.1 ++ [(h, d)]))
    (fun Ps => [.val (pTab t), .val (pAll s), .val (pNat h), .own a (muL Ps), .any, .any]) (fun Ps z => [.val (pTab t), .val (pAll s), .val (pNat h), .own a (muL Ps), .val (pMarks z.1), .val (pON z.2)])
    (wi_is (wi_zip (ea_cons (de_var rfl) (ea_cons (de_ixL (de_var rfl) (de_var rfl) (atI_map pRow gt)) ea_nil))) (zip_pr _ _ _ _)) (fun _ z => gb_two) (fun pre z post e => ?_)) (se_freeze (i := 3) rfl (se_ret (de_is (de_var rfl) ?_)))
  · have hl : (List.zip s (t.getD h [])).length = n := by rw [List.length_zip, hs, sq_row sq hh]; exact Nat.min_self n
    have hpre : (pre.map fun z : List (Nat × Nat) × Option Nat => pMarks (match z.2 with | none => z.1 | some d => if Kv403.told (s.getD h []) z.1 = some d then z.1 else z.1 ++ [(h, d)])).length < 100000 := by
      rw [List.length_map]
      have : pre.length < n := by rw [← hl, e]; simp
      omega
    have hz : z.1 ∈ s := by
      have : z ∈ List.zip s (t.getD h []) := by rw [e]; simp
      exact (List.of_mem_zip this).1
    obtain ⟨l, o⟩ := z
    refine se_if (et_or (et_test (de_eq (de_var rfl) de_int)) fun _ => et_test (de_eq (de_call (x := (s.getD h [], l)) (ea_cons (de_ixL (de_var rfl) (de_var rfl) (atI_map pMarks gs)) (ea_cons (de_var rfl) ea_nil)) trivial) (de_var rfl))) (fun e => ?_) (fun e => ?_)
    · refine se_weak (se_append (i := 3) rfl (de_is (de_var rfl) ?_) hpre)
      rw [Bool.or_eq_true, decide_eq_true_eq, decide_eq_true_eq, onI_none, onI_inj] at e
      cases o with
      | none => rfl
      | some d =>
        rcases e with e | e
        · cases e
        · show pMarks l = pMarks (if Kv403.told (s.getD h []) l = some d then l else l ++ [(h, d)])
          rw [if_pos e]
    · rw [Bool.or_eq_false_iff, decide_eq_false_iff_not, decide_eq_false_iff_not, onI_none, onI_inj] at e
      obtain ⟨d, rfl⟩ := Option.ne_none_iff_exists'.mp e.1
      have e2 : ¬ Kv403.told (s.getD h []) l = some d := e.2
      have fl := few l hz
      refine se_weak (se_append (i := 3) rfl (de_is (de_cat (de_var rfl) (de_lst (ea_cons (de_tup (ea_cons (de_var rfl) (ea_cons (de_var rfl) ea_nil)) (by simp)) ea_nil) (by simp)) (by rw [List.length_map]; simp; omega)) ?_) hpre)
      show pList (l.map pMark ++ [pMark (h, d)]) = pMarks (if Kv403.told (s.getD h []) l = some d then l else l ++ [(h, d)])
      rw [if_neg e2]
      unfold pMarks
      rw [List.map_append]
      rfl
  · show pList ((List.zip s (t.getD h [])).map _) = pAll (mkP t s h)
    unfold pAll mkP
    rw [List.map_map]
    rfl
/-! ### marks_by -/
def sp_marks_by : Sp := PSp (fun x : Nat × List Line × List Nat => [pTab (Kv402.table x.1 x.2.1), pNats x.2.2]) (fun x => Wf x.1 x.2.1 ∧ (∀ h ∈ x.2.2, h < x.1) ∧ x.2.2.length ≤ 8) (fun x => pAll (Kv403.marks ⟨x.1, x.2.1⟩ x.2.2))
theorem ok_marks_by {f : Addr} {fd : FuncData} (F : Fun K "marks_by" "marks_by" s_marks_by f fd) (T : Txt K mg C) (h_marks_behind : Has P w K mg base 2 "marks_behind" ["table", "marks", "place"] sp_marks_behind) : FnOk P w K mg base CX0 3 f fd ["table", "order"] sp_marks_by := by
  refine F.ok sc_marks_by (psp_len fun _ => rfl) (fun cdv A outer s H vs Q E hr h => ?_)
  refine ⟨_, (pss_cons (ps_setLc (i := 2) (own := [("distances", 3)]) (g := (gName 3)) (tt := tYes) (te := (tLst tNil)) rfl sc_marks_by.nd rfl rfl (sw_true rfl rfl rfl (by decide +kernel)) (pi_list (pv 0)) (blkOk_by (own := [("distances", 3)]) (N := ["table", "order", "marks", "distances", "place"]) (sc := defScope s_marks_by) (by decide +kernel)) (fun _ _ _ _ _ => (pg_name (i := 3) sc_marks_by.nd rfl (Or.inl rfl))) (fun _ _ _ _ _ => pts_nil) (fun _ _ _ _ _ => (pe_lst pa_nil))) (pss_cons (ps_for PassesOwn.never rfl (pi_list (pv 1)) (pg_name (i := 4) sc_marks_by.nd rfl (Or.inl rfl)) (pss_one (ps_set (i := 2) sc_marks_by.nd rfl (Or.inl rfl) (pe_callH h_marks_behind (hr.mono (by decide)) rfl (pa_cons (pv 0) (pa_cons (pv 2) (pa_cons (pv 4) pa_nil))))))) (pss_one (ps_ret (pv 2))))), ?_⟩
  refine body_pure h (fun x => [.val (pTab (Kv402.table x.1 x.2.1)), .val (pNats x.2.2), .any, .any, .any]) (fun _ => rfl) fun x hp => ?_
  obtain ⟨n, ls, o⟩ := x
  obtain ⟨hw, ho, h8⟩ := hp
  have hw : Wf n ls := hw
  have ho : ∀ h ∈ o, h < n := ho
  have h8 : o.length ≤ 8 := h8
  have n8 := hw.n8
  have sq := table_sq n ls
  refine se_seq (se_asg (P := pAll (List.replicate n [])) (de_is (de_map (pf := pRow) (rf := fun _ => pList []) (xs := Kv402.table n ls) (fun r => [.val (pTab (Kv402.table n ls)), .val (pNats o), .any, .val (pRow r), .any]) (wi_list (de_var rfl)) rfl (fun r => gc_name (by simp)) (fun r _ => de_lst ea_nil (by decide)) (by rw [sq.1]; omega)) ?_))
    (se_seq (se_foldx (pf := pNat) (xs := o) (fun s => [.val (pTab (Kv402.table n ls)), .val (pNats o), .val (pAll s), .any, .any]) (fun s k => [.val (pTab (Kv402.table n ls)), .val (pNats o), .val (pAll s), .any, .val (pNat k)]) (mkP (Kv402.table n ls)) (List.replicate n [])
      (wi_is (wi_list (Ps := (inl o).map pInt) (de_var rfl)) (inl_map o)) (fun s k => gb_name) (fun pre k post e => se_weak (se_asg (de_call (x := (Kv402.table n ls, pre.foldl (mkP (Kv402.table n ls)) (List.replicate n []), k)) (ea_cons (de_var rfl) (ea_cons (de_var rfl) (ea_cons (de_var rfl) ea_nil))) ?_)))) (se_ret (de_is (de_var rfl) ?_)))
  · show pList (List.map (fun _ => pList []) (Kv402.table n ls)) = pList ((List.replicate n []).map pMarks)
    rw [List.map_const', List.map_replicate, sq.1]
    rfl
  · have hpre : ∀ h ∈ pre, h < n := fun h hh => ho h (by rw [e]; simp [hh])
    have ok := (marks_fold sq (table_sym n ls) (table_tri n ls) hpre (true_start n _)).2
    refine ⟨n, n8, sq, ok.1, ho k (by rw [e]; simp), fun l hl => ?_⟩
    have := few_fold sq (k := 0) hpre List.length_replicate (fun l hl => by rw [List.eq_of_mem_replicate hl]; exact Nat.le_refl 0) l hl
    have hp8 : pre.length ≤ o.length := by rw [e]; simp
    omega
  · show pAll (o.foldl (mkP (Kv402.table n ls)) (List.replicate n [])) = pAll (Kv403.marks ⟨n, ls⟩ o)
    rw [← (marks_fold sq (table_sym n ls) (table_tri n ls) ho (true_start n _)).1]
    rfl
/-! ### how_many -/
theorem sum_cast : ∀ l : List Nat, (l.map fun n : Nat => (n : Int)).sum = ((l.sum : Nat) : Int)
  | [] => rfl
  | x :: r => by rw [List.map_cons, List.sum_cons, List.sum_cons, sum_cast r, Int.natCast_add]
def sp_how_many : Sp := PSp (fun x : Mks => [pAll x]) (fun x => x.length ≤ 1000) (fun x => pNat (Kv403.size x))
theorem ok_how_many {f : Addr} {fd : FuncData} (F : Fun K "how_many" "how_many" s_how_many f fd) (T : Txt K mg C) : FnOk P w K mg base CX0 1 f fd ["marks"] sp_how_many := by
  refine F.ok sc_how_many (psp_len fun _ => rfl) (fun cdv A outer s H vs Q E hr h => ?_)
  refine ⟨_, (pss_one (ps_ret (pe_callB (cr_sum rfl) rfl T.sum (by decide +kernel) (pa_cons (pe_lc (own := [("had", 1)]) (g := (gName 1)) (tt := tYes) (te := (tCB (fun xs H Q => ∃ p ys, xs = [.ref p] ∧ (SqL K H p ys ∨ SqT K H p ys) ∧ Q (.int ys.length) H) (tCons (tVar 1) tNil))) rfl sc_how_many.nd (pi_list (pv 0)) (blkOk_by (own := [("had", 1)]) (N := ["marks", "had"]) (sc := defScope s_how_many) (by decide +kernel)) (fun _ _ _ _ _ => (pg_name (i := 1) sc_how_many.nd rfl (Or.inl rfl))) (fun _ _ _ _ _ => pts_nil) (fun _ _ _ _ _ => (pe_callB call_len_seq rfl T.len (by decide +kernel) (pa_cons (pv 1) pa_nil)))) pa_nil)))), ?_⟩
  refine body_pure h (fun x => [.val (pAll x), .any]) (fun _ => rfl) fun x hp => ?_
  refine se_ret (de_is (de_cb (ea_cons (P := pList ((x.map fun l => (l.length : Int)).map pInt)) (de_is (de_map (pf := pMarks) (rf := fun l => pInt (l.length : Int)) (xs := x) (fun l => [.val (pAll x), .val (pMarks l)]) (wi_list (de_var rfl)) rfl (fun r => gc_name (by simp)) (fun r _ => de_is (de_cb (ea_cons (de_var rfl) ea_nil) rc_len) (by rw [List.length_map])) (Nat.le_trans hp (by decide))) ?_) ea_nil) rc_sum) ?_)
  · rw [List.map_map]; rfl
  · have e : (x.map fun l => (l.length : Int)) = (x.map List.length).map fun n : Nat => (n : Int) := by rw [List.map_map]; rfl
    rw [e, sum_cast]
    rfl
end
end Wp
set_option Elab.async false
set_option linter.all false
set_option maxRecDepth 100000
set_option maxHeartbeats 4000000
namespace Wp
open PySem L2
open Kv402 (Line Net)
/-! ### all orders -/
def one (n : Nat) (row : List Nat) : List (List Nat) := ((List.range n).filter fun p => !row.contains p).map fun p => row ++ [p]
def ext (n : Nat) (rows : List (List Nat)) : List (List Nat) := rows.flatMap (one n)
def exts (n : Nat) : Nat → List (List Nat) → List (List Nat)
  | 0, r => r
  | k + 1, r => exts n k (ext n r)
theorem exts_append (n : Nat) : ∀ k a b, exts n k (a ++ b) = exts n k a ++ exts n k b
  | 0, _, _ => rfl
  | k + 1, a, b => by show exts n k (ext n (a ++ b)) = exts n k (ext n a) ++ exts n k (ext n b); unfold ext; rw [List.flatMap_append]; exact exts_append n k _ _
theorem exts_flatMap (n k : Nat) {α : Type} (f : α → List (List Nat)) : ∀ l : List α, exts n k (l.flatMap f) = l.flatMap fun x => exts n k (f x)
  | [] => by
    have : ∀ k, exts n k [] = [] := fun k => by induction k with | zero => rfl | succ k ih => exact ih
    exact this k
  | x :: r => by rw [List.flatMap_cons, exts_append, exts_flatMap n k f r, List.flatMap_cons]
theorem flatMap_one {α β : Type} (f : α → β) : ∀ l : List α, (l.flatMap fun p => [f p]) = l.map f
  | [] => rfl
  | x :: r => by rw [List.flatMap_cons, flatMap_one f r]; rfl
theorem exts_orders (n : Nat) : ∀ k row, exts n k [row] = (Kv403.orders k ((List.range n).filter fun p => !row.contains p)).map fun q => row ++ q
  | 0, row => by show [row] = [row ++ []]; rw [List.append_nil]
  | k + 1, row => by
    show exts n k (ext n [row]) = (Kv403.orders (k + 1) _).map _
    have e1 : ext n [row] = ((List.range n).filter fun p => !row.contains p).flatMap fun p => [row ++ [p]] := by
      unfold ext one
      rw [List.flatMap_cons, List.flatMap_nil, List.append_nil, flatMap_one]
    rw [e1, exts_flatMap]
    unfold Kv403.orders
    rw [List.map_flatMap]
    have e2 : ∀ p, exts n k [row ++ [p]] = (((Kv403.orders k (((List.range n).filter fun p => !row.contains p).filter fun y => y != p)).map fun q => p :: q).map fun q => row ++ q) := fun p => by
      rw [exts_orders n k (row ++ [p]), List.filter_filter, List.map_map]
      have e3 : (fun x => !(row ++ [p]).contains x) = fun a => (a != p && !row.contains a) := by
        funext x
        rw [List.contains_eq_any_beq, List.contains_eq_any_beq, List.any_append, List.any_cons, List.any_nil, Bool.or_false, Bool.not_or, Bool.and_comm]
        rfl
      rw [e3]
      refine List.map_congr_left fun q _ => ?_
      show row ++ [p] ++ q = row ++ (p :: q)
      rw [List.append_assoc]; rfl
    simp only [e2]
theorem exts_all (n : Nat) : exts n n [[]] = Kv403.orders n (List.range n) := by
  rw [exts_orders n n []]
  have e : ((List.range n).filter fun p => !([] : List Nat).contains p) = List.range n := List.filter_eq_self.mpr fun _ _ => rfl
  rw [e]
  exact List.map_id' _
theorem one_len (n : Nat) (row : List Nat) : (one n row).length ≤ n := by
  unfold one
  rw [List.length_map]
  exact Nat.le_trans (List.length_filter_le _ _) (by rw [List.length_range]; exact Nat.le_refl n)
theorem ext_len (n : Nat) : ∀ rows : List (List Nat), (ext n rows).length ≤ rows.length * n
  | [] => by simp [ext]
  | r :: rs => by
    have ih := ext_len n rs
    unfold ext at ih ⊢
    rw [List.flatMap_cons, List.length_append, List.length_cons, Nat.succ_mul]
    have := one_len n r
    omega
/-- what is in it -/
def Good (n k : Nat) (row : List Nat) : Prop := row.length = k ∧ ∀ x ∈ row, x < n
theorem good_ext {n k : Nat} {rows : List (List Nat)} (h : ∀ r ∈ rows, Good n k r) : ∀ r ∈ ext n rows, Good n (k + 1) r := fun r hr => by
  obtain ⟨q, hq, hr'⟩ := List.mem_flatMap.mp hr
  obtain ⟨p, hp, rfl⟩ := List.mem_map.mp hr'
  obtain ⟨h1, h2⟩ := h q hq
  refine ⟨by rw [List.length_append, h1]; rfl, fun x hx => ?_⟩
  rcases List.mem_append.mp hx with z | z
  · exact h2 x z
  · rw [List.mem_singleton.mp z]; exact List.mem_range.mp (List.mem_filter.mp hp).1
def itr (n k : Nat) : List (List Nat) := (List.range k).foldl (fun r _ => ext n r) [[]]
theorem itr_succ (n k : Nat) : itr n (k + 1) = ext n (itr n k) := by unfold itr; rw [List.range_succ, List.foldl_append]; rfl
theorem exts_succ (n : Nat) : ∀ k r, exts n (k + 1) r = ext n (exts n k r)
  | 0, _ => rfl
  | k + 1, r => exts_succ n k (ext n r)
theorem itr_exts (n : Nat) : ∀ k, itr n k = exts n k [[]]
  | 0 => rfl
  | k + 1 => by rw [itr_succ, itr_exts n k, exts_succ]
theorem itr_good (n : Nat) : ∀ k, ∀ r ∈ itr n k, Good n k r
  | 0 => fun r hr => by
    have : r = [] := List.mem_singleton.mp hr
    rw [this]; exact ⟨rfl, fun x hx => by cases hx⟩
  | k + 1 => by rw [itr_succ]; exact good_ext (itr_good n k)
theorem itr_len {n : Nat} (hn : n ≤ 5) : ∀ k, k ≤ 5 → (itr n k).length ≤ 5 ^ k
  | 0, _ => Nat.le_refl 1
  | k + 1, hk => by
    rw [itr_succ]
    refine Nat.le_trans (ext_len n _) (Nat.le_trans (Nat.mul_le_mul (itr_len hn k (by omega)) hn) ?_)
    exact Nat.le_refl _
section
variable {P : Program} {w : World} {K : PySem.W.Frag} {mg : Str → Option Value} {base : Heap} {C : Addr}
def pRows (r : List (List Nat)) : Pr := pList (r.map pNats)
theorem contains_inl (l : List Nat) (x : Nat) : (inl l).contains (x : Int) = l.contains x := by
  induction l with
  | nil => rfl
  | cons a r ih =>
    show ((a : Int) :: inl r).contains (x : Int) = (a :: r).contains x
    rw [List.contains_cons, List.contains_cons, ih]
    congr 1
    by_cases c : x = a
    · rw [c]; simp
    · rw [beq_eq_false_iff_ne.mpr c, beq_eq_false_iff_ne.mpr (by omega)]
def sp_one_longer : Sp := PSp (fun x : List (List Nat) × Nat => [pRows x.1, pNat x.2]) (fun x => x.1.length ≤ 10000 ∧ x.2 ≤ 8 ∧ ∀ r ∈ x.1, r.length ≤ 1000) (fun x => pRows (ext x.2 x.1))
theorem fold_ext (n : Nat) : ∀ (rows acc : List (List Nat)), rows.foldl (fun s r => s ++ one n r) acc = acc ++ ext n rows
  | [], acc => (List.append_nil acc).symm
  | r :: rs, acc => by rw [List.foldl_cons, fold_ext n rs]; unfold ext; rw [List.flatMap_cons, List.append_assoc]
theorem fold_one (row : List Nat) : ∀ (ps : List Nat) (acc : List (List Nat)), ps.foldl (fun s p => if row.contains p then s else s ++ [row ++ [p]]) acc = acc ++ (ps.filter fun p => !row.contains p).map fun p => row ++ [p]
  | [], acc => (List.append_nil acc).symm
  | p :: ps, acc => by
    rw [List.foldl_cons, fold_one row ps, List.filter_cons]
    cases c : row.contains p with
    | true => rfl
    | false =>
      show (acc ++ [row ++ [p]]) ++ _ = acc ++ ((row ++ [p]) :: _)
      rw [List.append_assoc]; rfl
theorem ok_one_longer {f : Addr} {fd : FuncData} (F : Fun K "one_longer" "one_longer" s_one_longer f fd) (T : Txt K mg C) : FnOk P w K mg base CX0 1 f fd ["rows", "places"] sp_one_longer := by
  refine F.ok sc_one_longer (psp_len fun _ => rfl) (fun cdv A outer s H vs Q E hr h => ?_)
  refine ⟨_, (pss_cons (ps_set (i := 2) sc_one_longer.nd rfl (Or.inl rfl) (pe_lst pa_nil)) (pss_cons (ps_for PassesOwn.never rfl (pi_list (pv 0)) (pg_name (i := 3) sc_one_longer.nd rfl (Or.inl rfl)) (pss_one (ps_for PassesOwn.never rfl (pi_range1 rfl T.range (pa_cons (pv 1) pa_nil)) (pg_name (i := 4) sc_one_longer.nd rfl (Or.inl rfl)) (pss_one (ps_if (pt_cmpR op_notIn_seq (pv 4) (pv 3) (by rfl)) (pss_one (ps_expr (pe_bm PySem.F.plainAttrs_list PySem.F.slot_list_append PySem.F.type_list_append mt_append (pv 2) (pa_cons (pe_op op_cat (pv 3) (pe_lst (pa_cons (pv 4) pa_nil))) pa_nil)))) pss_nil))))) (pss_one (ps_ret (pv 2))))), ?_⟩
  refine body_pure h (fun x => [.val (pRows x.1), .val (pNat x.2), .any, .any, .any]) (fun _ => rfl) fun x hp => ?_
  obtain ⟨rows, n⟩ := x
  obtain ⟨hr, n8, hl⟩ := hp
  have hr : rows.length ≤ 10000 := hr
  have n8 : n ≤ 8 := n8
  refine se_new (Ps := []) ea_nil (by show 2 < 5; decide) (by decide) fun a => ?_
  refine se_seq (se_foldx (pf := pNats) (xs := rows) (fun s : List (List Nat) => [.val (pRows rows), .val (pNat n), .own a (muL (s.map pNats)), .any, .any]) (fun s r => [.val (pRows rows), .val (pNat n), .own a (muL (s.map pNats)), .val (pNats r), .any]) (fun s r => s ++ one n r) []
    (wi_list (de_var rfl)) (fun s r => gb_name) (fun pre r post e => ?_)) (se_freeze (i := 2) rfl (se_ret (de_is (de_var rfl) ?_)))
  · have hrl : r.length ≤ 1000 := hl r (by rw [show (rows, n).1 = pre ++ r :: post from e]; simp)
    have hpre : pre.length < rows.length := by rw [e]; simp
    rw [fold_ext, List.nil_append]
    have el := ext_len n pre
    have el2 : pre.length * n ≤ 10000 * 8 := Nat.mul_le_mul (by omega) n8
    refine se_weak (Γ1 := [.val (pRows rows), .val (pNat n), .own a (muL ((ext n pre ++ one n r).map pNats)), .val (pNats r), .any]) (se_is (se_foldx (pf := pNat) (xs := List.range n) (fun s : List (List Nat) => [.val (pRows rows), .val (pNat n), .own a (muL (s.map pNats)), .val (pNats r), .any]) (fun s p => [.val (pRows rows), .val (pNat n), .own a (muL (s.map pNats)), .val (pNats r), .val (pNat p)])
      (fun s p => if r.contains p then s else s ++ [r ++ [p]]) (ext n pre) (wi_range (ea_cons (de_var rfl) ea_nil) (by omega)) (fun s p => gb_name) (fun pre2 p post2 e2 => ?_)) ?_)
    rotate_left
    · rw [fold_one]; rfl
    · rw [fold_one]
      have hp2 : pre2.length < n := by
        have := congrArg List.length e2
        rw [List.length_range, List.length_append, List.length_cons] at this
        omega
      have hf := List.length_filter_le (fun p => !r.contains p) pre2
      refine se_if (b := !r.contains p) (et_is (et_test (de_notIn (de_var rfl) (de_var rfl))) (by rw [contains_inl])) (fun c => ?_) (fun c => ?_)
      · rw [Bool.not_eq_true'] at c
        rw [if_neg (by rw [c]; exact Bool.false_ne_true)]
        refine se_weak (se_append (i := 2) rfl (P := pNats (r ++ [p])) (de_is (de_cat (Ps := (inl r).map pInt) (de_var rfl) (de_lst (ea_cons (de_var rfl) ea_nil) (by simp)) ?_) ?_) ?_) ?_
        · unfold inl
          rw [List.length_map, List.length_map]; simp; omega
        · unfold pNats inl
          rw [List.map_append, List.map_append]; rfl
        · rw [List.length_map, List.length_append, List.length_map]; omega
        · rw [show ∀ X : List (List Nat), (X ++ [r ++ [p]]).map pNats = X.map pNats ++ [pNats (r ++ [p])] from fun X => by rw [List.map_append]; rfl]
          exact .keep (.keep (.keep (.keep (.drop .nil))))
      · rw [Bool.not_eq_false'] at c
        rw [if_pos c]
        exact se_weak se_next
  · show pList ((rows.foldl (fun s r => s ++ one n r) []).map pNats) = pRows (ext n rows)
    rw [fold_ext]
    rfl
/-! ### all_orders -/
def sp_all_orders : Sp := PSp (fun x : Nat => [pNat x]) (fun x => x ≤ 5) (fun x => pRows (Kv403.orders x (List.range x)))
theorem ok_all_orders {f : Addr} {fd : FuncData} (F : Fun K "all_orders" "all_orders" s_all_orders f fd) (T : Txt K mg C) (h_one_longer : Has P w K mg base 1 "one_longer" ["rows", "places"] sp_one_longer) : FnOk P w K mg base CX0 2 f fd ["places"] sp_all_orders := by
  refine F.ok sc_all_orders (psp_len fun _ => rfl) (fun cdv A outer s H vs Q E hr h => ?_)
  refine ⟨_, (pss_cons (ps_set (i := 1) sc_all_orders.nd rfl (Or.inl rfl) (pe_lst (pa_cons (pe_lst pa_nil) pa_nil))) (pss_cons (ps_for PassesOwn.never rfl (pi_range1 rfl T.range (pa_cons (pv 0) pa_nil)) (pg_name (i := 2) sc_all_orders.nd rfl (Or.inl rfl)) (pss_one (ps_set (i := 1) sc_all_orders.nd rfl (Or.inl rfl) (pe_callH h_one_longer (hr.mono (by decide)) rfl (pa_cons (pv 1) (pa_cons (pv 0) pa_nil)))))) (pss_one (ps_ret (pv 1))))), ?_⟩
  refine body_pure h (fun x => [.val (pNat x), .any, .any]) (fun _ => rfl) fun n hp => ?_
  have hp : n ≤ 5 := hp
  refine se_seq (se_asg (P := pRows [[]]) (de_lst (ea_cons (de_lst ea_nil (by decide)) ea_nil) (by simp))) (se_seq (se_foldx (pf := pNat) (xs := List.range n) (fun s => [.val (pNat n), .val (pRows s), .any]) (fun s k => [.val (pNat n), .val (pRows s), .val (pNat k)]) (fun r _ => ext n r) [[]]
    (wi_range (ea_cons (de_var rfl) ea_nil) (by omega)) (fun s k => gb_name) (fun pre k post e => se_weak (se_asg (de_call (x := (pre.foldl (fun r _ => ext n r) [[]], n)) (ea_cons (de_var rfl) (ea_cons (de_var rfl) ea_nil)) ?_)))) (se_ret (de_is (de_var rfl) ?_)))
  · have hl : pre.length < n := by
      have := congrArg List.length e
      rw [List.length_range, List.length_append, List.length_cons] at this
      omega
    have ep : pre = List.range pre.length := by
      have : (List.range n).take pre.length = pre := by rw [e]; exact List.take_left
      rw [List.take_range, Nat.min_eq_left (by omega)] at this
      exact this.symm
    have e2 : pre.foldl (fun r _ => ext n r) [[]] = itr n pre.length := by
      unfold itr
      rw [← ep]
    show (pre.foldl (fun r _ => ext n r) [[]]).length ≤ 10000 ∧ n ≤ 8 ∧ ∀ r ∈ pre.foldl (fun r _ => ext n r) [[]], r.length ≤ 1000
    rw [e2]
    refine ⟨Nat.le_trans (itr_len hp pre.length (by omega)) (Nat.le_trans (Nat.pow_le_pow_right (by decide) (show pre.length ≤ 5 by omega)) (by decide)), by omega, fun r hr => ?_⟩
    rw [(itr_good n pre.length r hr).1]; omega
  · show pRows ((List.range n).foldl (fun r _ => ext n r) [[]]) = pRows (Kv403.orders n (List.range n))
    rw [← exts_all, ← itr_exts]
    rfl
/-! ### best_order -/
/-- the first with the least -/
def pick (sz : List Nat → Nat) (b : List Nat × Option Nat) (o : List Nat) : List Nat × Option Nat := if (decide (onI b.2 = -1) || decide ((sz o : Int) < onI b.2)) = true then (o, some (sz o)) else b
theorem pick_none (sz : List Nat → Nat) (x o : List Nat) : pick sz (x, none) o = (o, some (sz o)) := rfl
theorem pick_some (sz : List Nat → Nat) (x o : List Nat) (m : Nat) : pick sz (x, some m) o = if sz o < m then (o, some (sz o)) else (x, some m) := by
  unfold pick
  show (if (decide ((m : Int) = -1) || decide ((sz o : Int) < (m : Int))) = true then _ else _) = _
  rw [decide_eq_false (show ¬ (m : Int) = -1 by omega), Bool.false_or]
  by_cases h : sz o < m
  · rw [decide_eq_true (by omega), if_pos rfl, if_pos h]
  · rw [decide_eq_false (by omega), if_neg Bool.false_ne_true, if_neg h]
theorem foldl_min_le : ∀ (l : List Nat) (a : Nat), l.foldl min a ≤ a ∧ ∀ x ∈ l, l.foldl min a ≤ x
  | [], a => ⟨Nat.le_refl a, fun x hx => by cases hx⟩
  | y :: r, a => by
    obtain ⟨h1, h2⟩ := foldl_min_le r (min a y)
    rw [List.foldl_cons]
    refine ⟨by omega, fun x hx => ?_⟩
    rcases List.mem_cons.mp hx with e | e
    · rw [e]; omega
    · exact h2 x e
theorem foldl_min_mem : ∀ (l : List Nat) (a : Nat), l.foldl min a = a ∨ l.foldl min a ∈ l
  | [], a => .inl rfl
  | y :: r, a => by
    rw [List.foldl_cons]
    rcases foldl_min_mem r (min a y) with e | e
    · rw [e]
      by_cases h : a ≤ y
      · exact .inl (by omega)
      · refine .inr ?_
        rw [show min a y = y by omega]
        exact List.mem_cons_self
    · exact .inr (List.mem_cons_of_mem _ e)
def First (sz : List Nat → Nat) (l : List (List Nat)) (b : List Nat × Option Nat) : Prop := ∃ x m, b = (x, some m) ∧ sz x = m ∧ (∃ l1 l2, l = l1 ++ x :: l2 ∧ ∀ y ∈ l1, m < sz y) ∧ ∀ y ∈ l, m ≤ sz y
theorem first_step (sz : List Nat → Nat) {l : List (List Nat)} {b : List Nat × Option Nat} {o : List Nat} (h : First sz l b) : First sz (l ++ [o]) (pick sz b o) := by
  obtain ⟨x, m, rfl, e, ⟨l1, l2, el, h1⟩, h2⟩ := h
  rw [pick_some]
  by_cases c : sz o < m
  · rw [if_pos c]
    refine ⟨o, sz o, rfl, rfl, ⟨l, [], rfl, fun y hy => ?_⟩, fun y hy => ?_⟩
    · have := h2 y hy; omega
    · rcases List.mem_append.mp hy with z | z
      · have := h2 y z; omega
      · rw [List.mem_singleton.mp z]; exact Nat.le_refl _
  · rw [if_neg c]
    refine ⟨x, m, rfl, e, ⟨l1, l2 ++ [o], by rw [el, List.append_assoc]; rfl, h1⟩, fun y hy => ?_⟩
    rcases List.mem_append.mp hy with z | z
    · exact h2 y z
    · rw [List.mem_singleton.mp z]; omega
theorem first_fold (sz : List Nat → Nat) : ∀ (r l : List (List Nat)) (b : List Nat × Option Nat), First sz l b → First sz (l ++ r) (r.foldl (pick sz) b)
  | [], l, b, h => by rw [List.append_nil]; exact h
  | o :: r, l, b, h => by
    have := first_fold sz r (l ++ [o]) (pick sz b o) (first_step sz h)
    rw [List.append_assoc] at this
    exact this
theorem first_all (sz : List Nat → Nat) {o : List Nat} {r : List (List Nat)} : First sz (o :: r) ((o :: r).foldl (pick sz) ([], none)) := by
  rw [List.foldl_cons, pick_none]
  refine first_fold sz r [o] _ ⟨o, sz o, rfl, rfl, ⟨[], [], rfl, fun y hy => by cases hy⟩, fun y hy => ?_⟩
  rw [List.mem_singleton.mp hy]; exact Nat.le_refl _
theorem first_find (sz : List Nat → Nat) {l : List (List Nat)} {b : List Nat × Option Nat} {c : Nat} (h : First sz l b) (hc : ∃ o ∈ l, sz o ≤ c) : (l.find? fun o => sz o == (l.map sz).foldl min c) = some b.1 := by
  obtain ⟨x, m, rfl, e, ⟨l1, l2, el, h1⟩, h2⟩ := h
  have hx : x ∈ l := by rw [el]; simp
  have em : (l.map sz).foldl min c = m := by
    obtain ⟨k1, k2⟩ := foldl_min_le (l.map sz) c
    have k3 := k2 (sz x) (List.mem_map_of_mem hx)
    obtain ⟨o, ho, hoc⟩ := hc
    have k4 := h2 o ho
    rcases foldl_min_mem (l.map sz) c with z | z
    · omega
    · obtain ⟨y, hy, ey⟩ := List.mem_map.mp z
      have := h2 y hy
      omega
  rw [em, List.find?_eq_some_iff_append]
  refine ⟨by rw [e]; exact beq_self_eq_true m, l1, l2, el, fun a ha => ?_⟩
  have := h1 a ha
  rw [beq_eq_false_iff_ne.mpr (by omega)]
  rfl
theorem orders_ne (n : Nat) : ∃ o r, Kv403.orders n (List.range n) = o :: r := by
  cases e : Kv403.orders n (List.range n) with
  | cons o r => exact ⟨o, r, rfl⟩
  | nil =>
    have h : ∀ (k : Nat) (l : List Nat), l.Nodup → l.length = k → Kv403.orders k l ≠ [] := fun k => by
      induction k with
      | zero => intro l _ _; exact List.cons_ne_nil _ _
      | succ k ih =>
        intro l hd hl
        cases l with
        | nil => cases hl
        | cons x r =>
          obtain ⟨hx, hr⟩ := List.nodup_cons.mp hd
          have ef : (x :: r).filter (fun y => y != x) = r := by
            rw [List.filter_cons, if_neg (by simp)]
            exact List.filter_eq_self.mpr fun y hy => by
              have : y ≠ x := fun z => hx (by rw [← z]; exact hy)
              simp [this]
          have := ih r hr (Nat.succ.inj hl)
          unfold Kv403.orders
          rw [List.flatMap_cons, ef]
          cases c : Kv403.orders k r with
          | nil => exact absurd c this
          | cons a b => intro z; cases z
    exact absurd e (h n _ List.nodup_range List.length_range)
theorem size_le {n : Nat} {ls : List Line} {o : List Nat} (ho : Good n n o) : Kv403.size (Kv403.marks ⟨n, ls⟩ o) ≤ n * n := by
  have sq := table_sq n ls
  have e : Kv403.marks ⟨n, ls⟩ o = o.foldl (mkP (Kv402.table n ls)) (List.replicate n []) := (marks_fold sq (table_sym n ls) (table_tri n ls) ho.2 (true_start n _)).1
  have f := few_fold sq (s := List.replicate n []) (k := 0) ho.2 List.length_replicate (fun l hl => by rw [List.eq_of_mem_replicate hl]; exact Nat.le_refl 0)
  have ln := (marks_fold sq (table_sym n ls) (table_tri n ls) ho.2 (true_start n (Kv402.table n ls))).2.1
  rw [e]
  unfold Kv403.size
  generalize o.foldl (mkP (Kv402.table n ls)) (List.replicate n []) = s at f ln
  rw [Nat.zero_add, ho.1] at f
  have h : ∀ (l : List (List (Nat × Nat))), (∀ x ∈ l, x.length ≤ n) → (l.map List.length).sum ≤ l.length * n := fun l => by
    induction l with
    | nil => intro _; exact Nat.zero_le _
    | cons x r ih =>
      intro hx
      have h1 := hx x List.mem_cons_self
      have h2 := ih fun y hy => hx y (List.mem_cons_of_mem _ hy)
      rw [List.map_cons, List.sum_cons, List.length_cons, Nat.succ_mul]
      omega
  have := h s f
  rw [ln] at this
  exact this
theorem best_is (n : Nat) (ls : List Line) : ((Kv403.orders n (List.range n)).foldl (pick fun o => Kv403.size (Kv403.marks ⟨n, ls⟩ o)) ([], none)).1 = Kv403.best ⟨n, ls⟩ := by
  obtain ⟨o, r, e⟩ := orders_ne n
  have hg : Good n n o := itr_good n n o (by rw [itr_exts, exts_all, e]; exact List.mem_cons_self)
  have hf : First (fun o => Kv403.size (Kv403.marks ⟨n, ls⟩ o)) (Kv403.orders n (List.range n)) ((Kv403.orders n (List.range n)).foldl (pick fun o => Kv403.size (Kv403.marks ⟨n, ls⟩ o)) ([], none)) := by rw [e]; exact first_all _
  have := first_find _ (c := n * n) hf ⟨o, by rw [e]; exact List.mem_cons_self, size_le hg⟩
  unfold Kv403.best
  show _ = (((Kv403.orders n (List.range n)).find? fun o => Kv403.size (Kv403.marks ⟨n, ls⟩ o) == ((Kv403.orders n (List.range n)).map fun o => Kv403.size (Kv403.marks ⟨n, ls⟩ o)).foldl min (n * n))).getD []
  rw [this]
  rfl
theorem best_good (n : Nat) (ls : List Line) : Kv403.best ⟨n, ls⟩ ∈ Kv403.orders n (List.range n) := by
  rw [← best_is]
  obtain ⟨o, r, e⟩ := orders_ne n
  have hf : First (fun o => Kv403.size (Kv403.marks ⟨n, ls⟩ o)) (Kv403.orders n (List.range n)) ((Kv403.orders n (List.range n)).foldl (pick fun o => Kv403.size (Kv403.marks ⟨n, ls⟩ o)) ([], none)) := by rw [e]; exact first_all _
  obtain ⟨x, m, h1, _, ⟨l1, l2, h2, _⟩, _⟩ := hf
  rw [h1, h2]
  simp
def sp_best_order : Sp := PSp (fun x : Nat × List Line => [pTab (Kv402.table x.1 x.2)]) (fun x => Wf x.1 x.2 ∧ x.1 ≤ 5) (fun x => pNats (Kv403.best ⟨x.1, x.2⟩))
theorem ok_best_order {f : Addr} {fd : FuncData} (F : Fun K "best_order" "best_order" s_best_order f fd) (T : Txt K mg C) (h_all_orders : Has P w K mg base 2 "all_orders" ["places"] sp_all_orders) (h_how_many : Has P w K mg base 1 "how_many" ["marks"] sp_how_many) (h_marks_by : Has P w K mg base 3 "marks_by" ["table", "order"] sp_marks_by) :
    FnOk P w K mg base CX0 4 f fd ["table"] sp_best_order := by
  refine F.ok sc_best_order (psp_len fun _ => rfl) (fun cdv A outer s H vs Q E hr h => ?_)
  refine ⟨_, (pss_cons (ps_set (i := 1) sc_best_order.nd rfl (Or.inl rfl) (pe_lst pa_nil)) (pss_cons (ps_set (i := 2) sc_best_order.nd rfl (Or.inl rfl) (pe_gi T.NOTHING rfl)) (pss_cons (ps_for PassesOwn.never rfl (pi_list (pe_callH h_all_orders (hr.mono (by decide)) rfl (pa_cons (pe_callB call_len_seq rfl T.len (by decide +kernel) (pa_cons (pv 0) pa_nil)) pa_nil))) (pg_name (i := 3) sc_best_order.nd rfl (Or.inl rfl)) (pss_cons (ps_set (i := 4) sc_best_order.nd rfl (Or.inl rfl) (pe_callH h_how_many (hr.mono (by decide)) rfl (pa_cons (pe_callH h_marks_by (hr.mono (by decide)) rfl (pa_cons (pv 0) (pa_cons (pv 3) pa_nil))) pa_nil))) (pss_one (ps_if (PW.pt (pw_or (pt_cmpR op_eq (pv 2) (pe_gi T.NOTHING rfl) (nomark _)) (pw_or1 (pt_cmpR op_lt (pv 4) (pv 2) (nomark _))))) (pss_cons (ps_set (i := 1) sc_best_order.nd rfl (Or.inl rfl) (pv 3)) (pss_one (ps_set (i := 2) sc_best_order.nd rfl (Or.inl rfl) (pv 4)))) pss_nil)))) (pss_one (ps_ret (pv 1)))))), ?_⟩
  refine body_pure h (fun x => [.val (pTab (Kv402.table x.1 x.2)), .any, .any, .any, .any]) (fun _ => rfl) fun x hp => ?_
  obtain ⟨n, ls⟩ := x
  obtain ⟨hw, n5⟩ := hp
  have hw : Wf n ls := hw
  have n5 : n ≤ 5 := n5
  have sq := table_sq n ls
  refine se_seq (se_asg (P := pNats []) (de_lst ea_nil (by decide))) (se_seq (se_asg (P := pON none) de_int) (se_seq (se_fold (pf := pNats) (xs := Kv403.orders n (List.range n)) (fun s : List Nat × Option Nat => [.val (pTab (Kv402.table n ls)), .val (pNats s.1), .val (pON s.2), .any, .any])
    (fun s o => [.val (pTab (Kv402.table n ls)), .val (pNats s.1), .val (pON s.2), .val (pNats o), .any]) (pick fun o => Kv403.size (Kv403.marks ⟨n, ls⟩ o)) ([], none)
    (wi_list (de_call (x := n) (ea_cons (de_is (de_cb (ea_cons (de_var rfl) ea_nil) rc_len) ?_) ea_nil) n5)) (fun _ => True) trivial (fun s o => gb_name) (fun s o ho _ => ⟨trivial, ?_⟩)) (se_ret (de_is (de_var rfl) (by rw [best_is])))))
  · rw [List.length_map, sq.1]
  · have hg : Good n n o := itr_good n n o (by rw [itr_exts, exts_all]; exact ho)
    have h8 := hw.n8
    have ln : (Kv403.marks ⟨n, ls⟩ o).length ≤ 1000 := by
      have ok := marks_fold sq (table_sym n ls) (table_tri n ls) hg.2 (true_start n (Kv402.table n ls))
      have e : Kv403.marks ⟨n, ls⟩ o = o.foldl (mkP (Kv402.table n ls)) (List.replicate n []) := ok.1
      rw [e, ok.2.1]; omega
    refine se_seq (se_asg (de_call (x := Kv403.marks ⟨n, ls⟩ o) (ea_cons (de_call (x := (n, ls, o)) (ea_cons (de_var rfl) (ea_cons (de_var rfl) ea_nil)) ⟨hw, hg.2, by rw [hg.1]; exact h8⟩) ea_nil) ln)) ?_
    unfold pick
    refine se_if (et_or (et_test (de_eq (de_var rfl) de_int)) fun _ => et_test (de_lt (de_var rfl) (de_var rfl))) (fun e => ?_) (fun e => ?_)
    · rw [if_pos e]
      exact se_seq (se_asg (de_var rfl)) (se_weak (se_asg (de_var rfl)))
    · rw [if_neg (by rw [e]; exact Bool.false_ne_true)]
      exact se_weak se_next
end
end Wp
set_option Elab.async false
set_option linter.all false
set_option maxRecDepth 100000
set_option maxHeartbeats 4000000
namespace Wp
open PySem L2
open Kv402 (Line Net)
/-! ### a for that goes through while all is well -/
theorem se_all {α : Type} {wi : TI} {g : TG} {tb : TS} {xs : List α} {pf : α → Pr} {c : α → Bool} {Γ Δr : List Sl} {R : Pr} (Γb : α → List Sl) (hw : WI wi Γ (xs.map pf)) (hg : ∀ x, GB g Γ (pf x) (Γb x))
    (hb : ∀ x ∈ xs, SE tb (Γb x) (if c x = true then .nx Γ else .rt R Δr)) : SE (tFor wi g tb) Γ (if xs.all c = true then .nx Γ else .rt R Δr) := by
  have hx : ∀ {i : Nat} {P : Pr}, (xs.map pf)[i]? = some P → ∃ h : i < xs.length, P = pf xs[i] := fun {i P} e => by
    rw [List.getElem?_map] at e
    cases c : xs[i]? with
    | none => rw [c] at e; cases e
    | some x =>
      rw [c] at e
      obtain ⟨h, rfl⟩ := List.getElem?_eq_some_iff.mp c
      exact ⟨h, (Option.some.inj e).symm⟩
  by_cases ha : xs.all c = true
  · rw [if_pos ha]
    refine se_forG (Ps := xs.map pf) xs.length hw (fun _ => Γ) (fun i => match xs[i]? with | some x => Γb x | none => []) rfl (fun i P e _ => ?_) (fun i P e hi => ?_) (.inl ⟨by rw [List.length_map], rfl⟩)
    · obtain ⟨h, rfl⟩ := hx e
      show GB g _ _ (match xs[i]? with | some x => Γb x | none => [])
      rw [List.getElem?_eq_getElem h]
      exact hg _
    · obtain ⟨h, rfl⟩ := hx e
      have := hb _ (List.getElem_mem h)
      rw [if_pos (List.all_eq_true.mp ha _ (List.getElem_mem h))] at this
      show SE tb (match xs[i]? with | some x => Γb x | none => []) (.nx Γ)
      rw [List.getElem?_eq_getElem h]
      exact this
  · rw [if_neg ha]
    have hj : xs.findIdx (fun x => !c x) < xs.length := by
      rw [List.findIdx_lt_length]
      rw [List.all_eq_true] at ha
      by_cases z : ∃ x ∈ xs, (!c x) = true
      · exact z
      · exact absurd (fun x hx => by
          cases e : c x with
          | true => rfl
          | false => exact absurd ⟨x, hx, by rw [e]; rfl⟩ z) ha
    refine se_forG (Ps := xs.map pf) (xs.findIdx fun x => !c x) hw (fun _ => Γ) (fun i => match xs[i]? with | some x => Γb x | none => []) rfl (fun i P e _ => ?_) (fun i P e hi => ?_) (.inr ⟨by rw [List.length_map]; exact hj, ?_, R, Δr, rfl⟩)
    · obtain ⟨h, rfl⟩ := hx e
      show GB g _ _ (match xs[i]? with | some x => Γb x | none => [])
      rw [List.getElem?_eq_getElem h]
      exact hg _
    · obtain ⟨h, rfl⟩ := hx e
      have := hb _ (List.getElem_mem h)
      have hc : c xs[i] = true := by
        have := List.not_of_lt_findIdx hi
        simpa using this
      rw [if_pos hc] at this
      show SE tb (match xs[i]? with | some x => Γb x | none => []) (.nx Γ)
      rw [List.getElem?_eq_getElem h]
      exact this
    · have := hb _ (List.getElem_mem hj)
      have hc : ¬ c xs[xs.findIdx fun x => !c x] = true := by
        have := List.findIdx_getElem (w := hj)
        simpa using this
      rw [if_neg hc] at this
      show SE tb (match xs[xs.findIdx fun x => !c x]? with | some x => Γb x | none => []) _
      rw [List.getElem?_eq_getElem hj]
      exact this
theorem se_allW {t : TS} {Γ Γ1 Γ2 Δr : List Sl} {R : Pr} {b : Bool} (h : SE t Γ (if b = true then .nx Γ1 else .rt R Δr)) (w : Wk Γ1 Γ2 := by repeat (first | exact Wk.nil | apply Wk.keep | apply Wk.drop)) : SE t Γ (if b = true then .nx Γ2 else .rt R Δr) := by
  cases b with
  | true => exact se_weak (Γ1 := Γ1) h w
  | false => exact h
theorem se_allS {t u : TS} {Γ Γ1 Δr : List Sl} {R : Pr} {o : Out} {b : Bool} (h : SE t Γ (if b = true then .nx Γ1 else .rt R Δr)) (h1 : b = true → SE u Γ1 o) (h2 : b = false → o = .rt R Δr) : SE (tSeq t u) Γ o := by
  cases b with
  | true => exact se_seq (Γ1 := Γ1) h (h1 rfl)
  | false => rw [h2 rfl]; exact se_seqR h
/-! ### all_right -/
def rightT (n : Nat) (t : Tb) (s : Mks) : Bool := (List.range n).all fun u => (List.range n).all fun v => Kv403.told (s.getD u []) (s.getD v []) == Kv402.at_ t u v
theorem all_zip {α β : Type} {n : Nat} {xs : List α} {ys : List β} (d : α) (e : β) (hx : xs.length = n) (hy : ys.length = n) (f : α × β → Bool) : (List.zip xs ys).all f = (List.range n).all fun i => f (xs.getD i d, ys.getD i e) := by
  have : List.zip xs ys = (List.range n).map fun i => (xs.getD i d, ys.getD i e) := by
    apply List.ext_getElem
    · rw [List.length_zip, List.length_map, List.length_range, hx, hy]; exact Nat.min_self n
    · intro i h1 h2
      rw [List.length_map, List.length_range] at h2
      rw [List.getElem_zip, List.getElem_map, List.getElem_range, getD_lt (by omega), getD_lt (by omega)]
  rw [this, List.all_map]
  rfl
theorem rightT_zip {n : Nat} {t : Tb} {s : Mks} (sq : Sq n t) (hs : s.length = n) : rightT n t s = (List.zip s t).all fun z => (List.zip s z.2).all fun y => decide (onI (Kv403.told z.1 y.1) = onI y.2) := by
  rw [all_zip [] [] hs sq.1]
  unfold rightT
  rw [Bool.eq_iff_iff, List.all_eq_true, List.all_eq_true]
  have key : ∀ u, u ∈ List.range n → (((List.range n).all fun v => Kv403.told (s.getD u []) (s.getD v []) == Kv402.at_ t u v) = (List.zip s (t.getD u [])).all fun y => decide (onI (Kv403.told (s.getD u []) y.1) = onI y.2)) := fun u hu => by
    rw [all_zip [] none hs (sq_row sq (List.mem_range.mp hu))]
    congr 1
    funext v
    show (Kv403.told (s.getD u []) (s.getD v []) == (t.getD u []).getD v none) = decide (onI (Kv403.told (s.getD u []) (s.getD v [])) = onI ((t.getD u []).getD v none))
    by_cases c : Kv403.told (s.getD u []) (s.getD v []) = (t.getD u []).getD v none
    · rw [c, decide_eq_true rfl]; exact beq_self_eq_true _
    · rw [decide_eq_false (fun z => c (onI_inj.mp z))]; exact beq_eq_false_iff_ne.mpr c
  exact ⟨fun h u hu => by rw [← key u hu]; exact h u hu, fun h u hu => by rw [key u hu]; exact h u hu⟩
section
variable {P : Program} {w : World} {K : PySem.W.Frag} {mg : Str → Option Value} {base : Heap} {C : Addr}
def sp_all_right : Sp := PSp (fun x : Nat × Tb × Mks => [pTab x.2.1, pAll x.2.2]) (fun x => Sq x.1 x.2.1 ∧ x.2.2.length = x.1) (fun x => pBl (rightT x.1 x.2.1 x.2.2))
theorem ok_all_right {f : Addr} {fd : FuncData} (F : Fun K "all_right" "all_right" s_all_right f fd) (T : Txt K mg C) (h_told_by : Has P w K mg base 1 "told_by" ["ours", "theirs"] sp_told_by) : FnOk P w K mg base CX0 2 f fd ["table", "marks"] sp_all_right := by
  refine F.ok sc_all_right (psp_len fun _ => rfl) (fun cdv A outer s H vs Q E hr h => ?_)
  refine ⟨_, (pss_cons (ps_for PassesOwn.never rfl (pi_zip rfl T.zip (pa_cons (pv 1) (pa_cons (pv 0) pa_nil))) (pg_tup rfl (pgs_cons (pg_name (i := 2) sc_all_right.nd rfl (Or.inl rfl)) (pgs_cons (pg_name (i := 3) sc_all_right.nd rfl (Or.inl rfl)) pgs_nil))) (pss_one (ps_for PassesOwn.never rfl (pi_zip rfl T.zip (pa_cons (pv 1) (pa_cons (pv 3) pa_nil))) (pg_tup rfl (pgs_cons (pg_name (i := 4) sc_all_right.nd rfl (Or.inl rfl)) (pgs_cons (pg_name (i := 5) sc_all_right.nd rfl (Or.inl rfl)) pgs_nil))) (pss_one (ps_if (pt_cmpR op_ne (pe_callH h_told_by (hr.mono (by decide)) rfl (pa_cons (pv 2) (pa_cons (pv 4) pa_nil))) (pv 5) (nomark _)) (pss_one (ps_ret pe_bl)) pss_nil))))) (pss_one (ps_ret pe_bl))), ?_⟩
  refine body_pure h (fun x => [.val (pTab x.2.1), .val (pAll x.2.2), .any, .any, .any, .any]) (fun _ => rfl) fun x hp => ?_
  obtain ⟨n, t, s⟩ := x
  obtain ⟨sq, hs⟩ := hp
  have sq : Sq n t := sq
  have hs : s.length = n := hs
  refine se_allS (R := pBl false) (Δr := []) (b := (List.zip s t).all fun z => (List.zip s z.2).all fun y => decide (onI (Kv403.told z.1 y.1) = onI y.2)) (se_all (pf := fun z : List (Nat × Nat) × List (Option Nat) => pTup [pMarks z.1, pRow z.2]) (fun z => [.val (pTab t), .val (pAll s), .val (pMarks z.1), .val (pRow z.2), .any, .any])
    (wi_is (wi_zip (ea_cons (de_var rfl) (ea_cons (de_var rfl) ea_nil))) (zip_pr _ _ _ _)) (fun z => gb_two) (fun z hz => ?_)) (fun e => se_ret (de_is de_bl ?_)) (fun e => ?_)
  · refine se_allW (se_all (pf := fun y : List (Nat × Nat) × Option Nat => pTup [pMarks y.1, pON y.2]) (fun y => [.val (pTab t), .val (pAll s), .val (pMarks z.1), .val (pRow z.2), .val (pMarks y.1), .val (pON y.2)])
      (wi_is (wi_zip (ea_cons (de_var rfl) (ea_cons (de_var rfl) ea_nil))) (zip_pr _ _ _ _)) (fun y => gb_two) (fun y hy => ?_))
    refine se_if (et_test (de_ne (de_call (x := (z.1, y.1)) (ea_cons (de_var rfl) (ea_cons (de_var rfl) ea_nil)) trivial) (de_var rfl))) (fun e => ?_) (fun e => ?_)
    · rw [Bool.not_eq_true'] at e
      rw [if_neg (by rw [e]; exact Bool.false_ne_true)]
      exact se_ret de_bl
    · rw [Bool.not_eq_false'] at e
      rw [if_pos e]
      exact se_weak se_next
  · rw [rightT_zip sq hs, e]
  · rw [rightT_zip sq hs, e]
/-! ### marks_in -/
/-- some places' marks read off a row: these, and what is left -/
def rd : Nat → List Nat → Option (Mks × List Nat)
  | 0, l => some ([], l)
  | i + 1, l => match rd i l with
    | none => none
    | some (m, []) => none
    | some (m, k :: r) => if r.length < 2 * k then none else some (m ++ [Kv403.read.twos (r.take (2 * k))], r.drop (2 * k))
theorem read_rd : ∀ (i j : Nat) (l : List Nat), Kv403.read (i + j) l = match rd i l with
    | none => none
    | some (m, rest) => (Kv403.read j rest).map (m ++ ·)
  | 0, j, l => by
    rw [Nat.zero_add]
    show _ = (Kv403.read j l).map ([] ++ ·)
    cases Kv403.read j l <;> rfl
  | i + 1, j, l => by
    rw [Nat.add_right_comm, Nat.add_assoc, read_rd i (j + 1) l]
    show _ = match (match rd i l with
      | none => none
      | some (m, []) => none
      | some (m, k :: r) => if r.length < 2 * k then none else some (m ++ [Kv403.read.twos (r.take (2 * k))], r.drop (2 * k))) with
      | none => none
      | some (m, rest) => (Kv403.read j rest).map (m ++ ·)
    cases rd i l with
    | none => rfl
    | some p =>
      obtain ⟨m, rest⟩ := p
      cases rest with
      | nil => rfl
      | cons k r =>
        show (Kv403.read (j + 1) (k :: r)).map (m ++ ·) = match (if r.length < 2 * k then none else some (m ++ [Kv403.read.twos (r.take (2 * k))], r.drop (2 * k))) with
          | none => none
          | some (m, rest) => (Kv403.read j rest).map (m ++ ·)
        have e : Kv403.read (j + 1) (k :: r) = if r.length < 2 * k then none else match Kv403.read j (r.drop (2 * k)) with
          | none => none
          | some s => some (Kv403.read.twos (r.take (2 * k)) :: s) := rfl
        rw [e]
        by_cases c : r.length < 2 * k
        · rw [if_pos c, if_pos c]; rfl
        · rw [if_neg c, if_neg c]
          show Option.map _ (match Kv403.read j (r.drop (2 * k)) with | none => none | some s => some (Kv403.read.twos (r.take (2 * k)) :: s)) = (Kv403.read j (r.drop (2 * k))).map _
          cases Kv403.read j (r.drop (2 * k)) with
          | none => rfl
          | some s => show some (m ++ (_ :: s)) = some ((m ++ [_]) ++ s); rw [List.append_assoc]; rfl
theorem twos_range : ∀ (k : Nat) (r : List Nat), 2 * k ≤ r.length → Kv403.read.twos (r.take (2 * k)) = (List.range k).map fun i => (r.getD (2 * i) 0, r.getD (2 * i + 1) 0)
  | 0, _, _ => rfl
  | k + 1, [], h => by simp at h
  | k + 1, [_], h => by simp at h; omega
  | k + 1, x :: y :: r, h => by
    have ih := twos_range k r (by simp at h; omega)
    rw [show 2 * (k + 1) = 2 * k + 2 by omega, List.take_succ_cons, List.take_succ_cons]
    show (x, y) :: Kv403.read.twos (r.take (2 * k)) = _
    rw [ih, List.range_succ_eq_map, List.map_cons, List.map_map]
    rfl
end
end Wp
set_option Elab.async false
set_option linter.all false
set_option maxRecDepth 100000
set_option maxHeartbeats 4000000
namespace Wp
open PySem L2
open Kv402 (Line Net)
/-! ### a for that carries a state until it is none -/
def orN {S : Type} (R : Pr) (Δr : List Sl) (Δ : S → List Sl) : Option S → Out
  | none => .rt R Δr
  | some s => .nx (Δ s)
theorem se_try {S : Type} {wi : TI} {g : TG} {tb : TS} {Ps : List Pr} {Δr : List Sl} {R : Pr} (st : Nat → Option S) (Δ : S → List Sl) (Δb : S → Nat → List Sl) (s0 : S) (h0 : st 0 = some s0) (hn : ∀ i, st i = none → st (i + 1) = none) (hw : WI wi (Δ s0) Ps)
    (hg : ∀ s i P, Ps[i]? = some P → GB g (Δ s) P (Δb s i)) (hb : ∀ i s, i < Ps.length → st i = some s → SE tb (Δb s i) (orN R Δr Δ (st (i + 1)))) : SE (tFor wi g tb) (Δ s0) (orN R Δr Δ (st Ps.length)) := by
  have mono : ∀ i j, i ≤ j → st i = none → st j = none := fun i j h e => by
    induction h with
    | refl => exact e
    | step _ ih => exact hn _ ih
  by_cases c : ∃ j, j < Ps.length ∧ (∃ s, st j = some s) ∧ st (j + 1) = none
  · obtain ⟨j, hj, ⟨s, es⟩, en⟩ := c
    have eN : st Ps.length = none := mono (j + 1) _ hj en
    rw [eN]
    have some_at : ∀ i, i ≤ j → ∃ s, st i = some s := fun i hi => by
      cases e : st i with
      | none => rw [mono i j hi e] at es; cases es
      | some s => exact ⟨s, rfl⟩
    refine se_forG (Ps := Ps) j hw (fun i => match st i with | some s => Δ s | none => []) (fun i => match st i with | some s => Δb s i | none => []) (by show (match st 0 with | some s => Δ s | none => []) = _; rw [h0]) (fun i P e hi => ?_) (fun i P e hi => ?_) (.inr ⟨hj, ?_, R, Δr, rfl⟩)
    · obtain ⟨s', e'⟩ := some_at i hi
      show GB g (match st i with | some s => Δ s | none => []) P (match st i with | some s => Δb s i | none => [])
      rw [e']
      exact hg s' i P e
    · obtain ⟨s', e'⟩ := some_at i (Nat.le_of_lt hi)
      obtain ⟨s2, e2⟩ := some_at (i + 1) hi
      have := hb i s' (List.getElem?_eq_some_iff.mp e).1 e'
      rw [e2] at this
      show SE tb (match st i with | some s => Δb s i | none => []) (.nx (match st (i + 1) with | some s => Δ s | none => []))
      rw [e', e2]
      exact this
    · have := hb j s hj es
      rw [en] at this
      show SE tb (match st j with | some s => Δb s j | none => []) _
      rw [es]
      exact this
  · have all : ∀ i, i ≤ Ps.length → ∃ s, st i = some s := fun i => by
      induction i with
      | zero => intro _; exact ⟨s0, h0⟩
      | succ i ih =>
        intro hi
        obtain ⟨s, es⟩ := ih (Nat.le_of_lt hi)
        cases e : st (i + 1) with
        | none => exact absurd ⟨i, hi, ⟨s, es⟩, e⟩ c
        | some s' => exact ⟨s', rfl⟩
    obtain ⟨sN, eN⟩ := all Ps.length (Nat.le_refl _)
    refine se_forG (Ps := Ps) Ps.length hw (fun i => match st i with | some s => Δ s | none => []) (fun i => match st i with | some s => Δb s i | none => []) (by show (match st 0 with | some s => Δ s | none => []) = _; rw [h0]) (fun i P e hi => ?_) (fun i P e hi => ?_) (.inl ⟨rfl, ?_⟩)
    · obtain ⟨s', e'⟩ := all i hi
      show GB g (match st i with | some s => Δ s | none => []) P (match st i with | some s => Δb s i | none => [])
      rw [e']
      exact hg s' i P e
    · obtain ⟨s', e'⟩ := all i (Nat.le_of_lt hi)
      obtain ⟨s2, e2⟩ := all (i + 1) hi
      have := hb i s' hi e'
      rw [e2] at this
      show SE tb (match st i with | some s => Δb s i | none => []) (.nx (match st (i + 1) with | some s => Δ s | none => []))
      rw [e', e2]
      exact this
    · rw [eN]
      rfl
theorem se_tryS {S : Type} {t u : TS} {Γ Δr : List Sl} {R : Pr} {Δ : S → List Sl} {o : Out} {st : Option S} (h : SE t Γ (orN R Δr Δ st)) (h1 : ∀ s, st = some s → SE u (Δ s) o) (h2 : st = none → o = .rt R Δr) : SE (tSeq t u) Γ o := by
  cases st with
  | none => rw [h2 rfl]; exact se_seqR h
  | some s => exact se_seq (Γ1 := Δ s) h (h1 s rfl)
/-! ### range(a, b, 2) -/
theorem fitsL {i : Int} (h1 : -1000000000 ≤ i) (h2 : i ≤ 1000000000) : Builtin.Range.rangeFitsLong i = true := by
  unfold Builtin.Range.rangeFitsLong
  rw [Bool.and_eq_true, decide_eq_true_eq, decide_eq_true_eq]
  omega
theorem rgC_two {a k : Nat} (ha : a ≤ 100000) (hk : k ≤ 100000) : RgC (a : Int) ((a + 2 * k : Nat) : Int) 2 k := by
  have e : Builtin.Range.rangeSize (a : Int) ((a + 2 * k : Nat) : Int) 2 = (k : Int) := by
    unfold Builtin.Range.rangeSize
    rw [if_pos (by decide)]
    split <;> omega
  refine ⟨by decide, by decide, ?_, e⟩
  unfold Builtin.Range.small
  rw [e, fitsL (i := (a : Int)) (by omega) (by omega), fitsL (i := ((a + 2 * k : Nat) : Int)) (by omega) (by omega), fitsL (i := 2) (by omega) (by omega), fitsL (i := (k : Int)) (by omega) (by omega), if_pos (by decide), fitsL (i := ((a + 2 * k : Nat) : Int) + (2 - 1)) (by omega) (by omega), Bool.or_true]
  rfl
theorem wi_range3 {Γ : List Sl} {tA : TA} {i j c : Int} {n : Nat} (h : EA tA Γ [pInt i, pInt j, pInt c]) (hr : RgC i j c n) : WI (iRng3 tA) Γ ((List.range n).map fun k => pInt (i + (k : Nat) * c)) := fun G H σ f R q => h G H σ f _ fun vs G2 H2 g hv => by
  match vs, hv with
  | [x, y, z], hv =>
    obtain ⟨h1, h2, h3, _⟩ := hv
    have h1' : x = .int i := h1
    have h2' : y = .int j := h2
    have h3' : z = .int c := h3
    subst h1' h2' h3'
    refine ⟨i, j, c, n, rfl, hr, q _ G2 H2 g ⟨fun k H hk _ => show k < n by simpa using hk, fun H _ => show n ≤ _ by simp, fun k H x H' P hP s hy G1 s1 s2 => ?_⟩⟩
    obtain ⟨rfl, rfl⟩ := hy
    rw [List.getElem?_map] at hP
    cases cc : (List.range n)[k]? with
    | none => rw [cc] at hP; cases hP
    | some m =>
      rw [cc] at hP
      obtain ⟨_, e⟩ := List.getElem?_eq_some_iff.mp cc
      rw [List.getElem_range] at e
      cases hP
      rw [← e]
      exact ⟨G1, .refl s2, rfl⟩
  | [], hv => exact hv.elim
  | [_], hv => exact hv.2.elim
  | [_, _], hv => exact hv.2.2.elim
  | _ :: _ :: _ :: _ :: _, hv => exact hv.2.2.2.elim
theorem rd_ok : ∀ (i : Nat) {l : List Nat} {m : Mks} {rest : List Nat}, rd i l = some (m, rest) → m.length = i ∧ ∃ p, p ≤ l.length ∧ rest = l.drop p
  | 0, l, m, rest, e => by
    have e' : ([], l) = (m, rest) := Option.some.inj e
    cases e'
    exact ⟨rfl, 0, Nat.zero_le _, rfl⟩
  | i + 1, l, m, rest, e => by
    unfold rd at e
    cases c : rd i l with
    | none => rw [c] at e; cases e
    | some q =>
      obtain ⟨m', r'⟩ := q
      obtain ⟨h1, p, hp, h2⟩ := rd_ok i c
      rw [c] at e
      cases r' with
      | nil => cases e
      | cons k r =>
        have e' : (if r.length < 2 * k then none else some (m' ++ [Kv403.read.twos (r.take (2 * k))], r.drop (2 * k))) = some (m, rest) := e
        by_cases z : r.length < 2 * k
        · rw [if_pos z] at e'; cases e'
        · rw [if_neg z] at e'
          cases e'
          have hr : r = l.drop (p + 1) := by
            have := congrArg (List.drop 1) h2
            rw [List.drop_drop] at this
            exact this
          have hl : r.length = l.length - (p + 1) := by rw [hr, List.length_drop]
          have hpl : p < l.length := by
            have := congrArg List.length h2
            rw [List.length_cons, List.length_drop] at this
            omega
          refine ⟨by rw [List.length_append, h1]; rfl, p + 1 + 2 * k, by omega, by rw [hr, List.drop_drop]⟩
section
variable {P : Program} {w : World} {K : PySem.W.Frag} {mg : Str → Option Value} {base : Heap} {C : Addr}
def pOM : Option Mks → Pr
  | none => pNon
  | some s => pAll s
def sp_marks_in : Sp := PSp (fun x : List Nat × Nat => [pNats x.1, pNat x.2]) (fun x => x.1.length ≤ 1000 ∧ x.2 ≤ 8) (fun x => pOM (Kv403.read x.2 x.1))
theorem ixNats {l : List Nat} {p : Nat} (h : p < l.length) : atI ((inl l).map pInt) (p : Int) = some (pNat (l.getD p 0)) := by
  rw [inl_map]
  exact atI_map pNat (by rw [getD_lt h, List.getElem?_eq_getElem h])
theorem inl_len (l : List Nat) : ((inl l).map pInt).length = l.length := by unfold inl; rw [List.length_map, List.length_map]
theorem ok_marks_in {f : Addr} {fd : FuncData} (F : Fun K "marks_in" "marks_in" s_marks_in f fd) (T : Txt K mg C) : FnOk P w K mg base CX0 1 f fd ["row", "places"] sp_marks_in := by
  refine F.ok sc_marks_in (psp_len fun _ => rfl) (fun cdv A outer s H vs Q E hr h => ?_)
  refine ⟨_, (pss_cons (ps_set (i := 2) sc_marks_in.nd rfl (Or.inl rfl) (pe_lst pa_nil)) (pss_cons (ps_set (i := 3) sc_marks_in.nd rfl (Or.inl rfl) pe_int) (pss_cons (ps_for PassesOwn.never rfl (pi_range1 rfl T.range (pa_cons (pv 1) pa_nil)) (pg_name (i := 4) sc_marks_in.nd rfl (Or.inl rfl)) (pss_cons (ps_if (pt_cmpR op_eq (pv 3) (pe_callB call_len_seq rfl T.len (by decide +kernel) (pa_cons (pv 0) pa_nil)) (nomark _)) (pss_one (ps_ret pe_non)) pss_nil) (pss_cons (ps_set (i := 5) sc_marks_in.nd rfl (Or.inl rfl) (pe_op op_add (pe_op op_add (pv 3) pe_int) (pe_op op_mul pe_int (pe_ix ix_list (pv 0) (pv 3) (fun _ _ => rfl))))) (pss_cons (ps_if (pt_cmpR op_gt (pv 5) (pe_callB call_len_seq rfl T.len (by decide +kernel) (pa_cons (pv 0) pa_nil)) (nomark _)) (pss_one (ps_ret pe_non)) pss_nil) (pss_cons (ps_expr (pe_bm PySem.F.plainAttrs_list PySem.F.slot_list_append PySem.F.type_list_append mt_append (pv 2) (pa_cons (pe_lc (own := [("k", 6)]) (g := (gName 6)) (tt := tYes) (te := (tTup (tCons (tOp (rIxL K) (tVar 0) (tVar 6)) (tCons (tOp (rIxL K) (tVar 0) (tOp (rI0 fun i j => .int (i + j)) (tVar 6) (tC (.int 1)))) tNil)))) rfl sc_marks_in.nd (pi_range3 rfl T.range (pa_cons (pe_op op_add (pv 3) pe_int) (pa_cons (pv 5) (pa_cons pe_int pa_nil)))) (blkOk_by (own := [("k", 6)]) (N := ["row", "places", "marks", "at", "place", "end", "k"]) (sc := defScope s_marks_in) (by decide +kernel)) (fun _ _ _ _ _ => (pg_name (i := 6) sc_marks_in.nd rfl (Or.inl rfl))) (fun _ _ _ _ _ => pts_nil) (fun _ _ _ _ _ => (pe_tup (pa_cons (pe_ix ix_list (pv 0) (pv 6) (fun _ _ => rfl)) (pa_cons (pe_ix ix_list (pv 0) (pe_op op_add (pv 6) pe_int) (fun _ _ => rfl)) pa_nil))))) pa_nil))) (pss_one (ps_set (i := 3) sc_marks_in.nd rfl (Or.inl rfl) (pv 5)))))))) (pss_cons (ps_if (pt_cmpR op_lt (pv 3) (pe_callB call_len_seq rfl T.len (by decide +kernel) (pa_cons (pv 0) pa_nil)) (nomark _)) (pss_one (ps_ret pe_non)) pss_nil) (pss_one (ps_ret (pv 2))))))), ?_⟩
  refine body_pure h (fun x => [.val (pNats x.1), .val (pNat x.2), .any, .any, .any, .any, .any]) (fun _ => rfl) fun x hp => ?_
  obtain ⟨l, n⟩ := x
  obtain ⟨hl, n8⟩ := hp
  have hl : l.length ≤ 1000 := hl
  have n8 : n ≤ 8 := n8
  have er : Kv403.read n l = match rd n l with | none => none | some (m, rest) => (Kv403.read 0 rest).map (m ++ ·) := read_rd n 0 l
  have dlen : ∀ {Γ : List Sl}, Γ[0]? = some (Sl.val (pNats l)) → DE (tCB (fun xs H Q => ∃ p ys, xs = [.ref p] ∧ (SqL K H p ys ∨ SqT K H p ys) ∧ Q (.int ys.length) H) (tCons (tVar 0) tNil)) Γ (pNat l.length) := fun h => de_is (de_cb (ea_cons (P := pList ((inl l).map pInt)) (de_var h) ea_nil) rc_len) (by rw [inl_len])
  refine se_new (Ps := []) ea_nil (by show 2 < 7; decide) (by decide) fun a => ?_
  refine se_seq (se_asg (P := pNat 0) de_int) ?_
  refine se_tryS (S := Mks × List Nat) (R := pNon) (Δr := []) (st := rd n l) (Δ := fun s => [.val (pNats l), .val (pNat n), .own a (muL (s.1.map pMarks)), .val (pNat (l.length - s.2.length)), .any, .any, .any]) ?_ (fun s e => ?_) (fun e => ?_)
  · have hw : WI (iRng1 (tCons (tVar 1) tNil)) ([.val (pNats l), .val (pNat n), .own a (muL (([] : Mks).map pMarks)), .val (pNat (l.length - l.length)), .any, .any, .any]) ((List.range n).map fun i => pInt ((i : Nat) : Int)) := wi_range (ea_cons (de_var rfl) ea_nil) (by omega)
    refine se_from (Γ1 := [.val (pNats l), .val (pNat n), .own a (muL (([] : Mks).map pMarks)), .val (pNat (l.length - l.length)), .any, .any, .any]) ?_ (se_is (se_try (R := pNon) (Δr := []) (fun i => rd i l) (fun s : Mks × List Nat => [.val (pNats l), .val (pNat n), .own a (muL (s.1.map pMarks)), .val (pNat (l.length - s.2.length)), .any, .any, .any])
      (fun s i => [.val (pNats l), .val (pNat n), .own a (muL (s.1.map pMarks)), .val (pNat (l.length - s.2.length)), .val (pNat i), .any, .any]) ([], l) rfl (fun i e => ?_) hw (fun s i P e => ?_) (fun i s hi e => ?_)) (by rw [List.length_map, List.length_range]))
    · show Wk [_, _, _, Sl.val (pNat 0), _, _, _] [_, _, _, Sl.val (pNat (l.length - l.length)), _, _, _]
      rw [Nat.sub_self]
      exact .refl _
    · show rd (i + 1) l = none
      unfold rd
      rw [show rd i l = none from e]
    · rw [List.getElem?_map] at e
      cases c : (List.range n)[i]? with
      | none => rw [c] at e; cases e
      | some j =>
        rw [c] at e
        cases e
        obtain ⟨_, ej⟩ := List.getElem?_eq_some_iff.mp c
        rw [List.getElem_range] at ej
        rw [← ej]
        exact gb_name
    · rw [List.length_map, List.length_range] at hi
      obtain ⟨m, rest⟩ := s
      have e : rd i l = some (m, rest) := e
      obtain ⟨hm, p, hp, rfl⟩ := rd_ok i e
      have ep : l.length - (l.drop p).length = p := by rw [List.length_drop]; omega
      have es : rd (i + 1) l = match l.drop p with | [] => none | k :: r => if r.length < 2 * k then none else some (m ++ [Kv403.read.twos (r.take (2 * k))], r.drop (2 * k)) := by
        show (match rd i l with
          | none => none
          | some (m, []) => none
          | some (m, k :: r) => if r.length < 2 * k then none else some (m ++ [Kv403.read.twos (r.take (2 * k))], r.drop (2 * k))) = _
        rw [e]
        cases l.drop p <;> rfl
      show SE _ [.val (pNats l), .val (pNat n), .own a (muL (m.map pMarks)), .val (pNat (l.length - (l.drop p).length)), .val (pNat i), .any, .any] (orN pNon [] _ (rd (i + 1) l))
      rw [es, ep]
      refine se_ifR (et_test (de_eq (de_var rfl) (dlen rfl))) (fun c => ?_) (fun c => ?_) (fun c => ?_)
      · rw [decide_eq_true_eq] at c
        have c' : p = l.length := by omega
        have ed : l.drop p = [] := List.drop_eq_nil_of_le (by omega)
        rw [ed]
        exact se_ret de_non
      · rw [decide_eq_false_iff_not] at c
        have hpl : p < l.length := by omega
        have ed : l.drop p = l.getD p 0 :: l.drop (p + 1) := by rw [getD_lt hpl, List.drop_eq_getElem_cons hpl]
        rw [ed]
        have lr : (l.drop (p + 1)).length = l.length - (p + 1) := List.length_drop
        generalize hk : l.getD p 0 = k at ed
        have eend : (p : Int) + 1 + 2 * ((k : Nat) : Int) = ((p + 1 + 2 * k : Nat) : Int) := by omega
        refine se_seq (se_asg (P := pNat (p + 1 + 2 * k)) (de_is (de_add (de_add (de_var rfl) de_int) (de_mul de_int (de_is (de_ixL (de_var rfl) (de_var rfl) (ixNats hpl)) (by rw [hk])) (.inl (by decide)))) (by show pInt _ = pInt _; rw [← eend]))) ?_
        refine se_ifR (et_test (de_gt (de_var rfl) (dlen rfl))) (fun d => ?_) (fun d => ?_) (fun d => ?_)
        · rw [decide_eq_true_eq] at d
          show SE _ _ (orN pNon [] _ (if (l.drop (p + 1)).length < 2 * k then none else _))
          rw [if_pos (by omega)]
          exact se_ret de_non
        · rw [decide_eq_false_iff_not] at d
          show SE _ _ (orN pNon [] _ (if (l.drop (p + 1)).length < 2 * k then none else _))
          rw [if_neg (by omega)]
          have hk2 : 2 * k ≤ (l.drop (p + 1)).length := by omega
          refine se_seq (se_append (i := 2) rfl (P := pMarks (Kv403.read.twos ((l.drop (p + 1)).take (2 * k)))) (de_is (de_map (pf := fun i : Nat => pInt (((p + 1 : Nat) : Int) + (i : Nat) * 2)) (rf := fun i => pMark (l.getD (p + 1 + 2 * i) 0, l.getD (p + 1 + 2 * i + 1) 0)) (xs := List.range k)
            (fun i => [.val (pNats l), .val (pNat n), .own a (muL (m.map pMarks)), .val (pNat p), .val (pNat _), .val (pNat (p + 1 + 2 * k)), .val (pInt (((p + 1 : Nat) : Int) + (i : Nat) * 2))]) (wi_range3 (n := k) (ea_cons (de_is (de_add (de_var rfl) de_int) (by show pInt _ = pInt _; congr 1)) (ea_cons (de_var rfl) (ea_cons de_int ea_nil))) (rgC_two (by omega) (by omega))) rfl (fun i => gc_name (by simp)) (fun i hi => ?_) (by rw [List.length_range]; omega)) ?_) (by rw [List.length_map, hm]; omega)) (se_weak (se_asg (de_var rfl)) ?_)
          · have hi' := List.mem_range.mp hi
            refine de_tup (ea_cons (de_is (de_ixL (de_var rfl) (de_is (de_var rfl) ?_) (ixNats (p := p + 1 + 2 * i) (by omega))) rfl) (ea_cons (de_is (de_ixL (de_var rfl) (de_is (de_add (de_var rfl) de_int) ?_) (ixNats (p := p + 1 + 2 * i + 1) (by omega))) rfl) ea_nil)) (by simp)
            · show pInt _ = pInt _
              congr 1
              omega
            · show pInt _ = pInt _
              congr 1
              omega
          · rw [twos_range k _ hk2]
            unfold pMarks
            rw [List.map_map]
            congr 1
            refine List.map_congr_left fun i hi => ?_
            show pMark _ = pMark _
            congr 1
            show _ = ((l.drop (p + 1)).getD (2 * i) 0, (l.drop (p + 1)).getD (2 * i + 1) 0)
            rw [List.getD_eq_getElem?_getD (l := l.drop (p + 1)), List.getD_eq_getElem?_getD (l := l.drop (p + 1)), List.getElem?_drop, List.getElem?_drop, List.getD_eq_getElem?_getD, List.getD_eq_getElem?_getD]
            rfl
          · show Wk [.val (pNats l), .val (pNat n), .own a (muL (m.map pMarks ++ [pMarks (Kv403.read.twos ((l.drop (p + 1)).take (2 * k)))])), .val (pNat (p + 1 + 2 * k)), .val _, .val _, .any] [.val (pNats l), .val (pNat n), .own a (muL ((m ++ [Kv403.read.twos ((l.drop (p + 1)).take (2 * k))]).map pMarks)), .val (pNat (l.length - ((l.drop (p + 1)).drop (2 * k)).length)), .any, .any, .any]
            rw [List.map_append, List.drop_drop, List.length_drop, show l.length - (l.length - (p + 1 + 2 * k)) = p + 1 + 2 * k by omega]
            exact .keep (.keep (.keep (.keep (.drop (.drop (.keep .nil))))))
        · rw [decide_eq_true_eq] at d
          show ∃ P Δ, orN pNon [] _ (if (l.drop (p + 1)).length < 2 * k then none else _) = _
          rw [if_pos (by omega)]
          exact ⟨_, _, rfl⟩
      · rw [decide_eq_true_eq] at c
        have c' : p = l.length := by omega
        have ed : l.drop p = [] := List.drop_eq_nil_of_le (by omega)
        rw [ed]
        exact ⟨_, _, rfl⟩
  · obtain ⟨m, rest⟩ := s
    obtain ⟨hm, p, hp, rfl⟩ := rd_ok n e
    have ep : l.length - (l.drop p).length = p := by rw [List.length_drop]; omega
    show SE _ [.val (pNats l), .val (pNat n), .own a (muL (m.map pMarks)), .val (pNat (l.length - (l.drop p).length)), .any, .any, .any] _
    rw [ep]
    have er2 : Kv403.read n l = (Kv403.read 0 (l.drop p)).map (m ++ ·) := by rw [er, e]
    refine se_ifR (et_test (de_lt (de_var rfl) (dlen rfl))) (fun c => ?_) (fun c => ?_) (fun _ => ⟨_, _, rfl⟩)
    · rw [decide_eq_true_eq] at c
      have hpl : p < l.length := by omega
      refine se_ret (de_is de_non ?_)
      rw [er2, List.drop_eq_getElem_cons hpl]
      rfl
    · rw [decide_eq_false_iff_not] at c
      have ed : l.drop p = [] := List.drop_eq_nil_of_le (by omega)
      refine se_freeze (i := 2) rfl (se_ret (de_is (de_var rfl) ?_))
      rw [er2, ed]
      show pAll m = pAll (m ++ [])
      rw [List.append_nil]
  · rw [er, e]
    rfl
end
end Wp
set_option Elab.async false
set_option linter.all false
set_option maxRecDepth 100000
set_option maxHeartbeats 4000000
namespace Wp
open PySem L2
section
variable {Γ : List Sl} {P Q R : Pr} {Ps : List Pr} {ta tb te ti : TE} {t u tbo : TS} {K : PySem.W.Frag} {o : Out}
theorem de_andV {a b : Bool} (h1 : DE ta Γ (pBl a)) (h2 : a = true → DE tb Γ (pBl b)) : DE (tAndV ta tb) Γ (pBl (a && b)) := fun G H σ f k q => h1 G H σ f _ fun v G2 H2 g hv => by
  have hv' : v = .bl a := hv
  subst hv'
  refine ⟨a, rfl, ?_⟩
  cases a with
  | true => exact h2 rfl G2 H2 σ (f.grow g) k fun v G3 H3 g3 h3 => q v G3 H3 (g.trans g3) h3
  | false => exact q _ G2 H2 g rfl
/-! == of lists of ints -/
theorem dp_ints {H : Hp} : ∀ ns : List Int, DpAll K H (ns.map V.int) (ns.map PyData.int)
  | [] => .nil
  | n :: r => .cons (.int n) (dp_ints r)
theorem eqv_ints : ∀ ns ms : List Int, PyData.eqvAll (ns.map PyData.int) (ms.map PyData.int) = decide (ns = ms)
  | [], [] => by simp [PyData.eqvAll]
  | [], _ :: _ => by simp [PyData.eqvAll]
  | _ :: _, [] => by simp [PyData.eqvAll]
  | n :: r, m :: s => by
    have ih := eqv_ints r s
    simp only [List.map_cons, PyData.eqvAll, PyData.eqv, ih]
    by_cases h1 : n = m
    · by_cases h2 : r = s
      · simp [h1, h2]
      · simp [h1, h2]
    · simp [h1]
theorem lay_ints : ∀ ns : List Int, PyData.canLayAll0 (ns.map PyData.int) = true ∧ PyData.depthAll (ns.map PyData.int) = 0
  | [] => by simp [PyData.canLayAll0, PyData.depthAll]
  | n :: r => by
    have ih := lay_ints r
    simp [PyData.canLayAll0, PyData.depthAll, PyData.canLay0, PyData.depth, ih.1, ih.2]
theorem shaped_ints (ns : List Int) : SeqAt.shaped (.list (ns.map PyData.int)) = true := by
  have h := lay_ints ns
  simp [SeqAt.shaped, PyData.canLay0, PyData.depth, h.1, h.2]
theorem de_eqD {ns ms : List Int} (ha : DE ta Γ (pList (ns.map pInt))) (hb : DE tb Γ (pList (ms.map pInt))) : DE (tOp (rEqD K) ta tb) Γ (pBl (decide (ns = ms))) := de_op ha hb fun G H x y s hx hy k q => by
  obtain ⟨a, xs, rfl, h2, h3⟩ := hx
  obtain ⟨b, ys, rfl, h5, h6⟩ := hy
  have e1 := ints_allP h3
  have e2 := ints_allP h6
  subst e1 e2
  refine ⟨_, _, .lst (.of (s _ _ h2)) (dp_ints ns), .lst (.of (s _ _ h5)) (dp_ints ms), shaped_ints ns, shaped_ints ms, q _ G H (.refl s) ?_⟩
  show V.bl _ = V.bl _
  rw [← eqv_ints]
  simp only [PyData.eqv]
/-! enumerate -/
theorem wi_enum {tA : TA} (h : EA tA Γ [pList Ps]) : WI (iEnum K tA) Γ (Ps.zipIdx.map fun z => pTup [pNat z.2, z.1]) := fun G H σ f R q => h G H σ f _ fun vs G2 H2 g hv => by
  obtain ⟨x, rfl, ⟨a, xs, rfl, hx, kx⟩⟩ := hv.one
  have hlen : (Ps.zipIdx.map fun z => pTup [pNat z.2, z.1]).length = xs.length := by rw [List.length_map, List.length_zipIdx, kx.length]
  refine ⟨a, xs, rfl, .of (g.gh _ _ hx), q _ G2 H2 g ⟨fun i H' hi s => ?_, fun H' s => ?_, fun i H' x H'' P hP s hyl G1 s1 s2 => ?_⟩⟩
  · rw [hlen] at hi
    exact ⟨xs, xs[i], .of (s _ _ hx), by simp [hi]⟩
  · exact ⟨xs, .of (s _ _ hx), by rw [hlen]; exact Nat.le_refl _⟩
  · obtain ⟨T, u, rfl, hT, rfl, e1⟩ := hyl
    rw [List.getElem?_map, List.getElem?_zipIdx] at hP
    cases c1 : Ps[i]? with
    | none => rw [c1] at hP; cases hP
    | some P1 =>
      rw [c1] at hP
      have hP' : pTup [pNat (0 + i), P1] = P := Option.some.inj hP
      rw [Nat.zero_add] at hP'
      subst hP'
      obtain ⟨u', k1, k2⟩ := kx.get c1
      have d1 := e1 xs (.of (s _ _ hx))
      rw [k1] at d1
      cases d1
      have gn : GrowE G1 H' (upd G1 T (.tup [.int (i : Nat), u])) (upd H' T (.tup [.int (i : Nat), u])) := .new s2 hT
      exact ⟨_, gn, T, _, rfl, upd_same, rfl, P1.mono (s1.trans gn.eG) k2, trivial⟩
/-! owned lists -/
theorem se_newL {i : Nat} {tA : TA} (ha : EA tA Γ [pList Ps]) (hi : i < Γ.length) (hr : ∀ a, SE u (Γ.set i (.own a (muL Ps))) o) :
    SE (tSeq (tAsg (tCB (fun xs H Q => ∃ p ys, xs = [.ref p] ∧ (SqL K H p ys ∨ SqT K H p ys) ∧ ∀ l, H l = none → Q (.ref l) (upd H l (.lst ys))) tA) (gName i)) u) Γ o := fun D G H σ f q => by
  refine ha G H σ f _ fun vs G2 H2 g hv => ?_
  obtain ⟨v, rfl, a, us, rfl, h2, h3⟩ := hv.one
  refine ⟨a, us, rfl, .inl (.of (g.gh _ _ h2)), fun p hp => ?_⟩
  have f2 := (f.grow g).owned (i := i) (M := muL Ps) hi hp ⟨us, rfl, h3⟩
  have g2 : Grow (owns Γ) G H (owns (Γ.set i (.own p (muL Ps)))) G2 (upd H2 p (.lst us)) :=
    ⟨g.eG, fun b o e _ => by rw [upd_ne (ne_of_none (g.eH _ _ e) hp)]; exact g.eH _ _ e, fun b e k _ => g.fr b e k, fun b z => (owns_own b z).elim .inl fun e => .inr (by rw [e]; exact g.eH.free hp)⟩
  refine hr p D G2 _ _ f2 ?_
  cases o with
  | nx Γ2 => exact fun G3 H3 σ3 f3 g3 => q G3 H3 σ3 f3 (g2.trans g3)
  | rt P Γ2 => exact fun v G3 H3 σ3 f3 g3 => q v G3 H3 σ3 f3 (g2.trans g3)
theorem se_setL {i : Nat} {a : Addr} {j : Nat} (hi : Γ[i]? = some (Sl.own a (muL Ps))) (h : DE te Γ P) (hx : DE ti Γ (pInt (j : Int))) (hj : j < Ps.length) :
    SE (tAsg te (gSub (tVar i) ti rSetL)) Γ (.nx (Γ.set i (.own a (muL (Ps.set j P))))) := fun D G H σ f q => h G H σ f _ fun v G2 H2 g hv => by
  obtain ⟨h1, h2, o, h3, vs, rfl, h4⟩ := (f.grow g).own i a _ hi
  refine ⟨.ref a, h1, hx G2 H2 σ (f.grow g) _ fun w G3 H3 g3 hw => ⟨a, vs, j, j, rfl, hw, g3.eH _ _ h3, ixN_nat (by rw [h4.length]; exact hj), ?_⟩⟩
  exact q G3 _ σ (((f.grow g).grow g3).turn hi ⟨_, rfl, AllP.set (P.mono g3.eG hv) j (h4.mono g3.eG)⟩) ((g.trans g3).grow.trans (grow_turn hi))
/-- xs.append(e), a long list -/
theorem se_appendB {i : Nat} {a : Addr} (hi : Γ[i]? = some (Sl.own a (muL Ps))) (h : DE te Γ P) (hl : Ps.length < 10000000) :
    SE (tDrop (tBM K "list" rAppend (tVar i) (tCons te tNil))) Γ (.nx (Γ.set i (.own a (muL (Ps ++ [P]))))) := fun D G H σ f q => by
  obtain ⟨h1, h2, o, h3, vs, rfl, h4⟩ := f.own i a _ hi
  refine ⟨.ref a, h1, .inl ⟨rfl, vs, .of h3⟩, h G H σ f _ fun v G2 H2 g hv => ⟨a, vs, v, rfl, rfl, g.eH _ _ h3, Nat.lt_of_lt_of_le (by rw [h4.length]; exact hl) (by decide), ?_⟩⟩
  exact q G2 _ σ ((f.grow g).turn hi ⟨_, rfl, (h4.mono g.eG).append ⟨hv, trivial⟩⟩) (g.grow.trans (grow_turn hi))
/-- n += e -/
theorem se_aug {i : Nat} {m n : Int} (hi : Γ[i]? = some (Sl.val (pInt m))) (h : DE te Γ (pInt n)) : SE (tAug i te (ipI fun i j => i + j)) Γ (.nx (Γ.set i (.val (pInt (m + n))))) := fun D G H σ f q => by
  obtain ⟨v, h1, h2⟩ := f.val i _ hi
  refine ⟨v, h1, h G H σ f _ fun y G2 H2 g hy => ⟨m, n, h2, hy, ?_⟩⟩
  exact q G2 H2 _ ((f.grow g).put rfl) (g.grow.less fun b z => owns_put b z)
/-- x = C(), the rest of the block -/
theorem se_make {A : Type} {C : Addr} {self2 : A → List (Str × Pr)} {pre : A → Prop} {i : Nat} {E : XK} (x : A) (hp : pre x) (hi : i < Γ.length) (hr : ∀ a, SE u (Γ.set i (.own a (muI C (self2 x)))) o) :
    SE (tSeq (tAsg (tMake C (MSp C (fun _ : A => []) (fun _ => []) pre self2 (fun _ => pNon)) [] E tNil) (gName i)) u) Γ o := fun D G H σ f q => by
  intro a dx ha hdx hne
  have eG : Same G (upd (upd H dx (.own a)) a (.ins C dx [])) := fun b o e => by
    rw [upd_ne (ne_of_none (f.gh _ _ e) ha), upd_ne (ne_of_none (f.gh _ _ e) hdx)]
    exact f.gh _ _ e
  have eH : ∀ b o, H b = some o → (upd (upd H dx (.own a)) a (.ins C dx [])) b = some o := fun b o e => by
    rw [upd_ne (ne_of_none e ha), upd_ne (ne_of_none e hdx)]
    exact e
  refine ⟨x, G, a, [], rfl, eG, f.gh.free ha, hp, ⟨dx, [], upd_same, trivial⟩, trivial, fun v G2 H2 g s2 n2 ⟨dx2, gs2, e2, al2⟩ hv => ⟨hv, ?_⟩⟩
  have own2 : ∀ (j : Nat) (b : Addr) (M : Mu), Γ[j]? = some (Sl.own b M) → b ≠ a ∧ σ[j]? = some (some (V.ref b)) ∧ G2 b = none ∧ ∃ o, H2 b = some o ∧ M.m G2 o := fun j b M e => by
    obtain ⟨k1, k2, ob, k3, k4⟩ := f.own j b M e
    have nb : b ≠ a := ne_of_none k3 ha
    exact ⟨nb, k1, g.fr b k2 (by rw [eH b ob k3]; intro z; cases z) nb, ob, g.eH b ob (eH b ob k3) nb, M.mono g.eG k4⟩
  have gg : ∀ {j : Nat} {b : Addr} {M : Mu}, (Γ.set i (.own a (muI C (self2 x))))[j]? = some (Sl.own b M) → (i = j ∧ b = a ∧ M = muI C (self2 x)) ∨ (i ≠ j ∧ Γ[j]? = some (Sl.own b M) ∧ b ≠ a) := fun {j b M} z => by
    by_cases c : i = j
    · subst c
      rw [List.getElem?_set_self hi] at z
      cases z
      exact .inl ⟨rfl, rfl, rfl⟩
    · rw [List.getElem?_set_ne c] at z
      exact .inr ⟨c, z, (own2 j b M z).1⟩
  have f2 : Fits G2 H2 (σ.set i (some (.ref a))) (Γ.set i (.own a (muI C (self2 x)))) := {
    gh := s2
    len := by rw [List.length_set, List.length_set]; exact f.len
    val := fun j R z => by
      by_cases c : i = j
      · subst c
        rw [List.getElem?_set_self hi] at z
        cases z
      · rw [List.getElem?_set_ne c] at z ⊢
        obtain ⟨v, k1, k2⟩ := f.val j R z
        exact ⟨v, k1, R.mono g.eG k2⟩
    own := fun j b M z => by
      rcases gg z with ⟨rfl, rfl, rfl⟩ | ⟨c, z2, nb⟩
      · exact ⟨List.getElem?_set_self (Nat.lt_of_lt_of_le hi f.len), n2, _, e2, dx2, gs2, rfl, al2⟩
      · rw [List.getElem?_set_ne c]
        exact (own2 j b M z2).2
    dis := fun j l b M N z1 z2 => by
      rcases gg z1 with ⟨c1, d1, _⟩ | ⟨c1, y1, d1⟩
      · rcases gg z2 with ⟨c2, d2, _⟩ | ⟨c2, y2, d2⟩
        · exact c1.symm.trans c2
        · exact absurd d1 d2
      · rcases gg z2 with ⟨c2, d2, _⟩ | ⟨c2, y2, d2⟩
        · exact absurd d2 d1
        · exact f.dis j l b M N y1 y2 }
  have g2 : Grow (owns Γ) G H (owns (Γ.set i (.own a (muI C (self2 x))))) G2 H2 :=
    ⟨g.eG, fun b ob e n => g.eH b ob (eH b ob e) (ne_of_none e ha), fun b e k n => g.fr b e (fun z => k (by
        cases c : H b with
        | none => rfl
        | some ob => rw [eH b ob c] at z; cases z)) fun z => k (by rw [z]; exact ha), fun b z => (owns_own b z).elim .inl fun e => .inr (by rw [e]; exact ha)⟩
  refine hr a D G2 H2 _ f2 ?_
  cases o with
  | nx Γ2 => exact fun G3 H3 σ3 f3 g3 => q G3 H3 σ3 f3 (g2.trans g3)
  | rt P Γ2 => exact fun v G3 H3 σ3 f3 g3 => q v G3 H3 σ3 f3 (g2.trans g3)
/-- while, n turns -/
theorem se_while {c : TT} (n : Nat) (Δ : Nat → List Sl) (ht : ∀ i, i ≤ n → ET c (Δ i) (decide (i < n))) (hb : ∀ i, i < n → SE tbo (Δ i) (.nx (Δ (i + 1)))) : SE (tWhile c tbo) (Δ 0) (.nx (Δ n)) := fun D G H σ f q => by
  refine ⟨fun m σ' H' => ∃ i, i ≤ n ∧ m = n - i ∧ ∃ G', Fits G' H' σ' (Δ i) ∧ Grow (owns (Δ 0)) G H (owns (Δ i)) G' H', ⟨n, 0, Nat.zero_le _, rfl, G, f, .refl⟩, ?_⟩
  rintro m σ' H' ⟨i, hi, rfl, G', f', g'⟩
  refine ht i hi G' H' σ' f' _ fun G2 H2 g2 => ?_
  by_cases c : i < n
  · rw [decide_eq_true c, if_pos rfl]
    refine ⟨fun σ2 H2 => ∃ G2, Fits G2 H2 σ2 (Δ (i + 1)) ∧ Grow (owns (Δ 0)) G H (owns (Δ (i + 1))) G2 H2, fun σ2 H2 h2 => ⟨n - (i + 1), by omega, i + 1, c, rfl, h2⟩, ?_⟩
    exact hb i c _ G2 H2 σ' (f'.grow g2) fun G4 H4 σ4 f4 g4 => ⟨G4, f4, (g'.trans g2.grow).trans g4⟩
  · rw [decide_eq_false c, if_neg Bool.false_ne_true]
    have e : i = n := by omega
    subst e
    exact q G2 H2 σ' (f'.grow g2) (g'.trans g2.grow)
theorem se_skip {c : TT} (hc : ET c Γ false) (h : SE u Γ o) : SE (tSeq (tIfS c t tNext) u) Γ o := se_seq (se_if hc (fun z => by cases z) fun _ => se_next) h
theorem se_hit {c : TT} {Δ : List Sl} (hc : ET c Γ true) (h : SE t Γ (.rt P Δ)) : SE (tSeq (tIfS c t tNext) u) Γ (.rt P Δ) := se_seqR (se_if hc (fun _ => h) fun z => by cases z)
end
/-! slices -/
theorem cut_take {α : Type} (xs : List α) (i : Nat) : cutP xs none (some (i : Int)) = xs.take i := by
  unfold cutP
  rw [HT.sIx_none, HT.sIx_nat, List.drop_zero, Nat.sub_zero]
  by_cases h : i ≤ xs.length
  · rw [Nat.min_eq_left h]
  · rw [Nat.min_eq_right (by omega), List.take_length, List.take_of_length_le (by omega)]
theorem cut_drop {α : Type} (xs : List α) (i : Nat) : cutP xs (some (i : Int)) none = xs.drop i := by
  unfold cutP
  rw [HT.sIx_none, HT.sIx_nat]
  by_cases h : i ≤ xs.length
  · rw [Nat.min_eq_left h, List.take_of_length_le (by rw [List.length_drop]; exact Nat.le_refl _)]
  · rw [Nat.min_eq_right (by omega), List.drop_eq_nil_of_le (by omega), List.drop_eq_nil_of_le (by omega)]
    exact List.take_nil
theorem cut_erase {α : Type} (xs : List α) (i : Nat) : cutP xs none (some (i : Int)) ++ cutP xs (some ((i : Int) + 1)) none = xs.eraseIdx i := by
  rw [show ((i : Int) + 1) = ((i + 1 : Nat) : Int) by omega, cut_take, cut_drop, List.eraseIdx_eq_take_drop_succ]
theorem cut_last {α : Type} (xs : List α) (x : α) : cutP (xs ++ [x]) none (some (-1)) = xs := by
  unfold cutP
  rw [HT.sIx_none]
  have e : HT.sIx (xs ++ [x]).length (xs ++ [x]).length (some (-1)) = xs.length := by
    unfold HT.sIx
    rw [List.length_append, List.length_singleton]
    show (if (-1 : Int) < 0 then (-1 + ((xs.length + 1 : Nat) : Int)).toNat else _) = _
    rw [if_pos (by decide)]
    omega
  rw [e, List.drop_zero, Nat.sub_zero]
  exact List.take_left
theorem at_last {α : Type} (xs : List α) (x : α) : atI (xs ++ [x]) (-1) = some x := by
  unfold atI ixN
  rw [List.length_append, List.length_singleton, if_neg (by decide), if_pos (by omega)]
  have e : ((-1 : Int) + ((xs.length + 1 : Nat) : Int)).toNat = xs.length := by omega
  rw [e]
  show (xs ++ [x])[xs.length]? = some x
  simp
theorem cut_tens {α : Type} (xs : List α) : cutP xs.reverse (some (-10)) none = (xs.take 10).reverse := by
  unfold cutP
  rw [HT.sIx_none]
  have e : HT.sIx xs.reverse.length 0 (some (-10)) = xs.length - 10 := by
    unfold HT.sIx
    rw [List.length_reverse]
    show (if (-10 : Int) < 0 then (-10 + ((xs.length : Nat) : Int)).toNat else _) = _
    rw [if_pos (by decide)]
    omega
  rw [e, List.take_of_length_le (by rw [List.length_drop]; exact Nat.le_refl _), List.drop_reverse]
  congr 1
  by_cases h : 10 ≤ xs.length
  · congr 1; omega
  · rw [List.take_of_length_le (by omega), List.take_of_length_le (by omega)]
end Wp
set_option Elab.async false
set_option linter.all false
set_option maxRecDepth 100000
set_option maxHeartbeats 4000000
namespace Wp
open PySem L2
open Kv402 (Line)
/-! ### what is told, and by what -/
def cands (l m : List (Nat × Nat)) : List Nat := l.flatMap fun x => (m.filter fun y => decide (x.1 = y.1)).map fun y => x.2 + y.2
def mn (s : Option Nat) (z : Nat) : Option Nat := Kv402.less s (some z)
theorem inner_cands (x : Nat × Nat) : ∀ (m : List (Nat × Nat)) (s : Option Nat), m.foldl (fun s y => if x.1 = y.1 then Kv402.less s (some (x.2 + y.2)) else s) s = ((m.filter fun y => decide (x.1 = y.1)).map fun y => x.2 + y.2).foldl mn s
  | [], _ => rfl
  | y :: r, s => by
    rw [List.foldl_cons, inner_cands x r]
    by_cases c : x.1 = y.1
    · rw [if_pos c, List.filter_cons_of_pos (by simpa using c)]; rfl
    · rw [if_neg c, List.filter_cons_of_neg (by simpa using c)]
theorem outer_cands (m : List (Nat × Nat)) : ∀ (l : List (Nat × Nat)) (s : Option Nat), l.foldl (fun s x => m.foldl (fun s y => if x.1 = y.1 then Kv402.less s (some (x.2 + y.2)) else s) s) s = (cands l m).foldl mn s
  | [], _ => rfl
  | x :: r, s => by
    rw [List.foldl_cons, outer_cands m r, inner_cands]
    show _ = (((m.filter fun y => decide (x.1 = y.1)).map fun y => x.2 + y.2) ++ cands r m).foldl mn s
    rw [List.foldl_append]
theorem told_cands (l m : List (Nat × Nat)) : Kv403.told l m = (cands l m).foldl mn none := outer_cands m l none
theorem fold_mn : ∀ (l : List Nat) (s : Option Nat) (d : Nat), l.foldl mn s = some d → (s = some d ∨ d ∈ l) ∧ (∀ x, s = some x → d ≤ x) ∧ ∀ x ∈ l, d ≤ x
  | [], s, d, h => ⟨.inl h, fun x e => by rw [show s = some d from h] at e; cases e; exact Nat.le_refl _, fun x hx => by cases hx⟩
  | z :: r, s, d, h => by
    rw [List.foldl_cons] at h
    obtain ⟨h1, h2, h3⟩ := fold_mn r (mn s z) d h
    cases s with
    | none =>
      have e : mn none z = some z := rfl
      rw [e] at h1 h2
      have hz := h2 z rfl
      refine ⟨.inr ?_, fun x e => (by cases e), fun x hx => ?_⟩
      · rcases h1 with h1 | h1
        · cases h1; exact List.mem_cons_self
        · exact List.mem_cons_of_mem _ h1
      · rcases List.mem_cons.mp hx with e | e
        · rw [e]; exact hz
        · exact h3 x e
    | some y =>
      have e : mn (some y) z = some (min y z) := rfl
      rw [e] at h1 h2
      have hz := h2 _ rfl
      refine ⟨?_, fun x e => by cases e; omega, fun x hx => ?_⟩
      · rcases h1 with h1 | h1
        · have h1' := Option.some.inj h1
          by_cases c : y ≤ z
          · left; congr 1; omega
          · right; rw [show d = z by omega]; exact List.mem_cons_self
        · exact .inr (List.mem_cons_of_mem _ h1)
      · rcases List.mem_cons.mp hx with e | e
        · rw [e]; omega
        · exact h3 x e
theorem mem_cands {l m : List (Nat × Nat)} {d : Nat} : d ∈ cands l m ↔ ∃ x ∈ l, ∃ y ∈ m, x.1 = y.1 ∧ x.2 + y.2 = d := by
  unfold cands
  rw [List.mem_flatMap]
  constructor
  · rintro ⟨x, hx, h⟩
    obtain ⟨y, hy, e⟩ := List.mem_map.mp h
    obtain ⟨hy1, hy2⟩ := List.mem_filter.mp hy
    exact ⟨x, hx, y, hy1, of_decide_eq_true hy2, e⟩
  · rintro ⟨x, hx, y, hy, e1, e2⟩
    exact ⟨x, hx, List.mem_map.mpr ⟨y, List.mem_filter.mpr ⟨hy, decide_eq_true e1⟩, e2⟩⟩
theorem told_some {l m : List (Nat × Nat)} {d : Nat} (h : Kv403.told l m = some d) : d ∈ cands l m ∧ ∀ x ∈ cands l m, d ≤ x := by
  rw [told_cands] at h
  obtain ⟨h1, _, h3⟩ := fold_mn _ _ _ h
  rcases h1 with h1 | h1
  · cases h1
  · exact ⟨h1, h3⟩
theorem mn_ne : ∀ (l : List Nat) (s : Option Nat), s ≠ none → l.foldl mn s ≠ none
  | [], _, h => h
  | z :: r, s, h => by
    rw [List.foldl_cons]
    refine mn_ne r _ ?_
    cases s with
    | none => exact absurd rfl h
    | some y => intro e; cases e
theorem told_is {l m : List (Nat × Nat)} {d : Nat} (h1 : d ∈ cands l m) (h2 : ∀ x ∈ cands l m, d ≤ x) : Kv403.told l m = some d := by
  cases c : Kv403.told l m with
  | some e =>
    obtain ⟨k1, k2⟩ := told_some c
    have := k2 d h1
    have := h2 e k1
    congr 1
    omega
  | none =>
    rw [told_cands] at c
    cases e : cands l m with
    | nil => rw [e] at h1; cases h1
    | cons z r =>
      rw [e, List.foldl_cons] at c
      exact absurd c (mn_ne r _ (by intro y; cases y))
/-- the tests of by_ and of the program agree -/
theorem by_test {l m : List (Nat × Nat)} {d : Nat} (h : Kv403.told l m = some d) {x : Nat × Nat} (hx : x ∈ l) : (m.any fun y => x.1 == y.1 && some (x.2 + y.2) == Kv403.told l m) = decide (onI (Kv403.told [x] m) = onI (Kv403.told l m)) := by
  obtain ⟨h1, h2⟩ := told_some h
  rw [Bool.eq_iff_iff, decide_eq_true_eq, onI_inj, h, List.any_eq_true]
  constructor
  · rintro ⟨y, hy, e⟩
    rw [Bool.and_eq_true, beq_iff_eq, beq_iff_eq] at e
    have e2 : x.2 + y.2 = d := Option.some.inj e.2
    refine told_is (mem_cands.mpr ⟨x, List.mem_singleton_self x, y, hy, e.1, e2⟩) fun z hz => h2 z ?_
    obtain ⟨x', hx', r⟩ := mem_cands.mp hz
    rw [List.mem_singleton.mp hx'] at r
    exact mem_cands.mpr ⟨x, hx, r⟩
  · intro e
    obtain ⟨x', hx', y, hy, e1, e2⟩ := mem_cands.mp (told_some e).1
    rw [List.mem_singleton.mp hx'] at e1 e2
    exact ⟨y, hy, by rw [Bool.and_eq_true, beq_iff_eq, beq_iff_eq]; exact ⟨e1, congrArg some e2⟩⟩
theorem find_congr {α : Type} {p q : α → Bool} : ∀ {l : List α}, (∀ x ∈ l, p x = q x) → l.find? p = l.find? q
  | [], _ => rfl
  | x :: r, h => by
    rw [List.find?_cons, List.find?_cons, h x List.mem_cons_self, find_congr fun y hy => h y (List.mem_cons_of_mem _ hy)]
theorem by_some {l m : List (Nat × Nat)} {d : Nat} (h : Kv403.told l m = some d) : ∃ x r, (l.filter fun x => decide (onI (Kv403.told [x] m) = onI (Kv403.told l m))) = x :: r ∧ Kv403.by_ l m = some x.1 := by
  have e : (l.find? fun x => m.any fun y => x.1 == y.1 && some (x.2 + y.2) == Kv403.told l m) = l.find? fun x => decide (onI (Kv403.told [x] m) = onI (Kv403.told l m)) := find_congr fun x hx => by_test h hx
  have hb : Kv403.by_ l m = (l.find? fun x => decide (onI (Kv403.told [x] m) = onI (Kv403.told l m))).map Prod.fst := congrArg (Option.map Prod.fst) e
  cases c : l.filter fun x => decide (onI (Kv403.told [x] m) = onI (Kv403.told l m)) with
  | cons x r =>
    refine ⟨x, r, rfl, ?_⟩
    rw [hb, ← List.head?_filter, c]
    rfl
  | nil =>
    obtain ⟨x, hx, y, hy, e1, e2⟩ := mem_cands.mp (told_some h).1
    have := List.filter_eq_nil_iff.mp c x hx
    rw [← by_test h hx] at this
    exact absurd (List.any_eq_true.mpr ⟨y, hy, by rw [Bool.and_eq_true, beq_iff_eq, beq_iff_eq, h]; exact ⟨e1, congrArg some e2⟩⟩) this
theorem by_none {l m : List (Nat × Nat)} (h : Kv403.told l m = none) : Kv403.by_ l m = none := by
  unfold Kv403.by_
  rw [Option.map_eq_none_iff, List.find?_eq_none]
  intro x hx
  rw [h, Bool.not_eq_true, List.any_eq_false]
  intro y hy
  simp
/-! ### who -/
theorem zipIdx_range {α : Type} (s : List α) (d : α) : s.zipIdx = (List.range s.length).map fun v => (s.getD v d, v) := by
  apply List.ext_getElem
  · simp
  · intro i h1 h2
    have hi : i < s.length := by simpa using h1
    simp [List.getElem?_eq_getElem hi]
theorem who_eq {n h : Nat} {s : Mks} (hs : s.length = n) : ((s.zipIdx.filter fun z => (z.1.map Prod.fst).contains h).map Prod.snd) = (List.range n).filter fun v => (s.getD v []).any fun x => x.1 == h := by
  rw [zipIdx_range s [], hs, List.filter_map, List.map_map]
  have e : (Prod.snd ∘ fun v => (s.getD v [], v)) = (id : Nat → Nat) := rfl
  rw [e, List.map_id]
  refine List.filter_congr fun v _ => ?_
  show ((s.getD v []).map Prod.fst).contains h = _
  rw [Bool.eq_iff_iff, List.contains_iff_mem, List.mem_map, List.any_eq_true]
  constructor
  · rintro ⟨x, h1, h2⟩; exact ⟨x, h1, by rw [beq_iff_eq]; exact h2⟩
  · rintro ⟨x, h1, h2⟩; exact ⟨x, h1, by rw [beq_iff_eq] at h2; exact h2⟩
/-! ### pairs -/
theorem sum_bits {α : Type} (p : α → Bool) : ∀ l : List α, (l.map fun x => if p x = true then 1 else 0).sum = (l.filter p).length
  | [] => rfl
  | x :: r => by
    rw [List.map_cons, List.sum_cons, sum_bits p r]
    cases c : p x with
    | true => rw [List.filter_cons_of_pos c, if_pos rfl, List.length_cons]; omega
    | false => rw [List.filter_cons_of_neg (by rw [c]; exact Bool.false_ne_true), if_neg Bool.false_ne_true]; omega
theorem sum_add {α : Type} (f g : α → Nat) : ∀ l : List α, (l.map fun x => f x + g x).sum = (l.map f).sum + (l.map g).sum
  | [] => rfl
  | x :: r => by simp only [List.map_cons, List.sum_cons, sum_add f g r]; omega
def cntS (f : Nat → Nat → Bool) (n : Nat) : Nat := ((List.range n).map fun v => ((List.range v).filter fun u => f u v).length).sum
def cntT (f : Nat → Nat → Bool) (n N : Nat) : Nat := ((List.range n).map fun u => ((List.range N).filter fun v => decide (u < v) && f u v).length).sum
theorem cnt_eq (f : Nat → Nat → Bool) : ∀ n, cntT f n n = cntS f n
  | 0 => rfl
  | n + 1 => by
    have ih := cnt_eq f n
    have e1 : cntS f (n + 1) = cntS f n + ((List.range n).filter fun u => f u n).length := by
      unfold cntS
      rw [List.range_succ, List.map_append, List.sum_append]
      simp
    have e2 : ∀ u, ((List.range (n + 1)).filter fun v => decide (u < v) && f u v).length = ((List.range n).filter fun v => decide (u < v) && f u v).length + if (decide (u < n) && f u n) = true then 1 else 0 := fun u => by
      rw [List.range_succ, List.filter_append, List.length_append]
      congr 1
      by_cases c : (decide (u < n) && f u n) = true
      · rw [List.filter_cons_of_pos (p := fun v => decide (u < v) && f u v) c, if_pos c]; rfl
      · rw [List.filter_cons_of_neg (p := fun v => decide (u < v) && f u v) c, if_neg c]; rfl
    have e3 : cntT f (n + 1) (n + 1) = ((List.range n).map fun u => ((List.range n).filter fun v => decide (u < v) && f u v).length + if (decide (u < n) && f u n) = true then 1 else 0).sum + 0 := by
      unfold cntT
      rw [List.map_congr_left fun u _ => e2 u, List.range_succ, List.map_append, List.sum_append]
      congr 1
      have z : ((List.range n).filter fun v => decide (n < v) && f n v) = [] := List.filter_eq_nil_iff.mpr fun v hv => by
        have := List.mem_range.mp hv
        rw [decide_eq_false (by omega : ¬ n < v)]
        exact Bool.false_ne_true
      simp [z]
    rw [e1, ← ih, e3, Nat.add_zero, sum_add]
    show cntT f n n + _ = _
    congr 1
    rw [← sum_bits]
    congr 1
    refine List.map_congr_left fun u hu => ?_
    rw [decide_eq_true (List.mem_range.mp hu), Bool.true_and]
theorem pairs_cnt (f : Nat → Nat → Bool) (n : Nat) : ((Kv402.pairs n).filter fun q => f q.1 q.2).length = cntS f n := by
  rw [← cnt_eq]
  unfold Kv402.pairs cntT
  rw [List.filter_flatMap, List.length_flatMap]
  congr 1
  refine List.map_congr_left fun u _ => ?_
  rw [List.filter_map, List.length_map, List.filter_filter]
  congr 1
  refine List.filter_congr fun v _ => ?_
  show (f u v && decide (u < v)) = _
  rw [Bool.and_comm]
theorem fold_cnt (p : Nat → Bool) : ∀ (l : List Nat) (s : Nat), l.foldl (fun s u => if p u = true then s + 1 else s) s = s + (l.filter p).length
  | [], _ => rfl
  | x :: r, s => by
    rw [List.foldl_cons, fold_cnt p r]
    cases c : p x with
    | true => rw [List.filter_cons_of_pos c, if_pos rfl, List.length_cons]; omega
    | false => rw [List.filter_cons_of_neg (by rw [c]; exact Bool.false_ne_true), if_neg Bool.false_ne_true]
theorem fold_sum (g : Nat → Nat) : ∀ (l : List Nat) (s : Nat), l.foldl (fun s v => s + g v) s = s + (l.map g).sum
  | [], _ => rfl
  | x :: r, s => by rw [List.foldl_cons, fold_sum g r, List.map_cons, List.sum_cons]; omega
/-! ### orders -/
theorem sub_perm {α : Type} [DecidableEq α] : ∀ {l1 l2 : List α}, l1.Nodup → (∀ x ∈ l1, x ∈ l2) → l1.length = l2.length → l1.Perm l2
  | [], l2, _, _, h => by rw [List.eq_nil_of_length_eq_zero h.symm]
  | x :: t, l2, hn, hs, hl => by
    have hx := hs x List.mem_cons_self
    have hn' := List.nodup_cons.mp hn
    have p := List.perm_cons_erase hx
    refine (List.Perm.cons x (sub_perm hn'.2 (fun y hy => ?_) ?_)).trans p.symm
    · have ne : y ≠ x := fun e => hn'.1 (e ▸ hy)
      exact (List.mem_erase_of_ne ne).mpr (hs y (List.mem_cons_of_mem _ hy))
    · rw [List.length_erase_of_mem hx, ← hl, List.length_cons]; omega
theorem okOrder_iff {n : Nat} {l : List Nat} : Kv403.okOrder n l = true ↔ l.Perm (List.range n) := by
  unfold Kv403.okOrder
  rw [Bool.and_eq_true, beq_iff_eq, List.all_eq_true]
  constructor
  · rintro ⟨h1, h2⟩
    exact (sub_perm List.nodup_range (fun x hx => List.contains_iff_mem.mp (h2 x hx)) (by rw [List.length_range, h1])).symm
  · intro h
    exact ⟨by rw [h.length_eq, List.length_range], fun x hx => List.contains_iff_mem.mpr (h.mem_iff.mpr hx)⟩
theorem filter_ne_perm {l : List Nat} (hn : l.Nodup) {v : Nat} (hv : v ∈ l) : (v :: l.filter fun x => x != v).Perm l := by
  have p := List.perm_cons_erase hv
  rw [hn.erase_eq_filter] at p
  exact p.symm
theorem orders_perm : ∀ (f : Nat) (l o : List Nat), l.Nodup → l.length = f → o ∈ Kv403.orders f l → o.Perm l
  | 0, l, o, _, hl, ho => by
    rw [List.eq_nil_of_length_eq_zero hl]
    rw [List.mem_singleton.mp ho]
  | f + 1, l, o, hn, hl, ho => by
    obtain ⟨x, hx, h⟩ := List.mem_flatMap.mp ho
    obtain ⟨q, hq, rfl⟩ := List.mem_map.mp h
    have p := filter_ne_perm hn hx
    have e : (l.filter fun y => y != x).length = f := by
      have := p.length_eq
      rw [List.length_cons] at this
      omega
    exact (List.Perm.cons x (orders_perm f _ q (hn.filter _) e hq)).trans p
theorem best_perm (n : Nat) (ls : List Line) : (Kv403.best ⟨n, ls⟩).Perm (List.range n) := orders_perm n _ _ List.nodup_range List.length_range (best_good n ls)
theorem perm_lt {n : Nat} {l : List Nat} (h : l.Perm (List.range n)) : ∀ x ∈ l, x < n := fun x hx => List.mem_range.mp (h.mem_iff.mp hx)
theorem perm_len {n : Nat} {l : List Nat} (h : l.Perm (List.range n)) : l.length = n := by rw [h.length_eq, List.length_range]
/-- sorted(row) == list(range(n)) -/
theorem sort_ok {n : Nat} {row : List Nat} : decide ((inl row).mergeSort (fun a b => decide (a ≤ b)) = inl (List.range n)) = Kv403.okOrder n row := by
  rw [Bool.eq_iff_iff, decide_eq_true_eq, okOrder_iff]
  have hp := List.mergeSort_perm (inl row) (fun a b => decide (a ≤ b))
  constructor
  · intro e
    rw [e] at hp
    have := hp.map Int.toNat
    have back : ∀ l : List Nat, (inl l).map Int.toNat = l := fun l => by
      unfold inl
      rw [List.map_map]
      exact List.map_id' l
    rw [back, back] at this
    exact this.symm
  · intro h
    have h1 : ((inl row).mergeSort (fun a b => decide (a ≤ b))).Pairwise (fun a b => a ≤ b) :=
      (List.pairwise_mergeSort (le := fun a b : Int => decide (a ≤ b)) (fun a b c h1 h2 => decide_eq_true (Int.le_trans (of_decide_eq_true h1) (of_decide_eq_true h2))) (fun a b => by
        rw [Bool.or_eq_true, decide_eq_true_eq, decide_eq_true_eq]; omega) (inl row)).imp fun h => of_decide_eq_true h
    have h2 : (inl (List.range n)).Pairwise (fun a b => a ≤ b) := by
      unfold inl
      rw [List.pairwise_map]
      exact List.pairwise_lt_range.imp fun h => by omega
    exact List.Perm.eq_of_pairwise (le := fun a b => a ≤ b) (fun x y _ _ k1 k2 => Int.le_antisymm k1 k2) h1 h2 (hp.trans (h.map _))
/-! ### what the state keeps -/
structure Ok (w : Kv403.Now) : Prop where
  wf : Wf w.g.n w.g.lines
  od : w.o.Perm (List.range w.g.n)
structure Inv (a : Kv403.Abs) : Prop where
  now : Ok a.now
  past : ∀ w ∈ a.past, Ok w ∧ w.g.n = a.now.g.n
  few : a.past.length ≤ 10
theorem inv_to {a : Kv403.Abs} {w : Kv403.Now} (h : Inv a) (k : Ok w) (e : w.g.n = a.now.g.n) : Inv (a.to_ w).1 where
  now := k
  past := fun x hx => by
    have hx' : x ∈ a.now :: a.past := List.mem_of_mem_take hx
    show Ok x ∧ x.g.n = w.g.n
    rw [e]
    rcases List.mem_cons.mp hx' with z | z
    · rw [z]; exact ⟨h.now, rfl⟩
    · exact h.past x z
  few := by
    show ((a.now :: a.past).take 10).length ≤ 10
    rw [List.length_take]
    omega
theorem wf_nil {n : Nat} (h1 : 1 ≤ n) (h8 : n ≤ 8) : Wf n [] := ⟨h1, h8, fun l hl => (by cases hl), .nil, .nil, by decide⟩
theorem wf_put {n x y w : Nat} {ls : List Line} (h : Wf n ls) (hx : x < n) (hy : y < n) (hxy : x ≠ y) (w1 : 1 ≤ w) (w9 : w ≤ 99) (h14 : (but ls x y).length < 14) : Wf n (Kv402.put ⟨min x y, max x y, w⟩ (but ls x y)) := by
  have hs : Wf n (but ls x y) := h.sub List.filter_sublist
  have p := put_perm ⟨min x y, max x y, w⟩ (but ls x y)
  have n8 := h.n8
  refine ⟨h.n1, h.n8, fun l hl => ?_, put_sorted _ ⟨by show min x y < 1000; omega, by show max x y < 1000; omega, by show w < 1000; omega⟩ _ hs.bnd hs.srt, ?_, ?_⟩
  · rcases List.mem_cons.mp (p.mem_iff.mp hl) with e | e
    · rw [e]
      exact ⟨by show min x y < max x y; omega, by show max x y < n; omega, w1, w9⟩
    · exact hs.ln l e
  · refine (p.pairwise_iff (fun {l m} z q => z ⟨q.1.symm, q.2.symm⟩)).mpr (List.pairwise_cons.mpr ⟨fun m hm => ?_, hs.dis⟩)
    rintro ⟨q1, q2⟩
    have q1 : min x y = m.a := q1
    have q2 : max x y = m.b := q2
    obtain ⟨_, hm2⟩ := List.mem_filter.mp hm
    have : Kv402.ends m x y = true := ends_iff.mpr (by omega)
    rw [this] at hm2
    cases hm2
  · rw [p.length_eq, List.length_cons]
    omega
theorem ok_begun {n : Nat} (h1 : 1 ≤ n) (h8 : n ≤ 8) : Inv (Kv403.begun n) := ⟨⟨wf_nil h1 h8, List.Perm.refl _⟩, fun w hw => (by cases hw), by show 0 ≤ 10; decide⟩
theorem inv_does {a : Kv403.Abs} (h : Inv a) (c : Kv403.Call) : Inv (a.does c).1 := by
  cases c with
  | begin_ n =>
    show Inv (if n = 0 ∨ 8 < n then (a, Kv403.say (-22)) else (Kv403.begun n, Kv403.say 0)).1
    split
    · exact h
    · exact ok_begun (by omega) (by omega)
  | line x y w =>
    simp only [Kv403.Abs.does]
    split
    · exact h
    · split
      · exact h
      · split
        · exact h
        · exact inv_to h ⟨wf_put (n := a.now.g.n) h.now.wf (by omega) (by omega) (by omega) (by omega) (by omega) (by show (a.now.g.lines.filter fun m => !Kv402.ends m x y).length < 14; omega), h.now.od⟩ rfl
  | cut i =>
    simp only [Kv403.Abs.does]
    split
    · exact h
    · exact inv_to h ⟨h.now.wf.sub (List.eraseIdx_sublist _ _), h.now.od⟩ rfl
  | order l =>
    simp only [Kv403.Abs.does]
    split
    · exact h
    · rename_i e
      exact inv_to h ⟨h.now.wf, okOrder_iff.mp (by rw [← Bool.not_eq_false]; exact e)⟩ rfl
  | first v =>
    simp only [Kv403.Abs.does]
    split
    · exact h
    · refine inv_to h ⟨h.now.wf, ?_⟩ rfl
      have p := h.now.od
      exact (filter_ne_perm (p.nodup_iff.mpr List.nodup_range) (p.mem_iff.mpr (List.mem_range.mpr (by omega)))).trans p
  | bestorder =>
    simp only [Kv403.Abs.does]
    split
    · exact h
    · exact inv_to h ⟨h.now.wf, best_perm _ _⟩ rfl
  | lines => exact h
  | orderis => exact h
  | marks v => simp only [Kv403.Abs.does]; split <;> exact h
  | size => exact h
  | told u v =>
    simp only [Kv403.Abs.does]
    split
    · exact h
    · split <;> exact h
  | dist u v =>
    simp only [Kv403.Abs.does]
    split
    · exact h
    · split <;> exact h
  | by_ u v =>
    simp only [Kv403.Abs.does]
    split
    · exact h
    · split <;> exact h
  | who u => simp only [Kv403.Abs.does]; split <;> exact h
  | without v i =>
    simp only [Kv403.Abs.does]
    split
    · exact h
    · split <;> exact h
  | after k => simp only [Kv403.Abs.does]; split <;> exact h
  | would l => simp only [Kv403.Abs.does]; split <;> exact h
  | fewest => simp only [Kv403.Abs.does]; split <;> exact h
  | right l => simp only [Kv403.Abs.does]; split <;> exact h
  | back =>
    obtain ⟨now, past⟩ := a
    cases past with
    | nil => exact h
    | cons w l =>
      refine ⟨(h.past w List.mem_cons_self).1, fun x hx => ?_, ?_⟩
      · have := h.past x (List.mem_cons_of_mem _ hx)
        exact ⟨this.1, this.2.trans (h.past w List.mem_cons_self).2.symm⟩
      · have := h.few
        show l.length ≤ 10
        have e : (w :: l).length ≤ 10 := this
        rw [List.length_cons] at e
        omega
  | state => exact h
end Wp
set_option Elab.async false
set_option linter.all false
set_option maxRecDepth 100000
set_option maxHeartbeats 4000000
namespace Wp
open PySem L2
open Kv402 (Line)
theorem at_map {α : Type} {f : α → Pr} {l : List α} {v : Nat} (d : α) (h : v < l.length) : atI (l.map f) (v : Int) = some (f (l.getD v d)) := by
  unfold atI
  rw [List.length_map, ixN_nat h]
  show (l.map f)[v]? = _
  rw [List.getElem?_map, List.getElem?_eq_getElem h, getD_lt h]
  rfl
theorem erase_map {α β : Type} (f : α → β) : ∀ (l : List α) (i : Nat), (l.map f).eraseIdx i = (l.eraseIdx i).map f
  | [], _ => rfl
  | _ :: _, 0 => rfl
  | x :: r, i + 1 => congrArg (f x :: ·) (erase_map f r i)
theorem cut_two {α : Type} (xs : List α) (i : Nat) (h : xs.length ≤ 10000) : (cutP xs none (some (i : Int))).length + (cutP xs (some ((i : Int) + 1)) none).length ≤ 100000 := by
  rw [show ((i : Int) + 1) = ((i + 1 : Nat) : Int) by omega, cut_take, cut_drop, List.length_take, List.length_drop]
  omega
theorem at_zero {α : Type} {x : α} {r : List α} : atI (x :: r) 0 = some x := by
  unfold atI ixN
  rw [if_pos (Int.le_refl 0), if_pos (by rw [List.length_cons]; omega)]
  rfl
def pAns (a : Kv403.Ans) : Pr := pList ((Kv403Neutral.row a).map pInt)
theorem ans_say (i : Int) : pAns (Kv403.say i) = pList [pInt i] := rfl
theorem de_say {Γ : List Sl} (i : Int) : DE (tLst (tCons (tC (.int i)) tNil)) Γ (pAns (Kv403.say i)) := de_lst (Ps := [pInt i]) (ea_cons de_int ea_nil) (by simp)
theorem de_num {Γ : List Sl} {te : TE} {n : Nat} (h : DE te Γ (pNat n)) : DE (tLst (tCons te tNil)) Γ (pAns (Kv403.num n)) := de_lst (Ps := [pNat n]) (ea_cons h ea_nil) (by simp)
theorem ans_num (n : Nat) : pAns (Kv403.num n) = pList [pNat n] := rfl
section
variable {P : Program} {w : World} {K : PySem.W.Frag} {mg : Str → Option Value} {base : Heap} {C : Addr}
/-! ### told_through -/
def sp_told_through : Sp := PSp (fun x : List (Nat × Nat) × List (Nat × Nat) => [pMarks x.1, pMarks x.2]) (fun x => x.1.length ≤ 1000) (fun x => pON (Kv403.by_ x.1 x.2))
theorem ok_told_through {f : Addr} {fd : FuncData} (F : Fun K "told_through" "told_through" s_told_through f fd) (T : Txt K mg C) (h_told_by : Has P w K mg base 1 "told_by" ["ours", "theirs"] sp_told_by) : FnOk P w K mg base CX0 2 f fd ["ours", "theirs"] sp_told_through := by
  refine F.ok sc_told_through (psp_len fun _ => rfl) (fun cdv A outer s H vs Q E hr h => ?_)
  refine ⟨_, (pss_cons (ps_set (i := 2) sc_told_through.nd rfl (Or.inr rfl) (pe_callH h_told_by (hr.mono (by decide)) rfl (pa_cons (pv 0) (pa_cons (pv 1) pa_nil)))) (pss_cons (ps_if (pt_cmpR op_eq (pv 2) (pe_gi T.NOTHING rfl) (nomark _)) (pss_one (ps_ret (pe_gi T.NOTHING rfl))) pss_nil) (pss_one (ps_ret (pe_ix ix_list (pe_lc (own := [("mark", 3)]) (g := (gName 3)) (tt := (tTest (tOp rEq (tCall sp_told_by [] E0 (tCons (tLst (tCons (tVar 3) tNil)) (tCons (tVar 1) tNil))) (tVar 2)))) (te := (tOp (rIxT K) (tVar 3) (tC (.int 0)))) rfl sc_told_through.nd (pi_list (pv 0)) (blkOk_by (own := [("mark", 3)]) (N := ["ours", "theirs", "least", "mark"]) (sc := defScope s_told_through) (by decide +kernel)) (fun _ _ _ _ _ => (pg_name (i := 3) sc_told_through.nd rfl (Or.inl rfl))) (fun _ _ _ _ _ => (pts_one (pt_cmpR op_eq (pe_callH h_told_by (hr.mono (by decide)) rfl (pa_cons (pe_lst (pa_cons (pv 3) pa_nil)) (pa_cons (pv 1) pa_nil))) (pv 2) (nomark _)))) (fun _ _ _ _ _ => (pe_ix ix_tup (pv 3) pe_int (fun _ _ => rfl)))) pe_int (fun _ _ => rfl)))))), ?_⟩
  refine body_pure h (fun x => [.val (pMarks x.1), .val (pMarks x.2), .any, .any]) (fun _ => rfl) fun x hl => ?_
  obtain ⟨l, m⟩ := x
  have hl : l.length ≤ 1000 := hl
  refine se_seq (Γ1 := [.val (pMarks l), .val (pMarks m), .val (pON (Kv403.told l m)), .any]) (se_asg (de_call (x := (l, m)) (ea_cons (de_var rfl) (ea_cons (de_var rfl) ea_nil)) trivial)) ?_
  have cc : Kv403.told l m = none ∨ ∃ d, Kv403.told l m = some d := by cases Kv403.told l m with | none => exact .inl rfl | some d => exact .inr ⟨d, rfl⟩
  rcases cc with c | ⟨d, c⟩
  · refine se_hit (et_is (et_test (de_eq (de_var rfl) de_int)) (decide_eq_true (onI_none.mpr c))) (se_ret (de_is de_int ?_))
    show pInt (-1) = pON (Kv403.by_ l m)
    rw [by_none c]
    rfl
  · refine se_skip (et_is (et_test (de_eq (de_var rfl) de_int)) (decide_eq_false fun z => by rw [onI_none.mp z] at c; cases c)) (se_ret ?_)
    obtain ⟨x, r, e1, e2⟩ := by_some c
    refine de_ixL (de_lc (pf := pMark) (rf := fun x => pNat x.1) (b := fun x => decide (onI (Kv403.told [x] m) = onI (Kv403.told l m))) (xs := l) (fun x => [.val (pMarks l), .val (pMarks m), .val (pON (Kv403.told l m)), .val (pMark x)]) (wi_list (de_var rfl)) rfl (fun x => gc_name (by simp))
      (fun x hx => et_test (de_eq (de_call (x := ([x], m)) (ea_cons (de_lst (ea_cons (de_var rfl) ea_nil) (by simp)) (ea_cons (de_var rfl) ea_nil)) trivial) (de_var rfl))) (fun x hx _ => de_ixT (de_var rfl) de_int rfl) (by omega)) de_int ?_
    rw [e1]
    show _ = some (pON (Kv403.by_ l m))
    rw [e2]
    exact at_zero
/-! ### has_mark -/
def sp_has_mark : Sp := PSp (fun x : List (Nat × Nat) × Nat => [pMarks x.1, pNat x.2]) (fun x => x.1.length ≤ 1000) (fun x => pBl ((x.1.map Prod.fst).contains x.2))
theorem ok_has_mark {f : Addr} {fd : FuncData} (F : Fun K "has_mark" "has_mark" s_has_mark f fd) (T : Txt K mg C)  : FnOk P w K mg base CX0 1 f fd ["had", "place"] sp_has_mark := by
  refine F.ok sc_has_mark (psp_len fun _ => rfl) (fun cdv A outer s H vs Q E hr h => ?_)
  refine ⟨_, (pss_one (ps_ret (pe_cmpR op_in_seq (pv 1) (pe_lc (own := [("mark", 2)]) (g := (gName 2)) (tt := tYes) (te := (tOp (rIxT K) (tVar 2) (tC (.int 0)))) rfl sc_has_mark.nd (pi_list (pv 0)) (blkOk_by (own := [("mark", 2)]) (N := ["had", "place", "mark"]) (sc := defScope s_has_mark) (by decide +kernel)) (fun _ _ _ _ _ => (pg_name (i := 2) sc_has_mark.nd rfl (Or.inl rfl))) (fun _ _ _ _ _ => pts_nil) (fun _ _ _ _ _ => (pe_ix ix_tup (pv 2) pe_int (fun _ _ => rfl)))) (by rfl)))), ?_⟩
  refine body_pure h (fun x => [.val (pMarks x.1), .val (pNat x.2), .any]) (fun _ => rfl) fun x hl => ?_
  obtain ⟨l, v⟩ := x
  have hl : l.length ≤ 1000 := hl
  refine se_ret (de_is (de_in (ns := inl (l.map Prod.fst)) (de_var rfl) (de_is (de_map (pf := pMark) (rf := fun x => pNat x.1) (xs := l) (fun x => [.val (pMarks l), .val (pNat v), .val (pMark x)]) (wi_list (de_var rfl)) rfl (fun x => gc_name (by simp)) (fun x hx => de_ixT (de_var rfl) de_int rfl) (by omega)) ?_)) ?_)
  · rw [inl_map, List.map_map]; rfl
  · rw [contains_inl]
/-! ### without_mark -/
def sp_without_mark : Sp := PSp (fun x : Mks × Nat × Nat => [pAll x.1, pNat x.2.1, pNat x.2.2]) (fun x => x.2.1 < x.1.length ∧ ∀ l ∈ x.1, l.length ≤ 1000) (fun x => pAll (x.1.set x.2.1 ((x.1.getD x.2.1 []).eraseIdx x.2.2)))
theorem ok_without_mark {f : Addr} {fd : FuncData} (F : Fun K "without_mark" "without_mark" s_without_mark f fd) (T : Txt K mg C)  : FnOk P w K mg base CX0 1 f fd ["marks", "place", "number"] sp_without_mark := by
  refine F.ok sc_without_mark (psp_len fun _ => rfl) (fun cdv A outer s H vs Q E hr h => ?_)
  refine ⟨_, (pss_cons (ps_set (i := 3) sc_without_mark.nd rfl (Or.inl rfl) (pe_callTy call_list_of rfl T.list (by decide +kernel) (pa_cons (pv 0) pa_nil))) (pss_cons (ps_asg (pe_op op_cat (pe_slice sl_list (pe_ix ix_list (pv 0) (pv 1) (fun _ _ => rfl)) po_none (po_some (pv 2))) (pe_slice sl_list (pe_ix ix_list (pv 0) (pv 1) (fun _ _ => rfl)) (po_some (pe_op op_add (pv 2) pe_int)) po_none)) (pg_sub (pv 3) (pv 1) set_list)) (pss_one (ps_ret (pv 3))))), ?_⟩
  refine body_pure h (fun x => [.val (pAll x.1), .val (pNat x.2.1), .val (pNat x.2.2), .any]) (fun _ => rfl) fun x hp => ?_
  obtain ⟨s, v, i⟩ := x
  obtain ⟨hv, hk⟩ := hp
  have hv : v < s.length := hv
  have hk : ∀ l ∈ s, l.length ≤ 1000 := hk
  have hm : (s.getD v []).length ≤ 1000 := by rw [getD_lt hv]; exact hk _ (List.getElem_mem hv)
  refine se_newL (ea_cons (de_var rfl) ea_nil) (by simp) fun a => ?_
  refine se_seq (se_setL (j := v) (P := pMarks ((s.getD v []).eraseIdx i)) rfl (de_is (de_cat (de_sl (de_ixL (de_var rfl) (de_var rfl) (at_map [] hv)) eo_none (eo_some (de_var rfl))) (de_sl (de_ixL (de_var rfl) (de_var rfl) (at_map [] hv)) (eo_some (de_add (de_var rfl) de_int)) eo_none) ?_) ?_) (de_var rfl) (by rw [List.length_map]; exact hv)) (se_freeze (i := 3) rfl (se_ret (de_is (de_var rfl) ?_)))
  · refine cut_two _ i ?_
    rw [List.length_map]
    exact Nat.le_trans hm (by decide)
  · exact congrArg pList ((cut_erase _ i).trans (erase_map _ _ _))
  · show pList ((s.map pMarks).set v _) = pList ((s.set v _).map pMarks)
    rw [List.map_set]
/-! ### right_pairs -/
def okP (t : Tb) (s : Mks) (u v : Nat) : Bool := Kv403.told (s.getD u []) (s.getD v []) == Kv402.at_ t u v
def sp_right_pairs : Sp := PSp (fun x : Nat × Tb × Mks => [pTab x.2.1, pAll x.2.2]) (fun x => x.1 ≤ 8 ∧ Sq x.1 x.2.1 ∧ x.2.2.length = x.1) (fun x => pNat (cntS (okP x.2.1 x.2.2) x.1))
theorem ok_right_pairs {f : Addr} {fd : FuncData} (F : Fun K "right_pairs" "right_pairs" s_right_pairs f fd) (T : Txt K mg C) (h_told_by : Has P w K mg base 1 "told_by" ["ours", "theirs"] sp_told_by) : FnOk P w K mg base CX0 2 f fd ["table", "marks"] sp_right_pairs := by
  refine F.ok sc_right_pairs (psp_len fun _ => rfl) (fun cdv A outer s H vs Q E hr h => ?_)
  refine ⟨_, (pss_cons (ps_set (i := 2) sc_right_pairs.nd rfl (Or.inl rfl) pe_int) (pss_cons (ps_for PassesOwn.never rfl (pi_range1 rfl T.range (pa_cons (pe_callB call_len_seq rfl T.len (by decide +kernel) (pa_cons (pv 0) pa_nil)) pa_nil)) (pg_name (i := 3) sc_right_pairs.nd rfl (Or.inl rfl)) (pss_one (ps_for PassesOwn.never rfl (pi_range1 rfl T.range (pa_cons (pv 3) pa_nil)) (pg_name (i := 4) sc_right_pairs.nd rfl (Or.inl rfl)) (pss_one (ps_if (pt_cmpR op_eq (pe_callH h_told_by (hr.mono (by decide)) rfl (pa_cons (pe_ix ix_list (pv 1) (pv 4) (fun _ _ => rfl)) (pa_cons (pe_ix ix_list (pv 1) (pv 3) (fun _ _ => rfl)) pa_nil))) (pe_ix ix_list (pe_ix ix_list (pv 0) (pv 4) (fun _ _ => rfl)) (pv 3) (fun _ _ => rfl)) (nomark _)) (pss_one (ps_aug (i := 2) sc_right_pairs.nd rfl (Or.inl rfl) pe_int ip_add)) pss_nil))))) (pss_one (ps_ret (pv 2))))), ?_⟩
  refine body_pure h (fun x => [.val (pTab x.2.1), .val (pAll x.2.2), .any, .any, .any]) (fun _ => rfl) fun x hp => ?_
  obtain ⟨n, t, m⟩ := x
  obtain ⟨hn, sq, hm⟩ := hp
  have hn : n ≤ 8 := hn
  have sq : Sq n t := sq
  have hm : m.length = n := hm
  refine se_seq (se_asg de_int) (se_seq (Γ1 := [.val (pTab t), .val (pAll m), .val (pNat ((List.range n).foldl (fun s v => (List.range v).foldl (fun s u => if okP t m u v = true then s + 1 else s) s) 0)), .any, .any]) (se_fold (xs := List.range n) (pf := fun i : Nat => pInt (i : Int))
      (fun s => [.val (pTab t), .val (pAll m), .val (pNat s), .any, .any]) (fun s v => [.val (pTab t), .val (pAll m), .val (pNat s), .val (pNat v), .any]) (fun s v => (List.range v).foldl (fun s u => if okP t m u v = true then s + 1 else s) s) 0
      (wi_is (wi_range (n := (t.map pRow).length) (ea_cons (de_cb (ea_cons (de_var rfl) ea_nil) rc_len) ea_nil) (by rw [List.length_map, sq.1]; omega)) (by rw [List.length_map, sq.1])) (fun _ => True) trivial (fun s v => gb_name) (fun s v hv _ => ⟨trivial, ?_⟩)) (se_ret (de_is (de_var rfl) ?_)))
  · have hv : v < n := List.mem_range.mp hv
    refine se_weak (se_fold (xs := List.range v) (pf := fun i : Nat => pInt (i : Int)) (fun s => [.val (pTab t), .val (pAll m), .val (pNat s), .val (pNat v), .any]) (fun s u => [.val (pTab t), .val (pAll m), .val (pNat s), .val (pNat v), .val (pNat u)]) (fun s u => if okP t m u v = true then s + 1 else s) s
      (wi_range (ea_cons (de_var rfl) ea_nil) (by omega)) (fun _ => True) trivial (fun s u => gb_name) (fun s u hu _ => ⟨trivial, ?_⟩))
    have hu : u < v := List.mem_range.mp hu
    refine se_if (b := okP t m u v) (et_is (et_test (de_eq (de_call (x := (m.getD u [], m.getD v [])) (ea_cons (de_ixL (de_var rfl) (de_var rfl) (at_map [] (by omega))) (ea_cons (de_ixL (de_var rfl) (de_var rfl) (at_map [] (by omega))) ea_nil)) trivial)
        (i := onI (Kv403.told (m.getD u []) (m.getD v []))) (j := onI (Kv402.at_ t u v)) (de_ixL (de_ixL (P := pRow (t.getD u [])) (de_var rfl) (de_var rfl) (at_map [] (by rw [sq.1]; omega))) (de_var rfl) (at_map none (by rw [sq_row sq (by omega)]; omega))))) ?_) (fun e => ?_) (fun e => ?_)
    · unfold okP
      rw [Bool.eq_iff_iff, decide_eq_true_eq, beq_iff_eq, onI_inj]
    · refine se_weak (se_aug rfl de_int) ?_
      rw [if_pos e]
      exact .keep (.keep (.keep (.keep (.drop .nil))))
    · refine se_weak se_next ?_
      rw [if_neg (by rw [e]; exact Bool.false_ne_true)]
      exact .keep (.keep (.keep (.keep (.drop .nil))))
  · congr 1
    show _ = cntS (okP t m) n
    unfold cntS
    rw [show (fun s v => (List.range v).foldl (fun s u => if okP t m u v = true then s + 1 else s) s) = fun (s v : Nat) => s + ((List.range v).filter fun u => okP t m u v).length from funext fun s => funext fun v => fold_cnt (fun u => okP t m u v) (List.range v) s, fold_sum, Nat.zero_add]
/-! ### or_none -/
def orA : Option Nat → Kv403.Ans
  | none => Kv403.say (-33)
  | some d => Kv403.num d
def sp_or_none : Sp := PSp (fun x : Option Nat => [pON x]) (fun _ => True) (fun x => pAns (orA x))
theorem ok_or_none {f : Addr} {fd : FuncData} (F : Fun K "or_none" "or_none" s_or_none f fd) (T : Txt K mg C)  : FnOk P w K mg base CX0 1 f fd ["number"] sp_or_none := by
  refine F.ok sc_or_none (psp_len fun _ => rfl) (fun cdv A outer s H vs Q E hr h => ?_)
  refine ⟨_, (pss_cons (ps_if (pt_cmpR op_eq (pv 0) (pe_gi T.NOTHING rfl) (nomark _)) (pss_one (ps_ret (pe_lst (pa_cons (pe_gi T.THERE_IS_NONE rfl) pa_nil)))) pss_nil) (pss_one (ps_ret (pe_lst (pa_cons (pv 0) pa_nil))))), ?_⟩
  refine body_pure h (fun x => [.val (pON x)]) (fun _ => rfl) fun x _ => ?_
  cases x with
  | none => exact se_hit (et_is (et_test (de_eq (de_var rfl) de_int)) (decide_eq_true rfl)) (se_ret (de_say _))
  | some d => exact se_skip (et_is (et_test (de_eq (de_var rfl) de_int)) (decide_eq_false fun z => by have z : (d : Int) = -1 := z; omega)) (se_ret (de_num (de_var rfl)))
end
end Wp
set_option Elab.async false
set_option linter.all false
set_option maxRecDepth 100000
set_option maxHeartbeats 4000000
namespace Wp
open PySem L2
open Kv402 (Line)
/-! ### the object -/
def fs4 (p l o h : Pr) : List (Str × Pr) := [("places", p), ("lines", l), ("order", o), ("past", h)]
def pNow (w : Kv403.Now) : Pr := pTup [pLines w.g.lines, pNats w.o]
def pPast (l : List Kv403.Now) : Pr := pList (l.reverse.map pNow)
def fsA (a : Kv403.Abs) : List (Str × Pr) := fs4 (pNat a.now.g.n) (pLines a.now.g.lines) (pNats a.now.o) (pPast a.past)
theorem look_places {p l o h : Pr} : (fs4 p l o h).lookup ("places" : Str) = some p := rfl
theorem look_lines {p l o h : Pr} : (fs4 p l o h).lookup ("lines" : Str) = some l := rfl
theorem look_order {p l o h : Pr} : (fs4 p l o h).lookup ("order" : Str) = some o := rfl
theorem look_past {p l o h : Pr} : (fs4 p l o h).lookup ("past" : Str) = some h := rfl
theorem put_places {p l o h Q : Pr} : putP "places" Q (fs4 p l o h) = fs4 Q l o h := rfl
theorem put_lines {p l o h Q : Pr} : putP "lines" Q (fs4 p l o h) = fs4 p Q o h := rfl
theorem put_order {p l o h Q : Pr} : putP "order" Q (fs4 p l o h) = fs4 p l Q h := rfl
theorem put_past {p l o h Q : Pr} : putP "past" Q (fs4 p l o h) = fs4 p l o Q := rfl
theorem no_has_place {p l o h : Pr} : (fs4 p l o h).lookup ("has_place" : Str) = none := rfl
theorem no_has_both {p l o h : Pr} : (fs4 p l o h).lookup ("has_both" : Str) = none := rfl
theorem no_is_order {p l o h : Pr} : (fs4 p l o h).lookup ("is_order" : Str) = none := rfl
theorem no_table {p l o h : Pr} : (fs4 p l o h).lookup ("table" : Str) = none := rfl
theorem no_all_marks {p l o h : Pr} : (fs4 p l o h).lookup ("all_marks" : Str) = none := rfl
theorem no_tells_all {p l o h : Pr} : (fs4 p l o h).lookup ("tells_all" : Str) = none := rfl
theorem no_size {p l o h : Pr} : (fs4 p l o h).lookup ("size" : Str) = none := rfl
theorem no_change {p l o h : Pr} : (fs4 p l o h).lookup ("change" : Str) = none := rfl
theorem no_would {p l o h : Pr} : (fs4 p l o h).lookup ("would" : Str) = none := rfl
theorem marks_true {n : Nat} {ls : List Line} {o : List Nat} (ho : ∀ h ∈ o, h < n) : True_ n (Kv402.table n ls) (Kv403.marks ⟨n, ls⟩ o) := by
  have e := marks_fold (table_sq n ls) (table_sym n ls) (table_tri n ls) ho (true_start n (Kv402.table n ls))
  show True_ n (Kv402.table n ls) (o.foldl (Kv403.mark n (Kv402.table n ls)) (List.replicate n []))
  rw [e.1]
  exact e.2
theorem marks_few {n : Nat} {ls : List Line} {o : List Nat} (ho : ∀ h ∈ o, h < n) : ∀ l ∈ Kv403.marks ⟨n, ls⟩ o, l.length ≤ o.length := by
  have e := marks_fold (table_sq n ls) (table_sym n ls) (table_tri n ls) ho (true_start n (Kv402.table n ls))
  show ∀ l ∈ o.foldl (Kv403.mark n (Kv402.table n ls)) (List.replicate n []), l.length ≤ o.length
  rw [e.1]
  intro l hl
  have := few_fold (table_sq n ls) (k := 0) ho List.length_replicate (fun l hl => by rw [List.eq_of_mem_replicate hl]; exact Nat.le_refl 0) l hl
  omega
theorem now_len {a : Kv403.Now} (h : Ok a) : a.marks.length = a.g.n := (marks_true (ls := a.g.lines) (perm_lt h.od)).1
theorem now_few {a : Kv403.Now} (h : Ok a) : ∀ l ∈ a.marks, l.length ≤ 8 := fun l hl => by
  have h1 := marks_few (ls := a.g.lines) (perm_lt h.od) l hl
  have h2 := perm_len h.od
  have h3 := h.wf.n8
  omega
theorem now_get {a : Kv403.Now} (h : Ok a) (v : Nat) : (a.marks.getD v []).length ≤ 8 := by
  by_cases c : v < a.marks.length
  · rw [getD_lt c]; exact now_few h _ (List.getElem_mem c)
  · rw [List.getD_eq_getElem?_getD, List.getElem?_eq_none (by omega)]; exact Nat.zero_le _
theorem fold_flat {α β : Type} (f : α → List β) : ∀ (l : List α) (acc : List β), l.foldl (fun s x => s ++ f x) acc = acc ++ l.flatMap f
  | [], acc => (List.append_nil acc).symm
  | x :: r, acc => by rw [List.foldl_cons, fold_flat f r, List.flatMap_cons, List.append_assoc]
theorem flat_len3 {α β : Type} {k : Nat} (f : α → List β) (hf : ∀ x, (f x).length = k) : ∀ l : List α, (l.flatMap f).length = k * l.length
  | [] => rfl
  | x :: r => by rw [List.flatMap_cons, List.length_append, hf, flat_len3 f hf r, List.length_cons, Nat.mul_add]; omega
theorem ans_list (i : Nat) (l : List Nat) : pAns ⟨(i : Nat), l⟩ = pList (pNat i :: l.map pNat) := by
  show pList (pInt (i : Int) :: (l.map Int.ofNat).map pInt) = _
  rw [List.map_map]
  rfl
theorem nats_list (l : List Nat) : pNats l = pList (l.map pNat) := by unfold pNats; rw [inl_map]
section
variable {P : Program} {w : World} {K : PySem.W.Frag} {mg : Str → Option Value} {base : Heap} {C : Addr}
abbrev Abs := Kv403.Abs
/-! ### begun, has_place, has_both, is_order -/
def sp_Posts_begun (C : Addr) : Sp := RSp C (fun a : Abs => fsA a) (fun _ => []) (fun _ => True) (fun a => pBl (decide (0 < a.now.g.n)))
theorem ok_Posts_begun {f : Addr} {fd : FuncData} (F : Fun K "begun" "Posts.begun" s_Posts_begun f fd) (T : Txt K mg C)  : FnOk P w K mg base CX0 1 f fd ["self"] (sp_Posts_begun C) := by
  refine F.ok sc_Posts_begun (rsp_len fun _ => rfl) (fun cdv A outer s H vs Q E hr h => ?_)
  refine ⟨_, (pss_one (ps_ret (pe_cmpR op_gt (pe_fld (pv 0) rfl) pe_int (nomark _)))), ?_⟩
  refine body_read h (fun x a M => [.own a M]) (fun _ _ _ => rfl) fun a p M hp hM => ?_
  exact se_ret (de_is (de_gt (de_fld (P := pNat a.now.g.n) rfl hM T.cl T.n_places look_places) de_int) (congrArg pBl (decide_eq_decide.mpr (by omega))))
def sp_Posts_has_place (C : Addr) : Sp := RSp C (fun x : Abs × Nat => fsA x.1) (fun x => [pNat x.2]) (fun _ => True) (fun x => pBl (decide (x.2 < x.1.now.g.n)))
theorem ok_Posts_has_place {f : Addr} {fd : FuncData} (F : Fun K "has_place" "Posts.has_place" s_Posts_has_place f fd) (T : Txt K mg C)  : FnOk P w K mg base CX0 1 f fd ["self", "place"] (sp_Posts_has_place C) := by
  refine F.ok sc_Posts_has_place (rsp_len fun _ => rfl) (fun cdv A outer s H vs Q E hr h => ?_)
  refine ⟨_, (pss_one (ps_ret (pe_cmpR op_lt (pv 1) (pe_fld (pv 0) rfl) (nomark _)))), ?_⟩
  refine body_read h (fun x a M => [.own a M, .val (pNat x.2)]) (fun _ _ _ => rfl) fun x p M hp hM => ?_
  exact se_ret (de_is (de_lt (de_var rfl) (de_fld (P := pNat x.1.now.g.n) rfl hM T.cl T.n_places look_places)) (congrArg pBl (decide_eq_decide.mpr (by omega))))
def sp_Posts_has_both (C : Addr) : Sp := RSp C (fun x : Abs × Nat × Nat => fsA x.1) (fun x => [pNat x.2.1, pNat x.2.2]) (fun _ => True) (fun x => pBl (decide (x.2.1 < x.1.now.g.n) && decide (x.2.2 < x.1.now.g.n)))
theorem ok_Posts_has_both {f : Addr} {fd : FuncData} (F : Fun K "has_both" "Posts.has_both" s_Posts_has_both f fd) (T : Txt K mg C) (h_Posts_has_place : HasM P w K mg base 1 C "has_place" ["self", "place"] (sp_Posts_has_place C)) : FnOk P w K mg base CX0 2 f fd ["self", "u", "v"] (sp_Posts_has_both C) := by
  refine F.ok sc_Posts_has_both (rsp_len fun _ => rfl) (fun cdv A outer s H vs Q E hr h => ?_)
  obtain ⟨f_Posts_has_place, fd_Posts_has_place, F_Posts_has_place, mt_Posts_has_place, bd_Posts_has_place⟩ := h_Posts_has_place.ex
  refine ⟨_, (pss_one (ps_ret (pe_and (pe_meth (pv 0) T.cl mt_Posts_has_place F_Posts_has_place (hr.mono (by decide)) bd_Posts_has_place .nil pass0 (pa_cons (pv 1) pa_nil)) (pe_one (pe_meth (pv 0) T.cl mt_Posts_has_place F_Posts_has_place (hr.mono (by decide)) bd_Posts_has_place .nil pass0 (pa_cons (pv 2) pa_nil)))))), ?_⟩
  refine body_read h (fun x a M => [.own a M, .val (pNat x.2.1), .val (pNat x.2.2)]) (fun _ _ _ => rfl) fun x p M hp hM => ?_
  exact se_ret (de_andV (de_meth (x := (x.1, x.2.1)) rfl hM no_has_place (ea_cons (de_var rfl) ea_nil) trivial) fun _ => de_meth (x := (x.1, x.2.2)) rfl hM no_has_place (ea_cons (de_var rfl) ea_nil) trivial)
def sp_Posts_is_order (C : Addr) : Sp := RSp C (fun x : Abs × List Nat => fsA x.1) (fun x => [pNats x.2]) (fun x => x.1.now.g.n ≤ 8) (fun x => pBl (Kv403.okOrder x.1.now.g.n x.2))
theorem ok_Posts_is_order {f : Addr} {fd : FuncData} (F : Fun K "is_order" "Posts.is_order" s_Posts_is_order f fd) (T : Txt K mg C)  : FnOk P w K mg base CX0 1 f fd ["self", "row"] (sp_Posts_is_order C) := by
  refine F.ok sc_Posts_is_order (rsp_len fun _ => rfl) (fun cdv A outer s H vs Q E hr h => ?_)
  refine ⟨_, (pss_one (ps_ret (pe_cmpR (op_eqD (hu64 hr)) (pe_callB cr_sortedI rfl T.sorted (by decide +kernel) (pa_cons (pv 1) pa_nil)) (pe_listRg rfl rfl T.list (prg_1 rfl T.range (pe_fld (pv 0) rfl))) (nomark _)))), ?_⟩
  refine body_read h (fun x a M => [.own a M, .val (pNats x.2)]) (fun _ _ _ => rfl) fun x p M hp hM => ?_
  obtain ⟨a, row⟩ := x
  have hp : a.now.g.n ≤ 8 := hp
  refine se_ret (de_is (de_eqD (ns := (inl row).mergeSort fun a b => decide (a ≤ b)) (ms := inl (List.range a.now.g.n)) (de_cb (ea_cons (de_var rfl) ea_nil) (rc_sortedI fun ns' h1 h2 => ?_)) (de_listRg (de_fld rfl hM T.cl T.n_places look_places) (by omega))) (congrArg pBl sort_ok))
  have s1 : ((inl row).mergeSort (fun a b => decide (a ≤ b))).Pairwise (fun a b => a ≤ b) :=
    (List.pairwise_mergeSort (le := fun a b : Int => decide (a ≤ b)) (fun a b c h1 h2 => decide_eq_true (Int.le_trans (of_decide_eq_true h1) (of_decide_eq_true h2))) (fun a b => by
      rw [Bool.or_eq_true, decide_eq_true_eq, decide_eq_true_eq]; omega) (inl row)).imp fun h => of_decide_eq_true h
  rw [List.Perm.eq_of_pairwise (le := fun a b => a ≤ b) (fun x y _ _ k1 k2 => Int.le_antisymm k1 k2) h2 s1 (h1.trans (List.mergeSort_perm _ _).symm)]
/-! ### table, all_marks, tells_all, size -/
def sp_Posts_table (C : Addr) : Sp := RSp C (fun a : Abs => fsA a) (fun _ => []) (fun a => Ok a.now) (fun a => pTab (Kv402.table a.now.g.n a.now.g.lines))
theorem ok_Posts_table {f : Addr} {fd : FuncData} (F : Fun K "table" "Posts.table" s_Posts_table f fd) (T : Txt K mg C) (h_distance_table : Has P w K mg base 3 "distance_table" ["places", "lines"] sp_distance_table) : FnOk P w K mg base CX0 4 f fd ["self"] (sp_Posts_table C) := by
  refine F.ok sc_Posts_table (rsp_len fun _ => rfl) (fun cdv A outer s H vs Q E hr h => ?_)
  refine ⟨_, (pss_one (ps_ret (pe_callH h_distance_table (hr.mono (by decide)) rfl (pa_cons (pe_fld (pv 0) rfl) (pa_cons (pe_fld (pv 0) rfl) pa_nil))))), ?_⟩
  refine body_read h (fun x a M => [.own a M]) (fun _ _ _ => rfl) fun a p M hp hM => ?_
  exact se_ret (de_call (x := (a.now.g.n, a.now.g.lines)) (ea_cons (de_fld rfl hM T.cl T.n_places look_places) (ea_cons (de_fld rfl hM T.cl T.n_lines look_lines) ea_nil)) hp.wf)
def sp_Posts_all_marks (C : Addr) : Sp := RSp C (fun a : Abs => fsA a) (fun _ => []) (fun a => Ok a.now) (fun a => pAll a.now.marks)
theorem ok_Posts_all_marks {f : Addr} {fd : FuncData} (F : Fun K "all_marks" "Posts.all_marks" s_Posts_all_marks f fd) (T : Txt K mg C) (h_marks_by : Has P w K mg base 3 "marks_by" ["table", "order"] sp_marks_by) (h_Posts_table : HasM P w K mg base 4 C "table" ["self"] (sp_Posts_table C)) : FnOk P w K mg base CX0 5 f fd ["self"] (sp_Posts_all_marks C) := by
  refine F.ok sc_Posts_all_marks (rsp_len fun _ => rfl) (fun cdv A outer s H vs Q E hr h => ?_)
  obtain ⟨f_Posts_table, fd_Posts_table, F_Posts_table, mt_Posts_table, bd_Posts_table⟩ := h_Posts_table.ex
  refine ⟨_, (pss_one (ps_ret (pe_callH h_marks_by (hr.mono (by decide)) rfl (pa_cons (pe_meth0 (pv 0) T.cl mt_Posts_table F_Posts_table (hr.mono (by decide)) bd_Posts_table .nil pass0) (pa_cons (pe_fld (pv 0) rfl) pa_nil))))), ?_⟩
  refine body_read h (fun x a M => [.own a M]) (fun _ _ _ => rfl) fun a p M hp hM => ?_
  exact se_ret (de_call (x := (a.now.g.n, a.now.g.lines, a.now.o)) (ea_cons (de_meth (x := a) rfl hM no_table ea_nil hp) (ea_cons (de_fld rfl hM T.cl T.n_order look_order) ea_nil)) ⟨hp.wf, perm_lt hp.od, by rw [perm_len hp.od]; exact hp.wf.n8⟩)
def sp_Posts_tells_all (C : Addr) : Sp := RSp C (fun x : Abs × Mks => fsA x.1) (fun x => [pAll x.2]) (fun x => Ok x.1.now ∧ x.2.length = x.1.now.g.n) (fun x => pAns (Kv403.num (Kv403.bit (Kv403.right x.1.now.g x.2))))
theorem ok_Posts_tells_all {f : Addr} {fd : FuncData} (F : Fun K "tells_all" "Posts.tells_all" s_Posts_tells_all f fd) (T : Txt K mg C) (h_all_right : Has P w K mg base 2 "all_right" ["table", "marks"] sp_all_right) (h_Posts_table : HasM P w K mg base 4 C "table" ["self"] (sp_Posts_table C)) : FnOk P w K mg base CX0 5 f fd ["self", "marks"] (sp_Posts_tells_all C) := by
  refine F.ok sc_Posts_tells_all (rsp_len fun _ => rfl) (fun cdv A outer s H vs Q E hr h => ?_)
  obtain ⟨f_Posts_table, fd_Posts_table, F_Posts_table, mt_Posts_table, bd_Posts_table⟩ := h_Posts_table.ex
  refine ⟨_, (pss_cons (ps_if (pt_val (pe_callH h_all_right (hr.mono (by decide)) rfl (pa_cons (pe_meth0 (pv 0) T.cl mt_Posts_table F_Posts_table (hr.mono (by decide)) bd_Posts_table .nil pass0) (pa_cons (pv 1) pa_nil)))) (pss_one (ps_ret (pe_lst (pa_cons pe_int pa_nil)))) pss_nil) (pss_one (ps_ret (pe_lst (pa_cons pe_int pa_nil))))), ?_⟩
  refine body_read h (fun x a M => [.own a M, .val (pAll x.2)]) (fun _ _ _ => rfl) fun x p M hp hM => ?_
  obtain ⟨a, s⟩ := x
  obtain ⟨ho, hl⟩ := hp
  refine se_ifR (b := Kv403.right a.now.g s) (et_B (de_call (x := (a.now.g.n, Kv402.table a.now.g.n a.now.g.lines, s)) (ea_cons (de_meth (x := a) rfl hM no_table ea_nil ho) (ea_cons (de_var rfl) ea_nil)) ⟨table_sq _ _, hl⟩)) (fun c => ?_) (fun c => ?_) (fun _ => ⟨_, _, rfl⟩)
  · refine se_ret (de_is (de_lst (ea_cons de_int ea_nil) (by simp)) ?_)
    show _ = pAns (Kv403.num (Kv403.bit (Kv403.right a.now.g s)))
    rw [c]; rfl
  · refine se_ret (de_is (de_lst (ea_cons de_int ea_nil) (by simp)) ?_)
    show _ = pAns (Kv403.num (Kv403.bit (Kv403.right a.now.g s)))
    rw [c]; rfl
def sp_Posts_size (C : Addr) : Sp := RSp C (fun a : Abs => fsA a) (fun _ => []) (fun a => Ok a.now) (fun a => pAns (a.does .size).2)
theorem ok_Posts_size {f : Addr} {fd : FuncData} (F : Fun K "size" "Posts.size" s_Posts_size f fd) (T : Txt K mg C) (h_how_many : Has P w K mg base 1 "how_many" ["marks"] sp_how_many) (h_Posts_all_marks : HasM P w K mg base 5 C "all_marks" ["self"] (sp_Posts_all_marks C)) : FnOk P w K mg base CX0 6 f fd ["self"] (sp_Posts_size C) := by
  refine F.ok sc_Posts_size (rsp_len fun _ => rfl) (fun cdv A outer s H vs Q E hr h => ?_)
  obtain ⟨f_Posts_all_marks, fd_Posts_all_marks, F_Posts_all_marks, mt_Posts_all_marks, bd_Posts_all_marks⟩ := h_Posts_all_marks.ex
  refine ⟨_, (pss_one (ps_ret (pe_lst (pa_cons (pe_callH h_how_many (hr.mono (by decide)) rfl (pa_cons (pe_meth0 (pv 0) T.cl mt_Posts_all_marks F_Posts_all_marks (hr.mono (by decide)) bd_Posts_all_marks .nil pass0) pa_nil)) pa_nil)))), ?_⟩
  refine body_read h (fun x a M => [.own a M]) (fun _ _ _ => rfl) fun a p M hp hM => ?_
  exact se_ret (de_num (de_call (x := a.now.marks) (ea_cons (de_meth (x := a) rfl hM no_all_marks ea_nil hp) ea_nil) (by show a.now.marks.length ≤ 1000; rw [now_len hp]; have := hp.wf.n8; omega)))
/-! ### lines, orderis, state -/
def sp_Posts_show_lines (C : Addr) : Sp := RSp C (fun a : Abs => fsA a) (fun _ => []) (fun a => Ok a.now) (fun a => pAns (a.does .lines).2)
theorem ok_Posts_show_lines {f : Addr} {fd : FuncData} (F : Fun K "show_lines" "Posts.show_lines" s_Posts_show_lines f fd) (T : Txt K mg C)  : FnOk P w K mg base CX0 1 f fd ["self"] (sp_Posts_show_lines C) := by
  refine F.ok sc_Posts_show_lines (rsp_len fun _ => rfl) (fun cdv A outer s H vs Q E hr h => ?_)
  refine ⟨_, (pss_cons (ps_set (i := 1) sc_Posts_show_lines.nd rfl (Or.inl rfl) (pe_lst (pa_cons (pe_callB call_len_seq rfl T.len (by decide +kernel) (pa_cons (pe_fld (pv 0) rfl) pa_nil)) pa_nil))) (pss_cons (ps_for PassesOwn.never rfl (pi_list (pe_fld (pv 0) rfl)) (pg_tup rfl (pgs_cons (pg_name (i := 2) sc_Posts_show_lines.nd rfl (Or.inl rfl)) (pgs_cons (pg_name (i := 3) sc_Posts_show_lines.nd rfl (Or.inl rfl)) (pgs_cons (pg_name (i := 4) sc_Posts_show_lines.nd rfl (Or.inl rfl)) pgs_nil)))) (pss_one (ps_expr (pe_bm PySem.F.plainAttrs_list PySem.F.slot_list_extend PySem.F.type_list_extend mt_extend (pv 1) (pa_cons (pe_lst (pa_cons (pv 3) (pa_cons (pv 4) (pa_cons (pv 2) pa_nil)))) pa_nil))))) (pss_one (ps_ret (pv 1))))), ?_⟩
  refine body_read h (fun x a M => [.own a M, .any, .any, .any, .any]) (fun _ _ _ => rfl) fun a p M hp hM => ?_
  have h14 := hp.wf.few
  refine se_new (Ps := [pNat (a.now.g.lines.map pLine).length]) (ea_cons (de_cb (ea_cons (de_fld rfl hM T.cl T.n_lines look_lines) ea_nil) rc_len) ea_nil) (by simp) (by simp) fun q => ?_
  refine se_seq (se_foldx (xs := a.now.g.lines) (pf := pLine) (fun s : List Pr => [.own p M, .own q (muL s), .any, .any, .any]) (fun s l => [.own p M, .own q (muL s), .val (pNat l.w), .val (pNat l.a), .val (pNat l.b)]) (fun s l => s ++ [pNat l.a, pNat l.b, pNat l.w]) _
    (wi_list (de_fld rfl hM T.cl T.n_lines look_lines)) (fun s l => gb_three) (fun pre l post e => se_weak (se_extend rfl (de_lst (ea_cons (de_var rfl) (ea_cons (de_var rfl) (ea_cons (de_var rfl) ea_nil))) (by simp)) ?_))) (se_freeze (i := 1) rfl (se_ret (de_is (de_var rfl) ?_)))
  · rw [fold_flat, List.length_append, flat_len3 (k := 3) _ (fun _ => rfl)]
    have : pre.length ≤ a.now.g.lines.length := by rw [e, List.length_append]; omega
    simp only [List.length_cons, List.length_nil]
    omega
  · rw [fold_flat, List.length_map]
    show _ = pAns ⟨(a.now.g.lines.length : Nat), a.now.g.lines.flatMap fun x => [x.a, x.b, x.w]⟩
    rw [ans_list, List.map_flatMap]
    rfl
def sp_Posts_show_order (C : Addr) : Sp := RSp C (fun a : Abs => fsA a) (fun _ => []) (fun a => Ok a.now) (fun a => pAns (a.does .orderis).2)
theorem ok_Posts_show_order {f : Addr} {fd : FuncData} (F : Fun K "show_order" "Posts.show_order" s_Posts_show_order f fd) (T : Txt K mg C)  : FnOk P w K mg base CX0 1 f fd ["self"] (sp_Posts_show_order C) := by
  refine F.ok sc_Posts_show_order (rsp_len fun _ => rfl) (fun cdv A outer s H vs Q E hr h => ?_)
  refine ⟨_, (pss_one (ps_ret (pe_op op_cat (pe_lst (pa_cons (pe_fld (pv 0) rfl) pa_nil)) (pe_fld (pv 0) rfl)))), ?_⟩
  refine body_read h (fun x a M => [.own a M]) (fun _ _ _ => rfl) fun a p M hp hM => ?_
  have e := perm_len hp.od
  have n8 := hp.wf.n8
  refine se_ret (de_is (de_cat (de_lst (ea_cons (de_fld rfl hM T.cl T.n_places look_places) ea_nil) (by simp)) (de_fld rfl hM T.cl T.n_order look_order) ?_) ?_)
  · rw [inl_len]; simp only [List.length_cons, List.length_nil]; omega
  · show _ = pAns ⟨(a.now.o.length : Nat), a.now.o⟩
    rw [ans_list, inl_map, e]
    rfl
def sp_Posts_state (C : Addr) : Sp := RSp C (fun a : Abs => fsA a) (fun _ => []) (fun a => Ok a.now) (fun a => pAns (a.does .state).2)
theorem ok_Posts_state {f : Addr} {fd : FuncData} (F : Fun K "state" "Posts.state" s_Posts_state f fd) (T : Txt K mg C)  : FnOk P w K mg base CX0 1 f fd ["self"] (sp_Posts_state C) := by
  refine F.ok sc_Posts_state (rsp_len fun _ => rfl) (fun cdv A outer s H vs Q E hr h => ?_)
  refine ⟨_, (pss_one (ps_ret (pe_lst (pa_cons (pe_fld (pv 0) rfl) (pa_cons (pe_callB call_len_seq rfl T.len (by decide +kernel) (pa_cons (pe_fld (pv 0) rfl) pa_nil)) (pa_cons (pe_callB call_len_seq rfl T.len (by decide +kernel) (pa_cons (pe_fld (pv 0) rfl) pa_nil)) pa_nil)))))), ?_⟩
  refine body_read h (fun x a M => [.own a M]) (fun _ _ _ => rfl) fun a p M hp hM => ?_
  refine se_ret (de_is (de_lst (ea_cons (de_fld rfl hM T.cl T.n_places look_places) (ea_cons (de_cb (ea_cons (de_fld rfl hM T.cl T.n_lines look_lines) ea_nil) rc_len) (ea_cons (de_cb (ea_cons (de_fld rfl hM T.cl T.n_past look_past) ea_nil) rc_len) ea_nil))) (by simp)) ?_)
  rw [List.length_map, List.length_map, List.length_reverse]
  rfl
end
end Wp
set_option Elab.async false
set_option linter.all false
set_option maxRecDepth 100000
set_option maxHeartbeats 4000000
namespace Wp
open PySem L2
open Kv402 (Line)
section
variable {P : Program} {w : World} {K : PySem.W.Frag} {mg : Str → Option Value} {base : Heap} {C : Addr}
theorem both_ff {n u v : Nat} (h : n ≤ u ∨ n ≤ v) : (!(decide (u < n) && decide (v < n))) = true := by
  rcases h with h | h
  · rw [decide_eq_false (by omega : ¬ u < n)]; rfl
  · rw [decide_eq_false (by omega : ¬ v < n), Bool.and_false]; rfl
theorem both_tt {n u v : Nat} (h : ¬ (n ≤ u ∨ n ≤ v)) : (!(decide (u < n) && decide (v < n))) = false := by
  rw [decide_eq_true (by omega : u < n), decide_eq_true (by omega : v < n)]; rfl
theorem one_ff {n v : Nat} (h : n ≤ v) : (!decide (v < n)) = true := by rw [decide_eq_false (by omega : ¬ v < n)]; rfl
theorem one_tt {n v : Nat} (h : ¬ n ≤ v) : (!decide (v < n)) = false := by rw [decide_eq_true (by omega : v < n)]; rfl
/-! ### marks -/
def sp_Posts_show_marks (C : Addr) : Sp := RSp C (fun x : Abs × Nat => fsA x.1) (fun x => [pNat x.2]) (fun x => Ok x.1.now) (fun x => pAns (x.1.does (.marks x.2)).2)
theorem ok_Posts_show_marks {f : Addr} {fd : FuncData} (F : Fun K "show_marks" "Posts.show_marks" s_Posts_show_marks f fd) (T : Txt K mg C) (h_Posts_has_place : HasM P w K mg base 1 C "has_place" ["self", "place"] (sp_Posts_has_place C)) (h_Posts_all_marks : HasM P w K mg base 5 C "all_marks" ["self"] (sp_Posts_all_marks C)) : FnOk P w K mg base CX0 6 f fd ["self", "v"] (sp_Posts_show_marks C) := by
  refine F.ok sc_Posts_show_marks (rsp_len fun _ => rfl) (fun cdv A outer s H vs Q E hr h => ?_)
  obtain ⟨f_Posts_has_place, fd_Posts_has_place, F_Posts_has_place, mt_Posts_has_place, bd_Posts_has_place⟩ := h_Posts_has_place.ex
  obtain ⟨f_Posts_all_marks, fd_Posts_all_marks, F_Posts_all_marks, mt_Posts_all_marks, bd_Posts_all_marks⟩ := h_Posts_all_marks.ex
  refine ⟨_, (pss_cons (ps_if (pt_not (pt_val (pe_meth (pv 0) T.cl mt_Posts_has_place F_Posts_has_place (hr.mono (by decide)) bd_Posts_has_place .nil pass0 (pa_cons (pv 1) pa_nil)))) (pss_one (ps_ret (pe_lst (pa_cons (pe_gi T.NO_SUCH rfl) pa_nil)))) pss_nil) (pss_cons (ps_set (i := 2) sc_Posts_show_marks.nd rfl (Or.inl rfl) (pe_ix ix_list (pe_meth0 (pv 0) T.cl mt_Posts_all_marks F_Posts_all_marks (hr.mono (by decide)) bd_Posts_all_marks .nil pass0) (pv 1) (fun _ _ => rfl))) (pss_cons (ps_set (i := 3) sc_Posts_show_marks.nd rfl (Or.inl rfl) (pe_lst (pa_cons (pe_callB call_len_seq rfl T.len (by decide +kernel) (pa_cons (pv 2) pa_nil)) pa_nil))) (pss_cons (ps_for PassesOwn.never rfl (pi_list (pv 2)) (pg_tup rfl (pgs_cons (pg_name (i := 4) sc_Posts_show_marks.nd rfl (Or.inl rfl)) (pgs_cons (pg_name (i := 5) sc_Posts_show_marks.nd rfl (Or.inl rfl)) pgs_nil))) (pss_one (ps_expr (pe_bm PySem.F.plainAttrs_list PySem.F.slot_list_extend PySem.F.type_list_extend mt_extend (pv 3) (pa_cons (pe_lst (pa_cons (pv 4) (pa_cons (pv 5) pa_nil))) pa_nil))))) (pss_one (ps_ret (pv 3))))))), ?_⟩
  refine body_read h (fun x a M => [.own a M, .val (pNat x.2), .any, .any, .any, .any]) (fun _ _ _ => rfl) fun x p M hp hM => ?_
  obtain ⟨a, v⟩ := x
  have hp : Ok a.now := hp
  by_cases c : a.now.g.n ≤ v
  · refine se_hit (et_is (et_not (et_B (de_meth (x := (a, v)) rfl hM no_has_place (ea_cons (de_var rfl) ea_nil) trivial))) (one_ff c)) (se_ret (de_is (de_lst (ea_cons de_int ea_nil) (by simp)) ?_))
    show _ = pAns (if a.now.g.n ≤ v then (a, Kv403.say (-2)) else _).2
    rw [if_pos c]; rfl
  · refine se_skip (et_is (et_not (et_B (de_meth (x := (a, v)) rfl hM no_has_place (ea_cons (de_var rfl) ea_nil) trivial))) (one_tt c)) ?_
    refine se_seq (se_asg (de_ixL (P := pMarks (a.now.marks.getD v [])) (de_meth (x := a) rfl hM no_all_marks ea_nil hp) (de_var rfl) (at_map [] (by rw [now_len hp]; omega)))) ?_
    refine se_new (Ps := [pNat ((a.now.marks.getD v []).map pMark).length]) (ea_cons (de_cb (ea_cons (de_var rfl) ea_nil) rc_len) ea_nil) (by simp) (by simp) fun q => ?_
    have h8 := now_get hp v
    refine se_seq (se_foldx (xs := a.now.marks.getD v []) (pf := pMark) (fun s : List Pr => [.own p M, .val (pNat v), .val (pMarks (a.now.marks.getD v [])), .own q (muL s), .any, .any]) (fun s l => [.own p M, .val (pNat v), .val (pMarks (a.now.marks.getD v [])), .own q (muL s), .val (pNat l.1), .val (pNat l.2)]) (fun s l => s ++ [pNat l.1, pNat l.2]) _
      (wi_list (de_var rfl)) (fun s l => gb_two) (fun pre l post e => se_weak (se_extend rfl (de_lst (ea_cons (de_var rfl) (ea_cons (de_var rfl) ea_nil)) (by simp)) ?_))) (se_freeze (i := 3) rfl (se_ret (de_is (de_var rfl) ?_)))
    · rw [fold_flat, List.length_append, flat_len3 (k := 2) _ (fun _ => rfl)]
      have : pre.length ≤ (a.now.marks.getD v []).length := by rw [e, List.length_append]; omega
      simp only [List.length_cons, List.length_nil]
      omega
    · rw [fold_flat, List.length_map]
      show _ = pAns (if a.now.g.n ≤ v then _ else (a, (⟨((a.now.marks.getD v []).length : Nat), Kv403.flat (a.now.marks.getD v [])⟩ : Kv403.Ans))).2
      rw [if_neg c]
      show _ = pAns ⟨((a.now.marks.getD v []).length : Nat), Kv403.flat (a.now.marks.getD v [])⟩
      rw [ans_list]
      unfold Kv403.flat
      rw [List.map_flatMap]
      rfl
/-! ### told, dist, by -/
def sp_Posts_told (C : Addr) : Sp := RSp C (fun x : Abs × Nat × Nat => fsA x.1) (fun x => [pNat x.2.1, pNat x.2.2]) (fun x => Ok x.1.now) (fun x => pAns (x.1.does (.told x.2.1 x.2.2)).2)
theorem ok_Posts_told {f : Addr} {fd : FuncData} (F : Fun K "told" "Posts.told" s_Posts_told f fd) (T : Txt K mg C) (h_Posts_has_both : HasM P w K mg base 2 C "has_both" ["self", "u", "v"] (sp_Posts_has_both C)) (h_Posts_all_marks : HasM P w K mg base 5 C "all_marks" ["self"] (sp_Posts_all_marks C)) (h_or_none : Has P w K mg base 1 "or_none" ["number"] sp_or_none) (h_told_by : Has P w K mg base 1 "told_by" ["ours", "theirs"] sp_told_by) : FnOk P w K mg base CX0 6 f fd ["self", "u", "v"] (sp_Posts_told C) := by
  refine F.ok sc_Posts_told (rsp_len fun _ => rfl) (fun cdv A outer s H vs Q E hr h => ?_)
  obtain ⟨f_Posts_has_both, fd_Posts_has_both, F_Posts_has_both, mt_Posts_has_both, bd_Posts_has_both⟩ := h_Posts_has_both.ex
  obtain ⟨f_Posts_all_marks, fd_Posts_all_marks, F_Posts_all_marks, mt_Posts_all_marks, bd_Posts_all_marks⟩ := h_Posts_all_marks.ex
  refine ⟨_, (pss_cons (ps_if (pt_not (pt_val (pe_meth (pv 0) T.cl mt_Posts_has_both F_Posts_has_both (hr.mono (by decide)) bd_Posts_has_both .nil pass0 (pa_cons (pv 1) (pa_cons (pv 2) pa_nil))))) (pss_one (ps_ret (pe_lst (pa_cons (pe_gi T.NO_SUCH rfl) pa_nil)))) pss_nil) (pss_cons (ps_set (i := 3) sc_Posts_told.nd rfl (Or.inl rfl) (pe_meth0 (pv 0) T.cl mt_Posts_all_marks F_Posts_all_marks (hr.mono (by decide)) bd_Posts_all_marks .nil pass0)) (pss_one (ps_ret (pe_callH h_or_none (hr.mono (by decide)) rfl (pa_cons (pe_callH h_told_by (hr.mono (by decide)) rfl (pa_cons (pe_ix ix_list (pv 3) (pv 1) (fun _ _ => rfl)) (pa_cons (pe_ix ix_list (pv 3) (pv 2) (fun _ _ => rfl)) pa_nil))) pa_nil)))))), ?_⟩
  refine body_read h (fun x a M => [.own a M, .val (pNat x.2.1), .val (pNat x.2.2), .any]) (fun _ _ _ => rfl) fun x p M hp hM => ?_
  obtain ⟨a, u, v⟩ := x
  have hp : Ok a.now := hp
  by_cases c : a.now.g.n ≤ u ∨ a.now.g.n ≤ v
  · refine se_hit (et_is (et_not (et_B (de_meth (x := (a, u, v)) rfl hM no_has_both (ea_cons (de_var rfl) (ea_cons (de_var rfl) ea_nil)) trivial))) (both_ff c)) (se_ret (de_is (de_lst (ea_cons de_int ea_nil) (by simp)) ?_))
    show _ = pAns (if a.now.g.n ≤ u ∨ a.now.g.n ≤ v then (a, Kv403.say (-2)) else _).2
    rw [if_pos c]; rfl
  · refine se_skip (et_is (et_not (et_B (de_meth (x := (a, u, v)) rfl hM no_has_both (ea_cons (de_var rfl) (ea_cons (de_var rfl) ea_nil)) trivial))) (both_tt c)) ?_
    have hu : u < a.now.marks.length := by rw [now_len hp]; omega
    have hv : v < a.now.marks.length := by rw [now_len hp]; omega
    refine se_seq (se_asg (de_meth (x := a) rfl hM no_all_marks ea_nil hp)) ?_
    refine se_ret (de_is (de_call (x := Kv403.told (a.now.marks.getD u []) (a.now.marks.getD v [])) (ea_cons (de_call (x := (a.now.marks.getD u [], a.now.marks.getD v [])) (ea_cons (de_ixL (de_var rfl) (de_var rfl) (at_map [] hu)) (ea_cons (de_ixL (de_var rfl) (de_var rfl) (at_map [] hv)) ea_nil)) trivial) ea_nil) trivial) ?_)
    show _ = pAns (if a.now.g.n ≤ u ∨ a.now.g.n ≤ v then (a, Kv403.say (-2)) else match Kv403.told (a.now.marks.getD u []) (a.now.marks.getD v []) with | none => (a, Kv403.say (-33)) | some d => (a, Kv403.num d)).2
    rw [if_neg c]
    cases Kv403.told (a.now.marks.getD u []) (a.now.marks.getD v []) <;> rfl
def sp_Posts_dist (C : Addr) : Sp := RSp C (fun x : Abs × Nat × Nat => fsA x.1) (fun x => [pNat x.2.1, pNat x.2.2]) (fun x => Ok x.1.now) (fun x => pAns (x.1.does (.dist x.2.1 x.2.2)).2)
theorem ok_Posts_dist {f : Addr} {fd : FuncData} (F : Fun K "dist" "Posts.dist" s_Posts_dist f fd) (T : Txt K mg C) (h_Posts_has_both : HasM P w K mg base 2 C "has_both" ["self", "u", "v"] (sp_Posts_has_both C)) (h_or_none : Has P w K mg base 1 "or_none" ["number"] sp_or_none) (h_Posts_table : HasM P w K mg base 4 C "table" ["self"] (sp_Posts_table C)) : FnOk P w K mg base CX0 5 f fd ["self", "u", "v"] (sp_Posts_dist C) := by
  refine F.ok sc_Posts_dist (rsp_len fun _ => rfl) (fun cdv A outer s H vs Q E hr h => ?_)
  obtain ⟨f_Posts_has_both, fd_Posts_has_both, F_Posts_has_both, mt_Posts_has_both, bd_Posts_has_both⟩ := h_Posts_has_both.ex
  obtain ⟨f_Posts_table, fd_Posts_table, F_Posts_table, mt_Posts_table, bd_Posts_table⟩ := h_Posts_table.ex
  refine ⟨_, (pss_cons (ps_if (pt_not (pt_val (pe_meth (pv 0) T.cl mt_Posts_has_both F_Posts_has_both (hr.mono (by decide)) bd_Posts_has_both .nil pass0 (pa_cons (pv 1) (pa_cons (pv 2) pa_nil))))) (pss_one (ps_ret (pe_lst (pa_cons (pe_gi T.NO_SUCH rfl) pa_nil)))) pss_nil) (pss_one (ps_ret (pe_callH h_or_none (hr.mono (by decide)) rfl (pa_cons (pe_ix ix_list (pe_ix ix_list (pe_meth0 (pv 0) T.cl mt_Posts_table F_Posts_table (hr.mono (by decide)) bd_Posts_table .nil pass0) (pv 1) (fun _ _ => rfl)) (pv 2) (fun _ _ => rfl)) pa_nil))))), ?_⟩
  refine body_read h (fun x a M => [.own a M, .val (pNat x.2.1), .val (pNat x.2.2)]) (fun _ _ _ => rfl) fun x p M hp hM => ?_
  obtain ⟨a, u, v⟩ := x
  have hp : Ok a.now := hp
  by_cases c : a.now.g.n ≤ u ∨ a.now.g.n ≤ v
  · refine se_hit (et_is (et_not (et_B (de_meth (x := (a, u, v)) rfl hM no_has_both (ea_cons (de_var rfl) (ea_cons (de_var rfl) ea_nil)) trivial))) (both_ff c)) (se_ret (de_is (de_lst (ea_cons de_int ea_nil) (by simp)) ?_))
    show _ = pAns (if a.now.g.n ≤ u ∨ a.now.g.n ≤ v then (a, Kv403.say (-2)) else _).2
    rw [if_pos c]; rfl
  · refine se_skip (et_is (et_not (et_B (de_meth (x := (a, u, v)) rfl hM no_has_both (ea_cons (de_var rfl) (ea_cons (de_var rfl) ea_nil)) trivial))) (both_tt c)) ?_
    have sq := table_sq a.now.g.n a.now.g.lines
    have hu : u < (Kv402.table a.now.g.n a.now.g.lines).length := by rw [sq.1]; omega
    have hv : v < ((Kv402.table a.now.g.n a.now.g.lines).getD u []).length := by rw [sq_row sq (by omega)]; omega
    refine se_ret (de_is (de_call (x := Kv402.at_ (Kv402.table a.now.g.n a.now.g.lines) u v) (ea_cons (de_ixL (de_ixL (P := pRow ((Kv402.table a.now.g.n a.now.g.lines).getD u [])) (de_meth (x := a) rfl hM no_table ea_nil hp) (de_var rfl) (at_map [] hu)) (de_var rfl) (at_map none hv)) ea_nil) trivial) ?_)
    show _ = pAns (if a.now.g.n ≤ u ∨ a.now.g.n ≤ v then (a, Kv403.say (-2)) else match Kv402.at_ (Kv402.table a.now.g.n a.now.g.lines) u v with | none => (a, Kv403.say (-33)) | some d => (a, Kv403.num d)).2
    rw [if_neg c]
    cases Kv402.at_ (Kv402.table a.now.g.n a.now.g.lines) u v <;> rfl
def sp_Posts_by (C : Addr) : Sp := RSp C (fun x : Abs × Nat × Nat => fsA x.1) (fun x => [pNat x.2.1, pNat x.2.2]) (fun x => Ok x.1.now) (fun x => pAns (x.1.does (.by_ x.2.1 x.2.2)).2)
theorem ok_Posts_by {f : Addr} {fd : FuncData} (F : Fun K "by" "Posts.by" s_Posts_by f fd) (T : Txt K mg C) (h_Posts_has_both : HasM P w K mg base 2 C "has_both" ["self", "u", "v"] (sp_Posts_has_both C)) (h_Posts_all_marks : HasM P w K mg base 5 C "all_marks" ["self"] (sp_Posts_all_marks C)) (h_or_none : Has P w K mg base 1 "or_none" ["number"] sp_or_none) (h_told_through : Has P w K mg base 2 "told_through" ["ours", "theirs"] sp_told_through) : FnOk P w K mg base CX0 6 f fd ["self", "u", "v"] (sp_Posts_by C) := by
  refine F.ok sc_Posts_by (rsp_len fun _ => rfl) (fun cdv A outer s H vs Q E hr h => ?_)
  obtain ⟨f_Posts_has_both, fd_Posts_has_both, F_Posts_has_both, mt_Posts_has_both, bd_Posts_has_both⟩ := h_Posts_has_both.ex
  obtain ⟨f_Posts_all_marks, fd_Posts_all_marks, F_Posts_all_marks, mt_Posts_all_marks, bd_Posts_all_marks⟩ := h_Posts_all_marks.ex
  refine ⟨_, (pss_cons (ps_if (pt_not (pt_val (pe_meth (pv 0) T.cl mt_Posts_has_both F_Posts_has_both (hr.mono (by decide)) bd_Posts_has_both .nil pass0 (pa_cons (pv 1) (pa_cons (pv 2) pa_nil))))) (pss_one (ps_ret (pe_lst (pa_cons (pe_gi T.NO_SUCH rfl) pa_nil)))) pss_nil) (pss_cons (ps_set (i := 3) sc_Posts_by.nd rfl (Or.inl rfl) (pe_meth0 (pv 0) T.cl mt_Posts_all_marks F_Posts_all_marks (hr.mono (by decide)) bd_Posts_all_marks .nil pass0)) (pss_one (ps_ret (pe_callH h_or_none (hr.mono (by decide)) rfl (pa_cons (pe_callH h_told_through (hr.mono (by decide)) rfl (pa_cons (pe_ix ix_list (pv 3) (pv 1) (fun _ _ => rfl)) (pa_cons (pe_ix ix_list (pv 3) (pv 2) (fun _ _ => rfl)) pa_nil))) pa_nil)))))), ?_⟩
  refine body_read h (fun x a M => [.own a M, .val (pNat x.2.1), .val (pNat x.2.2), .any]) (fun _ _ _ => rfl) fun x p M hp hM => ?_
  obtain ⟨a, u, v⟩ := x
  have hp : Ok a.now := hp
  by_cases c : a.now.g.n ≤ u ∨ a.now.g.n ≤ v
  · refine se_hit (et_is (et_not (et_B (de_meth (x := (a, u, v)) rfl hM no_has_both (ea_cons (de_var rfl) (ea_cons (de_var rfl) ea_nil)) trivial))) (both_ff c)) (se_ret (de_is (de_lst (ea_cons de_int ea_nil) (by simp)) ?_))
    show _ = pAns (if a.now.g.n ≤ u ∨ a.now.g.n ≤ v then (a, Kv403.say (-2)) else _).2
    rw [if_pos c]; rfl
  · refine se_skip (et_is (et_not (et_B (de_meth (x := (a, u, v)) rfl hM no_has_both (ea_cons (de_var rfl) (ea_cons (de_var rfl) ea_nil)) trivial))) (both_tt c)) ?_
    have hu : u < a.now.marks.length := by rw [now_len hp]; omega
    have hv : v < a.now.marks.length := by rw [now_len hp]; omega
    refine se_seq (se_asg (de_meth (x := a) rfl hM no_all_marks ea_nil hp)) ?_
    refine se_ret (de_is (de_call (x := Kv403.by_ (a.now.marks.getD u []) (a.now.marks.getD v [])) (ea_cons (de_call (x := (a.now.marks.getD u [], a.now.marks.getD v [])) (ea_cons (de_ixL (de_var rfl) (de_var rfl) (at_map [] hu)) (ea_cons (de_ixL (de_var rfl) (de_var rfl) (at_map [] hv)) ea_nil)) (by show (a.now.marks.getD u []).length ≤ 1000; have := now_get hp u; omega)) ea_nil) trivial) ?_)
    show _ = pAns (if a.now.g.n ≤ u ∨ a.now.g.n ≤ v then (a, Kv403.say (-2)) else match Kv403.by_ (a.now.marks.getD u []) (a.now.marks.getD v []) with | none => (a, Kv403.say (-33)) | some d => (a, Kv403.num d)).2
    rw [if_neg c]
    cases Kv403.by_ (a.now.marks.getD u []) (a.now.marks.getD v []) <;> rfl
/-! ### who -/
def sp_Posts_who (C : Addr) : Sp := RSp C (fun x : Abs × Nat => fsA x.1) (fun x => [pNat x.2]) (fun x => Ok x.1.now) (fun x => pAns (x.1.does (.who x.2)).2)
theorem ok_Posts_who {f : Addr} {fd : FuncData} (F : Fun K "who" "Posts.who" s_Posts_who f fd) (T : Txt K mg C) (h_Posts_has_place : HasM P w K mg base 1 C "has_place" ["self", "place"] (sp_Posts_has_place C)) (h_Posts_all_marks : HasM P w K mg base 5 C "all_marks" ["self"] (sp_Posts_all_marks C)) (h_has_mark : Has P w K mg base 1 "has_mark" ["had", "place"] sp_has_mark) : FnOk P w K mg base CX0 6 f fd ["self", "h"] (sp_Posts_who C) := by
  refine F.ok sc_Posts_who (rsp_len fun _ => rfl) (fun cdv A outer s H vs Q E hr h => ?_)
  obtain ⟨f_Posts_has_place, fd_Posts_has_place, F_Posts_has_place, mt_Posts_has_place, bd_Posts_has_place⟩ := h_Posts_has_place.ex
  obtain ⟨f_Posts_all_marks, fd_Posts_all_marks, F_Posts_all_marks, mt_Posts_all_marks, bd_Posts_all_marks⟩ := h_Posts_all_marks.ex
  refine ⟨_, (pss_cons (ps_if (pt_not (pt_val (pe_meth (pv 0) T.cl mt_Posts_has_place F_Posts_has_place (hr.mono (by decide)) bd_Posts_has_place .nil pass0 (pa_cons (pv 1) pa_nil)))) (pss_one (ps_ret (pe_lst (pa_cons (pe_gi T.NO_SUCH rfl) pa_nil)))) pss_nil) (pss_cons (ps_setLc (i := 2) (own := [("place", 3), ("had", 4)]) (g := (gTup K 2 (gCons (gName 3) (gCons (gName 4) gNil)))) (tt := (tB (tCall sp_has_mark [] E0 (tCons (tVar 4) (tCons (tVar 1) tNil))))) (te := (tVar 3)) rfl sc_Posts_who.nd rfl rfl (sw_true rfl rfl rfl (by decide +kernel)) (pi_enum rfl T.enumerate (pa_cons (pe_meth0 (pv 0) T.cl mt_Posts_all_marks F_Posts_all_marks (hr.mono (by decide)) bd_Posts_all_marks .nil pass0) pa_nil)) (blkOk_by (own := [("place", 3), ("had", 4)]) (N := ["self", "h", "having", "place", "had"]) (sc := defScope s_Posts_who) (by decide +kernel)) (fun _ _ _ _ _ => (pg_tup rfl (pgs_cons (pg_name (i := 3) sc_Posts_who.nd rfl (Or.inl rfl)) (pgs_cons (pg_name (i := 4) sc_Posts_who.nd rfl (Or.inl rfl)) pgs_nil)))) (fun _ _ _ _ _ => (pts_one (pt_val (pe_callH h_has_mark (hr.mono (by decide)) rfl (pa_cons (pv 4) (pa_cons (pv 1) pa_nil)))))) (fun _ _ _ _ _ => (pv 3))) (pss_one (ps_ret (pe_op op_cat (pe_lst (pa_cons (pe_callB call_len_seq rfl T.len (by decide +kernel) (pa_cons (pv 2) pa_nil)) pa_nil)) (pv 2)))))), ?_⟩
  refine body_read h (fun x a M => [.own a M, .val (pNat x.2), .any, .any, .any]) (fun _ _ _ => rfl) fun x p M hp hM => ?_
  obtain ⟨a, v⟩ := x
  have hp : Ok a.now := hp
  by_cases c : a.now.g.n ≤ v
  · refine se_hit (et_is (et_not (et_B (de_meth (x := (a, v)) rfl hM no_has_place (ea_cons (de_var rfl) ea_nil) trivial))) (one_ff c)) (se_ret (de_is (de_lst (ea_cons de_int ea_nil) (by simp)) ?_))
    show _ = pAns (if a.now.g.n ≤ v then (a, Kv403.say (-2)) else _).2
    rw [if_pos c]; rfl
  · refine se_skip (et_is (et_not (et_B (de_meth (x := (a, v)) rfl hM no_has_place (ea_cons (de_var rfl) ea_nil) trivial))) (one_tt c)) ?_
    have n8 := hp.wf.n8
    have hl := now_len hp
    refine se_seq (se_asg (P := pList (((List.range a.now.g.n).filter fun u => (a.now.marks.getD u []).any fun x => x.1 == v).map pNat)) (de_is (de_lc (xs := a.now.marks.zipIdx) (pf := fun z => pTup [pNat z.2, pMarks z.1]) (rf := fun z => pNat z.2) (b := fun z => (z.1.map Prod.fst).contains v)
      (fun z => [.own p M, .val (pNat v), .any, .val (pNat z.2), .val (pMarks z.1)]) (wi_is (wi_enum (ea_cons (de_meth (x := a) rfl hM no_all_marks ea_nil hp) ea_nil)) ?_) rfl (fun z => gc_two (by simp) (by simp)) (fun z hz => et_B (de_call (x := (z.1, v)) (ea_cons (de_var rfl) (ea_cons (de_var rfl) ea_nil)) ?_)) (fun z _ _ => de_var rfl) ?_) ?_)) ?_
    · show ((a.now.marks.map pMarks).zipIdx.map fun z => pTup [pNat z.2, z.1]) = _
      rw [List.zipIdx_map, List.map_map]
      rfl
    · show z.1.length ≤ 1000
      have := now_few hp z.1 (by
        rw [zipIdx_range _ []] at hz
        obtain ⟨i, hi, e⟩ := List.mem_map.mp hz
        have hi := List.mem_range.mp hi
        rw [← e, getD_lt hi]
        exact List.getElem_mem hi)
      omega
    · rw [List.length_zipIdx]; omega
    · rw [← who_eq hl, List.map_map]; rfl
    · have hk : ((List.range a.now.g.n).filter fun u => (a.now.marks.getD u []).any fun x => x.1 == v).length ≤ 8 := Nat.le_trans (List.length_filter_le _ _) (by rw [List.length_range]; exact n8)
      refine se_ret (de_is (de_cat (de_lst (ea_cons (de_cb (ea_cons (de_var rfl) ea_nil) rc_len) ea_nil) (by simp)) (de_var rfl) ?_) ?_)
      · rw [List.length_map]; simp only [List.length_cons, List.length_nil]; omega
      · show _ = pAns (if a.now.g.n ≤ v then (a, Kv403.say (-2)) else (a, Kv403.list ((List.range a.now.g.n).filter fun u => (a.now.marks.getD u []).any fun x => x.1 == v))).2
        rw [if_neg c, List.length_map]
        show _ = pAns ⟨(((List.range a.now.g.n).filter fun u => (a.now.marks.getD u []).any fun x => x.1 == v).length : Nat), (List.range a.now.g.n).filter fun u => (a.now.marks.getD u []).any fun x => x.1 == v⟩
        rw [ans_list]
        rfl
/-! ### without -/
def sp_Posts_without (C : Addr) : Sp := RSp C (fun x : Abs × Nat × Nat => fsA x.1) (fun x => [pNat x.2.1, pNat x.2.2]) (fun x => Ok x.1.now) (fun x => pAns (x.1.does (.without x.2.1 x.2.2)).2)
theorem ok_Posts_without {f : Addr} {fd : FuncData} (F : Fun K "without" "Posts.without" s_Posts_without f fd) (T : Txt K mg C) (h_Posts_has_place : HasM P w K mg base 1 C "has_place" ["self", "place"] (sp_Posts_has_place C)) (h_Posts_all_marks : HasM P w K mg base 5 C "all_marks" ["self"] (sp_Posts_all_marks C)) (h_Posts_tells_all : HasM P w K mg base 5 C "tells_all" ["self", "marks"] (sp_Posts_tells_all C)) (h_without_mark : Has P w K mg base 1 "without_mark" ["marks", "place", "number"] sp_without_mark) : FnOk P w K mg base CX0 6 f fd ["self", "v", "i"] (sp_Posts_without C) := by
  refine F.ok sc_Posts_without (rsp_len fun _ => rfl) (fun cdv A outer s H vs Q E hr h => ?_)
  obtain ⟨f_Posts_has_place, fd_Posts_has_place, F_Posts_has_place, mt_Posts_has_place, bd_Posts_has_place⟩ := h_Posts_has_place.ex
  obtain ⟨f_Posts_all_marks, fd_Posts_all_marks, F_Posts_all_marks, mt_Posts_all_marks, bd_Posts_all_marks⟩ := h_Posts_all_marks.ex
  obtain ⟨f_Posts_tells_all, fd_Posts_tells_all, F_Posts_tells_all, mt_Posts_tells_all, bd_Posts_tells_all⟩ := h_Posts_tells_all.ex
  refine ⟨_, (pss_cons (ps_if (pt_not (pt_val (pe_meth (pv 0) T.cl mt_Posts_has_place F_Posts_has_place (hr.mono (by decide)) bd_Posts_has_place .nil pass0 (pa_cons (pv 1) pa_nil)))) (pss_one (ps_ret (pe_lst (pa_cons (pe_gi T.NO_SUCH rfl) pa_nil)))) pss_nil) (pss_cons (ps_set (i := 3) sc_Posts_without.nd rfl (Or.inl rfl) (pe_meth0 (pv 0) T.cl mt_Posts_all_marks F_Posts_all_marks (hr.mono (by decide)) bd_Posts_all_marks .nil pass0)) (pss_cons (ps_if (pt_cmpR op_ge (pv 2) (pe_callB call_len_seq rfl T.len (by decide +kernel) (pa_cons (pe_ix ix_list (pv 3) (pv 1) (fun _ _ => rfl)) pa_nil)) (nomark _)) (pss_one (ps_ret (pe_lst (pa_cons (pe_gi T.NO_SUCH rfl) pa_nil)))) pss_nil) (pss_one (ps_ret (pe_meth (pv 0) T.cl mt_Posts_tells_all F_Posts_tells_all (hr.mono (by decide)) bd_Posts_tells_all .nil pass0 (pa_cons (pe_callH h_without_mark (hr.mono (by decide)) rfl (pa_cons (pv 3) (pa_cons (pv 1) (pa_cons (pv 2) pa_nil)))) pa_nil))))))), ?_⟩
  refine body_read h (fun x a M => [.own a M, .val (pNat x.2.1), .val (pNat x.2.2), .any]) (fun _ _ _ => rfl) fun x p M hp hM => ?_
  obtain ⟨a, v, i⟩ := x
  have hp : Ok a.now := hp
  have hd : (a.does (.without v i)).2 = (if a.now.g.n ≤ v then (a, Kv403.say (-2)) else if (a.now.marks.getD v []).length ≤ i then (a, Kv403.say (-2)) else (a, Kv403.num (Kv403.bit (Kv403.right a.now.g (a.now.marks.set v ((a.now.marks.getD v []).eraseIdx i)))))).2 := rfl
  by_cases c : a.now.g.n ≤ v
  · refine se_hit (et_is (et_not (et_B (de_meth (x := (a, v)) rfl hM no_has_place (ea_cons (de_var rfl) ea_nil) trivial))) (one_ff c)) (se_ret (de_is (de_lst (ea_cons de_int ea_nil) (by simp)) ?_))
    show _ = pAns (a.does (.without v i)).2
    rw [hd, if_pos c]; rfl
  · refine se_skip (et_is (et_not (et_B (de_meth (x := (a, v)) rfl hM no_has_place (ea_cons (de_var rfl) ea_nil) trivial))) (one_tt c)) ?_
    refine se_seq (se_asg (de_meth (x := a) rfl hM no_all_marks ea_nil hp)) ?_
    have hl := now_len hp
    have ht : ET (tTest (tOp (rI0 fun i j => .bl (decide (j ≤ i))) (tVar 2) (tCB (fun xs H Q => ∃ p ys, xs = [.ref p] ∧ (SqL K H p ys ∨ SqT K H p ys) ∧ Q (.int ys.length) H) (tCons (tOp (rIxL K) (tVar 3) (tVar 1)) tNil)))) [.own p M, .val (pNat v), .val (pNat i), .val (pAll a.now.marks)] (decide ((a.now.marks.getD v []).length ≤ i)) :=
      et_is (et_test (de_ge (de_var rfl) (de_cb (ea_cons (de_ixL (P := pMarks (a.now.marks.getD v [])) (de_var rfl) (de_var rfl) (at_map [] (by rw [hl]; omega))) ea_nil) rc_len))) (by rw [List.length_map]; exact decide_eq_decide.mpr (by omega))
    by_cases c2 : (a.now.marks.getD v []).length ≤ i
    · rw [decide_eq_true c2] at ht
      refine se_hit ht (se_ret (de_is (de_lst (ea_cons de_int ea_nil) (by simp)) ?_))
      show _ = pAns (a.does (.without v i)).2
      rw [hd, if_neg c, if_pos c2]; rfl
    · rw [decide_eq_false c2] at ht
      refine se_skip ht (se_ret (de_is (de_meth (x := (a, a.now.marks.set v ((a.now.marks.getD v []).eraseIdx i))) rfl hM no_tells_all (ea_cons (de_call (x := (a.now.marks, v, i)) (ea_cons (de_var rfl) (ea_cons (de_var rfl) (ea_cons (de_var rfl) ea_nil))) ⟨?_, ?_⟩) ea_nil) ⟨hp, ?_⟩) ?_))
      · show v < a.now.marks.length
        omega
      · intro l hl
        have := now_few hp l hl
        omega
      · show (a.now.marks.set v _).length = _
        rw [List.length_set]; exact hl
      · show _ = pAns (a.does (.without v i)).2
        rw [hd, if_neg c, if_neg c2]
/-! ### after -/
def sp_Posts_after (C : Addr) : Sp := RSp C (fun x : Abs × Nat => fsA x.1) (fun x => [pNat x.2]) (fun x => Ok x.1.now) (fun x => pAns (x.1.does (.after x.2)).2)
theorem ok_Posts_after {f : Addr} {fd : FuncData} (F : Fun K "after" "Posts.after" s_Posts_after f fd) (T : Txt K mg C) (h_Posts_table : HasM P w K mg base 4 C "table" ["self"] (sp_Posts_table C)) (h_marks_by : Has P w K mg base 3 "marks_by" ["table", "order"] sp_marks_by) (h_right_pairs : Has P w K mg base 2 "right_pairs" ["table", "marks"] sp_right_pairs) (h_how_many : Has P w K mg base 1 "how_many" ["marks"] sp_how_many) : FnOk P w K mg base CX0 5 f fd ["self", "k"] (sp_Posts_after C) := by
  refine F.ok sc_Posts_after (rsp_len fun _ => rfl) (fun cdv A outer s H vs Q E hr h => ?_)
  obtain ⟨f_Posts_table, fd_Posts_table, F_Posts_table, mt_Posts_table, bd_Posts_table⟩ := h_Posts_table.ex
  refine ⟨_, (pss_cons (ps_if (pt_cmpR op_gt (pv 1) (pe_fld (pv 0) rfl) (nomark _)) (pss_one (ps_ret (pe_lst (pa_cons (pe_gi T.OUT_OF_RANGE rfl) pa_nil)))) pss_nil) (pss_cons (ps_set (i := 2) sc_Posts_after.nd rfl (Or.inl rfl) (pe_meth0 (pv 0) T.cl mt_Posts_table F_Posts_table (hr.mono (by decide)) bd_Posts_table .nil pass0)) (pss_cons (ps_set (i := 3) sc_Posts_after.nd rfl (Or.inl rfl) (pe_callH h_marks_by (hr.mono (by decide)) rfl (pa_cons (pv 2) (pa_cons (pe_slice sl_list (pe_fld (pv 0) rfl) po_none (po_some (pv 1))) pa_nil)))) (pss_one (ps_ret (pe_lst (pa_cons (pe_callH h_how_many (hr.mono (by decide)) rfl (pa_cons (pv 3) pa_nil)) (pa_cons (pe_callH h_right_pairs (hr.mono (by decide)) rfl (pa_cons (pv 2) (pa_cons (pv 3) pa_nil))) pa_nil)))))))), ?_⟩
  refine body_read h (fun x a M => [.own a M, .val (pNat x.2), .any, .any]) (fun _ _ _ => rfl) fun x p M hp hM => ?_
  obtain ⟨a, k⟩ := x
  have hp : Ok a.now := hp
  have hd : (a.does (.after k)).2 = (if a.now.g.n < k then (a, Kv403.say (-22)) else (a, (⟨(Kv403.size (Kv403.marks a.now.g (a.now.o.take k)) : Nat), [((Kv402.pairs a.now.g.n).filter fun q => okP (Kv402.table a.now.g.n a.now.g.lines) (Kv403.marks a.now.g (a.now.o.take k)) q.1 q.2).length]⟩ : Kv403.Ans))).2 := rfl
  by_cases c : a.now.g.n < k
  · refine se_hit (et_is (et_test (de_gt (de_var rfl) (de_fld (P := pNat a.now.g.n) rfl hM T.cl T.n_places look_places))) (decide_eq_true (by omega))) (se_ret (de_is (de_lst (ea_cons de_int ea_nil) (by simp)) ?_))
    show _ = pAns (a.does (.after k)).2
    rw [hd, if_pos c]; rfl
  · refine se_skip (et_is (et_test (de_gt (de_var rfl) (de_fld (P := pNat a.now.g.n) rfl hM T.cl T.n_places look_places))) (decide_eq_false (by omega))) ?_
    have hlt : ∀ h ∈ a.now.o.take k, h < a.now.g.n := fun h hh => perm_lt hp.od h (List.mem_of_mem_take hh)
    have hlen : (Kv403.marks a.now.g (a.now.o.take k)).length = a.now.g.n := (marks_true (ls := a.now.g.lines) hlt).1
    have n8 := hp.wf.n8
    have hol := perm_len hp.od
    refine se_seq (se_asg (de_meth (x := a) rfl hM no_table ea_nil hp)) ?_
    refine se_seq (se_asg (P := pAll (Kv403.marks a.now.g (a.now.o.take k))) (de_call (x := (a.now.g.n, a.now.g.lines, a.now.o.take k)) (ea_cons (de_var rfl) (ea_cons (P := pNats (a.now.o.take k)) (de_is (de_sl (de_fld rfl hM T.cl T.n_order look_order) eo_none (eo_some (de_var rfl))) ?_) ea_nil)) ⟨hp.wf, hlt, ?_⟩)) ?_
    · rw [cut_take]
      unfold pNats inl
      rw [List.map_take, List.map_take]
    · show (a.now.o.take k).length ≤ 8
      rw [List.length_take]; omega
    · refine se_ret (de_is (de_lst (ea_cons (de_call (x := Kv403.marks a.now.g (a.now.o.take k)) (ea_cons (de_var rfl) ea_nil) ?_) (ea_cons (de_call (x := (a.now.g.n, Kv402.table a.now.g.n a.now.g.lines, Kv403.marks a.now.g (a.now.o.take k))) (ea_cons (de_var rfl) (ea_cons (de_var rfl) ea_nil)) ⟨n8, table_sq _ _, hlen⟩) ea_nil)) (by simp)) ?_)
      · show (Kv403.marks a.now.g (a.now.o.take k)).length ≤ 1000
        omega
      · show _ = pAns (a.does (.after k)).2
        rw [hd, if_neg c, pairs_cnt]
        rfl
/-! ### would, fewest -/
def sp_Posts_would (C : Addr) : Sp := RSp C (fun x : Abs × List Nat => fsA x.1) (fun x => [pNats x.2]) (fun x => Ok x.1.now) (fun x => pAns (x.1.does (.would x.2)).2)
theorem ok_Posts_would {f : Addr} {fd : FuncData} (F : Fun K "would" "Posts.would" s_Posts_would f fd) (T : Txt K mg C) (h_Posts_is_order : HasM P w K mg base 1 C "is_order" ["self", "row"] (sp_Posts_is_order C)) (h_how_many : Has P w K mg base 1 "how_many" ["marks"] sp_how_many) (h_marks_by : Has P w K mg base 3 "marks_by" ["table", "order"] sp_marks_by) (h_Posts_table : HasM P w K mg base 4 C "table" ["self"] (sp_Posts_table C)) : FnOk P w K mg base CX0 5 f fd ["self", "row"] (sp_Posts_would C) := by
  refine F.ok sc_Posts_would (rsp_len fun _ => rfl) (fun cdv A outer s H vs Q E hr h => ?_)
  obtain ⟨f_Posts_is_order, fd_Posts_is_order, F_Posts_is_order, mt_Posts_is_order, bd_Posts_is_order⟩ := h_Posts_is_order.ex
  obtain ⟨f_Posts_table, fd_Posts_table, F_Posts_table, mt_Posts_table, bd_Posts_table⟩ := h_Posts_table.ex
  refine ⟨_, (pss_cons (ps_if (pt_not (pt_val (pe_meth (pv 0) T.cl mt_Posts_is_order F_Posts_is_order (hr.mono (by decide)) bd_Posts_is_order .nil pass0 (pa_cons (pv 1) pa_nil)))) (pss_one (ps_ret (pe_lst (pa_cons (pe_gi T.OUT_OF_RANGE rfl) pa_nil)))) pss_nil) (pss_one (ps_ret (pe_lst (pa_cons (pe_callH h_how_many (hr.mono (by decide)) rfl (pa_cons (pe_callH h_marks_by (hr.mono (by decide)) rfl (pa_cons (pe_meth0 (pv 0) T.cl mt_Posts_table F_Posts_table (hr.mono (by decide)) bd_Posts_table .nil pass0) (pa_cons (pv 1) pa_nil))) pa_nil)) pa_nil))))), ?_⟩
  refine body_read h (fun x a M => [.own a M, .val (pNats x.2)]) (fun _ _ _ => rfl) fun x p M hp hM => ?_
  obtain ⟨a, row⟩ := x
  have hp : Ok a.now := hp
  have n8 := hp.wf.n8
  have hd : (a.does (.would row)).2 = (if Kv403.okOrder a.now.g.n row = false then (a, Kv403.say (-22)) else (a, Kv403.num (Kv403.size (Kv403.marks a.now.g row)))).2 := rfl
  refine se_ifR (b := !Kv403.okOrder a.now.g.n row) (et_not (et_B (de_meth (x := (a, row)) rfl hM no_is_order (ea_cons (de_var rfl) ea_nil) n8))) (fun c => ?_) (fun c => ?_) (fun _ => ⟨_, _, rfl⟩)
  · rw [Bool.not_eq_true'] at c
    refine se_ret (de_is (de_lst (ea_cons de_int ea_nil) (by simp)) ?_)
    show _ = pAns (a.does (.would row)).2
    rw [hd, if_pos c]; rfl
  · rw [Bool.not_eq_false'] at c
    have pm := okOrder_iff.mp c
    refine se_ret (de_is (de_lst (ea_cons (de_call (x := Kv403.marks a.now.g row) (ea_cons (de_call (x := (a.now.g.n, a.now.g.lines, row)) (ea_cons (de_meth (x := a) rfl hM no_table ea_nil hp) (ea_cons (de_var rfl) ea_nil)) ⟨hp.wf, perm_lt pm, by show row.length ≤ 8; rw [perm_len pm]; exact n8⟩) ea_nil) ?_) ea_nil) (by simp)) ?_)
    · show (Kv403.marks a.now.g row).length ≤ 1000
      have := (marks_true (ls := a.now.g.lines) (perm_lt pm)).1
      have e : (Kv403.marks a.now.g row).length = a.now.g.n := this
      omega
    · show _ = pAns (a.does (.would row)).2
      rw [hd, if_neg (by rw [c]; intro z; cases z)]; rfl
def sp_Posts_fewest (C : Addr) : Sp := RSp C (fun a : Abs => fsA a) (fun _ => []) (fun a => Ok a.now) (fun a => pAns (a.does .fewest).2)
theorem ok_Posts_fewest {f : Addr} {fd : FuncData} (F : Fun K "fewest" "Posts.fewest" s_Posts_fewest f fd) (T : Txt K mg C) (h_best_order : Has P w K mg base 4 "best_order" ["table"] sp_best_order) (h_Posts_table : HasM P w K mg base 4 C "table" ["self"] (sp_Posts_table C)) (h_Posts_would : HasM P w K mg base 5 C "would" ["self", "row"] (sp_Posts_would C)) : FnOk P w K mg base CX0 6 f fd ["self"] (sp_Posts_fewest C) := by
  refine F.ok sc_Posts_fewest (rsp_len fun _ => rfl) (fun cdv A outer s H vs Q E hr h => ?_)
  obtain ⟨f_Posts_table, fd_Posts_table, F_Posts_table, mt_Posts_table, bd_Posts_table⟩ := h_Posts_table.ex
  obtain ⟨f_Posts_would, fd_Posts_would, F_Posts_would, mt_Posts_would, bd_Posts_would⟩ := h_Posts_would.ex
  refine ⟨_, (pss_cons (ps_if (pt_cmpR op_gt (pe_fld (pv 0) rfl) (pe_gi T.MOST_TRIED rfl) (nomark _)) (pss_one (ps_ret (pe_lst (pa_cons (pe_gi T.TOO_MANY rfl) pa_nil)))) pss_nil) (pss_cons (ps_set (i := 1) sc_Posts_fewest.nd rfl (Or.inl rfl) (pe_callH h_best_order (hr.mono (by decide)) rfl (pa_cons (pe_meth0 (pv 0) T.cl mt_Posts_table F_Posts_table (hr.mono (by decide)) bd_Posts_table .nil pass0) pa_nil))) (pss_one (ps_ret (pe_op op_cat (pe_meth (pv 0) T.cl mt_Posts_would F_Posts_would (hr.mono (by decide)) bd_Posts_would .nil pass0 (pa_cons (pv 1) pa_nil)) (pv 1)))))), ?_⟩
  refine body_read h (fun x a M => [.own a M, .any]) (fun _ _ _ => rfl) fun a p M hp hM => ?_
  have n8 := hp.wf.n8
  have hd : (a.does .fewest).2 = (if 5 < a.now.g.n then (a, Kv403.say (-28)) else (a, (⟨(Kv403.size (Kv403.marks a.now.g (Kv403.best a.now.g)) : Nat), Kv403.best a.now.g⟩ : Kv403.Ans))).2 := rfl
  by_cases c : 5 < a.now.g.n
  · refine se_hit (et_is (et_test (de_gt (de_fld (P := pNat a.now.g.n) rfl hM T.cl T.n_places look_places) de_int)) (decide_eq_true (by omega))) (se_ret (de_is (de_lst (ea_cons de_int ea_nil) (by simp)) ?_))
    show _ = pAns (a.does .fewest).2
    rw [hd, if_pos c]; rfl
  · refine se_skip (et_is (et_test (de_gt (de_fld (P := pNat a.now.g.n) rfl hM T.cl T.n_places look_places) de_int)) (decide_eq_false (by omega))) ?_
    have pm := best_perm a.now.g.n a.now.g.lines
    have pm' : (Kv403.best a.now.g).Perm (List.range a.now.g.n) := pm
    refine se_seq (se_asg (P := pNats (Kv403.best a.now.g)) (de_call (x := (a.now.g.n, a.now.g.lines)) (ea_cons (de_meth (x := a) rfl hM no_table ea_nil hp) ea_nil) ⟨hp.wf, by show a.now.g.n ≤ 5; omega⟩)) ?_
    have hw : (a.does (.would (Kv403.best a.now.g))).2 = Kv403.num (Kv403.size (Kv403.marks a.now.g (Kv403.best a.now.g))) := by
      show (if Kv403.okOrder a.now.g.n (Kv403.best a.now.g) = false then (a, Kv403.say (-22)) else (a, Kv403.num (Kv403.size (Kv403.marks a.now.g (Kv403.best a.now.g))))).2 = _
      rw [if_neg (by rw [okOrder_iff.mpr pm']; intro z; cases z)]
    refine se_ret (de_is (de_cat (Ps := [pNat (Kv403.size (Kv403.marks a.now.g (Kv403.best a.now.g)))]) (de_is (de_meth (x := (a, Kv403.best a.now.g)) rfl hM no_would (ea_cons (de_var rfl) ea_nil) hp) ?_) (de_var rfl) ?_) ?_)
    · show pAns (a.does (.would (Kv403.best a.now.g))).2 = _
      rw [hw]; rfl
    · rw [inl_len, perm_len pm']; simp only [List.length_cons, List.length_nil]; omega
    · show _ = pAns (a.does .fewest).2
      rw [hd, if_neg c]
      show _ = pAns ⟨(Kv403.size (Kv403.marks a.now.g (Kv403.best a.now.g)) : Nat), Kv403.best a.now.g⟩
      rw [ans_list, inl_map]
      rfl
/-! ### right -/
theorem read_len : ∀ (n : Nat) (l : List Nat) (s : Mks), Kv403.read n l = some s → s.length = n
  | 0, [], s, h => by
    have h : some [] = some s := h
    cases h; rfl
  | 0, _ :: _, s, h => by
    have h : none = some s := h
    cases h
  | n + 1, [], s, h => by
    have h : none = some s := h
    cases h
  | n + 1, k :: l, s, h => by
    unfold Kv403.read at h
    split at h
    · cases h
    · split at h
      · cases h
      · rename_i s' e
        cases h
        rw [List.length_cons, read_len n _ _ e]
def sp_Posts_right (C : Addr) : Sp := RSp C (fun x : Abs × List Nat => fsA x.1) (fun x => [pNats x.2]) (fun x => Ok x.1.now ∧ x.2.length ≤ 1000) (fun x => pAns (x.1.does (.right x.2)).2)
theorem ok_Posts_right {f : Addr} {fd : FuncData} (F : Fun K "right" "Posts.right" s_Posts_right f fd) (T : Txt K mg C) (h_marks_in : Has P w K mg base 1 "marks_in" ["row", "places"] sp_marks_in) (h_Posts_tells_all : HasM P w K mg base 5 C "tells_all" ["self", "marks"] (sp_Posts_tells_all C)) : FnOk P w K mg base CX0 6 f fd ["self", "row"] (sp_Posts_right C) := by
  refine F.ok sc_Posts_right (rsp_len fun _ => rfl) (fun cdv A outer s H vs Q E hr h => ?_)
  obtain ⟨f_Posts_tells_all, fd_Posts_tells_all, F_Posts_tells_all, mt_Posts_tells_all, bd_Posts_tells_all⟩ := h_Posts_tells_all.ex
  refine ⟨_, (pss_cons (ps_set (i := 2) sc_Posts_right.nd rfl (Or.inl rfl) (pe_callH h_marks_in (hr.mono (by decide)) rfl (pa_cons (pv 1) (pa_cons (pe_fld (pv 0) rfl) pa_nil)))) (pss_cons (ps_if (pt_cmpR op_isN (pv 2) pe_non (nomark _)) (pss_one (ps_ret (pe_lst (pa_cons (pe_gi T.OUT_OF_RANGE rfl) pa_nil)))) pss_nil) (pss_one (ps_ret (pe_meth (pv 0) T.cl mt_Posts_tells_all F_Posts_tells_all (hr.mono (by decide)) bd_Posts_tells_all .nil pass0 (pa_cons (pv 2) pa_nil)))))), ?_⟩
  refine body_read h (fun x a M => [.own a M, .val (pNats x.2), .any]) (fun _ _ _ => rfl) fun x p M hp hM => ?_
  obtain ⟨a, row⟩ := x
  obtain ⟨hp, hl⟩ := hp
  have hp : Ok a.now := hp
  have hl : row.length ≤ 1000 := hl
  refine se_seq (Γ1 := [.own p M, .val (pNats row), .val (pOM (Kv403.read a.now.g.n row))]) (se_asg (de_call (x := (row, a.now.g.n)) (ea_cons (de_var rfl) (ea_cons (de_fld rfl hM T.cl T.n_places look_places) ea_nil)) ⟨hl, hp.wf.n8⟩)) ?_
  have hd : (a.does (.right row)).2 = (match Kv403.read a.now.g.n row with | none => (a, Kv403.say (-22)) | some s => (a, Kv403.num (Kv403.bit (Kv403.right a.now.g s)))).2 := rfl
  cases c : Kv403.read a.now.g.n row with
  | none =>
    refine se_hit (et_test (de_isN (P := pNon) (de_var rfl) isNon)) (se_ret (de_is (de_lst (ea_cons de_int ea_nil) (by simp)) ?_))
    show _ = pAns (a.does (.right row)).2
    rw [hd, c]; rfl
  | some s =>
    refine se_skip (et_test (de_isN (P := pAll s) (de_var rfl) notNon_list)) (se_ret (de_is (de_meth (x := (a, s)) rfl hM no_tells_all (ea_cons (de_var rfl) ea_nil) ⟨hp, read_len _ _ _ c⟩) ?_))
    show _ = pAns (a.does (.right row)).2
    rw [hd, c]
end
end Wp
set_option Elab.async false
set_option linter.all false
set_option maxRecDepth 100000
set_option maxHeartbeats 4000000
namespace Wp
open PySem L2
open Kv402 (Line)
section
variable {Γ : List Sl} {P Q R p l o h : Pr} {te : TE} {K : PySem.W.Frag} {i : Nat} {a C : Addr}
theorem se_places (hi : Γ[i]? = some (Sl.own a (muI C (fs4 p l o h)))) (c : Cls K C) (na : NoAttr K C "places") (hd : DE te Γ Q) : SE (sFld K (tVar i) te "places") Γ (.nx (Γ.set i (.own a (muI C (fs4 Q l o h))))) := by
  have := se_fld hi c na (show 4 < 1000 by decide) hd
  rw [put_places] at this
  exact this
theorem se_lines (hi : Γ[i]? = some (Sl.own a (muI C (fs4 p l o h)))) (c : Cls K C) (na : NoAttr K C "lines") (hd : DE te Γ Q) : SE (sFld K (tVar i) te "lines") Γ (.nx (Γ.set i (.own a (muI C (fs4 p Q o h))))) := by
  have := se_fld hi c na (show 4 < 1000 by decide) hd
  rw [put_lines] at this
  exact this
theorem se_order (hi : Γ[i]? = some (Sl.own a (muI C (fs4 p l o h)))) (c : Cls K C) (na : NoAttr K C "order") (hd : DE te Γ Q) : SE (sFld K (tVar i) te "order") Γ (.nx (Γ.set i (.own a (muI C (fs4 p l Q h))))) := by
  have := se_fld hi c na (show 4 < 1000 by decide) hd
  rw [put_order] at this
  exact this
theorem se_past (hi : Γ[i]? = some (Sl.own a (muI C (fs4 p l o h)))) (c : Cls K C) (na : NoAttr K C "past") (hd : DE te Γ Q) : SE (sFld K (tVar i) te "past") Γ (.nx (Γ.set i (.own a (muI C (fs4 p l o Q))))) := by
  have := se_fld hi c na (show 4 < 1000 by decide) hd
  rw [put_past] at this
  exact this
end
/-- a body that ends without a return -/
theorem body_mutN {A : Type} {C : Addr} {self self2 : A → List (Str × Pr)} {args : A → List Pr} {pre : A → Prop} {N : List Str} {us : List V} {H : Hp} {k : VK} {E : XK} {t : TS} (h : MSp C self args pre self2 (fun _ => pNon) us H k E) (Γ0 : A → Addr → List Sl)
    (e0 : ∀ x a, Γ0 x a = Sl.own a (muI C (self x)) :: ((args x).map Sl.val ++ List.replicate (N.length - ((args x).length + 1)) Sl.any))
    (hs : ∀ x a, pre x → SE t (Γ0 x a) (.nx [Sl.own a (muI C (self2 x))])) : t { nx := fun _ H' => k .non H', rt := k } (L2.start N us) H := by
  obtain ⟨x, G, a, ws, rfl, s, na, hp, ⟨dx, gs, ho, al⟩, ha, q⟩ := h
  have hse := hs x a hp
  rw [e0] at hse
  refine hse _ G H _ (fits_startO s na ho ⟨dx, gs, rfl, al⟩ ha) fun G2 H2 σ2 f2 g2 => ?_
  obtain ⟨_, n2, o2, e2, dx2, gs2, rfl, al2⟩ := f2.own 0 a _ rfl
  refine q _ G2 H2 ⟨g2.eG, fun b o e n => g2.eH b o e fun z => n ((owns_start b).mp z), fun b e k n => g2.fr b e k fun z => n ((owns_start b).mp z), fun b z => .inl z⟩ f2.gh n2 ⟨dx2, gs2, e2, al2⟩ rfl
section
variable {P : Program} {w : World} {K : PySem.W.Frag} {mg : Str → Option Value} {base : Heap} {C : Addr}
def zero : Abs := ⟨⟨⟨0, []⟩, []⟩, []⟩
def sp_Posts___init__ (C : Addr) : Sp := MSp C (fun _ : Unit => []) (fun _ => []) (fun _ => True) (fun _ => fsA zero) (fun _ => pNon)
theorem ok_Posts___init__ {f : Addr} {fd : FuncData} (F : Fun K "__init__" "Posts.__init__" s_Posts___init__ f fd) (T : Txt K mg C)  : FnOk P w K mg base CX0 1 f fd ["self"] (sp_Posts___init__ C) := by
  refine F.ok sc_Posts___init__ (msp_len fun _ => rfl) (fun cdv A outer s H vs Q E hr h => ?_)
  refine ⟨_, (pss_cons (ps_fld (pv 0) pe_int rfl) (pss_cons (ps_fld (pv 0) (pe_lst pa_nil) rfl) (pss_cons (ps_fld (pv 0) (pe_lst pa_nil) rfl) (pss_one (ps_fld (pv 0) (pe_lst pa_nil) rfl))))), ?_⟩
  refine body_mutN h (fun x a => [.own a (muI C [])]) (fun _ _ => rfl) fun x p _ => ?_
  refine se_seq (se_fld rfl T.cl T.n_places (by decide) de_int) (se_seq (se_fld rfl T.cl T.n_lines (by decide) (de_lst ea_nil (by simp))) (se_seq (se_fld rfl T.cl T.n_order (by decide) (de_lst ea_nil (by simp))) (se_is (se_fld rfl T.cl T.n_past (by decide) (de_lst ea_nil (by simp))) rfl)))
/-! ### begin, back -/
def sp_Posts_begin (C : Addr) : Sp := MSp C (fun x : Abs × Nat => fsA x.1) (fun x => [pNat x.2]) (fun _ => True) (fun x => fsA (x.1.does (.begin_ x.2)).1) (fun x => pAns (x.1.does (.begin_ x.2)).2)
theorem ok_Posts_begin {f : Addr} {fd : FuncData} (F : Fun K "begin" "Posts.begin" s_Posts_begin f fd) (T : Txt K mg C)  : FnOk P w K mg base CX0 1 f fd ["self", "n"] (sp_Posts_begin C) := by
  refine F.ok sc_Posts_begin (msp_len fun _ => rfl) (fun cdv A outer s H vs Q E hr h => ?_)
  refine ⟨_, (pss_cons (ps_if (PW.pt (pw_or (pt_cmpR op_lt (pv 1) pe_int (nomark _)) (pw_or1 (pt_cmpR op_gt (pv 1) (pe_gi T.MOST_PLACES rfl) (nomark _))))) (pss_one (ps_ret (pe_lst (pa_cons (pe_gi T.OUT_OF_RANGE rfl) pa_nil)))) pss_nil) (pss_cons (ps_fld (pv 0) (pv 1) rfl) (pss_cons (ps_fld (pv 0) (pe_lst pa_nil) rfl) (pss_cons (ps_fld (pv 0) (pe_listRg rfl rfl T.list (prg_1 rfl T.range (pv 1))) rfl) (pss_cons (ps_fld (pv 0) (pe_lst pa_nil) rfl) (pss_one (ps_ret (pe_lst (pa_cons pe_int pa_nil))))))))), ?_⟩
  refine body_mut h (fun x a => [.own a (muI C (fsA x.1)), .val (pNat x.2)]) (fun _ _ => rfl) fun x p _ => ?_
  obtain ⟨a, n⟩ := x
  have hd : a.does (.begin_ n) = if n = 0 ∨ 8 < n then (a, Kv403.say (-22)) else (Kv403.begun n, Kv403.say 0) := rfl
  show SE _ _ (.rt (pAns (a.does (.begin_ n)).2) [.own p (muI C (fsA (a.does (.begin_ n)).1))])
  rw [hd]
  refine se_ifR (b := decide (n = 0 ∨ 8 < n)) (et_is (et_or (et_test (de_lt (de_var rfl) de_int)) fun _ => et_test (de_gt (de_var rfl) de_int)) (by rw [Bool.eq_iff_iff, Bool.or_eq_true, decide_eq_true_eq, decide_eq_true_eq, decide_eq_true_eq]; omega)) (fun c => ?_) (fun c => ?_) (fun _ => ⟨_, _, rfl⟩)
  · rw [if_pos (of_decide_eq_true c)]
    exact se_ret (de_say _)
  · have c := of_decide_eq_false c
    rw [if_neg c]
    exact se_seq (se_places rfl T.cl T.n_places (de_var rfl)) (se_seq (se_lines rfl T.cl T.n_lines (de_lst ea_nil (by simp))) (se_seq (se_order rfl T.cl T.n_order (de_listRg (de_var rfl) (by omega))) (se_seq (se_past rfl T.cl T.n_past (de_lst ea_nil (by simp))) (se_ret (de_say _)))))
def sp_Posts_back (C : Addr) : Sp := MSp C (fun a : Abs => fsA a) (fun _ => []) (fun a => Inv a) (fun a => fsA (a.does .back).1) (fun a => pAns (a.does .back).2)
theorem ok_Posts_back {f : Addr} {fd : FuncData} (F : Fun K "back" "Posts.back" s_Posts_back f fd) (T : Txt K mg C)  : FnOk P w K mg base CX0 1 f fd ["self"] (sp_Posts_back C) := by
  refine F.ok sc_Posts_back (msp_len fun _ => rfl) (fun cdv A outer s H vs Q E hr h => ?_)
  refine ⟨_, (pss_cons (ps_if (pt_cmpR op_eq (pe_callB call_len_seq rfl T.len (by decide +kernel) (pa_cons (pe_fld (pv 0) rfl) pa_nil)) pe_int (nomark _)) (pss_one (ps_ret (pe_lst (pa_cons (pe_gi T.NO_CHANGE rfl) pa_nil)))) pss_nil) (pss_cons (ps_set (i := 1) sc_Posts_back.nd rfl (Or.inl rfl) (pe_ix ix_list (pe_fld (pv 0) rfl) (pe_un un_neg pe_int) (fun _ _ => rfl))) (pss_cons (ps_fld (pv 0) (pe_slice sl_list (pe_fld (pv 0) rfl) po_none (po_some (pe_un un_neg pe_int))) rfl) (pss_cons (ps_fld (pv 0) (pe_ix ix_tup (pv 1) pe_int (fun _ _ => rfl)) rfl) (pss_cons (ps_fld (pv 0) (pe_ix ix_tup (pv 1) pe_int (fun _ _ => rfl)) rfl) (pss_one (ps_ret (pe_lst (pa_cons (pe_callB call_len_seq rfl T.len (by decide +kernel) (pa_cons (pe_fld (pv 0) rfl) pa_nil)) pa_nil))))))))), ?_⟩
  refine body_mut h (fun x a => [.own a (muI C (fsA x)), .any]) (fun _ _ => rfl) fun a p hp => ?_
  obtain ⟨now, past⟩ := a
  cases past with
  | nil => exact se_hit (et_is (et_test (de_eq (de_cb (ea_cons (de_fld (P := pList []) rfl isObj_I T.cl T.n_past look_past) ea_nil) rc_len) de_int)) (decide_eq_true rfl)) (se_ret (de_say _))
  | cons x r =>
    have e : pPast (x :: r) = pList (r.reverse.map pNow ++ [pNow x]) := by unfold pPast; rw [List.reverse_cons, List.map_append]; rfl
    have en : x.g.n = now.g.n := (hp.past x List.mem_cons_self).2
    have hf : (fsA ⟨now, x :: r⟩) = fs4 (pNat x.g.n) (pLines now.g.lines) (pNats now.o) (pList (r.reverse.map pNow ++ [pNow x])) := by unfold fsA; rw [e, en]
    rw [hf]
    refine se_skip (et_is (et_test (de_eq (de_cb (ea_cons (de_fld rfl isObj_I T.cl T.n_past look_past) ea_nil) rc_len) de_int)) (decide_eq_false ?_)) ?_
    · rw [List.length_append, List.length_singleton]; omega
    · refine se_seq (se_asg (de_ixL (P := pNow x) (de_fld rfl isObj_I T.cl T.n_past look_past) (de_neg de_int) (at_last _ _))) ?_
      refine se_seq (se_past rfl T.cl T.n_past (de_is (Q := pPast r) (de_sl (de_fld rfl isObj_I T.cl T.n_past look_past) eo_none (eo_some (de_neg de_int))) (by rw [cut_last]; rfl))) ?_
      refine se_seq (se_lines rfl T.cl T.n_lines (de_ixT (P := pLines x.g.lines) (de_var rfl) de_int rfl)) ?_
      refine se_seq (se_order rfl T.cl T.n_order (de_ixT (P := pNats x.o) (de_var rfl) de_int rfl)) ?_
      refine se_ret (de_is (de_lst (ea_cons (de_cb (ea_cons (de_fld rfl isObj_I T.cl T.n_past look_past) ea_nil) rc_len) ea_nil) (by simp)) ?_)
      rw [List.length_map, List.length_reverse]
      rfl
/-! ### change -/
def sp_Posts_change (C : Addr) : Sp := MSp C (fun x : Abs × List Line × List Nat => fsA x.1) (fun x => [pLines x.2.1, pNats x.2.2]) (fun x => Inv x.1 ∧ Wf x.1.now.g.n x.2.1 ∧ x.2.2.Perm (List.range x.1.now.g.n))
  (fun x => fsA (x.1.to_ ⟨⟨x.1.now.g.n, x.2.1⟩, x.2.2⟩).1) (fun x => pAns (x.1.to_ ⟨⟨x.1.now.g.n, x.2.1⟩, x.2.2⟩).2)
theorem ok_Posts_change {f : Addr} {fd : FuncData} (F : Fun K "change" "Posts.change" s_Posts_change f fd) (T : Txt K mg C) (h_Posts_size : HasM P w K mg base 6 C "size" ["self"] (sp_Posts_size C)) : FnOk P w K mg base CX0 7 f fd ["self", "lines", "order"] (sp_Posts_change C) := by
  refine F.ok sc_Posts_change (msp_len fun _ => rfl) (fun cdv A outer s H vs Q E hr h => ?_)
  obtain ⟨f_Posts_size, fd_Posts_size, F_Posts_size, mt_Posts_size, bd_Posts_size⟩ := h_Posts_size.ex
  refine ⟨_, (pss_cons (ps_set (i := 3) sc_Posts_change.nd rfl (Or.inl rfl) (pe_op op_cat (pe_fld (pv 0) rfl) (pe_lst (pa_cons (pe_tup (pa_cons (pe_fld (pv 0) rfl) (pa_cons (pe_fld (pv 0) rfl) pa_nil))) pa_nil)))) (pss_cons (ps_fld (pv 0) (pe_slice sl_list (pv 3) (po_some (pe_un un_neg (pe_gi T.MOST_TAKEN_BACK rfl))) po_none) rfl) (pss_cons (ps_fld (pv 0) (pv 1) rfl) (pss_cons (ps_fld (pv 0) (pv 2) rfl) (pss_one (ps_ret (pe_meth0 (pv 0) T.cl mt_Posts_size F_Posts_size (hr.mono (by decide)) bd_Posts_size .nil pass0))))))), ?_⟩
  refine body_mut h (fun x a => [.own a (muI C (fsA x.1)), .val (pLines x.2.1), .val (pNats x.2.2), .any]) (fun _ _ => rfl) fun x p hp => ?_
  obtain ⟨a, ls, o⟩ := x
  obtain ⟨hi, hw, ho⟩ := hp
  have hi : Inv a := hi
  have h10 := hi.few
  refine se_seq (se_asg (P := pList ((a.now :: a.past).reverse.map pNow)) (de_is (de_cat (de_fld rfl isObj_I T.cl T.n_past look_past) (de_lst (ea_cons (de_tup (ea_cons (de_fld rfl isObj_I T.cl T.n_lines look_lines) (ea_cons (de_fld rfl isObj_I T.cl T.n_order look_order) ea_nil)) (by simp)) ea_nil) (by simp)) ?_) ?_)) ?_
  · rw [List.length_map, List.length_reverse]; simp only [List.length_cons, List.length_nil]; omega
  · rw [List.reverse_cons, List.map_append]; rfl
  · refine se_seq (se_past rfl T.cl T.n_past (de_is (Q := pPast ((a.now :: a.past).take 10)) (de_sl (de_var rfl) (eo_some (de_neg de_int)) eo_none) ?_)) ?_
    · rw [List.map_reverse, cut_tens]
      unfold pPast
      rw [List.map_reverse, List.map_take]
    · refine se_seq (se_lines rfl T.cl T.n_lines (de_var rfl)) (se_seq (se_order rfl T.cl T.n_order (de_var rfl)) ?_)
      exact se_ret (de_meth (x := (a.to_ ⟨⟨a.now.g.n, ls⟩, o⟩).1) rfl isObj_I no_size ea_nil ⟨hw, ho⟩)
/-! ### line, cut, order, first, bestorder -/
def sp_Posts_line (C : Addr) : Sp := MSp C (fun x : Abs × Nat × Nat × Nat => fsA x.1) (fun x => [pNat x.2.1, pNat x.2.2.1, pNat x.2.2.2]) (fun x => Inv x.1) (fun x => fsA (x.1.does (.line x.2.1 x.2.2.1 x.2.2.2)).1) (fun x => pAns (x.1.does (.line x.2.1 x.2.2.1 x.2.2.2)).2)
theorem ok_Posts_line {f : Addr} {fd : FuncData} (F : Fun K "line" "Posts.line" s_Posts_line f fd) (T : Txt K mg C) (h_Posts_has_both : HasM P w K mg base 2 C "has_both" ["self", "u", "v"] (sp_Posts_has_both C)) (h_lines_but : Has P w K mg base 1 "lines_but" ["lines", "a", "b"] sp_lines_but) (h_Posts_change : HasM P w K mg base 7 C "change" ["self", "lines", "order"] (sp_Posts_change C)) (h_with_line : Has P w K mg base 2 "with_line" ["lines", "a", "b", "w"] sp_with_line) : FnOk P w K mg base CX0 8 f fd ["self", "a", "b", "w"] (sp_Posts_line C) := by
  refine F.ok sc_Posts_line (msp_len fun _ => rfl) (fun cdv A outer s H vs Q E hr h => ?_)
  obtain ⟨f_Posts_has_both, fd_Posts_has_both, F_Posts_has_both, mt_Posts_has_both, bd_Posts_has_both⟩ := h_Posts_has_both.ex
  obtain ⟨f_Posts_change, fd_Posts_change, F_Posts_change, mt_Posts_change, bd_Posts_change⟩ := h_Posts_change.ex
  refine ⟨_, (pss_cons (ps_if (pt_not (pt_val (pe_meth (pv 0) T.cl mt_Posts_has_both F_Posts_has_both (hr.mono (by decide)) bd_Posts_has_both .nil pass0 (pa_cons (pv 1) (pa_cons (pv 2) pa_nil))))) (pss_one (ps_ret (pe_lst (pa_cons (pe_gi T.NO_SUCH rfl) pa_nil)))) pss_nil) (pss_cons (ps_if (PW.pt (pw_or (pt_cmpR op_eq (pv 1) (pv 2) (nomark _)) (pw_or (pt_cmpR op_lt (pv 3) pe_int (nomark _)) (pw_or1 (pt_cmpR op_gt (pv 3) (pe_gi T.MOST_LENGTH rfl) (nomark _)))))) (pss_one (ps_ret (pe_lst (pa_cons (pe_gi T.OUT_OF_RANGE rfl) pa_nil)))) pss_nil) (pss_cons (ps_if (pt_cmpR op_ge (pe_callB call_len_seq rfl T.len (by decide +kernel) (pa_cons (pe_callH h_lines_but (hr.mono (by decide)) rfl (pa_cons (pe_fld (pv 0) rfl) (pa_cons (pv 1) (pa_cons (pv 2) pa_nil)))) pa_nil)) (pe_gi T.MOST_LINES rfl) (nomark _)) (pss_one (ps_ret (pe_lst (pa_cons (pe_gi T.TOO_MANY rfl) pa_nil)))) pss_nil) (pss_one (ps_ret (pe_meth (pv 0) T.cl mt_Posts_change F_Posts_change (hr.mono (by decide)) bd_Posts_change .nil pass0 (pa_cons (pe_callH h_with_line (hr.mono (by decide)) rfl (pa_cons (pe_fld (pv 0) rfl) (pa_cons (pv 1) (pa_cons (pv 2) (pa_cons (pv 3) pa_nil))))) (pa_cons (pe_fld (pv 0) rfl) pa_nil)))))))), ?_⟩
  refine body_mut h (fun x a => [.own a (muI C (fsA x.1)), .val (pNat x.2.1), .val (pNat x.2.2.1), .val (pNat x.2.2.2)]) (fun _ _ => rfl) fun x p hp => ?_
  obtain ⟨a, x, y, v⟩ := x
  have hi : Inv a := hp
  have hw := hi.now.wf
  have n8 := hw.n8
  have h14 := hw.few
  have hd : a.does (.line x y v) = if a.now.g.n ≤ x ∨ a.now.g.n ≤ y then (a, Kv403.say (-2)) else if x = y ∨ v = 0 ∨ 99 < v then (a, Kv403.say (-22)) else
    if 14 ≤ (but a.now.g.lines x y).length then (a, Kv403.say (-28)) else a.to_ ⟨⟨a.now.g.n, Kv402.put ⟨min x y, max x y, v⟩ (but a.now.g.lines x y)⟩, a.now.o⟩ := rfl
  show SE _ _ (.rt (pAns (a.does (.line x y v)).2) [.own p (muI C (fsA (a.does (.line x y v)).1))])
  rw [hd]
  by_cases c : a.now.g.n ≤ x ∨ a.now.g.n ≤ y
  · rw [if_pos c]
    exact se_hit (et_is (et_not (et_B (de_meth (x := (a, x, y)) rfl isObj_I no_has_both (ea_cons (de_var rfl) (ea_cons (de_var rfl) ea_nil)) trivial))) (both_ff c)) (se_ret (de_say _))
  · rw [if_neg c]
    refine se_skip (et_is (et_not (et_B (de_meth (x := (a, x, y)) rfl isObj_I no_has_both (ea_cons (de_var rfl) (ea_cons (de_var rfl) ea_nil)) trivial))) (both_tt c)) ?_
    refine se_ifR (b := decide (x = y ∨ v = 0 ∨ 99 < v)) (et_is (et_or (et_test (de_eq (de_var rfl) (de_var rfl))) fun _ => et_or (et_test (de_lt (de_var rfl) de_int)) fun _ => et_test (de_gt (de_var rfl) de_int)) (by rw [Bool.eq_iff_iff, Bool.or_eq_true, Bool.or_eq_true, decide_eq_true_eq, decide_eq_true_eq, decide_eq_true_eq, decide_eq_true_eq]; dsimp only; omega)) (fun c2 => ?_) (fun c2 => ?_) (fun _ => ⟨_, _, rfl⟩)
    · rw [if_pos (of_decide_eq_true c2)]
      exact se_ret (de_say _)
    · have c2 := of_decide_eq_false c2
      rw [if_neg c2]
      refine se_ifR (b := decide (14 ≤ (but a.now.g.lines x y).length)) (et_is (et_test (de_ge (de_cb (ea_cons (de_call (x := (a.now.g.lines, x, y)) (ea_cons (de_fld rfl isObj_I T.cl T.n_lines look_lines) (ea_cons (de_var rfl) (ea_cons (de_var rfl) ea_nil))) ⟨fun l hl => (hw.ln l hl).1, h14⟩) ea_nil) rc_len) de_int)) (by rw [List.length_map]; exact decide_eq_decide.mpr (by dsimp only; omega))) (fun c3 => ?_) (fun c3 => ?_) (fun _ => ⟨_, _, rfl⟩)
      · rw [if_pos (of_decide_eq_true c3)]
        exact se_ret (de_say _)
      · have c3 : ¬ 14 ≤ (but a.now.g.lines x y).length := of_decide_eq_false c3
        rw [if_neg c3]
        have hput : Wf a.now.g.n (Kv402.put ⟨min x y, max x y, v⟩ (but a.now.g.lines x y)) := wf_put hw (by omega) (by omega) (by omega) (by omega) (by omega) (by omega)
        refine se_retD (dm_meth (x := (a, Kv402.put ⟨min x y, max x y, v⟩ (but a.now.g.lines x y), a.now.o)) rfl no_change (ea_cons (de_call (x := (a.now.g.lines, x, y, v)) (ea_cons (de_fld rfl isObj_I T.cl T.n_lines look_lines) (ea_cons (de_var rfl) (ea_cons (de_var rfl) (ea_cons (de_var rfl) ea_nil)))) ⟨⟨_, hw⟩, ?_, ?_, ?_⟩) (ea_cons (de_fld rfl isObj_I T.cl T.n_order look_order) ea_nil)) ⟨hi, hput, hi.now.od⟩)
        · show x < 8; omega
        · show y < 8; omega
        · show v ≤ 99; omega
def sp_Posts_cut (C : Addr) : Sp := MSp C (fun x : Abs × Nat => fsA x.1) (fun x => [pNat x.2]) (fun x => Inv x.1) (fun x => fsA (x.1.does (.cut x.2)).1) (fun x => pAns (x.1.does (.cut x.2)).2)
theorem ok_Posts_cut {f : Addr} {fd : FuncData} (F : Fun K "cut" "Posts.cut" s_Posts_cut f fd) (T : Txt K mg C) (h_Posts_change : HasM P w K mg base 7 C "change" ["self", "lines", "order"] (sp_Posts_change C)) : FnOk P w K mg base CX0 8 f fd ["self", "i"] (sp_Posts_cut C) := by
  refine F.ok sc_Posts_cut (msp_len fun _ => rfl) (fun cdv A outer s H vs Q E hr h => ?_)
  obtain ⟨f_Posts_change, fd_Posts_change, F_Posts_change, mt_Posts_change, bd_Posts_change⟩ := h_Posts_change.ex
  refine ⟨_, (pss_cons (ps_if (pt_cmpR op_ge (pv 1) (pe_callB call_len_seq rfl T.len (by decide +kernel) (pa_cons (pe_fld (pv 0) rfl) pa_nil)) (nomark _)) (pss_one (ps_ret (pe_lst (pa_cons (pe_gi T.NO_SUCH rfl) pa_nil)))) pss_nil) (pss_one (ps_ret (pe_meth (pv 0) T.cl mt_Posts_change F_Posts_change (hr.mono (by decide)) bd_Posts_change .nil pass0 (pa_cons (pe_op op_cat (pe_slice sl_list (pe_fld (pv 0) rfl) po_none (po_some (pv 1))) (pe_slice sl_list (pe_fld (pv 0) rfl) (po_some (pe_op op_add (pv 1) pe_int)) po_none)) (pa_cons (pe_fld (pv 0) rfl) pa_nil)))))), ?_⟩
  refine body_mut h (fun x a => [.own a (muI C (fsA x.1)), .val (pNat x.2)]) (fun _ _ => rfl) fun x p hp => ?_
  obtain ⟨a, i⟩ := x
  have hi : Inv a := hp
  have hw := hi.now.wf
  have h14 := hw.few
  have hd : a.does (.cut i) = if a.now.g.lines.length ≤ i then (a, Kv403.say (-2)) else a.to_ ⟨⟨a.now.g.n, a.now.g.lines.eraseIdx i⟩, a.now.o⟩ := rfl
  show SE _ _ (.rt (pAns (a.does (.cut i)).2) [.own p (muI C (fsA (a.does (.cut i)).1))])
  rw [hd]
  refine se_ifR (b := decide (a.now.g.lines.length ≤ i)) (et_is (et_test (de_ge (de_var rfl) (de_cb (ea_cons (de_fld (P := pList (a.now.g.lines.map pLine)) rfl isObj_I T.cl T.n_lines look_lines) ea_nil) rc_len))) (by rw [List.length_map]; exact decide_eq_decide.mpr (by dsimp only; omega))) (fun c => ?_) (fun c => ?_) (fun _ => ⟨_, _, rfl⟩)
  · rw [if_pos (of_decide_eq_true c)]
    exact se_ret (de_say _)
  · rw [if_neg (of_decide_eq_false c)]
    refine (se_retD (dm_meth (x := (a, a.now.g.lines.eraseIdx i, a.now.o)) rfl no_change (ea_cons (P := pLines (a.now.g.lines.eraseIdx i)) (de_is (de_cat (de_sl (de_fld rfl isObj_I T.cl T.n_lines look_lines) eo_none (eo_some (de_var rfl))) (de_sl (de_fld rfl isObj_I T.cl T.n_lines look_lines) (eo_some (de_add (de_var rfl) de_int)) eo_none) ?_) ?_) (ea_cons (de_fld rfl isObj_I T.cl T.n_order look_order) ea_nil)) ⟨hi, hw.sub (List.eraseIdx_sublist _ _), hi.now.od⟩))
    · refine cut_two _ i ?_
      rw [List.length_map]
      exact Nat.le_trans h14 (by decide)
    · exact congrArg pList ((cut_erase _ i).trans (erase_map _ _ _))
def sp_Posts_take_order (C : Addr) : Sp := MSp C (fun x : Abs × List Nat => fsA x.1) (fun x => [pNats x.2]) (fun x => Inv x.1) (fun x => fsA (x.1.does (.order x.2)).1) (fun x => pAns (x.1.does (.order x.2)).2)
theorem ok_Posts_take_order {f : Addr} {fd : FuncData} (F : Fun K "take_order" "Posts.take_order" s_Posts_take_order f fd) (T : Txt K mg C) (h_Posts_is_order : HasM P w K mg base 1 C "is_order" ["self", "row"] (sp_Posts_is_order C)) (h_Posts_change : HasM P w K mg base 7 C "change" ["self", "lines", "order"] (sp_Posts_change C)) : FnOk P w K mg base CX0 8 f fd ["self", "row"] (sp_Posts_take_order C) := by
  refine F.ok sc_Posts_take_order (msp_len fun _ => rfl) (fun cdv A outer s H vs Q E hr h => ?_)
  obtain ⟨f_Posts_is_order, fd_Posts_is_order, F_Posts_is_order, mt_Posts_is_order, bd_Posts_is_order⟩ := h_Posts_is_order.ex
  obtain ⟨f_Posts_change, fd_Posts_change, F_Posts_change, mt_Posts_change, bd_Posts_change⟩ := h_Posts_change.ex
  refine ⟨_, (pss_cons (ps_if (pt_not (pt_val (pe_meth (pv 0) T.cl mt_Posts_is_order F_Posts_is_order (hr.mono (by decide)) bd_Posts_is_order .nil pass0 (pa_cons (pv 1) pa_nil)))) (pss_one (ps_ret (pe_lst (pa_cons (pe_gi T.OUT_OF_RANGE rfl) pa_nil)))) pss_nil) (pss_one (ps_ret (pe_meth (pv 0) T.cl mt_Posts_change F_Posts_change (hr.mono (by decide)) bd_Posts_change .nil pass0 (pa_cons (pe_fld (pv 0) rfl) (pa_cons (pe_callTy call_list_of rfl T.list (by decide +kernel) (pa_cons (pv 1) pa_nil)) pa_nil)))))), ?_⟩
  refine body_mut h (fun x a => [.own a (muI C (fsA x.1)), .val (pNats x.2)]) (fun _ _ => rfl) fun x p hp => ?_
  obtain ⟨a, row⟩ := x
  have hi : Inv a := hp
  have hw := hi.now.wf
  have hd : a.does (.order row) = if Kv403.okOrder a.now.g.n row = false then (a, Kv403.say (-22)) else a.to_ ⟨⟨a.now.g.n, a.now.g.lines⟩, row⟩ := rfl
  show SE _ _ (.rt (pAns (a.does (.order row)).2) [.own p (muI C (fsA (a.does (.order row)).1))])
  rw [hd]
  refine se_ifR (b := !Kv403.okOrder a.now.g.n row) (et_not (et_B (de_meth (x := (a, row)) rfl isObj_I no_is_order (ea_cons (de_var rfl) ea_nil) hw.n8))) (fun c => ?_) (fun c => ?_) (fun _ => ⟨_, _, rfl⟩)
  · rw [Bool.not_eq_true'] at c
    rw [if_pos c]
    exact se_ret (de_say _)
  · rw [Bool.not_eq_false'] at c
    rw [if_neg (by rw [c]; intro z; cases z)]
    exact se_retD (dm_meth (x := (a, a.now.g.lines, row)) rfl no_change (ea_cons (de_fld rfl isObj_I T.cl T.n_lines look_lines) (ea_cons (de_cb (ea_cons (de_var rfl) ea_nil) rc_list) ea_nil)) ⟨hi, hw, okOrder_iff.mp c⟩)
def sp_Posts_put_first (C : Addr) : Sp := MSp C (fun x : Abs × Nat => fsA x.1) (fun x => [pNat x.2]) (fun x => Inv x.1) (fun x => fsA (x.1.does (.first x.2)).1) (fun x => pAns (x.1.does (.first x.2)).2)
theorem ok_Posts_put_first {f : Addr} {fd : FuncData} (F : Fun K "put_first" "Posts.put_first" s_Posts_put_first f fd) (T : Txt K mg C) (h_Posts_has_place : HasM P w K mg base 1 C "has_place" ["self", "place"] (sp_Posts_has_place C)) (h_Posts_change : HasM P w K mg base 7 C "change" ["self", "lines", "order"] (sp_Posts_change C)) : FnOk P w K mg base CX0 8 f fd ["self", "v"] (sp_Posts_put_first C) := by
  refine F.ok sc_Posts_put_first (msp_len fun _ => rfl) (fun cdv A outer s H vs Q E hr h => ?_)
  obtain ⟨f_Posts_has_place, fd_Posts_has_place, F_Posts_has_place, mt_Posts_has_place, bd_Posts_has_place⟩ := h_Posts_has_place.ex
  obtain ⟨f_Posts_change, fd_Posts_change, F_Posts_change, mt_Posts_change, bd_Posts_change⟩ := h_Posts_change.ex
  refine ⟨_, (pss_cons (ps_if (pt_not (pt_val (pe_meth (pv 0) T.cl mt_Posts_has_place F_Posts_has_place (hr.mono (by decide)) bd_Posts_has_place .nil pass0 (pa_cons (pv 1) pa_nil)))) (pss_one (ps_ret (pe_lst (pa_cons (pe_gi T.NO_SUCH rfl) pa_nil)))) pss_nil) (pss_one (ps_ret (pe_meth (pv 0) T.cl mt_Posts_change F_Posts_change (hr.mono (by decide)) bd_Posts_change .nil pass0 (pa_cons (pe_fld (pv 0) rfl) (pa_cons (pe_op op_cat (pe_lst (pa_cons (pv 1) pa_nil)) (pe_lc (own := [("place", 2)]) (g := (gName 2)) (tt := (tTest (tOp rNe (tVar 2) (tVar 1)))) (te := (tVar 2)) rfl sc_Posts_put_first.nd (pi_list (pe_fld (pv 0) rfl)) (blkOk_by (own := [("place", 2)]) (N := ["self", "v", "place"]) (sc := defScope s_Posts_put_first) (by decide +kernel)) (fun _ _ _ _ _ => (pg_name (i := 2) sc_Posts_put_first.nd rfl (Or.inl rfl))) (fun _ _ _ _ _ => (pts_one (pt_cmpR op_ne (pv 2) (pv 1) (nomark _)))) (fun _ _ _ _ _ => (pv 2)))) pa_nil)))))), ?_⟩
  refine body_mut h (fun x a => [.own a (muI C (fsA x.1)), .val (pNat x.2), .any]) (fun _ _ => rfl) fun x p hp => ?_
  obtain ⟨a, v⟩ := x
  have hi : Inv a := hp
  have hw := hi.now.wf
  have n8 := hw.n8
  have hol := perm_len hi.now.od
  have hd : a.does (.first v) = if a.now.g.n ≤ v then (a, Kv403.say (-2)) else a.to_ ⟨⟨a.now.g.n, a.now.g.lines⟩, v :: a.now.o.filter fun x => x != v⟩ := rfl
  show SE _ _ (.rt (pAns (a.does (.first v)).2) [.own p (muI C (fsA (a.does (.first v)).1))])
  rw [hd]
  by_cases c : a.now.g.n ≤ v
  · rw [if_pos c]
    exact se_hit (et_is (et_not (et_B (de_meth (x := (a, v)) rfl isObj_I no_has_place (ea_cons (de_var rfl) ea_nil) trivial))) (one_ff c)) (se_ret (de_say _))
  · rw [if_neg c]
    have pm := hi.now.od
    have hf : (a.now.o.filter fun x => x != v).length ≤ 8 := Nat.le_trans (List.length_filter_le _ _) (by omega)
    refine se_skip (et_is (et_not (et_B (de_meth (x := (a, v)) rfl isObj_I no_has_place (ea_cons (de_var rfl) ea_nil) trivial))) (one_tt c)) (se_retD (dm_meth (x := (a, a.now.g.lines, v :: a.now.o.filter fun x => x != v)) rfl no_change (ea_cons (de_fld rfl isObj_I T.cl T.n_lines look_lines) (ea_cons (P := pNats (v :: a.now.o.filter fun x => x != v)) (de_is (de_cat (de_lst (ea_cons (de_var rfl) ea_nil) (by simp))
      (de_lc (xs := a.now.o) (pf := pNat) (rf := pNat) (b := fun x => !decide ((x : Int) = (v : Int))) (fun x => [.own p (muI C (fsA a)), .val (pNat v), .val (pNat x)]) (wi_is (wi_list (de_fld rfl isObj_I T.cl T.n_order look_order)) (inl_map _)) rfl (fun x => gc_name (by simp)) (fun x _ => et_test (de_ne (de_var rfl) (de_var rfl))) (fun x _ _ => de_var rfl) (by omega)) ?_) ?_) ea_nil)) ⟨hi, hw, (filter_ne_perm (pm.nodup_iff.mpr List.nodup_range) (pm.mem_iff.mpr (List.mem_range.mpr (by omega)))).trans pm⟩))
    · have := List.length_filter_le (fun x : Nat => !decide ((x : Int) = (v : Int))) a.now.o
      rw [List.length_map]; simp only [List.length_cons, List.length_nil]; omega
    · rw [nats_list]
      show pList (pNat v :: ((a.now.o.filter fun x : Nat => !decide ((x : Int) = (v : Int))).map pNat)) = pList (pNat v :: ((a.now.o.filter fun x => x != v).map pNat))
      congr 3
      refine List.filter_congr fun x _ => ?_
      by_cases e : x = v
      · rw [e, decide_eq_true rfl]; simp
      · rw [decide_eq_false (by omega)]; simp [e]
def sp_Posts_take_best (C : Addr) : Sp := MSp C (fun a : Abs => fsA a) (fun _ => []) (fun a => Inv a) (fun a => fsA (a.does .bestorder).1) (fun a => pAns (a.does .bestorder).2)
theorem ok_Posts_take_best {f : Addr} {fd : FuncData} (F : Fun K "take_best" "Posts.take_best" s_Posts_take_best f fd) (T : Txt K mg C) (h_Posts_change : HasM P w K mg base 7 C "change" ["self", "lines", "order"] (sp_Posts_change C)) (h_best_order : Has P w K mg base 4 "best_order" ["table"] sp_best_order) (h_Posts_table : HasM P w K mg base 4 C "table" ["self"] (sp_Posts_table C)) : FnOk P w K mg base CX0 8 f fd ["self"] (sp_Posts_take_best C) := by
  refine F.ok sc_Posts_take_best (msp_len fun _ => rfl) (fun cdv A outer s H vs Q E hr h => ?_)
  obtain ⟨f_Posts_change, fd_Posts_change, F_Posts_change, mt_Posts_change, bd_Posts_change⟩ := h_Posts_change.ex
  obtain ⟨f_Posts_table, fd_Posts_table, F_Posts_table, mt_Posts_table, bd_Posts_table⟩ := h_Posts_table.ex
  refine ⟨_, (pss_cons (ps_if (pt_cmpR op_gt (pe_fld (pv 0) rfl) (pe_gi T.MOST_TRIED rfl) (nomark _)) (pss_one (ps_ret (pe_lst (pa_cons (pe_gi T.TOO_MANY rfl) pa_nil)))) pss_nil) (pss_one (ps_ret (pe_meth (pv 0) T.cl mt_Posts_change F_Posts_change (hr.mono (by decide)) bd_Posts_change .nil pass0 (pa_cons (pe_fld (pv 0) rfl) (pa_cons (pe_callH h_best_order (hr.mono (by decide)) rfl (pa_cons (pe_meth0 (pv 0) T.cl mt_Posts_table F_Posts_table (hr.mono (by decide)) bd_Posts_table .nil pass0) pa_nil)) pa_nil)))))), ?_⟩
  refine body_mut h (fun x a => [.own a (muI C (fsA x))]) (fun _ _ => rfl) fun a p hi => ?_
  have hw := hi.now.wf
  have hd : a.does .bestorder = if 5 < a.now.g.n then (a, Kv403.say (-28)) else a.to_ ⟨⟨a.now.g.n, a.now.g.lines⟩, Kv403.best a.now.g⟩ := rfl
  rw [hd]
  by_cases c : 5 < a.now.g.n
  · rw [if_pos c]
    exact se_hit (et_is (et_test (de_gt (de_fld (P := pNat a.now.g.n) rfl isObj_I T.cl T.n_places look_places) de_int)) (decide_eq_true (by omega))) (se_ret (de_say _))
  · rw [if_neg c]
    exact se_skip (et_is (et_test (de_gt (de_fld (P := pNat a.now.g.n) rfl isObj_I T.cl T.n_places look_places) de_int)) (decide_eq_false (by omega))) (se_retD (dm_meth (x := (a, a.now.g.lines, Kv403.best a.now.g)) rfl no_change (ea_cons (de_fld rfl isObj_I T.cl T.n_lines look_lines) (ea_cons (de_call (x := (a.now.g.n, a.now.g.lines)) (ea_cons (de_meth (x := a) rfl isObj_I no_table ea_nil hi.now) ea_nil) ⟨hw, by show a.now.g.n ≤ 5; omega⟩) ea_nil)) ⟨hi, hw, best_perm _ _⟩))
end
end Wp
set_option Elab.async false
set_option linter.all false
set_option maxRecDepth 100000
set_option maxHeartbeats 4000000
namespace Wp
open PySem L2
open Kv403 (Call)
abbrev State := Kv403.State
/-! ### calls, laid flat -/
def num : Call → Nat
  | .begin_ _ => 0
  | .line _ _ _ => 1
  | .cut _ => 2
  | .order _ => 3
  | .first _ => 4
  | .bestorder => 5
  | .lines => 6
  | .orderis => 7
  | .marks _ => 8
  | .size => 9
  | .told _ _ => 10
  | .dist _ _ => 11
  | .by_ _ _ => 12
  | .who _ => 13
  | .without _ _ => 14
  | .after _ => 15
  | .would _ => 16
  | .fewest => 17
  | .right _ => 18
  | .back => 19
  | .state => 20
def giv : Call → List Nat
  | .begin_ n => [n]
  | .line a b w => [a, b, w]
  | .cut i => [i]
  | .order l => l
  | .first v => [v]
  | .bestorder => []
  | .lines => []
  | .orderis => []
  | .marks v => [v]
  | .size => []
  | .told u v => [u, v]
  | .dist u v => [u, v]
  | .by_ u v => [u, v]
  | .who h => [h]
  | .without v i => [v, i]
  | .after k => [k]
  | .would l => l
  | .fewest => []
  | .right l => l
  | .back => []
  | .state => []
def isRow : Call → Bool
  | .order _ => true
  | .would _ => true
  | .right _ => true
  | _ => false
def hdC (c : Call) : List Int := (num c : Int) :: (if isRow c then [((giv c).length : Int)] else [])
def flatC (c : Call) : List Int := hdC c ++ inl (giv c)
theorem in_row (c : Call) : ([3, 16, 18] : List Int).contains (num c : Int) = isRow c := by cases c <;> rfl
theorem num_at (c : Call) (h : isRow c = false) : atI (([1, 3, 1, 0, 1, 0, 0, 0, 1, 0, 2, 2, 2, 1, 2, 1, 0, 0, 0, 0, 0] : List Int).map V.int) (num c : Int) = some (.int ((giv c).length : Int)) := by
  cases c <;> first | rfl | cases h
theorem at_mid {α : Type} {f : Int → α} (pre : List Int) (x : Int) (post : List Int) : atI ((pre ++ x :: post).map f) (pre.length : Int) = some (f x) := by
  unfold atI
  rw [List.length_map, ixN_nat (by rw [List.length_append, List.length_cons]; omega)]
  show ((pre ++ x :: post).map f)[pre.length]? = _
  rw [List.getElem?_map]
  simp
theorem cut_mid (pre h g post : List Int) : cutV ((pre ++ (h ++ g ++ post)).map V.int) (some ((pre.length : Int) + (h.length : Int))) (some (((pre.length + (h ++ g).length : Nat)) : Int)) = g.map V.int := by
  have e : (pre ++ (h ++ g ++ post)).map V.int = (pre ++ h).map V.int ++ (g.map V.int ++ post.map V.int) := by simp
  rw [e]
  have l1 : ((pre ++ h).map V.int).length = pre.length + h.length := by simp
  have lt : ((pre ++ h).map V.int ++ (g.map V.int ++ post.map V.int)).length = pre.length + h.length + (g.length + post.length) := by simp; omega
  unfold cutV
  rw [show ((pre.length : Int) + (h.length : Int)) = ((pre.length + h.length : Nat) : Int) by omega, HT.sIx_nat, HT.sIx_nat, lt, List.length_append, Nat.min_eq_left (by omega), Nat.min_eq_left (by omega), ← l1, List.drop_left]
  rw [show pre.length + (h.length + g.length) - ((pre ++ h).map V.int).length = (g.map V.int).length by rw [l1, List.length_map]; omega]
  exact List.take_left
section
variable {P : Program} {w : World} {K : PySem.W.Frag} {mg : Str → Option Value} {base : Heap} {C : Addr}
/-! ### given_start, given_end -/
abbrev Part := List Int × Call × List Int
def whole (x : Part) : List Int := x.1 ++ (flatC x.2.1 ++ x.2.2)
def sp_given_start (K : PySem.W.Frag) : Sp := PSp (fun x : Part => [pSqL K ((whole x).map V.int), pNat x.1.length]) (fun _ => True) (fun x => pInt ((x.1.length : Int) + ((hdC x.2.1).length : Int)))
theorem whole_at (pre : List Int) (c : Call) (post : List Int) : atI ((whole (pre, c, post)).map V.int) (pre.length : Int) = some (.int (num c : Int)) := at_mid pre _ _
theorem ok_given_start {f : Addr} {fd : FuncData} (F : Fun K "given_start" "given_start" s_given_start f fd) (T : Txt K mg C)  : FnOk P w K mg base CX0 1 f fd ["calls", "at"] (sp_given_start K) := by
  refine F.ok sc_given_start (psp_len fun _ => rfl) (fun cdv A outer s H vs Q E hr h => ?_)
  obtain ⟨a_WITH_ROW, m_WITH_ROW, q_WITH_ROW⟩ := T.WITH_ROW
  refine ⟨_, (pss_cons (ps_if (pt_cmpR op_in_seq (pe_ix ix_list (pv 0) (pv 1) (fun _ _ => rfl)) (pe_glob rfl m_WITH_ROW (show RelV (V.ref a_WITH_ROW) (Value.ref a_WITH_ROW) from rfl)) (by rfl)) (pss_one (ps_ret (pe_op op_add (pv 1) pe_int))) pss_nil) (pss_one (ps_ret (pe_op op_add (pv 1) pe_int)))), ?_⟩
  refine body_pure h (fun x => [.val (pSqL K ((whole x).map V.int)), .val (pNat x.1.length)]) (fun _ => rfl) fun x _ => ?_
  obtain ⟨pre, c, post⟩ := x
  refine se_ifR (b := isRow c) (et_is (et_test (de_inT (ns := [3, 16, 18]) (de_ixSL (de_var rfl) (de_var rfl) (whole_at pre c post)) (de_c fun G => ⟨a_WITH_ROW, rfl, q_WITH_ROW G⟩))) (in_row c)) (fun e => ?_) (fun e => ?_) (fun _ => ⟨_, _, rfl⟩)
  · refine se_ret (de_is (de_add (de_var rfl) de_int) ?_)
    show _ = pInt ((pre.length : Int) + ((hdC c).length : Int))
    unfold hdC
    rw [e]
    rfl
  · refine se_ret (de_is (de_add (de_var rfl) de_int) ?_)
    show _ = pInt ((pre.length : Int) + ((hdC c).length : Int))
    unfold hdC
    rw [e]
    rfl
def sp_given_end (K : PySem.W.Frag) : Sp := PSp (fun x : Part => [pSqL K ((whole x).map V.int), pNat x.1.length]) (fun _ => True) (fun x => pNat (x.1.length + (flatC x.2.1).length))
theorem ok_given_end {f : Addr} {fd : FuncData} (F : Fun K "given_end" "given_end" s_given_end f fd) (T : Txt K mg C)  : FnOk P w K mg base CX0 1 f fd ["calls", "at"] (sp_given_end K) := by
  refine F.ok sc_given_end (psp_len fun _ => rfl) (fun cdv A outer s H vs Q E hr h => ?_)
  obtain ⟨a_WITH_ROW, m_WITH_ROW, q_WITH_ROW⟩ := T.WITH_ROW
  obtain ⟨a_NUMBERS, m_NUMBERS, q_NUMBERS⟩ := T.NUMBERS
  refine ⟨_, (pss_cons (ps_if (pt_cmpR op_in_seq (pe_ix ix_list (pv 0) (pv 1) (fun _ _ => rfl)) (pe_glob rfl m_WITH_ROW (show RelV (V.ref a_WITH_ROW) (Value.ref a_WITH_ROW) from rfl)) (by rfl)) (pss_one (ps_ret (pe_op op_add (pe_op op_add (pv 1) pe_int) (pe_ix ix_list (pv 0) (pe_op op_add (pv 1) pe_int) (fun _ _ => rfl))))) pss_nil) (pss_one (ps_ret (pe_op op_add (pe_op op_add (pv 1) pe_int) (pe_ix ix_tup (pe_glob rfl m_NUMBERS (show RelV (V.ref a_NUMBERS) (Value.ref a_NUMBERS) from rfl)) (pe_ix ix_list (pv 0) (pv 1) (fun _ _ => rfl)) (fun _ _ => rfl)))))), ?_⟩
  refine body_pure h (fun x => [.val (pSqL K ((whole x).map V.int)), .val (pNat x.1.length)]) (fun _ => rfl) fun x _ => ?_
  obtain ⟨pre, c, post⟩ := x
  refine se_ifR (b := isRow c) (et_is (et_test (de_inT (ns := [3, 16, 18]) (de_ixSL (de_var rfl) (de_var rfl) (whole_at pre c post)) (de_c fun G => ⟨a_WITH_ROW, rfl, q_WITH_ROW G⟩))) (in_row c)) (fun e => ?_) (fun e => ?_) (fun _ => ⟨_, _, rfl⟩)
  · have hw : whole (pre, c, post) = (pre ++ [(num c : Int)]) ++ ((giv c).length : Int) :: (inl (giv c) ++ post) := by
      unfold whole flatC hdC
      rw [e]
      simp
    have ha : atI ((whole (pre, c, post)).map V.int) ((pre.length : Int) + 1) = some (.int ((giv c).length : Int)) := by
      rw [hw, show ((pre.length : Int) + 1) = ((pre ++ [(num c : Int)]).length : Int) by rw [List.length_append, List.length_singleton]; omega]
      exact at_mid _ _ _
    refine se_ret (de_is (de_add (de_add (de_var rfl) de_int) (de_ixSL (de_var rfl) (de_add (de_var rfl) de_int) ha)) ?_)
    show pInt ((pre.length : Int) + 2 + ((giv c).length : Int)) = pInt ((pre.length + (flatC c).length : Nat) : Int)
    congr 1
    unfold flatC hdC inl
    rw [e, List.length_append, List.length_map]
    show _ = ((pre.length + (2 + (giv c).length) : Nat) : Int)
    omega
  · refine se_ret (de_is (de_add (de_add (de_var rfl) de_int) (de_ixST (de_c fun G => ⟨a_NUMBERS, rfl, q_NUMBERS G⟩) (de_ixSL (de_var rfl) (de_var rfl) (whole_at pre c post)) (num_at c e))) ?_)
    show pInt ((pre.length : Int) + 1 + ((giv c).length : Int)) = pInt ((pre.length + (flatC c).length : Nat) : Int)
    congr 1
    unfold flatC hdC inl
    rw [e, List.length_append, List.length_map]
    show _ = ((pre.length + (1 + (giv c).length) : Nat) : Int)
    omega
/-! ### change, look, weigh -/
theorem no_line {p l o h : Pr} : (fs4 p l o h).lookup ("line" : Str) = none := rfl
theorem no_cut {p l o h : Pr} : (fs4 p l o h).lookup ("cut" : Str) = none := rfl
theorem no_take_order {p l o h : Pr} : (fs4 p l o h).lookup ("take_order" : Str) = none := rfl
theorem no_put_first {p l o h : Pr} : (fs4 p l o h).lookup ("put_first" : Str) = none := rfl
theorem no_take_best {p l o h : Pr} : (fs4 p l o h).lookup ("take_best" : Str) = none := rfl
theorem no_show_lines {p l o h : Pr} : (fs4 p l o h).lookup ("show_lines" : Str) = none := rfl
theorem no_show_order {p l o h : Pr} : (fs4 p l o h).lookup ("show_order" : Str) = none := rfl
theorem no_show_marks {p l o h : Pr} : (fs4 p l o h).lookup ("show_marks" : Str) = none := rfl
theorem no_told {p l o h : Pr} : (fs4 p l o h).lookup ("told" : Str) = none := rfl
theorem no_dist {p l o h : Pr} : (fs4 p l o h).lookup ("dist" : Str) = none := rfl
theorem no_by {p l o h : Pr} : (fs4 p l o h).lookup ("by" : Str) = none := rfl
theorem no_who {p l o h : Pr} : (fs4 p l o h).lookup ("who" : Str) = none := rfl
theorem no_without {p l o h : Pr} : (fs4 p l o h).lookup ("without" : Str) = none := rfl
theorem no_after {p l o h : Pr} : (fs4 p l o h).lookup ("after" : Str) = none := rfl
theorem no_fewest {p l o h : Pr} : (fs4 p l o h).lookup ("fewest" : Str) = none := rfl
theorem no_right {p l o h : Pr} : (fs4 p l o h).lookup ("right" : Str) = none := rfl
theorem no_begin {p l o h : Pr} : (fs4 p l o h).lookup ("begin" : Str) = none := rfl
theorem no_begun {p l o h : Pr} : (fs4 p l o h).lookup ("begun" : Str) = none := rfl
theorem no_back {p l o h : Pr} : (fs4 p l o h).lookup ("back" : Str) = none := rfl
theorem no_state {p l o h : Pr} : (fs4 p l o h).lookup ("state" : Str) = none := rfl
theorem et_num {Γ : List Sl} {te : TE} {m : Nat} {j : Int} (b : Bool) (h : DE te Γ (pNat m)) (e : decide ((m : Int) = j) = b) : ET (tTest (tOp rEq te (tC (.int j)))) Γ b := et_is (et_test (de_eq h de_int)) e
def sp_change (C : Addr) : Sp := MSp C (fun x : Abs × Call => fsA x.1) (fun x => [pNat (num x.2), pNats (giv x.2)]) (fun x => Inv x.1 ∧ 1 ≤ num x.2 ∧ num x.2 ≤ 5) (fun x => fsA (x.1.does x.2).1) (fun x => pAns (x.1.does x.2).2)
theorem ok_change {f : Addr} {fd : FuncData} (F : Fun K "change" "change" s_change f fd) (T : Txt K mg C) (h_Posts_line : HasM P w K mg base 8 C "line" ["self", "a", "b", "w"] (sp_Posts_line C)) (h_Posts_cut : HasM P w K mg base 8 C "cut" ["self", "i"] (sp_Posts_cut C)) (h_Posts_take_order : HasM P w K mg base 8 C "take_order" ["self", "row"] (sp_Posts_take_order C)) (h_Posts_put_first : HasM P w K mg base 8 C "put_first" ["self", "v"] (sp_Posts_put_first C)) (h_Posts_take_best : HasM P w K mg base 8 C "take_best" ["self"] (sp_Posts_take_best C)) : FnOk P w K mg base CX0 9 f fd ["posts", "number", "given"] (sp_change C) := by
  refine F.ok sc_change (msp_len fun _ => rfl) (fun cdv A outer s H vs Q E hr h => ?_)
  obtain ⟨f_Posts_line, fd_Posts_line, F_Posts_line, mt_Posts_line, bd_Posts_line⟩ := h_Posts_line.ex
  obtain ⟨f_Posts_cut, fd_Posts_cut, F_Posts_cut, mt_Posts_cut, bd_Posts_cut⟩ := h_Posts_cut.ex
  obtain ⟨f_Posts_take_order, fd_Posts_take_order, F_Posts_take_order, mt_Posts_take_order, bd_Posts_take_order⟩ := h_Posts_take_order.ex
  obtain ⟨f_Posts_put_first, fd_Posts_put_first, F_Posts_put_first, mt_Posts_put_first, bd_Posts_put_first⟩ := h_Posts_put_first.ex
  obtain ⟨f_Posts_take_best, fd_Posts_take_best, F_Posts_take_best, mt_Posts_take_best, bd_Posts_take_best⟩ := h_Posts_take_best.ex
  refine ⟨_, (pss_cons (ps_if (pt_cmpR op_eq (pv 1) (pe_gi T.LINE rfl) (nomark _)) (pss_one (ps_ret (pe_meth (pv 0) T.cl mt_Posts_line F_Posts_line (hr.mono (by decide)) bd_Posts_line .nil pass0 (pa_cons (pe_ix ix_list (pv 2) pe_int (fun _ _ => rfl)) (pa_cons (pe_ix ix_list (pv 2) pe_int (fun _ _ => rfl)) (pa_cons (pe_ix ix_list (pv 2) pe_int (fun _ _ => rfl)) pa_nil)))))) pss_nil) (pss_cons (ps_if (pt_cmpR op_eq (pv 1) (pe_gi T.CUT rfl) (nomark _)) (pss_one (ps_ret (pe_meth (pv 0) T.cl mt_Posts_cut F_Posts_cut (hr.mono (by decide)) bd_Posts_cut .nil pass0 (pa_cons (pe_ix ix_list (pv 2) pe_int (fun _ _ => rfl)) pa_nil)))) pss_nil) (pss_cons (ps_if (pt_cmpR op_eq (pv 1) (pe_gi T.ORDER rfl) (nomark _)) (pss_one (ps_ret (pe_meth (pv 0) T.cl mt_Posts_take_order F_Posts_take_order (hr.mono (by decide)) bd_Posts_take_order .nil pass0 (pa_cons (pv 2) pa_nil)))) pss_nil) (pss_cons (ps_if (pt_cmpR op_eq (pv 1) (pe_gi T.FIRST rfl) (nomark _)) (pss_one (ps_ret (pe_meth (pv 0) T.cl mt_Posts_put_first F_Posts_put_first (hr.mono (by decide)) bd_Posts_put_first .nil pass0 (pa_cons (pe_ix ix_list (pv 2) pe_int (fun _ _ => rfl)) pa_nil)))) pss_nil) (pss_one (ps_ret (pe_meth0 (pv 0) T.cl mt_Posts_take_best F_Posts_take_best (hr.mono (by decide)) bd_Posts_take_best .nil pass0))))))), ?_⟩
  refine body_mut h (fun x a => [.own a (muI C (fsA x.1)), .val (pNat (num x.2)), .val (pNats (giv x.2))]) (fun _ _ => rfl) fun x p hp => ?_
  obtain ⟨a, c⟩ := x
  obtain ⟨hi, h1, h2⟩ := hp
  have hi : Inv a := hi
  have h1 : 1 ≤ num c := h1
  have h2 : num c ≤ 5 := h2
  cases c with
  | line x y v => exact se_hit (et_num true (de_var rfl) rfl) (se_retD (dm_meth (x := (a, x, y, v)) rfl no_line (ea_cons (de_ixL (de_var rfl) de_int rfl) (ea_cons (de_ixL (de_var rfl) de_int rfl) (ea_cons (de_ixL (de_var rfl) de_int rfl) ea_nil))) hi))
  | cut i => exact se_skip (et_num false (de_var rfl) rfl) (se_hit (et_num true (de_var rfl) rfl) (se_retD (dm_meth (x := (a, i)) rfl no_cut (ea_cons (de_ixL (de_var rfl) de_int rfl) ea_nil) hi)))
  | order l => exact se_skip (et_num false (de_var rfl) rfl) (se_skip (et_num false (de_var rfl) rfl) (se_hit (et_num true (de_var rfl) rfl) (se_retD (dm_meth (x := (a, l)) rfl no_take_order (ea_cons (de_var rfl) ea_nil) hi))))
  | first v => exact se_skip (et_num false (de_var rfl) rfl) (se_skip (et_num false (de_var rfl) rfl) (se_skip (et_num false (de_var rfl) rfl) (se_hit (et_num true (de_var rfl) rfl) (se_retD (dm_meth (x := (a, v)) rfl no_put_first (ea_cons (de_ixL (de_var rfl) de_int rfl) ea_nil) hi)))))
  | bestorder => exact se_skip (et_num false (de_var rfl) rfl) (se_skip (et_num false (de_var rfl) rfl) (se_skip (et_num false (de_var rfl) rfl) (se_skip (et_num false (de_var rfl) rfl) (se_retD (dm_meth (x := a) rfl no_take_best ea_nil hi)))))
  | begin_ n => exact absurd h1 (by show ¬ 1 ≤ 0; decide)
  | _ => exact absurd h2 (by simp [num])
def sp_look (C : Addr) : Sp := RSp C (fun x : Abs × Call => fsA x.1) (fun x => [pNat (num x.2), pNats (giv x.2)]) (fun x => Ok x.1.now ∧ 6 ≤ num x.2 ∧ num x.2 ≤ 13) (fun x => pAns (x.1.does x.2).2)
theorem ok_look {f : Addr} {fd : FuncData} (F : Fun K "look" "look" s_look f fd) (T : Txt K mg C) (h_Posts_show_lines : HasM P w K mg base 1 C "show_lines" ["self"] (sp_Posts_show_lines C)) (h_Posts_show_order : HasM P w K mg base 1 C "show_order" ["self"] (sp_Posts_show_order C)) (h_Posts_show_marks : HasM P w K mg base 6 C "show_marks" ["self", "v"] (sp_Posts_show_marks C)) (h_Posts_size : HasM P w K mg base 6 C "size" ["self"] (sp_Posts_size C)) (h_Posts_told : HasM P w K mg base 6 C "told" ["self", "u", "v"] (sp_Posts_told C)) (h_Posts_dist : HasM P w K mg base 5 C "dist" ["self", "u", "v"] (sp_Posts_dist C)) (h_Posts_by : HasM P w K mg base 6 C "by" ["self", "u", "v"] (sp_Posts_by C)) (h_Posts_who : HasM P w K mg base 6 C "who" ["self", "h"] (sp_Posts_who C)) : FnOk P w K mg base CX0 7 f fd ["posts", "number", "given"] (sp_look C) := by
  refine F.ok sc_look (rsp_len fun _ => rfl) (fun cdv A outer s H vs Q E hr h => ?_)
  obtain ⟨f_Posts_show_lines, fd_Posts_show_lines, F_Posts_show_lines, mt_Posts_show_lines, bd_Posts_show_lines⟩ := h_Posts_show_lines.ex
  obtain ⟨f_Posts_show_order, fd_Posts_show_order, F_Posts_show_order, mt_Posts_show_order, bd_Posts_show_order⟩ := h_Posts_show_order.ex
  obtain ⟨f_Posts_show_marks, fd_Posts_show_marks, F_Posts_show_marks, mt_Posts_show_marks, bd_Posts_show_marks⟩ := h_Posts_show_marks.ex
  obtain ⟨f_Posts_size, fd_Posts_size, F_Posts_size, mt_Posts_size, bd_Posts_size⟩ := h_Posts_size.ex
  obtain ⟨f_Posts_told, fd_Posts_told, F_Posts_told, mt_Posts_told, bd_Posts_told⟩ := h_Posts_told.ex
  obtain ⟨f_Posts_dist, fd_Posts_dist, F_Posts_dist, mt_Posts_dist, bd_Posts_dist⟩ := h_Posts_dist.ex
  obtain ⟨f_Posts_by, fd_Posts_by, F_Posts_by, mt_Posts_by, bd_Posts_by⟩ := h_Posts_by.ex
  obtain ⟨f_Posts_who, fd_Posts_who, F_Posts_who, mt_Posts_who, bd_Posts_who⟩ := h_Posts_who.ex
  refine ⟨_, (pss_cons (ps_if (pt_cmpR op_eq (pv 1) (pe_gi T.LINES rfl) (nomark _)) (pss_one (ps_ret (pe_meth0 (pv 0) T.cl mt_Posts_show_lines F_Posts_show_lines (hr.mono (by decide)) bd_Posts_show_lines .nil pass0))) pss_nil) (pss_cons (ps_if (pt_cmpR op_eq (pv 1) (pe_gi T.ORDERIS rfl) (nomark _)) (pss_one (ps_ret (pe_meth0 (pv 0) T.cl mt_Posts_show_order F_Posts_show_order (hr.mono (by decide)) bd_Posts_show_order .nil pass0))) pss_nil) (pss_cons (ps_if (pt_cmpR op_eq (pv 1) (pe_gi T.MARKS rfl) (nomark _)) (pss_one (ps_ret (pe_meth (pv 0) T.cl mt_Posts_show_marks F_Posts_show_marks (hr.mono (by decide)) bd_Posts_show_marks .nil pass0 (pa_cons (pe_ix ix_list (pv 2) pe_int (fun _ _ => rfl)) pa_nil)))) pss_nil) (pss_cons (ps_if (pt_cmpR op_eq (pv 1) (pe_gi T.SIZE rfl) (nomark _)) (pss_one (ps_ret (pe_meth0 (pv 0) T.cl mt_Posts_size F_Posts_size (hr.mono (by decide)) bd_Posts_size .nil pass0))) pss_nil) (pss_cons (ps_if (pt_cmpR op_eq (pv 1) (pe_gi T.TOLD rfl) (nomark _)) (pss_one (ps_ret (pe_meth (pv 0) T.cl mt_Posts_told F_Posts_told (hr.mono (by decide)) bd_Posts_told .nil pass0 (pa_cons (pe_ix ix_list (pv 2) pe_int (fun _ _ => rfl)) (pa_cons (pe_ix ix_list (pv 2) pe_int (fun _ _ => rfl)) pa_nil))))) pss_nil) (pss_cons (ps_if (pt_cmpR op_eq (pv 1) (pe_gi T.DIST rfl) (nomark _)) (pss_one (ps_ret (pe_meth (pv 0) T.cl mt_Posts_dist F_Posts_dist (hr.mono (by decide)) bd_Posts_dist .nil pass0 (pa_cons (pe_ix ix_list (pv 2) pe_int (fun _ _ => rfl)) (pa_cons (pe_ix ix_list (pv 2) pe_int (fun _ _ => rfl)) pa_nil))))) pss_nil) (pss_cons (ps_if (pt_cmpR op_eq (pv 1) (pe_gi T.BY rfl) (nomark _)) (pss_one (ps_ret (pe_meth (pv 0) T.cl mt_Posts_by F_Posts_by (hr.mono (by decide)) bd_Posts_by .nil pass0 (pa_cons (pe_ix ix_list (pv 2) pe_int (fun _ _ => rfl)) (pa_cons (pe_ix ix_list (pv 2) pe_int (fun _ _ => rfl)) pa_nil))))) pss_nil) (pss_one (ps_ret (pe_meth (pv 0) T.cl mt_Posts_who F_Posts_who (hr.mono (by decide)) bd_Posts_who .nil pass0 (pa_cons (pe_ix ix_list (pv 2) pe_int (fun _ _ => rfl)) pa_nil))))))))))), ?_⟩
  refine body_read h (fun x a M => [.own a M, .val (pNat (num x.2)), .val (pNats (giv x.2))]) (fun _ _ _ => rfl) fun x p M hp hM => ?_
  obtain ⟨a, c⟩ := x
  obtain ⟨hi, h1, h2⟩ := hp
  have hi : Ok a.now := hi
  have h1 : 6 ≤ num c := h1
  have h2 : num c ≤ 13 := h2
  cases c with
  | lines => exact se_hit (et_num true (de_var rfl) rfl) (se_ret (de_meth (x := a) rfl hM no_show_lines ea_nil hi))
  | orderis => exact se_skip (et_num false (de_var rfl) rfl) (se_hit (et_num true (de_var rfl) rfl) (se_ret (de_meth (x := a) rfl hM no_show_order ea_nil hi)))
  | marks v => exact se_skip (et_num false (de_var rfl) rfl) (se_skip (et_num false (de_var rfl) rfl) (se_hit (et_num true (de_var rfl) rfl) (se_ret (de_meth (x := (a, v)) rfl hM no_show_marks (ea_cons (de_ixL (de_var rfl) de_int rfl) ea_nil) hi))))
  | size => exact se_skip (et_num false (de_var rfl) rfl) (se_skip (et_num false (de_var rfl) rfl) (se_skip (et_num false (de_var rfl) rfl) (se_hit (et_num true (de_var rfl) rfl) (se_ret (de_meth (x := a) rfl hM no_size ea_nil hi)))))
  | told u v => exact se_skip (et_num false (de_var rfl) rfl) (se_skip (et_num false (de_var rfl) rfl) (se_skip (et_num false (de_var rfl) rfl) (se_skip (et_num false (de_var rfl) rfl) (se_hit (et_num true (de_var rfl) rfl) (se_ret (de_meth (x := (a, u, v)) rfl hM no_told (ea_cons (de_ixL (de_var rfl) de_int rfl) (ea_cons (de_ixL (de_var rfl) de_int rfl) ea_nil)) hi))))))
  | dist u v => exact se_skip (et_num false (de_var rfl) rfl) (se_skip (et_num false (de_var rfl) rfl) (se_skip (et_num false (de_var rfl) rfl) (se_skip (et_num false (de_var rfl) rfl) (se_skip (et_num false (de_var rfl) rfl) (se_hit (et_num true (de_var rfl) rfl) (se_ret (de_meth (x := (a, u, v)) rfl hM no_dist (ea_cons (de_ixL (de_var rfl) de_int rfl) (ea_cons (de_ixL (de_var rfl) de_int rfl) ea_nil)) hi)))))))
  | by_ u v => exact se_skip (et_num false (de_var rfl) rfl) (se_skip (et_num false (de_var rfl) rfl) (se_skip (et_num false (de_var rfl) rfl) (se_skip (et_num false (de_var rfl) rfl) (se_skip (et_num false (de_var rfl) rfl) (se_skip (et_num false (de_var rfl) rfl) (se_hit (et_num true (de_var rfl) rfl) (se_ret (de_meth (x := (a, u, v)) rfl hM no_by (ea_cons (de_ixL (de_var rfl) de_int rfl) (ea_cons (de_ixL (de_var rfl) de_int rfl) ea_nil)) hi))))))))
  | who u => exact se_skip (et_num false (de_var rfl) rfl) (se_skip (et_num false (de_var rfl) rfl) (se_skip (et_num false (de_var rfl) rfl) (se_skip (et_num false (de_var rfl) rfl) (se_skip (et_num false (de_var rfl) rfl) (se_skip (et_num false (de_var rfl) rfl) (se_skip (et_num false (de_var rfl) rfl) (se_ret (de_meth (x := (a, u)) rfl hM no_who (ea_cons (de_ixL (de_var rfl) de_int rfl) ea_nil) hi))))))))
  | without _ _ => exact absurd h2 (by simp [num])
  | after _ => exact absurd h2 (by simp [num])
  | would _ => exact absurd h2 (by simp [num])
  | fewest => exact absurd h2 (by simp [num])
  | right _ => exact absurd h2 (by simp [num])
  | back => exact absurd h2 (by simp [num])
  | state => exact absurd h2 (by simp [num])
  | _ => exact absurd h1 (by simp [num])
def sp_weigh (C : Addr) : Sp := RSp C (fun x : Abs × Call => fsA x.1) (fun x => [pNat (num x.2), pNats (giv x.2)]) (fun x => (Ok x.1.now ∧ 14 ≤ num x.2 ∧ num x.2 ≤ 18) ∧ (giv x.2).length ≤ 1000) (fun x => pAns (x.1.does x.2).2)
theorem ok_weigh {f : Addr} {fd : FuncData} (F : Fun K "weigh" "weigh" s_weigh f fd) (T : Txt K mg C) (h_Posts_without : HasM P w K mg base 6 C "without" ["self", "v", "i"] (sp_Posts_without C)) (h_Posts_after : HasM P w K mg base 5 C "after" ["self", "k"] (sp_Posts_after C)) (h_Posts_would : HasM P w K mg base 5 C "would" ["self", "row"] (sp_Posts_would C)) (h_Posts_fewest : HasM P w K mg base 6 C "fewest" ["self"] (sp_Posts_fewest C)) (h_Posts_right : HasM P w K mg base 6 C "right" ["self", "row"] (sp_Posts_right C)) : FnOk P w K mg base CX0 7 f fd ["posts", "number", "given"] (sp_weigh C) := by
  refine F.ok sc_weigh (rsp_len fun _ => rfl) (fun cdv A outer s H vs Q E hr h => ?_)
  obtain ⟨f_Posts_without, fd_Posts_without, F_Posts_without, mt_Posts_without, bd_Posts_without⟩ := h_Posts_without.ex
  obtain ⟨f_Posts_after, fd_Posts_after, F_Posts_after, mt_Posts_after, bd_Posts_after⟩ := h_Posts_after.ex
  obtain ⟨f_Posts_would, fd_Posts_would, F_Posts_would, mt_Posts_would, bd_Posts_would⟩ := h_Posts_would.ex
  obtain ⟨f_Posts_fewest, fd_Posts_fewest, F_Posts_fewest, mt_Posts_fewest, bd_Posts_fewest⟩ := h_Posts_fewest.ex
  obtain ⟨f_Posts_right, fd_Posts_right, F_Posts_right, mt_Posts_right, bd_Posts_right⟩ := h_Posts_right.ex
  refine ⟨_, (pss_cons (ps_if (pt_cmpR op_eq (pv 1) (pe_gi T.WITHOUT rfl) (nomark _)) (pss_one (ps_ret (pe_meth (pv 0) T.cl mt_Posts_without F_Posts_without (hr.mono (by decide)) bd_Posts_without .nil pass0 (pa_cons (pe_ix ix_list (pv 2) pe_int (fun _ _ => rfl)) (pa_cons (pe_ix ix_list (pv 2) pe_int (fun _ _ => rfl)) pa_nil))))) pss_nil) (pss_cons (ps_if (pt_cmpR op_eq (pv 1) (pe_gi T.AFTER rfl) (nomark _)) (pss_one (ps_ret (pe_meth (pv 0) T.cl mt_Posts_after F_Posts_after (hr.mono (by decide)) bd_Posts_after .nil pass0 (pa_cons (pe_ix ix_list (pv 2) pe_int (fun _ _ => rfl)) pa_nil)))) pss_nil) (pss_cons (ps_if (pt_cmpR op_eq (pv 1) (pe_gi T.WOULD rfl) (nomark _)) (pss_one (ps_ret (pe_meth (pv 0) T.cl mt_Posts_would F_Posts_would (hr.mono (by decide)) bd_Posts_would .nil pass0 (pa_cons (pv 2) pa_nil)))) pss_nil) (pss_cons (ps_if (pt_cmpR op_eq (pv 1) (pe_gi T.FEWEST rfl) (nomark _)) (pss_one (ps_ret (pe_meth0 (pv 0) T.cl mt_Posts_fewest F_Posts_fewest (hr.mono (by decide)) bd_Posts_fewest .nil pass0))) pss_nil) (pss_one (ps_ret (pe_meth (pv 0) T.cl mt_Posts_right F_Posts_right (hr.mono (by decide)) bd_Posts_right .nil pass0 (pa_cons (pv 2) pa_nil)))))))), ?_⟩
  refine body_read h (fun x a M => [.own a M, .val (pNat (num x.2)), .val (pNats (giv x.2))]) (fun _ _ _ => rfl) fun x p M hp hM => ?_
  obtain ⟨a, c⟩ := x
  obtain ⟨⟨hi, h1, h2⟩, hl⟩ := hp
  have hi : Ok a.now := hi
  have h1 : 14 ≤ num c := h1
  have h2 : num c ≤ 18 := h2
  cases c with
  | without v i => exact se_hit (et_num true (de_var rfl) rfl) (se_ret (de_meth (x := (a, v, i)) rfl hM no_without (ea_cons (de_ixL (de_var rfl) de_int rfl) (ea_cons (de_ixL (de_var rfl) de_int rfl) ea_nil)) hi))
  | after k => exact se_skip (et_num false (de_var rfl) rfl) (se_hit (et_num true (de_var rfl) rfl) (se_ret (de_meth (x := (a, k)) rfl hM no_after (ea_cons (de_ixL (de_var rfl) de_int rfl) ea_nil) hi)))
  | would l => exact se_skip (et_num false (de_var rfl) rfl) (se_skip (et_num false (de_var rfl) rfl) (se_hit (et_num true (de_var rfl) rfl) (se_ret (de_meth (x := (a, l)) rfl hM no_would (ea_cons (de_var rfl) ea_nil) hi))))
  | fewest => exact se_skip (et_num false (de_var rfl) rfl) (se_skip (et_num false (de_var rfl) rfl) (se_skip (et_num false (de_var rfl) rfl) (se_hit (et_num true (de_var rfl) rfl) (se_ret (de_meth (x := a) rfl hM no_fewest ea_nil hi)))))
  | right l => exact se_skip (et_num false (de_var rfl) rfl) (se_skip (et_num false (de_var rfl) rfl) (se_skip (et_num false (de_var rfl) rfl) (se_skip (et_num false (de_var rfl) rfl) (se_ret (de_meth (x := (a, l)) rfl hM no_right (ea_cons (de_var rfl) ea_nil) ⟨hi, hl⟩)))))
  | back => exact absurd h2 (by simp [num])
  | state => exact absurd h2 (by simp [num])
  | _ => exact absurd h1 (by simp [num])
end
end Wp
set_option Elab.async false
set_option linter.all false
set_option maxRecDepth 100000
set_option maxHeartbeats 4000000
namespace Wp
open PySem L2
open Kv403 (Call)
/-! ### answer -/
def absOf : State → Abs
  | none => zero
  | some a => a
def InvS (s : State) : Prop := ∀ a, s = some a → Inv a
theorem act_begin (s : State) (n : Nat) : absOf (Kv403.act s (.begin_ n)).1 = ((absOf s).does (.begin_ n)).1 ∧ (Kv403.act s (.begin_ n)).2 = ((absOf s).does (.begin_ n)).2 := by
  cases s with
  | some a => exact ⟨rfl, rfl⟩
  | none =>
    by_cases c : n = 0 ∨ 8 < n
    · have e1 : (Kv403.begun 1).does (.begin_ n) = (Kv403.begun 1, Kv403.say (-22)) := by
        show (if n = 0 ∨ 8 < n then _ else _) = _
        rw [if_pos c]
      have e2 : zero.does (.begin_ n) = (zero, Kv403.say (-22)) := by
        show (if n = 0 ∨ 8 < n then _ else _) = _
        rw [if_pos c]
      have e3 : Kv403.act none (.begin_ n) = (none, Kv403.say (-22)) := by
        show (if ((Kv403.begun 1).does (.begin_ n)).2.ret < 0 then (none, ((Kv403.begun 1).does (.begin_ n)).2) else (some ((Kv403.begun 1).does (.begin_ n)).1, ((Kv403.begun 1).does (.begin_ n)).2)) = _
        rw [e1]
        rfl
      rw [e3]
      show zero = (zero.does (.begin_ n)).1 ∧ _ = (zero.does (.begin_ n)).2
      rw [e2]
      exact ⟨rfl, rfl⟩
    · have e1 : (Kv403.begun 1).does (.begin_ n) = (Kv403.begun n, Kv403.say 0) := by
        show (if n = 0 ∨ 8 < n then _ else _) = _
        rw [if_neg c]
      have e2 : zero.does (.begin_ n) = (Kv403.begun n, Kv403.say 0) := by
        show (if n = 0 ∨ 8 < n then _ else _) = _
        rw [if_neg c]
      have e3 : Kv403.act none (.begin_ n) = (some (Kv403.begun n), Kv403.say 0) := by
        show (if ((Kv403.begun 1).does (.begin_ n)).2.ret < 0 then (none, ((Kv403.begun 1).does (.begin_ n)).2) else (some ((Kv403.begun 1).does (.begin_ n)).1, ((Kv403.begun 1).does (.begin_ n)).2)) = _
        rw [e1]
        rfl
      rw [e3]
      show Kv403.begun n = (zero.does (.begin_ n)).1 ∧ _ = (zero.does (.begin_ n)).2
      rw [e2]
      exact ⟨rfl, rfl⟩
theorem act_none {c : Call} (h : num c ≠ 0) : Kv403.act none c = (none, Kv403.say (-11)) := by
  cases c with
  | begin_ n => exact absurd rfl h
  | _ => rfl
theorem act_some (a : Abs) (c : Call) : Kv403.act (some a) c = (some (a.does c).1, (a.does c).2) := rfl
theorem inv_act {s : State} (h : InvS s) (c : Call) : InvS (Kv403.act s c).1 := by
  cases s with
  | some a =>
    intro b e
    rw [act_some] at e
    cases e
    exact inv_does (h a rfl) c
  | none =>
    by_cases c0 : num c = 0
    · cases c with
      | begin_ n =>
        intro b e
        by_cases c : n = 0 ∨ 8 < n
        · have e1 : (Kv403.begun 1).does (.begin_ n) = (Kv403.begun 1, Kv403.say (-22)) := by
            show (if n = 0 ∨ 8 < n then _ else _) = _
            rw [if_pos c]
          have e3 : Kv403.act none (.begin_ n) = (none, Kv403.say (-22)) := by
            show (if ((Kv403.begun 1).does (.begin_ n)).2.ret < 0 then (none, ((Kv403.begun 1).does (.begin_ n)).2) else (some ((Kv403.begun 1).does (.begin_ n)).1, ((Kv403.begun 1).does (.begin_ n)).2)) = _
            rw [e1]
            rfl
          rw [e3] at e
          cases e
        · have e1 : (Kv403.begun 1).does (.begin_ n) = (Kv403.begun n, Kv403.say 0) := by
            show (if n = 0 ∨ 8 < n then _ else _) = _
            rw [if_neg c]
          have e3 : Kv403.act none (.begin_ n) = (some (Kv403.begun n), Kv403.say 0) := by
            show (if ((Kv403.begun 1).does (.begin_ n)).2.ret < 0 then (none, ((Kv403.begun 1).does (.begin_ n)).2) else (some ((Kv403.begun 1).does (.begin_ n)).1, ((Kv403.begun 1).does (.begin_ n)).2)) = _
            rw [e1]
            rfl
          rw [e3] at e
          cases e
          exact ok_begun (by omega) (by omega)
      | _ => cases c0
    · intro b e
      rw [act_none c0] at e
      cases e
theorem does_same {a : Abs} {c : Call} (h1 : 6 ≤ num c) (h2 : num c ≠ 19) : (a.does c).1 = a := by
  cases c with
  | lines => rfl
  | orderis => rfl
  | marks v => simp only [Kv403.Abs.does]; split <;> rfl
  | size => rfl
  | told u v =>
    simp only [Kv403.Abs.does]
    split
    · rfl
    · split <;> rfl
  | dist u v =>
    simp only [Kv403.Abs.does]
    split
    · rfl
    · split <;> rfl
  | by_ u v =>
    simp only [Kv403.Abs.does]
    split
    · rfl
    · split <;> rfl
  | who u => simp only [Kv403.Abs.does]; split <;> rfl
  | without v i =>
    simp only [Kv403.Abs.does]
    split
    · rfl
    · split <;> rfl
  | after k => simp only [Kv403.Abs.does]; split <;> rfl
  | would l => simp only [Kv403.Abs.does]; split <;> rfl
  | fewest => simp only [Kv403.Abs.does]; split <;> rfl
  | right l => simp only [Kv403.Abs.does]; split <;> rfl
  | back => exact absurd rfl h2
  | state => rfl
  | _ => exact absurd h1 (by simp [num])
theorem is_back {c : Call} (h : num c = 19) : c = .back := by cases c <;> first | rfl | cases h
theorem is_state {c : Call} (h : num c = 20) : c = .state := by cases c <;> first | rfl | cases h
theorem is_begin {c : Call} (h : num c = 0) : ∃ n, c = .begin_ n := by cases c <;> first | exact ⟨_, rfl⟩ | cases h
theorem num_le (c : Call) : num c ≤ 20 := by cases c <;> simp [num]
section
variable {P : Program} {w : World} {K : PySem.W.Frag} {mg : Str → Option Value} {base : Heap} {C : Addr}
def sp_answer (C : Addr) : Sp := MSp C (fun x : State × Call => fsA (absOf x.1)) (fun x => [pNat (num x.2), pNats (giv x.2)]) (fun x => InvS x.1 ∧ (giv x.2).length ≤ 1000) (fun x => fsA (absOf (Kv403.act x.1 x.2).1)) (fun x => pAns (Kv403.act x.1 x.2).2)
theorem et_le {Γ : List Sl} {te : TE} {m : Nat} {j : Int} (b : Bool) (h : DE te Γ (pNat m)) (e : decide ((m : Int) ≤ j) = b) : ET (tTest (tOp (rI0 fun i j => .bl (decide (i ≤ j))) te (tC (.int j)))) Γ b := et_is (et_test (de_le h de_int)) e
theorem ok_answer {f : Addr} {fd : FuncData} (F : Fun K "answer" "answer" s_answer f fd) (T : Txt K mg C) (h_Posts_begin : HasM P w K mg base 1 C "begin" ["self", "n"] (sp_Posts_begin C)) (h_Posts_begun : HasM P w K mg base 1 C "begun" ["self"] (sp_Posts_begun C)) (h_change : Has P w K mg base 9 "change" ["posts", "number", "given"] (sp_change C)) (h_look : Has P w K mg base 7 "look" ["posts", "number", "given"] (sp_look C)) (h_weigh : Has P w K mg base 7 "weigh" ["posts", "number", "given"] (sp_weigh C)) (h_Posts_back : HasM P w K mg base 1 C "back" ["self"] (sp_Posts_back C)) (h_Posts_state : HasM P w K mg base 1 C "state" ["self"] (sp_Posts_state C)) : FnOk P w K mg base CX0 10 f fd ["posts", "number", "given"] (sp_answer C) := by
  refine F.ok sc_answer (msp_len fun _ => rfl) (fun cdv A outer s H vs Q E hr h => ?_)
  obtain ⟨f_Posts_begin, fd_Posts_begin, F_Posts_begin, mt_Posts_begin, bd_Posts_begin⟩ := h_Posts_begin.ex
  obtain ⟨f_Posts_begun, fd_Posts_begun, F_Posts_begun, mt_Posts_begun, bd_Posts_begun⟩ := h_Posts_begun.ex
  obtain ⟨f_Posts_back, fd_Posts_back, F_Posts_back, mt_Posts_back, bd_Posts_back⟩ := h_Posts_back.ex
  obtain ⟨f_Posts_state, fd_Posts_state, F_Posts_state, mt_Posts_state, bd_Posts_state⟩ := h_Posts_state.ex
  refine ⟨_, (pss_cons (ps_if (pt_cmpR op_eq (pv 1) (pe_gi T.BEGIN rfl) (nomark _)) (pss_one (ps_ret (pe_meth (pv 0) T.cl mt_Posts_begin F_Posts_begin (hr.mono (by decide)) bd_Posts_begin .nil pass0 (pa_cons (pe_ix ix_list (pv 2) pe_int (fun _ _ => rfl)) pa_nil)))) pss_nil) (pss_cons (ps_if (pt_not (pt_val (pe_meth0 (pv 0) T.cl mt_Posts_begun F_Posts_begun (hr.mono (by decide)) bd_Posts_begun .nil pass0))) (pss_one (ps_ret (pe_lst (pa_cons (pe_gi T.NOT_BEGUN rfl) pa_nil)))) pss_nil) (pss_cons (ps_if (pt_cmpR op_le (pv 1) (pe_gi T.BESTORDER rfl) (nomark _)) (pss_one (ps_ret (pe_callH h_change (hr.mono (by decide)) rfl (pa_cons (pv 0) (pa_cons (pv 1) (pa_cons (pv 2) pa_nil)))))) pss_nil) (pss_cons (ps_if (pt_cmpR op_le (pv 1) (pe_gi T.WHO rfl) (nomark _)) (pss_one (ps_ret (pe_callH h_look (hr.mono (by decide)) rfl (pa_cons (pv 0) (pa_cons (pv 1) (pa_cons (pv 2) pa_nil)))))) pss_nil) (pss_cons (ps_if (pt_cmpR op_le (pv 1) (pe_gi T.RIGHT rfl) (nomark _)) (pss_one (ps_ret (pe_callH h_weigh (hr.mono (by decide)) rfl (pa_cons (pv 0) (pa_cons (pv 1) (pa_cons (pv 2) pa_nil)))))) pss_nil) (pss_cons (ps_if (pt_cmpR op_eq (pv 1) (pe_gi T.BACK rfl) (nomark _)) (pss_one (ps_ret (pe_meth0 (pv 0) T.cl mt_Posts_back F_Posts_back (hr.mono (by decide)) bd_Posts_back .nil pass0))) pss_nil) (pss_one (ps_ret (pe_meth0 (pv 0) T.cl mt_Posts_state F_Posts_state (hr.mono (by decide)) bd_Posts_state .nil pass0))))))))), ?_⟩
  refine body_mut h (fun x a => [.own a (muI C (fsA (absOf x.1))), .val (pNat (num x.2)), .val (pNats (giv x.2))]) (fun _ _ => rfl) fun x p hp => ?_
  obtain ⟨s, c⟩ := x
  obtain ⟨hi, hl⟩ := hp
  have hi : InvS s := hi
  have hl : (giv c).length ≤ 1000 := hl
  show SE _ [.own p (muI C (fsA (absOf s))), .val (pNat (num c)), .val (pNats (giv c))] (.rt (pAns (Kv403.act s c).2) [.own p (muI C (fsA (absOf (Kv403.act s c).1)))])
  by_cases c0 : num c = 0
  · obtain ⟨n, rfl⟩ := is_begin c0
    obtain ⟨e1, e2⟩ := act_begin s n
    rw [e1, e2]
    exact se_hit (et_num true (de_var rfl) rfl) (se_retD (dm_meth (x := (absOf s, n)) rfl no_begin (ea_cons (de_ixL (de_var rfl) de_int rfl) ea_nil) trivial))
  · refine se_skip (et_num false (de_var rfl) (decide_eq_false (by omega))) ?_
    cases s with
    | none =>
      rw [act_none c0]
      exact se_hit (et_is (et_not (et_B (de_meth (x := zero) rfl isObj_I no_begun ea_nil trivial))) rfl) (se_ret (de_say _))
    | some a =>
      have ha : Inv a := hi a rfl
      have n1 := ha.now.wf.n1
      rw [act_some]
      refine se_skip (et_is (et_not (et_B (de_meth (x := a) rfl isObj_I no_begun ea_nil trivial))) (by rw [decide_eq_true (by omega : 0 < a.now.g.n)]; rfl)) ?_
      by_cases c5 : num c ≤ 5
      · exact se_hit (et_le true (de_var rfl) (decide_eq_true (by omega))) (se_retD (dm_call (x := (a, c)) rfl (ea_cons (de_var rfl) (ea_cons (de_var rfl) ea_nil)) ⟨ha, by show 1 ≤ num c; omega, c5⟩))
      · refine se_skip (et_le false (de_var rfl) (decide_eq_false (by omega))) ?_
        by_cases c19 : num c = 19
        · rw [is_back c19]
          exact se_skip (et_le false (de_var rfl) rfl) (se_skip (et_le false (de_var rfl) rfl) (se_hit (et_num true (de_var rfl) rfl) (se_retD (dm_meth (x := a) rfl no_back ea_nil ha))))
        · rw [show (absOf (some (a.does c).1)) = a from does_same (by omega) c19]
          by_cases c13 : num c ≤ 13
          · exact se_hit (et_le true (de_var rfl) (decide_eq_true (by omega))) (se_ret (de_callR (x := (a, c)) rfl isObj_I (ea_cons (de_var rfl) (ea_cons (de_var rfl) ea_nil)) ⟨ha.now, by show 6 ≤ num c; omega, c13⟩))
          · refine se_skip (et_le false (de_var rfl) (decide_eq_false (by omega))) ?_
            by_cases c18 : num c ≤ 18
            · exact se_hit (et_le true (de_var rfl) (decide_eq_true (by omega))) (se_ret (de_callR (x := (a, c)) rfl isObj_I (ea_cons (de_var rfl) (ea_cons (de_var rfl) ea_nil)) ⟨⟨ha.now, by show 14 ≤ num c; omega, c18⟩, hl⟩))
            · refine se_skip (et_le false (de_var rfl) (decide_eq_false (by omega))) (se_skip (et_num false (de_var rfl) (decide_eq_false (by omega))) ?_)
              have c20 : num c = 20 := by have := num_le c; omega
              rw [is_state c20]
              exact se_ret (de_meth (x := a) rfl isObj_I no_state ea_nil ha.now)
/-! ### answers -/
def sts (s : State) (cs : List Call) : State := cs.foldl (fun s c => (Kv403.act s c).1) s
def out1 (s : State) (c : Call) : List Int := ((Kv403Neutral.row (Kv403.act s c).2).length : Int) :: Kv403Neutral.row (Kv403.act s c).2
def outs : State → List Call → List Int
  | _, [] => []
  | s, c :: r => out1 s c ++ outs (Kv403.act s c).1 r
theorem outs_append : ∀ (s : State) (a b : List Call), outs s (a ++ b) = outs s a ++ outs (sts s a) b
  | _, [], _ => rfl
  | s, c :: r, b => by
    show out1 s c ++ outs _ (r ++ b) = out1 s c ++ outs _ r ++ outs (sts (Kv403.act s c).1 r) b
    rw [outs_append, List.append_assoc]
theorem inv_sts : ∀ {cs : List Call} {s : State}, InvS s → InvS (sts s cs)
  | [], _, h => h
  | c :: r, _, h => inv_sts (cs := r) (inv_act h c)
theorem flatC_pos (c : Call) : 0 < (flatC c).length := by
  unfold flatC hdC
  rw [List.length_append, List.length_cons]
  omega
theorem flats_pos : ∀ {cs : List Call}, cs ≠ [] → 0 < (cs.flatMap flatC).length
  | [], h => absurd rfl h
  | c :: r, _ => by
    rw [List.flatMap_cons, List.length_append]
    have := flatC_pos c
    omega
def sp_answers (K : PySem.W.Frag) : Sp := PSp (fun cs : List Call => [pSqL K ((cs.flatMap flatC).map V.int)]) (fun cs => (outs none cs).length ≤ 10000000 ∧ ∀ c ∈ cs, (giv c).length ≤ 1000) (fun cs => pList ((outs none cs).map pInt))
theorem ok_answers {f : Addr} {fd : FuncData} (F : Fun K "answers" "answers" s_answers f fd) (T : Txt K mg C) (h_Posts___init__ : HasC P w K mg base 1 C "Posts" ["self"] (sp_Posts___init__ C)) (h_given_end : Has P w K mg base 1 "given_end" ["calls", "at"] (sp_given_end K)) (h_answer : Has P w K mg base 10 "answer" ["posts", "number", "given"] (sp_answer C)) (h_given_start : Has P w K mg base 1 "given_start" ["calls", "at"] (sp_given_start K)) : FnOk P w K mg base CX0 11 f fd ["calls"] (sp_answers K) := by
  refine F.ok sc_answers (psp_len fun _ => rfl) (fun cdv A outer s H vs Q E hr h => ?_)
  refine ⟨_, (pss_cons (ps_set (i := 1) sc_answers.nd rfl (Or.inl rfl) (pe_make0H h_Posts___init__ (hr.mono (by decide)) rfl)) (pss_cons (ps_set (i := 2) sc_answers.nd rfl (Or.inl rfl) (pe_lst pa_nil)) (pss_cons (ps_set (i := 3) sc_answers.nd rfl (Or.inl rfl) pe_int) (pss_cons (ps_while PassesOwn.never (pt_cmpR op_lt (pv 3) (pe_callB call_len_seq rfl T.len (by decide +kernel) (pa_cons (pv 0) pa_nil)) (nomark _)) (pss_cons (ps_set (i := 4) sc_answers.nd rfl (Or.inl rfl) (pe_callH h_given_end (hr.mono (by decide)) rfl (pa_cons (pv 0) (pa_cons (pv 3) pa_nil)))) (pss_cons (ps_set (i := 5) sc_answers.nd rfl (Or.inl rfl) (pe_callH h_answer (hr.mono (by decide)) rfl (pa_cons (pv 1) (pa_cons (pe_ix ix_list (pv 0) (pv 3) (fun _ _ => rfl)) (pa_cons (pe_slice sl_list (pv 0) (po_some (pe_callH h_given_start (hr.mono (by decide)) rfl (pa_cons (pv 0) (pa_cons (pv 3) pa_nil)))) (po_some (pv 4))) pa_nil))))) (pss_cons (ps_expr (pe_bm PySem.F.plainAttrs_list PySem.F.slot_list_append PySem.F.type_list_append mt_append (pv 2) (pa_cons (pe_callB call_len_seq rfl T.len (by decide +kernel) (pa_cons (pv 5) pa_nil)) pa_nil))) (pss_cons (ps_expr (pe_bm PySem.F.plainAttrs_list PySem.F.slot_list_extend PySem.F.type_list_extend mt_extend (pv 2) (pa_cons (pv 5) pa_nil))) (pss_one (ps_set (i := 3) sc_answers.nd rfl (Or.inl rfl) (pv 4)))))))) (pss_one (ps_ret (pv 2))))))), ?_⟩
  refine body_pure h (fun cs => [.val (pSqL K ((cs.flatMap flatC).map V.int)), .any, .any, .any, .any, .any]) (fun _ => rfl) fun cs hp => ?_
  obtain ⟨hlen, hgiv⟩ := hp
  refine se_make (self2 := fun _ => fsA zero) () trivial (by simp) fun p => ?_
  refine se_new (Ps := []) ea_nil (by simp) (by simp) fun q => ?_
  refine se_seq (se_asg (de_int (i := 0))) ?_
  have tk : ∀ i, i ≤ cs.length → ((cs.take i).flatMap flatC).length ≤ (cs.flatMap flatC).length ∧ (((cs.take i).flatMap flatC).length < (cs.flatMap flatC).length ↔ i < cs.length) := fun i hi => by
    have e : cs.flatMap flatC = (cs.take i).flatMap flatC ++ (cs.drop i).flatMap flatC := by rw [← List.flatMap_append, List.take_append_drop]
    rw [e, List.length_append]
    refine ⟨by omega, fun h => ?_, fun h => ?_⟩
    · by_cases c : i < cs.length
      · exact c
      · rw [List.drop_eq_nil_of_le (by omega)] at h
        simp at h
    · have := flats_pos (cs := cs.drop i) (by
        intro z
        have := congrArg List.length z
        rw [List.length_drop] at this
        simp at this
        omega)
      omega
  refine se_seq (Γ1 := [.val (pSqL K ((cs.flatMap flatC).map V.int)), .own p (muI C (fsA (absOf (sts none (cs.take cs.length))))), .own q (muL ((outs none (cs.take cs.length)).map pInt)), .val (pNat ((cs.take cs.length).flatMap flatC).length), .any, .any])
    (se_while cs.length (fun i => [.val (pSqL K ((cs.flatMap flatC).map V.int)), .own p (muI C (fsA (absOf (sts none (cs.take i))))), .own q (muL ((outs none (cs.take i)).map pInt)), .val (pNat ((cs.take i).flatMap flatC).length), .any, .any]) (fun i hi => ?_) (fun i hi => ?_)) (se_freeze (i := 2) rfl (se_ret (de_is (de_var rfl) ?_)))
  · refine et_is (et_test (de_lt (de_var rfl) (de_cb (ea_cons (de_var rfl) ea_nil) rc_lenS))) ?_
    rw [List.length_map]
    exact decide_eq_decide.mpr (by have := (tk i hi).2; omega)
  · have ec : cs.take (i + 1) = cs.take i ++ [cs[i]] := by rw [List.take_add_one, List.getElem?_eq_getElem hi]; rfl
    have es : cs = cs.take i ++ cs[i] :: cs.drop (i + 1) := by rw [List.getElem_cons_drop, List.take_append_drop]
    have eL : cs.flatMap flatC = whole ((cs.take i).flatMap flatC, cs[i], (cs.drop (i + 1)).flatMap flatC) := by
      show _ = (cs.take i).flatMap flatC ++ (flatC cs[i] ++ (cs.drop (i + 1)).flatMap flatC)
      rw [← List.flatMap_cons, ← List.flatMap_append, ← es]
    have eS : sts none (cs.take (i + 1)) = (Kv403.act (sts none (cs.take i)) cs[i]).1 := by
      rw [ec]; unfold sts; rw [List.foldl_append]; rfl
    have eO : outs none (cs.take (i + 1)) = outs none (cs.take i) ++ out1 (sts none (cs.take i)) cs[i] := by
      rw [ec, outs_append]
      show _ ++ (out1 _ _ ++ []) = _
      rw [List.append_nil]
    have eF : ((cs.take (i + 1)).flatMap flatC).length = ((cs.take i).flatMap flatC).length + (flatC cs[i]).length := by
      rw [ec, List.flatMap_append, List.length_append]
      simp
    have lO : (outs none (cs.take i)).length + (out1 (sts none (cs.take i)) cs[i]).length ≤ 10000000 := by
      have e2 : outs none cs = outs none (cs.take (i + 1)) ++ outs (sts none (cs.take (i + 1))) (cs.drop (i + 1)) := by rw [← outs_append, List.take_append_drop]
      have : (outs none cs).length ≤ 10000000 := hlen
      rw [e2, List.length_append, eO, List.length_append] at this
      omega
    have hI : InvS (sts none (cs.take i)) := inv_sts (fun a z => by cases z)
    have lo1 : (out1 (sts none (cs.take i)) cs[i]).length = (Kv403Neutral.row (Kv403.act (sts none (cs.take i)) cs[i]).2).length + 1 := rfl
    rw [eS, eO, eF]
    generalize sts none (cs.take i) = s at *
    generalize outs none (cs.take i) = o at *
    have hg := hgiv cs[i] (List.getElem_mem hi)
    generalize cs[i] = c at *
    generalize (cs.take i).flatMap flatC = pre at *
    generalize (cs.drop (i + 1)).flatMap flatC = post at *
    rw [eL]
    refine se_seq (se_asg (de_call (x := (pre, c, post)) (ea_cons (de_var rfl) (ea_cons (de_var rfl) ea_nil)) trivial)) ?_
    refine se_seq (se_asgD (dm_call (x := (s, c)) rfl (ea_cons (de_ixSL (de_var rfl) (de_var rfl) (whole_at pre c post)) (ea_cons (P := pNats (giv c)) (de_slS (ns := whole (pre, c, post)) (ms := inl (giv c)) (de_var rfl) (eo_some (de_call (x := (pre, c, post)) (ea_cons (de_var rfl) (ea_cons (de_var rfl) ea_nil)) trivial)) (eo_some (de_var rfl)) (cut_mid pre (hdC c) (inl (giv c)) post)) ea_nil)) ⟨hI, hg⟩)) ?_
    refine se_seq (se_appendB (P := pNat (Kv403Neutral.row (Kv403.act s c).2).length) (i := 2) (a := q) (Ps := o.map pInt) rfl (de_is (de_cb (ea_cons (de_var rfl) ea_nil) rc_len) (by rw [List.length_map])) (by rw [List.length_map]; omega)) ?_
    refine se_seq (se_extend (i := 2) (a := q) rfl (de_var rfl) (by rw [List.length_append, List.length_map, List.length_map, List.length_singleton]; dsimp only; omega)) ?_
    refine se_weak (se_asg (de_var rfl)) ?_
    have ef : (o.map pInt ++ [pNat (Kv403Neutral.row (Kv403.act s c).2).length]) ++ (Kv403Neutral.row (Kv403.act s c).2).map pInt = (o ++ out1 s c).map pInt := by
      rw [List.map_append, List.append_assoc]
      rfl
    rw [← ef]
    exact .keep (.keep (.keep (.keep (.drop (.drop .nil)))))
  · show pList ((outs none (cs.take cs.length)).map pInt) = pList ((outs none cs).map pInt)
    rw [List.take_length]
end
end Wp
set_option Elab.async false
set_option linter.all false
set_option maxRecDepth 100000
set_option maxHeartbeats 4000000
namespace Wp
open PySem L2
open Kv403 (Call)
/-! ### the flat list, read -/
theorem call_nums {p : Int} {r t : List Int} {c : List (List Int)} {n : Nat} (hs : PyKv403.shape p = some (n, 0)) (h : PyFlat.call PyKv403.shape (p :: r) = some (c, t)) : n ≤ r.length ∧ c = [p :: r.take n] ∧ t = r.drop n := by
  unfold PyFlat.call at h
  dsimp only at h
  rw [hs] at h
  dsimp only at h
  split at h
  · cases h
  · rename_i hn
    have h' : some ((p :: r.take n) :: [], r.drop n) = some (c, t) := h
    cases h'
    exact ⟨by omega, rfl, rfl⟩
theorem call_row {p : Int} {r t : List Int} {c : List (List Int)} (hs : PyKv403.shape p = some (0, 1)) (h : PyFlat.call PyKv403.shape (p :: r) = some (c, t)) : ∃ m r', r = m :: r' ∧ 0 ≤ m ∧ m.toNat ≤ r'.length ∧ c = [[p], r'.take m.toNat] ∧ t = r'.drop m.toNat := by
  unfold PyFlat.call at h
  dsimp only at h
  rw [hs] at h
  dsimp only at h
  rw [if_neg (by omega)] at h
  cases r with
  | nil => cases h
  | cons m r' =>
    simp only [List.drop_zero, List.take_zero, PyFlat.rows, PyFlat.row] at h
    by_cases c0 : 0 ≤ m ∧ m.toNat ≤ r'.length
    · rw [if_pos c0] at h
      dsimp only at h
      cases h
      exact ⟨m, r', rfl, c0.1, c0.2, rfl, rfl⟩
    · rw [if_neg c0] at h
      cases h
theorem nats_all {l : List Int} (h : l.all (PyInside.within 0 65535) = true) : inl (Kv403Neutral.nats l) = l := by
  unfold inl Kv403Neutral.nats
  rw [List.map_map]
  conv => rhs; rw [← List.map_id l]
  refine List.map_congr_left fun x hx => ?_
  have := List.all_eq_true.mp h x hx
  unfold PyInside.within at this
  rw [Bool.and_eq_true, decide_eq_true_eq, decide_eq_true_eq] at this
  show ((x.toNat : Nat) : Int) = x
  omega
theorem take_1 {r : List Int} (h : 1 ≤ r.length) : ∃ x t, r = x :: t := by
  match r, h with
  | x :: t, _ => exact ⟨x, t, rfl⟩
theorem take_2 {r : List Int} (h : 2 ≤ r.length) : ∃ x y t, r = x :: y :: t := by
  match r, h with
  | x :: y :: t, _ => exact ⟨x, y, t, rfl⟩
theorem take_3 {r : List Int} (h : 3 ≤ r.length) : ∃ x y z t, r = x :: y :: z :: t := by
  match r, h with
  | x :: y :: z :: t, _ => exact ⟨x, y, z, t, rfl⟩
theorem within0 {x : Int} (h : PyInside.within 0 4294967295 x = true) : ((x.toNat : Nat) : Int) = x := by
  unfold PyInside.within at h
  rw [Bool.and_eq_true, decide_eq_true_eq, decide_eq_true_eq] at h
  omega
def Reads1 (c : List (List Int)) (l t : List Int) : Prop := ∃ cc : Call, Kv403Neutral.callOf (PyKv403.whole c) = some cc ∧ l = flatC cc ++ t ∧ (giv cc).length ≤ 1000
theorem one_0 {p : Int} {r t : List Int} {c : List (List Int)} (cc : Call) (hp : p = (num cc : Int)) (hs : PyKv403.shape p = some (0, 0)) (hg : giv cc = []) (hr : isRow cc = false) (hc : Kv403Neutral.callOf (PyKv403.whole [[p]]) = some cc) (h : PyFlat.call PyKv403.shape (p :: r) = some (c, t)) : Reads1 c (p :: r) t := by
  obtain ⟨_, rfl, rfl⟩ := call_nums hs h
  refine ⟨cc, hc, ?_, by rw [hg]; simp⟩
  unfold flatC hdC
  rw [hg, hr, hp]
  rfl
theorem one_1 {p : Int} {r t : List Int} {c : List (List Int)} (cf : Nat → Call) (hp : ∀ x, p = (num (cf x) : Int)) (hs : PyKv403.shape p = some (1, 0)) (hg : ∀ x, giv (cf x) = [x]) (hr : ∀ x, isRow (cf x) = false) (hb : PyKv403.bound p = ([(0, 4294967295)], [])) (hc : ∀ x, Kv403Neutral.callOf (PyKv403.whole [[p, x]]) = some (cf x.toNat)) (h : PyFlat.call PyKv403.shape (p :: r) = some (c, t)) (hi : PyInside.call PyKv403.bound c = true) : Reads1 c (p :: r) t := by
  obtain ⟨h1, rfl, rfl⟩ := call_nums hs h
  obtain ⟨x, t, rfl⟩ := take_1 h1
  have hi' : (PyInside.each (PyKv403.bound p).1 [x] && PyInside.lists (PyKv403.bound p).2 []) = true := hi
  rw [hb] at hi'
  have hx : PyInside.within 0 4294967295 x = true := by
    rw [Bool.and_eq_true] at hi'
    have := hi'.1
    unfold PyInside.each at this
    rw [Bool.and_eq_true] at this
    exact this.1
  refine ⟨cf x.toNat, hc x, ?_, by rw [hg]; simp⟩
  unfold flatC hdC
  rw [hg, hr, ← hp]
  show p :: x :: t = p :: ((x.toNat : Nat) : Int) :: t
  rw [within0 hx]
theorem one_2 {p : Int} {r t : List Int} {c : List (List Int)} (cf : Nat → Nat → Call) (hp : ∀ x y, p = (num (cf x y) : Int)) (hs : PyKv403.shape p = some (2, 0)) (hg : ∀ x y, giv (cf x y) = [x, y]) (hr : ∀ x y, isRow (cf x y) = false) (hb : PyKv403.bound p = ([(0, 4294967295), (0, 4294967295)], [])) (hc : ∀ x y, Kv403Neutral.callOf (PyKv403.whole [[p, x, y]]) = some (cf x.toNat y.toNat)) (h : PyFlat.call PyKv403.shape (p :: r) = some (c, t)) (hi : PyInside.call PyKv403.bound c = true) : Reads1 c (p :: r) t := by
  obtain ⟨h1, rfl, rfl⟩ := call_nums hs h
  obtain ⟨x, y, t, rfl⟩ := take_2 h1
  have hi' : (PyInside.each (PyKv403.bound p).1 [x, y] && PyInside.lists (PyKv403.bound p).2 []) = true := hi
  rw [hb] at hi'
  have hx : PyInside.within 0 4294967295 x = true ∧ PyInside.within 0 4294967295 y = true := by
    rw [Bool.and_eq_true] at hi'
    have := hi'.1
    unfold PyInside.each PyInside.each at this
    rw [Bool.and_eq_true, Bool.and_eq_true] at this
    exact ⟨this.1, this.2.1⟩
  refine ⟨cf x.toNat y.toNat, hc x y, ?_, by rw [hg]; simp⟩
  unfold flatC hdC
  rw [hg, hr, ← hp]
  show p :: x :: y :: t = p :: ((x.toNat : Nat) : Int) :: ((y.toNat : Nat) : Int) :: t
  rw [within0 hx.1, within0 hx.2]
theorem one_3 {p : Int} {r t : List Int} {c : List (List Int)} (cf : Nat → Nat → Nat → Call) (hp : ∀ x y z, p = (num (cf x y z) : Int)) (hs : PyKv403.shape p = some (3, 0)) (hg : ∀ x y z, giv (cf x y z) = [x, y, z]) (hr : ∀ x y z, isRow (cf x y z) = false) (hb : PyKv403.bound p = ([(0, 4294967295), (0, 4294967295), (0, 4294967295)], [])) (hc : ∀ x y z, Kv403Neutral.callOf (PyKv403.whole [[p, x, y, z]]) = some (cf x.toNat y.toNat z.toNat)) (h : PyFlat.call PyKv403.shape (p :: r) = some (c, t)) (hi : PyInside.call PyKv403.bound c = true) : Reads1 c (p :: r) t := by
  obtain ⟨h1, rfl, rfl⟩ := call_nums hs h
  obtain ⟨x, y, z, t, rfl⟩ := take_3 h1
  have hi' : (PyInside.each (PyKv403.bound p).1 [x, y, z] && PyInside.lists (PyKv403.bound p).2 []) = true := hi
  rw [hb] at hi'
  have hx : PyInside.within 0 4294967295 x = true ∧ PyInside.within 0 4294967295 y = true ∧ PyInside.within 0 4294967295 z = true := by
    rw [Bool.and_eq_true] at hi'
    have := hi'.1
    unfold PyInside.each PyInside.each PyInside.each at this
    rw [Bool.and_eq_true, Bool.and_eq_true, Bool.and_eq_true] at this
    exact ⟨this.1, this.2.1, this.2.2.1⟩
  refine ⟨cf x.toNat y.toNat z.toNat, hc x y z, ?_, by rw [hg]; simp⟩
  unfold flatC hdC
  rw [hg, hr, ← hp]
  show p :: x :: y :: z :: t = p :: ((x.toNat : Nat) : Int) :: ((y.toNat : Nat) : Int) :: ((z.toNat : Nat) : Int) :: t
  rw [within0 hx.1, within0 hx.2.1, within0 hx.2.2]
theorem one_row {p : Int} {r t : List Int} {c : List (List Int)} {m : Nat} (cf : List Nat → Call) (hm : m ≤ 1000) (hp : ∀ x, p = (num (cf x) : Int)) (hs : PyKv403.shape p = some (0, 1)) (hg : ∀ x, giv (cf x) = x) (hr : ∀ x, isRow (cf x) = true) (hb : PyKv403.bound p = ([], [(0, 65535, 0, m)])) (hc : ∀ x, Kv403Neutral.callOf (PyKv403.whole [[p], x]) = some (cf (Kv403Neutral.nats x))) (h : PyFlat.call PyKv403.shape (p :: r) = some (c, t)) (hi : PyInside.call PyKv403.bound c = true) : Reads1 c (p :: r) t := by
  obtain ⟨k, r', rfl, k0, k1, rfl, rfl⟩ := call_row hs h
  have hi' : (PyInside.each (PyKv403.bound p).1 [] && PyInside.lists (PyKv403.bound p).2 [r'.take k.toNat]) = true := hi
  rw [hb] at hi'
  have hx : (r'.take k.toNat).length ≤ m ∧ (r'.take k.toNat).all (PyInside.within 0 65535) = true := by
    rw [Bool.and_eq_true] at hi'
    have := hi'.2
    unfold PyInside.lists at this
    rw [Bool.and_eq_true, Bool.and_eq_true, Bool.and_eq_true, decide_eq_true_eq, decide_eq_true_eq] at this
    exact ⟨this.1.1.2, this.1.2⟩
  have hl : (Kv403Neutral.nats (r'.take k.toNat)).length = k.toNat := by
    unfold Kv403Neutral.nats
    rw [List.length_map, List.length_take]
    omega
  have hl2 : (r'.take k.toNat).length = k.toNat := by rw [List.length_take]; omega
  refine ⟨cf (Kv403Neutral.nats (r'.take k.toNat)), hc _, ?_, by rw [hg, hl]; omega⟩
  unfold flatC hdC
  rw [hg, hr, ← hp, nats_all hx.2, hl, if_pos rfl]
  show p :: k :: r' = p :: ((k.toNat : Nat) : Int) :: (r'.take k.toNat ++ r'.drop k.toNat)
  rw [List.take_append_drop, Int.toNat_of_nonneg k0]
theorem one_call {p : Int} {r t : List Int} {c : List (List Int)} (h : PyFlat.call PyKv403.shape (p :: r) = some (c, t)) (hi : PyInside.call PyKv403.bound c = true) : Reads1 c (p :: r) t := by
  have hp : p = 0 ∨ p = 1 ∨ p = 2 ∨ p = 3 ∨ p = 4 ∨ p = 5 ∨ p = 6 ∨ p = 7 ∨ p = 8 ∨ p = 9 ∨ p = 10 ∨ p = 11 ∨ p = 12 ∨ p = 13 ∨ p = 14 ∨ p = 15 ∨ p = 16 ∨ p = 17 ∨ p = 18 ∨ p = 19 ∨ p = 20 := by
    refine Classical.byContradiction fun hn => ?_
    simp only [not_or] at hn
    have hs : PyKv403.shape p = none := by
      unfold PyKv403.shape
      simp [hn]
    unfold PyFlat.call at h
    dsimp only at h
    rw [hs] at h
    cases h
  rcases hp with rfl | rfl | rfl | rfl | rfl | rfl | rfl | rfl | rfl | rfl | rfl | rfl | rfl | rfl | rfl | rfl | rfl | rfl | rfl | rfl | rfl
  · exact one_1 .begin_ (fun _ => rfl) rfl (fun _ => rfl) (fun _ => rfl) rfl (fun _ => rfl) h hi
  · exact one_3 .line (fun _ _ _ => rfl) rfl (fun _ _ _ => rfl) (fun _ _ _ => rfl) rfl (fun _ _ _ => rfl) h hi
  · exact one_1 .cut (fun _ => rfl) rfl (fun _ => rfl) (fun _ => rfl) rfl (fun _ => rfl) h hi
  · exact one_row .order (by decide) (fun _ => rfl) rfl (fun _ => rfl) (fun _ => rfl) rfl (fun _ => rfl) h hi
  · exact one_1 .first (fun _ => rfl) rfl (fun _ => rfl) (fun _ => rfl) rfl (fun _ => rfl) h hi
  · exact one_0 .bestorder rfl rfl rfl rfl rfl h
  · exact one_0 .lines rfl rfl rfl rfl rfl h
  · exact one_0 .orderis rfl rfl rfl rfl rfl h
  · exact one_1 .marks (fun _ => rfl) rfl (fun _ => rfl) (fun _ => rfl) rfl (fun _ => rfl) h hi
  · exact one_0 .size rfl rfl rfl rfl rfl h
  · exact one_2 .told (fun _ _ => rfl) rfl (fun _ _ => rfl) (fun _ _ => rfl) rfl (fun _ _ => rfl) h hi
  · exact one_2 .dist (fun _ _ => rfl) rfl (fun _ _ => rfl) (fun _ _ => rfl) rfl (fun _ _ => rfl) h hi
  · exact one_2 .by_ (fun _ _ => rfl) rfl (fun _ _ => rfl) (fun _ _ => rfl) rfl (fun _ _ => rfl) h hi
  · exact one_1 .who (fun _ => rfl) rfl (fun _ => rfl) (fun _ => rfl) rfl (fun _ => rfl) h hi
  · exact one_2 .without (fun _ _ => rfl) rfl (fun _ _ => rfl) (fun _ _ => rfl) rfl (fun _ _ => rfl) h hi
  · exact one_1 .after (fun _ => rfl) rfl (fun _ => rfl) (fun _ => rfl) rfl (fun _ => rfl) h hi
  · exact one_row .would (by decide) (fun _ => rfl) rfl (fun _ => rfl) (fun _ => rfl) rfl (fun _ => rfl) h hi
  · exact one_0 .fewest rfl rfl rfl rfl rfl h
  · exact one_row .right (by decide) (fun _ => rfl) rfl (fun _ => rfl) (fun _ => rfl) rfl (fun _ => rfl) h hi
  · exact one_0 .back rfl rfl rfl rfl rfl h
  · exact one_0 .state rfl rfl rfl rfl rfl h
theorem told_cons (x : List Int) (r : List (List Int)) : PyFlat.told (x :: r) = ((x.length : Int) :: x) ++ PyFlat.told r := rfl
theorem read_all : ∀ (f : Nat) (l : List Int) (raw : List (List (List Int))), PyFlat.calls PyKv403.shape f l = some raw → PyInside.calls PyKv403.bound raw = true →
    ∃ cs : List Call, l = cs.flatMap flatC ∧ (∀ c ∈ cs, (giv c).length ≤ 1000) ∧ ∀ s, PyFlat.told (PyFlat.played Kv403Neutral.step s (raw.map PyKv403.whole)) = outs s cs
  | f, [], raw, h, _ => by
    have e : raw = [] := by
      cases f <;> exact (Option.some.inj h).symm
    subst e
    exact ⟨[], rfl, fun c hc => (by cases hc), fun s => rfl⟩
  | 0, _ :: _, raw, h, _ => by cases h
  | f + 1, p :: r, raw, h, hi => by
    unfold PyFlat.calls at h
    split at h
    · cases h
    · rename_i c t e
      split at h
      · cases h
      · rename_i cs' e2
        cases h
        have hi' : (PyInside.call PyKv403.bound c && PyInside.calls PyKv403.bound cs') = true := hi
        rw [Bool.and_eq_true] at hi'
        obtain ⟨cc, h1, h2, h3⟩ := one_call e hi'.1
        obtain ⟨cs, k1, k2, k3⟩ := read_all f t cs' e2 hi'.2
        refine ⟨cc :: cs, ?_, fun c hc => ?_, fun s => ?_⟩
        · rw [List.flatMap_cons, ← k1]; exact h2
        · rcases List.mem_cons.mp hc with z | z
          · rw [z]; exact h3
          · exact k2 c z
        · have es : Kv403Neutral.step s (PyKv403.whole c) = ((Kv403.act s cc).1, Kv403Neutral.row (Kv403.act s cc).2) := by
            unfold Kv403Neutral.step
            rw [h1]
          rw [List.map_cons]
          show PyFlat.told ((Kv403Neutral.step s (PyKv403.whole c)).2 :: PyFlat.played Kv403Neutral.step (Kv403Neutral.step s (PyKv403.whole c)).1 (cs'.map PyKv403.whole)) = out1 s cc ++ outs (Kv403.act s cc).1 cs
          rw [told_cons, es, k3]
          rfl
theorem asked_reads {l : List Int} (h : PyKv403.answers_asked l = true) : ∃ cs : List Call, l = cs.flatMap flatC ∧ (∀ c ∈ cs, (giv c).length ≤ 1000) ∧ (outs none cs).length ≤ 10000000 ∧ PyKv403.answers l = outs none cs := by
  unfold PyKv403.answers_asked at h
  split at h
  · cases h
  · rename_i raw e
    rw [Bool.and_eq_true, Bool.and_eq_true, Bool.and_eq_true] at h
    obtain ⟨⟨⟨_, hi⟩, _⟩, hs⟩ := h
    obtain ⟨cs, k1, k2, k3⟩ := read_all _ _ _ e hi
    have ea : PyKv403.answers l = outs none cs := by
      unfold PyKv403.answers PyKv403.calls
      rw [e]
      exact k3 none
    refine ⟨cs, k1, k2, ?_, ea⟩
    unfold PyFlat.short at hs
    rw [ea] at hs
    exact of_decide_eq_true hs
end Wp
set_option Elab.async false
set_option linter.all false
set_option maxRecDepth 100000
set_option maxHeartbeats 4000000
namespace Wp
open PySem PySem.Spec PyProof.Rows L2
theorem use_all {P : Program} {w : World} {K : PySem.W.Frag} {mg : Str → Option Value} {C fa : Addr} (fnd : Found K mg C) (hfa : mg "answers" = some (.ref fa)) :
    ∃ fd : FuncData, (∀ (s : Shared) (us : List Value), us.length = (["calls"] : List Str).length → BindsTo s fd ⟨us, []⟩ ((["calls"] : List Str).zip us)) ∧ ∀ base : Heap, K.In base → base.Ns mainGlobals mg → FnOk P w K mg base CX0 11 fa fd ["calls"] (sp_answers K) := by
  obtain ⟨f0, fd0, F0, m0, _⟩ := fnd.answers
  have e0 := hfa.symm.trans m0
  cases e0
  refine ⟨fd0, fun s us hu => ?_, fun base _ _ => ?_⟩
  · obtain ⟨oc, od, kV, doc, pm, an, cdv, ct, osl, e, _⟩ := F0.ex
    refine .of_eq ?_
    rw [e]
    exact b_answers kV doc pm an cdv ct us hu
  · clear hfa m0
    obtain ⟨f_Posts___init__, fd_Posts___init__, F_Posts___init__, m_Posts___init__, b_Posts___init__⟩ := fnd.Posts___init__
    have h_Posts___init__ : HasC P w K mg base 1 C "Posts" ["self"] (sp_Posts___init__ C) := ⟨⟨f_Posts___init__, fd_Posts___init__, ok_Posts___init__ F_Posts___init__ fnd.T , ⟨fnd.mks, m_Posts___init__.1, m_Posts___init__.2, fnd.kc⟩, fnd.cls, b_Posts___init__⟩⟩
    obtain ⟨f_given_end, fd_given_end, F_given_end, m_given_end, b_given_end⟩ := fnd.given_end
    have h_given_end : Has P w K mg base 1 "given_end" ["calls", "at"] (sp_given_end K) := ⟨⟨f_given_end, fd_given_end, ok_given_end F_given_end fnd.T , m_given_end, F_given_end.kp, b_given_end⟩⟩
    obtain ⟨f_Posts_begin, fd_Posts_begin, F_Posts_begin, m_Posts_begin, b_Posts_begin⟩ := fnd.Posts_begin
    have h_Posts_begin : HasM P w K mg base 1 C "begin" ["self", "n"] (sp_Posts_begin C) := ⟨⟨f_Posts_begin, fd_Posts_begin, ok_Posts_begin F_Posts_begin fnd.T , m_Posts_begin, b_Posts_begin⟩⟩
    obtain ⟨f_Posts_begun, fd_Posts_begun, F_Posts_begun, m_Posts_begun, b_Posts_begun⟩ := fnd.Posts_begun
    have h_Posts_begun : HasM P w K mg base 1 C "begun" ["self"] (sp_Posts_begun C) := ⟨⟨f_Posts_begun, fd_Posts_begun, ok_Posts_begun F_Posts_begun fnd.T , m_Posts_begun, b_Posts_begun⟩⟩
    obtain ⟨f_Posts_has_place, fd_Posts_has_place, F_Posts_has_place, m_Posts_has_place, b_Posts_has_place⟩ := fnd.Posts_has_place
    have h_Posts_has_place : HasM P w K mg base 1 C "has_place" ["self", "place"] (sp_Posts_has_place C) := ⟨⟨f_Posts_has_place, fd_Posts_has_place, ok_Posts_has_place F_Posts_has_place fnd.T , m_Posts_has_place, b_Posts_has_place⟩⟩
    obtain ⟨f_Posts_has_both, fd_Posts_has_both, F_Posts_has_both, m_Posts_has_both, b_Posts_has_both⟩ := fnd.Posts_has_both
    have h_Posts_has_both : HasM P w K mg base 2 C "has_both" ["self", "u", "v"] (sp_Posts_has_both C) := ⟨⟨f_Posts_has_both, fd_Posts_has_both, ok_Posts_has_both F_Posts_has_both fnd.T h_Posts_has_place, m_Posts_has_both, b_Posts_has_both⟩⟩
    obtain ⟨f_lines_but, fd_lines_but, F_lines_but, m_lines_but, b_lines_but⟩ := fnd.lines_but
    have h_lines_but : Has P w K mg base 1 "lines_but" ["lines", "a", "b"] sp_lines_but := ⟨⟨f_lines_but, fd_lines_but, ok_lines_but F_lines_but fnd.T , m_lines_but, F_lines_but.kp, b_lines_but⟩⟩
    obtain ⟨f_how_many, fd_how_many, F_how_many, m_how_many, b_how_many⟩ := fnd.how_many
    have h_how_many : Has P w K mg base 1 "how_many" ["marks"] sp_how_many := ⟨⟨f_how_many, fd_how_many, ok_how_many F_how_many fnd.T , m_how_many, F_how_many.kp, b_how_many⟩⟩
    obtain ⟨f_told_by, fd_told_by, F_told_by, m_told_by, b_told_by⟩ := fnd.told_by
    have h_told_by : Has P w K mg base 1 "told_by" ["ours", "theirs"] sp_told_by := ⟨⟨f_told_by, fd_told_by, ok_told_by F_told_by fnd.T , m_told_by, F_told_by.kp, b_told_by⟩⟩
    obtain ⟨f_marks_behind, fd_marks_behind, F_marks_behind, m_marks_behind, b_marks_behind⟩ := fnd.marks_behind
    have h_marks_behind : Has P w K mg base 2 "marks_behind" ["table", "marks", "place"] sp_marks_behind := ⟨⟨f_marks_behind, fd_marks_behind, ok_marks_behind F_marks_behind fnd.T h_told_by, m_marks_behind, F_marks_behind.kp, b_marks_behind⟩⟩
    obtain ⟨f_marks_by, fd_marks_by, F_marks_by, m_marks_by, b_marks_by⟩ := fnd.marks_by
    have h_marks_by : Has P w K mg base 3 "marks_by" ["table", "order"] sp_marks_by := ⟨⟨f_marks_by, fd_marks_by, ok_marks_by F_marks_by fnd.T h_marks_behind, m_marks_by, F_marks_by.kp, b_marks_by⟩⟩
    obtain ⟨f_line_table, fd_line_table, F_line_table, m_line_table, b_line_table⟩ := fnd.line_table
    have h_line_table : Has P w K mg base 1 "line_table" ["places", "lines"] sp_line_table := ⟨⟨f_line_table, fd_line_table, ok_line_table F_line_table fnd.T , m_line_table, F_line_table.kp, b_line_table⟩⟩
    obtain ⟨f_shorter, fd_shorter, F_shorter, m_shorter, b_shorter⟩ := fnd.shorter
    have h_shorter : Has P w K mg base 1 "shorter" ["known", "one", "other"] sp_shorter := ⟨⟨f_shorter, fd_shorter, ok_shorter F_shorter fnd.T , m_shorter, F_shorter.kp, b_shorter⟩⟩
    obtain ⟨f_through, fd_through, F_through, m_through, b_through⟩ := fnd.through
    have h_through : Has P w K mg base 2 "through" ["table", "middle"] sp_through := ⟨⟨f_through, fd_through, ok_through F_through fnd.T h_shorter, m_through, F_through.kp, b_through⟩⟩
    obtain ⟨f_distance_table, fd_distance_table, F_distance_table, m_distance_table, b_distance_table⟩ := fnd.distance_table
    have h_distance_table : Has P w K mg base 3 "distance_table" ["places", "lines"] sp_distance_table := ⟨⟨f_distance_table, fd_distance_table, ok_distance_table F_distance_table fnd.T h_line_table h_through, m_distance_table, F_distance_table.kp, b_distance_table⟩⟩
    obtain ⟨f_Posts_table, fd_Posts_table, F_Posts_table, m_Posts_table, b_Posts_table⟩ := fnd.Posts_table
    have h_Posts_table : HasM P w K mg base 4 C "table" ["self"] (sp_Posts_table C) := ⟨⟨f_Posts_table, fd_Posts_table, ok_Posts_table F_Posts_table fnd.T h_distance_table, m_Posts_table, b_Posts_table⟩⟩
    obtain ⟨f_Posts_all_marks, fd_Posts_all_marks, F_Posts_all_marks, m_Posts_all_marks, b_Posts_all_marks⟩ := fnd.Posts_all_marks
    have h_Posts_all_marks : HasM P w K mg base 5 C "all_marks" ["self"] (sp_Posts_all_marks C) := ⟨⟨f_Posts_all_marks, fd_Posts_all_marks, ok_Posts_all_marks F_Posts_all_marks fnd.T h_marks_by h_Posts_table, m_Posts_all_marks, b_Posts_all_marks⟩⟩
    obtain ⟨f_Posts_size, fd_Posts_size, F_Posts_size, m_Posts_size, b_Posts_size⟩ := fnd.Posts_size
    have h_Posts_size : HasM P w K mg base 6 C "size" ["self"] (sp_Posts_size C) := ⟨⟨f_Posts_size, fd_Posts_size, ok_Posts_size F_Posts_size fnd.T h_how_many h_Posts_all_marks, m_Posts_size, b_Posts_size⟩⟩
    obtain ⟨f_Posts_change, fd_Posts_change, F_Posts_change, m_Posts_change, b_Posts_change⟩ := fnd.Posts_change
    have h_Posts_change : HasM P w K mg base 7 C "change" ["self", "lines", "order"] (sp_Posts_change C) := ⟨⟨f_Posts_change, fd_Posts_change, ok_Posts_change F_Posts_change fnd.T h_Posts_size, m_Posts_change, b_Posts_change⟩⟩
    obtain ⟨f_with_line, fd_with_line, F_with_line, m_with_line, b_with_line⟩ := fnd.with_line
    have h_with_line : Has P w K mg base 2 "with_line" ["lines", "a", "b", "w"] sp_with_line := ⟨⟨f_with_line, fd_with_line, ok_with_line F_with_line fnd.T h_lines_but, m_with_line, F_with_line.kp, b_with_line⟩⟩
    obtain ⟨f_Posts_line, fd_Posts_line, F_Posts_line, m_Posts_line, b_Posts_line⟩ := fnd.Posts_line
    have h_Posts_line : HasM P w K mg base 8 C "line" ["self", "a", "b", "w"] (sp_Posts_line C) := ⟨⟨f_Posts_line, fd_Posts_line, ok_Posts_line F_Posts_line fnd.T h_Posts_has_both h_lines_but h_Posts_change h_with_line, m_Posts_line, b_Posts_line⟩⟩
    obtain ⟨f_Posts_cut, fd_Posts_cut, F_Posts_cut, m_Posts_cut, b_Posts_cut⟩ := fnd.Posts_cut
    have h_Posts_cut : HasM P w K mg base 8 C "cut" ["self", "i"] (sp_Posts_cut C) := ⟨⟨f_Posts_cut, fd_Posts_cut, ok_Posts_cut F_Posts_cut fnd.T h_Posts_change, m_Posts_cut, b_Posts_cut⟩⟩
    obtain ⟨f_Posts_is_order, fd_Posts_is_order, F_Posts_is_order, m_Posts_is_order, b_Posts_is_order⟩ := fnd.Posts_is_order
    have h_Posts_is_order : HasM P w K mg base 1 C "is_order" ["self", "row"] (sp_Posts_is_order C) := ⟨⟨f_Posts_is_order, fd_Posts_is_order, ok_Posts_is_order F_Posts_is_order fnd.T , m_Posts_is_order, b_Posts_is_order⟩⟩
    obtain ⟨f_Posts_take_order, fd_Posts_take_order, F_Posts_take_order, m_Posts_take_order, b_Posts_take_order⟩ := fnd.Posts_take_order
    have h_Posts_take_order : HasM P w K mg base 8 C "take_order" ["self", "row"] (sp_Posts_take_order C) := ⟨⟨f_Posts_take_order, fd_Posts_take_order, ok_Posts_take_order F_Posts_take_order fnd.T h_Posts_is_order h_Posts_change, m_Posts_take_order, b_Posts_take_order⟩⟩
    obtain ⟨f_Posts_put_first, fd_Posts_put_first, F_Posts_put_first, m_Posts_put_first, b_Posts_put_first⟩ := fnd.Posts_put_first
    have h_Posts_put_first : HasM P w K mg base 8 C "put_first" ["self", "v"] (sp_Posts_put_first C) := ⟨⟨f_Posts_put_first, fd_Posts_put_first, ok_Posts_put_first F_Posts_put_first fnd.T h_Posts_has_place h_Posts_change, m_Posts_put_first, b_Posts_put_first⟩⟩
    obtain ⟨f_one_longer, fd_one_longer, F_one_longer, m_one_longer, b_one_longer⟩ := fnd.one_longer
    have h_one_longer : Has P w K mg base 1 "one_longer" ["rows", "places"] sp_one_longer := ⟨⟨f_one_longer, fd_one_longer, ok_one_longer F_one_longer fnd.T , m_one_longer, F_one_longer.kp, b_one_longer⟩⟩
    obtain ⟨f_all_orders, fd_all_orders, F_all_orders, m_all_orders, b_all_orders⟩ := fnd.all_orders
    have h_all_orders : Has P w K mg base 2 "all_orders" ["places"] sp_all_orders := ⟨⟨f_all_orders, fd_all_orders, ok_all_orders F_all_orders fnd.T h_one_longer, m_all_orders, F_all_orders.kp, b_all_orders⟩⟩
    obtain ⟨f_best_order, fd_best_order, F_best_order, m_best_order, b_best_order⟩ := fnd.best_order
    have h_best_order : Has P w K mg base 4 "best_order" ["table"] sp_best_order := ⟨⟨f_best_order, fd_best_order, ok_best_order F_best_order fnd.T h_all_orders h_how_many h_marks_by, m_best_order, F_best_order.kp, b_best_order⟩⟩
    obtain ⟨f_Posts_take_best, fd_Posts_take_best, F_Posts_take_best, m_Posts_take_best, b_Posts_take_best⟩ := fnd.Posts_take_best
    have h_Posts_take_best : HasM P w K mg base 8 C "take_best" ["self"] (sp_Posts_take_best C) := ⟨⟨f_Posts_take_best, fd_Posts_take_best, ok_Posts_take_best F_Posts_take_best fnd.T h_Posts_change h_best_order h_Posts_table, m_Posts_take_best, b_Posts_take_best⟩⟩
    obtain ⟨f_change, fd_change, F_change, m_change, b_change⟩ := fnd.change
    have h_change : Has P w K mg base 9 "change" ["posts", "number", "given"] (sp_change C) := ⟨⟨f_change, fd_change, ok_change F_change fnd.T h_Posts_line h_Posts_cut h_Posts_take_order h_Posts_put_first h_Posts_take_best, m_change, F_change.kp, b_change⟩⟩
    obtain ⟨f_Posts_show_lines, fd_Posts_show_lines, F_Posts_show_lines, m_Posts_show_lines, b_Posts_show_lines⟩ := fnd.Posts_show_lines
    have h_Posts_show_lines : HasM P w K mg base 1 C "show_lines" ["self"] (sp_Posts_show_lines C) := ⟨⟨f_Posts_show_lines, fd_Posts_show_lines, ok_Posts_show_lines F_Posts_show_lines fnd.T , m_Posts_show_lines, b_Posts_show_lines⟩⟩
    obtain ⟨f_Posts_show_order, fd_Posts_show_order, F_Posts_show_order, m_Posts_show_order, b_Posts_show_order⟩ := fnd.Posts_show_order
    have h_Posts_show_order : HasM P w K mg base 1 C "show_order" ["self"] (sp_Posts_show_order C) := ⟨⟨f_Posts_show_order, fd_Posts_show_order, ok_Posts_show_order F_Posts_show_order fnd.T , m_Posts_show_order, b_Posts_show_order⟩⟩
    obtain ⟨f_Posts_show_marks, fd_Posts_show_marks, F_Posts_show_marks, m_Posts_show_marks, b_Posts_show_marks⟩ := fnd.Posts_show_marks
    have h_Posts_show_marks : HasM P w K mg base 6 C "show_marks" ["self", "v"] (sp_Posts_show_marks C) := ⟨⟨f_Posts_show_marks, fd_Posts_show_marks, ok_Posts_show_marks F_Posts_show_marks fnd.T h_Posts_has_place h_Posts_all_marks, m_Posts_show_marks, b_Posts_show_marks⟩⟩
    obtain ⟨f_or_none, fd_or_none, F_or_none, m_or_none, b_or_none⟩ := fnd.or_none
    have h_or_none : Has P w K mg base 1 "or_none" ["number"] sp_or_none := ⟨⟨f_or_none, fd_or_none, ok_or_none F_or_none fnd.T , m_or_none, F_or_none.kp, b_or_none⟩⟩
    obtain ⟨f_Posts_told, fd_Posts_told, F_Posts_told, m_Posts_told, b_Posts_told⟩ := fnd.Posts_told
    have h_Posts_told : HasM P w K mg base 6 C "told" ["self", "u", "v"] (sp_Posts_told C) := ⟨⟨f_Posts_told, fd_Posts_told, ok_Posts_told F_Posts_told fnd.T h_Posts_has_both h_Posts_all_marks h_or_none h_told_by, m_Posts_told, b_Posts_told⟩⟩
    obtain ⟨f_Posts_dist, fd_Posts_dist, F_Posts_dist, m_Posts_dist, b_Posts_dist⟩ := fnd.Posts_dist
    have h_Posts_dist : HasM P w K mg base 5 C "dist" ["self", "u", "v"] (sp_Posts_dist C) := ⟨⟨f_Posts_dist, fd_Posts_dist, ok_Posts_dist F_Posts_dist fnd.T h_Posts_has_both h_or_none h_Posts_table, m_Posts_dist, b_Posts_dist⟩⟩
    obtain ⟨f_told_through, fd_told_through, F_told_through, m_told_through, b_told_through⟩ := fnd.told_through
    have h_told_through : Has P w K mg base 2 "told_through" ["ours", "theirs"] sp_told_through := ⟨⟨f_told_through, fd_told_through, ok_told_through F_told_through fnd.T h_told_by, m_told_through, F_told_through.kp, b_told_through⟩⟩
    obtain ⟨f_Posts_by, fd_Posts_by, F_Posts_by, m_Posts_by, b_Posts_by⟩ := fnd.Posts_by
    have h_Posts_by : HasM P w K mg base 6 C "by" ["self", "u", "v"] (sp_Posts_by C) := ⟨⟨f_Posts_by, fd_Posts_by, ok_Posts_by F_Posts_by fnd.T h_Posts_has_both h_Posts_all_marks h_or_none h_told_through, m_Posts_by, b_Posts_by⟩⟩
    obtain ⟨f_has_mark, fd_has_mark, F_has_mark, m_has_mark, b_has_mark⟩ := fnd.has_mark
    have h_has_mark : Has P w K mg base 1 "has_mark" ["had", "place"] sp_has_mark := ⟨⟨f_has_mark, fd_has_mark, ok_has_mark F_has_mark fnd.T , m_has_mark, F_has_mark.kp, b_has_mark⟩⟩
    obtain ⟨f_Posts_who, fd_Posts_who, F_Posts_who, m_Posts_who, b_Posts_who⟩ := fnd.Posts_who
    have h_Posts_who : HasM P w K mg base 6 C "who" ["self", "h"] (sp_Posts_who C) := ⟨⟨f_Posts_who, fd_Posts_who, ok_Posts_who F_Posts_who fnd.T h_Posts_has_place h_Posts_all_marks h_has_mark, m_Posts_who, b_Posts_who⟩⟩
    obtain ⟨f_look, fd_look, F_look, m_look, b_look⟩ := fnd.look
    have h_look : Has P w K mg base 7 "look" ["posts", "number", "given"] (sp_look C) := ⟨⟨f_look, fd_look, ok_look F_look fnd.T h_Posts_show_lines h_Posts_show_order h_Posts_show_marks h_Posts_size h_Posts_told h_Posts_dist h_Posts_by h_Posts_who, m_look, F_look.kp, b_look⟩⟩
    obtain ⟨f_all_right, fd_all_right, F_all_right, m_all_right, b_all_right⟩ := fnd.all_right
    have h_all_right : Has P w K mg base 2 "all_right" ["table", "marks"] sp_all_right := ⟨⟨f_all_right, fd_all_right, ok_all_right F_all_right fnd.T h_told_by, m_all_right, F_all_right.kp, b_all_right⟩⟩
    obtain ⟨f_Posts_tells_all, fd_Posts_tells_all, F_Posts_tells_all, m_Posts_tells_all, b_Posts_tells_all⟩ := fnd.Posts_tells_all
    have h_Posts_tells_all : HasM P w K mg base 5 C "tells_all" ["self", "marks"] (sp_Posts_tells_all C) := ⟨⟨f_Posts_tells_all, fd_Posts_tells_all, ok_Posts_tells_all F_Posts_tells_all fnd.T h_all_right h_Posts_table, m_Posts_tells_all, b_Posts_tells_all⟩⟩
    obtain ⟨f_without_mark, fd_without_mark, F_without_mark, m_without_mark, b_without_mark⟩ := fnd.without_mark
    have h_without_mark : Has P w K mg base 1 "without_mark" ["marks", "place", "number"] sp_without_mark := ⟨⟨f_without_mark, fd_without_mark, ok_without_mark F_without_mark fnd.T , m_without_mark, F_without_mark.kp, b_without_mark⟩⟩
    obtain ⟨f_Posts_without, fd_Posts_without, F_Posts_without, m_Posts_without, b_Posts_without⟩ := fnd.Posts_without
    have h_Posts_without : HasM P w K mg base 6 C "without" ["self", "v", "i"] (sp_Posts_without C) := ⟨⟨f_Posts_without, fd_Posts_without, ok_Posts_without F_Posts_without fnd.T h_Posts_has_place h_Posts_all_marks h_Posts_tells_all h_without_mark, m_Posts_without, b_Posts_without⟩⟩
    obtain ⟨f_right_pairs, fd_right_pairs, F_right_pairs, m_right_pairs, b_right_pairs⟩ := fnd.right_pairs
    have h_right_pairs : Has P w K mg base 2 "right_pairs" ["table", "marks"] sp_right_pairs := ⟨⟨f_right_pairs, fd_right_pairs, ok_right_pairs F_right_pairs fnd.T h_told_by, m_right_pairs, F_right_pairs.kp, b_right_pairs⟩⟩
    obtain ⟨f_Posts_after, fd_Posts_after, F_Posts_after, m_Posts_after, b_Posts_after⟩ := fnd.Posts_after
    have h_Posts_after : HasM P w K mg base 5 C "after" ["self", "k"] (sp_Posts_after C) := ⟨⟨f_Posts_after, fd_Posts_after, ok_Posts_after F_Posts_after fnd.T h_Posts_table h_marks_by h_right_pairs h_how_many, m_Posts_after, b_Posts_after⟩⟩
    obtain ⟨f_Posts_would, fd_Posts_would, F_Posts_would, m_Posts_would, b_Posts_would⟩ := fnd.Posts_would
    have h_Posts_would : HasM P w K mg base 5 C "would" ["self", "row"] (sp_Posts_would C) := ⟨⟨f_Posts_would, fd_Posts_would, ok_Posts_would F_Posts_would fnd.T h_Posts_is_order h_how_many h_marks_by h_Posts_table, m_Posts_would, b_Posts_would⟩⟩
    obtain ⟨f_Posts_fewest, fd_Posts_fewest, F_Posts_fewest, m_Posts_fewest, b_Posts_fewest⟩ := fnd.Posts_fewest
    have h_Posts_fewest : HasM P w K mg base 6 C "fewest" ["self"] (sp_Posts_fewest C) := ⟨⟨f_Posts_fewest, fd_Posts_fewest, ok_Posts_fewest F_Posts_fewest fnd.T h_best_order h_Posts_table h_Posts_would, m_Posts_fewest, b_Posts_fewest⟩⟩
    obtain ⟨f_marks_in, fd_marks_in, F_marks_in, m_marks_in, b_marks_in⟩ := fnd.marks_in
    have h_marks_in : Has P w K mg base 1 "marks_in" ["row", "places"] sp_marks_in := ⟨⟨f_marks_in, fd_marks_in, ok_marks_in F_marks_in fnd.T , m_marks_in, F_marks_in.kp, b_marks_in⟩⟩
    obtain ⟨f_Posts_right, fd_Posts_right, F_Posts_right, m_Posts_right, b_Posts_right⟩ := fnd.Posts_right
    have h_Posts_right : HasM P w K mg base 6 C "right" ["self", "row"] (sp_Posts_right C) := ⟨⟨f_Posts_right, fd_Posts_right, ok_Posts_right F_Posts_right fnd.T h_marks_in h_Posts_tells_all, m_Posts_right, b_Posts_right⟩⟩
    obtain ⟨f_weigh, fd_weigh, F_weigh, m_weigh, b_weigh⟩ := fnd.weigh
    have h_weigh : Has P w K mg base 7 "weigh" ["posts", "number", "given"] (sp_weigh C) := ⟨⟨f_weigh, fd_weigh, ok_weigh F_weigh fnd.T h_Posts_without h_Posts_after h_Posts_would h_Posts_fewest h_Posts_right, m_weigh, F_weigh.kp, b_weigh⟩⟩
    obtain ⟨f_Posts_back, fd_Posts_back, F_Posts_back, m_Posts_back, b_Posts_back⟩ := fnd.Posts_back
    have h_Posts_back : HasM P w K mg base 1 C "back" ["self"] (sp_Posts_back C) := ⟨⟨f_Posts_back, fd_Posts_back, ok_Posts_back F_Posts_back fnd.T , m_Posts_back, b_Posts_back⟩⟩
    obtain ⟨f_Posts_state, fd_Posts_state, F_Posts_state, m_Posts_state, b_Posts_state⟩ := fnd.Posts_state
    have h_Posts_state : HasM P w K mg base 1 C "state" ["self"] (sp_Posts_state C) := ⟨⟨f_Posts_state, fd_Posts_state, ok_Posts_state F_Posts_state fnd.T , m_Posts_state, b_Posts_state⟩⟩
    obtain ⟨f_answer, fd_answer, F_answer, m_answer, b_answer⟩ := fnd.answer
    have h_answer : Has P w K mg base 10 "answer" ["posts", "number", "given"] (sp_answer C) := ⟨⟨f_answer, fd_answer, ok_answer F_answer fnd.T h_Posts_begin h_Posts_begun h_change h_look h_weigh h_Posts_back h_Posts_state, m_answer, F_answer.kp, b_answer⟩⟩
    obtain ⟨f_given_start, fd_given_start, F_given_start, m_given_start, b_given_start⟩ := fnd.given_start
    have h_given_start : Has P w K mg base 1 "given_start" ["calls", "at"] (sp_given_start K) := ⟨⟨f_given_start, fd_given_start, ok_given_start F_given_start fnd.T , m_given_start, F_given_start.kp, b_given_start⟩⟩
    obtain ⟨f_answers, fd_answers, F_answers, m_answers, b_answers⟩ := fnd.answers
    have h_answers : Has P w K mg base 11 "answers" ["calls"] (sp_answers K) := ⟨⟨f_answers, fd_answers, ok_answers F_answers fnd.T h_Posts___init__ h_given_end h_answer h_given_start, m_answers, F_answers.kp, b_answers⟩⟩
    exact ok_answers F0 fnd.T h_Posts___init__ h_given_end h_answer h_given_start
end Wp
set_option Elab.async false
set_option maxRecDepth 100000
open PySem PySem.W PyProof.Rows
set_option maxHeartbeats 8000000 in
theorem PySem.Challenge.cw_wayposts_s01_answers_holds : PySem.Challenge.rw_wayposts_s01_answers.Holds := by
  w_on; k_headS; (case hw => exact ⟨[.list [.int 0, .int 1]], by decide +kernel, by decide +kernel⟩)
  k_fillS
  refine L2.walk_specK (r := PySem.Challenge.rw_wayposts_s01_answers) (k := 11) (CX := L2.CX0) (ps := ["calls"]) (sp := Wp.sp_answers) (by decide +kernel) rfl rfl ⟨rfl, by decide, by decide⟩ (fun w h Y => PySem.W.kIn_of Y) ?F ?S (fun _ _ _ _ z => z)
  case F =>
    intro w mg fa h Y KX G hmg
    refine Wp.exF (mg := mg) KX (fun C fnd => ?use) ?fnd
    case fnd =>
      refine' ⟨?C, ⟨⟨?pg, ?hd, ?po, ?sa⟩, Wp.gi_at KX G ?g_NOTHING, Wp.gi_at KX G ?g_NO_SUCH, Wp.gi_at KX G ?g_NO_CHANGE, Wp.gi_at KX G ?g_OUT_OF_RANGE, Wp.gi_at KX G ?g_TOO_MANY, Wp.gi_at KX G ?g_THERE_IS_NONE, Wp.gi_at KX G ?g_MOST_PLACES, Wp.gi_at KX G ?g_MOST_LINES, Wp.gi_at KX G ?g_MOST_LENGTH, Wp.gi_at KX G ?g_MOST_TRIED, Wp.gi_at KX G ?g_MOST_TAKEN_BACK, Wp.gi_at KX G ?g_NOT_BEGUN, Wp.gi_at KX G ?g_BEGIN, Wp.gi_at KX G ?g_LINE, Wp.gi_at KX G ?g_CUT, Wp.gi_at KX G ?g_ORDER, Wp.gi_at KX G ?g_FIRST, Wp.gi_at KX G ?g_BESTORDER, Wp.gi_at KX G ?g_LINES, Wp.gi_at KX G ?g_ORDERIS, Wp.gi_at KX G ?g_MARKS, Wp.gi_at KX G ?g_SIZE, Wp.gi_at KX G ?g_TOLD, Wp.gi_at KX G ?g_DIST, Wp.gi_at KX G ?g_BY, Wp.gi_at KX G ?g_WHO, Wp.gi_at KX G ?g_WITHOUT, Wp.gi_at KX G ?g_AFTER, Wp.gi_at KX G ?g_WOULD, Wp.gi_at KX G ?g_FEWEST, Wp.gi_at KX G ?g_RIGHT, Wp.gi_at KX G ?g_BACK, PySem.W.mg_none_of KX G ?z_enumerate, PySem.W.mg_none_of KX G ?z_len, PySem.W.mg_none_of KX G ?z_list, PySem.W.mg_none_of KX G ?z_max, PySem.W.mg_none_of KX G ?z_min, PySem.W.mg_none_of KX G ?z_range, PySem.W.mg_none_of KX G ?z_sorted, PySem.W.mg_none_of KX G ?z_sum, PySem.W.mg_none_of KX G ?z_zip, Wp.gt_at KX G ?t_NUMBERS ?tl_NUMBERS ?tc_NUMBERS ?td_NUMBERS ?ts_NUMBERS ?tv_NUMBERS, Wp.gt_at KX G ?t_WITH_ROW ?tl_WITH_ROW ?tc_WITH_ROW ?td_WITH_ROW ?ts_WITH_ROW ?tv_WITH_ROW, ?n_lines, ?n_order, ?n_past, ?n_places⟩, PySem.W.mg_of KX G ?aC, ?mk, ?kc, Wp.fn_at KX G Wp.b_lines_but ?a_lines_but ?l_lines_but ?c_lines_but ?k_lines_but, Wp.fn_at KX G Wp.b_with_line ?a_with_line ?l_with_line ?c_with_line ?k_with_line, Wp.fn_at KX G Wp.b_shorter ?a_shorter ?l_shorter ?c_shorter ?k_shorter, Wp.fn_at KX G Wp.b_line_table ?a_line_table ?l_line_table ?c_line_table ?k_line_table, Wp.fn_at KX G Wp.b_through ?a_through ?l_through ?c_through ?k_through, Wp.fn_at KX G Wp.b_distance_table ?a_distance_table ?l_distance_table ?c_distance_table ?k_distance_table, Wp.fn_at KX G Wp.b_told_by ?a_told_by ?l_told_by ?c_told_by ?k_told_by, Wp.fn_at KX G Wp.b_told_through ?a_told_through ?l_told_through ?c_told_through ?k_told_through, Wp.fn_at KX G Wp.b_marks_behind ?a_marks_behind ?l_marks_behind ?c_marks_behind ?k_marks_behind, Wp.fn_at KX G Wp.b_marks_by ?a_marks_by ?l_marks_by ?c_marks_by ?k_marks_by, Wp.fn_at KX G Wp.b_how_many ?a_how_many ?l_how_many ?c_how_many ?k_how_many, Wp.fn_at KX G Wp.b_has_mark ?a_has_mark ?l_has_mark ?c_has_mark ?k_has_mark, Wp.fn_at KX G Wp.b_without_mark ?a_without_mark ?l_without_mark ?c_without_mark ?k_without_mark, Wp.fn_at KX G Wp.b_one_longer ?a_one_longer ?l_one_longer ?c_one_longer ?k_one_longer, Wp.fn_at KX G Wp.b_all_orders ?a_all_orders ?l_all_orders ?c_all_orders ?k_all_orders, Wp.fn_at KX G Wp.b_best_order ?a_best_order ?l_best_order ?c_best_order ?k_best_order, Wp.fn_at KX G Wp.b_marks_in ?a_marks_in ?l_marks_in ?c_marks_in ?k_marks_in, Wp.fn_at KX G Wp.b_all_right ?a_all_right ?l_all_right ?c_all_right ?k_all_right, Wp.fn_at KX G Wp.b_right_pairs ?a_right_pairs ?l_right_pairs ?c_right_pairs ?k_right_pairs, Wp.fn_at KX G Wp.b_or_none ?a_or_none ?l_or_none ?c_or_none ?k_or_none, Wp.mt_at Wp.b_Posts___init__ ?a_Posts___init__ ?i_Posts___init__ ?l_Posts___init__ ?c_Posts___init__ ?k_Posts___init__, Wp.mt_at Wp.b_Posts_begun ?a_Posts_begun ?i_Posts_begun ?l_Posts_begun ?c_Posts_begun ?k_Posts_begun, Wp.mt_at Wp.b_Posts_has_place ?a_Posts_has_place ?i_Posts_has_place ?l_Posts_has_place ?c_Posts_has_place ?k_Posts_has_place, Wp.mt_at Wp.b_Posts_has_both ?a_Posts_has_both ?i_Posts_has_both ?l_Posts_has_both ?c_Posts_has_both ?k_Posts_has_both, Wp.mt_at Wp.b_Posts_is_order ?a_Posts_is_order ?i_Posts_is_order ?l_Posts_is_order ?c_Posts_is_order ?k_Posts_is_order, Wp.mt_at Wp.b_Posts_table ?a_Posts_table ?i_Posts_table ?l_Posts_table ?c_Posts_table ?k_Posts_table, Wp.mt_at Wp.b_Posts_all_marks ?a_Posts_all_marks ?i_Posts_all_marks ?l_Posts_all_marks ?c_Posts_all_marks ?k_Posts_all_marks, Wp.mt_at Wp.b_Posts_tells_all ?a_Posts_tells_all ?i_Posts_tells_all ?l_Posts_tells_all ?c_Posts_tells_all ?k_Posts_tells_all, Wp.mt_at Wp.b_Posts_change ?a_Posts_change ?i_Posts_change ?l_Posts_change ?c_Posts_change ?k_Posts_change, Wp.mt_at Wp.b_Posts_begin ?a_Posts_begin ?i_Posts_begin ?l_Posts_begin ?c_Posts_begin ?k_Posts_begin, Wp.mt_at Wp.b_Posts_back ?a_Posts_back ?i_Posts_back ?l_Posts_back ?c_Posts_back ?k_Posts_back, Wp.mt_at Wp.b_Posts_state ?a_Posts_state ?i_Posts_state ?l_Posts_state ?c_Posts_state ?k_Posts_state, Wp.mt_at Wp.b_Posts_line ?a_Posts_line ?i_Posts_line ?l_Posts_line ?c_Posts_line ?k_Posts_line, Wp.mt_at Wp.b_Posts_cut ?a_Posts_cut ?i_Posts_cut ?l_Posts_cut ?c_Posts_cut ?k_Posts_cut, Wp.mt_at Wp.b_Posts_take_order ?a_Posts_take_order ?i_Posts_take_order ?l_Posts_take_order ?c_Posts_take_order ?k_Posts_take_order, Wp.mt_at Wp.b_Posts_put_first ?a_Posts_put_first ?i_Posts_put_first ?l_Posts_put_first ?c_Posts_put_first ?k_Posts_put_first, Wp.mt_at Wp.b_Posts_take_best ?a_Posts_take_best ?i_Posts_take_best ?l_Posts_take_best ?c_Posts_take_best ?k_Posts_take_best, Wp.mt_at Wp.b_Posts_show_lines ?a_Posts_show_lines ?i_Posts_show_lines ?l_Posts_show_lines ?c_Posts_show_lines ?k_Posts_show_lines, Wp.mt_at Wp.b_Posts_show_order ?a_Posts_show_order ?i_Posts_show_order ?l_Posts_show_order ?c_Posts_show_order ?k_Posts_show_order, Wp.mt_at Wp.b_Posts_show_marks ?a_Posts_show_marks ?i_Posts_show_marks ?l_Posts_show_marks ?c_Posts_show_marks ?k_Posts_show_marks, Wp.mt_at Wp.b_Posts_size ?a_Posts_size ?i_Posts_size ?l_Posts_size ?c_Posts_size ?k_Posts_size, Wp.mt_at Wp.b_Posts_told ?a_Posts_told ?i_Posts_told ?l_Posts_told ?c_Posts_told ?k_Posts_told, Wp.mt_at Wp.b_Posts_dist ?a_Posts_dist ?i_Posts_dist ?l_Posts_dist ?c_Posts_dist ?k_Posts_dist, Wp.mt_at Wp.b_Posts_by ?a_Posts_by ?i_Posts_by ?l_Posts_by ?c_Posts_by ?k_Posts_by, Wp.mt_at Wp.b_Posts_who ?a_Posts_who ?i_Posts_who ?l_Posts_who ?c_Posts_who ?k_Posts_who, Wp.mt_at Wp.b_Posts_without ?a_Posts_without ?i_Posts_without ?l_Posts_without ?c_Posts_without ?k_Posts_without, Wp.mt_at Wp.b_Posts_after ?a_Posts_after ?i_Posts_after ?l_Posts_after ?c_Posts_after ?k_Posts_after, Wp.mt_at Wp.b_Posts_would ?a_Posts_would ?i_Posts_would ?l_Posts_would ?c_Posts_would ?k_Posts_would, Wp.mt_at Wp.b_Posts_fewest ?a_Posts_fewest ?i_Posts_fewest ?l_Posts_fewest ?c_Posts_fewest ?k_Posts_fewest, Wp.mt_at Wp.b_Posts_right ?a_Posts_right ?i_Posts_right ?l_Posts_right ?c_Posts_right ?k_Posts_right, Wp.fn_at KX G Wp.b_given_start ?a_given_start ?l_given_start ?c_given_start ?k_given_start, Wp.fn_at KX G Wp.b_given_end ?a_given_end ?l_given_end ?c_given_end ?k_given_end, Wp.fn_at KX G Wp.b_change ?a_change ?l_change ?c_change ?k_change, Wp.fn_at KX G Wp.b_look ?a_look ?l_look ?c_look ?k_look, Wp.fn_at KX G Wp.b_weigh ?a_weigh ?l_weigh ?c_weigh ?k_weigh, Wp.fn_at KX G Wp.b_answer ?a_answer ?l_answer ?c_answer ?k_answer, Wp.fn_at KX G Wp.b_answers ?a_answers ?l_answers ?c_answers ?k_answers⟩
      (case aC => k_is); (case pg => k_is); (case hd => k_is); (case po => k_is); (case sa => k_is); (case mk => k_is); (case kc => k_is)
      (case g_NOTHING => k_is)
      (case g_NO_SUCH => k_is)
      (case g_NO_CHANGE => k_is)
      (case g_OUT_OF_RANGE => k_is)
      (case g_TOO_MANY => k_is)
      (case g_THERE_IS_NONE => k_is)
      (case g_MOST_PLACES => k_is)
      (case g_MOST_LINES => k_is)
      (case g_MOST_LENGTH => k_is)
      (case g_MOST_TRIED => k_is)
      (case g_MOST_TAKEN_BACK => k_is)
      (case g_NOT_BEGUN => k_is)
      (case g_BEGIN => k_is)
      (case g_LINE => k_is)
      (case g_CUT => k_is)
      (case g_ORDER => k_is)
      (case g_FIRST => k_is)
      (case g_BESTORDER => k_is)
      (case g_LINES => k_is)
      (case g_ORDERIS => k_is)
      (case g_MARKS => k_is)
      (case g_SIZE => k_is)
      (case g_TOLD => k_is)
      (case g_DIST => k_is)
      (case g_BY => k_is)
      (case g_WHO => k_is)
      (case g_WITHOUT => k_is)
      (case g_AFTER => k_is)
      (case g_WOULD => k_is)
      (case g_FEWEST => k_is)
      (case g_RIGHT => k_is)
      (case g_BACK => k_is)
      (case z_enumerate => k_is)
      (case z_len => k_is)
      (case z_list => k_is)
      (case z_max => k_is)
      (case z_min => k_is)
      (case z_range => k_is)
      (case z_sorted => k_is)
      (case z_sum => k_is)
      (case z_zip => k_is)
      (case t_NUMBERS => k_is); (case tl_NUMBERS => k_is); (case tc_NUMBERS => rfl); (case td_NUMBERS => rfl); (case ts_NUMBERS => decide); (case tv_NUMBERS => rfl)
      (case t_WITH_ROW => k_is); (case tl_WITH_ROW => k_is); (case tc_WITH_ROW => rfl); (case td_WITH_ROW => rfl); (case ts_WITH_ROW => decide); (case tv_WITH_ROW => rfl)
      (case n_lines => (show PySem.W.findIn _ _ _ = _; k_is))
      (case n_order => (show PySem.W.findIn _ _ _ = _; k_is))
      (case n_past => (show PySem.W.findIn _ _ _ = _; k_is))
      (case n_places => (show PySem.W.findIn _ _ _ = _; k_is))
      (case a_lines_but => k_is); (case l_lines_but => k_is); (case c_lines_but => k_is); (case k_lines_but => k_is)
      (case a_with_line => k_is); (case l_with_line => k_is); (case c_with_line => k_is); (case k_with_line => k_is)
      (case a_shorter => k_is); (case l_shorter => k_is); (case c_shorter => k_is); (case k_shorter => k_is)
      (case a_line_table => k_is); (case l_line_table => k_is); (case c_line_table => k_is); (case k_line_table => k_is)
      (case a_through => k_is); (case l_through => k_is); (case c_through => k_is); (case k_through => k_is)
      (case a_distance_table => k_is); (case l_distance_table => k_is); (case c_distance_table => k_is); (case k_distance_table => k_is)
      (case a_told_by => k_is); (case l_told_by => k_is); (case c_told_by => k_is); (case k_told_by => k_is)
      (case a_told_through => k_is); (case l_told_through => k_is); (case c_told_through => k_is); (case k_told_through => k_is)
      (case a_marks_behind => k_is); (case l_marks_behind => k_is); (case c_marks_behind => k_is); (case k_marks_behind => k_is)
      (case a_marks_by => k_is); (case l_marks_by => k_is); (case c_marks_by => k_is); (case k_marks_by => k_is)
      (case a_how_many => k_is); (case l_how_many => k_is); (case c_how_many => k_is); (case k_how_many => k_is)
      (case a_has_mark => k_is); (case l_has_mark => k_is); (case c_has_mark => k_is); (case k_has_mark => k_is)
      (case a_without_mark => k_is); (case l_without_mark => k_is); (case c_without_mark => k_is); (case k_without_mark => k_is)
      (case a_one_longer => k_is); (case l_one_longer => k_is); (case c_one_longer => k_is); (case k_one_longer => k_is)
      (case a_all_orders => k_is); (case l_all_orders => k_is); (case c_all_orders => k_is); (case k_all_orders => k_is)
      (case a_best_order => k_is); (case l_best_order => k_is); (case c_best_order => k_is); (case k_best_order => k_is)
      (case a_marks_in => k_is); (case l_marks_in => k_is); (case c_marks_in => k_is); (case k_marks_in => k_is)
      (case a_all_right => k_is); (case l_all_right => k_is); (case c_all_right => k_is); (case k_all_right => k_is)
      (case a_right_pairs => k_is); (case l_right_pairs => k_is); (case c_right_pairs => k_is); (case k_right_pairs => k_is)
      (case a_or_none => k_is); (case l_or_none => k_is); (case c_or_none => k_is); (case k_or_none => k_is)
      (case a_Posts___init__ => k_is); (case i_Posts___init__ => k_is); (case l_Posts___init__ => k_is); (case c_Posts___init__ => k_is); (case k_Posts___init__ => k_is)
      (case a_Posts_begun => k_is); (case i_Posts_begun => k_is); (case l_Posts_begun => k_is); (case c_Posts_begun => k_is); (case k_Posts_begun => k_is)
      (case a_Posts_has_place => k_is); (case i_Posts_has_place => k_is); (case l_Posts_has_place => k_is); (case c_Posts_has_place => k_is); (case k_Posts_has_place => k_is)
      (case a_Posts_has_both => k_is); (case i_Posts_has_both => k_is); (case l_Posts_has_both => k_is); (case c_Posts_has_both => k_is); (case k_Posts_has_both => k_is)
      (case a_Posts_is_order => k_is); (case i_Posts_is_order => k_is); (case l_Posts_is_order => k_is); (case c_Posts_is_order => k_is); (case k_Posts_is_order => k_is)
      (case a_Posts_table => k_is); (case i_Posts_table => k_is); (case l_Posts_table => k_is); (case c_Posts_table => k_is); (case k_Posts_table => k_is)
      (case a_Posts_all_marks => k_is); (case i_Posts_all_marks => k_is); (case l_Posts_all_marks => k_is); (case c_Posts_all_marks => k_is); (case k_Posts_all_marks => k_is)
      (case a_Posts_tells_all => k_is); (case i_Posts_tells_all => k_is); (case l_Posts_tells_all => k_is); (case c_Posts_tells_all => k_is); (case k_Posts_tells_all => k_is)
      (case a_Posts_change => k_is); (case i_Posts_change => k_is); (case l_Posts_change => k_is); (case c_Posts_change => k_is); (case k_Posts_change => k_is)
      (case a_Posts_begin => k_is); (case i_Posts_begin => k_is); (case l_Posts_begin => k_is); (case c_Posts_begin => k_is); (case k_Posts_begin => k_is)
      (case a_Posts_back => k_is); (case i_Posts_back => k_is); (case l_Posts_back => k_is); (case c_Posts_back => k_is); (case k_Posts_back => k_is)
      (case a_Posts_state => k_is); (case i_Posts_state => k_is); (case l_Posts_state => k_is); (case c_Posts_state => k_is); (case k_Posts_state => k_is)
      (case a_Posts_line => k_is); (case i_Posts_line => k_is); (case l_Posts_line => k_is); (case c_Posts_line => k_is); (case k_Posts_line => k_is)
      (case a_Posts_cut => k_is); (case i_Posts_cut => k_is); (case l_Posts_cut => k_is); (case c_Posts_cut => k_is); (case k_Posts_cut => k_is)
      (case a_Posts_take_order => k_is); (case i_Posts_take_order => k_is); (case l_Posts_take_order => k_is); (case c_Posts_take_order => k_is); (case k_Posts_take_order => k_is)
      (case a_Posts_put_first => k_is); (case i_Posts_put_first => k_is); (case l_Posts_put_first => k_is); (case c_Posts_put_first => k_is); (case k_Posts_put_first => k_is)
      (case a_Posts_take_best => k_is); (case i_Posts_take_best => k_is); (case l_Posts_take_best => k_is); (case c_Posts_take_best => k_is); (case k_Posts_take_best => k_is)
      (case a_Posts_show_lines => k_is); (case i_Posts_show_lines => k_is); (case l_Posts_show_lines => k_is); (case c_Posts_show_lines => k_is); (case k_Posts_show_lines => k_is)
      (case a_Posts_show_order => k_is); (case i_Posts_show_order => k_is); (case l_Posts_show_order => k_is); (case c_Posts_show_order => k_is); (case k_Posts_show_order => k_is)
      (case a_Posts_show_marks => k_is); (case i_Posts_show_marks => k_is); (case l_Posts_show_marks => k_is); (case c_Posts_show_marks => k_is); (case k_Posts_show_marks => k_is)
      (case a_Posts_size => k_is); (case i_Posts_size => k_is); (case l_Posts_size => k_is); (case c_Posts_size => k_is); (case k_Posts_size => k_is)
      (case a_Posts_told => k_is); (case i_Posts_told => k_is); (case l_Posts_told => k_is); (case c_Posts_told => k_is); (case k_Posts_told => k_is)
      (case a_Posts_dist => k_is); (case i_Posts_dist => k_is); (case l_Posts_dist => k_is); (case c_Posts_dist => k_is); (case k_Posts_dist => k_is)
      (case a_Posts_by => k_is); (case i_Posts_by => k_is); (case l_Posts_by => k_is); (case c_Posts_by => k_is); (case k_Posts_by => k_is)
      (case a_Posts_who => k_is); (case i_Posts_who => k_is); (case l_Posts_who => k_is); (case c_Posts_who => k_is); (case k_Posts_who => k_is)
      (case a_Posts_without => k_is); (case i_Posts_without => k_is); (case l_Posts_without => k_is); (case c_Posts_without => k_is); (case k_Posts_without => k_is)
      (case a_Posts_after => k_is); (case i_Posts_after => k_is); (case l_Posts_after => k_is); (case c_Posts_after => k_is); (case k_Posts_after => k_is)
      (case a_Posts_would => k_is); (case i_Posts_would => k_is); (case l_Posts_would => k_is); (case c_Posts_would => k_is); (case k_Posts_would => k_is)
      (case a_Posts_fewest => k_is); (case i_Posts_fewest => k_is); (case l_Posts_fewest => k_is); (case c_Posts_fewest => k_is); (case k_Posts_fewest => k_is)
      (case a_Posts_right => k_is); (case i_Posts_right => k_is); (case l_Posts_right => k_is); (case c_Posts_right => k_is); (case k_Posts_right => k_is)
      (case a_given_start => k_is); (case l_given_start => k_is); (case c_given_start => k_is); (case k_given_start => k_is)
      (case a_given_end => k_is); (case l_given_end => k_is); (case c_given_end => k_is); (case k_given_end => k_is)
      (case a_change => k_is); (case l_change => k_is); (case c_change => k_is); (case k_change => k_is)
      (case a_look => k_is); (case l_look => k_is); (case c_look => k_is); (case k_look => k_is)
      (case a_weigh => k_is); (case l_weigh => k_is); (case c_weigh => k_is); (case k_weigh => k_is)
      (case a_answer => k_is); (case l_answer => k_is); (case c_answer => k_is); (case k_answer => k_is)
      (case a_answers => k_is); (case l_answers => k_is); (case c_answers => k_is); (case k_answers => k_is)
    case use => exact Wp.use_all fnd hmg
  case S =>
    intro K H xs a hO hwi hask hx
    cases hx with
    | cons h1 h2 =>
      cases h2
      cases h1 with
      | lst hs ha =>
        have e := L2.ints_dw a.1 _ ha
        subst e
        obtain ⟨cs, k1, k2, k3, k4⟩ := Wp.asked_reads (l := a.1) hask
        have hs' := hs
        rw [k1] at hs'
        refine ⟨cs, H, L2.Same.refl _, ⟨k3, k2⟩, ⟨⟨_, rfl, hs'⟩, trivial⟩, fun v G2 H2 g hv => ?_⟩
        obtain ⟨p, vs, rfl, hG, hA⟩ := hv
        have e2 := Wp.ints_allP hA
        subst e2
        have hq : L2.Dw K H2 (.ref p) (PySem.Challenge.rw_wayposts_s01_answers.ret.enc (Wp.outs none cs)) := .lst (L2.SqL.of (g.gh _ _ hG)) (L2.dw_ints _)
        rw [← k4] at hq
        exact hq
