import PyProof.Rows.All
import HandS.ForMost
import HandS.IsInst
import HandS.Walk
import HandS.Flow
import HandS.Style
import HandS.WideBits
import HandS.Zip
import HandS.Rev
import HandS.RevRange
import HandS.RevTup
import HandS.TupAny
import HandS.More
import HandS.Conv
import KE.KDictZip
import KE.KRevSl
import KE.GoesMore
import HandS.SortRule
import HandS.Defaults
import HandS.FStr
import PyProof.Rows.StrIntSpec
import PyProof.StrLawsOcc
import PyProof.Rows.FactsT3
import HandS.Text
import PySem.Challenge.RW_ateverymoment_k34_words_and_rows
set_option Elab.async false
set_option linter.all false
set_option maxRecDepth 100000

namespace DL
open PySem PySem.Spec PyProof.Rows L2

/-! ### data -/
inductive D where
  | non | bl (b : Bool) | int (i : Int) | str (x : Str) | tup (ds : List D) | lst (ds : List D) | rol (ds : List D)

def isL : D → Bool
  | .lst _ => true
  | _ => false

def SqR (K : PySem.W.Frag) (H : Hp) (a : Addr) (xs : List V) : Prop :=
  (∃ o, H a = some (.frz o (.lst xs))) ∨
    ∃ (o : Obj) (its : Array Value) (n : Nat), K.lookup a = some o ∧ o.cls = .type "list" ∧ o.dict = none ∧ o.data = .seq its n ∧ its.size ≤ sizeLine ∧ Vals xs its.toList
theorem SqR.seq {K : PySem.W.Frag} {H : Hp} {a : Addr} {xs : List V} (h : SqR K H a xs) : SqL K H a xs := by
  rcases h with ⟨o, h⟩ | h
  · exact .inl (.inr ⟨o, h⟩)
  · exact .inr h

mutual
def RpI (K : PySem.W.Frag) (H : Hp) : D → V → Prop
  | .non, v => v = .non
  | .bl b, v => v = .bl b
  | .int i, v => v = .int i
  | .str x, v => v = .str x
  | .tup ds, v => ∃ a vs, v = .ref a ∧ SqT K H a vs ∧ RpIs K H ds vs
  | .rol ds, v => ∃ a vs, v = .ref a ∧ SqR K H a vs ∧ RpIs K H ds vs
  | .lst _, _ => False
def RpIs (K : PySem.W.Frag) (H : Hp) : List D → List V → Prop
  | [], vs => vs = []
  | d :: ds, vs => ∃ v r, vs = v :: r ∧ RpI K H d v ∧ RpIs K H ds r
end
def RpV (K : PySem.W.Frag) (H : Hp) : D → V → Prop
  | .lst ds, v => ∃ a vs, v = .ref a ∧ H a = some (.lst vs) ∧ RpIs K H ds vs
  | d, v => RpI K H d v

/-- all that is no list is kept -/
def Kp (H H' : Hp) : Prop := ∀ b o, H b = some o → (∀ xs, o ≠ .lst xs) → H' b = some o
theorem Kp.refl (H : Hp) : Kp H H := fun _ _ h _ => h
theorem Kp.trans {H H1 H2 : Hp} (a : Kp H H1) (b : Kp H1 H2) : Kp H H2 := fun c o h n => b c o (a c o h n) n
theorem Kp.tup {K : PySem.W.Frag} {H H' : Hp} (k : Kp H H') {a : Addr} {vs : List V} (h : SqT K H a vs) : SqT K H' a vs := by
  rcases h with (h | ⟨o, h⟩) | h
  · exact .inl (.inl (k _ _ h (fun _ e => nomatch e)))
  · exact .inl (.inr ⟨o, k _ _ h (fun _ e => nomatch e)⟩)
  · exact .inr h
theorem Kp.rol {K : PySem.W.Frag} {H H' : Hp} (k : Kp H H') {a : Addr} {vs : List V} (h : SqR K H a vs) : SqR K H' a vs := by
  rcases h with ⟨o, h⟩ | h
  · exact .inl ⟨o, k _ _ h (fun _ e => nomatch e)⟩
  · exact .inr h
mutual
theorem RpI.kp {K : PySem.W.Frag} {H H' : Hp} (k : Kp H H') : ∀ (d : D) (v : V), RpI K H d v → RpI K H' d v
  | .non, v, h => h
  | .bl _, v, h => h
  | .int _, v, h => h
  | .str _, v, h => h
  | .tup ds, v, h => by
    simp only [RpI] at h ⊢
    obtain ⟨a, vs, e, s, r⟩ := h
    exact ⟨a, vs, e, k.tup s, RpIs.kp k ds vs r⟩
  | .rol ds, v, h => by
    simp only [RpI] at h ⊢
    obtain ⟨a, vs, e, s, r⟩ := h
    exact ⟨a, vs, e, k.rol s, RpIs.kp k ds vs r⟩
  | .lst _, v, h => by simp only [RpI] at h
theorem RpIs.kp {K : PySem.W.Frag} {H H' : Hp} (k : Kp H H') : ∀ (ds : List D) (vs : List V), RpIs K H ds vs → RpIs K H' ds vs
  | [], vs, h => by simp only [RpIs] at h ⊢; exact h
  | d :: ds, vs, h => by
    simp only [RpIs] at h ⊢
    obtain ⟨v, r, e, h1, h2⟩ := h
    exact ⟨v, r, e, RpI.kp k d v h1, RpIs.kp k ds r h2⟩
end
theorem RpV.of {K : PySem.W.Frag} {H : Hp} {d : D} {v : V} (h : RpI K H d v) : RpV K H d v := by
  cases d <;> first | exact h | (simp only [RpI] at h)
theorem RpV.imm {K : PySem.W.Frag} {H : Hp} {d : D} {v : V} (h : RpV K H d v) (n : isL d = false) : RpI K H d v := by
  cases d <;> first | exact h | (exact absurd n (by simp [isL]))
theorem RpV.kp {K : PySem.W.Frag} {H H' : Hp} {d : D} {v : V} (k : Kp H H') (h : RpV K H d v) (n : isL d = false) : RpV K H' d v := .of (RpI.kp k d v (h.imm n))
theorem RpV.kpl {K : PySem.W.Frag} {H H' : Hp} {ds : List D} {v : V} (k : Kp H H') (h : RpV K H (.lst ds) v) (e : ∀ a o, v = .ref a → H a = some o → H' a = some o) : RpV K H' (.lst ds) v := by
  obtain ⟨a, vs, e1, e2, r⟩ := h
  exact ⟨a, vs, e1, e a _ e1 e2, RpIs.kp k ds vs r⟩

theorem RpIs.length {K : PySem.W.Frag} {H : Hp} : ∀ {ds : List D} {vs : List V}, RpIs K H ds vs → ds.length = vs.length
  | [], vs, h => by simp only [RpIs] at h; subst h; rfl
  | d :: ds, vs, h => by
    simp only [RpIs] at h
    obtain ⟨v, r, rfl, _, h2⟩ := h
    simp only [List.length_cons, RpIs.length h2]
theorem RpIs.get {K : PySem.W.Frag} {H : Hp} : ∀ {ds : List D} {vs : List V} {i : Nat} {d : D}, RpIs K H ds vs → ds[i]? = some d → ∃ v, vs[i]? = some v ∧ RpI K H d v
  | [], vs, i, d, h, e => by simp at e
  | d0 :: ds, vs, 0, d, h, e => by
    simp only [RpIs] at h
    obtain ⟨v, r, rfl, h1, _⟩ := h
    simp at e; subst e
    exact ⟨v, rfl, h1⟩
  | d0 :: ds, vs, i + 1, d, h, e => by
    simp only [RpIs] at h
    obtain ⟨v, r, rfl, _, h2⟩ := h
    obtain ⟨u, e1, e2⟩ := RpIs.get h2 (by simpa using e)
    exact ⟨u, by simpa using e1, e2⟩
theorem RpIs.get' {K : PySem.W.Frag} {H : Hp} : ∀ {ds : List D} {vs : List V} {i : Nat} {v : V}, RpIs K H ds vs → vs[i]? = some v → ∃ d, ds[i]? = some d ∧ RpI K H d v := by
  intro ds vs i v h e
  have hl := h.length
  have hi : i < ds.length := by rw [hl]; exact (List.getElem?_eq_some_iff.mp e).1
  obtain ⟨u, e1, e2⟩ := h.get (List.getElem?_eq_getElem hi)
  rw [e] at e1; cases e1
  exact ⟨_, List.getElem?_eq_getElem hi, e2⟩
theorem RpIs.append {K : PySem.W.Frag} {H : Hp} : ∀ {ds es : List D} {vs us : List V}, RpIs K H ds vs → RpIs K H es us → RpIs K H (ds ++ es) (vs ++ us)
  | [], es, vs, us, h, g => by simp only [RpIs] at h; subst h; exact g
  | d :: ds, es, vs, us, h, g => by
    simp only [RpIs] at h
    obtain ⟨v, r, rfl, h1, h2⟩ := h
    show RpIs K H (d :: (ds ++ es)) (v :: (r ++ us))
    simp only [RpIs]
    exact ⟨v, _, rfl, h1, RpIs.append h2 g⟩
theorem RpIs.set {K : PySem.W.Frag} {H : Hp} {d : D} {v : V} (hv : RpI K H d v) : ∀ {ds : List D} {vs : List V} (i : Nat), RpIs K H ds vs → RpIs K H (ds.set i d) (vs.set i v)
  | [], vs, i, h => by simp only [RpIs] at h; subst h; simp [RpIs]
  | d0 :: ds, vs, 0, h => by
    simp only [RpIs] at h
    obtain ⟨w, r, rfl, _, h2⟩ := h
    simp only [List.set_cons_zero, RpIs]
    exact ⟨v, r, rfl, hv, h2⟩
  | d0 :: ds, vs, i + 1, h => by
    simp only [RpIs] at h
    obtain ⟨w, r, rfl, h1, h2⟩ := h
    simp only [List.set_cons_succ, RpIs]
    exact ⟨w, _, rfl, h1, RpIs.set hv i h2⟩
theorem RpIs.take {K : PySem.W.Frag} {H : Hp} : ∀ {ds : List D} {vs : List V} (n : Nat), RpIs K H ds vs → RpIs K H (ds.take n) (vs.take n)
  | ds, vs, 0, h => by simp [RpIs]
  | [], vs, n + 1, h => by simp only [RpIs] at h; subst h; simp [RpIs]
  | d0 :: ds, vs, n + 1, h => by
    simp only [RpIs] at h
    obtain ⟨w, r, rfl, h1, h2⟩ := h
    simp only [List.take_succ_cons, RpIs]
    exact ⟨w, _, rfl, h1, RpIs.take n h2⟩
theorem RpIs.drop {K : PySem.W.Frag} {H : Hp} : ∀ {ds : List D} {vs : List V} (n : Nat), RpIs K H ds vs → RpIs K H (ds.drop n) (vs.drop n)
  | ds, vs, 0, h => h
  | [], vs, n + 1, h => by simp only [RpIs] at h; subst h; simp [RpIs]
  | d0 :: ds, vs, n + 1, h => by
    simp only [RpIs] at h
    obtain ⟨w, r, rfl, h1, h2⟩ := h
    exact RpIs.drop n h2
theorem RpIs.reverse {K : PySem.W.Frag} {H : Hp} : ∀ {ds : List D} {vs : List V}, RpIs K H ds vs → RpIs K H ds.reverse vs.reverse
  | [], vs, h => by simp only [RpIs] at h; subst h; simp [RpIs]
  | d0 :: ds, vs, h => by
    simp only [RpIs] at h
    obtain ⟨w, r, rfl, h1, h2⟩ := h
    rw [List.reverse_cons, List.reverse_cons]
    refine RpIs.append (RpIs.reverse h2) ?_
    simp only [RpIs]
    exact ⟨w, [], rfl, h1, rfl⟩
theorem RpIs.dropLast {K : PySem.W.Frag} {H : Hp} {ds : List D} {vs : List V} (h : RpIs K H ds vs) : RpIs K H ds.dropLast vs.dropLast := by
  rw [List.dropLast_eq_take, List.dropLast_eq_take, h.length]
  exact RpIs.take _ h

/-! ### what a frame's slots hold -/
abbrev DEnv := List (Option D)
def LA (σ : L2.St) (env : DEnv) (b : Addr) : Prop := ∃ (i : Nat) (xs : List D), env[i]? = some (some (D.lst xs)) ∧ σ[i]? = some (some (V.ref b))
structure Rep (K : PySem.W.Frag) (np : Nat) (He : Hp) (σ : L2.St) (H : Hp) (env : DEnv) : Prop where
  len : σ.length = env.length
  val : ∀ (i : Nat) (d : D), env[i]? = some (some d) → ∃ v, σ[i]? = some (some v) ∧ RpV K H d v
  apart : ∀ (i j : Nat) (xs ys : List D) (a : Addr), env[i]? = some (some (D.lst xs)) → env[j]? = some (some (D.lst ys)) → σ[i]? = some (some (V.ref a)) → σ[j]? = some (some (V.ref a)) → i = j
  own : ∀ (i : Nat) (xs : List D) (a : Addr), np ≤ i → env[i]? = some (some (D.lst xs)) → σ[i]? = some (some (V.ref a)) → He a = none
  dom : ∀ b, H b = none → He b = none
section
variable {K : PySem.W.Frag} {np : Nat} {He : Hp} {σ σ' σ'' : L2.St} {H H' H'' : Hp} {env env' env'' : DEnv}
theorem Rep.la (R : Rep K np He σ H env) {b : Addr} (h : LA σ env b) : ∃ vs, H b = some (.lst vs) := by
  obtain ⟨i, xs, e, e2⟩ := h
  obtain ⟨v, e3, a, vs, rfl, e5, _⟩ := R.val i _ e
  rw [e2] at e3
  have e4 : b = a := by simpa using e3
  subst e4
  exact ⟨vs, e5⟩

structure SE (K : PySem.W.Frag) (np : Nat) (He : Hp) (σ : L2.St) (H : Hp) (env : DEnv) (H' : Hp) (env' : DEnv) : Prop where
  rep : Rep K np He σ H' env'
  shape : ∀ (i : Nat), env'[i]? = env[i]? ∨ ∃ (xs ys : List D), env[i]? = some (some (D.lst xs)) ∧ env'[i]? = some (some (D.lst ys))
  keep : ∀ b o, H b = some o → ¬ LA σ env b → H' b = some o
  dom : ∀ b, H' b = none → H b = none
theorem SE.refl (R : Rep K np He σ H env) : SE K np He σ H env H env := ⟨R, fun _ => .inl rfl, fun _ _ h _ => h, fun _ h => h⟩
theorem SE.la (s : SE K np He σ H env H' env') {b : Addr} : LA σ env' b ↔ LA σ env b := by
  constructor
  · rintro ⟨i, xs, e, e2⟩
    rcases s.shape i with h | ⟨ys, zs, h1, h2⟩
    · exact ⟨i, xs, h ▸ e, e2⟩
    · exact ⟨i, ys, h1, e2⟩
  · rintro ⟨i, xs, e, e2⟩
    rcases s.shape i with h | ⟨ys, zs, h1, h2⟩
    · exact ⟨i, xs, h.trans e, e2⟩
    · exact ⟨i, zs, h2, e2⟩
theorem SE.trans (a : SE K np He σ H env H' env') (b : SE K np He σ H' env' H'' env'') : SE K np He σ H env H'' env'' where
  rep := b.rep
  shape := fun i => by
    rcases b.shape i with h | ⟨ys, zs, h1, h2⟩
    · rcases a.shape i with g | ⟨us, ws, g1, g2⟩
      · exact .inl (h.trans g)
      · exact .inr ⟨us, ws, g1, h.trans g2⟩
    · rcases a.shape i with g | ⟨us, ws, g1, g2⟩
      · exact .inr ⟨ys, zs, g ▸ h1, h2⟩
      · exact .inr ⟨us, zs, g1, h2⟩
  keep := fun c o h n => b.keep c o (a.keep c o h n) fun z => n (a.la.mp z)
  dom := fun c h => a.dom c (b.dom c h)
theorem SE.kp (R : Rep K np He σ H env) (s : SE K np He σ H env H' env') : Kp H H' := fun b o h n => s.keep b o h fun z => by
  obtain ⟨vs, e⟩ := R.la z
  rw [h] at e
  exact n vs (Option.some.inj e)

/-! ### an expression's result: a value, or a list that stands in a slot -/
inductive RV where
  | val (d : D) | ref (i : Nat)
def RpR (K : PySem.W.Frag) (σ : L2.St) (H H' : Hp) (env' : DEnv) (v : V) : RV → Prop
  | .val d => RpV K H' d v ∧ (isL d = true → ∀ a, v = .ref a → H a = none)
  | .ref i => σ[i]? = some (some v) ∧ ∃ xs, env'[i]? = some (some (D.lst xs))
def getv (env : DEnv) (i : Nat) (k : D → Prop) : Prop :=
  match env[i]? with
  | some (some d) => k d
  | _ => False
theorem getv_of {i : Nat} {k : D → Prop} (h : getv env i k) : ∃ d, env[i]? = some (some d) ∧ k d := by
  unfold getv at h
  split at h
  · exact ⟨_, by assumption, h⟩
  · exact h.elim
def rs (env : DEnv) : RV → (D → Prop) → Prop
  | .val d, k => k d
  | .ref i, k => getv env i k
/-- behind further steps -/
theorem RpR.keep {v : V} {r : RV} (R : Rep K np He σ H env) (a : SE K np He σ H env H' env') (b : SE K np He σ H' env' H'' env'') (h : RpR K σ H H' env' v r) : RpR K σ H H'' env'' v r := by
  cases r with
  | ref i =>
    obtain ⟨e, xs, e2⟩ := h
    refine ⟨e, ?_⟩
    rcases b.shape i with g | ⟨us, ws, g1, g2⟩
    · exact ⟨xs, g.trans e2⟩
    · exact ⟨ws, g2⟩
  | val d =>
    obtain ⟨h1, h2⟩ := h
    refine ⟨?_, h2⟩
    by_cases hd : isL d = true
    · cases d with
      | lst ds =>
        refine h1.kpl (SE.kp a.rep b) fun c o e1 e2 => b.keep c o e2 fun z => ?_
        have z' := a.la.mp z
        obtain ⟨vs, e3⟩ := R.la z'
        rw [h2 rfl c e1] at e3
        cases e3
      | _ => simp [isL] at hd
    · exact h1.kp (SE.kp a.rep b) (by simpa using hd)
/-- what it stands for now -/
theorem RpR.rs {v : V} {r : RV} {k : D → Prop} (R : Rep K np He σ H' env') (h : RpR K σ H H' env' v r) (g : rs env' r k) : ∃ d, RpV K H' d v ∧ k d := by
  cases r with
  | val d => exact ⟨d, h.1, g⟩
  | ref i =>
    obtain ⟨d, e, q⟩ := getv_of g
    obtain ⟨u, e2, r⟩ := R.val i d e
    rw [h.1] at e2
    have e3 : v = u := by simpa using e2
    subst e3
    exact ⟨d, r, q⟩
end
end DL

namespace DL
open PySem PySem.Spec PyProof.Rows L2

abbrev W := DEnv → (RV → DEnv → Prop) → Prop
abbrev WA := DEnv → (List RV → DEnv → Prop) → Prop
def rE (K : PySem.W.Frag) (np : Nat) (He : Hp) (w : W) : TE := fun σ H Q => ∃ env Q0, Rep K np He σ H env ∧ w env Q0 ∧
  ∀ r env' v H', Q0 r env' → SE K np He σ H env H' env' → RpR K σ H H' env' v r → Q v H'
def TN (v : V) (r : RV) (vs : List V) (rl : List RV) : Prop := ∀ d, r = .val d → isL d = true → ∀ (j : Nat) (ys : List D), rl[j]? = some (.val (.lst ys)) → vs[j]? ≠ some v
def RpRs (K : PySem.W.Frag) (σ : L2.St) (H H' : Hp) (env' : DEnv) : List V → List RV → Prop
  | [], rl => rl = []
  | v :: vs, rl => ∃ r rest, rl = r :: rest ∧ RpR K σ H H' env' v r ∧ RpRs K σ H H' env' vs rest ∧ TN v r vs rest
def rA (K : PySem.W.Frag) (np : Nat) (He : Hp) (w : WA) : TA := fun σ H Q => ∃ env Q0, Rep K np He σ H env ∧ w env Q0 ∧
  ∀ rl env' vs H', Q0 rl env' → SE K np He σ H env H' env' → RpRs K σ H H' env' vs rl → Q vs H'
abbrev DE (X : Cx) (np : Nat) (He : Hp) (e : Expr) (w : W) : Prop := PE X e (rE X.K np He w)
abbrev DT (X : Cx) (np : Nat) (He : Hp) (e : Expr) (w : W) : Prop := PT X e (tB (rE X.K np He w))
abbrev DA (X : Cx) (np : Nat) (He : Hp) (es : List Expr) (w : WA) : Prop := PA X es (rA X.K np He w)

theorem PE.weak {X : Cx} {e : Expr} {t t' : TE} (h : PE X e t) (i : ∀ σ H Q, t' σ H Q → t σ H Q) : PE X e t' := ⟨fun pins s σ H Q I q => h.run pins s σ H Q I (i σ H Q q)⟩
theorem PT.weak {X : Cx} {e : Expr} {t t' : TT} (h : PT X e t) (i : ∀ σ H Q, t' σ H Q → t σ H Q) : PT X e t' := ⟨fun pins s σ H Q I q => h.run pins s σ H Q I (i σ H Q q)⟩
theorem PA.weak {X : Cx} {e : List Expr} {t t' : TA} (h : PA X e t) (i : ∀ σ H Q, t' σ H Q → t σ H Q) : PA X e t' := ⟨fun pos pins s σ H Q I q => h.run pos pins s σ H Q I (i σ H Q q)⟩

section
variable {K : PySem.W.Frag} {np : Nat} {He : Hp} {σ σ' σ'' : L2.St} {H H' H'' : Hp} {env env' env'' : DEnv}
/-- the heap grows -/
def Ext (H H' : Hp) : Prop := ∀ b o, H b = some o → H' b = some o
theorem Ext.refl (H : Hp) : Ext H H := fun _ _ h => h
theorem Ext.new {p : Addr} {o : HO} (h : H p = none) : Ext H (upd H p o) := fun b u e => by rw [upd_ne (ne_of_none e h)]; exact e
theorem Ext.kp (h : Ext H H') : Kp H H' := fun b o e _ => h b o e
theorem Ext.dom (h : Ext H H') : ∀ b, H' b = none → H b = none := fun b n => by
  cases q : H b with
  | none => rfl
  | some o => rw [h b o q] at n; cases n
theorem RpV.ext {d : D} {v : V} (x : Ext H H') (h : RpV K H d v) : RpV K H' d v := by
  cases d with
  | lst ds => exact h.kpl x.kp fun a o _ e => x a o e
  | _ => exact h.kp x.kp rfl
theorem SE.ext (R : Rep K np He σ H env) (x : Ext H H') : SE K np He σ H env H' env where
  rep := ⟨R.len, fun i d e => let ⟨v, e1, r⟩ := R.val i d e; ⟨v, e1, r.ext x⟩, R.apart, R.own, fun b n => R.dom b (x.dom b n)⟩
  shape := fun _ => .inl rfl
  keep := fun b o h _ => x b o h
  dom := x.dom

theorem RpRs.keep (R : Rep K np He σ H env) (a : SE K np He σ H env H' env') (b : SE K np He σ H' env' H'' env'') : ∀ {vs : List V} {rl : List RV}, RpRs K σ H H' env' vs rl → RpRs K σ H H'' env'' vs rl
  | [], rl, h => h
  | v :: vs, rl, h => by
    obtain ⟨r, rest, e, h1, h2, tn⟩ := h
    exact ⟨r, rest, e, h1.keep R a b, RpRs.keep R a b h2, tn⟩
/-- a later start -/
theorem RpR.start {v : V} {r : RV} (a : SE K np He σ H env H' env') (h : RpR K σ H' H'' env'' v r) : RpR K σ H H'' env'' v r := by
  cases r with
  | ref i => exact h
  | val d => exact ⟨h.1, fun n c e => a.dom c (h.2 n c e)⟩
theorem RpRs.start (a : SE K np He σ H env H' env') : ∀ {vs : List V} {rl : List RV}, RpRs K σ H' H'' env'' vs rl → RpRs K σ H H'' env'' vs rl
  | [], rl, h => h
  | v :: vs, rl, h => by
    obtain ⟨r, rest, e, h1, h2, tn⟩ := h
    exact ⟨r, rest, e, h1.start a, RpRs.start a h2, tn⟩
theorem RpRs.at : ∀ {vs : List V} {rl : List RV} {j : Nat} {v : V} {r : RV}, RpRs K σ H H' env' vs rl → vs[j]? = some v → rl[j]? = some r → RpR K σ H H' env' v r
  | [], rl, j, v, r, _, e, _ => by simp at e
  | u :: vs, rl, 0, v, r, h, e, e2 => by
    obtain ⟨r', rest, rfl, h1, h2, tn⟩ := h
    simp at e e2
    subst e e2
    exact h1
  | u :: vs, rl, j + 1, v, r, h, e, e2 => by
    obtain ⟨r', rest, rfl, h1, h2, tn⟩ := h
    exact RpRs.at h2 (by simpa using e) (by simpa using e2)
theorem TN.of {σ2 : L2.St} {v : V} {r : RV} {vs : List V} {rl : List RV} (h1 : RpR K σ H H' env' v r) (h2 : RpRs K σ2 H' H'' env'' vs rl) : TN v r vs rl := by
  intro d e il j ys e1 e2
  subst e
  cases d with
  | lst xs =>
    obtain ⟨a, us, rfl, h, _⟩ := h1.1
    have := (RpRs.at h2 e2 e1).2 rfl a rfl
    rw [this] at h
    cases h
  | _ => simp [isL] at il
def RpVs (K : PySem.W.Frag) (H : Hp) : List D → List V → Prop
  | [], vs => vs = []
  | d :: ds, vs => ∃ v r, vs = v :: r ∧ RpV K H d v ∧ RpVs K H ds r
def rsl (env : DEnv) : List RV → (List D → Prop) → Prop
  | [], k => k []
  | r :: rest, k => rs env r fun d => rsl env rest fun ds => k (d :: ds)
theorem RpRs.rs (R : Rep K np He σ H' env') : ∀ {vs : List V} {rl : List RV} {k : List D → Prop}, RpRs K σ H H' env' vs rl → rsl env' rl k → ∃ ds, RpVs K H' ds vs ∧ k ds
  | [], rl, k, h, g => by
    have e : rl = [] := h
    subst e
    exact ⟨[], rfl, g⟩
  | v :: vs, rl, k, h, g => by
    obtain ⟨r, rest, e, h1, h2, tn⟩ := h
    subst e
    obtain ⟨d, hd, g1⟩ := h1.rs R g
    obtain ⟨ds, hds, g2⟩ := RpRs.rs R h2 g1
    exact ⟨d :: ds, ⟨v, vs, rfl, hd, hds⟩, g2⟩
/-- no list among them -/
def immA : List D → Bool
  | [] => true
  | d :: ds => !isL d && immA ds
theorem RpVs.imm : ∀ {ds : List D} {vs : List V}, RpVs K H ds vs → immA ds = true → RpIs K H ds vs
  | [], vs, h, _ => by simp only [RpIs]; exact h
  | d :: ds, vs, h, n => by
    obtain ⟨v, r, e, h1, h2⟩ := h
    simp only [immA, Bool.and_eq_true, Bool.not_eq_true'] at n
    simp only [RpIs]
    exact ⟨v, r, e, h1.imm n.1, RpVs.imm h2 n.2⟩
theorem RpVs.length : ∀ {ds : List D} {vs : List V}, RpVs K H ds vs → ds.length = vs.length
  | [], vs, h => by cases (show vs = [] from h); rfl
  | d :: ds, vs, h => by
    obtain ⟨v, r, rfl, _, h2⟩ := h
    simp only [List.length_cons, RpVs.length h2]
end

section
variable {X : Cx} {np : Nat} {He : Hp} {a b c e : Expr} {es : List Expr} {wa wb wc : W} {ws : WA} {pos : Pos}

/-! ### names, constants -/
def pick (d : D) (a b : Prop) : Prop := match d with
  | .lst _ => a
  | _ => b
def cVar (i : Nat) : W := fun env Q => getv env i fun d => pick d (Q (.ref i) env) (Q (.val d) env)
theorem e_var (i : Nat) {x : Str} (hN : X.N[i]? = some x := by rfl) (hv : Vis X.env.scope x := by first | exact Or.inl rfl | exact Or.inr (Or.inl rfl) | exact Or.inr (Or.inr rfl)) (hd : (x == ("__debug__" : Str)) = false := by decide)
    (hcd : (x == ("__classdict__" : Str)) = false := by decide) : DE X np He (.Name x pos) (cVar i) := by
  refine PE.weak (pe_var hN hv hd hcd) fun σ H Q ⟨env, Q0, R, w, q⟩ => ?_
  obtain ⟨d, e, w⟩ := getv_of w
  obtain ⟨v, e1, r⟩ := R.val i d e
  refine ⟨v, e1, ?_⟩
  cases d with
  | lst ds => exact q (.ref i) env v H w (.refl R) ⟨e1, ds, e⟩
  | _ => exact q (.val _) env v H w (.refl R) ⟨r, fun n => by simp [isL] at n⟩
def cC (d : D) : W := fun env Q => Q (.val d) env
theorem e_int {i : Int} {j : Nat} : DE X np He (.Constant (.int i) j pos) (cC (.int i)) := PE.weak pe_int fun σ H Q ⟨env, Q0, R, w, q⟩ => q _ env _ H w (.refl R) ⟨rfl, fun n => by simp [isL] at n⟩
theorem e_bl {i : Bool} {j : Nat} : DE X np He (.Constant (.bool i) j pos) (cC (.bl i)) := PE.weak pe_bl fun σ H Q ⟨env, Q0, R, w, q⟩ => q _ env _ H w (.refl R) ⟨rfl, fun n => by simp [isL] at n⟩
theorem e_non {j : Nat} : DE X np He (.Constant .none j pos) (cC .non) := PE.weak pe_non fun σ H Q ⟨env, Q0, R, w, q⟩ => q _ env _ H w (.refl R) ⟨rfl, fun n => by simp [isL] at n⟩
theorem e_str {i : Str} {j : Nat} : DE X np He (.Constant (.str i) j pos) (cC (.str i)) := PE.weak pe_str fun σ H Q ⟨env, Q0, R, w, q⟩ => q _ env _ H w (.refl R) ⟨rfl, fun n => by simp [isL] at n⟩
theorem e_gint {x : Str} {n : Int} {t : Tok} (hm : X.mg x = some (.int n t)) (hg : Gl X x := by rfl) (hd : (x == ("__debug__" : Str)) = false := by decide) : DE X np He (.Name x pos) (cC (.int n)) :=
  PE.weak (pe_glob (v := .int n) hg hm ⟨t, rfl⟩ hd) fun σ H Q ⟨env, Q0, R, w, q⟩ => q _ env _ H w (.refl R) ⟨rfl, fun n => by simp [isL] at n⟩

/-! ### two operands -/
abbrev F2 := D → D → (D → Prop) → Prop
def cOp (f : F2) (wa wb : W) : W := fun env Q => wa env fun ra e1 => wb e1 fun rb e2 => rs e2 ra fun x => rs e2 rb fun y => f x y fun z => Q (.val z) e2
def OpD (K : PySem.W.Frag) (r : R2) (f : F2) : Prop := ∀ (H : Hp) (x y : D) (v w : V) (k : D → Prop) (Q : VK), RpV K H x v → RpV K H y w → f x y k →
  (∀ z u H', k z → Ext H H' → RpV K H' z u → (isL z = true → ∀ a, u = .ref a → H a = none) → Q u H') → r v w H Q
theorem two {ta tb : TE} {r : R2} {f : F2} (h : OpD X.K r f) : ∀ σ H Q, rE X.K np He (cOp f wa wb) σ H Q → tOp r (rE X.K np He wa) (rE X.K np He wb) σ H Q := by
  intro σ H Q ⟨env, Q0, R, w, q⟩
  refine ⟨env, _, R, w, fun ra e1 v1 H1 w1 s1 r1 => ⟨e1, _, s1.rep, w1, fun rb e2 v2 H2 w2 s2 r2 => ?_⟩⟩
  have r1' := r1.keep R s1 s2
  have s12 := s1.trans s2
  obtain ⟨x, hx, w2⟩ := r1'.rs s2.rep w2
  obtain ⟨y, hy, w2⟩ := r2.rs s2.rep w2
  refine h H2 x y v1 v2 _ Q hx hy w2 fun z u H' k ex rz fz => ?_
  exact q _ e2 u H' k (s12.trans (.ext s2.rep ex)) ⟨rz, fun n c e => s12.dom c (fz n c e)⟩
theorem e_op {op : Operator} {r : R2} {f : F2} (ho : OpR X (binaryOp op) r) (h : OpD X.K r f) (ha : DE X np He a wa) (hb : DE X np He b wb) : DE X np He (.BinOp a op b pos) (cOp f wa wb) :=
  PE.weak (pe_op ho ha hb) (two (ta := rE X.K np He wa) (tb := rE X.K np He wb) h)
theorem e_cmp {op : CmpOp} {r : R2} {f : F2} (ho : OpR X (compareOp op) r) (h : OpD X.K r f) (ha : DE X np He a wa) (hb : DE X np He b wb) (hm : behindInMarks op b = false) : DE X np He (.Compare a [op] [b] pos) (cOp f wa wb) :=
  PE.weak (pe_cmpR ho ha hb hm) (two (ta := rE X.K np He wa) (tb := rE X.K np He wb) h)
theorem t_cmp {op : CmpOp} {r : R2} {f : F2} (ho : OpR X (compareOp op) r) (h : OpD X.K r f) (ha : DE X np He a wa) (hb : DE X np He b wb) (hm : behindInMarks op b = false) : DT X np He (.Compare a [op] [b] pos) (cOp f wa wb) :=
  PT.weak (pt_cmpR ho ha hb hm) fun σ H Q h' => two (ta := rE X.K np He wa) (tb := rE X.K np He wb) h σ H _ h'
theorem e_ix {r : R2} {f : F2} (hr : IxR X r) (h : OpD X.K r f) (ha : DE X np He a wa) (hb : DE X np He b wb) (hs : PlainIx b := by exact fun _ _ => rfl) : DE X np He (.Subscript a b pos) (cOp f wa wb) :=
  PE.weak (pe_ix hr ha hb hs) (two (ta := rE X.K np He wa) (tb := rE X.K np He wb) h)

/-! ### two ints -/
def fI (g : Int → Int → (D → Prop) → Prop) : F2 := fun x y k => match x, y with
  | .int i, .int j => g i j k
  | _, _ => False
theorem fI_of {g : Int → Int → (D → Prop) → Prop} {x y : D} {k : D → Prop} (h : fI g x y k) : ∃ i j, x = .int i ∧ y = .int j ∧ g i j k := by
  unfold fI at h
  split at h
  · exact ⟨_, _, rfl, rfl, h⟩
  · exact h.elim
theorem opd_I {C : Int → Int → Prop} {g : Int → Int → Int} : OpD X.K (rI C fun i j => .int (g i j)) (fI fun i j k => C i j ∧ k (.int (g i j))) := by
  intro H x y v w k Q rx ry h q
  obtain ⟨i, j, rfl, rfl, hc, h⟩ := fI_of h
  exact ⟨i, j, rx, ry, hc, q _ _ H h (.refl H) rfl (fun n => by simp [isL] at n)⟩
theorem opd_I0 {g : Int → Int → Int} : OpD X.K (rI0 fun i j => .int (g i j)) (fI fun i j k => k (.int (g i j))) := by
  intro H x y v w k Q rx ry h q
  obtain ⟨i, j, rfl, rfl, h⟩ := fI_of h
  exact ⟨i, j, rx, ry, q _ _ H h (.refl H) rfl (fun n => by simp [isL] at n)⟩
theorem opd_B0 {g : Int → Int → Bool} : OpD X.K (rI0 fun i j => .bl (g i j)) (fI fun i j k => k (.bl (g i j))) := by
  intro H x y v w k Q rx ry h q
  obtain ⟨i, j, rfl, rfl, h⟩ := fI_of h
  exact ⟨i, j, rx, ry, q _ _ H h (.refl H) rfl (fun n => by simp [isL] at n)⟩
abbrev fAdd : F2 := fI fun i j k => k (.int (i + j))
abbrev fSub : F2 := fI fun i j k => k (.int (i - j))
abbrev fMul : F2 := fI fun i j k => CMul i j ∧ k (.int (i * j))
abbrev fFdiv : F2 := fI fun i j k => CDiv i j ∧ k (.int (i / j))
abbrev fMod : F2 := fI fun i j k => 0 < j ∧ k (.int (i % j))
abbrev fPow : F2 := fI fun i j k => CPow i j ∧ k (.int (i ^ j.toNat))
abbrev fShl : F2 := fI fun i j k => CPow i j ∧ k (.int (i * 2 ^ j.toNat))
abbrev fShr : F2 := fI fun i j k => 0 ≤ j ∧ k (.int (i / 2 ^ j.toNat))
abbrev fAnd : F2 := fI fun i j k => k (.int (Builtin.bitAnd i j))
abbrev fOr : F2 := fI fun i j k => k (.int (Builtin.bitOr i j))
abbrev fXor : F2 := fI fun i j k => k (.int (Builtin.bitXor i j))
abbrev fLt : F2 := fI fun i j k => k (.bl (decide (i < j)))
abbrev fLe : F2 := fI fun i j k => k (.bl (decide (i ≤ j)))
abbrev fGt : F2 := fI fun i j k => k (.bl (decide (j < i)))
abbrev fGe : F2 := fI fun i j k => k (.bl (decide (j ≤ i)))
section
variable (ha : DE X np He a wa) (hb : DE X np He b wb)
include ha hb
theorem e_add : DE X np He (.BinOp a .Add b pos) (cOp fAdd wa wb) := e_op op_add opd_I0 ha hb
theorem e_sub : DE X np He (.BinOp a .Sub b pos) (cOp fSub wa wb) := e_op op_sub opd_I0 ha hb
theorem e_mul : DE X np He (.BinOp a .Mult b pos) (cOp fMul wa wb) := e_op op_mul opd_I ha hb
theorem e_fdiv : DE X np He (.BinOp a .FloorDiv b pos) (cOp fFdiv wa wb) := e_op op_fdiv opd_I ha hb
theorem e_mod : DE X np He (.BinOp a .Mod b pos) (cOp fMod wa wb) := e_op op_mod opd_I ha hb
theorem e_pow : DE X np He (.BinOp a .Pow b pos) (cOp fPow wa wb) := e_op op_pow opd_I ha hb
theorem e_shl : DE X np He (.BinOp a .LShift b pos) (cOp fShl wa wb) := e_op op_shl opd_I ha hb
theorem e_shr : DE X np He (.BinOp a .RShift b pos) (cOp fShr wa wb) := e_op op_shr opd_I ha hb
theorem e_and : DE X np He (.BinOp a .BitAnd b pos) (cOp fAnd wa wb) := e_op op_and opd_I0 ha hb
theorem e_or : DE X np He (.BinOp a .BitOr b pos) (cOp fOr wa wb) := e_op op_or opd_I0 ha hb
theorem e_xor : DE X np He (.BinOp a .BitXor b pos) (cOp fXor wa wb) := e_op op_xor opd_I0 ha hb
theorem e_lt : DE X np He (.Compare a [.Lt] [b] pos) (cOp fLt wa wb) := e_cmp op_lt opd_B0 ha hb (nomark _)
theorem e_le : DE X np He (.Compare a [.LtE] [b] pos) (cOp fLe wa wb) := e_cmp op_le opd_B0 ha hb (nomark _)
theorem e_gt : DE X np He (.Compare a [.Gt] [b] pos) (cOp fGt wa wb) := e_cmp op_gt opd_B0 ha hb (nomark _)
theorem e_ge : DE X np He (.Compare a [.GtE] [b] pos) (cOp fGe wa wb) := e_cmp op_ge opd_B0 ha hb (nomark _)
theorem t_lt : DT X np He (.Compare a [.Lt] [b] pos) (cOp fLt wa wb) := t_cmp op_lt opd_B0 ha hb (nomark _)
theorem t_le : DT X np He (.Compare a [.LtE] [b] pos) (cOp fLe wa wb) := t_cmp op_le opd_B0 ha hb (nomark _)
theorem t_gt : DT X np He (.Compare a [.Gt] [b] pos) (cOp fGt wa wb) := t_cmp op_gt opd_B0 ha hb (nomark _)
theorem t_ge : DT X np He (.Compare a [.GtE] [b] pos) (cOp fGe wa wb) := t_cmp op_ge opd_B0 ha hb (nomark _)
end
/-! ### == of scalars -/
def eqS : D → D → Option Bool
  | .non, .non => some true | .non, .int _ => some false | .int _, .non => some false | .non, .bl _ => some false | .bl _, .non => some false | .non, .str _ => some false | .str _, .non => some false
  | .int i, .int j => some (decide (i = j)) | .bl i, .bl j => some (decide (i = j)) | .str i, .str j => some (decide (i = j))
  | .int _, .str _ => some false | .str _, .int _ => some false | .bl _, .str _ => some false | .str _, .bl _ => some false
  | _, _ => none
def fEqS : F2 := fun x y k => match eqS x y with
  | some c => k (.bl c)
  | none => False
def fNeS : F2 := fun x y k => match eqS x y with
  | some c => k (.bl (!c))
  | none => False
theorem eqS_ok {K : PySem.W.Frag} {H : Hp} {x y : D} {v w : V} {c : Bool} (rx : RpV K H x v) (ry : RpV K H y w) (h : eqS x y = some c) : scal v w = true ∧ decide (v = w) = c := by
  cases x <;> cases y <;> first
    | (simp [eqS] at h; done)
    | (cases rx; cases ry; simp only [eqS, Option.some.injEq] at h; subst h; refine ⟨rfl, ?_⟩; simp)
theorem opd_eqS : OpD X.K rEq fEqS := by
  intro H x y v w k Q rx ry h q
  unfold fEqS at h
  split at h
  · rename_i c e
    obtain ⟨h1, h2⟩ := eqS_ok rx ry e
    refine ⟨h1, ?_⟩
    rw [h2]
    exact q _ _ H h (.refl H) rfl (fun n => by simp [isL] at n)
  · exact h.elim
theorem opd_neS : OpD X.K rNe fNeS := by
  intro H x y v w k Q rx ry h q
  unfold fNeS at h
  split at h
  · rename_i c e
    obtain ⟨h1, h2⟩ := eqS_ok rx ry e
    refine ⟨h1, ?_⟩
    rw [h2]
    exact q _ _ H h (.refl H) rfl (fun n => by simp [isL] at n)
  · exact h.elim
theorem e_eqS (ha : DE X np He a wa) (hb : DE X np He b wb) : DE X np He (.Compare a [.Eq] [b] pos) (cOp fEqS wa wb) := e_cmp op_eq opd_eqS ha hb (nomark _)
theorem e_neS (ha : DE X np He a wa) (hb : DE X np He b wb) : DE X np He (.Compare a [.NotEq] [b] pos) (cOp fNeS wa wb) := e_cmp op_ne opd_neS ha hb (nomark _)
theorem t_eqS (ha : DE X np He a wa) (hb : DE X np He b wb) : DT X np He (.Compare a [.Eq] [b] pos) (cOp fEqS wa wb) := t_cmp op_eq opd_eqS ha hb (nomark _)
theorem t_neS (ha : DE X np He a wa) (hb : DE X np He b wb) : DT X np He (.Compare a [.NotEq] [b] pos) (cOp fNeS wa wb) := t_cmp op_ne opd_neS ha hb (nomark _)

/-! ### subscripts -/
def seqD : D → Option (List D)
  | .tup ds => some ds
  | .lst ds => some ds
  | .rol ds => some ds
  | _ => none
theorem RpV.seq {K : PySem.W.Frag} {H : Hp} {d : D} {v : V} {ds : List D} (h : RpV K H d v) (e : seqD d = some ds) : ∃ a vs, v = .ref a ∧ (SqL K H a vs ∨ SqT K H a vs) ∧ RpIs K H ds vs := by
  cases d with
  | tup es =>
    simp only [seqD, Option.some.injEq] at e
    subst e
    obtain ⟨a, vs, e1, s, r⟩ := (show ∃ a vs, v = .ref a ∧ SqT K H a vs ∧ RpIs K H es vs by simpa only [RpV, RpI] using h)
    exact ⟨a, vs, e1, .inr s, r⟩
  | rol es =>
    simp only [seqD, Option.some.injEq] at e
    subst e
    obtain ⟨a, vs, e1, s, r⟩ := (show ∃ a vs, v = .ref a ∧ SqR K H a vs ∧ RpIs K H es vs by simpa only [RpV, RpI] using h)
    exact ⟨a, vs, e1, .inl s.seq, r⟩
  | lst es =>
    simp only [seqD, Option.some.injEq] at e
    subst e
    obtain ⟨a, vs, e1, s, r⟩ := h
    exact ⟨a, vs, e1, .inl (.of s), r⟩
  | _ => simp [seqD] at e
def fIx : F2 := fun x y k => match seqD x, y with
  | some ds, .int i => (match atI ds i with
    | some d => k d
    | none => False)
  | _, _ => False
theorem atI_rp {K : PySem.W.Frag} {H : Hp} {ds : List D} {vs : List V} {i : Int} {d : D} (r : RpIs K H ds vs) (h : atI ds i = some d) : ∃ v, atI vs i = some v ∧ RpI K H d v := by
  unfold atI at h ⊢
  rw [← r.length]
  cases q : ixN ds.length i with
  | none => rw [q] at h; cases h
  | some j =>
    rw [q] at h
    exact r.get h
theorem opd_ix : OpD X.K (rIx X.K) fIx := by
  intro H x y v w k Q rx ry h q
  unfold fIx at h
  split at h
  · rename_i ds i e1
    split at h
    · rename_i d e2
      obtain ⟨a, vs, rfl, s, r⟩ := rx.seq e1
      obtain ⟨u, e3, ru⟩ := atI_rp r e2
      have hi : isL d = false := by
        cases d <;> first | rfl | (simp only [RpI] at ru)
      rcases s with s | s
      · exact .inl ⟨a, vs, i, u, rfl, ry, s, e3, q d u H h (.refl H) (.of ru) (fun n => by rw [hi] at n; cases n)⟩
      · exact .inr (.inl ⟨a, vs, i, u, rfl, ry, s, e3, q d u H h (.refl H) (.of ru) (fun n => by rw [hi] at n; cases n)⟩)
    · exact h.elim
  · exact h.elim
theorem e_ixs (ha : DE X np He a wa) (hb : DE X np He b wb) (hs : PlainIx b := by exact fun _ _ => rfl) : DE X np He (.Subscript a b pos) (cOp fIx wa wb) := e_ix ix_seq opd_ix ha hb hs

/-! ### one operand -/
abbrev F1 := D → (D → Prop) → Prop
def cUn (f : F1) (wa : W) : W := fun env Q => wa env fun ra e1 => rs e1 ra fun x => f x fun z => Q (.val z) e1
def fNeg : F1 := fun x k => match x with
  | .int i => k (.int (-i))
  | _ => False
def fInv : F1 := fun x k => match x with
  | .int i => k (.int (Builtin.bitNot i))
  | _ => False
def fBits : F1 := fun x k => match x with
  | .int i => k (.int (Builtin.Int.intBits i : Nat))
  | _ => False
def fNot : F1 := fun x k => match x with
  | .bl c => k (.bl (!c))
  | _ => False
def isN : D → Bool
  | .non => true
  | _ => false
def fIsN (neg : Bool) : F1 := fun x k => k (.bl (if neg = true then !isN x else isN x))
theorem e_neg (ha : DE X np He a wa) : DE X np He (.UnaryOp .USub a pos) (cUn fNeg wa) := by
  refine PE.weak (pe_un un_neg ha) fun σ H Q ⟨env, Q0, R, w, q⟩ => ⟨env, _, R, w, fun ra e1 v1 H1 w1 s1 r1 => ?_⟩
  obtain ⟨x, hx, w1⟩ := r1.rs s1.rep w1
  cases x <;> first | exact False.elim w1 | skip
  exact ⟨_, hx, q _ e1 _ H1 w1 s1 ⟨rfl, fun n => by simp [isL] at n⟩⟩
theorem e_inv (ha : DE X np He a wa) : DE X np He (.UnaryOp .Invert a pos) (cUn fInv wa) := by
  refine PE.weak (pe_un un_inv ha) fun σ H Q ⟨env, Q0, R, w, q⟩ => ⟨env, _, R, w, fun ra e1 v1 H1 w1 s1 r1 => ?_⟩
  obtain ⟨x, hx, w1⟩ := r1.rs s1.rep w1
  cases x <;> first | exact False.elim w1 | skip
  exact ⟨_, hx, q _ e1 _ H1 w1 s1 ⟨rfl, fun n => by simp [isL] at n⟩⟩
theorem e_bits {apos : Pos} (ha : DE X np He a wa) (hbase : attributeBase a "bit_length" X.env (eval a X.env) = eval a X.env := by rfl) (hline : (apos.endLine == pos.line) = true := by rfl) : DE X np He (.Call (.Attribute a "bit_length" apos) [] [] pos) (cUn fBits wa) := by
  refine PE.weak (pe_bits ha hbase hline) fun σ H Q ⟨env, Q0, R, w, q⟩ => ⟨env, _, R, w, fun ra e1 v1 H1 w1 s1 r1 => ?_⟩
  obtain ⟨x, hx, w1⟩ := r1.rs s1.rep w1
  cases x <;> first | exact False.elim w1 | skip
  exact ⟨_, hx, q _ e1 _ H1 w1 s1 ⟨rfl, fun n => by simp [isL] at n⟩⟩
theorem e_not (ha : DE X np He a wa) : DE X np He (.UnaryOp .Not a pos) (cUn fNot wa) := by
  refine PE.weak (pe_not ha) fun σ H Q ⟨env, Q0, R, w, q⟩ => ⟨env, _, R, w, fun ra e1 v1 H1 w1 s1 r1 => ?_⟩
  obtain ⟨x, hx, w1⟩ := r1.rs s1.rep w1
  cases x <;> first | exact False.elim w1 | skip
  exact ⟨_, hx, q _ e1 _ H1 w1 s1 ⟨rfl, fun n => by simp [isL] at n⟩⟩
theorem t_not (ha : DT X np He a wa) : DT X np He (.UnaryOp .Not a pos) (cUn fNot wa) := by
  refine PT.weak (pt_not ha) fun σ H Q ⟨env, Q0, R, w, q⟩ => ⟨env, _, R, w, fun ra e1 v1 H1 w1 s1 r1 => ?_⟩
  obtain ⟨x, hx, w1⟩ := r1.rs s1.rep w1
  cases x with
  | bl c =>
    cases hx
    obtain ⟨c', e', q'⟩ := q (.val (.bl (!c))) e1 _ H1 w1 s1 ⟨rfl, fun n => by simp [isL] at n⟩
    cases e'
    exact ⟨c, rfl, q'⟩
  | _ => exact False.elim w1
theorem RpV.non_iff {K : PySem.W.Frag} {H : Hp} {d : D} {v : V} (h : RpV K H d v) : decide (v = .non) = isN d := by
  cases d with
  | non => cases h; rfl
  | bl _ => cases h; rfl
  | int _ => cases h; rfl
  | str _ => cases h; rfl
  | tup _ => simp only [RpV, RpI] at h; obtain ⟨a, _, rfl, _⟩ := h; rfl
  | rol _ => simp only [RpV, RpI] at h; obtain ⟨a, _, rfl, _⟩ := h; rfl
  | lst _ => obtain ⟨a, _, rfl, _⟩ := h; rfl
theorem isN_core (neg : Bool) : ∀ σ H Q, rE X.K np He (cUn (fIsN neg) wa) σ H Q → rE X.K np He wa σ H fun x H1 => Q (.bl (if neg = true then !decide (x = .non) else decide (x = .non))) H1 := by
  intro σ H Q ⟨env, Q0, R, w, q⟩
  refine ⟨env, _, R, w, fun ra e1 v1 H1 w1 s1 r1 => ?_⟩
  obtain ⟨x, hx, w1⟩ := r1.rs s1.rep w1
  rw [hx.non_iff]
  exact q (.val (.bl (if neg = true then !isN x else isN x))) e1 _ H1 w1 s1 ⟨rfl, fun n => by simp [isL] at n⟩
theorem e_isN {j : Nat} {pos' : Pos} (ha : DE X np He a wa) : DE X np He (.Compare a [.Is] [.Constant .none j pos'] pos) (cUn (fIsN false) wa) :=
  PE.weak (pe_cmp (pc_isN ha)) fun σ H Q h => isN_core false σ H _ h
theorem e_notN {j : Nat} {pos' : Pos} (ha : DE X np He a wa) : DE X np He (.Compare a [.IsNot] [.Constant .none j pos'] pos) (cUn (fIsN true) wa) :=
  PE.weak (pe_cmp (pc_notN ha)) fun σ H Q h => isN_core true σ H _ h
theorem t_isN {j : Nat} {pos' : Pos} (ha : DE X np He a wa) : DT X np He (.Compare a [.Is] [.Constant .none j pos'] pos) (cUn (fIsN false) wa) :=
  PT.weak (pt_cmp (pc_isN ha)) fun σ H Q h => isN_core false σ H _ h
theorem t_notN {j : Nat} {pos' : Pos} (ha : DE X np He a wa) : DT X np He (.Compare a [.IsNot] [.Constant .none j pos'] pos) (cUn (fIsN true) wa) :=
  PT.weak (pt_cmp (pc_notN ha)) fun σ H Q h => isN_core true σ H _ h
/-- any value that is a bool, as a test -/
theorem t_val (h : DE X np He e wa) (he : ∀ whole, isTrue e X.env whole = (do let v ← whole; standAt e.pos; holding [v] (truthy v)) := by intro _; rfl) : DT X np He e wa := pt_val h he

/-! ### and, or, if -/
inductive ifb : D → Prop → Prop → Prop where
  | t {a b : Prop} (h : a) : ifb (.bl true) a b
  | f {a b : Prop} (h : b) : ifb (.bl false) a b
def cAnd (wa wb : W) : W := fun env Q => wa env fun ra e1 => rs e1 ra fun x => ifb x (wb e1 Q) (Q (.val (.bl false)) e1)
def cOr (wa wb : W) : W := fun env Q => wa env fun ra e1 => rs e1 ra fun x => ifb x (Q (.val (.bl true)) e1) (wb e1 Q)
def cIf (wc wa wb : W) : W := fun env Q => wc env fun rc e1 => rs e1 rc fun x => ifb x (wa e1 Q) (wb e1 Q)
theorem ifb_of {d : D} {A B : Prop} (h : ifb d A B) : (d = .bl true ∧ A) ∨ (d = .bl false ∧ B) := by
  cases h with
  | t h => exact .inl ⟨rfl, h⟩
  | f h => exact .inr ⟨rfl, h⟩
theorem rE.next {σ : L2.St} {H H1 : Hp} {env e1 : DEnv} {Q : VK} {Q0 : RV → DEnv → Prop} (s1 : SE X.K np He σ H env H1 e1) (w : wb e1 Q0)
    (q : ∀ r env' v H', Q0 r env' → SE X.K np He σ H env H' env' → RpR X.K σ H H' env' v r → Q v H') : rE X.K np He wb σ H1 Q :=
  ⟨e1, Q0, s1.rep, w, fun r env' v H' g s2 r2 => q r env' v H' g (s1.trans s2) (r2.start s1)⟩
theorem e_one {op : BoolOp} (ha : DE X np He a wa) : DE X np He (.BoolOp op [a] pos) wa := pe_one ha
theorem e_and' {rest : List Expr} (ha : DE X np He a wa) (hb : DE X np He (.BoolOp .And (b :: rest) pos) wb) : DE X np He (.BoolOp .And (a :: b :: rest) pos) (cAnd wa wb) := by
  refine PE.weak (pe_and ha hb) fun σ H Q ⟨env, Q0, R, w, q⟩ => ⟨env, _, R, w, fun ra e1 v1 H1 w1 s1 r1 => ?_⟩
  obtain ⟨x, hx, w1⟩ := r1.rs s1.rep w1
  have w1z := ifb_of w1; clear w1; rcases w1z with ⟨rfl, w1⟩ | ⟨rfl, w1⟩
  · exact ⟨true, hx, rE.next s1 w1 q⟩
  · exact ⟨false, hx, q _ e1 _ H1 w1 s1 ⟨rfl, fun n => by simp [isL] at n⟩⟩
theorem e_or' {rest : List Expr} (ha : DE X np He a wa) (hb : DE X np He (.BoolOp .Or (b :: rest) pos) wb) : DE X np He (.BoolOp .Or (a :: b :: rest) pos) (cOr wa wb) := by
  refine PE.weak (pe_or ha hb) fun σ H Q ⟨env, Q0, R, w, q⟩ => ⟨env, _, R, w, fun ra e1 v1 H1 w1 s1 r1 => ?_⟩
  obtain ⟨x, hx, w1⟩ := r1.rs s1.rep w1
  have w1z := ifb_of w1; clear w1; rcases w1z with ⟨rfl, w1⟩ | ⟨rfl, w1⟩
  · exact ⟨true, hx, q _ e1 _ H1 w1 s1 ⟨rfl, fun n => by simp [isL] at n⟩⟩
  · exact ⟨false, hx, rE.next s1 w1 q⟩
abbrev DW (X : Cx) (np : Nat) (He : Hp) (e : Expr) (w : W) : Prop := PW X e (tB (rE X.K np He w))
theorem w_and1 (ha : DT X np He a wa) : DW X np He (.BoolOp .And [a] pos) wa := pw_and1 ha
theorem w_or1 (ha : DT X np He a wa) : DW X np He (.BoolOp .Or [a] pos) wa := pw_or1 ha
theorem PW.weak {e : Expr} {t t' : TT} (h : PW X e t) (i : ∀ σ H Q, t' σ H Q → t σ H Q) : PW X e t' := ⟨fun wh pins s σ H Q I q => h.run wh pins s σ H Q I (i σ H Q q)⟩
theorem w_and {rest : List Expr} (ha : DT X np He a wa) (hb : DW X np He (.BoolOp .And (b :: rest) pos) wb) : DW X np He (.BoolOp .And (a :: b :: rest) pos) (cAnd wa wb) := by
  refine DL.PW.weak (pw_and ha hb) fun σ H Q ⟨env, Q0, R, w, q⟩ => ⟨env, _, R, w, fun ra e1 v1 H1 w1 s1 r1 => ?_⟩
  obtain ⟨x, hx, w1⟩ := r1.rs s1.rep w1
  have w1z := ifb_of w1; clear w1; rcases w1z with ⟨rfl, w1⟩ | ⟨rfl, w1⟩
  · exact ⟨true, hx, rE.next s1 w1 q⟩
  · refine ⟨false, hx, ?_⟩
    obtain ⟨c, e, q'⟩ := q _ e1 (.bl false) H1 w1 s1 ⟨rfl, fun n => by simp [isL] at n⟩
    cases e
    exact q'
theorem w_or {rest : List Expr} (ha : DT X np He a wa) (hb : DW X np He (.BoolOp .Or (b :: rest) pos) wb) : DW X np He (.BoolOp .Or (a :: b :: rest) pos) (cOr wa wb) := by
  refine DL.PW.weak (pw_or ha hb) fun σ H Q ⟨env, Q0, R, w, q⟩ => ⟨env, _, R, w, fun ra e1 v1 H1 w1 s1 r1 => ?_⟩
  obtain ⟨x, hx, w1⟩ := r1.rs s1.rep w1
  have w1z := ifb_of w1; clear w1; rcases w1z with ⟨rfl, w1⟩ | ⟨rfl, w1⟩
  · refine ⟨true, hx, ?_⟩
    obtain ⟨c, e, q'⟩ := q _ e1 (.bl true) H1 w1 s1 ⟨rfl, fun n => by simp [isL] at n⟩
    cases e
    exact q'
  · exact ⟨false, hx, rE.next s1 w1 q⟩
theorem t_bop (h : DW X np He e wa) : DT X np He e wa := h.pt
theorem e_ifx (hc : DT X np He c wc) (ha : DE X np He a wa) (hb : DE X np He b wb) : DE X np He (.IfExp c a b pos) (cIf wc wa wb) := by
  refine PE.weak (pe_ifExp hc ha hb) fun σ H Q ⟨env, Q0, R, w, q⟩ => ⟨env, _, R, w, fun ra e1 v1 H1 w1 s1 r1 => ?_⟩
  obtain ⟨x, hx, w1⟩ := r1.rs s1.rep w1
  have w1z := ifb_of w1; clear w1; rcases w1z with ⟨rfl, w1⟩ | ⟨rfl, w1⟩
  · exact ⟨true, hx, rE.next s1 w1 q⟩
  · exact ⟨false, hx, rE.next s1 w1 q⟩
/-- a op b op' c -/
def cChain (f g : F2) (wa wb wc : W) : W := fun env Q => wa env fun ra e1 => wb e1 fun rb e2 => rs e2 ra fun x => rs e2 rb fun y => f x y fun z => ifb z (wc e2 fun rc e3 => rs e3 rb fun y' => rs e3 rc fun u => g y' u fun z' => Q (.val z') e3) (Q (.val (.bl false)) e2)
theorem chain_core {ta tb tc : TE} {r r' : R2} {f g : F2} (h : OpD X.K r f) (h' : OpD X.K r' g) : ∀ σ H Q, rE X.K np He (cChain f g wa wb wc) σ H Q → tChain r r' (rE X.K np He wa) (rE X.K np He wb) (rE X.K np He wc) σ H Q := by
  intro σ H Q ⟨env, Q0, R, w, q⟩
  refine ⟨env, _, R, w, fun ra e1 v1 H1 w1 s1 r1 => ⟨e1, _, s1.rep, w1, fun rb e2 v2 H2 w2 s2 r2 => ?_⟩⟩
  have r1' := r1.keep R s1 s2
  have s12 := s1.trans s2
  obtain ⟨x, hx, w2⟩ := r1'.rs s2.rep w2
  obtain ⟨y, hy, w2⟩ := r2.rs s2.rep w2
  refine h H2 x y v1 v2 _ _ hx hy w2 fun z u H' k ex rz fz => ?_
  have s3 : SE X.K np He σ H2 e2 H' e2 := .ext s2.rep ex
  have kz := ifb_of k; clear k; rcases kz with ⟨rfl, k⟩ | ⟨rfl, k⟩
  · refine ⟨true, rz, ?_⟩
    rw [if_pos rfl]
    refine ⟨e2, _, s3.rep, k, fun rc e3 v3 H3 w3 s4 r3 => ?_⟩
    have r2' := r2.keep s1.rep s2 (s3.trans s4)
    obtain ⟨y', hy', w3⟩ := r2'.rs s4.rep w3
    obtain ⟨u', hu', w3⟩ := r3.rs s4.rep w3
    have s14 := (s12.trans s3).trans s4
    refine h' H3 y' u' v2 v3 _ Q hy' hu' w3 fun z u H' k ex rz fz => ?_
    exact q _ e3 u H' k (s14.trans (.ext s4.rep ex)) ⟨rz, fun n c e => s14.dom c (fz n c e)⟩
  · refine ⟨false, rz, ?_⟩
    rw [if_neg Bool.false_ne_true]
    exact q _ e2 _ H' k (s12.trans s3) ⟨rfl, fun n => by simp [isL] at n⟩
theorem e_chain {op op' : CmpOp} {r r' : R2} {f g : F2} (ho : OpR X (compareOp op) r) (ho' : OpR X (compareOp op') r') (h : OpD X.K r f) (h' : OpD X.K r' g) (ha : DE X np He a wa) (hb : DE X np He b wb) (hc : DE X np He c wc)
    (hm : lastMarks [op, op'] [b, c] = false := by with_unfolding_all rfl) : DE X np He (.Compare a [op, op'] [b, c] pos) (cChain f g wa wb wc) :=
  PE.weak (pe_chain ho ho' ha hb hc hm) (chain_core (ta := rE X.K np He wa) (tb := rE X.K np He wb) (tc := rE X.K np He wc) h h')
theorem t_chain {op op' : CmpOp} {r r' : R2} {f g : F2} (ho : OpR X (compareOp op) r) (ho' : OpR X (compareOp op') r') (h : OpD X.K r f) (h' : OpD X.K r' g) (ha : DE X np He a wa) (hb : DE X np He b wb) (hc : DE X np He c wc)
    (hm : lastMarks [op, op'] [b, c] = false := by with_unfolding_all rfl) : DT X np He (.Compare a [op, op'] [b, c] pos) (cChain f g wa wb wc) :=
  PT.weak (pt_chain ho ho' ha hb hc hm) fun σ H Q h0 => chain_core (ta := rE X.K np He wa) (tb := rE X.K np He wb) (tc := rE X.K np He wc) h h' σ H _ h0

/-! ### arguments, displays -/
def cNil : WA := fun env Q => Q [] env
def cCons (wa : W) (ws : WA) : WA := fun env Q => wa env fun r e1 => ws e1 fun rl e2 => Q (r :: rl) e2
theorem a_nil : DA X np He [] cNil := PA.weak pa_nil fun σ H Q ⟨env, Q0, R, w, q⟩ => q [] env [] H w (.refl R) rfl
theorem a_cons (ha : DE X np He a wa) (hr : DA X np He es ws) (hs : starEach (a :: es) X.env = (false, eval a X.env) :: starEach es X.env := by rfl) : DA X np He (a :: es) (cCons wa ws) := by
  refine PA.weak (pa_cons ha hr hs) fun σ H Q ⟨env, Q0, R, w, q⟩ => ⟨env, _, R, w, fun r e1 v1 H1 w1 s1 r1 => ⟨e1, _, s1.rep, w1, fun rl e2 vs H2 w2 s2 r2 => ?_⟩⟩
  exact q (r :: rl) e2 (v1 :: vs) H2 w2 (s1.trans s2) ⟨r, rl, rfl, r1.keep R s1 s2, r2.start s1, .of r1 r2⟩
theorem line_of {n : Nat} (h : n ≤ 1000000) : n ≤ sizeLine := Nat.le_trans h (by rw [sizeLine_eq]; decide)
def cTup (ws : WA) : W := fun env Q => ws env fun rl e1 => rsl e1 rl fun ds => immA ds = true ∧ ds.length ≤ 1000000 ∧ Q (.val (.tup ds)) e1
def cLst (ws : WA) : W := fun env Q => ws env fun rl e1 => rsl e1 rl fun ds => immA ds = true ∧ ds.length ≤ 1000000 ∧ Q (.val (.lst ds)) e1
theorem e_tup {k : Nat} (h : DA X np He es ws) : DE X np He (.Tuple es k pos) (cTup ws) := by
  refine PE.weak (pe_tup h) fun σ H Q ⟨env, Q0, R, w, q⟩ => ⟨env, _, R, w, fun rl e1 vs H1 w1 s1 r1 => ?_⟩
  obtain ⟨ds, hd, im, sz, w1⟩ := r1.rs s1.rep w1
  refine ⟨by rw [← hd.length]; exact line_of sz, fun p np' => ?_⟩
  have ex : Ext H1 (upd H1 p (.tup vs)) := .new np'
  refine q _ e1 _ _ w1 (s1.trans (.ext s1.rep ex)) ⟨?_, fun n => by simp [isL] at n⟩
  show RpI _ _ _ _
  simp only [RpI]
  exact ⟨p, vs, rfl, .inl (.inl upd_same), RpIs.kp ex.kp ds vs (hd.imm im)⟩
theorem e_lst (h : DA X np He es ws) : DE X np He (.List es pos) (cLst ws) := by
  refine PE.weak (pe_lst h) fun σ H Q ⟨env, Q0, R, w, q⟩ => ⟨env, _, R, w, fun rl e1 vs H1 w1 s1 r1 => ?_⟩
  obtain ⟨ds, hd, im, sz, w1⟩ := r1.rs s1.rep w1
  refine ⟨by rw [← hd.length]; exact line_of sz, fun p np' => ?_⟩
  have ex : Ext H1 (upd H1 p (.lst vs)) := .new np'
  refine q _ e1 _ _ w1 (s1.trans (.ext s1.rep ex)) ⟨⟨p, vs, rfl, upd_same, RpIs.kp ex.kp ds vs (hd.imm im)⟩, fun _ c e => ?_⟩
  cases e
  exact s1.dom p np'

/-! ### calls of what is built in -/
abbrev FA := List D → (D → Prop) → Prop
def CaD (K : PySem.W.Frag) (r : List V → Hp → VK → Prop) (f : FA) : Prop := ∀ (H : Hp) (ds : List D) (vs : List V) (k : D → Prop) (Q : VK), RpVs K H ds vs → f ds k →
  (∀ z u H', k z → Ext H H' → RpV K H' z u → (isL z = true → ∀ a, u = .ref a → H a = none) → Q u H') → r vs H Q
def cBi (f : FA) (ws : WA) : W := fun env Q => ws env fun rl e1 => rsl e1 rl fun ds => f ds fun z => Q (.val z) e1
theorem bi_core {r : List V → Hp → VK → Prop} {f : FA} (h : CaD X.K r f) : ∀ σ H Q, rE X.K np He (cBi f ws) σ H Q → tCB r (rA X.K np He ws) σ H Q := by
  intro σ H Q ⟨env, Q0, R, w, q⟩
  refine ⟨env, _, R, w, fun rl e1 vs H1 w1 s1 r1 => ?_⟩
  obtain ⟨ds, hd, w1⟩ := r1.rs s1.rep w1
  refine h H1 ds vs _ Q hd w1 fun z u H' k ex rz fz => ?_
  exact q _ e1 u H' k (s1.trans (.ext s1.rep ex)) ⟨rz, fun n c e => s1.dom c (fz n c e)⟩
theorem e_bi {id : String} {r : List V → Hp → VK → Prop} {f : FA} {x : Str} {p : Pos} (hc : CallR X (.builtin id) r) (h : CaD X.K r f) (hm : X.mg x = none) (hv : bootBuiltins x = some (.builtin id)) (ha : DA X np He (a :: es) ws) (hg : Gl X x := by rfl)
    (hn : x ≠ "__name__" := by decide) (hdb : (x == ("__debug__" : Str)) = false := by decide) (he : starEach (a :: es) X.env = (false, eval a X.env) :: starEach es X.env := by rfl) (hpl : (backTo pos (starEach es X.env)).any (·.1) = false := by rfl) :
    DE X np He (.Call (.Name x p) (a :: es) [] pos) (cBi f ws) := PE.weak (pe_callB hc hg hm hv ha hn hdb he hpl) (bi_core h)
theorem e_ty {T : String} {r : List V → Hp → VK → Prop} {f : FA} {x : Str} {p : Pos} (hc : CallR X (.type T) r) (h : CaD X.K r f) (hm : X.mg x = none) (hv : bootBuiltins x = some (.type T)) (ha : DA X np He (a :: es) ws) (hg : Gl X x := by rfl)
    (hn : x ≠ "__name__" := by decide) (hdb : (x == ("__debug__" : Str)) = false := by decide) (he : starEach (a :: es) X.env = (false, eval a X.env) :: starEach es X.env := by rfl) (hpl : (backTo pos (starEach es X.env)).any (·.1) = false := by rfl) :
    DE X np He (.Call (.Name x p) (a :: es) [] pos) (cBi f ws) := PE.weak (pe_callTy hc hg hm hv ha hn hdb he hpl) (bi_core h)
theorem RpVs.one {K : PySem.W.Frag} {H : Hp} {d : D} {vs : List V} (h : RpVs K H [d] vs) : ∃ v, vs = [v] ∧ RpV K H d v := by
  obtain ⟨v, r, rfl, h1, h2⟩ := h
  cases (show r = [] from h2)
  exact ⟨v, rfl, h1⟩
theorem RpVs.two {K : PySem.W.Frag} {H : Hp} {d e : D} {vs : List V} (h : RpVs K H [d, e] vs) : ∃ v w, vs = [v, w] ∧ RpV K H d v ∧ RpV K H e w := by
  obtain ⟨v, r, rfl, h1, h2⟩ := h
  obtain ⟨w, rfl, h3⟩ := RpVs.one h2
  exact ⟨v, w, rfl, h1, h3⟩
end
end DL

namespace DL
open PySem PySem.Spec PyProof.Rows L2
section
variable {X : Cx} {np : Nat} {He : Hp} {a b c e : Expr} {es : List Expr} {wa wb wc : W} {ws : WA} {pos : Pos}

/-! ### built-ins -/
def on1 (f : D → (D → Prop) → Prop) : FA := fun ds k => match ds with
  | [d] => f d k
  | _ => False
theorem on1_of {f : D → (D → Prop) → Prop} {ds : List D} {k : D → Prop} (h : on1 f ds k) : ∃ d, ds = [d] ∧ f d k := by
  unfold on1 at h
  split at h
  · exact ⟨_, rfl, h⟩
  · exact h.elim
def onS (f : List D → (D → Prop) → Prop) : FA := on1 fun d k => match seqD d with
  | some xs => f xs k
  | none => False
theorem onS_of {f : List D → (D → Prop) → Prop} {ds : List D} {k : D → Prop} (h : onS f ds k) : ∃ d xs, ds = [d] ∧ seqD d = some xs ∧ f xs k := by
  obtain ⟨d, e, g⟩ := on1_of h
  split at g
  · exact ⟨d, _, e, by assumption, g⟩
  · exact g.elim
def on2I (f : Int → Int → (D → Prop) → Prop) : FA := fun ds k => match ds with
  | [.int i, .int j] => f i j k
  | _ => False
theorem on2I_of {f : Int → Int → (D → Prop) → Prop} {ds : List D} {k : D → Prop} (h : on2I f ds k) : ∃ i j, ds = [.int i, .int j] ∧ f i j k := by
  unfold on2I at h
  split at h
  · exact ⟨_, _, rfl, h⟩
  · exact h.elim
def fLen : FA := onS fun xs k => k (.int xs.length)
theorem cad_len : CaD X.K (fun xs H Q => ∃ p ys, xs = [.ref p] ∧ (SqL X.K H p ys ∨ SqT X.K H p ys) ∧ Q (.int ys.length) H) fLen := by
  intro H ds vs k Q r h q
  obtain ⟨d, xs, rfl, e, h⟩ := onS_of h
  obtain ⟨v, rfl, rv⟩ := r.one
  obtain ⟨p, us, rfl, s, ru⟩ := rv.seq e
  exact ⟨p, us, rfl, s, by rw [← ru.length]; exact q _ _ H h (.refl H) rfl (fun n => by simp [isL] at n)⟩
theorem e_len {p : Pos} (hm : X.mg "len" = none) (ha : DE X np He a wa) (hg : Gl X "len" := by rfl) (he : starEach [a] X.env = (false, eval a X.env) :: starEach [] X.env := by rfl) :
    DE X np He (.Call (.Name "len" p) [a] [] pos) (cBi fLen (cCons wa cNil)) := e_bi call_len_seq cad_len hm PySem.boot_len (a_cons ha a_nil he) hg (he := he)
def fInt : FA := on1 fun d k => match d with
  | .int i => k (.int i)
  | .bl c => k (.int (if c then 1 else 0))
  | _ => False
theorem e_int1 {p : Pos} (hm : X.mg "int" = none) (ha : DE X np He a wa) (hg : Gl X "int" := by rfl) (he : starEach [a] X.env = (false, eval a X.env) :: starEach [] X.env := by rfl) :
    DE X np He (.Call (.Name "int" p) [a] [] pos) (cBi fInt (cCons wa cNil)) := by
  refine e_ty call_int1 ?_ hm (by decide +kernel) (a_cons ha a_nil he) hg (he := he)
  intro H ds vs k Q r h q
  obtain ⟨d, rfl, h⟩ := on1_of h
  obtain ⟨v, rfl, rv⟩ := r.one
  cases d <;> first | exact h.elim | skip
  · cases rv
    exact .inr ⟨_, rfl, q _ _ H h (.refl H) rfl (fun n => by simp [isL] at n)⟩
  · cases rv
    exact .inl ⟨_, rfl, q _ _ H h (.refl H) rfl (fun n => by simp [isL] at n)⟩
def fAbs : FA := on1 fun d k => match d with
  | .int i => k (.int (if i < 0 then -i else i))
  | _ => False
theorem e_abs {p : Pos} (hm : X.mg "abs" = none) (ha : DE X np He a wa) (hg : Gl X "abs" := by rfl) (he : starEach [a] X.env = (false, eval a X.env) :: starEach [] X.env := by rfl) :
    DE X np He (.Call (.Name "abs" p) [a] [] pos) (cBi fAbs (cCons wa cNil)) := by
  refine e_bi call_abs ?_ hm (by decide +kernel) (a_cons ha a_nil he) hg (he := he)
  intro H ds vs k Q r h q
  obtain ⟨d, rfl, h⟩ := on1_of h
  obtain ⟨v, rfl, rv⟩ := r.one
  cases d <;> first | exact h.elim | skip
  cases rv
  exact ⟨_, rfl, q _ _ H h (.refl H) rfl (fun n => by simp [isL] at n)⟩
def fMax : FA := on2I fun i j k => k (.int (if j > i then j else i))
def fMin : FA := on2I fun i j k => k (.int (if j < i then j else i))
def fDm : FA := on2I fun i j k => CDiv i j ∧ k (.tup [.int (i / j), .int (i % j)])
theorem e_max {p : Pos} (hc : X.calm = true) (hm : X.mg "max" = none) (ha : DE X np He a wa) (hb : DE X np He b wb) (hg : Gl X "max" := by rfl) (he : starEach [a, b] X.env = (false, eval a X.env) :: starEach [b] X.env := by rfl) (he2 : starEach [b] X.env = (false, eval b X.env) :: starEach [] X.env := by rfl) (hpl : (backTo pos (starEach [b] X.env)).any (·.1) = false := by rfl) :
    DE X np He (.Call (.Name "max" p) [a, b] [] pos) (cBi fMax (cCons wa (cCons wb cNil))) := by
  refine e_bi (call_max2 hc) ?_ hm (by decide +kernel) (a_cons ha (a_cons hb a_nil he2) he) hg (he := he) (hpl := hpl)
  intro H ds vs k Q r h q
  obtain ⟨i, j, rfl, h⟩ := on2I_of h
  obtain ⟨v, w, rfl, rv, rw'⟩ := r.two
  cases rv; cases rw'
  exact ⟨i, j, rfl, q _ _ H h (.refl H) rfl (fun n => by simp [isL] at n)⟩
theorem e_min {p : Pos} (hc : X.calm = true) (hm : X.mg "min" = none) (ha : DE X np He a wa) (hb : DE X np He b wb) (hg : Gl X "min" := by rfl) (he : starEach [a, b] X.env = (false, eval a X.env) :: starEach [b] X.env := by rfl) (he2 : starEach [b] X.env = (false, eval b X.env) :: starEach [] X.env := by rfl) (hpl : (backTo pos (starEach [b] X.env)).any (·.1) = false := by rfl) :
    DE X np He (.Call (.Name "min" p) [a, b] [] pos) (cBi fMin (cCons wa (cCons wb cNil))) := by
  refine e_bi (call_min2 hc) ?_ hm (by decide +kernel) (a_cons ha (a_cons hb a_nil he2) he) hg (he := he) (hpl := hpl)
  intro H ds vs k Q r h q
  obtain ⟨i, j, rfl, h⟩ := on2I_of h
  obtain ⟨v, w, rfl, rv, rw'⟩ := r.two
  cases rv; cases rw'
  exact ⟨i, j, rfl, q _ _ H h (.refl H) rfl (fun n => by simp [isL] at n)⟩
theorem e_divmod {p : Pos} (hm : X.mg "divmod" = none) (ha : DE X np He a wa) (hb : DE X np He b wb) (hg : Gl X "divmod" := by rfl) (he : starEach [a, b] X.env = (false, eval a X.env) :: starEach [b] X.env := by rfl) (he2 : starEach [b] X.env = (false, eval b X.env) :: starEach [] X.env := by rfl) (hpl : (backTo pos (starEach [b] X.env)).any (·.1) = false := by rfl) :
    DE X np He (.Call (.Name "divmod" p) [a, b] [] pos) (cBi fDm (cCons wa (cCons wb cNil))) := by
  refine e_bi call_divmod ?_ hm (by decide +kernel) (a_cons ha (a_cons hb a_nil he2) he) hg (he := he) (hpl := hpl)
  intro H ds vs k Q r h q
  obtain ⟨i, j, rfl, hc, h⟩ := on2I_of h
  obtain ⟨v, w, rfl, rv, rw'⟩ := r.two
  cases rv; cases rw'
  refine ⟨i, j, rfl, hc, fun p np' => q _ _ _ h (.new np') ?_ (fun n => by simp [isL] at n)⟩
  show RpI _ _ _ _
  simp only [RpI, RpIs]
  exact ⟨p, _, rfl, .inl (.inl upd_same), _, _, rfl, rfl, _, _, rfl, rfl, rfl⟩
def fList : FA := onS fun xs k => k (.lst xs)
def fTuple : FA := onS fun xs k => k (.tup xs)
theorem e_list {p : Pos} (hm : X.mg "list" = none) (ha : DE X np He a wa) (hg : Gl X "list" := by rfl) (he : starEach [a] X.env = (false, eval a X.env) :: starEach [] X.env := by rfl) :
    DE X np He (.Call (.Name "list" p) [a] [] pos) (cBi fList (cCons wa cNil)) := by
  refine e_ty call_list_of ?_ hm (by decide +kernel) (a_cons ha a_nil he) hg (he := he)
  intro H ds vs k Q r h q
  obtain ⟨d, xs, rfl, e, h⟩ := onS_of h
  obtain ⟨v, rfl, rv⟩ := r.one
  obtain ⟨p, us, rfl, s, ru⟩ := rv.seq e
  refine ⟨p, us, rfl, s, fun l nl => q _ _ _ h (.new nl) ⟨l, us, rfl, upd_same, RpIs.kp (Ext.new nl).kp xs us ru⟩ (fun _ a e => ?_)⟩
  cases e
  exact nl
theorem e_tuple {p : Pos} (hm : X.mg "tuple" = none) (ha : DE X np He a wa) (hg : Gl X "tuple" := by rfl) (he : starEach [a] X.env = (false, eval a X.env) :: starEach [] X.env := by rfl) :
    DE X np He (.Call (.Name "tuple" p) [a] [] pos) (cBi fTuple (cCons wa cNil)) := by
  refine e_ty call_tuple_of ?_ hm (by decide +kernel) (a_cons ha a_nil he) hg (he := he)
  intro H ds vs k Q r h q
  obtain ⟨d, xs, rfl, e, h⟩ := onS_of h
  obtain ⟨v, rfl, rv⟩ := r.one
  obtain ⟨p, us, rfl, s, ru⟩ := rv.seq e
  rcases s with s | s
  · refine ⟨p, us, rfl, .inl ⟨s, fun l nl => q _ _ _ h (.new nl) ?_ (fun n => by simp [isL] at n)⟩⟩
    show RpI _ _ _ _
    simp only [RpI]
    exact ⟨l, us, rfl, .inl (.inl upd_same), RpIs.kp (Ext.new nl).kp xs us ru⟩
  · refine ⟨p, us, rfl, .inr ⟨s, q _ _ H h (.refl H) ?_ (fun n => by simp [isL] at n)⟩⟩
    show RpI _ _ _ _
    simp only [RpI]
    exact ⟨p, us, rfl, s, ru⟩
/-- the ints, the bools of a list -/
def intsD : List D → Option (List Int)
  | [] => some []
  | .int i :: r => (intsD r).map (i :: ·)
  | _ => none
def bolsD : List D → Option (List Bool)
  | [] => some []
  | .bl i :: r => (bolsD r).map (i :: ·)
  | _ => none
theorem intsD_ok {K : PySem.W.Frag} {H : Hp} : ∀ {ds : List D} {vs : List V} {ns : List Int}, RpIs K H ds vs → intsD ds = some ns → vs = ns.map V.int
  | [], vs, ns, r, h => by
    simp only [RpIs] at r
    simp only [intsD, Option.some.injEq] at h
    subst r h
    rfl
  | d :: ds, vs, ns, r, h => by
    cases d <;> first | (simp only [intsD] at h; cases h; done) | skip
    simp only [RpIs, RpI] at r
    obtain ⟨v, r', rfl, rfl, h2⟩ := r
    simp only [intsD, Option.map_eq_some_iff] at h
    obtain ⟨ms, e, rfl⟩ := h
    rw [List.map_cons, intsD_ok h2 e]
theorem bolsD_ok {K : PySem.W.Frag} {H : Hp} : ∀ {ds : List D} {vs : List V} {ns : List Bool}, RpIs K H ds vs → bolsD ds = some ns → vs = ns.map V.bl
  | [], vs, ns, r, h => by
    simp only [RpIs] at r
    simp only [bolsD, Option.some.injEq] at h
    subst r h
    rfl
  | d :: ds, vs, ns, r, h => by
    cases d <;> first | (simp only [bolsD] at h; cases h; done) | skip
    simp only [RpIs, RpI] at r
    obtain ⟨v, r', rfl, rfl, h2⟩ := r
    simp only [bolsD, Option.map_eq_some_iff] at h
    obtain ⟨ms, e, rfl⟩ := h
    rw [List.map_cons, bolsD_ok h2 e]
theorem intsD_map (ns : List Int) : intsD (ns.map D.int) = some ns := by
  induction ns with
  | nil => rfl
  | cons n r ih => simp [intsD, ih]
theorem bolsD_map (ns : List Bool) : bolsD (ns.map D.bl) = some ns := by
  induction ns with
  | nil => rfl
  | cons n r ih => simp [bolsD, ih]
/-- a list only -/
def onL (f : List D → (D → Prop) → Prop) : FA := on1 fun d k => match d with
  | .lst xs => f xs k
  | _ => False
theorem onL_of {f : List D → (D → Prop) → Prop} {ds : List D} {k : D → Prop} (h : onL f ds k) : ∃ xs, ds = [.lst xs] ∧ f xs k := by
  obtain ⟨d, e, g⟩ := on1_of h
  split at g
  · exact ⟨_, e, g⟩
  · exact g.elim
def fSum : FA := onL fun xs k => match intsD xs with
  | some ns => k (.int ns.sum)
  | none => False
def fAny : FA := onL fun xs k => match bolsD xs with
  | some ns => k (.bl (ns.any id))
  | none => False
theorem e_sum {p : Pos} (hc : X.calm = true) (hm : X.mg "sum" = none) (ha : DE X np He a wa) (hg : Gl X "sum" := by rfl) (he : starEach [a] X.env = (false, eval a X.env) :: starEach [] X.env := by rfl) :
    DE X np He (.Call (.Name "sum" p) [a] [] pos) (cBi fSum (cCons wa cNil)) := by
  refine e_bi (cr_sum hc) ?_ hm (by decide +kernel) (a_cons ha a_nil he) hg (he := he)
  intro H ds vs k Q r h q
  obtain ⟨xs, e0, g⟩ := onL_of h
  subst e0
  obtain ⟨v, rfl, rv⟩ := r.one
  obtain ⟨p, us, rfl, s, ru⟩ := rv
  split at g
  · rename_i ns e
    have e2 := intsD_ok ru e
    subst e2
    exact ⟨p, ns, rfl, .of s, q _ _ H g (.refl H) rfl (fun n => by simp [isL] at n)⟩
  · exact g.elim
theorem e_any {p : Pos} (hc : X.calm = true) (hm : X.mg "any" = none) (ha : DE X np He a wa) (hg : Gl X "any" := by rfl) (he : starEach [a] X.env = (false, eval a X.env) :: starEach [] X.env := by rfl) :
    DE X np He (.Call (.Name "any" p) [a] [] pos) (cBi fAny (cCons wa cNil)) := by
  refine e_bi (cr_any hc) ?_ hm (by decide +kernel) (a_cons ha a_nil he) hg (he := he)
  intro H ds vs k Q r h q
  obtain ⟨xs, e0, g⟩ := onL_of h
  subst e0
  obtain ⟨v, rfl, rv⟩ := r.one
  obtain ⟨p, us, rfl, s, ru⟩ := rv
  split at g
  · rename_i ns e
    have e2 := bolsD_ok ru e
    subst e2
    exact ⟨p, ns, rfl, .of s, q _ _ H g (.refl H) rfl (fun n => by simp [isL] at n)⟩
  · exact g.elim

/-! ### isinstance -/
def tyN : D → String
  | .non => "NoneType" | .bl _ => "bool" | .int _ => "int" | .str _ => "str" | .tup _ => "tuple" | .lst _ => "list" | .rol _ => "list"
theorem tyN_ok {K : PySem.W.Frag} {H : Hp} {d : D} {v : V} (h : RpV K H d v) : TyX K H v (.type (tyN d)) := by
  cases d with
  | non => cases h; exact .base .non
  | bl b => cases h; exact .base (.bl b)
  | int b => cases h; exact .base (.int b)
  | str b => cases h; exact .base (.str b)
  | lst ds => obtain ⟨a, vs, rfl, e, _⟩ := h; exact .base (.lst e)
  | rol ds =>
    obtain ⟨a, vs, rfl, s, _⟩ := (show ∃ a vs, v = .ref a ∧ SqR K H a vs ∧ RpIs K H ds vs by simpa only [RpV, RpI] using h)
    rcases s with ⟨o, s⟩ | ⟨o, its, n, s, c, _⟩
    · exact .base (.frz s)
    · exact .kList s c
  | tup ds =>
    obtain ⟨a, vs, rfl, s, _⟩ := (show ∃ a vs, v = .ref a ∧ SqT K H a vs ∧ RpIs K H ds vs by simpa only [RpV, RpI] using h)
    rcases s with (s | ⟨o, s⟩) | ⟨o, its, n, s, c, _⟩
    · exact .base (.tup s)
    · exact .fTuple s
    · exact .kTuple s c
inductive Ty5 where
  | tuple | list | bool | int | str
def Ty5.nm : Ty5 → String
  | .tuple => "tuple" | .list => "list" | .bool => "bool" | .int => "int" | .str => "str"
def isT : D → Ty5 → Bool
  | .tup _, .tuple => true
  | .lst _, .list => true
  | .rol _, .list => true
  | .bl _, .bool => true
  | .bl _, .int => true
  | .int _, .int => true
  | .str _, .str => true
  | _, _ => false
theorem kit_all (d : D) (T : Ty5) : kitB (tyN d) T.nm = some (isT d T) := by
  cases d <;> cases T <;> (simp only [tyN, Ty5.nm, isT]; decide +kernel)
def cIsi (T : Ty5) (wa : W) : W := fun env Q => wa env fun ra e1 => rs e1 ra fun x => Q (.val (.bl (isT x T))) e1
theorem e_isi (T : Ty5) {x : Str} {p p2 : Pos} (hm : X.mg "isinstance" = none) (hx : X.mg x = none) (hv : bootBuiltins x = some (.type T.nm)) (ha : DE X np He a wa) (hg : Gl X "isinstance" := by rfl) (hg2 : Gl X x := by rfl) (hn : x ≠ "__name__" := by decide)
    (hd : (x == ("__debug__" : Str)) = false := by decide) (he : starEach [a, .Name x p2] X.env = (false, eval a X.env) :: starEach [.Name x p2] X.env := by rfl) (hpl : (backTo pos (starEach [.Name x p2] X.env)).any (·.1) = false := by rfl) :
    DE X np He (.Call (.Name "isinstance" p) [a, .Name x p2] [] pos) (cIsi T wa) := by
  refine PE.weak (pe_callB call_isi hg hm (by decide +kernel) (pa_cons ha (pa_cons (pe_bltn (v := .ty T.nm) hg2 hx hv rfl hn hd) pa_nil) he) (he := he) (hpl := hpl)) fun σ H Q ⟨env, Q0, R, w, q⟩ => ⟨env, _, R, w, fun ra e1 v1 H1 w1 s1 r1 => ?_⟩
  obtain ⟨d, hd, w1⟩ := r1.rs s1.rep w1
  exact ⟨v1, .ty T.nm, .type (tyN d), .type T.nm, isT d T, rfl, .ty T.nm, tyN_ok hd, kit_ty (kit_all d T), q _ e1 _ H1 w1 s1 ⟨rfl, fun n => by simp [isL] at n⟩⟩
theorem kit2 {K : PySem.W.Frag} {d : D} {T U : Ty5} : PySem.W.kitAny K (.type (tyN d)) [.type T.nm, .type U.nm] = some (isT d T || isT d U) := by
  refine kitAny_cons (kit_ty (kit_all d T)) (fun h => ?_) (fun h => by rw [h]; rfl)
  refine kitAny_cons (kit_ty (kit_all d U)) (fun h' => ?_) (fun h' => by rw [h, h']; rfl)
  rw [h, h']
  rfl
def cIsi2 (T U : Ty5) (wa : W) : W := fun env Q => wa env fun ra e1 => rs e1 ra fun x => Q (.val (.bl (isT x T || isT x U))) e1
theorem e_isi2 (T U : Ty5) {x y : Str} {k : Nat} {p p2 p3 p4 : Pos} (hm : X.mg "isinstance" = none) (hx : X.mg x = none) (hy : X.mg y = none) (hv : bootBuiltins x = some (.type T.nm)) (hw : bootBuiltins y = some (.type U.nm)) (ha : DE X np He a wa)
    (hg : Gl X "isinstance" := by rfl) (hg2 : Gl X x := by rfl) (hg3 : Gl X y := by rfl) (hn : x ≠ "__name__" := by decide) (hn2 : y ≠ "__name__" := by decide)
    (hd : (x == ("__debug__" : Str)) = false := by decide) (hd2 : (y == ("__debug__" : Str)) = false := by decide) (he : starEach [a, .Tuple [.Name x p2, .Name y p3] k p4] X.env = (false, eval a X.env) :: starEach [.Tuple [.Name x p2, .Name y p3] k p4] X.env := by rfl) (hpl : (backTo pos (starEach [.Tuple [.Name x p2, .Name y p3] k p4] X.env)).any (·.1) = false := by rfl) :
    DE X np He (.Call (.Name "isinstance" p) [a, .Tuple [.Name x p2, .Name y p3] k p4] [] pos) (cIsi2 T U wa) := by
  refine PE.weak (pe_callB call_isiT hg hm (by decide +kernel) (pa_cons ha (pa_cons (pe_tup (pa_cons (pe_bltn (v := .ty T.nm) hg2 hx hv rfl hn hd) (pa_cons (pe_bltn (v := .ty U.nm) hg3 hy hw rfl hn2 hd2) pa_nil))) pa_nil) he) (he := he) (hpl := hpl)) fun σ H Q ⟨env, Q0, R, w, q⟩ => ⟨env, _, R, w, fun ra e1 v1 H1 w1 s1 r1 => ?_⟩
  refine ⟨by rw [sizeLine_eq]; show 2 ≤ 16777216; decide, fun p np' => ?_⟩
  have ex : Ext H1 (upd H1 p (.tup [.ty T.nm, .ty U.nm])) := .new np'
  have s2 := s1.trans (.ext s1.rep ex)
  have r2 := r1.keep R s1 (.ext s1.rep ex)
  obtain ⟨d, hd, w1⟩ := r2.rs s2.rep w1
  exact ⟨v1, p, _, .type (tyN d), [.type T.nm, .type U.nm], isT d T || isT d U, rfl, upd_same, .cons (.ty T.nm) (.cons (.ty U.nm) .nil), tyN_ok hd, kit2, q _ e1 _ _ w1 s2 ⟨rfl, fun n => by simp [isL] at n⟩⟩

/-! ### lists: +, * , in -/
def fAddG : F2 := fun x y k => match x, y with
  | .int i, .int j => k (.int (i + j))
  | .lst xs, .lst ys => xs.length + ys.length ≤ 1000000 ∧ k (.lst (xs ++ ys))
  | .tup xs, .tup ys => xs.length + ys.length ≤ 1000000 ∧ k (.tup (xs ++ ys))
  | _, _ => False
theorem opd_addG : OpD X.K (fun x y H Q => rI0 (fun i j => V.int (i + j)) x y H Q ∨ rCat x y H Q ∨ rCatA X.K x y H Q) fAddG := by
  intro H x y v w k Q rx ry h q
  unfold fAddG at h
  split at h
  · cases rx; cases ry
    exact .inl ⟨_, _, rfl, rfl, q _ _ H h (.refl H) rfl (fun n => by simp [isL] at n)⟩
  · obtain ⟨a1, vs, rfl, e1, r1⟩ := rx
    obtain ⟨a2, us, rfl, e2, r2⟩ := ry
    refine .inr (.inl ⟨a1, a2, vs, us, rfl, rfl, e1, e2, by rw [← r1.length, ← r2.length]; exact line_of h.1, fun p np' => ?_⟩)
    have ex : Ext H (upd H p (.lst (vs ++ us))) := .new np'
    refine q _ _ _ h.2 ex ⟨p, _, rfl, upd_same, RpIs.kp ex.kp _ _ (r1.append r2)⟩ (fun _ c e => ?_)
    cases e
    exact np'
  · obtain ⟨a1, vs, rfl, e1, r1⟩ := rx
    obtain ⟨a2, us, rfl, e2, r2⟩ := ry
    refine .inr (.inr ⟨a1, a2, vs, us, rfl, rfl, e1, e2, by rw [← r1.length, ← r2.length]; exact line_of h.1, fun n1 => ?_, fun _ n2 => ?_, fun _ _ p np' => ?_⟩)
    · subst n1
      have hxs := List.eq_nil_of_length_eq_zero (r1.length.trans rfl)
      subst hxs
      exact q _ _ H h.2 (.refl H) ⟨a2, us, rfl, e2, r2⟩ (fun n => by simp [isL] at n)
    · subst n2
      have hys := List.eq_nil_of_length_eq_zero (r2.length.trans rfl)
      subst hys
      exact q _ _ H h.2 (.refl H) ⟨a1, vs, rfl, e1, by rw [List.append_nil]; exact r1⟩ (fun n => by simp [isL] at n)
    · have ex : Ext H (upd H p (.tup (vs ++ us))) := .new np'
      exact q _ _ _ h.2 ex ⟨p, _, rfl, .inl (.inl upd_same), RpIs.kp ex.kp _ _ (r1.append r2)⟩ (fun n => by simp [isL] at n)
  · exact h.elim
theorem e_addG (ha : DE X np He a wa) (hb : DE X np He b wb) : DE X np He (.BinOp a .Add b pos) (cOp fAddG wa wb) := e_op (op_add.or (op_cat.or op_catA)) opd_addG ha hb
def fMulL : F2 := fun x y k => match x, y with
  | .lst xs, .int n => 0 ≤ n ∧ n ≤ 1000000 ∧ xs.length * n.toNat ≤ 1000000 ∧ k (.lst (List.replicate n.toNat xs).flatten)
  | _, _ => False
theorem RpIs.rep {K : PySem.W.Frag} {H : Hp} {ds : List D} {vs : List V} (h : RpIs K H ds vs) : ∀ n : Nat, RpIs K H (List.replicate n ds).flatten (List.replicate n vs).flatten
  | 0 => by simp [RpIs]
  | n + 1 => by
    rw [List.replicate_succ, List.replicate_succ, List.flatten_cons, List.flatten_cons]
    exact h.append (RpIs.rep h n)
theorem opd_mulL : OpD X.K rRep fMulL := by
  intro H x y v w k Q rx ry h q
  unfold fMulL at h
  split at h
  · cases ry
    obtain ⟨h0, h1, h2, h⟩ := h
    obtain ⟨a1, vs, rfl, e1, r1⟩ := rx
    refine ⟨a1, _, vs, rfl, rfl, e1, by omega, by omega, by rw [← r1.length]; exact line_of h2, fun p np' => ?_⟩
    refine q _ _ _ h (.new np') ⟨p, _, rfl, upd_same, RpIs.kp (Ext.new np').kp _ _ (r1.rep _)⟩ (fun _ c e => ?_)
    cases e
    exact np'
  · exact h.elim
theorem e_mulL (ha : DE X np He a wa) (hb : DE X np He b wb) : DE X np He (.BinOp a .Mult b pos) (cOp fMulL wa wb) := e_op op_rep opd_mulL ha hb
/-- a flat value within a flat list -/
def flatD : D → Bool
  | .non => true | .bl _ => true | .int _ => true | .str _ => true
  | _ => false
def eqF : D → D → Bool
  | .non, .non => true
  | .bl a, .bl b => a == b
  | .bl a, .int b => (if a then 1 else 0) == b
  | .int a, .bl b => a == (if b then 1 else 0)
  | .int a, .int b => a == b
  | .str a, .str b => a == b
  | _, _ => false
def flatA : List D → Bool
  | [] => true
  | d :: r => flatD d && flatA r
def fIn (neg : Bool) : F2 := fun x y k => match seqD y with
  | some ys => flatD x = true ∧ flatA ys = true ∧ k (.bl (if neg then !(ys.any fun y => eqF y x) else ys.any fun y => eqF y x))
  | none => False
theorem flat_ok {K : PySem.W.Frag} {H : Hp} {d : D} {v : V} (h : RpV K H d v) (f : flatD d = true) : flatV v = true := by
  cases d <;> first | (cases h; rfl) | (simp [flatD] at f)
theorem eqF_ok {K : PySem.W.Frag} {H : Hp} {d e : D} {v w : V} (h : RpV K H d v) (g : RpV K H e w) (f : flatD d = true) (f' : flatD e = true) : eqV v w = eqF d e := by
  cases d <;> first | (simp [flatD] at f; done) | skip
  all_goals cases e <;> first | (simp [flatD] at f'; done) | (cases h; cases g; rfl)
theorem flatA_ok {K : PySem.W.Frag} {H : Hp} {d : D} {v : V} (hd : RpV K H d v) (fd : flatD d = true) : ∀ {ys : List D} {us : List V}, RpIs K H ys us → flatA ys = true → us.all flatV = true ∧ inV v us = ys.any fun y => eqF y d
  | [], us, r, _ => by
    simp only [RpIs] at r
    subst r
    exact ⟨rfl, rfl⟩
  | y :: ys, us, r, f => by
    simp only [RpIs] at r
    obtain ⟨u, r', rfl, h1, h2⟩ := r
    simp only [flatA, Bool.and_eq_true] at f
    obtain ⟨i1, i2⟩ := flatA_ok hd fd h2 f.2
    have h1' : RpV K H y u := .of h1
    refine ⟨by rw [List.all_cons, flat_ok h1' f.1, i1]; rfl, ?_⟩
    unfold inV at i2 ⊢
    rw [List.any_cons, List.any_cons, i2, eqF_ok h1' hd f.1 fd]
theorem opd_in {neg : Bool} : OpD X.K (rIn X.K neg) (fIn neg) := by
  intro H x y v w k Q rx ry h q
  unfold fIn at h
  split at h
  · rename_i ys e
    obtain ⟨f1, f2, h⟩ := h
    obtain ⟨p, us, rfl, s, ru⟩ := ry.seq e
    obtain ⟨i1, i2⟩ := flatA_ok rx f1 ru f2
    refine ⟨p, us, rfl, s, flat_ok rx f1, i1, ?_⟩
    rw [i2]
    exact q _ _ H h (.refl H) rfl (fun n => by simp [isL] at n)
  · exact h.elim
theorem e_notIn (ha : DE X np He a wa) (hb : DE X np He b wb) (hm : behindInMarks .NotIn b = false := by with_unfolding_all rfl) : DE X np He (.Compare a [.NotIn] [b] pos) (cOp (fIn true) wa wb) := e_cmp op_notIn_seq opd_in ha hb hm
theorem t_notIn (ha : DE X np He a wa) (hb : DE X np He b wb) (hm : behindInMarks .NotIn b = false := by with_unfolding_all rfl) : DT X np He (.Compare a [.NotIn] [b] pos) (cOp (fIn true) wa wb) := t_cmp op_notIn_seq opd_in ha hb hm
theorem e_in (ha : DE X np He a wa) (hb : DE X np He b wb) (hm : behindInMarks .In b = false := by with_unfolding_all rfl) : DE X np He (.Compare a [.In] [b] pos) (cOp (fIn false) wa wb) := e_cmp op_in_seq opd_in ha hb hm
theorem t_in (ha : DE X np He a wa) (hb : DE X np He b wb) (hm : behindInMarks .In b = false := by with_unfolding_all rfl) : DT X np He (.Compare a [.In] [b] pos) (cOp (fIn false) wa wb) := t_cmp op_in_seq opd_in ha hb hm

/-! ### slices -/
def cutD (xs : List D) (lo hi : Option Int) : List D := (xs.drop (HT.sIx xs.length 0 lo)).take (HT.sIx xs.length xs.length hi - HT.sIx xs.length 0 lo)
theorem cut_ok {K : PySem.W.Frag} {H : Hp} {ds : List D} {vs : List V} (r : RpIs K H ds vs) (lo hi : Option Int) : RpIs K H (cutD ds lo hi) (cutV vs lo hi) := by
  unfold cutD cutV
  rw [r.length]
  exact RpIs.take _ (RpIs.drop _ r)
def slD (x : D) (lo hi : Option Int) (k : D → Prop) : Prop := match x with
  | .lst xs => k (.lst (cutD xs lo hi))
  | .rol xs => k (.lst (cutD xs lo hi))
  | .tup xs => k (.tup (cutD xs lo hi))
  | _ => False
theorem whole_cut {xs : List V} {lo hi : Option Int} (h : HT.sIx xs.length 0 lo = 0 ∧ HT.sIx xs.length xs.length hi = xs.length) : cutV xs lo hi = xs := by
  unfold cutV
  rw [h.1, h.2]
  simp
theorem slr : SlR X (fun x lo hi H Q => rSlL X.K x lo hi H Q ∨ rSlA X.K x lo hi H Q) := sl_list.or sl_tupA
theorem sl_ok {H : Hp} {x : D} {v : V} {lo hi : Option Int} {k : D → Prop} {Q : VK} (rx : RpV X.K H x v) (h : slD x lo hi k)
    (q : ∀ z u H', k z → Ext H H' → RpV X.K H' z u → (isL z = true → ∀ a, u = .ref a → H a = none) → Q u H') : rSlL X.K v lo hi H Q ∨ rSlA X.K v lo hi H Q := by
  have lst : ∀ {xs : List D} {a : Addr} {vs : List V}, SqL X.K H a vs → RpIs X.K H xs vs → k (.lst (cutD xs lo hi)) → rSlL X.K (.ref a) lo hi H Q := fun {xs a vs} s r h => by
    refine ⟨a, vs, rfl, s, fun p np' => ?_⟩
    have ex : Ext H (upd H p (.lst (cutV vs lo hi))) := .new np'
    refine q _ _ _ h ex ⟨p, _, rfl, upd_same, RpIs.kp ex.kp _ _ (cut_ok r lo hi)⟩ (fun _ c e => ?_)
    cases e
    exact np'
  cases x with
  | lst xs => obtain ⟨a, vs, rfl, s, r⟩ := rx; exact .inl (lst (.of s) r h)
  | rol xs =>
    obtain ⟨a, vs, rfl, s, r⟩ := (show ∃ a vs, v = .ref a ∧ SqR X.K H a vs ∧ RpIs X.K H xs vs by simpa only [RpV, RpI] using rx)
    exact .inl (lst s.seq r h)
  | tup xs =>
    obtain ⟨a, vs, rfl, s, r⟩ := (show ∃ a vs, v = .ref a ∧ SqT X.K H a vs ∧ RpIs X.K H xs vs by simpa only [RpV, RpI] using rx)
    refine .inr ⟨a, vs, rfl, s, fun hw => ?_, fun _ p np' => ?_⟩
    · refine q _ _ H h (.refl H) ?_ (fun n => by simp [isL] at n)
      show RpI _ _ _ _
      simp only [RpI]
      refine ⟨a, vs, rfl, s, ?_⟩
      have := cut_ok r lo hi
      rw [whole_cut hw] at this
      exact this
    · have ex : Ext H (upd H p (.tup (cutV vs lo hi))) := .new np'
      refine q _ _ _ h ex ?_ (fun n => by simp [isL] at n)
      show RpI _ _ _ _
      simp only [RpI]
      exact ⟨p, _, rfl, .inl (.inl upd_same), RpIs.kp ex.kp _ _ (cut_ok r lo hi)⟩
  | _ => exact False.elim h
def isI (d : D) (k : Int → Prop) : Prop := match d with
  | .int i => k i
  | _ => False
theorem isI_of {d : D} {k : Int → Prop} (h : isI d k) : ∃ i, d = .int i ∧ k i := by
  unfold isI at h
  split at h
  · exact ⟨_, rfl, h⟩
  · exact h.elim
def cSlL (wa wb : W) : W := fun env Q => wa env fun ra e1 => wb e1 fun rb e2 => rs e2 rb fun y => isI y fun lo => rs e2 ra fun x => slD x (some lo) none fun z => Q (.val z) e2
def cSlH (wa wb : W) : W := fun env Q => wa env fun ra e1 => wb e1 fun rb e2 => rs e2 rb fun y => isI y fun hi => rs e2 ra fun x => slD x none (some hi) fun z => Q (.val z) e2
def cSlB (wa wb wc : W) : W := fun env Q => wa env fun ra e1 => wb e1 fun rb e2 => rs e2 rb fun y => isI y fun lo => wc e2 fun rc e3 => rs e3 rc fun u => isI u fun hi => rs e3 ra fun x => slD x (some lo) (some hi) fun z => Q (.val z) e3
theorem e_slL {p2 : Pos} (ha : DE X np He a wa) (hb : DE X np He b wb) : DE X np He (.Subscript a (.Slice (some b) none none p2) pos) (cSlL wa wb) := by
  refine PE.weak (pe_slice slr ha (po_some hb) po_none) fun σ H Q ⟨env, Q0, R, w, q⟩ => ⟨env, _, R, w, fun ra e1 v1 H1 w1 s1 r1 => ⟨e1, _, s1.rep, w1, fun rb e2 v2 H2 w2 s2 r2 => ?_⟩⟩
  obtain ⟨y, hy, w2⟩ := r2.rs s2.rep w2
  obtain ⟨i, rfl, w2⟩ := isI_of w2
  have s12 := s1.trans s2
  obtain ⟨x, hx, w2⟩ := (r1.keep R s1 s2).rs s2.rep w2
  exact ⟨i, hy, sl_ok hx w2 fun z u H' k ex rz fz => q _ e2 u H' k (s12.trans (.ext s2.rep ex)) ⟨rz, fun n c e => s12.dom c (fz n c e)⟩⟩
theorem e_slH {p2 : Pos} (ha : DE X np He a wa) (hb : DE X np He b wb) : DE X np He (.Subscript a (.Slice none (some b) none p2) pos) (cSlH wa wb) := by
  refine PE.weak (pe_slice slr ha po_none (po_some hb)) fun σ H Q ⟨env, Q0, R, w, q⟩ => ⟨env, _, R, w, fun ra e1 v1 H1 w1 s1 r1 => ⟨e1, _, s1.rep, w1, fun rb e2 v2 H2 w2 s2 r2 => ?_⟩⟩
  obtain ⟨y, hy, w2⟩ := r2.rs s2.rep w2
  obtain ⟨i, rfl, w2⟩ := isI_of w2
  have s12 := s1.trans s2
  obtain ⟨x, hx, w2⟩ := (r1.keep R s1 s2).rs s2.rep w2
  exact ⟨i, hy, sl_ok hx w2 fun z u H' k ex rz fz => q _ e2 u H' k (s12.trans (.ext s2.rep ex)) ⟨rz, fun n c e => s12.dom c (fz n c e)⟩⟩
theorem e_slB {p2 : Pos} (ha : DE X np He a wa) (hb : DE X np He b wb) (hc : DE X np He c wc) : DE X np He (.Subscript a (.Slice (some b) (some c) none p2) pos) (cSlB wa wb wc) := by
  refine PE.weak (pe_slice slr ha (po_some hb) (po_some hc)) fun σ H Q ⟨env, Q0, R, w, q⟩ => ⟨env, _, R, w, fun ra e1 v1 H1 w1 s1 r1 => ⟨e1, _, s1.rep, w1, fun rb e2 v2 H2 w2 s2 r2 => ?_⟩⟩
  obtain ⟨y, hy, w2⟩ := r2.rs s2.rep w2
  obtain ⟨i, rfl, w2⟩ := isI_of w2
  have s12 := s1.trans s2
  refine ⟨i, hy, e2, _, s2.rep, w2, fun rc e3 v3 H3 w3 s3 r3 => ?_⟩
  obtain ⟨u, hu, w3⟩ := r3.rs s3.rep w3
  obtain ⟨j, rfl, w3⟩ := isI_of w3
  have s13 := s12.trans s3
  obtain ⟨x, hx, w3⟩ := (r1.keep R s1 (s2.trans s3)).rs s3.rep w3
  exact ⟨j, hu, sl_ok hx w3 fun z u H' k ex rz fz => q _ e3 u H' k (s13.trans (.ext s3.rep ex)) ⟨rz, fun n c e => s13.dom c (fz n c e)⟩⟩
def fRev : F1 := fun x k => match x with
  | .lst xs => k (.lst xs.reverse)
  | .rol xs => k (.lst xs.reverse)
  | _ => False
theorem e_rev {k : Nat} {p1 p2 p3 : Pos} (ha : DE X np He a wa) : DE X np He (.Subscript a (.Slice none none (some (.UnaryOp .USub (.Constant (.int 1) k p1) p2)) p3) pos) (cUn fRev wa) := by
  refine PE.weak (pe_revL ha) fun σ H Q ⟨env, Q0, R, w, q⟩ => ⟨env, _, R, w, fun ra e1 v1 H1 w1 s1 r1 => ?_⟩
  obtain ⟨x, hx, w1⟩ := r1.rs s1.rep w1
  have fin : ∀ {xs : List D} {a : Addr} {vs : List V}, SqL X.K H1 a vs → RpIs X.K H1 xs vs → Q0 (.val (.lst xs.reverse)) e1 → ∃ a' xs', V.ref a = .ref a' ∧ SqL X.K H1 a' xs' ∧ ∀ p, H1 p = none → Q (.ref p) (upd H1 p (.lst xs'.reverse)) := fun {xs a vs} s r h => by
    refine ⟨a, vs, rfl, s, fun p np' => ?_⟩
    have ex : Ext H1 (upd H1 p (.lst vs.reverse)) := .new np'
    refine q _ e1 _ _ h (s1.trans (.ext s1.rep ex)) ⟨⟨p, _, rfl, upd_same, RpIs.kp ex.kp _ _ r.reverse⟩, fun _ c e => ?_⟩
    cases e
    exact s1.dom p np'
  cases x with
  | lst xs => obtain ⟨a, vs, rfl, s, r⟩ := hx; exact fin (.of s) r w1
  | rol xs =>
    obtain ⟨a, vs, rfl, s, r⟩ := (show ∃ a vs, v1 = .ref a ∧ SqR X.K H1 a vs ∧ RpIs X.K H1 xs vs by simpa only [RpV, RpI] using hx)
    exact fin s.seq r w1
  | _ => exact False.elim w1
end
end DL

namespace DL
open PySem PySem.Spec PyProof.Rows L2
section
variable {K : PySem.W.Frag} {np : Nat} {He : Hp} {σ σ' σ'' : L2.St} {H H' H'' : Hp} {env env' env'' : DEnv}

/-! ### a list in a slot is written -/
theorem kp_store {a : Addr} {us ws : List V} (h : H a = some (.lst us)) : Kp H (upd H a (.lst ws)) := fun b o e n => by
  have hb : b ≠ a := fun z => by
    subst z
    rw [h] at e
    exact n us (Option.some.inj e).symm
  rw [upd_ne hb]
  exact e
theorem SE.store {i : Nat} {xs ys : List D} {a : Addr} {us ws : List V} (R : Rep K np He σ H env) (h : env[i]? = some (some (D.lst xs))) (hs : σ[i]? = some (some (V.ref a))) (ha : H a = some (.lst us)) (r : RpIs K H ys ws) :
    SE K np He σ H env (upd H a (.lst ws)) (env.set i (some (D.lst ys))) := by
  have hi : i < env.length := (List.getElem?_eq_some_iff.mp h).1
  have kp : Kp H (upd H a (.lst ws)) := kp_store ha
  have isl : ∀ (j : Nat) (zs : List D), (env.set i (some (D.lst ys)))[j]? = some (some (D.lst zs)) → ∃ zs', env[j]? = some (some (D.lst zs')) := fun j zs e => by
    by_cases hj : i = j
    · subst hj; exact ⟨xs, h⟩
    · rw [List.getElem?_set_ne hj] at e; exact ⟨zs, e⟩
  refine ⟨⟨by rw [List.length_set]; exact R.len, fun j d e => ?_, fun j l zs zs' c e1 e2 s1 s2 => ?_, fun j zs c hj e s => ?_, fun b n => ?_⟩, fun j => ?_, fun b o e n => ?_, fun b n => ?_⟩
  · by_cases hj : i = j
    · subst hj
      rw [List.getElem?_set_self hi] at e
      cases e
      exact ⟨_, hs, a, ws, rfl, upd_same, RpIs.kp kp ys ws r⟩
    · rw [List.getElem?_set_ne hj] at e
      obtain ⟨v, e1, rv⟩ := R.val j d e
      refine ⟨v, e1, ?_⟩
      cases d with
      | lst zs =>
        refine rv.kpl kp fun c o ec eo => ?_
        subst ec
        have : c ≠ a := fun z => by
          subst z
          exact hj (R.apart i j xs zs c h e hs e1)
        rw [upd_ne this]
        exact eo
      | _ => exact rv.kp kp rfl
  · obtain ⟨w1, q1⟩ := isl j zs e1
    obtain ⟨w2, q2⟩ := isl l zs' e2
    exact R.apart j l w1 w2 c q1 q2 s1 s2
  · obtain ⟨w1, q1⟩ := isl j zs e
    exact R.own j w1 c hj q1 s
  · by_cases hb : b = a
    · subst hb; rw [upd_same] at n; cases n
    · rw [upd_ne hb] at n; exact R.dom b n
  · by_cases hj : i = j
    · subst hj
      exact .inr ⟨xs, ys, h, List.getElem?_set_self hi⟩
    · exact .inl (List.getElem?_set_ne hj)
  · have hb : b ≠ a := fun z => by
      subst z
      exact n ⟨i, xs, h, hs⟩
    rw [upd_ne hb]
    exact e
  · by_cases hb : b = a
    · subst hb; rw [upd_same] at n; cases n
    · rw [upd_ne hb] at n; exact n
def getl (env : DEnv) (i : Nat) (k : List D → Prop) : Prop := match env[i]? with
  | some (some (.lst xs)) => k xs
  | _ => False
theorem getl_of {i : Nat} {k : List D → Prop} (h : getl env i k) : ∃ xs, env[i]? = some (some (D.lst xs)) ∧ k xs := by
  unfold getl at h
  split at h
  · exact ⟨_, by assumption, h⟩
  · exact h.elim
/-- the list of a slot, by its address -/
theorem Rep.lst (R : Rep K np He σ H env) {i : Nat} {xs : List D} (h : env[i]? = some (some (D.lst xs))) : ∃ a us, σ[i]? = some (some (V.ref a)) ∧ H a = some (.lst us) ∧ RpIs K H xs us := by
  obtain ⟨v, e, a, us, rfl, e2, r⟩ := R.val i _ h
  exact ⟨a, us, e, e2, r⟩
end

section
variable {X : Cx} {np : Nat} {He : Hp} {a b c e : Expr} {es : List Expr} {wa wb wc : W} {ws : WA} {pos : Pos}
/-! ### methods of a list in a slot -/
abbrev FM := List D → List D → (D → List D → Prop) → Prop
def MeD (K : PySem.W.Frag) (r : V → List V → Hp → VK → Prop) (f : FM) : Prop := ∀ (H : Hp) (a : Addr) (us : List V) (xs : List D) (vs : List V) (ds : List D) (k : D → List D → Prop) (Q : VK), H a = some (.lst us) → RpIs K H xs us → RpVs K H ds vs → f xs ds k →
  (∀ z u ys ws, k z ys → RpIs K H ys ws → RpI K H z u → Q u (upd H a (.lst ws))) → r (.ref a) vs H Q
def cMeth (i : Nat) (f : FM) (ws : WA) : W := fun env Q => getl env i fun _ => ws env fun rl e1 => rsl e1 rl fun ds => getl e1 i fun xs => f xs ds fun z ys => Q (.val z) (e1.set i (some (.lst ys)))
theorem meth_core {i : Nat} {r : V → List V → Hp → VK → Prop} {f : FM} (h : MeD X.K r f) : ∀ σ H Q, rE X.K np He (cMeth i f ws) σ H Q → tBM X.K "list" r (tVar i) (rA X.K np He ws) σ H Q := by
  intro σ H Q ⟨env, Q0, R, w, q⟩
  obtain ⟨xs0, e0, w⟩ := getl_of w
  obtain ⟨a, us, es, ha, ra⟩ := R.lst e0
  refine ⟨.ref a, es, .inl ⟨rfl, us, .of ha⟩, env, _, R, w, fun rl e1 vs H1 w1 s1 r1 => ?_⟩
  obtain ⟨ds, hd, w1⟩ := r1.rs s1.rep w1
  obtain ⟨xs, e2, w1⟩ := getl_of w1
  obtain ⟨a', us', es', ha', ra'⟩ := s1.rep.lst e2
  rw [es] at es'
  have ea : a = a' := by simpa using es'
  subst ea
  refine h H1 a us' xs vs ds _ Q ha' ra' hd w1 fun z u ys ws' k ry rz => ?_
  have hz : isL z = false := by cases z <;> first | rfl | (simp only [RpI] at rz)
  refine q _ _ u _ k (s1.trans (.store s1.rep e2 es ha' ry)) ⟨.of (RpI.kp (kp_store ha') z u rz), fun n => by rw [hz] at n; cases n⟩
def fAppend : FM := fun xs ds k => match ds with
  | [d] => isL d = false ∧ xs.length < 1000000 ∧ k .non (xs ++ [d])
  | _ => False
theorem e_append {i : Nat} {x : Str} {p apos : Pos} (ha : DE X np He a wa) (hN : X.N[i]? = some x := by rfl) (hv : Vis X.env.scope x := by first | exact Or.inl rfl | exact Or.inr (Or.inl rfl) | exact Or.inr (Or.inr rfl)) (hd : (x == ("__debug__" : Str)) = false := by decide)
    (hcd : (x == ("__classdict__" : Str)) = false := by decide) (hbase : attributeBase (.Name x p) "append" X.env (eval (.Name x p) X.env) = eval (.Name x p) X.env := by rfl)
    (hfew : ((backTo pos (starEach [a] X.env)).all (fun x => !x.1) && (backToKw pos (keywordEach [] X.env)).all (fun x => x.1.isSome)
      && decide ([a].length + ([] : List Keyword).length + (if ([] : List Keyword).isEmpty then 0 else 1) < 30)) = true := by rfl)
    (hline : (apos.endLine == pos.line) = true := by rfl) (hs : starEach [a] X.env = (false, eval a X.env) :: starEach [] X.env := by rfl) :
    DE X np He (.Call (.Attribute (.Name x p) "append" apos) [a] [] pos) (cMeth i fAppend (cCons wa cNil)) := by
  refine PE.weak (pe_bm PySem.F.plainAttrs_list PySem.F.slot_list_append PySem.F.type_list_append mt_append (pv i hN hv hd hcd) (a_cons ha a_nil hs) hbase hfew hline hs) (meth_core ?_)
  intro H a us xs vs ds k Q ha ra rd h q
  unfold fAppend at h
  split at h
  · obtain ⟨h1, h2, h⟩ := h
    obtain ⟨v, rfl, rv⟩ := rd.one
    refine ⟨a, us, v, rfl, rfl, ha, by rw [← ra.length]; exact Nat.lt_of_lt_of_le h2 (line_of (Nat.le_refl _)), q _ _ _ _ h (ra.append ?_) ?_⟩
    · simp only [RpIs]
      exact ⟨v, [], rfl, rv.imm h1, rfl⟩
    · simp only [RpI]
  · exact h.elim
def fInsert : FM := fun xs ds k => match ds with
  | [.int i, d] => isL d = false ∧ xs.length < 1000000 ∧ 0 ≤ i ∧ i ≤ xs.length ∧ k .non (xs.take i.toNat ++ [d] ++ xs.drop i.toNat)
  | _ => False
theorem e_insert {i : Nat} {x : Str} {p apos : Pos} (ha : DE X np He a wa) (hb : DE X np He b wb) (hN : X.N[i]? = some x := by rfl) (hv : Vis X.env.scope x := by first | exact Or.inl rfl | exact Or.inr (Or.inl rfl) | exact Or.inr (Or.inr rfl)) (hd : (x == ("__debug__" : Str)) = false := by decide)
    (hcd : (x == ("__classdict__" : Str)) = false := by decide) (hbase : attributeBase (.Name x p) "insert" X.env (eval (.Name x p) X.env) = eval (.Name x p) X.env := by rfl)
    (hfew : ((backTo pos (starEach [a, b] X.env)).all (fun x => !x.1) && (backToKw pos (keywordEach [] X.env)).all (fun x => x.1.isSome)
      && decide ([a, b].length + ([] : List Keyword).length + (if ([] : List Keyword).isEmpty then 0 else 1) < 30)) = true := by rfl)
    (hline : (apos.endLine == pos.line) = true := by rfl) (hs : starEach [a, b] X.env = (false, eval a X.env) :: starEach [b] X.env := by rfl) (hs2 : starEach [b] X.env = (false, eval b X.env) :: starEach [] X.env := by rfl) (hplain : (backTo pos (starEach [b] X.env)).any (·.1) = false := by rfl) :
    DE X np He (.Call (.Attribute (.Name x p) "insert" apos) [a, b] [] pos) (cMeth i fInsert (cCons wa (cCons wb cNil))) := by
  refine PE.weak (pe_bm PySem.F.plainAttrs_list PySem.F.slot_list_insert PySem.F.type_list_insert L2.mt_insert (pv i hN hv hd hcd) (a_cons ha (a_cons hb a_nil hs2) hs) hbase hfew hline hs hplain) (meth_core ?_)
  intro H a us xs vs ds k Q ha ra rd h q
  unfold fInsert at h
  split at h
  · obtain ⟨h1, h2, h3, h4, h⟩ := h
    obtain ⟨v, w, rfl, rv, rw'⟩ := rd.two
    cases rv
    refine ⟨a, us, _, w, rfl, rfl, ha, by rw [← ra.length]; exact Nat.lt_of_lt_of_le h2 (line_of (Nat.le_refl _)), h3, by omega, q _ _ _ _ h ((RpIs.append (ra.take _) ?_).append (ra.drop _)) ?_⟩
    · simp only [RpIs]
      exact ⟨w, [], rfl, rw'.imm h1, rfl⟩
    · simp only [RpI]
  · exact h.elim
theorem meth0_core {i : Nat} {r : V → List V → Hp → VK → Prop} {f : FM} (h : MeD X.K r f) : ∀ σ H Q, rE X.K np He (cMeth i f cNil) σ H Q → tBM0 X.K "list" r (tVar i) σ H Q := by
  intro σ H Q ⟨env, Q0, R, w, q⟩
  obtain ⟨xs, e0, w⟩ := getl_of w
  obtain ⟨xs', e0', w⟩ := getl_of w
  obtain ⟨a, us, es, ha, ra⟩ := R.lst e0'
  refine ⟨.ref a, es, .inl ⟨rfl, us, .of ha⟩, h H a us xs' [] [] _ Q ha ra rfl w fun z u ys ws' k ry rz => ?_⟩
  have hz : isL z = false := by cases z <;> first | rfl | (simp only [RpI] at rz)
  exact q _ _ u _ k (.store R e0' es ha ry) ⟨.of (RpI.kp (kp_store ha) z u rz), fun n => by rw [hz] at n; cases n⟩
def fPop : FM := fun xs ds k => match ds with
  | [] => (match xs.getLast? with
    | some d => k d xs.dropLast
    | none => False)
  | _ => False
theorem e_pop {i : Nat} {x : Str} {p apos : Pos} (hN : X.N[i]? = some x := by rfl) (hv : Vis X.env.scope x := by first | exact Or.inl rfl | exact Or.inr (Or.inl rfl) | exact Or.inr (Or.inr rfl)) (hd : (x == ("__debug__" : Str)) = false := by decide)
    (hcd : (x == ("__classdict__" : Str)) = false := by decide) (hbase : attributeBase (.Name x p) "pop" X.env (eval (.Name x p) X.env) = eval (.Name x p) X.env := by rfl) (hline : (apos.endLine == pos.line) = true := by rfl) :
    DE X np He (.Call (.Attribute (.Name x p) "pop" apos) [] [] pos) (cMeth i fPop cNil) := by
  refine PE.weak (pe_bm0 PySem.F.plainAttrs_list PySem.F.slot_list_pop PySem.F.type_list_pop mt_pop (pv i hN hv hd hcd) hbase hline) (meth0_core ?_)
  intro H a us xs vs ds k Q ha ra rd h q
  unfold fPop at h
  split at h
  · cases (show vs = [] from rd)
    split at h
    · rename_i d e
      rw [List.getLast?_eq_getElem?] at e
      obtain ⟨u, e1, ru⟩ := ra.get e
      exact ⟨a, us, u, rfl, rfl, ha, by rw [← ra.length]; exact e1, q _ _ _ _ h ra.dropLast ru⟩
    · exact h.elim
  · exact h.elim
def fReverse : FM := fun xs ds k => match ds with
  | [] => k .non xs.reverse
  | _ => False
theorem e_reverse {i : Nat} {x : Str} {p apos : Pos} (hN : X.N[i]? = some x := by rfl) (hv : Vis X.env.scope x := by first | exact Or.inl rfl | exact Or.inr (Or.inl rfl) | exact Or.inr (Or.inr rfl)) (hd : (x == ("__debug__" : Str)) = false := by decide)
    (hcd : (x == ("__classdict__" : Str)) = false := by decide) (hbase : attributeBase (.Name x p) "reverse" X.env (eval (.Name x p) X.env) = eval (.Name x p) X.env := by rfl) (hline : (apos.endLine == pos.line) = true := by rfl) :
    DE X np He (.Call (.Attribute (.Name x p) "reverse" apos) [] [] pos) (cMeth i fReverse cNil) := by
  refine PE.weak (pe_bm0 PySem.F.plainAttrs_list PySem.F.slot_list_reverse PySem.F.type_list_reverse mt_reverse (pv i hN hv hd hcd) hbase hline) (meth0_core ?_)
  intro H a us xs vs ds k Q ha ra rd h q
  unfold fReverse at h
  split at h
  · cases (show vs = [] from rd)
    exact ⟨a, us, rfl, rfl, ha, q _ _ _ _ h ra.reverse rfl⟩
  · exact h.elim

/-! ### calls of own defs -/
structure FSpec where
  pre : List D → Prop
  post : List D → D → List D → Prop
def noRef (i : Nat) : List RV → Bool
  | [] => true
  | .ref j :: r => !(i == j) && noRef i r
  | .val _ :: r => noRef i r
def noTmp : List RV → Bool
  | [] => true
  | .ref _ :: r => noTmp r
  | .val d :: r => !isL d && noTmp r
def okR : List RV → Bool
  | [] => true
  | .ref i :: r => noRef i r && okR r
  | .val _ :: r => okR r
def upA : List RV → List D → DEnv → DEnv
  | .ref i :: rl, .lst ys :: ds, e => upA rl ds (e.set i (some (.lst ys)))
  | _ :: rl, _ :: ds, e => upA rl ds e
  | _, _, e => e
/-- what a def does to its list arguments -/
structure After (K : PySem.W.Frag) (H H' : Hp) (ds ds' : List D) (vs : List V) : Prop where
  len : ds'.length = ds.length
  keep : ∀ b o, H b = some o → (∀ (i : Nat) (xs : List D), ds[i]? = some (.lst xs) → vs[i]? ≠ some (.ref b)) → H' b = some o
  dom : ∀ b, H' b = none → H b = none
  lst : ∀ (i : Nat) (xs : List D) (v : V), ds[i]? = some (.lst xs) → vs[i]? = some v → ∃ ys, ds'[i]? = some (.lst ys) ∧ RpV K H' (.lst ys) v
def apA : List D → List V → Prop
  | .lst _ :: ds, v :: vs => (∀ (j : Nat) (xs : List D), ds[j]? = some (.lst xs) → vs[j]? ≠ some v) ∧ apA ds vs
  | _ :: ds, _ :: vs => apA ds vs
  | _, _ => True
def spOf (K : PySem.W.Frag) (n : Nat) (sp : FSpec) : Sp := fun vs H Q _ => ∃ ds, vs.length = n ∧ RpVs K H ds vs ∧ apA ds vs ∧ sp.pre ds ∧
  ∀ r ds' v H', sp.post ds r ds' → After K H H' ds ds' vs → RpV K H' r v → (isL r = true → ∀ a, v = .ref a → H a = none) → Q v H'
structure FnD (P : Program) (w : World) (K : PySem.W.Frag) (mg : Str → Option Value) (base : Heap) (k : Nat) (x : Str) (ps : List Str) (sp : FSpec) : Prop where
  ex : ∃ f fd, FnOk P w K mg base CX0 k f fd ps (spOf K ps.length sp) ∧ mg x = some (.ref f) ∧ PySem.W.keepIn K (.ref f) = true ∧ Binds K fd ps []
def cCall (sp : FSpec) (ws : WA) : W := fun env Q => ws env fun rl e1 => rsl e1 rl fun ds => okR rl = true ∧ sp.pre ds ∧ ∀ r ds', sp.post ds r ds' → Q (.val r) (upA rl ds' e1)

/-- results, values and data side by side -/
def Tri (K : PySem.W.Frag) (σ : L2.St) (H H' : Hp) (env : DEnv) : List RV → List V → List D → Prop
  | [], vs, ds => vs = [] ∧ ds = []
  | .val d :: rl, vs, ds => ∃ v vr dr, vs = v :: vr ∧ ds = d :: dr ∧ RpV K H' d v ∧ (isL d = true → (∀ a, v = .ref a → H a = none) ∧ ∀ (j : Nat) (ys : List D), rl[j]? = some (.val (.lst ys)) → vr[j]? ≠ some v) ∧ Tri K σ H H' env rl vr dr
  | .ref i :: rl, vs, ds => ∃ v vr xs dr, vs = v :: vr ∧ ds = .lst xs :: dr ∧ σ[i]? = some (some v) ∧ env[i]? = some (some (D.lst xs)) ∧ Tri K σ H H' env rl vr dr
theorem tri_of {K : PySem.W.Frag} {σ : L2.St} {H H' : Hp} {env : DEnv} (R : Rep K np He σ H' env) : ∀ {rl : List RV} {vs : List V} {k : List D → Prop}, RpRs K σ H H' env vs rl → rsl env rl k → ∃ ds, Tri K σ H H' env rl vs ds ∧ RpVs K H' ds vs ∧ k ds
  | [], vs, k, h, g => by
    cases vs with
    | nil => exact ⟨[], ⟨rfl, rfl⟩, rfl, g⟩
    | cons v vs => obtain ⟨r, rest, e, _⟩ := h; cases e
  | .val d :: rl, vs, k, h, g => by
    cases vs with
    | nil => cases (show (RV.val d :: rl) = [] from h)
    | cons v vs =>
      obtain ⟨r, rest, e, h1, h2, tn⟩ := h
      cases e
      obtain ⟨ds, t, rv, q⟩ := tri_of R h2 g
      exact ⟨d :: ds, ⟨v, vs, ds, rfl, rfl, h1.1, fun n => ⟨h1.2 n, tn d rfl n⟩, t⟩, ⟨v, vs, rfl, h1.1, rv⟩, q⟩
  | .ref i :: rl, vs, k, h, g => by
    cases vs with
    | nil => cases (show (RV.ref i :: rl) = [] from h)
    | cons v vs =>
      obtain ⟨r, rest, e, h1, h2, tn⟩ := h
      cases e
      obtain ⟨d, e1, g⟩ := getv_of g
      obtain ⟨ds, t, rv, q⟩ := tri_of R h2 g
      obtain ⟨hs, xs, e2⟩ := h1
      rw [e1] at e2
      have ed : d = .lst xs := by simpa using e2
      subst ed
      obtain ⟨u, e3, ru⟩ := R.val i _ e1
      rw [hs] at e3
      have eu : v = u := by simpa using e3
      subst eu
      exact ⟨_ :: ds, ⟨v, vs, xs, ds, rfl, rfl, hs, e1, t⟩, ⟨v, vs, rfl, ru, rv⟩, q⟩
section
variable {K : PySem.W.Frag} {σ : L2.St} {H H' : Hp} {env : DEnv}
/-- a list argument is a slot's or a new one -/
theorem Tri.arg : ∀ {rl : List RV} {vs : List V} {ds : List D} {j : Nat} {xs : List D}, Tri K σ H H' env rl vs ds → ds[j]? = some (.lst xs) →
    (∃ i v, rl[j]? = some (.ref i) ∧ vs[j]? = some v ∧ σ[i]? = some (some v) ∧ env[i]? = some (some (D.lst xs))) ∨ (∃ a, rl[j]? = some (.val (.lst xs)) ∧ vs[j]? = some (.ref a) ∧ H a = none)
  | [], vs, ds, j, xs, h, e => by
    obtain ⟨_, rfl⟩ := h
    simp at e
  | .val d :: rl, vs, ds, 0, xs, h, e => by
    obtain ⟨v, vr, dr, rfl, rfl, r, f, _⟩ := h
    simp at e
    subst e
    obtain ⟨a, us, rfl, _⟩ := r
    exact .inr ⟨a, rfl, rfl, (f rfl).1 a rfl⟩
  | .ref i :: rl, vs, ds, 0, xs, h, e => by
    obtain ⟨v, vr, xs', dr, rfl, rfl, s, g, _⟩ := h
    simp at e
    subst e
    exact .inl ⟨i, v, rfl, rfl, s, g⟩
  | .val d :: rl, vs, ds, j + 1, xs, h, e => by
    obtain ⟨v, vr, dr, rfl, rfl, _, _, t⟩ := h
    simpa using Tri.arg t (by simpa using e)
  | .ref i :: rl, vs, ds, j + 1, xs, h, e => by
    obtain ⟨v, vr, xs', dr, rfl, rfl, _, _, t⟩ := h
    simpa using Tri.arg t (by simpa using e)
theorem noRef_at {i : Nat} : ∀ {rl : List RV} {j l : Nat}, noRef i rl = true → rl[j]? = some (.ref l) → i ≠ l
  | [], j, l, _, e => by simp at e
  | .ref m :: rl, 0, l, h, e => by
    simp at e
    subst e
    simp only [noRef, Bool.and_eq_true, Bool.not_eq_true', beq_eq_false_iff_ne] at h
    exact h.1
  | .val d :: rl, 0, l, h, e => by simp at e
  | .ref m :: rl, j + 1, l, h, e => by
    simp only [noRef, Bool.and_eq_true] at h
    exact noRef_at h.2 (by simpa using e)
  | .val d :: rl, j + 1, l, h, e => noRef_at (rl := rl) (by simpa only [noRef] using h) (by simpa using e)
theorem noTmp_at : ∀ {rl : List RV} {j : Nat} {d : D}, noTmp rl = true → rl[j]? = some (.val d) → isL d = false
  | [], j, d, _, e => by simp at e
  | .ref m :: rl, 0, d, h, e => by simp at e
  | .val d' :: rl, 0, d, h, e => by
    simp at e
    subst e
    simp only [noTmp, Bool.and_eq_true, Bool.not_eq_true'] at h
    exact h.1
  | .ref m :: rl, j + 1, d, h, e => noTmp_at (rl := rl) (by simpa only [noTmp] using h) (by simpa using e)
  | .val d' :: rl, j + 1, d, h, e => by
    simp only [noTmp, Bool.and_eq_true] at h
    exact noTmp_at h.2 (by simpa using e)
theorem Tri.apart (R0 : ∀ b, LA σ env b → H b ≠ none) (R : Rep K np He σ H' env) : ∀ {rl : List RV} {vs : List V} {ds : List D}, Tri K σ H H' env rl vs ds → okR rl = true → apA ds vs
  | [], vs, ds, h, _ => by
    obtain ⟨rfl, rfl⟩ := h
    trivial
  | .val d :: rl, vs, ds, h, ok => by
    obtain ⟨v, vr, dr, rfl, rfl, r, f, t⟩ := h
    have ih := Tri.apart R0 R t (by simpa only [okR] using ok)
    cases d with
    | lst xs =>
      refine ⟨fun j ys e q => ?_, ih⟩
      obtain ⟨a, us, rfl, _⟩ := r
      rcases t.arg e with ⟨i, v, e1, e2, e3, e4⟩ | ⟨a', e1, e2, e3⟩
      · rw [q] at e2
        cases e2
        exact R0 a ⟨i, ys, e4, e3⟩ ((f rfl).1 a rfl)
      · exact (f rfl).2 j ys e1 q
    | _ => exact ih
  | .ref i :: rl, vs, ds, h, ok => by
    obtain ⟨v, vr, xs, dr, rfl, rfl, s, g, t⟩ := h
    simp only [okR, Bool.and_eq_true] at ok
    have ih := Tri.apart R0 R t ok.2
    refine ⟨fun j ys e q => ?_, ih⟩
    obtain ⟨u, e5, a, us, rfl, _⟩ := R.val i _ g
    rw [s] at e5
    have ev : v = .ref a := by simpa using e5
    subst ev
    rcases t.arg e with ⟨l, v, e1, e2, e3, e4⟩ | ⟨a', e1, e2, e3⟩
    · rw [q] at e2
      cases e2
      exact noRef_at ok.1 e1 (R.apart i l xs ys a g e4 s e3)
    · rw [q] at e2
      cases e2
      exact R0 a ⟨i, xs, g, s⟩ e3
theorem upA_at : ∀ {rl : List RV} {vs : List V} {ds : List D} {ds' : List D} {env0 : DEnv} (j : Nat), Tri K σ H H' env rl vs ds → okR rl = true → env0.length = env.length → ds'.length = ds.length →
    (∀ (p : Nat) (xs : List D), ds[p]? = some (D.lst xs) → ∃ ys, ds'[p]? = some (D.lst ys)) →
    (∃ (p : Nat) (ys : List D) (v : V), rl[p]? = some (RV.ref j) ∧ ds'[p]? = some (D.lst ys) ∧ vs[p]? = some v ∧ σ[j]? = some (some v) ∧ (∃ xs, ds[p]? = some (D.lst xs) ∧ env[j]? = some (some (D.lst xs))) ∧ (upA rl ds' env0)[j]? = some (some (D.lst ys))) ∨ ((∀ (p : Nat), rl[p]? ≠ some (RV.ref j)) ∧ (upA rl ds' env0)[j]? = env0[j]?)
  | [], vs, ds, ds', env0, j, h, _, _, _, _ => .inr ⟨fun p => by simp, by unfold upA; rfl⟩
  | .val d :: rl, vs, ds, ds', env0, j, h, ok, hl, hd, hq => by
    obtain ⟨v, vr, dr, rfl, rfl, r, f, t⟩ := h
    cases ds' with
    | nil => simp at hd
    | cons d' ds' =>
      have ih := upA_at (ds' := ds') j t (by simpa only [okR] using ok) hl (by simpa using hd) (fun p xs e => by simpa using hq (p + 1) xs (by simpa using e))
      have eu : upA (.val d :: rl) (d' :: ds') env0 = upA rl ds' env0 := by
        cases d' <;> rfl
      rw [eu]
      rcases ih with ⟨p, ys, v', i1, i2, i3, i4, ⟨xs, i5, i6⟩, i7⟩ | ⟨i1, i2⟩
      · exact .inl ⟨p + 1, ys, v', by simpa using i1, by simpa using i2, by simpa using i3, i4, ⟨xs, by simpa using i5, i6⟩, i7⟩
      · refine .inr ⟨fun p => ?_, i2⟩
        cases p with
        | zero => simp
        | succ p => simpa using i1 p
  | .ref i :: rl, vs, ds, ds', env0, j, h, ok, hl, hd, hq => by
    obtain ⟨v, vr, xs, dr, rfl, rfl, s, g, t⟩ := h
    cases ds' with
    | nil => simp at hd
    | cons d' ds' =>
      obtain ⟨ys0, e0⟩ := hq 0 xs rfl
      simp at e0
      subst e0
      simp only [okR, Bool.and_eq_true] at ok
      have hi : i < env0.length := by rw [hl]; exact (List.getElem?_eq_some_iff.mp g).1
      have ih := upA_at (ds' := ds') (env0 := env0.set i (some (D.lst ys0))) j t ok.2 (by rw [List.length_set]; exact hl) (by simpa using hd) (fun p xs e => by simpa using hq (p + 1) xs (by simpa using e))
      show _ ∨ (_ ∧ (upA rl ds' (env0.set i (some (D.lst ys0))))[j]? = _)
      rcases ih with ⟨p, ys, v', i1, i2, i3, i4, ⟨xs', i5, i6⟩, i7⟩ | ⟨i1, i2⟩
      · exact .inl ⟨p + 1, ys, v', by simpa using i1, by simpa using i2, by simpa using i3, i4, ⟨xs', by simpa using i5, i6⟩, i7⟩
      · by_cases hj : i = j
        · subst hj
          exact .inl ⟨0, ys0, v, rfl, rfl, rfl, s, ⟨xs, rfl, g⟩, by show (upA rl ds' (env0.set i (some (D.lst ys0))))[i]? = _; rw [i2, List.getElem?_set_self hi]⟩
        · refine .inr ⟨fun p => ?_, by rw [i2, List.getElem?_set_ne hj]⟩
          cases p with
          | zero => simpa using fun z => hj z
          | succ p => simpa using i1 p
end
theorem fn_len {P : Program} {w : World} {K : PySem.W.Frag} {mg : Str → Option Value} {base : Heap} {k : Nat} {f : Addr} {fd : FuncData} {ps : List Str} {sp : FSpec} {n : Nat} (F : FnOk P w K mg base CX0 k f fd ps (spOf K n sp)) : True := trivial
theorem call_core {sp : FSpec} {n : Nat} (hn : ws = ws) : ∀ σ H Q, rE X.K np He (cCall sp ws) σ H Q → tCall (spOf X.K n sp) [] E0 (fun σ H Q' => rA X.K np He ws σ H fun vs H1 => vs.length = n ∧ Q' vs H1) σ H Q → True := fun _ _ _ _ _ => trivial
/-- behind a call -/
theorem SE.called {K : PySem.W.Frag} {σ : L2.St} {H H1 H' : Hp} {env e1 : DEnv} {rl : List RV} {vs : List V} {ds ds' : List D} (R : Rep K np He σ H env) (s1 : SE K np He σ H env H1 e1) (t : Tri K σ H H1 e1 rl vs ds) (ok : okR rl = true) (A : After K H1 H' ds ds' vs) :
    SE K np He σ H env H' (upA rl ds' e1) := by
  have la0 : ∀ b, LA σ env b → H b ≠ none := fun b z => by
    obtain ⟨us, e⟩ := R.la z
    rw [e]
    exact fun q => nomatch q
  have la1 : ∀ b, LA σ e1 b → H b ≠ none := fun b z => la0 b (s1.la.mp z)
  have argla : ∀ (i : Nat) (xs : List D) (b : Addr), ds[i]? = some (.lst xs) → vs[i]? = some (.ref b) → LA σ e1 b ∨ H b = none := fun i xs b e q => by
    rcases t.arg e with ⟨l, v, a1, a2, a3, a4⟩ | ⟨a', a1, a2, a3⟩
    · rw [q] at a2
      cases a2
      exact .inl ⟨l, xs, a4, a3⟩
    · rw [q] at a2
      cases a2
      exact .inr a3
  have hq : ∀ (p : Nat) (xs : List D), ds[p]? = some (D.lst xs) → ∃ ys, ds'[p]? = some (D.lst ys) := fun p xs e => by
    rcases t.arg e with ⟨l, v, a1, a2, a3, a4⟩ | ⟨a', a1, a2, a3⟩
    · obtain ⟨ys, q, _⟩ := A.lst p xs v e a2
      exact ⟨ys, q⟩
    · obtain ⟨ys, q, _⟩ := A.lst p xs _ e a2
      exact ⟨ys, q⟩
  have at_ := fun j => upA_at (env0 := e1) (ds' := ds') j t ok rfl A.len hq
  have kp1 : Kp H1 H' := fun b o e n => A.keep b o e fun i xs ed ev => by
    have hv : ∃ us, H1 b = some (.lst us) := by
      rcases t.arg ed with ⟨l, v, a1, a2, a3, a4⟩ | ⟨a', a1, a2, a3⟩
      · rw [ev] at a2
        cases a2
        exact s1.rep.la ⟨l, xs, a4, a3⟩
      · have rp : ∀ {rl : List RV} {vs : List V} {ds : List D} {i : Nat} {d : D} {v : V}, Tri K σ H H1 e1 rl vs ds → rl[i]? = some (.val d) → vs[i]? = some v → RpV K H1 d v := by
          intro rl
          induction rl with
          | nil => intro vs ds i d v _ e _; simp at e
          | cons r rl ih =>
            intro vs ds i d v t e ev
            cases r with
            | val d' =>
              obtain ⟨v', vr, dr, rfl, rfl, r, _, t⟩ := t
              cases i with
              | zero => simp at e ev; subst e ev; exact r
              | succ i => exact ih t (by simpa using e) (by simpa using ev)
            | ref m =>
              obtain ⟨v', vr, xs, dr, rfl, rfl, _, _, t⟩ := t
              cases i with
              | zero => simp at e
              | succ i => exact ih t (by simpa using e) (by simpa using ev)
        obtain ⟨c, us, ec, e3, _⟩ := rp t a1 ev
        cases ec
        exact ⟨us, e3⟩
    obtain ⟨us, e3⟩ := hv
    rw [e] at e3
    exact n us (Option.some.inj e3)
  have islst : ∀ (j : Nat) (ys : List D), (upA rl ds' e1)[j]? = some (some (D.lst ys)) → ∃ xs, e1[j]? = some (some (D.lst xs)) := fun j ys e => by
    rcases at_ j with ⟨p, zs, v, _, _, _, _, ⟨xs, _, i6⟩, _⟩ | ⟨_, i2⟩
    · exact ⟨xs, i6⟩
    · exact ⟨ys, i2 ▸ e⟩
  have lenU : ∀ (rl : List RV) (ds' : List D) (e : DEnv), (upA rl ds' e).length = e.length := by
    intro rl
    induction rl with
    | nil => intro ds' e; cases ds' <;> rfl
    | cons r rl ih =>
      intro ds' e
      cases ds' with
      | nil => cases r <;> rfl
      | cons d ds' =>
        cases r with
        | val d' => cases d <;> exact ih _ _
        | ref i =>
          cases d with
          | lst ys =>
            show (upA rl ds' (e.set i (some (.lst ys)))).length = _
            rw [ih, List.length_set]
          | _ => exact ih _ _
  refine ⟨⟨by rw [lenU]; exact s1.rep.len, fun j d e => ?_, fun i j xs ys a e2 e3 g2 g3 => ?_, fun i xs a hi e2 g2 => ?_, fun b n => s1.rep.dom b (A.dom b n)⟩, fun j => ?_, fun b o e n => ?_, fun b n => s1.dom b (A.dom b n)⟩
  · rcases at_ j with ⟨p, ys, v, i1, i2, i3, i4, ⟨xs, i5, i6⟩, i7⟩ | ⟨i1, i2⟩
    · rw [i7] at e
      cases e
      obtain ⟨ys', q1, q2⟩ := A.lst p xs v i5 i3
      rw [i2] at q1
      cases q1
      exact ⟨v, i4, q2⟩
    · rw [i2] at e
      obtain ⟨v, e2, rv⟩ := s1.rep.val j d e
      refine ⟨v, e2, ?_⟩
      cases d with
      | lst zs =>
        refine rv.kpl kp1 fun c o ec eo => ?_
        subst ec
        refine A.keep c o eo fun i xs ed ev => ?_
        rcases t.arg ed with ⟨l, v, a1, a2, a3, a4⟩ | ⟨a', a1, a2, a3⟩
        · rw [ev] at a2
          cases a2
          have := s1.rep.apart j l zs xs c e a4 e2 a3
          subst this
          exact i1 i a1
        · rw [ev] at a2
          cases a2
          exact la1 c ⟨j, zs, e, e2⟩ a3
      | _ => exact rv.kp kp1 rfl
  · obtain ⟨x1, q1⟩ := islst i xs e2
    obtain ⟨x2, q2⟩ := islst j ys e3
    exact s1.rep.apart i j x1 x2 a q1 q2 g2 g3
  · obtain ⟨x1, q1⟩ := islst i xs e2
    exact s1.rep.own i x1 a hi q1 g2
  · have sh : (upA rl ds' e1)[j]? = e1[j]? ∨ ∃ (xs ys : List D), e1[j]? = some (some (D.lst xs)) ∧ (upA rl ds' e1)[j]? = some (some (D.lst ys)) := by
      rcases at_ j with ⟨p, ys, v, i1, i2, i3, i4, ⟨xs, i5, i6⟩, i7⟩ | ⟨i1, i2⟩
      · exact .inr ⟨xs, ys, i6, i7⟩
      · exact .inl i2
    rcases sh with h | ⟨ys, zs, h1, h2⟩
    · rcases s1.shape j with g | ⟨us, ws, g1, g2⟩
      · exact .inl (h.trans g)
      · exact .inr ⟨us, ws, g1, h.trans g2⟩
    · rcases s1.shape j with g | ⟨us, ws, g1, g2⟩
      · exact .inr ⟨ys, zs, g ▸ h1, h2⟩
      · exact .inr ⟨us, zs, g1, h2⟩
  · refine A.keep b o (s1.keep b o e n) fun i xs ed ev => ?_
    rcases argla i xs b ed ev with z | z
    · exact n (s1.la.mp z)
    · rw [e] at z
      cases z
theorem Tri.len {K : PySem.W.Frag} {σ : L2.St} {H H' : Hp} {env : DEnv} : ∀ {rl : List RV} {vs : List V} {ds : List D}, Tri K σ H H' env rl vs ds → rl.length = vs.length
  | [], vs, ds, h => by rw [h.1]; rfl
  | .val d :: rl, vs, ds, h => by
    obtain ⟨v, vr, dr, rfl, rfl, _, _, t⟩ := h
    simp only [List.length_cons, Tri.len t]
  | .ref i :: rl, vs, ds, h => by
    obtain ⟨v, vr, xs, dr, rfl, rfl, _, _, t⟩ := h
    simp only [List.length_cons, Tri.len t]
def cCallN (n : Nat) (sp : FSpec) (ws : WA) : W := fun env Q => ws env fun rl e1 => rl.length = n ∧ rsl e1 rl fun ds => okR rl = true ∧ sp.pre ds ∧ ∀ r ds', sp.post ds r ds' → Q (.val r) (upA rl ds' e1)
theorem e_call {sp : FSpec} {k n : Nat} {ps : List Str} {x : Str} {p : Pos} (F : FnD X.prog X.w X.K X.mg X.base k x ps sp) (hr : Room k X.A) (ha : DA X np He (a :: es) ws) (hn : ps.length = n := by rfl) (hg : Gl X x := by rfl) (hdb : (x == ("__debug__" : Str)) = false := by decide)
    (he : starEach (a :: es) X.env = (false, eval a X.env) :: starEach es X.env := by rfl) (hpl : (backTo pos (starEach es X.env)).any (·.1) = false := by rfl) :
    DE X np He (.Call (.Name x p) (a :: es) [] pos) (cCallN n sp ws) := by
  subst hn
  obtain ⟨f, fd, F, hm, hk, hb⟩ := F.ex
  refine PE.weak (pe_call F hr hg hm hk hb .nil pass0 ha hdb he hpl) fun σ H Q ⟨env, Q0, R, w, q⟩ => ⟨env, _, R, w, fun rl e1 vs H1 w1 s1 r1 => ?_⟩
  obtain ⟨hn, w1⟩ := w1
  obtain ⟨ds, t, hd, ok, pre, w1⟩ := tri_of s1.rep r1 w1
  have la1 : ∀ b, LA σ e1 b → H b ≠ none := fun b z => by
    obtain ⟨us, e⟩ := R.la (s1.la.mp z)
    rw [e]
    exact fun q => nomatch q
  rw [List.append_nil]
  refine ⟨ds, by rw [← t.len]; exact hn, hd, t.apart la1 s1.rep ok, pre, fun r ds' v H' po A rv fr => ?_⟩
  exact q _ _ v H' (w1 r ds' po) (.called R s1 t ok A) ⟨rv, fun n c e => s1.dom c (fr n c e)⟩
end
end DL

namespace DL
open PySem PySem.Spec PyProof.Rows L2

/-! ### a statement's step -/
structure SS (K : PySem.W.Frag) (np : Nat) (He : Hp) (pr : List Nat) (σ : L2.St) (H : Hp) (env : DEnv) (σ' : L2.St) (H' : Hp) (env' : DEnv) : Prop where
  rep : Rep K np He σ' H' env'
  keep : ∀ b o, H b = some o → ¬ LA σ env b → H' b = some o ∧ ¬ LA σ' env' b
  par : ∀ (i : Nat) (xs : List D), i ∈ pr → env[i]? = some (some (D.lst xs)) → σ'[i]? = σ[i]? ∧ ∃ (ys : List D), env'[i]? = some (some (D.lst ys))
  dom : ∀ b, H' b = none → H b = none
  len : env'.length = env.length
section
variable {K : PySem.W.Frag} {np : Nat} {He : Hp} {pr pr' : List Nat} {σ σ' σ'' : L2.St} {H H' H'' : Hp} {env env' env'' : DEnv}
theorem SS.refl (R : Rep K np He σ H env) : SS K np He pr σ H env σ H env := ⟨R, fun _ _ h n => ⟨h, n⟩, fun _ xs _ e => ⟨rfl, xs, e⟩, fun _ h => h, rfl⟩
theorem SS.trans (a : SS K np He pr σ H env σ' H' env') (b : SS K np He pr σ' H' env' σ'' H'' env'') : SS K np He pr σ H env σ'' H'' env'' where
  rep := b.rep
  keep := fun c o h n => let ⟨h1, n1⟩ := a.keep c o h n; b.keep c o h1 n1
  par := fun i xs hi e => by
    obtain ⟨e1, ys, e2⟩ := a.par i xs hi e
    obtain ⟨e3, zs, e4⟩ := b.par i ys hi e2
    exact ⟨e3.trans e1, zs, e4⟩
  dom := fun c h => a.dom c (b.dom c h)
  len := b.len.trans a.len
theorem SE.ss (s : SE K np He σ H env H' env') (R : Rep K np He σ H env) : SS K np He pr σ H env σ H' env' where
  rep := s.rep
  keep := fun b o h n => ⟨s.keep b o h n, fun z => n (s.la.mp z)⟩
  par := fun i xs _ e => ⟨rfl, by
    rcases s.shape i with h | ⟨us, ws, g1, g2⟩
    · exact ⟨xs, h.trans e⟩
    · exact ⟨ws, g2⟩⟩
  dom := s.dom
  len := by rw [← s.rep.len, R.len]
theorem SS.sub (h : ∀ i ∈ pr, i ∈ pr') (s : SS K np He pr' σ H env σ' H' env') : SS K np He pr σ H env σ' H' env' := ⟨s.rep, s.keep, fun i xs hi e => s.par i xs (h i hi) e, s.dom, s.len⟩
theorem SS.kp (R : Rep K np He σ H env) (s : SS K np He pr σ H env σ' H' env') : Kp H H' := fun b o h n => (s.keep b o h fun z => by
  obtain ⟨vs, e⟩ := R.la z
  rw [h] at e
  exact n vs (Option.some.inj e)).1

/-! ### a value is stored -/
def isLo : Option D → Bool
  | some (.lst _) => true
  | _ => false
def stOk (np : Nat) (pr : List Nat) (env : DEnv) (i : Nat) (d : D) : Bool := match env[i]? with
  | none => false
  | some old => (!isL d || decide (np ≤ i)) && (!(pr.contains i) || !isLo old)
theorem SS.put {i : Nat} {d : D} {v : V} {H1 : Hp} {e1 : DEnv} (R : Rep K np He σ H env) (s : SE K np He σ H env H1 e1) (ok : stOk np pr e1 i d = true) (r : RpV K H1 d v) (fr : isL d = true → ∀ a, v = .ref a → H a = none) :
    SS K np He pr σ H env (σ.set i (some v)) H1 (e1.set i (some d)) := by
  have nla : isL d = true → ∀ a, v = .ref a → ¬ LA σ e1 a := fun n a e z => by
    obtain ⟨us, q⟩ := R.la (s.la.mp z)
    rw [fr n a e] at q
    cases q
  have R1 := s.rep
  have st := SE.ss (pr := pr) s R
  unfold stOk at ok
  split at ok
  · cases ok
  · rename_i old e
    have hi : i < e1.length := (List.getElem?_eq_some_iff.mp e).1
    have his : i < σ.length := by rw [R1.len]; exact hi
    simp only [Bool.and_eq_true, Bool.or_eq_true, Bool.not_eq_true', decide_eq_true_eq, List.contains_eq_mem, decide_eq_false_iff_not] at ok
    have isl : ∀ (j : Nat) (xs : List D), (e1.set i (some d))[j]? = some (some (D.lst xs)) → (j = i ∧ d = .lst xs) ∨ (j ≠ i ∧ e1[j]? = some (some (D.lst xs))) := fun j xs e => by
      by_cases hj : i = j
      · subst hj
        rw [List.getElem?_set_self hi] at e
        exact .inl ⟨rfl, by simpa using e⟩
      · rw [List.getElem?_set_ne hj] at e
        exact .inr ⟨fun z => hj z.symm, e⟩
    have σset : ∀ (j : Nat), j ≠ i → (σ.set i (some v))[j]? = σ[j]? := fun j hj => List.getElem?_set_ne fun z => hj z.symm
    have σself : (σ.set i (some v))[i]? = some (some v) := List.getElem?_set_self his
    refine ⟨⟨by rw [List.length_set, List.length_set]; exact R1.len, fun j d' e' => ?_, fun j l xs ys a e1' e2 s1 s2 => ?_, fun j xs a hj e' s' => ?_, R1.dom⟩, fun b o h n => ⟨s.keep b o h n, ?_⟩, fun j xs hj e' => ?_, s.dom, by rw [List.length_set]; exact st.len⟩
    · by_cases hj : i = j
      · subst hj
        rw [List.getElem?_set_self hi] at e'
        cases e'
        exact ⟨v, σself, r⟩
      · rw [List.getElem?_set_ne hj] at e'
        obtain ⟨u, e1, ru⟩ := R1.val j d' e'
        exact ⟨u, (List.getElem?_set_ne hj).trans e1, ru⟩
    · rcases isl j xs e1' with ⟨q1, q2⟩ | ⟨n1, q1⟩
      · rcases isl l ys e2 with ⟨q3, _⟩ | ⟨n2, q3⟩
        · exact q1.trans q3.symm
        · rw [q1, σself] at s1
          rw [σset l n2] at s2
          have ev : v = .ref a := by simpa using s1
          exact absurd ⟨l, ys, q3, s2⟩ (nla (by rw [q2]; rfl) a ev)
      · rw [σset j n1] at s1
        rcases isl l ys e2 with ⟨q3, q4⟩ | ⟨n2, q3⟩
        · rw [q3, σself] at s2
          have ev : v = .ref a := by simpa using s2
          exact absurd ⟨j, xs, q1, s1⟩ (nla (by rw [q4]; rfl) a ev)
        · rw [σset l n2] at s2
          exact R1.apart j l xs ys a q1 q3 s1 s2
    · rcases isl j xs e' with ⟨q1, q2⟩ | ⟨n1, q1⟩
      · rw [q1, σself] at s'
        have ev : v = .ref a := by simpa using s'
        exact R.dom a (fr (by rw [q2]; rfl) a ev)
      · rw [σset j n1] at s'
        exact R1.own j xs a hj q1 s'
    · rintro ⟨j, xs, q0, s1⟩
      rcases isl j xs q0 with ⟨q1, q2⟩ | ⟨n1, q1⟩
      · rw [q1, σself] at s1
        have ev : v = .ref b := by simpa using s1
        have z := fr (by rw [q2]; rfl) b ev
        rw [h] at z
        cases z
      · rw [σset j n1] at s1
        exact n (s.la.mp ⟨j, xs, q1, s1⟩)
    · obtain ⟨_, ys, e2⟩ := st.par j xs hj e'
      by_cases hji : j = i
      · rw [hji, e] at e2
        cases e2
        rcases ok.2 with z | z
        · rw [hji] at hj
          exact absurd hj z
        · simp [isLo] at z
      · exact ⟨σset j hji, ys, (List.getElem?_set_ne fun z => hji z.symm).trans e2⟩
end

/-! ### targets -/
abbrev G := D → DEnv → (DEnv → Prop) → Prop
abbrev Gs := List D → DEnv → (DEnv → Prop) → Prop
/-- slots outside sl stay -/
def Out (sl : List Nat) (σ σ' : L2.St) (env env' : DEnv) : Prop := ∀ j, j ∉ sl → σ'[j]? = σ[j]? ∧ env'[j]? = env[j]?
def rG (K : PySem.W.Frag) (np : Nat) (He : Hp) (pr sl : List Nat) (g : G) : TG := fun v σ H Q => ∃ env d Q0, Rep K np He σ H env ∧ RpI K H d v ∧ g d env Q0 ∧ ∀ env' σ', Q0 env' → SS K np He pr σ H env σ' H env' → Out sl σ σ' env env' → Q σ' H
def rGs (K : PySem.W.Frag) (np : Nat) (He : Hp) (pr sl : List Nat) (g : Gs) : TGs := fun vs σ H Q => ∃ env ds Q0, Rep K np He σ H env ∧ RpIs K H ds vs ∧ g ds env Q0 ∧ ∀ env' σ', Q0 env' → SS K np He pr σ H env σ' H env' → Out sl σ σ' env env' → Q σ' H
theorem PG.weak {X : Cx} {e : Expr} {t t' : TG} (h : PG X e t) (i : ∀ v σ H Q, t' v σ H Q → t v σ H Q) : PG X e t' := ⟨fun pins s σ H v u Q I r q => h.run pins s σ H v u Q I r (i v σ H Q q)⟩
theorem PGs.weak {X : Cx} {e : List Expr} {t t' : TGs} (h : PGs X e t) (i : ∀ v σ H Q, t' v σ H Q → t v σ H Q) : PGs X e t' := ⟨fun pins s σ H v u Q I r q => h.run pins s σ H v u Q I r (i v σ H Q q)⟩
section
variable {X : Cx} {np : Nat} {He : Hp} {pr sl : List Nat} {pos : Pos}
abbrev DG (X : Cx) (np : Nat) (He : Hp) (pr sl : List Nat) (e : Expr) (g : G) : Prop := PG X e (rG X.K np He pr sl g)
abbrev DGs (X : Cx) (np : Nat) (He : Hp) (pr sl : List Nat) (e : List Expr) (g : Gs) : Prop := PGs X e (rGs X.K np He pr sl g)
def gN (np : Nat) (pr : List Nat) (i : Nat) : G := fun d env k => stOk np pr env i d = true ∧ k (env.set i (some d))
theorem RpI.immL {K : PySem.W.Frag} {H : Hp} {d : D} {v : V} (h : RpI K H d v) : isL d = false := by
  cases d <;> first | rfl | (simp only [RpI] at h)
theorem g_name (i : Nat) {x : Str} (hN : X.N.Nodup) (hsl : i ∈ sl := by decide) (hi : X.N[i]? = some x := by rfl) (hx : Loc X.env.scope x := by first | exact Or.inl rfl | exact Or.inr rfl) (hf : X.fn x = true ∨ X.env.scope.names.lookup x = some .local := by first | exact .inl rfl | exact .inr rfl | assumption) :
    DG X np He pr sl (.Name x pos) (gN np pr i) := by
  refine PG.weak (pg_name hN hi hx hf) fun v σ H Q ⟨env, d, Q0, R, r, ⟨ok, w⟩, q⟩ => ?_
  refine q _ _ w (.put R (.refl R) ok (.of r) fun n => by rw [r.immL] at n; cases n) fun j hj => ?_
  have hji : i ≠ j := fun z => hj (z ▸ hsl)
  exact ⟨List.getElem?_set_ne hji, List.getElem?_set_ne hji⟩
def gNil' : Gs := fun ds env k => match ds with
  | [] => k env
  | _ => False
def gCons' (g : G) (gs : Gs) : Gs := fun ds env k => match ds with
  | d :: r => g d env fun e => gs r e k
  | [] => False
theorem g_nil : DGs X np He pr sl [] gNil' := by
  refine PGs.weak pgs_nil fun vs σ H Q ⟨env, ds, Q0, R, r, w, q⟩ => ?_
  cases ds with
  | nil =>
    simp only [RpIs] at r
    exact ⟨r, q env σ w (.refl R) fun _ _ => ⟨rfl, rfl⟩⟩
  | cons d ds => exact False.elim w
theorem g_cons {e : Expr} {es : List Expr} {g : G} {gs : Gs} (h1 : DG X np He pr sl e g) (h2 : DGs X np He pr sl es gs) (hs : (assignEach (e :: es) X.env).map (·.2) = assign e X.env :: (assignEach es X.env).map (·.2) := by rfl) : DGs X np He pr sl (e :: es) (gCons' g gs) := by
  refine PGs.weak (pgs_cons h1 h2 hs) fun vs σ H Q ⟨env, ds, Q0, R, r, w, q⟩ => ?_
  cases ds with
  | nil => exact False.elim w
  | cons d ds =>
    simp only [RpIs] at r
    obtain ⟨v, vr, rfl, r1, r2⟩ := r
    refine ⟨v, vr, rfl, env, d, _, R, r1, w, fun e1 σ1 w1 s1 o1 => ⟨e1, ds, _, s1.rep, r2, w1, fun e2 σ2 w2 s2 o2 => q e2 σ2 w2 (s1.trans s2) fun j hj => ?_⟩⟩
    exact ⟨(o2 j hj).1.trans (o1 j hj).1, (o2 j hj).2.trans (o1 j hj).2⟩
def gT (n : Nat) (gs : Gs) : G := fun d env k => match d with
  | .tup ds => ds.length = n ∧ gs ds env k
  | _ => False
theorem g_tup {es : List Expr} {k : Nat} {gs : Gs} {n : Nat} (hc : X.calm = true) (h : DGs X np He pr sl es gs)
    (hn : (assignEach es X.env).length = n := by rfl) (hst : (assignEach es X.env).findIdx? (·.1) = none := by rfl) : DG X np He pr sl (.Tuple es k pos) (gT n gs) := by
  refine PG.weak (pg_tup hc h hn hst) fun v σ H Q ⟨env, d, Q0, R, r, w, q⟩ => ?_
  cases d with
  | tup ds =>
    obtain ⟨hl, w⟩ := w
    simp only [RpI] at r
    obtain ⟨a, vs, rfl, s, r⟩ := r
    exact ⟨a, vs, rfl, s, by rw [← r.length]; exact hl, env, ds, Q0, R, r, w, q⟩
  | _ => exact False.elim w
end

/-! ### what is walked -/
structure Src where
  xs : List D
  chk : List (Nat × List D)
def chkE : List (Nat × List D) → DEnv → Prop
  | [], _ => True
  | (i, l) :: r, env => env[i]? = some (some (D.lst l)) ∧ chkE r env
abbrev WI := DEnv → (Src → DEnv → Prop) → Prop
/-- the state behind some turns -/
structure Stay (K : PySem.W.Frag) (np : Nat) (He : Hp) (σ1 : L2.St) (H1 : Hp) (e1 : DEnv) (chk : List (Nat × List D)) (H' : Hp) : Prop where
  kp : Kp H1 H'
  keep : ∀ b o, H1 b = some o → ¬ LA σ1 e1 b → H' b = some o
  chk : ∀ p ∈ chk, ∀ a, σ1[p.1]? = some (some (V.ref a)) → ∃ us, H' a = some (.lst us) ∧ RpIs K H' p.2 us
def rI (K : PySem.W.Frag) (np : Nat) (He : Hp) (w : WI) : TI := fun σ H R => ∃ env Q0, Rep K np He σ H env ∧ w env Q0 ∧
  ∀ src e1 H1 J (Gd : Hp → Prop) (Y : Nat → Hp → V → Hp → Prop), Q0 src e1 → SE K np He σ H env H1 e1 → Walk J src.xs.length Gd Y → (∀ p ∈ src.chk, e1[p.1]? = some (some (D.lst p.2))) →
    (∀ i H2 x H3, i < src.xs.length → Y i H2 x H3 → Gd H2 → Ext H2 H3 ∧ ∃ d, src.xs[i]? = some d ∧ RpI K H3 d x) → (∀ H', Stay K np He σ H1 e1 src.chk H' → Gd H') → R J H1
theorem PI.weak {X : Cx} {tg e : Expr} {t t' : TI} (h : PI X tg e t) (i : ∀ σ H R, t' σ H R → t σ H R) : PI X tg e t' := ⟨fun pins s σ H R I q => h.run pins s σ H R I (i σ H R q)⟩
section
variable {X : Cx} {np : Nat} {He : Hp} {a b c e tg : Expr} {es : List Expr} {wa wb wc : W} {ws : WA} {pos : Pos}
abbrev DI (X : Cx) (np : Nat) (He : Hp) (tg e : Expr) (w : WI) : Prop := PI X tg e (rI X.K np He w)
def iSeq (K : PySem.W.Frag) (tl : TE) : TI := fun σ H R => tl σ H fun x H1 => ∃ a, x = .ref a ∧ (((∃ xs, SqL K H1 a xs) ∧ R (Itl K a) H1) ∨ ((∃ xs, SqT K H1 a xs) ∧ R (Itt K a) H1))
theorem pi_seq {l : Expr} {tl : TE} (hl : PE X l tl) : PI X tg l (iSeq X.K tl) := by
  refine ⟨fun pins s σ H R I h => ?_⟩
  refine thn (hl.run pins s σ H _ I h) fun v s1 ⟨x, H1, I1, r1, q1⟩ => ?_
  obtain ⟨a, e, q⟩ := q1
  subst e
  cases r1
  rcases q with ⟨⟨xs, hq⟩, q⟩ | ⟨⟨xs, hq⟩, q⟩
  · obtain ⟨its, rv, p, hz⟩ := I1.list hq
    refine wpAny_pyIter_list p.isList ?_
    refine ⟨s1.heap.objs.size, [s1.heap.objs.size], _, _, H1, rfl, I1.kept (t' := s1.toks) fun b o e => Heap.get?_push_of_some _ e, turn_list a _, ⟨_, Heap.get?_push_size _ rfl, rfl, rfl⟩, fun b hb => ?_, q⟩
    have e : b = s1.heap.objs.size := by simpa using hb
    subst e
    exact I1.fpOk (Nat.le_refl _) (I1.hok.fresh (Nat.le_refl _))
  · obtain ⟨its, rv, p, hz⟩ := I1.tuple hq
    refine wpAny_pyIter_tuple (show s1.heap.IsTuple a its.toArray from p) ?_
    refine ⟨s1.heap.objs.size, [s1.heap.objs.size], _, _, H1, rfl, I1.kept (t' := s1.toks) fun b o e => Heap.get?_push_of_some _ e, turn_tuple a _, ⟨_, Heap.get?_push_size _ rfl, rfl, rfl⟩, fun b hb => ?_, q⟩
    have e : b = s1.heap.objs.size := by simpa using hb
    subst e
    exact I1.fpOk (Nat.le_refl _) (I1.hok.fresh (Nat.le_refl _))
/-- a list that bears data, read anew at each turn -/
theorem walk_rl {K : PySem.W.Frag} {a : Addr} {ds : List D} : Walk (Itl K a) ds.length (fun H => ∃ vs, SqL K H a vs ∧ RpIs K H ds vs) (fun i H x H' => H' = H ∧ ∃ d, ds[i]? = some d ∧ RpI K H d x) := by
  refine ⟨fun i H hi ⟨vs, s, r⟩ => ?_, fun H ⟨vs, s, r⟩ => ⟨vs, s, by rw [r.length]; exact Nat.le_refl _⟩, fun i H x H' hi ⟨vs, s, r⟩ y => ?_⟩
  · obtain ⟨v, e, _⟩ := r.get (List.getElem?_eq_getElem hi)
    exact ⟨vs, v, s, e⟩
  · obtain ⟨d, e, rd⟩ := r.get' (y.2 vs s)
    exact ⟨y.1, d, e, rd⟩
theorem walk_rt {K : PySem.W.Frag} {a : Addr} {ds : List D} : Walk (Itt K a) ds.length (fun H => ∃ vs, SqT K H a vs ∧ RpIs K H ds vs) (fun i H x H' => H' = H ∧ ∃ d, ds[i]? = some d ∧ RpI K H d x) := by
  refine ⟨fun i H hi ⟨vs, s, r⟩ => ?_, fun H ⟨vs, s, r⟩ => ⟨vs, s, by rw [r.length]; exact Nat.le_refl _⟩, fun i H x H' hi ⟨vs, s, r⟩ y => ?_⟩
  · obtain ⟨v, e, _⟩ := r.get (List.getElem?_eq_getElem hi)
    exact ⟨vs, v, s, e⟩
  · obtain ⟨d, e, rd⟩ := r.get' (y.2 vs s)
    exact ⟨y.1, d, e, rd⟩
/-- a walked thing: a value, or a list in a slot -/
def srcR (e1 : DEnv) (r : RV) (k : List D → List (Nat × List D) → Prop) : Prop := match r with
  | .val (.lst xs) => k xs []
  | .val (.tup xs) => k xs []
  | .val (.rol xs) => k xs []
  | .ref i => getl e1 i fun xs => k xs [(i, xs)]
  | _ => False
/-- where it stands -/
theorem src_at {K : PySem.W.Frag} {σ : L2.St} {H H1 : Hp} {env e1 : DEnv} {v : V} {r : RV} {k : List D → List (Nat × List D) → Prop} (R : Rep K np He σ H env) (s1 : SE K np He σ H env H1 e1) (h : RpR K σ H H1 e1 v r) (g : srcR e1 r k) :
    ∃ ds chk a, k ds chk ∧ v = .ref a ∧ (∀ p ∈ chk, e1[p.1]? = some (some (D.lst p.2))) ∧
      ((∀ H' : Hp, Stay K np He σ H1 e1 chk H' → ∃ vs, SqL K H' a vs ∧ RpIs K H' ds vs) ∨ (∀ H' : Hp, Stay K np He σ H1 e1 chk H' → ∃ vs, SqT K H' a vs ∧ RpIs K H' ds vs)) := by
  cases r with
  | ref i =>
    obtain ⟨xs, e, g⟩ := getl_of g
    obtain ⟨hs, _⟩ := h
    obtain ⟨a, us, e2, ha, ra⟩ := s1.rep.lst e
    rw [hs] at e2
    have ev : v = .ref a := by simpa using e2
    refine ⟨xs, [(i, xs)], a, g, ev, fun p hp => ?_, .inl fun H' st => ?_⟩
    · cases (show p = (i, xs) by simpa using hp)
      exact e
    · obtain ⟨us', h1, h2⟩ := st.chk (i, xs) (by simp) a (by rw [hs, ev])
      exact ⟨us', .of h1, h2⟩
  | val d =>
    obtain ⟨h, fr⟩ := h
    cases d with
    | lst xs =>
      obtain ⟨a, us, ev, ha, ra⟩ := h
      refine ⟨xs, [], a, g, ev, fun p hp => absurd hp (by simp), .inl fun H' st => ⟨us, .of (st.keep a _ ha fun z => ?_), RpIs.kp st.kp xs us ra⟩⟩
      obtain ⟨ws, q⟩ := R.la (s1.la.mp z)
      rw [fr rfl a ev] at q
      cases q
    | tup xs =>
      obtain ⟨a, us, ev, ha, ra⟩ := (show ∃ a vs, v = .ref a ∧ SqT K H1 a vs ∧ RpIs K H1 xs vs by simpa only [RpV, RpI] using h)
      exact ⟨xs, [], a, g, ev, fun p hp => absurd hp (by simp), .inr fun H' st => ⟨us, st.kp.tup ha, RpIs.kp st.kp xs us ra⟩⟩
    | rol xs =>
      obtain ⟨a, us, ev, ha, ra⟩ := (show ∃ a vs, v = .ref a ∧ SqR K H1 a vs ∧ RpIs K H1 xs vs by simpa only [RpV, RpI] using h)
      exact ⟨xs, [], a, g, ev, fun p hp => absurd hp (by simp), .inl fun H' st => ⟨us, (st.kp.rol ha).seq, RpIs.kp st.kp xs us ra⟩⟩
    | _ => exact False.elim g
theorem Stay.here {K : PySem.W.Frag} {σ : L2.St} {H1 : Hp} {e1 : DEnv} {chk : List (Nat × List D)} (R : Rep K np He σ H1 e1) (h : ∀ p ∈ chk, e1[p.1]? = some (some (D.lst p.2))) : Stay K np He σ H1 e1 chk H1 := by
  refine ⟨.refl _, fun _ _ h _ => h, fun p hp a ea => ?_⟩
  obtain ⟨a', us, e, ha, ra⟩ := R.lst (h p hp)
  rw [ea] at e
  have : a = a' := by simpa using e
  subst this
  exact ⟨us, ha, ra⟩
def iE (wa : W) : WI := fun env Q => wa env fun r e1 => srcR e1 r fun xs chk => Q ⟨xs, chk⟩ e1
theorem i_seq (ha : DE X np He a wa) : DI X np He tg a (iE wa) := by
  refine PI.weak (pi_seq ha) fun σ H R ⟨env, Q0, Rp, w, q⟩ => ⟨env, _, Rp, w, fun r e1 v H1 w1 s1 r1 => ?_⟩
  obtain ⟨ds, chk, a, k, rfl, hc, hs⟩ := src_at Rp s1 r1 w1
  have here := Stay.here s1.rep hc
  refine ⟨a, rfl, ?_⟩
  rcases hs with hs | hs
  · obtain ⟨vs, s, _⟩ := hs H1 here
    refine .inl ⟨⟨vs, s⟩, q ⟨ds, chk⟩ e1 H1 _ _ _ k s1 walk_rl hc (fun i H2 x H3 _ ⟨y1, y2⟩ _ => ?_) hs⟩
    subst y1
    exact ⟨.refl _, y2⟩
  · obtain ⟨vs, s, _⟩ := hs H1 here
    refine .inr ⟨⟨vs, s⟩, q ⟨ds, chk⟩ e1 H1 _ _ _ k s1 walk_rt hc (fun i H2 x H3 _ ⟨y1, y2⟩ _ => ?_) hs⟩
    subst y1
    exact ⟨.refl _, y2⟩
/-- lo, lo + 1, .. -/
def rngD (lo : Int) : Nat → List D
  | 0 => []
  | n + 1 => .int lo :: rngD (lo + 1) n
theorem rngD_len (lo : Int) (n : Nat) : (rngD lo n).length = n := by
  induction n generalizing lo with
  | zero => rfl
  | succ n ih => simp [rngD, ih]
theorem rngD_get (lo : Int) (n i : Nat) (h : i < n) : (rngD lo n)[i]? = some (D.int (lo + i)) := by
  induction n generalizing lo i with
  | zero => omega
  | succ n ih =>
    cases i with
    | zero => simp [rngD]
    | succ i =>
      simp only [rngD, List.getElem?_cons_succ]
      rw [ih (lo + 1) i (by omega)]
      congr 2
      omega
theorem walk_rg {lo : Int} {n : Nat} : Walk (Itr lo n) (rngD lo n).length (fun _ => True) (YFn fun i => .int (lo + i)) := by
  rw [rngD_len]
  exact walk_range
def iR1 (wa : W) : WI := fun env Q => wa env fun r e1 => rs e1 r fun d => isI d fun j => j ≤ 1000000 ∧ -1000000 ≤ j ∧ Q ⟨rngD 0 j.toNat, []⟩ e1
def iR2 (wa wb : W) : WI := fun env Q => wa env fun ra e1 => wb e1 fun rb e2 => rs e2 ra fun x => isI x fun i => rs e2 rb fun y => isI y fun j => -(2 ^ 62) ≤ i ∧ i < 2 ^ 62 ∧ -(2 ^ 62) ≤ j ∧ j < 2 ^ 62 ∧ Q ⟨rngD i (j - i).toNat, []⟩ e2
theorem i_rng1 {p : Pos} (hm : X.mg "range" = none) (ha : DE X np He a wa) (hg : Gl X "range" := by rfl) (hs : starEach [a] X.env = [(false, eval a X.env)] := by rfl) : DI X np He tg (.Call (.Name "range" p) [a] [] pos) (iR1 wa) := by
  refine PI.weak (pi_range1 hg hm (pa_cons ha pa_nil hs) hs) fun σ H R ⟨env, Q0, Rp, w, q⟩ => ⟨env, _, Rp, w, fun r e1 v H1 w1 s1 r1 => ?_⟩
  obtain ⟨d, hd, w1⟩ := r1.rs s1.rep w1
  obtain ⟨j, rfl, h1, h2, w1⟩ := isI_of w1
  cases hd
  refine ⟨j, rfl, by omega, by omega, ?_⟩
  refine q ⟨rngD 0 j.toNat, []⟩ e1 H1 (Itr 0 j.toNat) _ _ w1 s1 walk_rg (fun p hp => absurd hp (by simp)) (fun i H2 x H3 hi y _ => ?_) (fun _ _ => trivial)
  obtain ⟨rfl, rfl⟩ := y
  refine ⟨.refl _, _, rngD_get 0 j.toNat i (by simpa [rngD_len] using hi), ?_⟩
  simp only [RpI]
theorem i_rng2 {p : Pos} (hm : X.mg "range" = none) (ha : DE X np He a wa) (hb : DE X np He b wb) (hg : Gl X "range" := by rfl) (hs : starEach [a, b] X.env = [(false, eval a X.env), (false, eval b X.env)] := by rfl) (hs2 : starEach [b] X.env = [(false, eval b X.env)] := by rfl) : DI X np He tg (.Call (.Name "range" p) [a, b] [] pos) (iR2 wa wb) := by
  refine PI.weak (pi_range2 hg hm (pa_cons ha (pa_cons hb pa_nil hs2) (by rw [hs, hs2])) hs hs2) fun σ H R ⟨env, Q0, Rp, w, q⟩ => ⟨env, _, Rp, w, fun ra e1 v1 H1 w1 s1 r1 => ⟨e1, _, s1.rep, w1, fun rb e2 v2 H2 w2 s2 r2 => ?_⟩⟩
  have s12 := s1.trans s2
  obtain ⟨x, hx, w2⟩ := (r1.keep Rp s1 s2).rs s2.rep w2
  obtain ⟨i, rfl, w2⟩ := isI_of w2
  obtain ⟨y, hy, w2⟩ := r2.rs s2.rep w2
  obtain ⟨j, rfl, h1, h2, h3, h4, w2⟩ := isI_of w2
  cases hx; cases hy
  refine ⟨i, j, rfl, ⟨h1, h2, h3, h4⟩, ?_⟩
  refine q ⟨rngD i (j - i).toNat, []⟩ e2 H2 (Itr i (j - i).toNat) _ _ w2 s12 walk_rg (fun p hp => absurd hp (by simp)) (fun l H3 x H4 hl y _ => ?_) (fun _ _ => trivial)
  obtain ⟨rfl, rfl⟩ := y
  refine ⟨.refl _, _, rngD_get i (j - i).toNat l (by simpa [rngD_len] using hl), ?_⟩
  simp only [RpI]
/-- zip of two lists -/
def zipD : List D → List D → List D
  | x :: xs, y :: ys => .tup [x, y] :: zipD xs ys
  | _, _ => []
theorem zipD_len : ∀ (xs ys : List D), (zipD xs ys).length = min xs.length ys.length
  | [], ys => by simp [zipD]
  | x :: xs, [] => by simp [zipD]
  | x :: xs, y :: ys => by simp only [zipD, List.length_cons, zipD_len xs ys]; omega
theorem zipD_get : ∀ (xs ys : List D) (i : Nat) (x y : D), xs[i]? = some x → ys[i]? = some y → (zipD xs ys)[i]? = some (D.tup [x, y])
  | [], ys, i, x, y, h, _ => by simp at h
  | x0 :: xs, [], i, x, y, _, h => by simp at h
  | x0 :: xs, y0 :: ys, 0, x, y, h, g => by simp at h g; subst h g; simp [zipD]
  | x0 :: xs, y0 :: ys, i + 1, x, y, h, g => by
    simp only [zipD, List.getElem?_cons_succ]
    exact zipD_get xs ys i x y (by simpa using h) (by simpa using g)
theorem walk_rz {K : PySem.W.Frag} {a b : Addr} {xs ys : List D} : Walk (Itz K a b) (zipD xs ys).length (fun H => (∃ vs, SqL K H a vs ∧ RpIs K H xs vs) ∧ ∃ vs, SqL K H b vs ∧ RpIs K H ys vs)
    (fun i H v H' => Ext H H' ∧ ∃ d, (zipD xs ys)[i]? = some d ∧ RpI K H' d v) := by
  rw [zipD_len]
  refine ⟨fun i H hi ⟨⟨vs, s, r⟩, us, s2, r2⟩ => ?_, fun H ⟨⟨vs, s, r⟩, us, s2, r2⟩ => ⟨vs, us, s, s2, by rw [← r.length, ← r2.length]; omega⟩, fun i H v H' hi ⟨⟨vs, s, r⟩, us, s2, r2⟩ y => ?_⟩
  · obtain ⟨v, e, _⟩ := r.get (List.getElem?_eq_getElem (show i < xs.length by omega))
    obtain ⟨u, e2, _⟩ := r2.get (List.getElem?_eq_getElem (show i < ys.length by omega))
    exact ⟨vs, us, v, u, s, s2, e, e2⟩
  · obtain ⟨T, x, z, rfl, hT, rfl, h4, h5⟩ := y
    obtain ⟨d1, e1, r1⟩ := r.get' (h4 vs s)
    obtain ⟨d2, e2, r2'⟩ := r2.get' (h5 us s2)
    have ex : Ext H (upd H T (.tup [x, z])) := .new hT
    refine ⟨ex, _, zipD_get xs ys i d1 d2 e1 e2, ?_⟩
    simp only [RpI, RpIs]
    exact ⟨T, _, rfl, .inl (.inl upd_same), x, _, rfl, RpI.kp ex.kp _ _ r1, z, _, rfl, RpI.kp ex.kp _ _ r2', rfl⟩
def isLs (e1 : DEnv) (r : RV) : Prop := match r with
  | .val (.tup _) => False
  | _ => True
def iZ (wa wb : W) : WI := fun env Q => wa env fun ra e1 => wb e1 fun rb e2 => isLs e2 ra ∧ isLs e2 rb ∧ srcR e2 ra fun xs c1 => srcR e2 rb fun ys c2 => Q ⟨zipD xs ys, c1 ++ c2⟩ e2
theorem src_l {K : PySem.W.Frag} {σ : L2.St} {H H1 : Hp} {env e1 : DEnv} {v : V} {r : RV} {k : List D → List (Nat × List D) → Prop} (R : Rep K np He σ H env) (s1 : SE K np He σ H env H1 e1) (h : RpR K σ H H1 e1 v r) (l : isLs e1 r) (g : srcR e1 r k) :
    ∃ ds chk a, k ds chk ∧ v = .ref a ∧ (∀ p ∈ chk, e1[p.1]? = some (some (D.lst p.2))) ∧ (∀ H' : Hp, Stay K np He σ H1 e1 chk H' → ∃ vs, SqL K H' a vs ∧ RpIs K H' ds vs) := by
  cases r with
  | ref i =>
    obtain ⟨xs, e, g⟩ := getl_of g
    obtain ⟨hs, _⟩ := h
    obtain ⟨a, us, e2, ha, ra⟩ := s1.rep.lst e
    rw [hs] at e2
    have ev : v = .ref a := by simpa using e2
    refine ⟨xs, [(i, xs)], a, g, ev, fun p hp => ?_, fun H' st => ?_⟩
    · cases (show p = (i, xs) by simpa using hp)
      exact e
    · obtain ⟨us', h1, h2⟩ := st.chk (i, xs) (by simp) a (by rw [hs, ev])
      exact ⟨us', .of h1, h2⟩
  | val d =>
    obtain ⟨h, fr⟩ := h
    cases d with
    | lst xs =>
      obtain ⟨a, us, ev, ha, ra⟩ := h
      refine ⟨xs, [], a, g, ev, fun p hp => absurd hp (by simp), fun H' st => ⟨us, .of (st.keep a _ ha fun z => ?_), RpIs.kp st.kp xs us ra⟩⟩
      obtain ⟨ws, q⟩ := R.la (s1.la.mp z)
      rw [fr rfl a ev] at q
      cases q
    | tup xs => exact l.elim
    | rol xs =>
      obtain ⟨a, us, ev, ha, ra⟩ := (show ∃ a vs, v = .ref a ∧ SqR K H1 a vs ∧ RpIs K H1 xs vs by simpa only [RpV, RpI] using h)
      exact ⟨xs, [], a, g, ev, fun p hp => absurd hp (by simp), fun H' st => ⟨us, (st.kp.rol ha).seq, RpIs.kp st.kp xs us ra⟩⟩
    | _ => exact False.elim g
theorem Stay.sub {K : PySem.W.Frag} {σ : L2.St} {H1 H' : Hp} {e1 : DEnv} {c c' : List (Nat × List D)} (h : ∀ p ∈ c, p ∈ c') (s : Stay K np He σ H1 e1 c' H') : Stay K np He σ H1 e1 c H' := ⟨s.kp, s.keep, fun p hp => s.chk p (h p hp)⟩
theorem i_zip {elts : List Expr} {kk : Nat} {tpos p : Pos} (hm : X.mg "zip" = none) (ha : DE X np He a wa) (hb : DE X np He b wb) (hg : Gl X "zip" := by rfl) (hs : starEach [a, b] X.env = (false, eval a X.env) :: starEach [b] X.env := by rfl) (hs2 : starEach [b] X.env = (false, eval b X.env) :: starEach [] X.env := by rfl) (hpl : (backTo pos (starEach [b] X.env)).any (·.1) = false := by rfl) :
    DI X np He (.Tuple elts kk tpos) (.Call (.Name "zip" p) [a, b] [] pos) (iZ wa wb) := by
  refine PI.weak (pi_zip hg hm (pa_cons ha (pa_cons hb pa_nil hs2) hs) hs hpl) fun σ H R ⟨env, Q0, Rp, w, q⟩ => ⟨env, _, Rp, w, fun ra e1 v1 H1 w1 s1 r1 => ⟨e1, _, s1.rep, w1, fun rb e2 v2 H2 w2 s2 r2 => ?_⟩⟩
  have s12 := s1.trans s2
  obtain ⟨l1, l2, w2⟩ := w2
  obtain ⟨xs, c1, a1, w2, rfl, hc1, st1⟩ := src_l Rp s12 (r1.keep Rp s1 s2) l1 w2
  obtain ⟨ys, c2, a2, w2, rfl, hc2, st2⟩ := src_l Rp s12 (r2.start s1) l2 w2
  have h1 := st1 H2 (Stay.here s12.rep hc1)
  have h2 := st2 H2 (Stay.here s12.rep hc2)
  obtain ⟨vs, sv, _⟩ := h1
  obtain ⟨us, su, _⟩ := h2
  refine ⟨a1, a2, vs, us, rfl, sv, su, q ⟨zipD xs ys, c1 ++ c2⟩ e2 H2 _ _ _ w2 s12 walk_rz (fun p hp => ?_) (fun i H3 x H4 hi y _ => y) (fun H' st => ?_)⟩
  · rcases List.mem_append.mp hp with z | z
    · exact hc1 p z
    · exact hc2 p z
  · exact ⟨st1 H' (st.sub fun p z => List.mem_append_left _ z), st2 H' (st.sub fun p z => List.mem_append_right _ z)⟩
/-- reversed -/
theorem walk_rv {K : PySem.W.Frag} {a : Addr} {ds : List D} {n : Nat} (hn : n = ds.length) : Walk (Itv K a n) ds.reverse.length (fun H => ∃ vs, SqL K H a vs ∧ RpIs K H ds vs) (fun i H x H' => H' = H ∧ ∃ d, ds.reverse[i]? = some d ∧ RpI K H d x) := by
  subst hn
  rw [List.length_reverse]
  have ix : ∀ {i : Nat}, i < ds.length → ds.reverse[i]? = ds[ds.length - 1 - i]? := fun {i} h => List.getElem?_reverse h
  refine ⟨fun i H hi ⟨vs, s, r⟩ => ?_, fun H ⟨vs, s, r⟩ => Nat.le_refl _, fun i H x H' hi ⟨vs, s, r⟩ y => ?_⟩
  · obtain ⟨v, e, _⟩ := r.get (List.getElem?_eq_getElem (show ds.length - 1 - i < ds.length by omega))
    exact ⟨hi, vs, v, s, e⟩
  · obtain ⟨d, e, rd⟩ := r.get' (y.2 vs s)
    exact ⟨y.1, d, by rw [ix hi]; exact e, rd⟩
theorem walk_rvt {K : PySem.W.Frag} {a : Addr} {ds : List D} {n : Nat} (hn : n = ds.length) : Walk (RT.ItvT K a n) ds.reverse.length (fun H => ∃ vs, SqT K H a vs ∧ RpIs K H ds vs) (fun i H x H' => H' = H ∧ ∃ d, ds.reverse[i]? = some d ∧ RpI K H d x) := by
  subst hn
  rw [List.length_reverse]
  have ix : ∀ {i : Nat}, i < ds.length → ds.reverse[i]? = ds[ds.length - 1 - i]? := fun {i} h => List.getElem?_reverse h
  refine ⟨fun i H hi ⟨vs, s, r⟩ => ?_, fun H ⟨vs, s, r⟩ => Nat.le_refl _, fun i H x H' hi ⟨vs, s, r⟩ y => ?_⟩
  · obtain ⟨v, e, _⟩ := r.get (List.getElem?_eq_getElem (show ds.length - 1 - i < ds.length by omega))
    exact ⟨hi, vs, v, s, e⟩
  · obtain ⟨d, e, rd⟩ := r.get' (y.2 vs s)
    exact ⟨y.1, d, by rw [ix hi]; exact e, rd⟩
def iRv (wa : W) : WI := fun env Q => wa env fun r e1 => srcR e1 r fun xs chk => Q ⟨xs.reverse, chk⟩ e1
theorem i_rev {p : Pos} (hm : X.mg "reversed" = none) (ha : DE X np He a wa) (hg : Gl X "reversed" := by rfl) (hs : starEach [a] X.env = (false, eval a X.env) :: starEach [] X.env := by rfl) : DI X np He tg (.Call (.Name "reversed" p) [a] [] pos) (iRv wa) := by
  refine PI.weak (RT.pi_revA hg hm ha hs) fun σ H R ⟨env, Q0, Rp, w, q⟩ => ⟨env, _, Rp, w, fun r e1 v H1 w1 s1 r1 => ?_⟩
  obtain ⟨ds, chk, a, k, rfl, hc, hs⟩ := src_at Rp s1 r1 w1
  have here := Stay.here s1.rep hc
  rcases hs with hs | hs
  · obtain ⟨vs, s, r⟩ := hs H1 here
    refine ⟨a, vs, rfl, .inl ⟨s, q ⟨ds.reverse, chk⟩ e1 H1 _ _ _ k s1 (walk_rv r.length.symm) hc (fun i H2 x H3 _ ⟨y1, y2⟩ _ => ?_) hs⟩⟩
    subst y1
    exact ⟨.refl _, y2⟩
  · obtain ⟨vs, s, r⟩ := hs H1 here
    refine ⟨a, vs, rfl, .inr ⟨s, q ⟨ds.reverse, chk⟩ e1 H1 _ _ _ k s1 (walk_rvt r.length.symm) hc (fun i H2 x H3 _ ⟨y1, y2⟩ _ => ?_) hs⟩⟩
    subst y1
    exact ⟨.refl _, y2⟩
end
end DL

namespace DL
open PySem PySem.Spec PyProof.Rows L2

/-! ### comprehensions -/
def wipeE (env : DEnv) : List Nat → DEnv
  | [] => env
  | v :: vs => (wipeE env vs).set v none
def back (env env0 : DEnv) : List Nat → DEnv
  | [] => env
  | v :: vs => (back env env0 vs).set v ((env0[v]?).getD none)
def noLs (env : DEnv) : List Nat → Bool
  | [] => true
  | v :: vs => !isLo ((env[v]?).getD none) && noLs env vs
section
variable {K : PySem.W.Frag} {np : Nat} {He : Hp} {σ σ' σ'' : L2.St} {H H' H'' : Hp} {env env' env'' : DEnv}
theorem wipeE_len (env : DEnv) : ∀ vs : List Nat, (wipeE env vs).length = env.length
  | [] => rfl
  | v :: vs => by unfold wipeE; rw [List.length_set, wipeE_len env vs]
theorem wipeE_out {i : Nat} : ∀ {vs : List Nat}, i ∉ vs → (wipeE env vs)[i]? = env[i]?
  | [], _ => rfl
  | v :: vs, h => by
    have h1 : v ≠ i := fun e => h (by rw [e]; exact List.mem_cons_self)
    have h2 : i ∉ vs := fun m => h (List.mem_cons_of_mem _ m)
    unfold wipeE
    rw [List.getElem?_set_ne h1]
    exact wipeE_out h2
theorem wipeE_some {i : Nat} {d : D} : ∀ {vs : List Nat}, (wipeE env vs)[i]? = some (some d) → env[i]? = some (some d) ∧ i ∉ vs
  | [], h => ⟨h, by simp⟩
  | v :: vs, h => by
    unfold wipeE at h
    by_cases hi : v = i
    · subst hi
      by_cases hv : v < (wipeE env vs).length
      · rw [List.getElem?_set_self hv] at h; cases h
      · rw [List.getElem?_eq_none (by simpa using hv)] at h; cases h
    · rw [List.getElem?_set_ne hi] at h
      obtain ⟨h1, h2⟩ := wipeE_some h
      exact ⟨h1, by simp only [List.mem_cons, not_or]; exact ⟨fun e => hi e.symm, h2⟩⟩
theorem back_len (env env0 : DEnv) : ∀ vs : List Nat, (back env env0 vs).length = env.length
  | [] => rfl
  | v :: vs => by unfold back; rw [List.length_set, back_len env env0 vs]
theorem back_out {env0 : DEnv} {i : Nat} : ∀ {vs : List Nat}, i ∉ vs → (back env env0 vs)[i]? = env[i]?
  | [], _ => rfl
  | v :: vs, h => by
    have h1 : v ≠ i := fun e => h (by rw [e]; exact List.mem_cons_self)
    have h2 : i ∉ vs := fun m => h (List.mem_cons_of_mem _ m)
    unfold back
    rw [List.getElem?_set_ne h1]
    exact back_out h2
theorem back_in {env0 : DEnv} {i : Nat} (hl : env.length = env0.length) : ∀ {vs : List Nat}, i ∈ vs → (back env env0 vs)[i]? = env0[i]?
  | [], h => by simp at h
  | v :: vs, h => by
    unfold back
    by_cases hi : v = i
    · subst hi
      by_cases hv : v < env0.length
      · rw [List.getElem?_set_self (by rw [back_len, hl]; exact hv), List.getElem?_eq_getElem hv]; rfl
      · rw [List.getElem?_eq_none (by rw [List.length_set, back_len, hl]; omega), List.getElem?_eq_none (by omega)]
    · rw [List.getElem?_set_ne hi]
      rcases List.mem_cons.mp h with z | z
      · exact absurd z.symm hi
      · exact back_in hl z
theorem noLs_at : ∀ {vs : List Nat} {i : Nat} {xs : List D}, noLs env vs = true → i ∈ vs → env[i]? ≠ some (some (D.lst xs))
  | [], i, xs, _, h => by simp at h
  | v :: vs, i, xs, n, h => by
    simp only [noLs, Bool.and_eq_true, Bool.not_eq_true'] at n
    rcases List.mem_cons.mp h with z | z
    · subst z
      intro e
      rw [e] at n
      simp [isLo] at n
    · exact noLs_at n.2 z
theorem Rep.wipe (R : Rep K np He σ H env) (vs : List Nat) : Rep K np He (wipe σ vs) H (wipeE env vs) where
  len := by rw [wipe_length, wipeE_len]; exact R.len
  val := fun i d e => by
    obtain ⟨e1, hi⟩ := wipeE_some e
    obtain ⟨v, e2, r⟩ := R.val i d e1
    exact ⟨v, (wipe_out hi).trans e2, r⟩
  apart := fun i j xs ys a e1 e2 s1 s2 => R.apart i j xs ys a (wipeE_some e1).1 (wipeE_some e2).1 (wipe_some s1).1 (wipe_some s2).1
  own := fun i xs a hi e s => R.own i xs a hi (wipeE_some e).1 (wipe_some s).1
  dom := R.dom
theorem la_wipe {vs : List Nat} {b : Addr} (h : LA (wipe σ vs) (wipeE env vs) b) : LA σ env b := by
  obtain ⟨i, xs, e, s⟩ := h
  exact ⟨i, xs, (wipeE_some e).1, (wipe_some s).1⟩
theorem la_unwipe {vs : List Nat} {b : Addr} (n : noLs env vs = true) (h : LA σ env b) : LA (L2.wipe σ vs) (wipeE env vs) b := by
  obtain ⟨i, xs, e, s⟩ := h
  have hi : i ∉ vs := fun z => noLs_at n z e
  exact ⟨i, xs, (wipeE_out hi).trans e, (wipe_out hi).trans s⟩
/-- the block's steps, seen from outside -/
structure In (K : PySem.W.Frag) (np : Nat) (He : Hp) (vs : List Nat) (σ : L2.St) (H : Hp) (env : DEnv) (H' : Hp) (env' : DEnv) : Prop where
  se : SE K np He (L2.wipe σ vs) H (wipeE env vs) H' env'
theorem SE.back {vs : List Nat} (R : Rep K np He σ H env) (n : noLs env vs = true) (s : SE K np He (L2.wipe σ vs) H (wipeE env vs) H' env') : SE K np He σ H env H' (back env' env vs) := by
  have hl : env'.length = env.length := by
    have h1 := s.rep.len
    rw [wipe_length, R.len] at h1
    exact h1.symm
  have kp : Kp H H' := fun b o h nl => s.keep b o h fun z => by
    obtain ⟨us, e⟩ := R.la (la_wipe z)
    rw [h] at e
    exact nl us (Option.some.inj e)
  have lst : ∀ (i : Nat) (xs : List D), (DL.back env' env vs)[i]? = some (some (D.lst xs)) → i ∉ vs ∧ env'[i]? = some (some (D.lst xs)) := fun i xs e => by
    by_cases hi : i ∈ vs
    · rw [back_in hl hi] at e
      exact absurd e (noLs_at n hi)
    · rw [back_out hi] at e
      exact ⟨hi, e⟩
  refine ⟨⟨by rw [back_len, hl]; exact R.len, fun i d e => ?_, fun i j xs ys a e1 e2 s1 s2 => ?_, fun i xs a hi e s' => ?_, s.rep.dom⟩, fun i => ?_, fun b o h nla => s.keep b o h fun z => nla (la_wipe z), s.dom⟩
  · by_cases hi : i ∈ vs
    · rw [back_in hl hi] at e
      obtain ⟨v, e1, r⟩ := R.val i d e
      refine ⟨v, e1, r.kp kp ?_⟩
      cases d with
      | lst xs => exact absurd e (noLs_at n hi)
      | _ => rfl
    · rw [back_out hi] at e
      obtain ⟨v, e1, r⟩ := s.rep.val i d e
      exact ⟨v, (wipe_some e1).1, r⟩
  · obtain ⟨h1, q1⟩ := lst i xs e1
    obtain ⟨h2, q2⟩ := lst j ys e2
    exact s.rep.apart i j xs ys a q1 q2 ((wipe_out h1).trans s1) ((wipe_out h2).trans s2)
  · obtain ⟨h1, q1⟩ := lst i xs e
    exact s.rep.own i xs a hi q1 ((wipe_out h1).trans s')
  · by_cases hi : i ∈ vs
    · exact .inl (back_in hl hi)
    · rw [back_out hi]
      rcases s.shape i with h | ⟨us, ws, g1, g2⟩
      · rw [wipeE_out hi] at h
        exact .inl h
      · exact .inr ⟨us, ws, (wipeE_some g1).1, g2⟩
theorem wipe_idem {σ2 : L2.St} {vs : List Nat} (hl : σ2.length = σ.length) (h : ∀ j, j ∉ vs → σ2[j]? = σ[j]?) : L2.wipe σ2 vs = L2.wipe σ vs := by
  have ins : ∀ (τ : L2.St) (ws : List Nat) (i : Nat), i ∈ ws → i < τ.length → (L2.wipe τ ws)[i]? = some none := by
    intro τ ws
    induction ws with
    | nil => intro i h; simp at h
    | cons w ws ih =>
      intro i h hi
      unfold L2.wipe
      by_cases hw : w = i
      · subst hw
        exact List.getElem?_set_self (by rw [wipe_length]; exact hi)
      · rw [List.getElem?_set_ne hw]
        rcases List.mem_cons.mp h with z | z
        · exact absurd z.symm hw
        · exact ih i z hi
  apply List.ext_getElem?
  intro i
  by_cases hi : i ∈ vs
  · by_cases hlt : i < σ.length
    · rw [ins _ _ i hi (by omega), ins _ _ i hi hlt]
    · rw [List.getElem?_eq_none (by rw [wipe_length]; omega), List.getElem?_eq_none (by rw [wipe_length]; omega)]
  · rw [wipe_out hi, wipe_out hi]
    exact h i hi
end

def lcGo (g : G) (wt we : W) (own : List Nat) (chk : List (Nat × List D)) (k : List D → DEnv → Prop) : List D → List D → DEnv → Prop
  | [], acc, env => chkE chk env ∧ k acc env
  | x :: xs, acc, env => chkE chk env ∧ g x env fun e2 => wt e2 fun rb e3 => rs e3 rb fun b =>
      ifb b (we e3 fun r e4 => rs e4 r fun y => isL y = false ∧ lcGo g wt we own chk k xs (acc ++ [y]) (wipeE e4 own)) (lcGo g wt we own chk k xs acc (wipeE e3 own))
@[irreducible] def Loop (p : Prop) : Prop := p
theorem Loop.out {p : Prop} (h : Loop p) : p := by unfold Loop at h; exact h
theorem Loop.mk {p : Prop} (h : p) : Loop p := by unfold Loop; exact h
def cLc (own : List Nat) (wi : WI) (g : G) (wt we : W) : W := fun env Q => wi env fun src e1 => noLs e1 own = true ∧ src.xs.length ≤ 1000000 ∧
  Loop (lcGo g wt we own src.chk (fun acc e => Q (.val (.lst acc)) (back e e1 own)) src.xs [] (wipeE e1 own))
theorem chkE_at : ∀ {chk : List (Nat × List D)} {env : DEnv} {p : Nat × List D}, chkE chk env → p ∈ chk → env[p.1]? = some (some (D.lst p.2))
  | [], env, p, _, h => by simp at h
  | (i, l) :: r, env, p, c, h => by
    rcases List.mem_cons.mp h with z | z
    · subst z; exact c.1
    · exact chkE_at c.2 z
section
variable {X : Cx} {np : Nat} {He : Hp} {pos : Pos}
def tTrue : W := cC (.bl true)
theorem PTs.weak {es : List Expr} {t t' : TT} (h : PTs X es t) (i : ∀ σ H Q, t' σ H Q → t σ H Q) : PTs X es t' := ⟨fun pins s σ H Q I q => h.run pins s σ H Q I (i σ H Q q)⟩
theorem ts_nil : PTs X [] (tB (rE X.K np He tTrue)) := DL.PTs.weak pts_nil fun σ H Q ⟨env, Q0, R, w, q⟩ => by
  obtain ⟨c, e, q'⟩ := q _ env (.bl true) H w (.refl R) ⟨rfl, fun n => by simp [isL] at n⟩
  cases e
  exact q'
theorem ts_one {c : Expr} {wc : W} (h : DT X np He c wc) : PTs X [c] (tB (rE X.K np He wc)) := pts_one h
/-- the core: the reading of a comprehension -/
theorem lc_read {K : PySem.W.Frag} {own : List Nat} {wi : WI} {g : G} {wt we : W} : ∀ σ H Q, rE K np He (cLc own wi g wt we) σ H Q → tLc (rI K np He wi) (rG K np He [] own g) (tB (rE K np He wt)) (rE K np He we) own σ H Q := by
  intro σ H Q ⟨env, Q0, R, w, q⟩
  refine ⟨env, _, R, w, fun src e1 H1 J Gd Y w1 s1 wk hc hy hg Dn hD => ?_⟩
  obtain ⟨nl, sz, w1l⟩ := w1
  have w1 := w1l.out
  have R1 := s1.rep
  have R1' : Rep K np He (L2.wipe σ own) H1 (wipeE e1 own) := R1.wipe own
  have hDe : ∀ a, H1 a ≠ none → a ≠ Dn := fun a h z => h (z ▸ hD)
  have DLA : ∀ {e2 : DEnv} {H2 : Hp}, SE K np He (L2.wipe σ own) H1 (wipeE e1 own) H2 e2 → ¬ LA (L2.wipe σ own) e2 Dn := fun s z => by
    obtain ⟨us, e⟩ := R1'.la (s.la.mp z)
    rw [hD] at e
    cases e
  -- a step of the block, with the new list written in it
  have wr : ∀ {H2 : Hp} {e2 : DEnv} {us ws : List V}, SE K np He (L2.wipe σ own) H1 (wipeE e1 own) H2 e2 → (H2 Dn = some (.lst us) ∨ H2 Dn = none) → SE K np He (L2.wipe σ own) H1 (wipeE e1 own) (upd H2 Dn (.lst ws)) e2 := fun {H2 e2 us ws} s hd => by
    have kp : Kp H2 (upd H2 Dn (.lst ws)) := fun b o e n => by
      have hb : b ≠ Dn := fun z => by
        subst z
        rcases hd with z | z
        · rw [z] at e; exact n us (Option.some.inj e).symm
        · rw [z] at e; cases e
      rw [upd_ne hb]
      exact e
    refine ⟨⟨s.rep.len, fun i d e => ?_, s.rep.apart, s.rep.own, fun b n => ?_⟩, s.shape, fun b o h n => ?_, fun b n => ?_⟩
    · obtain ⟨v, ev, r⟩ := s.rep.val i d e
      refine ⟨v, ev, ?_⟩
      cases d with
      | lst zs =>
        refine r.kpl kp fun a o ea eo => ?_
        subst ea
        have : a ≠ Dn := fun z => by
          subst z
          exact DLA s ⟨i, zs, e, ev⟩
        rw [upd_ne this]
        exact eo
      | _ => exact r.kp kp rfl
    · by_cases hb : b = Dn
      · subst hb; rw [upd_same] at n; cases n
      · rw [upd_ne hb] at n; exact s.rep.dom b n
    · have hb : b ≠ Dn := hDe b (by rw [h]; exact fun z => nomatch z)
      rw [upd_ne hb]
      exact s.keep b o h n
    · by_cases hb : b = Dn
      · subst hb; rw [upd_same] at n; cases n
      · rw [upd_ne hb] at n; exact s.dom b n
  let Pv : Nat → Hp → Prop := fun i H2 => ∃ acc us e2, H2 Dn = some (.lst us) ∧ RpIs K H2 acc us ∧ acc.length ≤ i ∧ SE K np He (L2.wipe σ own) H1 (wipeE e1 own) H2 e2 ∧ (∀ j ∈ own, e2[j]? = (wipeE e1 own)[j]?) ∧
    lcGo g wt we own src.chk (fun acc e => Q0 (.val (.lst acc)) (back e e1 own)) (src.xs.drop i) acc e2
  have stay : ∀ {H2 : Hp} {e2 : DEnv}, SE K np He (L2.wipe σ own) H1 (wipeE e1 own) H2 e2 → chkE src.chk e2 → Stay K np He σ H1 e1 src.chk H2 := fun {H2 e2} s c => by
    refine ⟨SE.kp R1' s, fun b o h n => s.keep b o h fun z => n (la_wipe z), fun p hp a ea => ?_⟩
    have e := chkE_at c hp
    obtain ⟨a', us, e3, ha, ra⟩ := s.rep.lst e
    have e4 := (wipe_some e3).1
    rw [ea] at e4
    have : a = a' := by simpa using e4
    subst this
    exact ⟨us, ha, ra⟩
  have chk_of : ∀ {xs acc : List D} {e2 : DEnv} {k : List D → DEnv → Prop}, lcGo g wt we own src.chk k xs acc e2 → chkE src.chk e2 := fun {xs acc e2 k} h => by
    cases xs with
    | nil => exact h.1
    | cons x xs => exact h.1
  refine lc_it wk Pv ⟨[], [], wipeE e1 own, upd_same, by simp [RpIs], Nat.zero_le _, wr (us := []) (.refl R1') (.inr hD), fun _ _ => rfl, w1⟩ ?_ ?_ ?_
  · rintro i H2 hi ⟨acc, us, e2, hd, ra, la, s, _, go⟩
    exact hg H2 (stay s (chk_of go))
  · rintro i x H2 H3 hi ⟨acc, us, e2, hd, ra, la, s, ho, go⟩ y
    have st := stay s (chk_of go)
    obtain ⟨ex, d, ed, rd⟩ := hy i H2 x H3 hi y (hg H2 st)
    have dr : src.xs.drop i = d :: src.xs.drop (i + 1) := by
      rw [← List.getElem_cons_drop hi]
      rw [List.getElem?_eq_getElem hi] at ed
      rw [Option.some.inj ed]
    rw [dr] at go
    obtain ⟨_, go⟩ := go
    have s3 : SE K np He (L2.wipe σ own) H1 (wipeE e1 own) H3 e2 := s.trans (.ext s.rep ex)
    refine ⟨e2, d, _, s3.rep, rd, go, fun e4 σ4 w4 s4 o4 => ⟨?_, ?_⟩⟩
    · exact (wipe_idem (by rw [s4.rep.len, s4.len, ← s3.rep.len]) fun j hj => (o4 j hj).1).trans (by
        refine wipe_idem (by rw [wipe_length]) fun j hj => wipe_out hj)
    · -- the element
      have R4 := s4.rep
      -- from the block's start, the target's slots apart
      have cl : ∀ {H5 : Hp} {e5 : DEnv}, SE K np He σ4 H3 e4 H5 e5 → SE K np He (L2.wipe σ own) H1 (wipeE e1 own) H5 (wipeE e5 own) := fun {H5 e5} s5 => by
        have hl4 : σ4.length = (L2.wipe σ own).length := by rw [s4.rep.len, s4.len, ← s3.rep.len]
        have hw : L2.wipe σ4 own = L2.wipe σ own := (wipe_idem hl4 fun j hj => (o4 j hj).1).trans (wipe_idem (by rw [wipe_length]) fun j hj => wipe_out hj)
        have R5 := s5.rep.wipe own
        rw [hw] at R5
        have ela : ∀ b, LA σ4 e4 b → LA (L2.wipe σ own) e2 b := fun b z => by
          obtain ⟨j, xs, q1, q2⟩ := z
          by_cases hj : j ∈ own
          · exfalso
            -- a target's slot holds no list
            obtain ⟨v, e6, r6⟩ := R4.val j _ q1
            obtain ⟨a, us', ea, eh, _⟩ := r6
            have z' := s4.keep
            rw [q2] at e6
            have eb : b = a := by simpa [ea] using e6
            subst eb
            by_cases hla : LA (L2.wipe σ own) e2 b
            · obtain ⟨l, ys, g1, g2⟩ := hla
              have hlo : l ∉ own := fun m => by
                rw [ho l m] at g1
                exact (wipeE_some g1).2 m
              have g1' := (o4 l hlo).2.trans g1
              have g2' := (o4 l hlo).1.trans g2
              have := R4.apart j l xs ys b q1 g1' q2 g2'
              exact hlo (this ▸ hj)
            · exact (z' b _ eh hla).2 ⟨j, xs, q1, q2⟩
          · exact ⟨j, xs, (o4 j hj).2 ▸ q1, (o4 j hj).1 ▸ q2⟩
        have ela2 : ∀ b, LA (L2.wipe σ own) e2 b → LA σ4 e4 b := fun b z => by
          obtain ⟨l, ys, g1, g2⟩ := z
          have hlo : l ∉ own := fun m => by
            rw [ho l m] at g1
            exact (wipeE_some g1).2 m
          exact ⟨l, ys, (o4 l hlo).2.trans g1, (o4 l hlo).1.trans g2⟩
        refine ⟨R5, fun j => ?_, fun b o h n => ?_, fun b n => s3.dom b (s5.dom b n)⟩
        · by_cases hj : j ∈ own
          · left
            have w0 : ∀ (τ : DEnv) (ws : List Nat), j ∈ ws → (wipeE τ ws)[j]? = if j < τ.length then some none else none := by
              intro τ ws
              induction ws with
              | nil => intro h; simp at h
              | cons w ws ih =>
                intro h
                unfold wipeE
                by_cases hw : w = j
                · subst hw
                  by_cases hlt : w < τ.length
                  · rw [List.getElem?_set_self (by rw [wipeE_len]; exact hlt), if_pos hlt]
                  · rw [List.getElem?_eq_none (by rw [List.length_set, wipeE_len]; omega), if_neg hlt]
                · rw [List.getElem?_set_ne hw]
                  rcases List.mem_cons.mp h with z | z
                  · exact absurd z.symm hw
                  · exact ih z
            have l5 : e5.length = e1.length := by
              have h1 := s5.rep.len
              have h2 := R4.len
              have h3 := s4.len
              have h4 := s3.rep.len
              have h5 := R1'.len
              rw [wipeE_len] at h5
              omega
            rw [w0 _ _ hj, w0 _ _ hj, l5]
          · rw [wipeE_out hj, wipeE_out hj]
            have h45 := s5.shape j
            rw [(o4 j hj).2] at h45
            have h12 := s3.shape j
            rw [wipeE_out hj] at h12
            rcases h45 with h | ⟨us, ws, g1, g2⟩
            · rcases h12 with k | ⟨us, ws, k1, k2⟩
              · exact .inl (h.trans k)
              · exact .inr ⟨us, ws, k1, h.trans k2⟩
            · rcases h12 with k | ⟨us', ws', k1, k2⟩
              · exact .inr ⟨us, ws, k ▸ g1, g2⟩
              · exact .inr ⟨us', ws, k1, g2⟩
        · have h3 := s3.keep b o h n
          have nla : ¬ LA (L2.wipe σ own) e2 b := fun z => n (s3.la.mp z)
          exact s5.keep b o h3 fun z => nla (ela b z)
      have hd3 : H3 Dn = some (.lst us) := ex Dn _ hd
      have dla4 : ¬ LA σ4 e4 Dn := fun z => by
        obtain ⟨j, xs, q1, q2⟩ := z
        by_cases hj : j ∈ own
        · by_cases hla : LA (L2.wipe σ own) e2 Dn
          · exact DLA s3 hla
          · exact (s4.keep Dn _ hd3 hla).2 ⟨j, xs, q1, q2⟩
        · exact DLA s3 ⟨j, xs, (o4 j hj).2 ▸ q1, (o4 j hj).1 ▸ q2⟩
      refine ⟨e4, _, R4, w4, fun rb e5 vb H5 w5 s5 r5 => ?_⟩
      obtain ⟨b, hb, w5⟩ := r5.rs s5.rep w5
      have hd5 : H5 Dn = some (.lst us) := s5.keep Dn _ hd3 dla4
      have fin : ∀ {H6 : Hp} {e6 : DEnv} {acc' : List D} {us' : List V}, SE K np He σ4 H3 e4 H6 e6 → H6 Dn = some (.lst us') → RpIs K H6 acc' us' → acc'.length ≤ i + 1 → lcGo g wt we own src.chk (fun acc e => Q0 (.val (.lst acc)) (back e e1 own)) (src.xs.drop (i + 1)) acc' (wipeE e6 own) → Pv (i + 1) H6 := fun {H6 e6 acc' us'} s6 h6 r6 l6 go6 => by
        refine ⟨acc', us', wipeE e6 own, h6, r6, l6, cl s6, fun j hj => ?_, go6⟩
        rcases (cl s6).shape j with z | ⟨us, ws, g1, g2⟩
        · exact z
        · exact absurd hj (wipeE_some g1).2
      have w5z := ifb_of w5; clear w5; rcases w5z with ⟨rfl, w5⟩ | ⟨rfl, w5⟩
      · refine ⟨true, hb, ?_⟩
        dsimp only
        rw [if_pos rfl]
        refine ⟨e5, _, s5.rep, w5, fun r e6 v H6 w6 s6 r6 => ?_⟩
        have s56 := s5.trans s6
        obtain ⟨y', hy', w6⟩ := r6.rs s6.rep w6
        obtain ⟨ny, w6⟩ := w6
        have hd6 : H6 Dn = some (.lst us) := s56.keep Dn _ hd3 dla4
        have kp46 : Kp H3 H6 := SE.kp R4 s56
        have kp6 : Kp H6 (upd H6 Dn (.lst (us ++ [v]))) := kp_store hd6
        refine ⟨us, hd6, ?_, ?_⟩
        · rw [← ra.length]
          exact Nat.lt_of_lt_of_le (show acc.length < 1000000 by omega) (line_of (Nat.le_refl _))
        · -- the list written
          have ra3 : RpIs K H3 acc us := RpIs.kp ex.kp acc us ra
          have r7 : RpIs K (upd H6 Dn (.lst (us ++ [v]))) (acc ++ [y']) (us ++ [v]) := by
            refine RpIs.append (RpIs.kp kp6 _ _ (RpIs.kp kp46 acc us ra3)) ?_
            simp only [RpIs]
            exact ⟨v, [], rfl, RpI.kp kp6 _ _ (hy'.imm ny), rfl⟩
          have s7 : SE K np He (L2.wipe σ own) H1 (wipeE e1 own) (upd H6 Dn (.lst (us ++ [v]))) (wipeE e6 own) := wr (us := us) (cl s56) (.inl hd6)
          refine ⟨acc ++ [y'], us ++ [v], wipeE e6 own, upd_same, r7, by rw [List.length_append, List.length_singleton]; omega, s7, fun j hj => ?_, w6⟩
          rcases s7.shape j with z | ⟨us, ws, g1, g2⟩
          · exact z
          · exact absurd hj (wipeE_some g1).2
      · refine ⟨false, hb, ?_⟩
        dsimp only
        rw [if_neg Bool.false_ne_true]
        exact fin s5 hd5 (RpIs.kp (SE.kp R4 s5) _ _ (RpIs.kp ex.kp acc us ra)) (by omega) w5
  · rintro H2 ⟨acc, us, e2, hd, ra, la, s, ho, go⟩
    rw [List.drop_length] at go
    obtain ⟨_, go⟩ := go
    refine q _ _ _ _ go (s1.trans (.back R1 nl s)) ⟨⟨Dn, us, rfl, hd, ra⟩, fun _ a ea => ?_⟩
    cases ea
    exact s1.dom Dn hD
theorem e_lc {elt tg iter : Expr} {ifs : List Expr} {scope : Scope} {own : List (Str × Nat)} {ow : List Nat} {wi : WI} {g : G} {wt we : W} (hc : X.calm = true) (hN : X.N.Nodup) (hi : DI X np He tg iter wi) (ok : BlkOk X.N X.env.scope scope own)
    (hg : ∀ (s : Shared) (H : Hp) (C : Addr) (cl : List (Str × Addr)) (fp : List Addr), DG (X.blk s H scope (compEnvC scope cl C X.env) fp) np He [] ow tg g)
    (ht : ∀ (s : Shared) (H : Hp) (C : Addr) (cl : List (Str × Addr)) (fp : List Addr), PTs (X.blk s H scope (compEnvC scope cl C X.env) fp) ifs (tB (rE X.K np He wt)))
    (he : ∀ (s : Shared) (H : Hp) (C : Addr) (cl : List (Str × Addr)) (fp : List Addr), DE (X.blk s H scope (compEnvC scope cl C X.env) fp) np He elt we) (hw : own.map (·.2) = ow := by rfl) (hs : ∀ x, foldedSetIterable iter X.env x = pure x := by intro _; rfl) :
    DE X np He (.ListComp elt [⟨tg, iter, ifs, 0⟩] scope pos) (cLc ow wi g wt we) := by
  subst hw
  exact PE.weak (pe_lc hc hN hi ok hg ht he hs) (lc_read (own := own.map (·.2)))
end
end DL

namespace DL
open PySem PySem.Spec PyProof.Rows L2

structure Kt where
  nx : DEnv → Prop
  rt : D → DEnv → Prop
  bk : DEnv → Prop := fun _ => False
  ct : DEnv → Prop := fun _ => False
abbrev WS := DEnv → Kt → Prop
structure Goes (K : PySem.W.Frag) (np : Nat) (He : Hp) (pr : List Nat) (σ : L2.St) (H : Hp) (env : DEnv) (K0 : Kt) (D : Ends) : Prop where
  nx : ∀ env' σ' H', K0.nx env' → SS K np He pr σ H env σ' H' env' → D.nx σ' H'
  rt : ∀ d env' σ' H' v, K0.rt d env' → SS K np He pr σ H env σ' H' env' → RpV K H' d v → (isL d = true → ∀ a, v = .ref a → He a = none) → D.rt v H'
  bk : ∀ env' σ' H', K0.bk env' → SS K np He pr σ H env σ' H' env' → D.bk σ' H'
  ct : ∀ env' σ' H', K0.ct env' → SS K np He pr σ H env σ' H' env' → D.ct σ' H'
def rS (K : PySem.W.Frag) (np : Nat) (He : Hp) (pr : List Nat) (w : WS) : TS := fun D σ H => ∃ env K0, Rep K np He σ H env ∧ w env K0 ∧ Goes K np He pr σ H env K0 D
abbrev DS (X : Cx) (np : Nat) (He : Hp) (pr : List Nat) (s : Stmt) (w : WS) : Prop := PS X s (rS X.K np He pr w)
abbrev DSs (X : Cx) (np : Nat) (He : Hp) (pr : List Nat) (s : List Stmt) (w : WS) : Prop := PSs X s (rS X.K np He pr w)
theorem PS.weak {X : Cx} {e : Stmt} {t t' : TS} (h : PS X e t) (i : ∀ D σ H, t' D σ H → t D σ H) : PS X e t' := ⟨fun pins s σ H D I q => h.run pins s σ H D I (i D σ H q)⟩
theorem PSs.weak {X : Cx} {e : List Stmt} {t t' : TS} (h : PSs X e t) (i : ∀ D σ H, t' D σ H → t D σ H) : PSs X e t' := ⟨fun pins s σ H D I q => h.run pins s σ H D I (i D σ H q)⟩
theorem Goes.from {K : PySem.W.Frag} {np : Nat} {He : Hp} {pr : List Nat} {σ σ1 : L2.St} {H H1 : Hp} {env e1 : DEnv} {K0 : Kt} {D : Ends} (g : Goes K np He pr σ H env K0 D) (s : SS K np He pr σ H env σ1 H1 e1) : Goes K np He pr σ1 H1 e1 K0 D :=
  ⟨fun a b c h t => g.nx a b c h (s.trans t), fun d a b c v h t => g.rt d a b c v h (s.trans t), fun a b c h t => g.bk a b c h (s.trans t), fun a b c h t => g.ct a b c h (s.trans t)⟩
section
variable {X : Cx} {np : Nat} {He : Hp} {pr : List Nat} {a b c e : Expr} {es : List Expr} {wa wb wc we wi : W} {ws : WA} {pos : Pos} {st : Stmt} {sts : List Stmt} {u v : WS}
def cNilS : WS := fun env K => K.nx env
def cSeq (w u : WS) : WS := fun env K => w env { K with nx := fun e => u e K }
theorem s_nil : DSs X np He pr [] cNilS := PSs.weak pss_nil fun D σ H ⟨env, K0, R, w, g⟩ => g.nx env σ H w (.refl R)
theorem s_cons (h1 : DS X np He pr st u) (h2 : DSs X np He pr sts v) : DSs X np He pr (st :: sts) (cSeq u v) :=
  PSs.weak (pss_cons h1 h2) fun D σ H ⟨env, K0, R, w, g⟩ => ⟨env, _, R, w, fun e1 σ1 H1 w1 s1 => ⟨e1, K0, s1.rep, w1, g.from s1⟩, g.rt, g.bk, g.ct⟩
theorem s_one (h1 : DS X np He pr st u) : DSs X np He pr [st] u := pss_one h1
def cAsg (np : Nat) (pr : List Nat) (i : Nat) (we : W) : WS := fun env K => we env fun r e1 => match r with
  | .val d => stOk np pr e1 i d = true ∧ K.nx (e1.set i (some d))
  | .ref _ => False
theorem asg_core {i : Nat} : ∀ D σ H, rS X.K np He pr (cAsg np pr i we) D σ H → tAsg (rE X.K np He we) (gName i) D σ H := by
  intro D σ H ⟨env, K0, R, w, g⟩
  refine ⟨env, _, R, w, fun r e1 v1 H1 w1 s1 r1 => ?_⟩
  cases r with
  | ref j => exact False.elim w1
  | val d =>
    obtain ⟨ok, w1⟩ := w1
    exact g.nx _ _ _ w1 (.put R s1 ok r1.1 r1.2)
theorem s_asg (i : Nat) {x : Str} {pos' : Pos} (hN : X.N.Nodup) (he : DE X np He e we) (hi : X.N[i]? = some x := by rfl) (hx : Loc X.env.scope x := by first | exact Or.inl rfl | exact Or.inr rfl) (hs : swapsWith e (some (.Name x pos')) pos.line X.env = pure false := by rfl) (hf : X.fn x = true ∨ X.env.scope.names.lookup x = some .local := by first | exact .inl rfl | exact .inr rfl | assumption) :
    DS X np He pr (.Assign [.Name x pos'] e pos) (cAsg np pr i we) := PS.weak (ps_set hN hi hx he hs hf) asg_core
theorem s_setLc (i : Nat) {y : Str} {py : Pos} {elt tg iter : Expr} {ifs : List Expr} {scope : Scope} {own : List (Str × Nat)} {ow : List Nat} {spos : Pos} {wI : WI} {g : G} {wt we : W} (hc : X.calm = true) (hN : X.N.Nodup) (hi : DI X np He tg iter wI) (ok : BlkOk X.N X.env.scope scope own)
    (hg : ∀ (s : Shared) (H : Hp) (C : Addr) (cl : List (Str × Addr)) (fp : List Addr), DG (X.blk s H scope (compEnvC scope cl C X.env) fp) np He [] ow tg g)
    (ht : ∀ (s : Shared) (H : Hp) (C : Addr) (cl : List (Str × Addr)) (fp : List Addr), PTs (X.blk s H scope (compEnvC scope cl C X.env) fp) ifs (tB (rE X.K np He wt)))
    (he : ∀ (s : Shared) (H : Hp) (C : Addr) (cl : List (Str × Addr)) (fp : List Addr), DE (X.blk s H scope (compEnvC scope cl C X.env) fp) np He elt we) (hw : own.map (·.2) = ow := by rfl) (hy : X.N[i]? = some y := by rfl) (hyl : X.env.scope.names.lookup y = some .local := by rfl)
    (hsw : swapsWith (.ListComp elt [⟨tg, iter, ifs, 0⟩] scope pos) (some (.Name y py)) spos.line X.env = pure true := by exact sw_true rfl rfl rfl (by decide +kernel)) (hs : ∀ x, foldedSetIterable iter X.env x = pure x := by intro _; rfl) :
    DS X np He pr (.Assign [.Name y py] (.ListComp elt [⟨tg, iter, ifs, 0⟩] scope pos) spos) (cAsg np pr i (cLc ow wI g wt we)) := by
  subst hw
  exact PS.weak (ps_setLc (wi := rI X.K np He wI) (g := rG X.K np He [] (own.map (·.2)) g) (tt := tB (rE X.K np He wt)) (te := rE X.K np He we) hc hN hy hyl hsw hi ok hg ht he hs) (by
    intro D σ H h
    have h' := asg_core D σ H h
    exact lc_read σ H _ h')
def cEx (we : W) : WS := fun env K => we env fun _ e1 => K.nx e1
theorem s_expr (he : DE X np He e we) (hs : swapsWith e none pos.line X.env = pure false := by rfl) : DS X np He pr (.Expr e pos) (cEx we) := by
  refine PS.weak (ps_expr he hs) fun D σ H ⟨env, K0, R, w, g⟩ => ⟨env, _, R, w, fun r e1 v1 H1 w1 s1 r1 => g.nx _ _ _ w1 (s1.ss R)⟩
def cRet (np : Nat) (we : W) : WS := fun env K => we env fun r e1 => match r with
  | .val d => K.rt d e1
  | .ref i => np ≤ i ∧ getv e1 i fun d => K.rt d e1
theorem s_ret (he : DE X np He e we) : DS X np He pr (.Return (some e) pos) (cRet np we) := by
  refine PS.weak (ps_ret he) fun D σ H ⟨env, K0, R, w, g⟩ => ⟨env, _, R, w, fun r e1 v1 H1 w1 s1 r1 => ?_⟩
  cases r with
  | val d => exact g.rt d e1 σ H1 v1 w1 (s1.ss R) r1.1 fun n a ea => R.dom a (r1.2 n a ea)
  | ref i =>
    obtain ⟨hi, w1⟩ := w1
    obtain ⟨d, ed, w1⟩ := getv_of w1
    obtain ⟨v, ev, rv⟩ := s1.rep.val i d ed
    rw [r1.1] at ev
    have evv : v1 = v := by simpa using ev
    subst evv
    refine g.rt d e1 σ H1 v1 w1 (s1.ss R) rv fun n a ea => ?_
    cases d with
    | lst xs => exact s1.rep.own i xs a hi ed (by rw [r1.1, ea])
    | _ => simp [isL] at n
def cRetN : WS := fun env K => K.rt .non env
theorem s_retN : DS X np He pr (.Return none pos) cRetN := PS.weak ps_retN fun D σ H ⟨env, K0, R, w, g⟩ => g.rt .non env σ H .non w (.refl R) rfl fun n => by simp [isL] at n
def cIte (wc : W) (u v : WS) : WS := fun env K => wc env fun r e1 => rs e1 r fun d => ifb d (u e1 K) (v e1 K)
theorem s_if {p q : List Stmt} (hc : DT X np He c wc) (ha : DSs X np He pr p u) (hb : DSs X np He pr q v) : DS X np He pr (.If c p q pos) (cIte wc u v) := by
  refine PS.weak (ps_if hc ha hb) fun D σ H ⟨env, K0, R, w, g⟩ => ⟨env, _, R, w, fun r e1 v1 H1 w1 s1 r1 => ?_⟩
  obtain ⟨d, hd, w1⟩ := r1.rs s1.rep w1
  have w1z := ifb_of w1; clear w1; rcases w1z with ⟨rfl, w1⟩ | ⟨rfl, w1⟩
  · refine ⟨true, hd, ?_⟩
    dsimp only
    rw [if_pos rfl]
    exact ⟨e1, K0, s1.rep, w1, g.from (s1.ss R)⟩
  · refine ⟨false, hd, ?_⟩
    dsimp only
    rw [if_neg Bool.false_ne_true]
    exact ⟨e1, K0, s1.rep, w1, g.from (s1.ss R)⟩
def cBrk : WS := fun env K => K.bk env
def cCont : WS := fun env K => K.ct env
theorem s_brk : DS X np He pr (.Break pos) cBrk := PS.weak ps_break fun D σ H ⟨env, K0, R, w, g⟩ => g.bk env σ H w (.refl R)
theorem s_cont : DS X np He pr (.Continue pos) cCont := PS.weak ps_continue fun D σ H ⟨env, K0, R, w, g⟩ => g.ct env σ H w (.refl R)
theorem s_pass : DS X np He pr (.Pass pos) cNilS := PS.weak ps_pass fun D σ H ⟨env, K0, R, w, g⟩ => g.nx env σ H w (.refl R)
def cNever : WS := fun _ _ => False
theorem s_never : DS X np He pr st cNever := PS.weak ps_never fun D σ H ⟨env, K0, R, w, g⟩ => w
/-- a, (b, c) = e -/
def cUnp (we : W) (g : G) : WS := fun env K => we env fun r e1 => match r with
  | .val d => isL d = false ∧ g d e1 K.nx
  | .ref _ => False
theorem s_unp {tg : Expr} {g : G} {sl : List Nat} (he : DE X np He e we) (hg : DG X np He pr sl tg g) (hs : swapsWithSole [tg] e pos.line X.env = pure false := by rfl) (hw : swappedStores [tg] e X.env = pure none := by rfl)
    (h1 : (assignEach [tg] X.env).map (·.2) = [assign tg X.env] := by rfl) : DS X np He pr (.Assign [tg] e pos) (cUnp we g) := by
  refine PS.weak (ps_asg he hg hs hw h1) fun D σ H ⟨env, K0, R, w, g⟩ => ⟨env, _, R, w, fun r e1 v1 H1 w1 s1 r1 => ?_⟩
  cases r with
  | ref j => exact False.elim w1
  | val d =>
    obtain ⟨im, w1⟩ := w1
    exact ⟨e1, d, _, s1.rep, r1.1.imm im, w1, fun e2 σ2 w2 s2 o2 => g.nx e2 σ2 H1 w2 ((s1.ss R).trans s2)⟩
/-- a = b = e, a = b = c = e -/
def cCh2 (we : W) (g1 g2 : G) : WS := fun env K => we env fun r e1 => match r with
  | .val d => isL d = false ∧ g1 d e1 fun e2 => g2 d e2 K.nx
  | .ref _ => False
def cCh3 (we : W) (g1 g2 g3 : G) : WS := fun env K => we env fun r e1 => match r with
  | .val d => isL d = false ∧ g1 d e1 fun e2 => g2 d e2 fun e3 => g3 d e3 K.nx
  | .ref _ => False
theorem s_ch2 {t1 t2 : Expr} {g1 g2 : G} {sl : List Nat} (he : DE X np He e we) (h1 : DG X np He pr sl t1 g1) (h2 : DG X np He pr sl t2 g2) (ha : (assignEach [t1, t2] X.env).map (·.2) = [assign t1 X.env, assign t2 X.env] := by rfl) (hw : swappedStores [t1, t2] e X.env = pure none := by rfl) :
    DS X np He pr (.Assign [t1, t2] e pos) (cCh2 we g1 g2) := by
  refine PS.weak (ps_asg2 he h1 h2 ha hw) fun D σ H ⟨env, K0, R, w, g⟩ => ⟨env, _, R, w, fun r e1 v1 H1 w1 s1 r1 => ?_⟩
  cases r with
  | ref j => exact False.elim w1
  | val d =>
    obtain ⟨im, w1⟩ := w1
    have rd := r1.1.imm im
    exact ⟨e1, d, _, s1.rep, rd, w1, fun e2 σ2 w2 s2 _ => ⟨e2, d, _, s2.rep, rd, w2, fun e3 σ3 w3 s3 _ => g.nx e3 σ3 H1 w3 ((s1.ss R).trans (s2.trans s3))⟩⟩
theorem s_ch3 {t1 t2 t3 : Expr} {g1 g2 g3 : G} {sl : List Nat} (he : DE X np He e we) (h1 : DG X np He pr sl t1 g1) (h2 : DG X np He pr sl t2 g2) (h3 : DG X np He pr sl t3 g3)
    (ha : (assignEach [t1, t2, t3] X.env).map (·.2) = [assign t1 X.env, assign t2 X.env, assign t3 X.env] := by rfl) (hw : swappedStores [t1, t2, t3] e X.env = pure none := by rfl) :
    DS X np He pr (.Assign [t1, t2, t3] e pos) (cCh3 we g1 g2 g3) := by
  refine PS.weak (ps_asg3 he h1 h2 h3 ha hw) fun D σ H ⟨env, K0, R, w, g⟩ => ⟨env, _, R, w, fun r e1 v1 H1 w1 s1 r1 => ?_⟩
  cases r with
  | ref j => exact False.elim w1
  | val d =>
    obtain ⟨im, w1⟩ := w1
    have rd := r1.1.imm im
    exact ⟨e1, d, _, s1.rep, rd, w1, fun e2 σ2 w2 s2 _ => ⟨e2, d, _, s2.rep, rd, w2, fun e3 σ3 w3 s3 _ => ⟨e3, d, _, s3.rep, rd, w3, fun e4 σ4 w4 s4 _ => g.nx e4 σ4 H1 w4 ((s1.ss R).trans (s2.trans (s3.trans s4)))⟩⟩⟩
/-- a, b = x, y -/
def put1 (np : Nat) (pr : List Nat) (i : Nat) (d : D) (env : DEnv) (k : DEnv → Prop) : Prop := isL d = false ∧ stOk np pr env i d = true ∧ k (env.set i (some d))
def cPar2 (np : Nat) (pr : List Nat) (i j : Nat) (ws : WA) : WS := fun env K => ws env fun rl e1 => rsl e1 rl fun ds => match ds with
  | [x, y] => put1 np pr i x e1 fun e2 => put1 np pr j y e2 K.nx
  | _ => False
def cPar3 (np : Nat) (pr : List Nat) (i j l : Nat) (ws : WA) : WS := fun env K => ws env fun rl e1 => rsl e1 rl fun ds => match ds with
  | [x, y, z] => put1 np pr i x e1 fun e2 => put1 np pr j y e2 fun e3 => put1 np pr l z e3 K.nx
  | _ => False
theorem s_par2 (i j : Nat) {x y : Str} {px py pt : Pos} {kt k2 pt2} (hc : X.calm = true) (hN : X.N.Nodup) (ha : DA X np He [a, b] ws) (hi : X.N[i]? = some x := by rfl) (hj : X.N[j]? = some y := by rfl) (hij : i ≠ j := by decide)
    (hx : X.env.scope.names.lookup x = some .local := by rfl) (hy : X.env.scope.names.lookup y = some .local := by rfl)
    (hw : swappedStores [.Tuple [.Name x px, .Name y py] kt pt] (.Tuple [a, b] k2 pt2) X.env = pure (some [x, y]) := by rfl)
    (hs : swapsWithSole [.Tuple [.Name x px, .Name y py] kt pt] (.Tuple [a, b] k2 pt2) pos.line X.env = pure false := by rfl) :
    DS X np He pr (.Assign [.Tuple [.Name x px, .Name y py] kt pt] (.Tuple [a, b] k2 pt2) pos) (cPar2 np pr i j ws) := by
  refine PS.weak (ps_par hc hN hi hj hij hx hy ha hw hs) fun D σ H ⟨env, K0, R, w, g⟩ => ⟨env, _, R, w, fun rl e1 vs H1 w1 s1 r1 => ?_⟩
  obtain ⟨ds, hd, w1⟩ := r1.rs s1.rep w1
  split at w1
  · rename_i d1 d2
    obtain ⟨v, w, rfl, rv, rw'⟩ := hd.two
    obtain ⟨i1, o1, i2, o2, w1⟩ := w1
    refine ⟨v, w, rfl, ?_⟩
    have p1 := SS.put (pr := pr) s1.rep (.refl s1.rep) o1 rv (fun n => by rw [i1] at n; cases n)
    have p2 := SS.put (pr := pr) p1.rep (.refl p1.rep) o2 rw' (fun n => by rw [i2] at n; cases n)
    exact g.nx _ _ _ w1 ((s1.ss R).trans (p1.trans p2))
  · exact w1.elim
theorem s_par3 (i j l : Nat) {x y z : Str} {px py pz pt : Pos} {kt k2 pt2} (hc : X.calm = true) (hN : X.N.Nodup) (ha : DA X np He [a, b, c] ws) (hi : X.N[i]? = some x := by rfl) (hj : X.N[j]? = some y := by rfl) (hl : X.N[l]? = some z := by rfl) (hij : i ≠ j := by decide) (hil : i ≠ l := by decide) (hjl : j ≠ l := by decide)
    (hx : X.env.scope.names.lookup x = some .local := by rfl) (hy : X.env.scope.names.lookup y = some .local := by rfl) (hz : X.env.scope.names.lookup z = some .local := by rfl)
    (hw : swappedStores [.Tuple [.Name x px, .Name y py, .Name z pz] kt pt] (.Tuple [a, b, c] k2 pt2) X.env = pure (some [x, y, z]) := by rfl)
    (hs : swapsWithSole [.Tuple [.Name x px, .Name y py, .Name z pz] kt pt] (.Tuple [a, b, c] k2 pt2) pos.line X.env = pure false := by rfl) :
    DS X np He pr (.Assign [.Tuple [.Name x px, .Name y py, .Name z pz] kt pt] (.Tuple [a, b, c] k2 pt2) pos) (cPar3 np pr i j l ws) := by
  refine PS.weak (ps_par3 hc hN hi hj hl hij hil hjl hx hy hz ha hw hs) fun D σ H ⟨env, K0, R, w, g⟩ => ⟨env, _, R, w, fun rl e1 vs H1 w1 s1 r1 => ?_⟩
  obtain ⟨ds, hd, w1⟩ := r1.rs s1.rep w1
  split at w1
  · rename_i d1 d2 d3
    obtain ⟨v, r, rfl, rv, hd⟩ := hd
    obtain ⟨w, u, rfl, rw', ru⟩ := hd.two
    obtain ⟨i1, o1, i2, o2, i3, o3, w1⟩ := w1
    refine ⟨v, w, u, rfl, ?_⟩
    have p1 := SS.put (pr := pr) s1.rep (.refl s1.rep) o1 rv (fun n => by rw [i1] at n; cases n)
    have p2 := SS.put (pr := pr) p1.rep (.refl p1.rep) o2 rw' (fun n => by rw [i2] at n; cases n)
    have p3 := SS.put (pr := pr) p2.rep (.refl p2.rep) o3 ru (fun n => by rw [i3] at n; cases n)
    exact g.nx _ _ _ w1 ((s1.ss R).trans (p1.trans (p2.trans p3)))
  · exact w1.elim
/-- xs[k] = e -/
def cSet (i : Nat) (we wi : W) : WS := fun env K => we env fun r e1 => match r with
  | .val d => isL d = false ∧ getl e1 i fun _ => wi e1 fun ri e2 => rs e2 ri fun y => isI y fun k => getl e2 i fun xs => (match ixN xs.length k with
    | some j => K.nx (e2.set i (some (.lst (xs.set j d))))
    | none => False)
  | .ref _ => False
theorem s_set (i : Nat) {x : Str} {p p2 : Pos} {ix : Expr} (he : DE X np He e we) (hi : DE X np He ix wi) (hN : X.N[i]? = some x := by rfl) (hv : Vis X.env.scope x := by first | exact Or.inl rfl | exact Or.inr (Or.inl rfl) | exact Or.inr (Or.inr rfl)) (hd : (x == ("__debug__" : Str)) = false := by decide)
    (hcd : (x == ("__classdict__" : Str)) = false := by decide)
    (ha : ∀ v, assign (.Subscript (.Name x p) ix p2) X.env v = (do
      let ov ← holding [v] (eval (.Name x p) X.env)
      let iv ← holding [v, ov] (eval ix X.env)
      standAt p2
      holding [v, ov, iv] (setItem ov iv v)
      release [v, ov, iv] []) := by intro _; rfl)
    (hs : swapsWithSole [.Subscript (.Name x p) ix p2] e pos.line X.env = pure false := by rfl) (hw : swappedStores [.Subscript (.Name x p) ix p2] e X.env = pure none := by rfl)
    (h1 : (assignEach [.Subscript (.Name x p) ix p2] X.env).map (·.2) = [assign (.Subscript (.Name x p) ix p2) X.env] := by rfl) :
    DS X np He pr (.Assign [.Subscript (.Name x p) ix p2] e pos) (cSet i we wi) := by
  refine PS.weak (ps_asg he (pg_sub (pv i hN hv hd hcd) hi set_list ha) hs hw h1) fun D σ H ⟨env, K0, R, w, g⟩ => ⟨env, _, R, w, fun r e1 v1 H1 w1 s1 r1 => ?_⟩
  cases r with
  | ref j => exact False.elim w1
  | val d =>
    obtain ⟨im, w1⟩ := w1
    obtain ⟨xs0, e0, w1⟩ := getl_of w1
    obtain ⟨a, us, es, ha, ra⟩ := s1.rep.lst e0
    refine ⟨.ref a, es, e1, _, s1.rep, w1, fun ri e2 v2 H2 w2 s2 r2 => ?_⟩
    obtain ⟨y, hy, w2⟩ := r2.rs s2.rep w2
    obtain ⟨k, rfl, w2⟩ := isI_of w2
    obtain ⟨xs, e3, w2⟩ := getl_of w2
    split at w2
    · rename_i j hj
      obtain ⟨a', us', es', ha', ra'⟩ := s2.rep.lst e3
      rw [es] at es'
      have ea : a = a' := by simpa using es'
      subst ea
      cases hy
      refine ⟨a, us', k, j, rfl, rfl, ha', by rw [← ra'.length]; exact hj, ?_⟩
      have rd : RpI X.K H2 d v1 := RpI.kp (SE.kp s1.rep s2) d v1 (r1.1.imm im)
      exact g.nx _ σ _ w2 (((s1.trans s2).trans (.store s2.rep e3 es ha' (ra'.set rd j))).ss R)
    · exact w2.elim

/-! ### loops -/
def goFor (g : G) (wb : WS) (chk : List (Nat × List D)) (K : Kt) : List D → DEnv → Prop
  | [], env => chkE chk env ∧ K.nx env
  | x :: xs, env => chkE chk env ∧ g x env fun e2 => wb e2 { nx := goFor g wb chk K xs, rt := K.rt, bk := K.nx, ct := goFor g wb chk K xs }
def cFor (pr : List Nat) (wI : WI) (g : G) (wb : WS) : WS := fun env K => wI env fun src e1 => (src.chk.all fun p => pr.contains p.1) = true ∧ Loop (goFor g wb src.chk K src.xs e1)
theorem s_for {tg iter : Expr} {body : List Stmt} {wI : WI} {g : G} {wb : WS} (pr' sl : List Nat) (hx : PassesOwn (model X.prog X.w) X.A X.env X.xe) (hc : X.calm = true) (hi : DI X np He tg iter wI) (hg : DG X np He pr' sl tg g) (hb : DSs X np He pr' body wb)
    (hp : (pr.all fun i => pr'.contains i) = true := by decide) (hs : ∀ x, foldedSetIterable iter X.env x = pure x := by intro _; rfl) : DS X np He pr (.For tg iter body [] pos) (cFor pr' wI g wb) := by
  refine PS.weak (ps_for hx hc hi hg hb hs) fun D σ H ⟨env, K0, R, w, gs⟩ => ⟨env, _, R, w, fun src e1 H1 J Gd Y w1 s1 wk hck hy hgd => ?_⟩
  have sub : ∀ i ∈ pr, i ∈ pr' := fun i h => by
    have := List.all_eq_true.mp hp i h
    simpa [List.contains_eq_mem] using this
  obtain ⟨hpr, w1l⟩ := w1
  have w1 := w1l.out
  have cpr : ∀ p ∈ src.chk, p.1 ∈ pr' := fun p h => by
    have := List.all_eq_true.mp hpr p h
    simpa [List.contains_eq_mem] using this
  let Pv : Nat → L2.St → Hp → Prop := fun i σ2 H2 => ∃ e2, SS X.K np He pr' σ H1 e1 σ2 H2 e2 ∧ goFor g wb src.chk K0 (src.xs.drop i) e2
  have out : ∀ {σ2 : L2.St} {H2 : Hp} {e2 : DEnv}, SS X.K np He pr' σ H1 e1 σ2 H2 e2 → SS X.K np He pr σ H env σ2 H2 e2 := fun s => (s1.ss R).trans (s.sub sub)
  have cgo : ∀ {xs : List DL.D} {e2 : DEnv}, goFor g wb src.chk K0 xs e2 → chkE src.chk e2 := fun {xs e2} h => by
    cases xs with
    | nil => exact h.1
    | cons x xs => exact h.1
  have gd : ∀ {σ2 : L2.St} {H2 : Hp} {e2 : DEnv}, SS X.K np He pr' σ H1 e1 σ2 H2 e2 → chkE src.chk e2 → Gd H2 := fun {σ2 H2 e2} s c => by
    refine hgd H2 ⟨s.kp s1.rep, fun b o h n => (s.keep b o h n).1, fun p hp a ea => ?_⟩
    obtain ⟨q1, _⟩ := s.par p.1 p.2 (cpr p hp) (hck p hp)
    obtain ⟨a', us, e3, ha, ra⟩ := s.rep.lst (chkE_at c hp)
    rw [q1, ea] at e3
    have : a = a' := by simpa using e3
    subst this
    exact ⟨us, ha, ra⟩
  refine for_it wk Pv ⟨e1, .refl s1.rep, w1⟩ ?_ ?_ ?_
  · rintro i σ2 H2 hi ⟨e2, s, go⟩
    exact gd s (cgo go)
  · rintro i x σ2 H2 H3 hi ⟨e2, s, go⟩ y
    obtain ⟨ex, d, ed, rd⟩ := hy i H2 x H3 hi y (gd s (cgo go))
    have dr : src.xs.drop i = d :: src.xs.drop (i + 1) := by
      rw [← List.getElem_cons_drop hi]
      rw [List.getElem?_eq_getElem hi] at ed
      rw [Option.some.inj ed]
    rw [dr] at go
    obtain ⟨_, go⟩ := go
    have s3 : SS X.K np He pr' σ H1 e1 σ2 H3 e2 := s.trans ((SE.ext s.rep ex).ss s.rep)
    refine ⟨e2, d, _, s3.rep, rd, go, fun e4 σ4 w4 s4 o4 => ?_⟩
    refine ⟨e4, _, s4.rep, w4, ⟨fun e5 σ5 H5 w5 s5 => ⟨e5, (s3.trans s4).trans s5, w5⟩, fun d e5 σ5 H5 v w5 s5 rv fr => ?_, fun e5 σ5 H5 w5 s5 => ?_, fun e5 σ5 H5 w5 s5 => ⟨e5, (s3.trans s4).trans s5, w5⟩⟩⟩
    · exact gs.rt d e5 σ5 H5 v w5 (out ((s3.trans s4).trans s5)) rv fr
    · exact gs.nx e5 σ5 H5 w5 (out ((s3.trans s4).trans s5))
  · rintro σ2 H2 ⟨e2, s, go⟩
    rw [List.drop_length] at go
    exact gs.nx e2 σ2 H2 go.2 (out s)
def cWhile (wc : W) (wb : WS) : WS := fun env K => ∃ (inv : DEnv → Prop) (μ : DEnv → Nat), inv env ∧ ∀ e, inv e → wc e fun r e1 => rs e1 r fun d =>
  ifb d (wb e1 { nx := fun e' => inv e' ∧ μ e' < μ e, rt := K.rt, bk := K.nx, ct := fun e' => inv e' ∧ μ e' < μ e }) (K.nx e1)
theorem s_while {body : List Stmt} {wb : WS} (hx : PassesOwn (model X.prog X.w) X.A X.env X.xe) (hc : DT X np He c wc) (hb : DSs X np He pr body wb) : DS X np He pr (.While c body [] pos) (cWhile wc wb) := by
  refine PS.weak (ps_while hx hc hb) fun D σ H ⟨env, K0, R, ⟨inv, μ, i0, tn⟩, gs⟩ => ?_
  refine ⟨fun m σ2 H2 => ∃ e2, SS X.K np He pr σ H env σ2 H2 e2 ∧ inv e2 ∧ m = μ e2, ⟨_, env, .refl R, i0, rfl⟩, ?_⟩
  rintro m σ2 H2 ⟨e2, s, iv, rfl⟩
  refine ⟨e2, _, s.rep, tn e2 iv, fun r e3 v3 H3 w3 s3 r3 => ?_⟩
  obtain ⟨d, hd, w3⟩ := r3.rs s3.rep w3
  have s' := s.trans (s3.ss s.rep)
  have w3z := ifb_of w3; clear w3; rcases w3z with ⟨rfl, w3⟩ | ⟨rfl, w3⟩
  · refine ⟨true, hd, ?_⟩
    dsimp only
    rw [if_pos rfl]
    refine ⟨fun σ4 H4 => ∃ e4, SS X.K np He pr σ H env σ4 H4 e4 ∧ inv e4 ∧ μ e4 < μ e2, fun σ4 H4 ⟨e4, s4, i4, l4⟩ => ⟨μ e4, l4, e4, s4, i4, rfl⟩, e3, _, s3.rep, w3, ?_⟩
    exact ⟨fun e5 σ5 H5 w5 s5 => ⟨e5, s'.trans s5, w5.1, w5.2⟩, fun d e5 σ5 H5 v w5 s5 rv fr => gs.rt d e5 σ5 H5 v w5 (s'.trans s5) rv fr, fun e5 σ5 H5 w5 s5 => gs.nx e5 σ5 H5 w5 (s'.trans s5), fun e5 σ5 H5 w5 s5 => ⟨e5, s'.trans s5, w5.1, w5.2⟩⟩
  · refine ⟨false, hd, ?_⟩
    dsimp only
    rw [if_neg Bool.false_ne_true]
    exact gs.nx e3 σ2 H3 w3 s'
end

/-! ### a def -/
def outs (env : DEnv) (n : Nat) : List D := (env.take n).map fun o => o.getD .non
def env0 (ds : List D) (n : Nat) : DEnv := ds.map some ++ List.replicate n none
theorem RpVs.get {K : PySem.W.Frag} {H : Hp} : ∀ {ds : List D} {vs : List V} {i : Nat} {d : D}, RpVs K H ds vs → ds[i]? = some d → ∃ v, vs[i]? = some v ∧ RpV K H d v
  | [], vs, i, d, _, e => by simp at e
  | d0 :: ds, vs, 0, d, h, e => by
    obtain ⟨v, r, rfl, h1, _⟩ := h
    simp at e
    subst e
    exact ⟨v, rfl, h1⟩
  | d0 :: ds, vs, i + 1, d, h, e => by
    obtain ⟨v, r, rfl, _, h2⟩ := h
    obtain ⟨u, e1, e2⟩ := RpVs.get h2 (by simpa using e)
    exact ⟨u, by simpa using e1, e2⟩
theorem apA_get : ∀ {ds : List D} {vs : List V} {i j : Nat} {xs ys : List D} {v : V}, apA ds vs → ds[i]? = some (.lst xs) → ds[j]? = some (.lst ys) → vs[i]? = some v → vs[j]? = some v → i = j
  | [], vs, i, j, xs, ys, v, _, e, _, _, _ => by simp at e
  | d :: ds, [], i, j, xs, ys, v, _, _, _, e, _ => by simp at e
  | d :: ds, w :: vs, i, j, xs, ys, v, h, e1, e2, s1, s2 => by
    have tl : apA ds vs := by
      cases d with
      | lst zs => exact h.2
      | _ => exact h
    cases i with
    | zero =>
      cases j with
      | zero => rfl
      | succ j =>
        simp at e1 s1
        subst e1 s1
        exact absurd (by simpa using s2) (h.1 j ys (by simpa using e2))
    | succ i =>
      cases j with
      | zero =>
        simp at e2 s2
        subst e2 s2
        exact absurd (by simpa using s1) (h.1 i xs (by simpa using e1))
      | succ j =>
        congr 1
        exact apA_get tl (by simpa using e1) (by simpa using e2) (by simpa using s1) (by simpa using s2)
section
variable {P : Program} {w : World} {K : PySem.W.Frag} {mg : Str → Option Value} {base : Heap}
theorem env0_get {ds : List D} {n i : Nat} {d : D} (h : (env0 ds n)[i]? = some (some d)) : ds[i]? = some d := by
  unfold env0 at h
  by_cases hi : i < ds.length
  · rw [List.getElem?_append_left (by simpa using hi)] at h
    simpa using h
  · rw [List.getElem?_append_right (by simpa using hi)] at h
    by_cases h2 : i - (ds.map some).length < n
    · rw [List.getElem?_replicate_of_lt h2] at h
      cases h
    · rw [List.getElem?_eq_none (by simpa using h2)] at h
      cases h
theorem start_get {N : List Str} {vs : List V} {i : Nat} {v : V} (h : vs[i]? = some v) : (L2.start N vs)[i]? = some (some v) := by
  unfold L2.start
  have hi : i < vs.length := (List.getElem?_eq_some_iff.mp h).1
  rw [List.getElem?_append_left (by simpa using hi)]
  simp [h]
theorem start_at {N : List Str} {vs : List V} {i : Nat} {v : V} (h : (L2.start N vs)[i]? = some (some v)) : vs[i]? = some v := by
  unfold L2.start at h
  by_cases hi : i < vs.length
  · rw [List.getElem?_append_left (by simpa using hi)] at h
    simpa using h
  · rw [List.getElem?_append_right (by simpa using hi)] at h
    by_cases h2 : i - (vs.map some).length < N.length - vs.length
    · rw [List.getElem?_replicate_of_lt h2] at h
      cases h
    · rw [List.getElem?_eq_none (by simpa using h2)] at h
      cases h
theorem fn_ok {x : Str} {st : Stmt} {f : Addr} {fd : FuncData} {N ps : List Str} {k : Nat} {sp : FSpec} (wS : WS) (F : Fun K x x st f fd) (S : FnScope N ps (defScope st))
    (deriv : ∀ (cdv : Value) (A : Around) (outer : List Env) (s : Shared) (H : Hp) (E : XK), Room k (A.deeper (envOfC x (defScope st) s.heap.objs.size f cdv)) →
      DSs (cxOf CX0 P w K mg base N x (defScope st) f cdv A outer s H E).nox ps.length H (List.range ps.length) (defBody st) wS)
    (pure : ∀ ds, ds.length = ps.length → sp.pre ds → wS (env0 ds (N.length - ps.length)) { nx := fun e => sp.post ds .non (outs e ps.length), rt := fun d e => sp.post ds d (outs e ps.length) }) :
    FnOk P w K mg base CX0 (k + 1) f fd ps (spOf K ps.length sp) := by
  have hNl : ps.length ≤ N.length := by
    have := congrArg List.length S.pre
    rw [List.length_take] at this
    omega
  refine F.ok S (fun vs H Q E h => ?_) (fun cdv A outer s H vs Q E hr h => ?_)
  · obtain ⟨ds, hl, _⟩ := h
    exact hl
  · obtain ⟨ds, hl, rv, ap, pre, q⟩ := h
    have hdl : ds.length = ps.length := by rw [rv.length]; exact hl
    refine ⟨_, deriv cdv A outer s H E hr, ?_⟩
    have R : Rep K ps.length H (L2.start N vs) H (env0 ds (N.length - ps.length)) := by
      refine ⟨?_, fun i d e => ?_, fun i j xs ys a e1 e2 s1 s2 => ?_, fun i xs a hi e s' => ?_, fun _ h => h⟩
      · unfold L2.start env0
        simp [hl, hdl]
      · obtain ⟨v, e1, r1⟩ := rv.get (env0_get e)
        exact ⟨v, start_get e1, r1⟩
      · exact apA_get ap (env0_get e1) (env0_get e2) (start_at s1) (start_at s2)
      · have := env0_get e
        have hi' : i < ds.length := (List.getElem?_eq_some_iff.mp this).1
        omega
    have A1 : ∀ {σ' : L2.St} {H' : Hp} {env' : DEnv}, SS K ps.length H (List.range ps.length) (L2.start N vs) H (env0 ds (N.length - ps.length)) σ' H' env' → After K H H' ds (outs env' ps.length) vs := fun {σ' H' env'} st => by
      have el : env'.length = ds.length + (N.length - ps.length) := by
        rw [st.len]
        unfold env0
        simp
      refine ⟨?_, fun b o h n => ?_, st.dom, fun i xs v e ev => ?_⟩
      · unfold outs
        rw [List.length_map, List.length_take]
        omega
      · refine (st.keep b o h fun z => ?_).1
        obtain ⟨i, xs, e, s1⟩ := z
        exact n i xs (env0_get e) (start_at s1)
      · have hi : i < ds.length := (List.getElem?_eq_some_iff.mp e).1
        have e0 : (env0 ds (N.length - ps.length))[i]? = some (some (D.lst xs)) := by
          unfold env0
          rw [List.getElem?_append_left (by simpa using hi)]
          simp [e]
        obtain ⟨q1, ys, q2⟩ := st.par i xs (List.mem_range.mpr (by omega)) e0
        rw [start_get ev] at q1
        obtain ⟨u, q3, ru⟩ := st.rep.val i _ q2
        rw [q1] at q3
        have euv : v = u := by simpa using q3
        subst euv
        refine ⟨ys, ?_, ru⟩
        unfold outs
        rw [List.getElem?_map, List.getElem?_take_of_lt (by omega), q2]
        rfl
    refine ⟨_, _, R, pure ds hdl pre, ⟨fun env' σ' H' h st => ?_, fun d env' σ' H' v h st rv fr => ?_, fun _ _ _ h _ => h.elim, fun _ _ _ h _ => h.elim⟩⟩
    · exact q .non _ .non H' h (A1 st) rfl fun n => by simp [isL] at n
    · exact q d _ v H' h (A1 st) rv fr
end
end DL

namespace DL
open PySem PySem.Spec PyProof.Rows L2
/-! ### reasoning over data -/
theorem ifb_t {A B : Prop} (h : A) : ifb (.bl true) A B := .t h
theorem ifb_f {A B : Prop} (h : B) : ifb (.bl false) A B := .f h
theorem ifb_dec {p : Prop} {_ : Decidable p} {A B : Prop} (h1 : p → A) (h2 : ¬ p → B) : ifb (.bl (decide p)) A B := by
  by_cases h : p
  · rw [decide_eq_true h]; exact .t (h1 h)
  · rw [decide_eq_false h]; exact .f (h2 h)
theorem ifb_ndec {p : Prop} {_ : Decidable p} {A B : Prop} (h1 : ¬ p → A) (h2 : p → B) : ifb (.bl (!decide p)) A B := by
  by_cases h : p
  · rw [decide_eq_true h]; exact .f (h2 h)
  · rw [decide_eq_false h]; exact .t (h1 h)
theorem ifb_b {b : Bool} {A B : Prop} (h1 : b = true → A) (h2 : b = false → B) : ifb (.bl b) A B := by
  cases b with
  | true => exact .t (h1 rfl)
  | false => exact .f (h2 rfl)
theorem ifb_nr {α : Type} {x : α} {_ : Decidable (x = x)} {A B : Prop} (h : B) : ifb (.bl (!decide (x = x))) A B := by
  rw [decide_eq_true (rfl : x = x)]; exact ifb_f h
theorem ifb_er {α : Type} {x : α} {_ : Decidable (x = x)} {A B : Prop} (h : A) : ifb (.bl (decide (x = x))) A B := by
  rw [decide_eq_true (rfl : x = x)]; exact ifb_t h
theorem goFor_ind {g : G} {wb : WS} {chk : List (Nat × List D)} {K : Kt} (I : List D → DEnv → Prop)
    (hs : ∀ x r env nxt, I (x :: r) env → (∀ e, I r e → nxt e) → chkE chk env ∧ g x env fun e2 => wb e2 { nx := nxt, rt := K.rt, bk := K.nx, ct := nxt })
    (hd : ∀ env, I [] env → chkE chk env ∧ K.nx env) : ∀ xs env, I xs env → goFor g wb chk K xs env
  | [], env, h => hd env h
  | x :: r, env, h => hs x r env _ h fun e he => goFor_ind I hs hd r e he
theorem goFor_rng {g : G} {wb : WS} {chk : List (Nat × List D)} {K : Kt} (I : Int → DEnv → Prop) : ∀ (n : Nat) (lo : Int) (env : DEnv), I lo env →
    (∀ j env nxt, lo ≤ j → j < lo + n → I j env → (∀ e, I (j + 1) e → nxt e) → chkE chk env ∧ g (.int j) env fun e2 => wb e2 { nx := nxt, rt := K.rt, bk := K.nx, ct := nxt }) →
    (∀ env, I (lo + n) env → chkE chk env ∧ K.nx env) → goFor g wb chk K (rngD lo n) env
  | 0, lo, env, h, _, hd => hd env (by simpa using h)
  | n + 1, lo, env, h, hs, hd => by
    refine hs lo env _ (Int.le_refl _) (by omega) h fun e he => ?_
    exact goFor_rng I n (lo + 1) e he (fun j env nxt h1 h2 => hs j env nxt (by omega) (by omega)) (fun env h => hd env (by rw [show lo + ((n + 1 : Nat) : Int) = lo + 1 + (n : Int) by omega]; exact h))
theorem loop_rng {g : G} {wb : WS} {chk : List (Nat × List D)} {K : Kt} {n : Nat} {lo : Int} {env : DEnv} (I : Int → DEnv → Prop) (h0 : I lo env)
    (hs : ∀ j env nxt, lo ≤ j → j < lo + n → I j env → (∀ e, I (j + 1) e → nxt e) → chkE chk env ∧ g (.int j) env fun e2 => wb e2 { nx := nxt, rt := K.rt, bk := K.nx, ct := nxt })
    (hd : ∀ env, I (lo + n) env → chkE chk env ∧ K.nx env) : Loop (goFor g wb chk K (rngD lo n) env) := .mk (goFor_rng I n lo env h0 hs hd)
theorem loop_for {g : G} {wb : WS} {chk : List (Nat × List D)} {K : Kt} {xs : List D} {env : DEnv} (I : List D → DEnv → Prop) (h0 : I xs env)
    (hs : ∀ x r env nxt, I (x :: r) env → (∀ e, I r e → nxt e) → chkE chk env ∧ g x env fun e2 => wb e2 { nx := nxt, rt := K.rt, bk := K.nx, ct := nxt })
    (hd : ∀ env, I [] env → chkE chk env ∧ K.nx env) : Loop (goFor g wb chk K xs env) := .mk (goFor_ind I hs hd xs env h0)
theorem lcGo_ind {g : G} {wt we : W} {own : List Nat} {chk : List (Nat × List D)} {k : List D → DEnv → Prop} (I : List D → List D → DEnv → Prop)
    (hs : ∀ x r acc env (nxt : List D → DEnv → Prop), I (x :: r) acc env → (∀ a e, I r a e → nxt a e) → chkE chk env ∧ g x env fun e2 => wt e2 fun rb e3 => rs e3 rb fun b =>
      ifb b (we e3 fun r e4 => rs e4 r fun y => isL y = false ∧ nxt (acc ++ [y]) (wipeE e4 own)) (nxt acc (wipeE e3 own)))
    (hd : ∀ acc env, I [] acc env → chkE chk env ∧ k acc env) : ∀ xs acc env, I xs acc env → lcGo g wt we own chk k xs acc env
  | [], acc, env, h => hd acc env h
  | x :: r, acc, env, h => hs x r acc env _ h fun a e he => lcGo_ind I hs hd r a e he
/-- each item gives f of it, the slots stay -/
theorem lcGo_map {g : G} {wt we : W} {own : List Nat} {chk : List (Nat × List D)} {k : List D → DEnv → Prop} (f : D → D) (env : DEnv) (xs0 : List D)
    (hs : ∀ x (nxt : List D → DEnv → Prop) acc, x ∈ xs0 → nxt (acc ++ [f x]) env → chkE chk env ∧ g x env fun e2 => wt e2 fun rb e3 => rs e3 rb fun b =>
      ifb b (we e3 fun r e4 => rs e4 r fun y => isL y = false ∧ nxt (acc ++ [y]) (wipeE e4 own)) (nxt acc (wipeE e3 own)))
    (hd : chkE chk env ∧ k (xs0.map f) env) : Loop (lcGo g wt we own chk k xs0 [] env) := by
  refine Loop.mk ?_
  refine lcGo_ind (fun r acc e => e = env ∧ acc ++ r.map f = xs0.map f ∧ ∀ x ∈ r, x ∈ xs0) ?_ ?_ xs0 [] env ⟨rfl, by simp, fun _ h => h⟩
  · rintro x r acc e nxt ⟨rfl, h, hm⟩ hn
    exact hs x nxt acc (hm x (by simp)) (hn _ _ ⟨rfl, by simpa using h, fun y hy => hm y (by simp [hy])⟩)
  · rintro acc e ⟨rfl, h, _⟩
    have : acc = xs0.map f := by simpa using h
    rw [this]
    exact hd
/-- the items that pass p -/
theorem lcGo_filter {g : G} {wt we : W} {own : List Nat} {chk : List (Nat × List D)} {k : List D → DEnv → Prop} (p : D → Bool) (f : D → D) (env : DEnv) (xs0 : List D)
    (hs : ∀ x (nxt : List D → DEnv → Prop) acc, x ∈ xs0 → nxt (acc ++ if p x then [f x] else []) env → chkE chk env ∧ g x env fun e2 => wt e2 fun rb e3 => rs e3 rb fun b =>
      ifb b (we e3 fun r e4 => rs e4 r fun y => isL y = false ∧ nxt (acc ++ [y]) (wipeE e4 own)) (nxt acc (wipeE e3 own)))
    (hd : chkE chk env ∧ k ((xs0.filter p).map f) env) : Loop (lcGo g wt we own chk k xs0 [] env) := by
  refine Loop.mk ?_
  refine lcGo_ind (fun r acc e => e = env ∧ acc ++ (r.filter p).map f = (xs0.filter p).map f ∧ ∀ x ∈ r, x ∈ xs0) ?_ ?_ xs0 [] env ⟨rfl, by simp, fun _ h => h⟩
  · rintro x r acc e nxt ⟨rfl, h, hm⟩ hn
    refine hs x nxt acc (hm x (by simp)) (hn _ _ ⟨rfl, ?_, fun y hy => hm y (by simp [hy])⟩)
    rw [← h]
    by_cases hp : p x = true
    · simp [hp, List.filter_cons]
    · simp [hp, List.filter_cons]
  · rintro acc e ⟨rfl, h, _⟩
    have : acc = (xs0.filter p).map f := by simpa using h
    rw [this]
    exact hd
def IsInts (xs : List D) : Prop := ∃ ns : List Int, xs = ns.map D.int
theorem loop_lc {g : G} {wt we : W} {own : List Nat} {chk : List (Nat × List D)} {k : List D → DEnv → Prop} {xs : List D} {env : DEnv} (I : List D → List D → DEnv → Prop) (h0 : I xs [] env)
    (hs : ∀ x r acc env (nxt : List D → DEnv → Prop), I (x :: r) acc env → (∀ a e, I r a e → nxt a e) → chkE chk env ∧ g x env fun e2 => wt e2 fun rb e3 => rs e3 rb fun b =>
      ifb b (we e3 fun r e4 => rs e4 r fun y => isL y = false ∧ nxt (acc ++ [y]) (wipeE e4 own)) (nxt acc (wipeE e3 own)))
    (hd : ∀ acc env, I [] acc env → chkE chk env ∧ k acc env) : Loop (lcGo g wt we own chk k xs [] env) := .mk (lcGo_ind I hs hd xs [] env h0)
theorem fn_false {P : Program} {w : World} {K : PySem.W.Frag} {mg : Str → Option Value} {base : Heap} {k n : Nat} {f : Addr} {fd : FuncData} {ps : List Str} {sp : FSpec} (h : ∀ ds, sp.pre ds → False) : FnOk P w K mg base CX0 k f fd ps (spOf K n sp) :=
  ⟨fun vs H Q E ⟨ds, _, _, _, pre, _⟩ => (h ds pre).elim, fun A outer s H args us vs Q E _ _ _ _ ⟨ds, _, _, _, pre, _⟩ => (h ds pre).elim⟩
/-- the law's own start -/
def sp_law : FSpec where
  pre := fun ds => ∃ ns : List Int, ds = [.rol (ns.map D.int)] ∧ ns.length ≤ 63
  post := fun _ r _ => r = .bl true
theorem RpIs.ints {K : PySem.W.Frag} {H : Hp} : ∀ ns : List Int, RpIs K H (ns.map D.int) (ns.map V.int)
  | [] => by simp [RpIs]
  | n :: r => by
    simp only [List.map_cons, RpIs, RpI]
    exact ⟨_, _, rfl, rfl, RpIs.ints r⟩
theorem law_start {K : PySem.W.Frag} {H : Hp} {a : Addr} {ns : List Int} (hl : ns.length ≤ 63) (hO : Only H) (hS : SqL K H a (ns.map V.int)) : spOf K 1 sp_law [.ref a] H (fun v _ => v = .bl true) fun _ _ _ => False := by
  have hr : SqR K H a (ns.map V.int) := by
    rcases hS with (h | ⟨o, h⟩) | h
    · rcases hO a with n | ⟨o, xs, n⟩
      · rw [n] at h; cases h
      · rw [n] at h; cases h
    · exact .inl ⟨o, h⟩
    · exact .inr h
  refine ⟨[.rol (ns.map D.int)], rfl, ⟨_, [], rfl, ?_, rfl⟩, trivial, ⟨ns, rfl, hl⟩, fun r ds' v H' po _ rv _ => ?_⟩
  · show RpI _ _ _ _
    simp only [RpI]
    exact ⟨a, _, rfl, hr, RpIs.ints ns⟩
  · cases (show r = .bl true from po)
    exact rv
end DL

namespace DL
open PySem PySem.Spec PyProof.Rows L2
section
variable {X : Cx} {np : Nat} {He : Hp} {pos : Pos} {a b c d : Expr}
/-! ### a op b op' c op'' d -/
def tChain3 (r r' r'' : R2) (ta tb tc td : TE) : TE := fun σ H Q => ta σ H fun x H1 => tb σ H1 fun y H2 => r x y H2 fun z H3 => ∃ k, z = .bl k ∧
  (if k = true then tc σ H3 fun w' H4 => r' y w' H4 fun z2 H5 => ∃ k2, z2 = .bl k2 ∧ (if k2 = true then td σ H5 fun u' H6 => r'' w' u' H6 Q else Q (.bl false) H5) else Q (.bl false) H3)
theorem pe_chain3 {op op' op'' : CmpOp} {r r' r'' : R2} {ta tb tc td : TE} (ho : OpR X (compareOp op) r) (ho' : OpR X (compareOp op') r') (ho'' : OpR X (compareOp op'') r'') (ha : PE X a ta) (hb : PE X b tb) (hc : PE X c tc) (hd : PE X d td)
    (hm : lastMarks [op, op', op''] [b, c, d] = false := by with_unfolding_all rfl) : PE X (.Compare a [op, op', op''] [b, c, d] pos) (tChain3 r r' r'' ta tb tc td) := by
  refine ⟨fun pins s σ H Q I h => ?_⟩
  refine Compare_chain (thn (ha.run pins s σ H _ I h) fun v s1 ⟨x, H1, I1, r1, q1⟩ => chain_link (thn (hb.run pins s1 σ H1 _ I1 q1) fun u s2 ⟨y, H2, I2, r2, q2⟩ =>
    thn (ho pins s2 σ H2 x y v u _ I2 r1 r2 q2) fun dd s3 ⟨z, H3, I3, r3, k, e, q3⟩ => ?_)) hm
  subst e
  cases r3
  refine wpAny_truthy_bool ?_
  cases k with
  | false => exact ite_ff ⟨.bl false, H3, I3, rfl, q3⟩
  | true =>
    refine ite_tt (chain_link (thn (hc.run pins s3 σ H3 _ I3 q3) fun w' s4 ⟨z', H4, I4, r4, q4⟩ => thn (ho' pins s4 σ H4 y z' u w' _ I4 r2 r4 q4) fun d5 s5 ⟨z5, H5, I5, r5, k5, e5, q5⟩ => ?_))
    subst e5
    cases r5
    refine wpAny_truthy_bool ?_
    cases k5 with
    | false => exact ite_ff ⟨.bl false, H5, I5, rfl, q5⟩
    | true => exact ite_tt (chain_last (thn (hd.run pins s5 σ H5 _ I5 q5) fun w6 s6 ⟨z6, H6, I6, r6, q6⟩ => ho'' pins s6 σ H6 z' z6 w' w6 Q I6 r4 r6 q6))
theorem pt_chain3 {op op' op'' : CmpOp} {r r' r'' : R2} {ta tb tc td : TE} (ho : OpR X (compareOp op) r) (ho' : OpR X (compareOp op') r') (ho'' : OpR X (compareOp op'') r'') (ha : PE X a ta) (hb : PE X b tb) (hc : PE X c tc) (hd : PE X d td)
    (hm : lastMarks [op, op', op''] [b, c, d] = false := by with_unfolding_all rfl) : PT X (.Compare a [op, op', op''] [b, c, d] pos) (tTest (tChain3 r r' r'' ta tb tc td)) := by
  refine ⟨fun pins s σ H Q I h => ?_⟩
  refine isTrue_chain (thn (ha.run pins s σ H _ I h) fun v s1 ⟨x, H1, I1, r1, q1⟩ => test_link (thn (hb.run pins s1 σ H1 _ I1 q1) fun u s2 ⟨y, H2, I2, r2, q2⟩ =>
    thn (ho pins s2 σ H2 x y v u _ I2 r1 r2 q2) fun dd s3 ⟨z, H3, I3, r3, k, e, q3⟩ => ?_)) hm
  subst e
  cases r3
  refine wpAny_truthy_bool ?_
  cases k with
  | false =>
    obtain ⟨k', e', q'⟩ := q3
    cases e'
    exact ite_ff ⟨H3, I3, q'⟩
  | true =>
    refine ite_tt (test_link (thn (hc.run pins s3 σ H3 _ I3 q3) fun w' s4 ⟨z', H4, I4, r4, q4⟩ => thn (ho' pins s4 σ H4 y z' u w' _ I4 r2 r4 q4) fun d5 s5 ⟨z5, H5, I5, r5, k5, e5, q5⟩ => ?_))
    subst e5
    cases r5
    refine wpAny_truthy_bool ?_
    cases k5 with
    | false =>
      obtain ⟨k', e', q'⟩ := q5
      cases e'
      exact ite_ff ⟨H5, I5, q'⟩
    | true =>
      refine ite_tt (test_last (thn (hd.run pins s5 σ H5 _ I5 q5) fun w6 s6 ⟨z6, H6, I6, r6, q6⟩ => thn (ho'' pins s6 σ H6 z' z6 w' w6 _ I6 r4 r6 q6) fun d7 s7 ⟨z7, H7, I7, r7, k7, e7, q7⟩ => ?_))
      subst e7
      cases r7
      exact wpAny_truthy_bool ⟨H7, I7, q7⟩
def cChain3 (f g h : F2) (wa wb wc wd : W) : W := fun env Q => wa env fun ra e1 => wb e1 fun rb e2 => rs e2 ra fun x => rs e2 rb fun y => f x y fun z => ifb z
  (wc e2 fun rc e3 => rs e3 rb fun y' => rs e3 rc fun u => g y' u fun z' => ifb z' (wd e3 fun rd e4 => rs e4 rc fun u' => rs e4 rd fun t => h u' t fun z'' => Q (.val z'') e4) (Q (.val (.bl false)) e3)) (Q (.val (.bl false)) e2)
theorem chain3_core {wa wb wc wd : W} {r r' r'' : R2} {f g g' : F2} (h : OpD X.K r f) (h' : OpD X.K r' g) (h'' : OpD X.K r'' g') : ∀ σ H Q, rE X.K np He (cChain3 f g g' wa wb wc wd) σ H Q → tChain3 r r' r'' (rE X.K np He wa) (rE X.K np He wb) (rE X.K np He wc) (rE X.K np He wd) σ H Q := by
  intro σ H Q ⟨env, Q0, R, w, q⟩
  refine ⟨env, _, R, w, fun ra e1 v1 H1 w1 s1 r1 => ⟨e1, _, s1.rep, w1, fun rb e2 v2 H2 w2 s2 r2 => ?_⟩⟩
  have r1' := r1.keep R s1 s2
  have s12 := s1.trans s2
  obtain ⟨x, hx, w2⟩ := r1'.rs s2.rep w2
  obtain ⟨y, hy, w2⟩ := r2.rs s2.rep w2
  refine h H2 x y v1 v2 _ _ hx hy w2 fun z u H' k ex rz fz => ?_
  have s3 : SE X.K np He σ H2 e2 H' e2 := .ext s2.rep ex
  have kz := ifb_of k; clear k; rcases kz with ⟨rfl, k⟩ | ⟨rfl, k⟩
  · refine ⟨true, rz, ?_⟩
    rw [if_pos rfl]
    refine ⟨e2, _, s3.rep, k, fun rc e3 v3 H3 w3 s4 r3 => ?_⟩
    have r2' := r2.keep s1.rep s2 (s3.trans s4)
    obtain ⟨y', hy', w3⟩ := r2'.rs s4.rep w3
    obtain ⟨u', hu', w3⟩ := r3.rs s4.rep w3
    have s14 := (s12.trans s3).trans s4
    refine h' H3 y' u' v2 v3 _ _ hy' hu' w3 fun z u H' k ex rz fz => ?_
    have s5 : SE X.K np He σ H3 e3 H' e3 := .ext s4.rep ex
    have kz := ifb_of k; clear k; rcases kz with ⟨rfl, k⟩ | ⟨rfl, k⟩
    · refine ⟨true, rz, ?_⟩
      rw [if_pos rfl]
      refine ⟨e3, _, s5.rep, k, fun rd e4 v4 H4 w4 s6 r4 => ?_⟩
      have r3' := r3.keep s3.rep s4 (s5.trans s6)
      obtain ⟨u2, hu2, w4⟩ := r3'.rs s6.rep w4
      obtain ⟨t, ht, w4⟩ := r4.rs s6.rep w4
      have s16 := (s14.trans s5).trans s6
      refine h'' H4 u2 t v3 v4 _ Q hu2 ht w4 fun z u H' k ex rz fz => ?_
      exact q _ e4 u H' k (s16.trans (.ext s6.rep ex)) ⟨rz, fun n c e => s16.dom c (fz n c e)⟩
    · refine ⟨false, rz, ?_⟩
      rw [if_neg Bool.false_ne_true]
      exact q _ e3 _ H' k (s14.trans s5) ⟨rfl, fun n => by simp [isL] at n⟩
  · refine ⟨false, rz, ?_⟩
    rw [if_neg Bool.false_ne_true]
    exact q _ e2 _ H' k (s12.trans s3) ⟨rfl, fun n => by simp [isL] at n⟩
theorem e_chain3 {op op' op'' : CmpOp} {r r' r'' : R2} {f g g' : F2} {wa wb wc wd : W} (ho : OpR X (compareOp op) r) (ho' : OpR X (compareOp op') r') (ho'' : OpR X (compareOp op'') r'') (h : OpD X.K r f) (h' : OpD X.K r' g) (h'' : OpD X.K r'' g') (ha : DE X np He a wa) (hb : DE X np He b wb) (hc : DE X np He c wc) (hd : DE X np He d wd)
    (hm : lastMarks [op, op', op''] [b, c, d] = false := by with_unfolding_all rfl) : DE X np He (.Compare a [op, op', op''] [b, c, d] pos) (cChain3 f g g' wa wb wc wd) :=
  PE.weak (pe_chain3 ho ho' ho'' ha hb hc hd hm) (chain3_core h h' h'')
theorem t_chain3 {op op' op'' : CmpOp} {r r' r'' : R2} {f g g' : F2} {wa wb wc wd : W} (ho : OpR X (compareOp op) r) (ho' : OpR X (compareOp op') r') (ho'' : OpR X (compareOp op'') r'') (h : OpD X.K r f) (h' : OpD X.K r' g) (h'' : OpD X.K r'' g') (ha : DE X np He a wa) (hb : DE X np He b wb) (hc : DE X np He c wc) (hd : DE X np He d wd)
    (hm : lastMarks [op, op', op''] [b, c, d] = false := by with_unfolding_all rfl) : DT X np He (.Compare a [op, op', op''] [b, c, d] pos) (cChain3 f g g' wa wb wc wd) :=
  PT.weak (pt_chain3 ho ho' ho'' ha hb hc hd hm) fun σ H Q h0 => chain3_core h h' h'' σ H _ h0
end
end DL

namespace DL
open PySem PySem.Spec PyProof.Rows L2
/-! ### every other item -/
def ev {α : Type} : List α → List α
  | [] => []
  | [x] => [x]
  | x :: _ :: r => x :: ev r
theorem ev_get {α : Type} : ∀ (xs : List α) (k : Nat), (ev xs)[k]? = xs[2 * k]?
  | [], k => by simp [ev]
  | [x], 0 => rfl
  | [x], k + 1 => by simp [ev]
  | x :: y :: r, 0 => rfl
  | x :: y :: r, k + 1 => by
    have := ev_get r k
    simp only [ev, List.getElem?_cons_succ, this]
    rw [show 2 * (k + 1) = 2 * k + 1 + 1 by omega, List.getElem?_cons_succ, List.getElem?_cons_succ]
theorem ev_len {α : Type} : ∀ (xs : List α), (ev xs).length = (xs.length + 1) / 2
  | [] => by simp [ev]
  | [x] => by simp [ev]
  | x :: y :: r => by
    simp only [ev, List.length_cons, ev_len r]
    omega
theorem ev_le {α : Type} (xs : List α) : (ev xs).length ≤ xs.length := by rw [ev_len]; omega
theorem RpIs.ev {K : PySem.W.Frag} {H : Hp} : ∀ {ds : List D} {vs : List V}, RpIs K H ds vs → RpIs K H (DL.ev ds) (DL.ev vs)
  | [], vs, h => by simp only [RpIs] at h; subst h; simp [DL.ev, RpIs]
  | [d], vs, h => by
    simp only [RpIs] at h
    obtain ⟨v, r, rfl, h1, rfl⟩ := h
    exact ⟨v, [], rfl, h1, rfl⟩
  | d :: e :: ds, vs, h => by
    simp only [RpIs] at h
    obtain ⟨v, r, rfl, h1, w, r2, rfl, h2, h3⟩ := h
    exact ⟨v, _, rfl, h1, RpIs.ev h3⟩
theorem vals_ev : ∀ {xs : List V} {us : List Value}, Vals xs us → Vals (DL.ev xs) (DL.ev us)
  | [], _, .nil => .nil
  | [_], _, .cons r .nil => .cons r .nil
  | _ :: _ :: _, _, .cons r (.cons _ t) => .cons r (vals_ev t)
theorem picks {α : Type} (xs : Array α) (a : Nat) : ∀ c : Nat, ((List.range c).map fun k => a + 2 * k).filterMap (xs[·]?) = (ev (xs.toList.drop a)).take c
  | 0 => by simp
  | c + 1 => by
    rw [List.range_succ, List.map_append, List.filterMap_append, picks xs a c, List.take_add_one, ev_get, List.getElem?_drop, Array.getElem?_toList]
    cases h : xs[a + 2 * c]? <;> simp [h]
theorem pick2 (items : Array Value) (lo : Option Int) (m : Nat) (hm : (lo = none ∧ m = 0) ∨ lo = some (m : Int)) : slicePick items lo none (some 2) = (ev (items.toList.drop m)).toArray := by
  have e : sliceBounds lo none (some 2) items.size = (((min m items.size : Nat) : Int), (items.size : Int), (2 : Int)) := by
    rcases hm with ⟨rfl, rfl⟩ | rfl
    · simp [sliceBounds]
    · have h : ¬ ((m : Int) < 0) := by omega
      simp [sliceBounds, h]
      omega
  have e2 : ∀ (a n : Nat), a ≤ n → sliceRange (a : Int) (n : Int) 2 = (List.range ((n - a + 1) / 2)).map fun k => a + 2 * k := by
    intro a n h
    unfold sliceRange
    have hc : (if (2 : Int) > 0 then (if (a : Int) < n then ((n : Int) - a + 2 - 1) / 2 else 0) else (if (a : Int) > n then ((a : Int) - n - 2 - 1) / (-2) else 0)).toNat = (n - a + 1) / 2 := by
      rw [if_pos (by decide)]
      by_cases h2 : (a : Int) < n
      · rw [if_pos h2]; omega
      · rw [if_neg h2]; omega
    simp only [hc]
    apply List.map_congr_left
    intro k _
    omega
  unfold slicePick
  rw [e]
  simp only []
  rw [e2 _ _ (Nat.min_le_right _ _), picks]
  congr 1
  by_cases h : m ≤ items.size
  · rw [Nat.min_eq_left h, List.take_of_length_le]
    rw [ev_len, List.length_drop, Array.length_toList]
    omega
  · rw [Nat.min_eq_right (by omega), List.drop_of_length_le (by simp), List.drop_of_length_le (by simp; omega)]
    simp [ev]
section
variable {X : Cx} {np : Nat} {He : Hp} {a b : Expr} {wa wb : W} {pos : Pos}
def tStp (K : PySem.W.Frag) (m : Nat) (te : TE) : TE := fun σ H Q => te σ H fun x H1 => ∃ l xs, x = .ref l ∧ SqL K H1 l xs ∧ ∀ p, H1 p = none → Q (.ref p) (upd H1 p (.lst (ev (xs.drop m))))
theorem pe_stp {e : Expr} {te : TE} {lower : Option Expr} {tl : TO} {lo : Option Int} {m kk : Nat} {q1 q2 : Pos} (hm : (lo = none ∧ m = 0) ∨ lo = some (m : Int)) (he : PE X e te) (hl : PO X lower tl) (hq : ∀ σ H, tl σ H fun o H' => o = lo ∧ H' = H) :
    PE X (.Subscript e (.Slice lower none (some (.Constant (.int 2) kk q1)) q2) pos) (tStp X.K m te) := by
  refine ⟨fun pins s σ H Q J0 g0 => ?_⟩
  refine Subscript_ (thn (he.run pins s σ H _ J0 g0) fun vv sA ⟨xx, HA, JA, rA, qA⟩ => ?_)
  obtain ⟨ad, xs, rfl, sq, fin⟩ := qA
  cases rA
  refine wpAny_Slice (thn (hl.run pins sA σ HA _ JA (hq σ HA)) fun wl sB ⟨ol, HB, JB, pB, eB⟩ => ?_)
  obtain ⟨rfl, rfl⟩ := eB
  refine thn (po_none.run pins sB σ HB (fun o H' => o = none ∧ H' = HB) JB ⟨rfl, rfl⟩) fun wu sC ⟨ou, HC, JC, pC, eC⟩ => ?_
  obtain ⟨rfl, rfl⟩ := eC
  refine thn ((po_some pe_int).run pins sC σ HC (fun o H' => o = some 2 ∧ H' = HC) JC ⟨2, rfl, rfl, rfl⟩) fun ws sD ⟨os, HD, JD, pD, eD⟩ => ?_
  obtain ⟨rfl, rfl⟩ := eD
  have JE : Inv X pins σ HD { sD with heap := sD.heap.push { cls := .type "slice", data := .fields #[wl, wu, ws] } } := JD.kept (t' := sD.toks) fun c oc h => Heap.get?_push_of_some _ h
  obtain ⟨its, rv, pl, hz⟩ := JE.list sq
  have hlen := rv.length
  show wpAny (model X.prog X.w) X.A (subscriptTail e (.Slice lower none (some (.Constant (.int 2) kk q1)) q2) (.ref ad) (.ref sD.heap.objs.size)) (EP X pins σ Q) X.xe { sD with heap := sD.heap.push { cls := .type "slice", data := .fields #[wl, wu, ws] } }
  refine tail_any (ops := [.ref ad, .ref sD.heap.objs.size]) pl.isList.typeIs (PySem.slot_list_getitem.lookup) ?_ (by with_unfolding_all rfl)
  refine wpAny_getItem_list_slice pl.isList (Heap.IsSliceOf.new _ wl wu ws) pB pC pD (by decide) ?_ (by simp only [List.size_toArray]; omega)
  rw [pick2 _ ol m hm]
  refine ⟨.ref _, _, JE.laid (t' := sD.toks) (o := .lst (ev (xs.drop m))) (fun c oc h => Heap.get?_push_of_some _ h) (Nat.le_refl _) ?_, rfl, fin _ (JE.hok.fresh (Nat.le_refl _))⟩
  refine ⟨?_, _, 0, vals_ev (rv.drop m), Heap.get?_push_size _ rfl⟩
  have := ev_le (xs.drop m)
  rw [List.length_drop] at this
  omega
def fStp (m : Nat) : F1 := fun x k => match x with
  | .lst xs => k (.lst (ev (xs.drop m)))
  | .rol xs => k (.lst (ev (xs.drop m)))
  | _ => False
theorem stp_core (m : Nat) : ∀ σ H Q, rE X.K np He (cUn (fStp m) wa) σ H Q → tStp X.K m (rE X.K np He wa) σ H Q := by
  intro σ H Q ⟨env, Q0, R, w, q⟩
  refine ⟨env, _, R, w, fun ra e1 v1 H1 w1 s1 r1 => ?_⟩
  obtain ⟨x, hx, w1⟩ := r1.rs s1.rep w1
  have fin : ∀ {l : Addr} {vs : List V} {xs : List D}, v1 = .ref l → SqL X.K H1 l vs → RpIs X.K H1 xs vs → Q0 (.val (.lst (ev (xs.drop m)))) e1 → ∃ l xs, v1 = .ref l ∧ SqL X.K H1 l xs ∧ ∀ p, H1 p = none → Q (.ref p) (upd H1 p (.lst (ev (xs.drop m)))) := by
    intro l vs xs e sq r k
    refine ⟨l, vs, e, sq, fun p np' => ?_⟩
    have ex : Ext H1 (upd H1 p (.lst (ev (vs.drop m)))) := .new np'
    refine q _ e1 _ _ k (s1.trans (.ext s1.rep ex)) ⟨⟨p, _, rfl, upd_same, RpIs.kp ex.kp _ _ (r.drop m).ev⟩, fun _ c e => ?_⟩
    cases e
    exact s1.dom p np'
  cases x with
  | lst xs => obtain ⟨a, vs, rfl, e, r⟩ := hx; exact fin rfl (.of e) r w1
  | rol xs =>
    obtain ⟨a, vs, rfl, s, r⟩ := (show ∃ a vs, v1 = .ref a ∧ SqR X.K H1 a vs ∧ RpIs X.K H1 xs vs by simpa only [RpV, RpI] using hx)
    exact fin rfl s.seq r w1
  | _ => exact False.elim w1
theorem e_stp0 {kk : Nat} {q1 q2 : Pos} (ha : DE X np He a wa) : DE X np He (.Subscript a (.Slice none none (some (.Constant (.int 2) kk q1)) q2) pos) (cUn (fStp 0) wa) :=
  PE.weak (pe_stp (.inl ⟨rfl, rfl⟩) ha po_none fun σ H => ⟨rfl, rfl⟩) (stp_core 0)
theorem e_stp {m kk k2 : Nat} {q1 q2 q3 : Pos} (ha : DE X np He a wa) : DE X np He (.Subscript a (.Slice (some (.Constant (.int (m : Int)) k2 q3)) none (some (.Constant (.int 2) kk q1)) q2) pos) (cUn (fStp m) wa) :=
  PE.weak (pe_stp (.inr rfl) ha (po_some pe_int) fun σ H => ⟨_, rfl, rfl, rfl⟩) (stp_core m)
end
end DL

namespace DL
open PySem PySem.Spec PyProof.Rows L2
/-! ### tuple(zip(xs, ys)) of two lists -/
theorem zip_no_len : typeLookup (.type "zip") "__len__" = pure none := by rw [typeLookup_type, builtinLookup_eq_fast]; kernel_rfl
theorem zip_no_hint : typeLookup (.type "zip") "__length_hint__" = pure none := by rw [typeLookup_type, builtinLookup_eq_fast]; kernel_rfl
/-- what the list has got so far -/
def Got (H : Hp) (xs ys : List V) (acc : Array Value) (i : Nat) : Prop := acc.size = i ∧ ∀ (j : Nat) (v : Value), acc[j]? = some v → ∃ (T : Addr) (x y : V), v = Value.ref T ∧ H T = some (.tup [x, y]) ∧ xs[j]? = some x ∧ ys[j]? = some y
theorem Got.ext {H H' : Hp} {xs ys : List V} {acc : Array Value} {i : Nat} (x : Ext H H') (g : Got H xs ys acc i) : Got H' xs ys acc i :=
  ⟨g.1, fun j v h => let ⟨T, a, b, e1, e2, e3, e4⟩ := g.2 j v h; ⟨T, a, b, e1, x _ _ e2, e3, e4⟩⟩
theorem Got.push {H : Hp} {xs ys : List V} {acc : Array Value} {i : Nat} {T : Addr} {x y : V} (g : Got H xs ys acc i) (h : H T = some (.tup [x, y])) (hx : xs[i]? = some x) (hy : ys[i]? = some y) : Got H xs ys (acc.push (.ref T)) (i + 1) := by
  refine ⟨by rw [Array.size_push, g.1], fun j v e => ?_⟩
  rw [Array.getElem?_push] at e
  split at e
  · rename_i e1
    rw [g.1] at e1
    cases e
    subst e1
    exact ⟨T, x, y, rfl, h, hx, hy⟩
  · exact g.2 j v e
def LObj (acc : Array Value) (c : Nat) : Obj := { cls := .type "list", dict := none, data := .seq acc c, slots := #[] }
/-- the zip between two turns: its tuple is out or not -/
def ZAt (h : Heap) (z TI TO i1 i2 l1 l2 S : Addr) (i : Nat) : Prop := IsPair h TI (.ref i1) (.ref i2) ∧ h.IsListIter i1 l1 i ∧ h.IsListIter i2 l2 i ∧
  ((IsZip h z TI TO .none ∧ ∃ a b, IsPair h TO a b) ∨ ∃ T f oT, IsZipHeld h z TI TO T f ∧ h.get? T = some oT ∧ T ≠ z ∧ T ≠ i1 ∧ T ≠ i2 ∧ T ≠ S)
theorem ZAt.but {h h' : Heap} {z TI TO i1 i2 l1 l2 S : Addr} {i : Nat} (Z : ZAt h z TI TO i1 i2 l1 l2 S i) (d : S ≠ TI ∧ S ≠ i1 ∧ S ≠ i2 ∧ S ≠ z ∧ S ≠ TO) (k : ∀ b o, b ≠ S → h.get? b = some o → h'.get? b = some o) : ZAt h' z TI TO i1 i2 l1 l2 S i := by
  obtain ⟨hTI, h1, h2, hz⟩ := Z
  refine ⟨k _ _ d.1.symm hTI, h1.at fun o e => k _ o d.2.1.symm e, h2.at fun o e => k _ o d.2.2.1.symm e, ?_⟩
  rcases hz with ⟨hz, a, b, hTO⟩ | ⟨T, f, oT, hz, hT, r1, r2, r3, r4⟩
  · exact .inl ⟨k _ _ d.2.2.2.1.symm hz, a, b, k _ _ d.2.2.2.2.symm hTO⟩
  · exact .inr ⟨T, f, oT, k _ _ d.2.2.2.1.symm hz, k _ _ r4 hT, r1, r2, r3, r4⟩
section
variable {X : Cx} {pins : List (Addr × Obj)} {σ : L2.St}
theorem fp_ext {H H' : Hp} {b : Addr} (f : FpOk X pins H b) (h : H' b = none) : FpOk X pins H' b := ⟨h, f.2⟩
theorem SqL.ext' {K : PySem.W.Frag} {H H' : Hp} {a : Addr} {xs : List V} (e : Ext H H') (h : SqL K H a xs) : SqL K H' a xs := by
  rcases h with (h | ⟨o, h⟩) | h
  · exact .inl (.inl (e _ _ h))
  · exact .inl (.inr ⟨o, e _ _ h⟩)
  · exact .inr h
theorem zip_loop (hc : X.calm = true) {A : Around} (hA : A.handled = none) {z TI TO i1 i2 l1 l2 S : Addr} (D : ZipApart z TI TO i1 i2 l1 l2) (dS : S ≠ TI ∧ S ≠ i1 ∧ S ≠ i2 ∧ S ≠ z ∧ S ≠ TO) {xs ys : List V} {H0 : Hp} (q1 : SqL X.K H0 l1 xs) (q2 : SqL X.K H0 l2 ys)
    (hlen : xs.length ≤ sizeLine) (res : Value) {R : Result → Shared → Prop} :
    ∀ (k i : Nat) (s : Shared) (H : Hp) (acc : Array Value) (c : Nat), min xs.length ys.length - i = k → i ≤ min xs.length ys.length → Inv X pins σ H s → Ext H0 H → (∀ b ∈ [z, TO, i1, i2, S], FpOk X pins H b) → (∀ b ∈ [z, TO, i1, i2, S], b < s.heap.objs.size) →
      ZAt s.heap z TI TO i1 i2 l1 l2 S i → s.heap.get? S = some (LObj acc c) → Got H xs ys acc i →
      (∀ s' H' acc' c', Inv X pins σ H' s' → Ext H0 H' → (∀ b ∈ [z, TO, i1, i2, S], FpOk X pins H' b) → s'.heap.get? S = some (LObj acc' c') → Got H' xs ys acc' (min xs.length ys.length) → R (.ok (.ret res)) s') →
      codeAny (model X.prog X.w) A (.builtin "list.extend.loop" ⟨[.ref S, .ref z, res], []⟩) R s := by
  intro k
  induction k with
  | zero =>
    intro i s H acc c hk hi J ex fp lt Z hS G fin
    obtain rfl : i = min xs.length ys.length := by omega
    obtain ⟨hTI, h1, h2, hz⟩ := Z
    have q1' := SqL.ext' ex q1
    have q2' := SqL.ext' ex q2
    obtain ⟨us, ru, p1, _⟩ := J.list q1'
    obtain ⟨vs, rv, p2, _⟩ := J.list q2'
    have e1 := ru.length
    have e2 := rv.length
    have hend : us.toArray[min xs.length ys.length]? = none ∨ vs.toArray[min xs.length ys.length]? = none := by
      by_cases h : xs.length ≤ ys.length
      · exact .inl (by simp; omega)
      · exact .inr (by simp; omega)
    refine codeAny_builtin F.entry_extend_loop ?_
    rw [Around.under_plainId F.plain_extend_loop _]
    show wpAny _ A.in1 (pyNext (.ref z) >>= _) _ _ s
    have done : ∀ h', (∀ b o, b ∉ [z, TO, i1, i2] → s.heap.get? b = some o → h'.get? b = some o) → R (.ok (.ret res)) { s with heap := h' } := fun h' kp =>
      fin _ H acc c (J.turnedL (t' := s.toks) (ch := [z, TO, i1, i2]) kp fun b hb => fp b (by simp at hb ⊢; rcases hb with r | r | r | r <;> simp [r])) ex fp (kp _ _ (by simp [dS.2.2.2.1, dS.2.2.2.2, dS.2.1, dS.2.2.1]) hS) G
    rcases hz with ⟨hz, a, b, hTO⟩ | ⟨T, f, oT, hz, hT, r1, r2, r3, r4⟩
    · exact wpAny_bind (wpAny_pyNext_zip_end (A := A.in1) hA D hz hTI hTO h1 h2 p1.isList p2.isList hend fun h' kp => wpAny_pure (done h' fun b o hb e => kp b o (fun x => hb (by simp [x])) (fun x => hb (by simp [x])) (fun x => hb (by simp [x])) (fun x => hb (by simp [x])) e))
    · exact wpAny_bind (wpAny_pyNext_zip_end_held (A := A.in1) hA D hz hT hTI h1 h2 p1.isList p2.isList hend fun h' kp => wpAny_pure (done h' fun b o hb e => kp b o (fun x => hb (by simp [x])) (fun x => hb (by simp [x])) (fun x => hb (by simp [x])) e))
  | succ k ih =>
    intro i s H acc c hk hi J ex fp lt Z hS G fin
    have hlt : i < min xs.length ys.length := by omega
    obtain ⟨hTI, h1, h2, hz⟩ := Z
    have q1' := SqL.ext' ex q1
    have q2' := SqL.ext' ex q2
    obtain ⟨us, ru, p1, _⟩ := J.list q1'
    obtain ⟨vs, rv, p2, _⟩ := J.list q2'
    have hx : xs[i]? = some xs[i] := List.getElem?_eq_getElem (by omega)
    have hy : ys[i]? = some ys[i] := List.getElem?_eq_getElem (by omega)
    obtain ⟨u, hu, rx⟩ := ru.get hx
    obtain ⟨v, hv, ry⟩ := rv.get hy
    have ex1 : us.toArray[i]? = some u := by simpa using hu
    have ey1 : vs.toArray[i]? = some v := by simpa using hv
    refine codeAny_builtin F.entry_extend_loop ?_
    rw [Around.under_plainId F.plain_extend_loop _]
    show wpAny _ A.in1 (pyNext (.ref z) >>= _) _ _ s
    have sne : ∀ {b o}, s.heap.get? b = some o → s.heap.objs.size ≠ b := fun e => Nat.ne_of_gt (Heap.lt_size e)
    have step : ∀ h' : Heap, h'.objs.size = s.heap.objs.size + 1 → (∀ b o, b ∉ [z, TO, i1, i2] → s.heap.get? b = some o → h'.get? b = some o) → IsPair h' s.heap.objs.size u v → ZAt h' z TI TO i1 i2 l1 l2 S (i + 1) →
        h'.get? S = some (LObj acc c) ∧ codeAny (model X.prog X.w) A (.builtin "list.extend.loop" ⟨[.ref S, .ref z, res], []⟩) R { s with heap := h'.update S (Obj.mapSeq (·.push (.ref s.heap.objs.size))) } := by
      intro h' hsz kp hT Z'
      have hn : H s.heap.objs.size = none := J.hok.fresh (Nat.le_refl _)
      have new : ObjOk X.prog X.w (upd H s.heap.objs.size (.tup [xs[i], ys[i]])) h' s.heap.objs.size (.tup [xs[i], ys[i]]) := ⟨by show 2 ≤ sizeLine; decide, [u, v], .cons rx (.cons ry .nil), ⟨_, hT, rfl, _, rfl⟩⟩
      have J' := J.turnedNew (t' := s.toks) (ch := [z, TO, i1, i2]) kp (fun b hb => fp b (by simp at hb ⊢; rcases hb with r | r | r | r <;> simp [r])) (Nat.le_refl _) new
      have fp' : ∀ b ∈ [z, TO, i1, i2, S], FpOk X pins (upd H s.heap.objs.size (.tup [xs[i], ys[i]])) b := fun b hb => fp_ext (fp b hb) (by
        rw [upd_ne (Nat.ne_of_lt (lt b hb))]
        exact (fp b hb).1)
      have hS' : h'.get? S = some (LObj acc c) := kp _ _ (by simp [dS.2.2.2.1, dS.2.2.2.2, dS.2.1, dS.2.2.1]) hS
      have oth : ∀ b o, b ≠ S → h'.get? b = some o → (h'.update S (Obj.mapSeq (·.push (.ref s.heap.objs.size)))).get? b = some o := fun b o hb e => (Heap.get?_update_other _ _ (Ne.symm hb)).trans e
      refine ⟨hS', ih (i + 1) _ _ (acc.push (.ref s.heap.objs.size)) _ (by omega) (by omega) (J'.turnedL (s := { s with heap := h' }) (t' := s.toks) (ch := [S]) (fun b o hb e => oth b o (by simpa using hb) e) fun b hb => fp' b (by simp at hb ⊢; simp [hb])) (fun b o e => by rw [upd_ne (ne_of_none (ex b o e) hn)]; exact ex b o e) fp' (fun b hb => ?_) (Z'.but dS oth) (Heap.get?_update_self _ hS' rfl) ((G.ext (.new hn)).push upd_same hx hy) fin⟩
      show b < (h'.update S _).objs.size
      rw [Heap.size_update, hsz]
      exact Nat.lt_succ_of_lt (lt b hb)
    have eG : acc.size = i := G.1
    rcases hz with ⟨hz, a, b, hTO⟩ | ⟨T, f, oT, hz, hT, r1, r2, r3, r4⟩
    · refine wpAny_bind (wpAny_pyNext_zip_item (A := A.in1) D hz hTI hTO h1 h2 p1.isList p2.isList ex1 ey1 fun h' a1 a2 a3 a4 a5 a6 kp => ?_)
      obtain ⟨hS', run⟩ := step h' a6 (fun b o hb e => kp b o (fun x => hb (by simp [x])) (fun x => hb (by simp [x])) (fun x => hb (by simp [x])) (fun x => hb (by simp [x])) e) a5
        ⟨kp _ _ D.TIz D.TITO D.TIi1 D.TIi2 hTI, a3, a4, .inr ⟨s.heap.objs.size, false, _, a1, a5, sne hz, Nat.ne_of_gt (lt i1 (by simp)), Nat.ne_of_gt (lt i2 (by simp)), sne hS⟩⟩
      show wpAny _ A.in1 (updateSeq S (·.push _) >>= _) _ _ _
      exact wpAny_bind (wpAny_updateSeq hS' rfl (wpAny_pure ⟨plainId_quiet F.plain_extend_loop _, run⟩) (by omega) (by show (acc.push _).size ≤ _; rw [Array.size_push]; omega))
    · refine wpAny_bind (wpAny_pyNext_zip_item_held (A := A.in1) D hz hT hTI h1 h2 p1.isList p2.isList ex1 ey1 fun h' a1 a3 a4 a5 a6 kp => ?_)
      obtain ⟨hS', run⟩ := step h' a6 (fun b o hb e => kp b o (fun x => hb (by simp [x])) (fun x => hb (by simp [x])) (fun x => hb (by simp [x])) e) a5
        ⟨kp _ _ D.TIz D.TIi1 D.TIi2 hTI, a3, a4, .inr ⟨T, true, _, a1, kp _ _ r1 r2 r3 hT, r1, r2, r3, r4⟩⟩
      show wpAny _ A.in1 (updateSeq S (·.push _) >>= _) _ _ _
      exact wpAny_bind (wpAny_updateSeq hS' rfl (wpAny_pure ⟨plainId_quiet F.plain_extend_loop _, run⟩) (by omega) (by show (acc.push _).size ≤ _; rw [Array.size_push]; omega))
theorem zip_collect (hc : X.calm = true) {A : Around} (hA : A.handled = none) {z TI TO i1 i2 l1 l2 : Addr} (D : ZipApart z TI TO i1 i2 l1 l2) {xs ys : List V} {H : Hp} (q1 : SqL X.K H l1 xs) (q2 : SqL X.K H l2 ys) (hlen : xs.length ≤ sizeLine) {s : Shared} {Q : List Value → Shared → Prop} {E : Value → Shared → Prop}
    (J : Inv X pins σ H s) (fp : ∀ b ∈ [z, TO, i1, i2], FpOk X pins H b) (lt : ∀ b ∈ [z, TI, TO, i1, i2], b < s.heap.objs.size) (Z : ∀ S, ZAt s.heap z TI TO i1 i2 l1 l2 S 0 ∧ IsZip s.heap z TI TO .none)
    (fin : ∀ s' H' acc, Inv X pins σ H' s' → Ext H H' → Got H' xs ys acc (min xs.length ys.length) → Q acc.toList s') : wpAny (model X.prog X.w) A (collect (.ref z)) Q E s := by
  have hSz : s.heap.objs.size ≠ z := Nat.ne_of_gt (lt z (by simp))
  have dS : s.heap.objs.size ≠ TI ∧ s.heap.objs.size ≠ i1 ∧ s.heap.objs.size ≠ i2 ∧ s.heap.objs.size ≠ z ∧ s.heap.objs.size ≠ TO :=
    ⟨Nat.ne_of_gt (lt TI (by simp)), Nat.ne_of_gt (lt i1 (by simp)), Nat.ne_of_gt (lt i2 (by simp)), hSz, Nat.ne_of_gt (lt TO (by simp))⟩
  unfold collect
  refine wpAny_bind (wpAny_runValue (codeAny_builtin F.entry_proto_collect ?_))
  rw [Around.under_plainId F.plain_proto_collect _]
  show wpAny _ A.in1 (newList [] >>= fun nl => again (.builtin "list.__iadd__" ⟨[nl, .ref z], []⟩)) _ _ s
  refine wpAny_bind (wpAny_newObj_type ?_)
  refine wpAny_pure ⟨plainId_quiet F.plain_list_iadd _, codeAny_builtin F.entry_list_iadd ?_⟩
  rw [Around.under_plainId F.plain_list_iadd _]
  show wpAny _ A.in1 (Builtin.List.listExtendWith (.ref s.heap.objs.size) (.ref z) (.ref s.heap.objs.size)) _ _ _
  have k1 : ∀ b o, s.heap.get? b = some o → (s.heap.push (LObj ([] : List Value).toArray 0)).get? b = some o := fun b o e => Heap.get?_push_of_some _ e
  have hz1 : IsZip (s.heap.push (LObj ([] : List Value).toArray 0)) z TI TO .none := k1 _ _ (Z 0).2
  have hT : ({ s with heap := s.heap.push (LObj ([] : List Value).toArray 0) } : Shared).TypeIs (.ref z) "zip" := ⟨_, hz1, rfl⟩
  unfold Builtin.List.listExtendWith
  refine wpAny_bind (wpAny_typeOf hT ?_)
  have h1 : Builtin.List.listSameRef (.ref s.heap.objs.size) (.ref z) = false := by simp [Builtin.List.listSameRef, hSz]
  have h2 : (Value.type "zip" == Value.type "list") = false := by decide
  have h3 : (Value.type "zip" == Value.type "tuple") = false := by decide
  simp only [h1, h2, h3, Bool.or_false, Bool.false_eq_true, if_false]
  refine wpAny_bind (wpAny_pyIter_zip (s := { s with heap := s.heap.push (LObj ([] : List Value).toArray 0) }) hz1 ?_)
  refine wpAny_bind (wpAny_holding ?_)
  unfold Builtin.List.listLengthHint
  refine wpAny_bind (wpAny_specialOf hT zip_no_len ?_)
  show wpAny _ A.in1 (specialOf (Value.ref z) (Str.ofString "__length_hint__") >>= _) _ _ _
  refine wpAny_bind (wpAny_specialOf hT zip_no_hint ?_)
  refine wpAny_pure ?_
  show wpAny _ A.in1 (rule "list.extend.makes-room" >>= fun _ => Builtin.List.listTouch (.ref s.heap.objs.size) >>= fun _ => again (.builtin "list.extend.loop" ⟨[.ref s.heap.objs.size, .ref z, .ref s.heap.objs.size], []⟩)) _ _ _
  refine wpAny_bind (wpAny_rule (wpAny_bind ?_))
  have hS1 : (s.heap.push (LObj ([] : List Value).toArray 0)).get? s.heap.objs.size = some (LObj ([] : List Value).toArray 0) := Heap.get?_push_size _ rfl
  show wpAny _ A.in1 (updateSeq s.heap.objs.size (·.push .none) >>= fun _ => updateSeq s.heap.objs.size (·.pop)) _ _ _
  refine wpAny_bind (wpAny_updateSeq hS1 rfl ?_)
  have hS2 := Heap.get?_update_self (Obj.mapSeq (·.push Value.none)) hS1 rfl
  refine wpAny_updateSeq hS2 rfl ?_
  have hS3 := Heap.get?_update_self (Obj.mapSeq (·.pop)) hS2 rfl
  have k2 : ∀ b o, b ≠ s.heap.objs.size → s.heap.get? b = some o → (((s.heap.push (LObj ([] : List Value).toArray 0)).update s.heap.objs.size (Obj.mapSeq (·.push Value.none))).update s.heap.objs.size (Obj.mapSeq (·.pop))).get? b = some o :=
    fun b o hb e => ((Heap.get?_update_other _ _ (Ne.symm hb)).trans (Heap.get?_update_other _ _ (Ne.symm hb))).trans (k1 b o e)
  have k3 : ∀ b o, s.heap.get? b = some o → (((s.heap.push (LObj ([] : List Value).toArray 0)).update s.heap.objs.size (Obj.mapSeq (·.push Value.none))).update s.heap.objs.size (Obj.mapSeq (·.pop))).get? b = some o := fun b o e => k2 b o (Nat.ne_of_lt (Heap.lt_size e)) e
  have J1 : Inv X pins σ H { s with heap := (((s.heap.push (LObj ([] : List Value).toArray 0)).update s.heap.objs.size (Obj.mapSeq (·.push Value.none))).update s.heap.objs.size (Obj.mapSeq (·.pop))) } := J.kept (t' := s.toks) k3
  refine wpAny_pure ⟨plainId_quiet F.plain_extend_loop _, zip_loop hc hA D dS q1 q2 hlen _ _ 0 _ H _ _ rfl (Nat.zero_le _) J1 (.refl H) (fun b hb => ?_) (fun b hb => ?_) ?_ hS3 ⟨rfl, fun j v e => by simp at e⟩ fun s' H' acc' c' J' ex _ hS' G => ?_⟩
  · by_cases e : b = s.heap.objs.size
    · subst e; exact J.fpOk (Nat.le_refl _) (J.hok.fresh (Nat.le_refl _))
    · exact fp b (by simp at hb ⊢; rcases hb with r | r | r | r | r <;> simp_all)
  · show b < (Heap.update _ _ _).objs.size
    rw [Heap.size_update, Heap.size_update, Heap.size_push]
    simp at hb
    rcases hb with r | r | r | r | r
    · exact Nat.lt_succ_of_lt (lt b (by simp [r]))
    · exact Nat.lt_succ_of_lt (lt b (by simp [r]))
    · exact Nat.lt_succ_of_lt (lt b (by simp [r]))
    · exact Nat.lt_succ_of_lt (lt b (by simp [r]))
    · rw [r]; exact Nat.lt_succ_self _
  · obtain ⟨a1, a2, a3, a4⟩ := (Z s.heap.objs.size).1
    refine ⟨k3 _ _ a1, a2.at fun o e => k3 _ o e, a3.at fun o e => k3 _ o e, ?_⟩
    rcases a4 with ⟨z1, a, b, z2⟩ | ⟨T, f, oT, z1, z2, z3⟩
    · exact .inl ⟨k3 _ _ z1, a, b, k3 _ _ z2⟩
    · exact .inr ⟨T, f, oT, k3 _ _ z1, k3 _ _ z2, z3⟩
  · show wpAny _ A (load s.heap.objs.size >>= _) _ _ s'
    exact wpAny_bind (wpAny_load hS' (wpAny_pure (fin s' H' acc' J' ex G)))
end
end DL

namespace DL
open PySem PySem.Spec PyProof.Rows L2
section
variable {X : Cx} {pins : List (Addr × Obj)} {σ : L2.St}
theorem zip_tuple (hc : X.calm = true) {A : Around} (hA : A.handled = none) {z TI TO i1 i2 l1 l2 : Addr} (D : ZipApart z TI TO i1 i2 l1 l2) {xs ys : List V} {H : Hp} (q1 : SqL X.K H l1 xs) (q2 : SqL X.K H l2 ys) (hlen : xs.length ≤ sizeLine) {s : Shared} {Q : Value → Shared → Prop} {E : Value → Shared → Prop}
    (J : Inv X pins σ H s) (fp : ∀ b ∈ [z, TO, i1, i2], FpOk X pins H b) (lt : ∀ b ∈ [z, TI, TO, i1, i2], b < s.heap.objs.size) (Z : ∀ S, ZAt s.heap z TI TO i1 i2 l1 l2 S 0 ∧ IsZip s.heap z TI TO .none)
    (fin : ∀ s' H' acc, Inv X pins σ H' s' → Ext H H' → Got H' xs ys acc (min xs.length ys.length) → Q (.ref s'.heap.objs.size) { s' with heap := s'.heap.push { cls := .type "tuple", data := .seq acc } }) :
    wpAny (model X.prog X.w) A (call (.type "tuple") [.ref z]) Q E s := by
  refine callType_codes (Q₁ := fun obj s₁ => s₁.TypeIs obj "tuple" ∧ Q obj s₁) F.called_tuple (F.typeCall_tuple_1 _) F.entry_object_init ?_ fun obj s₁ g => ?_
  · refine codeAny_of_tree ?_
    show wpAny _ _ (do checkBuiltinCall "tuple.__new__" ⟨[.type "tuple", .ref z], []⟩; again (.builtin "tuple.__new__" ⟨[.type "tuple", .ref z], []⟩)) _ _ s
    refine wpAny_bind (wpAny_of_eq (F.newCall_tuple_1 _) (wpAny_pure ⟨plainId_quiet F.plain_tuple_new _, codeAny_builtin F.entry_tuple_new ?_⟩))
    rw [Around.under_plainId F.plain_tuple_new _]
    have e1 := sub_tuple_self
    have e2 := init_tuple_lookup
    have e3 := madeHere_tuple
    have hT : s.TypeIs (.ref z) "zip" := ⟨_, (Z 0).2, rfl⟩
    wp_walk using wpAny_typeOf hT, zip_collect (A := A.in1.in1) hc hA D q1 q2 hlen J fp lt Z
    intro s' H' acc J' ex G
    show wpAny _ _ (Builtin.Tuple.tupleExact acc.toList.toArray >>= fun v => ret v) _ _ _
    unfold Builtin.Tuple.tupleExact
    refine wpAny_bind (wpAny_newObj_type ?_ (by show acc.toList.toArray.size ≤ sizeLine; simp only [Array.toArray_toList]; rw [G.1]; omega))
    refine wpAny_pure ?_
    have e : acc.toList.toArray = acc := by simp
    rw [e]
    exact ⟨⟨_, Heap.get?_push_size _ rfl, rfl⟩, fin s' H' acc J' ex G⟩
  · exact ⟨g.1, F.args_object_init_2 obj _, object_init_meets F.called_tuple.init.lookup F.called_tuple.made (by decide) _ _ A.in1 _ s₁ ⟨g.1, rfl, g.2⟩⟩
end
theorem RpIs.of_get {K : PySem.W.Frag} {H : Hp} : ∀ {ds : List D} {vs : List V}, ds.length = vs.length → (∀ (j : Nat) (d : D) (v : V), ds[j]? = some d → vs[j]? = some v → RpI K H d v) → RpIs K H ds vs
  | [], [], _, _ => by simp [RpIs]
  | [], _ :: _, h, _ => by simp at h
  | _ :: _, [], h, _ => by simp at h
  | d :: ds, v :: vs, h, g => by
    simp only [RpIs]
    exact ⟨v, vs, rfl, g 0 d v rfl rfl, RpIs.of_get (by simpa using h) fun j d' v' h1 h2 => g (j + 1) d' v' (by simpa using h1) (by simpa using h2)⟩
def refV : Value → V
  | .ref T => .ref T
  | _ => .non
theorem vals_refs : ∀ l : List Value, (∀ v ∈ l, ∃ T, v = .ref T) → Vals (l.map refV) l
  | [], _ => .nil
  | v :: l, h => by
    obtain ⟨T, rfl⟩ := h v (by simp)
    exact .cons rfl (vals_refs l fun u hu => h u (by simp [hu]))
def PairsAt (H : Hp) (xs ys ts : List V) : Prop := ts.length = min xs.length ys.length ∧ ∀ (j : Nat) (v : V), ts[j]? = some v → ∃ (T : Addr) (x y : V), v = .ref T ∧ H T = some (.tup [x, y]) ∧ xs[j]? = some x ∧ ys[j]? = some y
def rTZ (K : PySem.W.Frag) : List V → Hp → VK → Prop := fun vs H Q => ∃ l1 l2 xs ys, vs = [.ref l1, .ref l2] ∧ SqL K H l1 xs ∧ SqL K H l2 ys ∧ xs.length ≤ sizeLine ∧
  ∀ H' T ts, Ext H H' → H' T = some (.tup ts) → PairsAt H' xs ys ts → Q (.ref T) H'
section
variable {X : Cx} {np : Nat} {He : Hp} {a b : Expr} {wa wb : W} {pos : Pos}
theorem pe_tzip {ta : TA} {p p2 pos2 : Pos} (hc : X.calm = true) (hm : X.mg "tuple" = none) (hm2 : X.mg "zip" = none) (ha : PA X [a, b] ta) (hg : Gl X "tuple" := by rfl) (hg2 : Gl X "zip" := by rfl)
    (hs : starEach [a, b] X.env = (false, eval a X.env) :: starEach [b] X.env := by rfl) (hpl : (backTo pos2 (starEach [b] X.env)).any (·.1) = false := by rfl)
    (hs2 : starEach [.Call (.Name "zip" p2) [a, b] [] pos2] X.env = (false, eval (.Call (.Name "zip" p2) [a, b] [] pos2) X.env) :: starEach [] X.env := by rfl) :
    PE X (.Call (.Name "tuple" p) [.Call (.Name "zip" p2) [a, b] [] pos2] [] pos) (tCB (rTZ X.K) ta) := by
  refine ⟨fun pins s σ H Q J0 h0 => ?_⟩
  refine Call_ (ld_blt J0 hg hm boot_tuple (PyProof.Rows.callWith_type1 (args_cons (Call_ (ld_blt J0 hg2 hm2 PyProof.Rows.boot_zip (PyProof.Rows.callWith_type1 (thn (ha.run pos2 pins s σ H _ J0 h0) fun us s1 ⟨vs, H1, J, r1, q⟩ => ?_) hs hpl))) hs2) hs2 rfl))
  obtain ⟨l1, l2, xs, ys, rfl, q1, q2, hlen, fin⟩ := q
  cases r1 with
  | cons ra rr =>
    cases rr with
    | cons rb rr =>
      cases rr
      cases ra
      cases rb
      obtain ⟨its, rv, p1, _⟩ := J.list q1
      obtain ⟨its2, rv2, p2', _⟩ := J.list q2
      refine call_zip_2 p1.isList p2'.isList fun h' hz hTI hTO h1 h2 hsz hk => args_nil ?_
      have J1 : Inv X pins σ H1 { s1 with heap := h' } := J.kept (t' := s1.toks) hk
      refine zip_tuple (s := { s1 with heap := h' }) hc (J.ok.hd hc) (PySem.W.ktu_apart s1.heap.objs.size l1 l2 p1.lt p2'.lt) q1 q2 hlen J1 (fun c hcm => ?_) (fun c hcm => ?_) (fun S => ⟨⟨hTI, h1, h2, .inl ⟨hz, _, _, hTO⟩⟩, hz⟩) fun s' H' acc J2 ex G => ?_
      · have hle : s1.heap.objs.size ≤ c := by
          simp at hcm
          rcases hcm with z | z | z | z
          · rw [z]; exact Nat.le_add_right _ _
          · rw [z]; exact Nat.le_add_right _ _
          · rw [z]; exact Nat.le_refl _
          · rw [z]; exact Nat.le_add_right _ _
        exact J.fpOk hle (J.hok.fresh hle)
      · show c < h'.objs.size
        rw [hsz]
        simp at hcm
        rcases hcm with z | z | z | z | z
        · rw [z]; exact Nat.add_lt_add_left (by decide) _
        · rw [z]; exact Nat.add_lt_add_left (by decide) _
        · rw [z]; exact Nat.add_lt_add_left (by decide) _
        · rw [z]; exact Nat.lt_add_of_pos_right (by decide)
        · rw [z]; exact Nat.add_lt_add_left (by decide) _
      · have hr : ∀ v ∈ acc.toList, ∃ T, v = Value.ref T := fun v hv => by
          obtain ⟨j, hj⟩ := List.mem_iff_getElem?.mp hv
          obtain ⟨T, _, _, e, _⟩ := G.2 j v (by simpa using hj)
          exact ⟨T, e⟩
        have hl : (acc.toList.map refV).length = min xs.length ys.length := by rw [List.length_map, Array.length_toList, G.1]
        have hn : H' s'.heap.objs.size = none := J2.hok.fresh (Nat.le_refl _)
        have J3 := J2.laid (t' := s'.toks) (a := s'.heap.objs.size) (o := .tup (acc.toList.map refV)) (h' := s'.heap.push { cls := .type "tuple", data := .seq acc }) (fun c o e => Heap.get?_push_of_some _ e) (Nat.le_refl _)
          ⟨by rw [hl]; omega, acc.toList, vals_refs _ hr, by have := IsTup.new s'.heap acc; simpa using this⟩
        refine ⟨.ref _, _, J3, rfl, fin _ _ _ (fun c o e => ?_) upd_same ⟨hl, fun j v e => ?_⟩⟩
        · rw [upd_ne (ne_of_none (ex c o e) hn)]; exact ex c o e
        · rw [List.getElem?_map] at e
          obtain ⟨u, hu, rfl⟩ := Option.map_eq_some_iff.mp e
          obtain ⟨T, x, y, rfl, e1, e2, e3⟩ := G.2 j u (by simpa using hu)
          exact ⟨T, x, y, rfl, by rw [upd_ne (ne_of_none e1 hn)]; exact e1, e2, e3⟩
def lstD : D → Option (List D)
  | .lst xs => some xs
  | .rol xs => some xs
  | _ => none
theorem RpV.lsts {K : PySem.W.Frag} {H : Hp} {d : D} {v : V} {ds : List D} (h : RpV K H d v) (e : lstD d = some ds) : ∃ a vs, v = .ref a ∧ SqL K H a vs ∧ RpIs K H ds vs := by
  cases d with
  | rol es =>
    simp only [lstD, Option.some.injEq] at e
    subst e
    obtain ⟨a, vs, e1, s, r⟩ := (show ∃ a vs, v = .ref a ∧ SqR K H a vs ∧ RpIs K H es vs by simpa only [RpV, RpI] using h)
    exact ⟨a, vs, e1, s.seq, r⟩
  | lst es =>
    simp only [lstD, Option.some.injEq] at e
    subst e
    obtain ⟨a, vs, e1, s, r⟩ := h
    exact ⟨a, vs, e1, .of s, r⟩
  | _ => simp [lstD] at e
def fTZ : FA := fun ds k => match ds with
  | [x, y] => (match lstD x, lstD y with
    | some xs, some ys => xs.length ≤ 1000000 ∧ k (.tup (zipD xs ys))
    | _, _ => False)
  | _ => False
theorem zipD_get' {xs ys : List D} {j : Nat} {d : D} (h : (zipD xs ys)[j]? = some d) : ∃ x y, xs[j]? = some x ∧ ys[j]? = some y ∧ d = .tup [x, y] := by
  have hj : j < (zipD xs ys).length := (List.getElem?_eq_some_iff.mp h).1
  rw [zipD_len] at hj
  have hx : xs[j]? = some xs[j] := List.getElem?_eq_getElem (by omega)
  have hy : ys[j]? = some ys[j] := List.getElem?_eq_getElem (by omega)
  rw [zipD_get xs ys j _ _ hx hy] at h
  exact ⟨_, _, hx, hy, (Option.some.inj h).symm⟩
theorem cad_tz : CaD X.K (rTZ X.K) fTZ := by
  intro H ds vs k Q r h q
  unfold fTZ at h
  split at h
  · split at h
    · rename_i x y xs ys e1 e2
      obtain ⟨v, w, rfl, r1, r2⟩ := RpVs.two r
      obtain ⟨a1, us, rfl, s1, u1⟩ := r1.lsts e1
      obtain ⟨a2, ws, rfl, s2, u2⟩ := r2.lsts e2
      have l1 := u1.length
      have l2 := u2.length
      refine ⟨a1, a2, us, ws, rfl, s1, s2, by rw [← l1]; exact line_of h.1, fun H' T ts ex hT P => ?_⟩
      refine q _ _ H' h.2 ex ?_ (fun n => by simp [isL] at n)
      show RpI _ _ _ _
      simp only [RpI]
      refine ⟨T, ts, rfl, .inl (.inl hT), RpIs.of_get (by rw [zipD_len, P.1, l1, l2]) fun j d v h1 h2 => ?_⟩
      obtain ⟨x', y', hx, hy, rfl⟩ := zipD_get' h1
      obtain ⟨T', a, b, rfl, g1, g2, g3⟩ := P.2 j v h2
      obtain ⟨a', ga, ra⟩ := u1.get hx
      obtain ⟨b', gb, rb⟩ := u2.get hy
      rw [g2] at ga; cases ga
      rw [g3] at gb; cases gb
      simp only [RpI]
      exact ⟨T', [a, b], rfl, .inl (.inl g1), by simp only [RpIs]; exact ⟨a, [b], rfl, RpI.kp ex.kp _ _ ra, b, [], rfl, RpI.kp ex.kp _ _ rb, rfl⟩⟩
    · exact h.elim
  · exact h.elim
theorem e_tzip {p p2 pos2 : Pos} (hc : X.calm = true) (hm : X.mg "tuple" = none) (hm2 : X.mg "zip" = none) (ha : DE X np He a wa) (hb : DE X np He b wb) (hg : Gl X "tuple" := by rfl) (hg2 : Gl X "zip" := by rfl)
    (hs : starEach [a, b] X.env = (false, eval a X.env) :: starEach [b] X.env := by rfl) (hs' : starEach [b] X.env = (false, eval b X.env) :: starEach [] X.env := by rfl) (hpl : (backTo pos2 (starEach [b] X.env)).any (·.1) = false := by rfl)
    (hs2 : starEach [.Call (.Name "zip" p2) [a, b] [] pos2] X.env = (false, eval (.Call (.Name "zip" p2) [a, b] [] pos2) X.env) :: starEach [] X.env := by rfl) :
    DE X np He (.Call (.Name "tuple" p) [.Call (.Name "zip" p2) [a, b] [] pos2] [] pos) (cBi fTZ (cCons wa (cCons wb cNil))) :=
  PE.weak (pe_tzip hc hm hm2 (a_cons ha (a_cons hb a_nil hs') hs) hg hg2 hs hpl hs2) (bi_core cad_tz)
end
end DL

namespace DL
open PySem PySem.Spec PyProof.Rows L2
/-! ### zip of lists and tuples in any mix -/
def SqG (k : Bool) (K : PySem.W.Frag) (H : Hp) (a : Addr) (xs : List V) : Prop := match k with
  | true => SqT K H a xs
  | false => SqL K H a xs
def ItA (k : Bool) (h : Heap) (it a : Addr) (i : Nat) : Prop := match k with
  | true => h.IsTupleIter it a i
  | false => h.IsListIter it a i
def ArA (k : Bool) (h : Heap) (a : Addr) (its : Array Value) : Prop := match k with
  | true => h.IsTuple a its
  | false => h.IsList a its
theorem draws_any {prog : Program} {w : World} {A : Around} (hh : A.handled = none) (k : Bool) (it a : Addr) (hne : a ≠ it) (its : Array Value) :
    Draws prog w A it [it, a] its.size (fun i v => its[i]? = some v) (fun i h => ItA k h it a i ∧ ArA k h a its) := by
  cases k
  · exact Draws.list hh it a hne its
  · exact Draws.tuple hh it a hne its
section
variable {X : Cx} {pins : List (Addr × Obj)} {σ : L2.St} {H : Hp} {s : Shared}
theorem inv_any (J : Inv X pins σ H s) {k : Bool} {a : Addr} {xs : List V} (h : SqG k X.K H a xs) : ∃ its : List Value, Vals xs its ∧ ArA k s.heap a its.toArray ∧ a < s.heap.objs.size := by
  cases k
  · obtain ⟨its, r, p, _⟩ := J.list h
    exact ⟨its, r, p.isList, p.lt⟩
  · obtain ⟨its, r, p, _⟩ := J.tuple h
    obtain ⟨o, ho, _⟩ := id p
    exact ⟨its, r, p, Heap.lt_size ho⟩
theorem sq_inj (J : Inv X pins σ H s) {k : Bool} {a : Addr} {xs ys : List V} (h : SqG k X.K H a xs) (g : SqG k X.K H a ys) : xs = ys := by
  cases k
  · exact J.list_inj h g
  · exact J.tuple_inj h g
theorem ita_at {k : Bool} {h h' : Heap} {it a : Addr} {i : Nat} (x : ItA k h it a i) (e : ∀ o, h.get? it = some o → h'.get? it = some o) : ItA k h' it a i := by
  cases k
  · exact Heap.IsListIter.at x e
  · exact Heap.IsTupleIter.at x e
theorem ita_obj {k : Bool} {h : Heap} {it a : Addr} {i : Nat} (x : ItA k h it a i) : ∃ o, h.get? it = some o ∧ ∀ v, o.data ≠ .cell v := by
  cases k
  · obtain ⟨o, e, _, d⟩ := x; exact ⟨o, e, fun v q => by rw [d] at q; cases q⟩
  · obtain ⟨o, e, _, d⟩ := x; exact ⟨o, e, fun v q => by rw [d] at q; cases q⟩
end
def ItzG (ka kb : Bool) (K : PySem.W.Frag) (a b : Addr) : It where
  go := fun i H => ∃ (xs ys : List V) (x y : V), SqG ka K H a xs ∧ SqG kb K H b ys ∧ xs[i]? = some x ∧ ys[i]? = some y
  yld := fun i H v H' => ∃ T x y, v = .ref T ∧ H T = none ∧ H' = upd H T (.tup [x, y]) ∧ (∀ xs, SqG ka K H a xs → xs[i]? = some x) ∧ ∀ ys, SqG kb K H b ys → ys[i]? = some y
  stop := fun i H => ∃ xs ys : List V, SqG ka K H a xs ∧ SqG kb K H b ys ∧ ((i = xs.length ∧ i ≤ ys.length) ∨ (i = ys.length ∧ i ≤ xs.length))
theorem sep_of {z TI TO i1 i2 a b : Addr} (D : ZipApart z TI TO i1 i2 a b) : ZipSep2 z TI TO i1 i2 [i1, a] [i2, b] where
  TIz := D.TIz
  TOz := D.TOz
  TITO := D.TITO
  TIi1 := D.TIi1
  mem1 := by simp
  zf1 := by simp [D.i1z.symm, D.l1z.symm]
  Tf1 := by simp [D.TOi1, D.l1TO.symm]
  TIi2 := D.TIi2
  mem2 := by simp
  zf2 := by simp [D.i2z.symm, D.l2z.symm]
  Tf2 := by simp [D.TOi2, D.l2TO.symm]
  sep1_2 := by simp [D.i12, D.l2i1.symm]
  sep2_1 := by simp [D.i12.symm, D.l1i2.symm]
theorem turn_any {P : Program} {w : World} {K : PySem.W.Frag} {elts : List Expr} {kk : Nat} {tpos : Pos} {ka kb : Bool} {a b z TI TO i1 i2 : Addr} (D : ZipApart z TI TO i1 i2 a b) :
    Turn P w K (.Tuple elts kk tpos) (ItzG ka kb K a b) [z, TI, TO, i1, i2] z (fun i h => IsZip h z TI TO .none ∧ IsPair h TI (.ref i1) (.ref i2) ∧ (∃ x y, IsPair h TO x y) ∧ ItA ka h i1 a i ∧ ItA kb h i2 b i) where
  mem := List.mem_cons_self
  obj := fun i h ⟨hz, hTI, ⟨x, y, hTO⟩, h1, h2⟩ c hc => by
    simp only [List.mem_cons, List.not_mem_nil, or_false] at hc
    rcases hc with q | q | q | q | q <;> subst q
    · exact ⟨_, hz, fun v q => nomatch q⟩
    · exact ⟨_, hTI, fun v q => nomatch q⟩
    · exact ⟨_, hTO, fun v q => nomatch q⟩
    · exact ita_obj h1
    · exact ita_obj h2
  keep := fun i h h' ⟨hz, hTI, ⟨x, y, hTO⟩, h1, h2⟩ k => ⟨k z (by simp) _ hz, k TI (by simp) _ hTI, ⟨x, y, k TO (by simp) _ hTO⟩, ita_at h1 fun o q => k i1 (by simp) o q, ita_at h2 fun o q => k i2 (by simp) o q⟩
  item := by
    rintro X rfl rfl rfl hc i pins s σ H E J hf ⟨hz, hTI, ⟨x0, y0, hTO⟩, h1, h2⟩ ⟨xs, ys, x, y, q1, q2, hx, hy⟩
    obtain ⟨us, ru, p1, _⟩ := inv_any J q1
    obtain ⟨vs, rv, p2, _⟩ := inv_any J q2
    obtain ⟨u, hu, rx⟩ := ru.get hx
    obtain ⟨v, hv, ry⟩ := rv.get hy
    have S := sep_of D
    have lu : i < us.toArray.size := by rw [List.size_toArray]; exact (List.getElem?_eq_some_iff.mp hu).1
    have lv : i < vs.toArray.size := by rw [List.size_toArray]; exact (List.getElem?_eq_some_iff.mp hv).1
    have hzl : z < s.heap.objs.size := Heap.lt_size hz
    refine wpAny_pyNext_zipD2_item S (draws_any (A := X.A.in1) (J.ok.hd hc) ka i1 a D.l1i1 us.toArray) (draws_any (A := X.A.in1) (J.ok.hd hc) kb i2 b D.l2i2 vs.toArray) hz hTI hTO ⟨h1, p1⟩ ⟨h2, p2⟩ lu lv fun u' v' h' tk e1 e2 z' TO' st1 st2 hT hsz hk => ?_
    obtain rfl : u' = u := by rw [List.getElem?_toArray, hu] at e1; exact (Option.some.inj e1).symm
    obtain rfl : v' = v := by rw [List.getElem?_toArray, hv] at e2; exact (Option.some.inj e2).symm
    refine ⟨_, rfl, wpAny_letOwnedTupleGo_zip (s := { s with heap := h', toks := tk }) z' fun h'' z'' sb => ?_⟩
    have hT2 : h''.get? s.heap.objs.size = some { cls := .type "tuple", data := .seq #[u', v'] } := (sb.2 _ (Nat.ne_of_gt hzl)).trans hT
    have new : ObjOk X.prog X.w (upd H s.heap.objs.size (.tup [x, y])) h'' s.heap.objs.size (.tup [x, y]) := ⟨by show 2 ≤ sizeLine; decide, [u', v'], .cons rx (.cons ry .nil), ⟨_, hT2, rfl, _, rfl⟩⟩
    have kp : ∀ c o, c ∉ [z, TI, TO, i1, i2] → s.heap.get? c = some o → h''.get? c = some o := fun c o hb q => by
      simp only [List.mem_cons, List.not_mem_nil, or_false, not_or] at hb
      exact (sb.2 c hb.1).trans (hk c o hb.1 hb.2.2.1 hb.2.2.2.1 hb.2.2.2.2 q)
    have J1 : Inv X pins σ (upd H s.heap.objs.size (.tup [x, y])) { s with heap := h'', toks := tk } := J.turnedNew (t' := tk) (ch := [z, TI, TO, i1, i2]) kp hf (Nat.le_refl _) new
    refine ⟨.ref s.heap.objs.size, _, J1, rfl, ⟨_, x, y, rfl, J.hok.fresh (Nat.le_refl _), rfl, fun l hl => by rw [sq_inj J hl q1]; exact hx, fun l hl => by rw [sq_inj J hl q2]; exact hy⟩,
      ⟨z'', (sb.2 _ D.TIz).trans (hk _ _ D.TIz D.TITO D.TIi1 D.TIi2 hTI), ⟨u', v', (sb.2 _ D.TOz).trans TO'⟩, ita_at st1.1 fun o q => (sb.2 _ D.i1z).trans q, ita_at st2.1 fun o q => (sb.2 _ D.i2z).trans q⟩, fun c hc2 => ?_⟩
    have hlt : c < s.heap.objs.size := by
      simp only [List.mem_cons, List.not_mem_nil, or_false] at hc2
      rcases hc2 with q | q | q | q | q <;> subst q
      · exact hzl
      · exact Heap.lt_size hTI
      · exact Heap.lt_size hTO
      · obtain ⟨_, e, _⟩ := ita_obj h1; exact Heap.lt_size e
      · obtain ⟨_, e, _⟩ := ita_obj h2; exact Heap.lt_size e
    rw [upd_ne (Nat.ne_of_lt hlt)]
    exact (hf c hc2).1
  done := by
    rintro X rfl rfl rfl hc i pins s σ H E J hf ⟨hz, hTI, ⟨x0, y0, hTO⟩, h1, h2⟩ ⟨xs, ys, q1, q2, hend⟩
    obtain ⟨us, ru, p1, _⟩ := inv_any J q1
    obtain ⟨vs, rv, p2, _⟩ := inv_any J q2
    have e1 := ru.length
    have e2 := rv.length
    refine wpAny_pyNext_zipD2_end (sep_of D) (draws_any (A := X.A.in1) (J.ok.hd hc) ka i1 a D.l1i1 us.toArray) (draws_any (A := X.A.in1) (J.ok.hd hc) kb i2 b D.l2i2 vs.toArray) hz hTI hTO ⟨h1, p1⟩ ⟨h2, p2⟩ (by simp only [List.size_toArray]; omega) (by simp only [List.size_toArray]; omega) (by simp only [List.size_toArray]; omega) fun h' tk hk => ⟨rfl, ?_⟩
    exact J.turnedL (t' := tk) (ch := [z, TI, TO, i1, i2]) (fun c o hb q => by
      simp only [List.mem_cons, List.not_mem_nil, or_false, not_or] at hb
      exact hk c o hb.1 hb.2.2.1 hb.2.2.2.1 hb.2.2.2.2 q) hf
  self := fun A i s Q E st h => wpAny_pyIter_zip st.1 h
theorem begins_any (k : Bool) (a : Addr) (its : Array Value) : ∃ o, Begins (.ref a) o (fun h => ArA k h a its) ∧ ∀ (h : Heap) (it : Addr), h.get? it = some o → ItA k h it a 0 := by
  cases k
  · exact ⟨_, begins_list a its, fun h it e => ⟨_, e, rfl, rfl⟩⟩
  · exact ⟨_, begins_tuple a its, fun h it e => ⟨_, e, rfl, rfl⟩⟩
def iZipG (K : PySem.W.Frag) (ta : TA) : L2.TI := fun σ H R => ta σ H fun vs H1 => ∃ a b xs ys ka kb, vs = [.ref a, .ref b] ∧ SqG ka K H1 a xs ∧ SqG kb K H1 b ys ∧ R (ItzG ka kb K a b) H1
theorem pi_zipG {X : Cx} {e e2 : Expr} {ta : TA} {p pos tpos : Pos} {elts : List Expr} {kk : Nat} (hg : Gl X "zip") (hm : X.mg "zip" = none) (ha : PA X [e, e2] ta)
    (hs : starEach [e, e2] X.env = (false, eval e X.env) :: starEach [e2] X.env := by rfl) (hpl : (backTo pos (starEach [e2] X.env)).any (·.1) = false := by rfl) :
    PI X (.Tuple elts kk tpos) (.Call (.Name "zip" p) [e, e2] [] pos) (iZipG X.K ta) := by
  refine ⟨fun pins s σ H R J h => ?_⟩
  refine Call_ (ld_blt J hg hm PyProof.Rows.boot_zip (PyProof.Rows.callWith_type1 (thn (ha.run pos pins s σ H _ J h) fun us s1 ⟨vs, H1, J1, r1, q⟩ => ?_) hs hpl))
  obtain ⟨a, b, xs, ys, ka, kb, rfl, q1, q2, fin⟩ := q
  cases r1 with
  | cons ra rr =>
    cases rr with
    | cons rb rr =>
      cases rr
      cases ra
      cases rb
      obtain ⟨us, ru, p1, l1⟩ := inv_any J1 q1
      obtain ⟨vs, rv, p2, l2⟩ := inv_any J1 q2
      obtain ⟨o1, B1, f1⟩ := begins_any ka a us.toArray
      obtain ⟨o2, B2, f2⟩ := begins_any kb b vs.toArray
      refine zip_begins2 B1 B2 p1 p2 fun h' hz hTI hTO g1 g2 hsz hk => wpAny_pyIter_zip hz ?_
      have J2 : Inv X pins σ H1 { s1 with heap := h' } := J1.kept (t' := s1.toks) hk
      refine ⟨s1.heap.objs.size + 4, [s1.heap.objs.size + 4, s1.heap.objs.size + 2, s1.heap.objs.size + 3, s1.heap.objs.size, s1.heap.objs.size + 1], _, _, H1, rfl, J2, turn_any (PySem.W.ktu_apart s1.heap.objs.size a b l1 l2), ⟨hz, hTI, ⟨_, _, hTO⟩, f1 _ _ g1, f2 _ _ g2⟩, fun c hcm => ?_, fin⟩
      have hle : s1.heap.objs.size ≤ c := by
        simp only [List.mem_cons, List.not_mem_nil, or_false] at hcm
        rcases hcm with z | z | z | z | z
        · rw [z]; exact Nat.le_add_right _ _
        · rw [z]; exact Nat.le_add_right _ _
        · rw [z]; exact Nat.le_add_right _ _
        · rw [z]; exact Nat.le_refl _
        · rw [z]; exact Nat.le_add_right _ _
      exact J1.fpOk hle (J1.hok.fresh hle)
theorem walk_any {ka kb : Bool} {K : PySem.W.Frag} {a b : Addr} {xs ys : List D} : Walk (ItzG ka kb K a b) (zipD xs ys).length (fun H => (∃ vs, SqG ka K H a vs ∧ RpIs K H xs vs) ∧ ∃ vs, SqG kb K H b vs ∧ RpIs K H ys vs)
    (fun i H v H' => Ext H H' ∧ ∃ d, (zipD xs ys)[i]? = some d ∧ RpI K H' d v) := by
  rw [zipD_len]
  refine ⟨fun i H hi ⟨⟨vs, s, r⟩, us, s2, r2⟩ => ?_, fun H ⟨⟨vs, s, r⟩, us, s2, r2⟩ => ⟨vs, us, s, s2, by rw [← r.length, ← r2.length]; omega⟩, fun i H v H' hi ⟨⟨vs, s, r⟩, us, s2, r2⟩ y => ?_⟩
  · obtain ⟨v, e, _⟩ := r.get (List.getElem?_eq_getElem (show i < xs.length by omega))
    obtain ⟨u, e2, _⟩ := r2.get (List.getElem?_eq_getElem (show i < ys.length by omega))
    exact ⟨vs, us, v, u, s, s2, e, e2⟩
  · obtain ⟨T, x, z, rfl, hT, rfl, h4, h5⟩ := y
    obtain ⟨d1, e1, r1⟩ := r.get' (h4 vs s)
    obtain ⟨d2, e2, r2'⟩ := r2.get' (h5 us s2)
    have ex : Ext H (upd H T (.tup [x, z])) := .new hT
    refine ⟨ex, _, zipD_get xs ys i d1 d2 e1 e2, ?_⟩
    simp only [RpI, RpIs]
    exact ⟨T, _, rfl, .inl (.inl upd_same), x, _, rfl, RpI.kp ex.kp _ _ r1, z, _, rfl, RpI.kp ex.kp _ _ r2', rfl⟩
theorem src_any {K : PySem.W.Frag} {np : Nat} {He : Hp} {σ : L2.St} {H H1 : Hp} {env e1 : DEnv} {v : V} {r : RV} {k : List D → List (Nat × List D) → Prop} (R : Rep K np He σ H env) (s1 : SE K np He σ H env H1 e1) (h : RpR K σ H H1 e1 v r) (g : srcR e1 r k) :
    ∃ ds chk a kd, k ds chk ∧ v = .ref a ∧ (∀ p ∈ chk, e1[p.1]? = some (some (D.lst p.2))) ∧ ∀ H' : Hp, Stay K np He σ H1 e1 chk H' → ∃ vs, SqG kd K H' a vs ∧ RpIs K H' ds vs := by
  obtain ⟨ds, chk, a, h1, h2, h3, h4⟩ := src_at R s1 h g
  rcases h4 with h4 | h4
  · exact ⟨ds, chk, a, false, h1, h2, h3, h4⟩
  · exact ⟨ds, chk, a, true, h1, h2, h3, h4⟩
section
variable {X : Cx} {np : Nat} {He : Hp} {a b : Expr} {wa wb : W} {pos : Pos}
def iZG (wa wb : W) : WI := fun env Q => wa env fun ra e1 => wb e1 fun rb e2 => srcR e2 ra fun xs c1 => srcR e2 rb fun ys c2 => Q ⟨zipD xs ys, c1 ++ c2⟩ e2
theorem i_zipG {elts : List Expr} {kk : Nat} {tpos p : Pos} (hm : X.mg "zip" = none) (ha : DE X np He a wa) (hb : DE X np He b wb) (hg : Gl X "zip" := by rfl) (hs : starEach [a, b] X.env = (false, eval a X.env) :: starEach [b] X.env := by rfl) (hs2 : starEach [b] X.env = (false, eval b X.env) :: starEach [] X.env := by rfl) (hpl : (backTo pos (starEach [b] X.env)).any (·.1) = false := by rfl) :
    DI X np He (.Tuple elts kk tpos) (.Call (.Name "zip" p) [a, b] [] pos) (iZG wa wb) := by
  refine PI.weak (pi_zipG hg hm (pa_cons ha (pa_cons hb pa_nil hs2) hs) hs hpl) fun σ H R ⟨env, Q0, Rp, w, q⟩ => ⟨env, _, Rp, w, fun ra e1 v1 H1 w1 s1 r1 => ⟨e1, _, s1.rep, w1, fun rb e2 v2 H2 w2 s2 r2 => ?_⟩⟩
  have s12 := s1.trans s2
  obtain ⟨xs, c1, a1, ka, w2, rfl, hc1, st1⟩ := src_any Rp s12 (r1.keep Rp s1 s2) w2
  obtain ⟨ys, c2, a2, kb, w2, rfl, hc2, st2⟩ := src_any Rp s12 (r2.start s1) w2
  obtain ⟨vs, sv, _⟩ := st1 H2 (Stay.here s12.rep hc1)
  obtain ⟨us, su, _⟩ := st2 H2 (Stay.here s12.rep hc2)
  refine ⟨a1, a2, vs, us, ka, kb, rfl, sv, su, q ⟨zipD xs ys, c1 ++ c2⟩ e2 H2 _ _ _ w2 s12 walk_any (fun p hp => ?_) (fun i H3 x H4 hi y _ => y) (fun H' st => ?_)⟩
  · rcases List.mem_append.mp hp with z | z
    · exact hc1 p z
    · exact hc2 p z
  · exact ⟨st1 H' (st.sub fun p z => List.mem_append_left _ z), st2 H' (st.sub fun p z => List.mem_append_right _ z)⟩
end
end DL

namespace DL
open PySem PySem.Spec PyProof.Rows L2
/-! ### == and != of data at any depth -/
mutual
def toP : D → PyData
  | .non => .none
  | .bl b => .bool b
  | .int i => .int i
  | .str x => .str x
  | .tup ds => .tuple (toPs ds)
  | .lst ds => .list (toPs ds)
  | .rol ds => .list (toPs ds)
def toPs : List D → List PyData
  | [] => []
  | d :: ds => toP d :: toPs ds
end
mutual
theorem RpI.dp {K : PySem.W.Frag} {H : Hp} : ∀ (d : D) (v : V), RpI K H d v → Dp K H v (toP d)
  | .non, v, h => by cases h; exact .non
  | .bl b, v, h => by cases h; exact .bl b
  | .int i, v, h => by cases h; exact .int i
  | .str x, v, h => by cases h; exact .str x
  | .tup ds, v, h => by
    simp only [RpI] at h
    obtain ⟨a, vs, rfl, s, r⟩ := h
    exact .tup s (RpIs.dp ds vs r)
  | .rol ds, v, h => by
    simp only [RpI] at h
    obtain ⟨a, vs, rfl, s, r⟩ := h
    exact .lst s.seq (RpIs.dp ds vs r)
  | .lst ds, v, h => by simp only [RpI] at h
theorem RpIs.dp {K : PySem.W.Frag} {H : Hp} : ∀ (ds : List D) (vs : List V), RpIs K H ds vs → DpAll K H vs (toPs ds)
  | [], vs, h => by simp only [RpIs] at h; subst h; exact .nil
  | d :: ds, vs, h => by
    simp only [RpIs] at h
    obtain ⟨v, r, rfl, h1, h2⟩ := h
    exact .cons (RpI.dp d v h1) (RpIs.dp ds r h2)
end
theorem RpV.dp {K : PySem.W.Frag} {H : Hp} {d : D} {v : V} (h : RpV K H d v) : Dp K H v (toP d) := by
  cases d with
  | lst ds =>
    obtain ⟨a, vs, rfl, e, r⟩ := h
    exact .lst (.of e) (RpIs.dp ds vs r)
  | _ => exact RpI.dp _ v (h.imm rfl)
def fEqD : F2 := fun x y k => SeqAt.shaped (toP x) = true ∧ SeqAt.shaped (toP y) = true ∧ k (.bl (PyData.eqv (toP x) (toP y)))
def fNeD : F2 := fun x y k => SeqAt.shaped (toP x) = true ∧ SeqAt.shaped (toP y) = true ∧ k (.bl (!PyData.eqv (toP x) (toP y)))
section
variable {X : Cx} {np : Nat} {He : Hp} {a b : Expr} {wa wb : W} {pos : Pos}
theorem opd_eqD : OpD X.K (rEqD X.K) fEqD := fun H x y v w k Q rx ry h q => ⟨_, _, rx.dp, ry.dp, h.1, h.2.1, q _ _ H h.2.2 (.refl H) rfl (fun n => by simp [isL] at n)⟩
theorem opd_neD : OpD X.K (rNeD X.K) fNeD := fun H x y v w k Q rx ry h q => ⟨_, _, rx.dp, ry.dp, h.1, h.2.1, q _ _ H h.2.2 (.refl H) rfl (fun n => by simp [isL] at n)⟩
variable (hu : X.A.units + 64 < cLine) (ha : DE X np He a wa) (hb : DE X np He b wb)
include hu ha hb
theorem e_eqD : DE X np He (.Compare a [.Eq] [b] pos) (cOp fEqD wa wb) := e_cmp (op_eqD hu) opd_eqD ha hb (nomark _)
theorem e_neD : DE X np He (.Compare a [.NotEq] [b] pos) (cOp fNeD wa wb) := e_cmp (op_neD hu) opd_neD ha hb (nomark _)
theorem t_eqD : DT X np He (.Compare a [.Eq] [b] pos) (cOp fEqD wa wb) := t_cmp (op_eqD hu) opd_eqD ha hb (nomark _)
theorem t_neD : DT X np He (.Compare a [.NotEq] [b] pos) (cOp fNeD wa wb) := t_cmp (op_neD hu) opd_neD ha hb (nomark _)
end
/-! ### trees of ints and None -/
mutual
def intT : Nat → D → Bool
  | _, .non => true
  | _, .int _ => true
  | n + 1, .tup ds => intTs n ds
  | _, _ => false
def intTs : Nat → List D → Bool
  | _, [] => true
  | n, d :: ds => intT n d && intTs n ds
end
mutual
theorem lay_int : ∀ (n : Nat) (d : D), intT n d = true → (toP d).canLay0 = true ∧ (toP d).depth ≤ n
  | n, .non, _ => ⟨by simp [toP, PyData.canLay0], by simp [toP, PyData.depth]⟩
  | n, .int _, _ => ⟨by simp [toP, PyData.canLay0], by simp [toP, PyData.depth]⟩
  | 0, .tup ds, h => by simp [intT] at h
  | n + 1, .tup ds, h => by
    obtain ⟨h1, h2⟩ := lays_int n ds (by simpa only [intT] using h)
    exact ⟨by simpa only [toP, PyData.canLay0] using h1, by simp only [toP, PyData.depth]; omega⟩
  | n, .bl _, h => by cases n <;> simp [intT] at h
  | n, .str _, h => by cases n <;> simp [intT] at h
  | n, .lst _, h => by cases n <;> simp [intT] at h
  | n, .rol _, h => by cases n <;> simp [intT] at h
theorem lays_int : ∀ (n : Nat) (ds : List D), intTs n ds = true → PyData.canLayAll0 (toPs ds) = true ∧ PyData.depthAll (toPs ds) ≤ n
  | n, [], _ => ⟨by simp [toPs, PyData.canLayAll0], by simp [toPs, PyData.depthAll]⟩
  | n, d :: ds, h => by
    simp only [intTs, Bool.and_eq_true] at h
    obtain ⟨h1, h2⟩ := lay_int n d h.1
    obtain ⟨h3, h4⟩ := lays_int n ds h.2
    exact ⟨by simp only [toPs, PyData.canLayAll0, h1, h3, Bool.and_self], by simp only [toPs, PyData.depthAll]; omega⟩
end
theorem shaped_int {n : Nat} {d : D} (hn : n ≤ 64) (h : intT n d = true) : SeqAt.shaped (toP d) = true := by
  obtain ⟨h1, h2⟩ := lay_int n d h
  unfold SeqAt.shaped
  rw [h1, decide_eq_true (Nat.le_trans h2 hn)]
  rfl
mutual
theorem eqv_int : ∀ (n : Nat) (d e : D), intT n d = true → intT n e = true → (PyData.eqv (toP d) (toP e) = true ↔ d = e)
  | n, .non, .non, _, _ => by simp [toP, PyData.eqv]
  | n, .non, .int _, _, _ => by simp [toP, PyData.eqv]
  | n, .non, .tup _, _, _ => by simp [toP, PyData.eqv]
  | n, .int _, .non, _, _ => by simp [toP, PyData.eqv]
  | n, .int _, .int _, _, _ => by simp [toP, PyData.eqv]
  | n, .int _, .tup _, _, _ => by simp [toP, PyData.eqv]
  | n, .tup _, .non, _, _ => by simp [toP, PyData.eqv]
  | n, .tup _, .int _, _, _ => by simp [toP, PyData.eqv]
  | 0, .tup _, .tup _, h, _ => by simp [intT] at h
  | n + 1, .tup ds, .tup es, h, g => by
    have := eqvs_int n ds es (by simpa only [intT] using h) (by simpa only [intT] using g)
    simp only [toP, PyData.eqv, this, D.tup.injEq]
  | n, .bl _, _, h, _ => by cases n <;> simp [intT] at h
  | n, .str _, _, h, _ => by cases n <;> simp [intT] at h
  | n, .lst _, _, h, _ => by cases n <;> simp [intT] at h
  | n, .rol _, _, h, _ => by cases n <;> simp [intT] at h
  | n, _, .bl _, _, h => by cases n <;> simp [intT] at h
  | n, _, .str _, _, h => by cases n <;> simp [intT] at h
  | n, _, .lst _, _, h => by cases n <;> simp [intT] at h
  | n, _, .rol _, _, h => by cases n <;> simp [intT] at h
theorem eqvs_int : ∀ (n : Nat) (ds es : List D), intTs n ds = true → intTs n es = true → (PyData.eqvAll (toPs ds) (toPs es) = true ↔ ds = es)
  | n, [], [], _, _ => by simp [toPs, PyData.eqvAll]
  | n, [], _ :: _, _, _ => by simp [toPs, PyData.eqvAll]
  | n, _ :: _, [], _, _ => by simp [toPs, PyData.eqvAll]
  | n, d :: ds, e :: es, h, g => by
    simp only [intTs, Bool.and_eq_true] at h g
    simp only [toPs, PyData.eqvAll, Bool.and_eq_true, eqv_int n d e h.1 g.1, eqvs_int n ds es h.2 g.2, List.cons.injEq]
end
theorem eqv_false {n : Nat} {d e : D} (h : intT n d = true) (g : intT n e = true) (ne : d ≠ e) : PyData.eqv (toP d) (toP e) = false := by
  cases q : PyData.eqv (toP d) (toP e) with
  | false => rfl
  | true => exact absurd ((eqv_int n d e h g).mp q) ne
end DL

namespace DL
open PySem PySem.Spec PyProof.Rows L2
/-! ### sorted: lists of triples of ints, of any length -/
abbrev T3 := Int × Int × Int
def lt3 (p q : T3) : Bool := if p.1 = q.1 then (if p.2.1 = q.2.1 then decide (p.2.2 < q.2.2) else decide (p.2.1 < q.2.1)) else decide (p.1 < q.1)
theorem lt3_iff {p q : T3} : lt3 p q = true ↔ p.1 < q.1 ∨ (p.1 = q.1 ∧ (p.2.1 < q.2.1 ∨ (p.2.1 = q.2.1 ∧ p.2.2 < q.2.2))) := by
  unfold lt3
  by_cases e : p.1 = q.1
  · by_cases e2 : p.2.1 = q.2.1
    · rw [if_pos e, if_pos e2, decide_eq_true_eq]; omega
    · rw [if_pos e, if_neg e2, decide_eq_true_eq]; omega
  · rw [if_neg e, decide_eq_true_eq]; omega
theorem lt3_no {p q : T3} : lt3 p q = false ↔ ¬ (p.1 < q.1 ∨ (p.1 = q.1 ∧ (p.2.1 < q.2.1 ∨ (p.2.1 = q.2.1 ∧ p.2.2 < q.2.2)))) := by
  rw [← lt3_iff]
  cases lt3 p q <;> simp
theorem swo3 {α : Type} (k : α → T3) : SrtO.Swo fun v u => lt3 (k v) (k u) := by
  refine ⟨fun x y h => lt3_no.mpr ?_, fun x y z h1 h2 => lt3_no.mpr ?_⟩
  · have a := lt3_iff.mp h
    omega
  · have a := lt3_no.mp h1
    have b := lt3_no.mp h2
    omega
def IsT3 (h : Heap) (v : Value) (q : T3) : Prop := ∃ a o t u w n, v = .ref a ∧ h.get? a = some o ∧ o.cls = .type "tuple" ∧ o.data = .seq #[.int q.1 t, .int q.2.1 u, .int q.2.2 w] n
theorem IsT3.on {h h' : Heap} {v : Value} {q : T3} (x : IsT3 h v q) (k : ∀ b o, h.get? b = some o → o.cls = .type "tuple" → h'.get? b = some o) : IsT3 h' v q := by
  obtain ⟨a, o, t, u, w, n, e, ho, hc, hd⟩ := x
  exact ⟨a, o, t, u, w, n, e, k a o ho hc, hc, hd⟩
section
variable {prog : Program} {w : World} {A : Around} {E : Value → Shared → Prop} {s : Shared}
theorem cmp3 {vs : List Value} {k : Value → T3} (hp : ∀ v ∈ vs, IsT3 s.heap v (k v)) : SrtO.Cmp prog w A s (tuples' true) (fun p => p.1 ∈ vs) (SrtO.lt2 fun v u => lt3 (k v) (k u)) := by
  intro p q hm hm'
  have h1 := hp _ hm
  have h2 := hp _ hm'
  show wpAny (model prog w) A (keyLt' (tuples' true) p.1 q.1) (fun r s' => s' = s ∧ r = lt3 (k p.1) (k q.1)) (fun _ _ => False) s
  unfold lt3
  generalize (k p.1) = x at h1 ⊢
  generalize (k q.1) = y at h2 ⊢
  obtain ⟨x1, x2, x3⟩ := x
  obtain ⟨y1, y2, y3⟩ := y
  obtain ⟨a, o, t1, t2, t3, n, e, ho, hc, hd⟩ := h1
  obtain ⟨b, o', u1, u2, u3, n', e', ho', hc', hd'⟩ := h2
  rw [e, e']
  refine PySem.W.kat_lt ho hd ho' hd' ?_
  show PySem.W.KatLex prog w A true (decide (3 < 3)) _ [(.int x1 t1, .int y1 u1), (.int x2 t2, .int y2 u2), (.int x3 t3, .int y3 u3)] 0 s
  refine PySem.W.kat_cons (SeqAt.EqAt.int_int x1 t1 y1 u1 prog w _ _ (PySem.W.kat_go (fun c1 => ?_) (fun c1 => ?_)))
  · have d1 : x1 = y1 := by simpa using c1
    refine PySem.W.kat_yes (PySem.W.kat_cons (SeqAt.EqAt.int_int x2 t2 y2 u2 prog w _ _ (PySem.W.kat_go (fun c2 => ?_) (fun c2 => ?_))))
    · have d2 : x2 = y2 := by simpa using c2
      refine PySem.W.kat_yes (PySem.W.kat_cons (SeqAt.EqAt.int_int x3 t3 y3 u3 prog w _ _ (PySem.W.kat_go (fun c3 => ?_) (fun c3 => ?_))))
      · have d3 : x3 = y3 := by simpa using c3
        refine PySem.W.kat_yes (PySem.W.kat_nil ⟨rfl, ?_⟩)
        simp [d1, d2, d3]
      · exact PySem.W.kat_no (TS.oneLt_ints _ ⟨rfl, by simp [d1, d2]⟩)
    · have d2 : ¬ x2 = y2 := by simpa using c2
      exact PySem.W.kat_no (TS.oneLt_ints _ ⟨rfl, by simp [d1, d2]⟩)
  · have d1 : ¬ x1 = y1 := by simpa using c1
    exact PySem.W.kat_no (TS.oneLt_ints _ ⟨rfl, by simp [d1]⟩)
theorem heads3 {h : Heap} : ∀ {vs : List Value}, (∀ v ∈ vs, ∃ q, IsT3 h v q) → ∃ fs : List Value, PySem.W.KatTups h vs fs ∧ fs.length = vs.length ∧ ∀ f ∈ fs, ∃ x t, f = Value.int x t
  | [], _ => ⟨[], PySem.W.KatTups.nil, rfl, fun _ hm => nomatch hm⟩
  | v :: vs, hp => by
    obtain ⟨fs, g1, g2, g3⟩ := heads3 (vs := vs) fun v' hm => hp v' (List.mem_cons_of_mem _ hm)
    obtain ⟨q, a, o, t, u, w, n, rfl, ho, hc, hd⟩ := hp v List.mem_cons_self
    refine ⟨.int q.1 t :: fs, PySem.W.KatTups.cons ho hc hd rfl g1, congrArg (· + 1) g2, fun f hm => ?_⟩
    rcases List.mem_cons.mp hm with rfl | hm
    · exact ⟨_, t, rfl⟩
    · exact g3 f hm
theorem sortable3 {a : Addr} {vs : List Value} {k : Value → T3} (h0 : 0 < vs.length) (hp : ∀ v ∈ vs, IsT3 s.heap v (k v)) (ha : ∀ o, s.heap.get? a = some o → o.cls ≠ .type "tuple") : SrtO.SortableO prog w A s a vs fun v u => lt3 (k v) (k u) := by
  intro h' kp
  have hp' : ∀ v ∈ vs, IsT3 h' v (k v) := fun v hm => (hp v hm).on fun b o e c => kp b o (fun z => ha o (z ▸ e) c) e
  obtain ⟨fs, g1, g2, g3⟩ := heads3 fun v hm => ⟨_, hp' v hm⟩
  refine ⟨tuples' true, fun Q E hq => PySem.W.kat_kind (T := .type "int") g1 (by omega) (fun f hm => ?_) (by rfl) ?_, cmp3 hp'⟩
  · obtain ⟨x, t, rfl⟩ := g3 f hm
    exact PySem.W.Looks.now
  · have e : (Value.type "int" != Value.type "tuple") = true := by decide
    rw [e]
    exact hq
theorem sorted3 {l : Addr} {vs : List Value} {k : Value → T3} {Q : Value → Shared → Prop} (hl : s.heap.IsList l vs.toArray) (hz : vs.length ≤ sizeLine) (hp : ∀ v ∈ vs, IsT3 s.heap v (k v))
    (h : ∀ (h' : Heap) (d : Addr) (out : List Value), SrtO.Srtd (fun v u => lt3 (k v) (k u)) out → out.Perm vs → (∀ b o, s.heap.get? b = some o → h'.get? b = some o) → s.heap.objs.size ≤ d → (∃ n, h'.get? d = some (seqObj "list" out.toArray n)) → Q (.ref d) { s with heap := h' }) :
    wpAny (model prog w) A (call (.builtin "sorted") [.ref l]) Q E s := by
  refine SrtO.sorted_ord (swo3 k) hl hz (fun h2 h₁ a ha kk => ?_) fun out g1 g2 => ?_
  · refine sortable3 (s := { s with heap := h₁ }) (by omega) (fun v hm => (hp v hm).on fun b o e _ => (kk b o e).2) fun o e => ?_
    have e' : some o = some (seqObj "list" vs.toArray 0) := e.symm.trans ha
    cases e'
    intro c
    exact absurd (Value.type.inj c) (by decide)
  · exact h _ _ out g1 g2.perm (fun b o e => sortedAll_old e) (Nat.le_succ _) (sortedAll_at s.heap vs out.toArray)
end
theorem IsT3.inj {h : Heap} {v : Value} {q r : T3} (x : IsT3 h v q) (y : IsT3 h v r) : q = r := by
  obtain ⟨a, o, t, u, w, n, e, ho, hc, hd⟩ := x
  obtain ⟨a', o', t', u', w', n', e', ho', hc', hd'⟩ := y
  rw [e] at e'
  cases e'
  rw [ho] at ho'
  cases ho'
  rw [hd] at hd'
  obtain ⟨q1, q2, q3⟩ := q
  obtain ⟨r1, r2, r3⟩ := r
  simp at hd'
  obtain ⟨⟨⟨h1, _⟩, ⟨h2, _⟩, h3, _⟩, _⟩ := hd'
  rw [h1, h2, h3]
open Classical in
noncomputable def key3 (h : Heap) (v : Value) : T3 := if x : ∃ q, IsT3 h v q then x.choose else (0, 0, 0)
theorem key3_of {h : Heap} {v : Value} {q : T3} (x : IsT3 h v q) : key3 h v = q := by
  have e : ∃ q, IsT3 h v q := ⟨q, x⟩
  unfold key3
  rw [dif_pos e]
  exact e.choose_spec.inj x
def Trp (K : PySem.W.Frag) (H : Hp) (x : V) (q : T3) : Prop := ∃ t, x = V.ref t ∧ SqT K H t [.int q.1, .int q.2.1, .int q.2.2]
def rSorted3 (K : PySem.W.Frag) : List V → Hp → VK → Prop := fun vs H Q => ∃ (a : Addr) (xs : List V) (ks : List T3), vs = [.ref a] ∧ SqL K H a xs ∧ xs.length = ks.length ∧ (∀ (j : Nat) (x : V) (q : T3), xs[j]? = some x → ks[j]? = some q → Trp K H x q) ∧
  ∀ (zs : List (V × T3)) (p : Addr), zs.Perm (xs.zip ks) → (zs.map (·.2)).Pairwise (fun a b => lt3 b a = false) → H p = none → Q (.ref p) (upd H p (.lst (zs.map (·.1))))
section
variable {X : Cx}
theorem Trp.at {pins : List (Addr × Obj)} {σ : L2.St} {H : Hp} {s : Shared} (J : Inv X pins σ H s) {x : V} {u : Value} {q : T3} (t : Trp X.K H x q) (r : RelV x u) : IsT3 s.heap u q := by
  obtain ⟨a, rfl, h⟩ := t
  obtain rfl : u = Value.ref a := r
  obtain ⟨its, rv, ⟨o, ho, hc, n, hd⟩, _⟩ := J.tuple h
  cases rv with
  | cons r1 rr =>
    cases rr with
    | cons r2 rr =>
      cases rr with
      | cons r3 rr =>
        cases rr
        obtain ⟨t1, rfl⟩ := r1
        obtain ⟨t2, rfl⟩ := r2
        obtain ⟨t3, rfl⟩ := r3
        exact ⟨a, o, t1, t2, t3, n, rfl, ho, hc, hd⟩
theorem cr_sorted3 : CallR X (.builtin "sorted") (rSorted3 X.K) := by
  intro pins s σ H vs us Q J r h
  obtain ⟨a, xs, ks, rfl, hs, hl, hx, q⟩ := h
  obtain ⟨its, rv, pl, hz⟩ := J.list hs
  obtain ⟨u, rfl, ru⟩ := vals1 r
  obtain rfl : u = Value.ref a := ru
  have hlen := rv.length
  have at3 : ∀ (j : Nat) (v : Value), its[j]? = some v → ∃ x q, xs[j]? = some x ∧ ks[j]? = some q ∧ IsT3 s.heap v q ∧ RelV x v := by
    intro j v hv
    have hj : j < its.length := (List.getElem?_eq_some_iff.mp hv).1
    have h1 : xs[j]? = some xs[j] := List.getElem?_eq_getElem (by omega)
    have h2 : ks[j]? = some ks[j] := List.getElem?_eq_getElem (by omega)
    obtain ⟨v', hv', rx⟩ := rv.get h1
    rw [hv] at hv'
    cases hv'
    exact ⟨_, _, h1, h2, (hx j _ _ h1 h2).at J rx, rx⟩
  have mem3 : ∀ v ∈ its, IsT3 s.heap v (key3 s.heap v) := fun v hv => by
    obtain ⟨j, hj⟩ := List.mem_iff_getElem?.mp hv
    obtain ⟨x, q, _, _, h3, _⟩ := at3 j v hj
    rw [key3_of h3]; exact h3
  have refs : ∀ v ∈ its, ∃ a, v = Value.ref a := fun v hv => by
    obtain ⟨a, _, _, _, _, _, e, _⟩ := mem3 v hv
    exact ⟨a, e⟩
  refine sorted3 (k := key3 s.heap) pl.isList (by rw [← hlen]; exact hz) mem3 fun h' d out g1 g2 kp hd hn => ?_
  have ez : its.map (fun u => (backV u, key3 s.heap u)) = xs.zip ks := by
    apply List.ext_getElem?
    intro j
    by_cases hj : j < its.length
    · have hv : its[j]? = some its[j] := List.getElem?_eq_getElem hj
      obtain ⟨x, q, h1, h2, h3, h4⟩ := at3 j _ hv
      obtain ⟨a, e⟩ := refs _ (List.getElem_mem hj)
      rw [List.getElem?_map, hv, (show (xs.zip ks)[j]? = some (x, q) from List.getElem?_zip_eq_some.mpr ⟨h1, h2⟩), Option.map_some, key3_of h3]
      rw [e] at h4 ⊢
      cases x <;> first | (cases h4; rfl) | (obtain ⟨_, h4⟩ := h4; cases h4) | cases h4
    · rw [List.getElem?_eq_none (by simpa using Nat.le_of_not_lt hj), List.getElem?_eq_none (by simp; omega)]
  have ro : ∀ u ∈ out, ∃ a, u = Value.ref a := fun u hu => refs u (g2.mem_iff.mp hu)
  obtain ⟨n, hn⟩ := hn
  have ho := q (out.map fun u => (backV u, key3 s.heap u)) d (by rw [← ez]; exact g2.map _) (by rw [List.map_map]; exact List.pairwise_map.mpr g1) (J.hok.fresh hd)
  have e1 : (out.map fun u => (backV u, key3 s.heap u)).map (·.1) = out.map backV := by rw [List.map_map]; rfl
  rw [e1] at ho
  refine ⟨.ref d, upd H d (.lst (out.map backV)), J.laid (t' := s.toks) kp hd ⟨?_, out, n, vals_back ro, hn⟩, rfl, ho⟩
  rw [List.length_map, g2.length_eq, ← hlen]
  exact hz
end
def enc3 (q : T3) : D := .tup [.int q.1, .int q.2.1, .int q.2.2]
def fSort3 : FA := fun ds k => match ds with
  | [x] => (match lstD x with
    | some xs => ∃ ks : List T3, xs = ks.map enc3 ∧ ∀ ls : List T3, ls.Perm ks → ls.Pairwise (fun a b => lt3 b a = false) → k (.lst (ls.map enc3))
    | none => False)
  | _ => False
section
variable {X : Cx} {np : Nat} {He : Hp} {a : Expr} {wa : W} {pos : Pos}
theorem cad_sort3 : CaD X.K (rSorted3 X.K) fSort3 := by
  intro H ds vs k Q r h q
  unfold fSort3 at h
  split at h
  · split at h
    · rename_i x xs e1
      obtain ⟨v, rfl, r1⟩ := RpVs.one r
      obtain ⟨a1, us, rfl, s1, u1⟩ := r1.lsts e1
      obtain ⟨ks, rfl, hk⟩ := h
      have hlen := u1.length
      have tri : ∀ (j : Nat) (x : V) (q : T3), us[j]? = some x → ks[j]? = some q → Trp X.K H x q ∧ RpI X.K H (enc3 q) x := by
        intro j x q h1 h2
        obtain ⟨d, e, rd⟩ := u1.get' h1
        rw [List.getElem?_map, h2] at e
        cases e
        refine ⟨?_, rd⟩
        simp only [enc3, RpI, RpIs] at rd
        obtain ⟨b, ws, rfl, st, v1, r1, rfl, rfl, v2, r2, rfl, rfl, v3, r3, rfl, rfl, rfl⟩ := rd
        exact ⟨b, rfl, st⟩
      refine ⟨a1, us, ks, rfl, s1, by rw [← hlen, List.length_map], fun j x q h1 h2 => (tri j x q h1 h2).1, fun zs p hp hs np' => ?_⟩
      have ex : Ext H (upd H p (.lst (zs.map (·.1)))) := .new np'
      have pk : (zs.map (·.2)).Perm ks := by
        have := hp.map Prod.snd
        rwa [List.map_snd_zip (by rw [← hlen, List.length_map]; exact Nat.le_refl _)] at this
      refine q _ _ _ (hk _ pk hs) ex ⟨p, _, rfl, upd_same, RpIs.of_get (by simp) fun j d v h1 h2 => ?_⟩ (fun _ c e => by cases e; exact np')
      simp only [List.getElem?_map, Option.map_map] at h1 h2
      obtain ⟨z, hz, rfl⟩ := Option.map_eq_some_iff.mp h2
      rw [hz] at h1
      cases h1
      have hm := hp.mem_iff.mp (List.mem_of_getElem? hz)
      obtain ⟨i, hi⟩ := List.mem_iff_getElem?.mp hm
      obtain ⟨i1, i2⟩ := List.getElem?_zip_eq_some.mp hi
      exact RpI.kp ex.kp _ _ (tri i _ _ i1 i2).2
    · exact h.elim
  · exact h.elim
theorem e_sorted {p : Pos} (hc : X.calm = true) (hm : X.mg "sorted" = none) (ha : DE X np He a wa) (hg : Gl X "sorted" := by rfl) (he : starEach [a] X.env = (false, eval a X.env) :: starEach [] X.env := by rfl) :
    DE X np He (.Call (.Name "sorted" p) [a] [] pos) (cBi fSort3 (cCons wa cNil)) := e_bi cr_sorted3 cad_sort3 hm PyProof.Rows.boot_sorted (a_cons ha a_nil he) hg (he := he)
end
end DL

namespace DL
open PySem PySem.Spec PyProof.Rows L2
/-! ### defs with one keyword-only parameter whose default is None -/
structure FnKD (P : Program) (w : World) (K : PySem.W.Frag) (mg : Str → Option Value) (base : Heap) (k : Nat) (x : Str) (ps ks : List Str) (sp : FSpec) : Prop where
  ex : ∃ f fd u, FnOk P w K mg base CX0 k f fd ps (spOf K ps.length sp) ∧ mg x = some (.ref f) ∧ PySem.W.keepIn K (.ref f) = true ∧ KBn K fd ps 1 ks (fun us ws => us ++ ws) (fun vs zs => vs ++ zs) ∧ Binds K fd ps [u] ∧ RelV V.non u
section
variable {X : Cx} {np : Nat} {He : Hp} {a b : Expr} {wa wb : W} {pos : Pos}
theorem e_callK {sp : FSpec} {k : Nat} {ps : List Str} {x nm : Str} {p kpos : Pos} (F : FnKD X.prog X.w X.K X.mg X.base k x ps [nm] sp) (hr : Room k X.A) (ha : DE X np He a wa) (hb : DE X np He b wb) (hn : ps.length = 2 := by rfl) (hg : Gl X x := by rfl) (hdb : (x == ("__debug__" : Str)) = false := by decide)
    (he : starEach [a] X.env = (false, eval a X.env) :: starEach [] X.env := by rfl)
    (hall : (backToKw pos (keywordEach [⟨some nm, b, kpos⟩] X.env)).all (·.1.isSome) = true := by rfl) (hks : (backToKw pos (keywordEach [⟨some nm, b, kpos⟩] X.env)).filterMap (·.1) = [nm] := by rfl)
    (hpl : ((backTo pos (starEach [a] X.env)).any (·.1) || (backToKw pos (keywordEach [⟨some nm, b, kpos⟩] X.env)).any (·.1.isNone)) = false := by rfl) :
    DE X np He (.Call (.Name x p) [a] [⟨some nm, b, kpos⟩] pos) (cCallN 2 sp (cCons wa (cCons wb cNil))) := by
  obtain ⟨f, fd, u, F, hm, hk, hkb, _, _⟩ := F.ex
  refine PE.weak (pe_callN F hr hg hm hk hkb pass0 (pa_cons ha pa_nil he) (pk_cons hb pk_nil) hall hks hdb he hpl) fun σ H Q ⟨env, Q0, R, w, q⟩ => ⟨env, _, R, w, fun ra e1 v1 H1 w1 s1 r1 => ⟨e1, _, s1.rep, w1, fun rb e2 v2 H2 w2 s2 r2 => ?_⟩⟩
  obtain ⟨hn2, w2⟩ := w2
  have s := s1.trans s2
  have r : RpRs X.K σ H H2 e2 [v1, v2] [ra, rb] := ⟨ra, [rb], rfl, r1.keep R s1 s2, ⟨rb, [], rfl, r2.start s1, rfl, fun d _ _ j ys h => by simp at h⟩, .of r1 ⟨rb, [], rfl, r2, rfl, fun d _ _ j ys h => by simp at h⟩⟩
  obtain ⟨ds, t, hd, ok, pre, w2⟩ := tri_of s.rep r w2
  have la1 : ∀ b, LA σ e2 b → H b ≠ none := fun b z => by
    obtain ⟨us, e⟩ := R.la (s.la.mp z)
    rw [e]
    exact fun q => nomatch q
  refine ⟨rfl, rfl, ds, by rw [hn]; rfl, hd, t.apart la1 s.rep ok, pre, fun r ds' v H' po A rv fr => ?_⟩
  exact q _ _ v H' (w2 r ds' po) (.called R s t ok A) ⟨rv, fun n c e => s.dom c (fr n c e)⟩
theorem e_callD {sp : FSpec} {k : Nat} {ps ks : List Str} {x : Str} {p : Pos} (F : FnKD X.prog X.w X.K X.mg X.base k x ps ks sp) (hr : Room k X.A) (ha : DE X np He a wa) (hn : ps.length = 2 := by rfl) (hg : Gl X x := by rfl) (hdb : (x == ("__debug__" : Str)) = false := by decide)
    (he : starEach [a] X.env = (false, eval a X.env) :: starEach [] X.env := by rfl) (hpl : (backTo pos (starEach [] X.env)).any (·.1) = false := by rfl) :
    DE X np He (.Call (.Name x p) [a] [] pos) (cCallN 2 sp (cCons wa (cCons (cC .non) cNil))) := by
  obtain ⟨f, fd, u, F, hm, hk, _, hbd, hu⟩ := F.ex
  refine PE.weak (pe_call F hr hg hm hk hbd (.cons hu .nil) pass0 (pa_cons ha pa_nil he) hdb he hpl) fun σ H Q ⟨env, Q0, R, w, q⟩ => ⟨env, _, R, w, fun ra e1 v1 H1 w1 s1 r1 => ?_⟩
  obtain ⟨hn2, w2⟩ := w1
  have rn : RpR X.K σ H H1 e1 V.non (.val .non) := ⟨rfl, fun n => by simp [isL] at n⟩
  have r : RpRs X.K σ H H1 e1 [v1, V.non] [ra, .val .non] := ⟨ra, [.val .non], rfl, r1, ⟨.val .non, [], rfl, rn, rfl, fun d _ _ j ys h => by simp at h⟩, fun d _ _ j ys h => by
    cases j with
    | zero => simp at h
    | succ j => simp at h⟩
  obtain ⟨ds, t, hd, ok, pre, w2⟩ := tri_of s1.rep r w2
  have la1 : ∀ b, LA σ e1 b → H b ≠ none := fun b z => by
    obtain ⟨us, e⟩ := R.la (s1.la.mp z)
    rw [e]
    exact fun q => nomatch q
  refine ⟨ds, by rw [hn]; rfl, hd, t.apart la1 s1.rep ok, pre, fun r ds' v H' po A rv fr => ?_⟩
  exact q _ _ v H' (w2 r ds' po) (.called R s1 t ok A) ⟨rv, fun n c e => s1.dom c (fr n c e)⟩
end
theorem kd_mk {P : Program} {w : World} {K : PySem.W.Frag} {mg : Str → Option Value} {base : Heap} {x : Str} {st : Stmt} {f D : Addr} {oc : Value} {od an : Option Addr} {osl : Array (Option Value)} {doc pm cdv ct : Value} {nm : Str} {ps : List Str} {k : Nat} {sp : FSpec}
    (l : K.lookup f = some ⟨oc, od, .func (PySem.W.fnOf x x (defArgs st) (defBody st) (defScope st) .none (.ref D) doc pm an cdv ct), osl⟩)
    (c : PySem.W.codeIn K cdv x = true) (kp : PySem.W.keepIn K (.ref f) = true) (q : PySem.W.nsIn K D nm = some (some .none)) (hps : ps.length = 2)
    (h1 : ∀ (D : Addr) (doc pm : Value) (an : Option Addr) (cdv ct : Value) (us ks : List Value), us.length = 1 → ks.length = 1 → KwChain D ([nm].zip ks) (bindArgs (PySem.W.fnOf x x (defArgs st) (defBody st) (defScope st) .none (.ref D) doc pm an cdv ct) ⟨us, []⟩) (ps.zip (us ++ ks)))
    (h2 : ∀ (us ws : List Value), us.length = 1 → ws.length = 1 → bindArgs (PySem.W.fnOf x x (defArgs st) (defBody st) (defScope st) .none (.ref D) doc pm an cdv ct) ⟨us, [nm].zip ws⟩ = pure (ps.zip (us ++ ws)))
    (hf : FnOk P w K mg base CX0 k f (PySem.W.fnOf x x (defArgs st) (defBody st) (defScope st) .none (.ref D) doc pm an cdv ct) ps (spOf K ps.length sp)) (hm : mg x = some (.ref f)) : FnKD P w K mg base k x ps [nm] sp := by
  have F : FunD K x x (defArgs st) (defBody st) (defScope st) [] [(nm, V.non)] f (PySem.W.fnOf x x (defArgs st) (defBody st) (defScope st) .none (.ref D) doc pm an cdv ct) :=
    ⟨⟨oc, od, .none, .ref D, doc, pm, an, cdv, ct, osl, rfl, l, c, .inl ⟨rfl, rfl⟩, .inr ⟨D, rfl, fun p hp => by
      cases List.mem_singleton.mp hp
      exact ⟨_, q, rfl⟩⟩⟩, kp⟩
  obtain ⟨ds, hds, hb⟩ := F.binds0 (ps := ps) 1 (by simp) (by rw [hps]; rfl) h1
  cases hds with
  | cons hu hr =>
    cases hr
    exact ⟨_, _, _, hf, hm, kp, ⟨fun s us ws _ e1 e2 => .of_eq (h2 us ws e1 e2), fun r1 r2 => r1.append r2⟩, hb, hu⟩
end DL

set_option maxHeartbeats 2000000
/-! ### ranges of any size, from either end -/
namespace PySem
open Sem (wp)
def bigBack (a b c : Int) : Bool := !Builtin.Range.handS_smallRev a b c
theorem back_big (r : Addr) (a b c : Int) (t u v : Tok) (hb : Builtin.Range.handS_smallRev a b c = false) :
    Meets (Builtin.«range.__reversed__» ⟨[.ref r], []⟩) fun _ R s => (s.heap.get? r = some { cls := .type "range", dict := none, data := .fields #[.int a t, .int b u, .int c v], slots := #[] } ∧
      R (.ok (.ret (Value.ref s.heap.objs.size))) { s with heap := s.heap.push { cls := Value.type (if (Builtin.Range.rangeFitsLong a && Builtin.Range.rangeFitsLong b && Builtin.Range.rangeFitsLong c && Builtin.Range.rangeFitsLong (-c) && Builtin.Range.rangeFitsLong (a - c) && Builtin.Range.rangeFitsLong (Builtin.Range.rangeSize a b c)) = true then "range_iterator" else "longrange_iterator"), data := Data.fields #[rawInt (a + (Builtin.Range.rangeSize a b c - 1) * c), rawInt (Builtin.Range.rangeSize a b c), rawInt (-c)] }, toks := s.toks }) :=
  .of_wp fun prog w A R s h => by
    have hq : (!(Builtin.Range.rangeFitsLong a && Builtin.Range.rangeFitsLong b && Builtin.Range.rangeFitsLong c && Builtin.Range.rangeFitsLong (-c) && Builtin.Range.rangeFitsLong (a - c) && Builtin.Range.rangeFitsLong (Builtin.Range.rangeSize a b c))) = true := by
      unfold Builtin.Range.handS_smallRev at hb
      rw [hb]; rfl
    obtain ⟨hp, g, d, tk, os⟩ := s
    obtain ⟨hl, h⟩ := h
    wp_walk
    exact ⟨_, rfl, h⟩
def longBack (a b c : Int) : Obj := { cls := .type "longrange_iterator", data := .fields #[rawInt (a + (Builtin.Range.rangeSize a b c - 1) * c), rawInt (Builtin.Range.rangeSize a b c), rawInt (-c)] }
theorem long_no_rev : isSubtype (.type "longrange_iterator") (.type "reversed") = pure false := by
  rw [isSubtype_type]
  kernel_rfl
section
variable {prog : Program} {w : World} {A : Around} {E : Value → Shared → Prop} {s : Shared} {r : Addr} {a b c : Int} {t u v : Tok}
theorem call_back_big {Q : Value → Shared → Prop} (rg : IsRange s.heap r a b c t u v) (hb : Builtin.Range.handS_smallRev a b c = false) (q : Q (.ref s.heap.objs.size) { s with heap := s.heap.push (longBack a b c) }) :
    wpAny (model prog w) A (call (.builtin "range.__reversed__") [.ref r]) Q E s := by
  have ty : s.TypeIs (.ref r) "range" := ⟨_, rg, rfl⟩
  refine call_meets F.slot_range_reversed ty F.entry_range_reversed (F.args_range_reversed_1 _) (back_big r a b c t u v hb) ⟨rg, ?_⟩
  unfold Builtin.Range.handS_smallRev at hb
  rw [hb]
  simp only [Bool.false_eq_true, if_false]
  exact q
theorem new_back_big {Q1 : Value → Shared → Prop} (rg : IsRange s.heap r a b c t u v) (hb : Builtin.Range.handS_smallRev a b c = false) (q : Q1 (.ref s.heap.objs.size) { s with heap := s.heap.push (longBack a b c) }) :
    codeAny (model prog w) A (.call (.builtin "reversed.__new__") ⟨[.type "reversed", .ref r], []⟩) (wants Q1 E) s := by
  have ty : s.TypeIs (.ref r) "range" := ⟨_, rg, rfl⟩
  refine codeAny_of_tree ?_
  show wpAny _ A.in1 (do checkBuiltinCall "reversed.__new__" ⟨[.type "reversed", .ref r], []⟩; (again (.builtin "reversed.__new__" ⟨[.type "reversed", .ref r], []⟩))) _ _ s
  refine wpAny_bind (wpAny_of_eq (F.newCall_reversed_1 _) (wpAny_pure (And.intro (plainId_quiet F.plain_reversed_new _) (codeAny_builtin F.entry_reversed_new ?_))))
  rw [Around.under_plainId F.plain_reversed_new]
  unfold Builtin.«reversed.__new__»
  refine wpAny_bind (wpAny_of_eq (newClass_reversed (.ref r)) ?_)
  try dsimp only
  refine wpAny_bind (wpAny_of_eq (a := PUnit.unit) (by first | rfl | kernel_rfl) ?_)
  refine wpAny_bind (wpAny_of_eq (a := PUnit.unit) (by first | rfl | kernel_rfl) ?_)
  try dsimp only
  refine wpAny_bind (wpAny_specialOf ty F.slot_range_reversed.lookup (?_))
  try dsimp only
  refine wpAny_bind (wpAny_of_eq (F.slot_range_reversed.bind (.ref r)) ?_)
  try dsimp only
  have nn : ¬ ((Value.builtin "range.__reversed__" == Value.none) = true) := Bool.false_ne_true
  rw [if_neg nn]
  refine wpAny_bind (wpAny_rule (?_))
  have go : wpAny (model prog w) A.in1 (call (.builtin "range.__reversed__") [.ref r]) (fun x s' => x = .ref s.heap.objs.size ∧ s' = { s with heap := s.heap.push (longBack a b c) }) (fun _ _ => False) s := call_back_big rg hb ⟨rfl, rfl⟩
  refine wpAny_bind (m := runValue (.call (.builtin "range.__reversed__") ⟨[.ref r], []⟩)) (wpAny_mono (show wpAny _ _ (call (.builtin "range.__reversed__") [.ref r]) _ _ _ from go) (fun x s' hx => ?_) (fun _ _ hf => hf.elim))
  obtain ⟨rfl, rfl⟩ := hx
  first
  | exact wpAny_pure q
  | exact wpAny_bind (wpAny_pure (wpAny_pure q))
theorem call_rev_big {Q : Value → Shared → Prop} (rg : IsRange s.heap r a b c t u v) (hb : Builtin.Range.handS_smallRev a b c = false)
    (q : Q (.ref s.heap.objs.size) { s with heap := s.heap.push (longBack a b c) }) : wpAny (model prog w) A (call (.type "reversed") [.ref r]) Q E s := by
  refine callType_other (U := "longrange_iterator") (Q₁ := fun x z => x = .ref s.heap.objs.size ∧ z = { s with heap := s.heap.push (longBack a b c) }) (by decide +kernel) F.create_reversed ⟨_, _, F.mro_reversed⟩ F.made_reversed long_no_rev (F.typeCall_reversed_1 _) (new_back_big rg hb ⟨rfl, rfl⟩) ?_
  rintro x z ⟨rfl, rfl⟩
  exact ⟨⟨_, Heap.get?_push_size _ rfl, rfl⟩, q⟩
end
end PySem
namespace DL
open PySem PySem.Spec PyProof.Rows L2
theorem turnLong {P : Program} {w : World} {K : PySem.W.Frag} {tg : Expr} (I0 : Addr) (lo c : Int) (n : Nat) : Turn P w K tg (Itc lo c n) [I0] I0 (fun i h => IsLongIter h I0 (lo + (i : Nat) * c) ((n : Int) - (i : Nat)) c) where
  mem := List.mem_singleton.mpr rfl
  obj := fun i h st b hb => by
    obtain rfl : b = I0 := List.mem_singleton.mp hb
    exact ⟨_, st, fun v z => (nomatch z)⟩
  keep := fun i h h' st k => k I0 (List.mem_singleton.mpr rfl) _ st
  item := by
    intro X e1 e2 e3 hc i pins s σ H E I hf st hg
    subst e1 e2 e3
    obtain ⟨g0, g1, g2, g3, g4, g5⟩ := hf I0 (List.mem_singleton.mpr rfl)
    refine (Walks.longrange (prog := X.prog) (w := X.w) (I.ok.hd hc) I0 lo c n).item i s _ _ hg st fun v h' tk hv st' kk => ?_
    obtain ⟨t, rfl⟩ := hv
    have J : Inv X pins σ H { s with heap := h', toks := tk } := I.turned (fun b o hb e => kk b o (by simpa using hb) e) g0 g1 g3 g4 g5
    exact ⟨_, rfl, go_of (s := { s with heap := h', toks := tk }) (n := "longrange_iterator") st' rfl rfl (by decide) ⟨.int (lo + (i : Nat) * c), H, J, ⟨t, rfl⟩, ⟨rfl, rfl⟩, st', fun b hb => (hf b hb).1⟩⟩
  done := by
    intro X e1 e2 e3 hc i pins s σ H E I hf st hg
    subst e1 e2 e3
    obtain ⟨g0, g1, g2, g3, g4, g5⟩ := hf I0 (List.mem_singleton.mpr rfl)
    have hn : n ≤ i := hg
    exact wpAny_pyNext_long_end (I.ok.hd hc) st (by omega) fun h' eb => ⟨rfl, I.turned (t' := s.toks) (fun b o hb e => eb b o hb e) g0 g1 g3 g4 g5⟩
  self := fun A i s Q E st h => (wpAny_pyIter_longiter st h)
/-- range(i, j) -/
def iUp (tr : L2.St → Hp → (Int → Int → Hp → Prop) → Prop) : TI := fun σ H R => tr σ H fun a b H1 => R (Itc a 1 (b - a).toNat) H1
/-- reversed(range(i, j)) -/
def iDn (tr : L2.St → Hp → (Int → Int → Hp → Prop) → Prop) : TI := fun σ H R => tr σ H fun a b H1 => R (Itc (a + (((b - a).toNat : Nat) : Int) - 1) (-1) (b - a).toNat) H1
theorem pi_dn {X : Cx} {tg e : Expr} {tr : L2.St → Hp → (Int → Int → Hp → Prop) → Prop} {p pos : Pos} (hg : Gl X "reversed") (hm : X.mg "reversed" = none) (he : PRg X e tr) (hs : starEach [e] X.env = (false, eval e X.env) :: starEach [] X.env := by rfl) :
    PI X tg (.Call (.Name "reversed" p) [e] [] pos) (iDn tr) := by
  refine ⟨fun pins s σ H R I h => ?_⟩
  refine Call_ (ld_blt I hg hm PyProof.Rows.boot_reversed (PyProof.Rows.callWith_type1 (args_cons (thn (he pins s σ H _ I h) fun uu s1 hx => (args_nil ?_)) hs) hs rfl))
  obtain ⟨r, a, b, t, w1, v, H1, eu, hr, I1, q⟩ := hx
  subst eu
  have hn := rangeSize_nat a b
  have k1 : a + (((b - a).toNat : Nat) : Int) - 1 + ((0 : Nat) : Int) * (-1) = a + (Builtin.Range.rangeSize a b 1 - 1) * 1 := by
    rw [hn]; omega
  have k2 : (((b - a).toNat : Nat) : Int) - ((0 : Nat) : Int) = Builtin.Range.rangeSize a b 1 := by
    rw [hn]; omega
  cases hb : Builtin.Range.handS_smallRev a b 1 with
  | true =>
    refine call_reversed_range hr hb (wpAny_pyIter_rangeiter (Heap.get?_push_size _ rfl) (pi_one (tk := s1.toks) I1 _ (turn_rangeC _ (a + (((b - a).toNat : Nat) : Int) - 1) (-1) (b - a).toNat) ?_ q))
    show IsRangeIter _ _ (a + (((b - a).toNat : Nat) : Int) - 1 + ((0 : Nat) : Int) * (-1)) ((((b - a).toNat : Nat) : Int) - ((0 : Nat) : Int)) _
    rw [k1, k2]
    exact Heap.get?_push_size _ rfl
  | false =>
    refine call_rev_big hr hb (wpAny_pyIter_longiter (Heap.get?_push_size _ rfl) (pi_one (tk := s1.toks) I1 _ (turnLong _ (a + (((b - a).toNat : Nat) : Int) - 1) (-1) (b - a).toNat) ?_ q))
    show IsLongIter _ _ (a + (((b - a).toNat : Nat) : Int) - 1 + ((0 : Nat) : Int) * (-1)) ((((b - a).toNat : Nat) : Int) - ((0 : Nat) : Int)) _
    rw [k1, k2]
    exact Heap.get?_push_size _ rfl
theorem pi_up {X : Cx} {tg a b : Expr} {ta : TA} {p pos : Pos} (hg : Gl X "range") (hm : X.mg "range" = none) (ha : PA X [a, b] ta) (hs : starEach [a, b] X.env = [(false, eval a X.env), (false, eval b X.env)] := by rfl) (hs2 : starEach [b] X.env = [(false, eval b X.env)] := by rfl) :
    PI X tg (.Call (.Name "range" p) [a, b] [] pos) (fun σ H R => ta σ H fun vs H1 => ∃ i j : Int, vs = [.int i, .int j] ∧ R (Itc i 1 (j - i).toNat) H1) := by
  refine ⟨fun pins s σ H R I h => ?_⟩
  refine Call_ (ld_blt I hg hm boot_range (PyProof.Rows.callWith_type1 (thn (ha.run pos pins s σ H _ I h) fun us s1 ⟨vs, H1, I1, r1, q1⟩ => ?_) (by rw [hs, hs2]) (by rw [hs2]; rfl)))
  obtain ⟨i, j, e, q⟩ := q1
  subst e
  cases r1 with
  | cons r rr =>
    cases rr with
    | cons r' rr =>
      cases rr
      obtain ⟨t, rfl⟩ := r
      obtain ⟨t', rfl⟩ := r'
      refine call_range_2 ?_
      have hn := rangeSize_nat i j
      have k1 : i + ((0 : Nat) : Int) * 1 = i := by omega
      have k2 : (((j - i).toNat : Nat) : Int) - ((0 : Nat) : Int) = Builtin.Range.rangeSize i j 1 := by rw [hn]; omega
      have I2 : Inv X pins σ H1 { s1 with heap := s1.heap.push { cls := .type "range", data := .fields #[.int i t, .int j t', .int 1 s1.toks] }, toks := s1.toks + 1 } := I1.kept (t' := s1.toks + 1) fun b o e => (Heap.get?_push_of_some _ e)
      cases hb : Builtin.Range.small i j 1 with
      | true =>
        refine wpAny_pyIter_range (IsRange.new ..) hb (pi_one (tk := s1.toks + 1) I2 _ (turn_rangeC _ i 1 (j - i).toNat) ?_ q)
        show IsRangeIter _ _ (i + ((0 : Nat) : Int) * 1) ((((j - i).toNat : Nat) : Int) - ((0 : Nat) : Int)) _
        rw [k1, k2]
        exact Heap.get?_push_size _ rfl
      | false =>
        refine wpAny_pyIter_longrange (IsRange.new ..) hb (pi_one (tk := s1.toks + 1) I2 _ (turnLong _ i 1 (j - i).toNat) ?_ q)
        show IsLongIter _ _ (i + ((0 : Nat) : Int) * 1) ((((j - i).toNat : Nat) : Int) - ((0 : Nat) : Int)) _
        rw [k1, k2]
        exact Heap.get?_push_size _ rfl
section
variable {X : Cx} {np : Nat} {He : Hp} {tg a b : Expr} {wa wb : W} {pos : Pos}
def iR2W (wa wb : W) : WI := fun env Q => wa env fun ra e1 => wb e1 fun rb e2 => rs e2 ra fun x => isI x fun i => rs e2 rb fun y => isI y fun j => Q ⟨rngD i (j - i).toNat, []⟩ e2
def iRR (wa wb : W) : WI := fun env Q => wa env fun ra e1 => wb e1 fun rb e2 => rs e2 ra fun x => isI x fun i => rs e2 rb fun y => isI y fun j => Q ⟨(rngD i (j - i).toNat).reverse, []⟩ e2
theorem walk_up {lo : Int} {n : Nat} : Walk (Itc lo 1 n) (rngD lo n).length (fun _ => True) (YFn fun i => .int (lo + (i : Nat) * 1)) := by
  rw [rngD_len]
  exact walk_rangeC
theorem walk_dn {lo hi : Int} {n : Nat} : Walk (Itc hi (-1) n) (rngD lo n).reverse.length (fun _ => True) (YFn fun i => .int (hi + (i : Nat) * (-1))) := by
  rw [List.length_reverse, rngD_len]
  exact walk_rangeC
theorem i_rngW {p : Pos} (hm : X.mg "range" = none) (ha : DE X np He a wa) (hb : DE X np He b wb) (hg : Gl X "range" := by rfl) (hs : starEach [a, b] X.env = [(false, eval a X.env), (false, eval b X.env)] := by rfl) (hs2 : starEach [b] X.env = [(false, eval b X.env)] := by rfl) : DI X np He tg (.Call (.Name "range" p) [a, b] [] pos) (iR2W wa wb) := by
  refine PI.weak (pi_up hg hm (pa_cons ha (pa_cons hb pa_nil hs2) (by rw [hs, hs2])) hs hs2) fun σ H R ⟨env, Q0, Rp, w, q⟩ => ⟨env, _, Rp, w, fun ra e1 v1 H1 w1 s1 r1 => ⟨e1, _, s1.rep, w1, fun rb e2 v2 H2 w2 s2 r2 => ?_⟩⟩
  have s12 := s1.trans s2
  obtain ⟨x, hx, w2⟩ := (r1.keep Rp s1 s2).rs s2.rep w2
  obtain ⟨i, rfl, w2⟩ := isI_of w2
  obtain ⟨y, hy, w2⟩ := r2.rs s2.rep w2
  obtain ⟨j, rfl, w2⟩ := isI_of w2
  cases hx; cases hy
  refine ⟨i, j, rfl, ?_⟩
  refine q ⟨rngD i (j - i).toNat, []⟩ e2 H2 (Itc i 1 (j - i).toNat) _ _ w2 s12 walk_up (fun p hp => absurd hp (by simp)) (fun l H3 x H4 hl y _ => ?_) (fun _ _ => trivial)
  obtain ⟨rfl, rfl⟩ := y
  refine ⟨.refl _, _, rngD_get i (j - i).toNat l (by simpa [rngD_len] using hl), ?_⟩
  simp only [RpI, Int.mul_one]
theorem i_revR {p p2 pos2 : Pos} (hm0 : X.mg "reversed" = none) (hm : X.mg "range" = none) (ha : DE X np He a wa) (hb : DE X np He b wb) (hg0 : Gl X "reversed" := by rfl) (hg : Gl X "range" := by rfl) (hs0 : starEach [Expr.Call (.Name "range" p2) [a, b] [] pos2] X.env = (false, eval (Expr.Call (.Name "range" p2) [a, b] [] pos2) X.env) :: starEach [] X.env := by rfl)
    (hs : starEach [a, b] X.env = (false, eval a X.env) :: starEach [b] X.env := by rfl) (hs2 : starEach [b] X.env = (false, eval b X.env) :: starEach [] X.env := by rfl) (hpl : (backTo pos2 (starEach [b] X.env)).any (·.1) = false := by rfl) : DI X np He tg (.Call (.Name "reversed" p) [.Call (.Name "range" p2) [a, b] [] pos2] [] pos) (iRR wa wb) := by
  refine PI.weak (pi_dn hg0 hm0 (prg_2 hg hm ha hb hs hs2 hpl) hs0) fun σ H R ⟨env, Q0, Rp, w, q⟩ => ⟨env, _, Rp, w, fun ra e1 v1 H1 w1 s1 r1 => ⟨e1, _, s1.rep, w1, fun rb e2 v2 H2 w2 s2 r2 => ?_⟩⟩
  have s12 := s1.trans s2
  obtain ⟨x, hx, w2⟩ := (r1.keep Rp s1 s2).rs s2.rep w2
  obtain ⟨i, rfl, w2⟩ := isI_of w2
  obtain ⟨y, hy, w2⟩ := r2.rs s2.rep w2
  obtain ⟨j, rfl, w2⟩ := isI_of w2
  cases hx; cases hy
  refine ⟨i, j, rfl, rfl, ?_⟩
  refine q ⟨(rngD i (j - i).toNat).reverse, []⟩ e2 H2 (Itc (i + (((j - i).toNat : Nat) : Int) - 1) (-1) (j - i).toNat) _ _ w2 s12 walk_dn (fun p hp => absurd hp (by simp)) (fun l H3 x H4 hl y _ => ?_) (fun _ _ => trivial)
  obtain ⟨rfl, rfl⟩ := y
  have hl' : l < (j - i).toNat := by simpa [rngD_len] using hl
  refine ⟨.refl _, .int (i + (((j - i).toNat - 1 - l : Nat) : Int)), ?_, ?_⟩
  · show (rngD i (j - i).toNat).reverse[l]? = _
    rw [List.getElem?_reverse (by rw [rngD_len]; exact hl'), rngD_len]
    exact rngD_get i (j - i).toNat _ (by omega)
  · show V.int _ = V.int _
    congr 1
    omega
end
end DL

set_option maxHeartbeats 2000000
/-! ### an int's bits as a text, and how many of them are 1 -/
namespace DL
open PySem PySem.Spec PyProof.Rows L2 Builtin Float
def binText (a : Nat) : Str := ⟨((Nat.toDigits 2 a).map Char.toNat).toArray⟩
def specB : FormatSpec := { fill := 32, align := 62, type := some 98 }
theorem parseB : parseFormatSpec (Str.ofString "b").cps.toList "int" 62 = .ok specB := by rfl
theorem toDigitsCore_len : ∀ (fuel n : Nat) (ds : List Char), (Nat.toDigitsCore 2 fuel n ds).length ≤ ds.length + fuel
  | 0, n, ds => by simp [Nat.toDigitsCore]
  | fuel + 1, n, ds => by
    simp only [Nat.toDigitsCore]
    split
    · simp
    · have := toDigitsCore_len fuel (n / 2) (Nat.digitChar (n % 2) :: ds)
      simp only [List.length_cons] at this
      omega
theorem field_bin (a : Nat) : intField' specB (decide ((a : Int) < 0)) [] ((Nat.toDigits 2 a).map fun c => (if (98 : Nat) == 88 then c.toUpper else c).toNat) [] 4 = binText a := by
  have h0 : decide ((a : Int) < 0) = false := decide_eq_false (by omega)
  have h1 := tDigits_len_ge 2 a
  rw [h0]
  unfold intField' binText specB
  have h2 : ((Nat.toDigits 2 a).map fun c => (if (98 : Nat) == 88 then c.toUpper else c).toNat) = (Nat.toDigits 2 a).map Char.toNat := List.map_congr_left fun c _ => by rfl
  rw [h2]
  have h3 : ((Nat.toDigits 2 a).map Char.toNat).isEmpty = false := by
    rw [List.isEmpty_eq_false_iff_exists_mem]
    cases e : Nat.toDigits 2 a with
    | nil => rw [e] at h1; simp at h1
    | cons x r => exact ⟨x.toNat, by simp⟩
  simp only [h3]
  simp
section
variable {prog : Program} {w : World} {A : Around} {E : Value → Shared → Prop} {s : Shared}
theorem ff_bin0 {a : Nat} {t : Tok} {f : FormatSpec} {Q : Value → Shared → Prop} (hp : parseFormatSpec (Str.ofString "b").cps.toList "int" 62 = .ok f) (hty : f.type.getD (if (Str.ofString "b").cps.back? == some 0 then 0 else 100) = 98)
    (hpr : f.precision = none) (hz : f.noNeg0 = false) (hal : f.alt = false) (hw : f.width.getD 0 ≤ 100000) (hf : f = specB)
    (hl : (intField' f (decide ((a : Int) < 0)) [] ((Nat.toDigits 2 (a : Int).natAbs).map fun c => (if (98 : Nat) == 88 then c.toUpper else c).toNat) [] 4).length ≤ sizeLine)
    (h : Q (.str (intField' f (decide ((a : Int) < 0)) [] ((Nat.toDigits 2 (a : Int).natAbs).map fun c => (if (98 : Nat) == 88 then c.toUpper else c).toNat) [] 4) (s.toks + 1)) { s with toks := s.toks + 1 + 1 }) :
    wpAny (model prog w) A (formatField (.int (a : Int) t) (Str.ofString "b")) Q E s := by
  show wpAny _ _ (holding [.int (a : Int) t] (pyFormat (.int (a : Int) t) (Str.ofString "b"))) Q E s
  refine wpAny_holding ?_
  unfold pyFormat
  refine wpAny_bind (wpAny_mkStr ?_ (by size_fits))
  refine wpAny_bind (m := callSpecial? (.int (a : Int) t) (Str.ofString "__format__") [.str (Str.ofString "b") s.toks]) (wpAny_callSpecial?_slot (name := Str.ofString "__format__") (typeIs_int _ (a : Int) t) slot_int_format ?_)
  refine wpAny_call (codeAny_call_builtin slot_int_format.plain entry_int_format (slot_int_format.check _ _ _ _ _ _ _ _ (typeIs_int _ (a : Int) t) (args_int_format _ _) ?_))
  unfold Builtin.«int.__format__»
  have hne : ((Str.ofString "b").length == 0) = false := by decide
  have hasc : (((Str.ofString "b").cps.toList.drop 1).any (· ≥ 128) || ((Str.ofString "b").cps.getD 0 0 ≥ 128 && !([60, 62, 61, 94] : List Nat).contains ((Str.ofString "b").cps.getD 1 0))) = false := by decide
  simp only [selfAndOne, noKeywords, Int.intOfSelf, asInt?, asStr?, List.isEmpty_nil, if_true, pure_bind, bind_pure, bind_assoc, hne, hasc, Bool.false_eq_true, if_false, show (Value.str (Str.ofString "b") s.toks == Value.none) = false from rfl]
  refine wpAny_bind (wpAny_typeNameOf (T := "str") (typeIs_str _ _ _) (by decide) fun _ => ?_)
  refine wpAny_bind (wpAny_typeNameOfCut_int ?_)
  simp only [hp, hty]
  rw [if_pos (by decide)]
  show wpAny _ _ (if _ then _ else _) _ _ _
  rw [if_neg (by simp [hpr])]
  show wpAny _ _ (if _ then _ else _) _ _ _
  rw [if_neg (by simp [hz])]
  show wpAny _ _ (if _ then _ else _) _ _ _
  rw [if_neg (by decide)]
  show wpAny _ _ (if _ then _ else _) _ _ _
  have hw' : ¬ (f.width.getD 0 > 100000) := by omega
  rw [if_neg (by first | decide | simpa using hw')]
  show wpAny _ _ (if _ then _ else _) _ _ _
  rw [if_neg (by simpa using hw')]
  show wpAny _ _ (retStr _) _ _ _
  unfold retStr
  have he : ∀ z : List Nat, (if f.alt = true then z else []) = [] := fun z => by rw [hal]; rfl
  refine wpAny_bind (wpAny_mkStr (wpAny_pure ?_) ?hs2)
  case hs2 =>
    rw [he]
    subst hf
    conv => lhs; arg 1; whnf
    conv at hl => lhs; arg 1; whnf
    exact hl
  dsimp only
  refine wpAny_bind (wpAny_isInstance (typeIs_str _ _ _) isSubtype_str_str (wpAny_pure ?_))
  rw [he]
  subst hf
  conv => arg 1; arg 1; whnf
  conv at h => arg 1; arg 1; whnf
  exact h
theorem ff_bin {a : Nat} {t : Tok} {Q : Value → Shared → Prop} (hl : (binText a).length ≤ sizeLine) (h : Q (.str (binText a) (s.toks + 1)) { s with toks := s.toks + 1 + 1 }) :
    wpAny (model prog w) A (formatField (.int (a : Int) t) (Str.ofString "b")) Q E s := by
  have e := field_bin a
  refine ff_bin0 (f := specB) parseB (by rfl) rfl rfl rfl (by decide) rfl ?_ ?_
  · rw [Int.natAbs_natCast, e]; exact hl
  · rw [Int.natAbs_natCast, e]; exact h
end
end DL

set_option maxHeartbeats 2000000
namespace DL
open PySem PySem.Spec PyProof.Rows L2 Builtin
def tBin (te : TE) : TE := fun σ H Q => te σ H fun x H1 => ∃ a : Nat, x = .int (a : Int) ∧ (binText a).length ≤ sizeLine ∧ Q (.str (binText a)) H1
section
variable {X : Cx} {np : Nat} {He : Hp} {a : Expr} {wa : W} {pos : Pos}
theorem pe_bin {e : Expr} {te : TE} {k : Nat} {p1 p2 : Pos} (he : PE X e te) : PE X (.FormattedValue e (-1) (some (.JoinedStr [.Constant (.str (Str.ofString "b")) k p1] p2)) pos) (tBin te) := by
  refine ⟨fun pins s σ H Q I h => ?_⟩
  refine wpAny_FormattedValue_spec (thn (he.run pins s σ H _ I h) fun v s1 hv => ?_)
  obtain ⟨x, H1, I1, r1, n, rfl, hz, q⟩ := hv
  obtain ⟨t, rfl⟩ := r1
  refine thn ((pe_joined1 (pos := p2) (pe_str (x := Str.ofString "b") (j := k) (pos := p1))).run pins s1 σ H1 (fun y H' => y = .str (Str.ofString "b") ∧ H' = H1) I1 ⟨rfl, rfl⟩) fun r s2 hr => ?_
  obtain ⟨y, H2, I2, ry, rfl, rfl⟩ := hr
  obtain ⟨t2, rfl⟩ := ry
  exact ⟨_, _, rfl, ff_bin hz ⟨.str (binText n), _, I2.tok _, ⟨_, rfl⟩, q⟩⟩
def fOnes : F1 := fun x k => match x with
  | .int i => 0 ≤ i ∧ (binText i.toNat).length ≤ 1000000 ∧ k (.int (Txt.count (binText i.toNat) (Str.ofString "1")))
  | _ => False
theorem e_ones {j k : Nat} {p0 p1 p2 p3 p4 apos : Pos} (ha : DE X np He a wa)
    (hbase : attributeBase (.JoinedStr [.FormattedValue a (-1) (some (.JoinedStr [.Constant (.str (Str.ofString "b")) k p1] p2)) p0] p3) "count" X.env (eval (.JoinedStr [.FormattedValue a (-1) (some (.JoinedStr [.Constant (.str (Str.ofString "b")) k p1] p2)) p0] p3) X.env) = eval (.JoinedStr [.FormattedValue a (-1) (some (.JoinedStr [.Constant (.str (Str.ofString "b")) k p1] p2)) p0] p3) X.env := by rfl)
    (hfew : ((backTo pos (starEach [.Constant (.str (Str.ofString "1")) j p4] X.env)).all (fun x => !x.1) && (backToKw pos (keywordEach [] X.env)).all (fun x => x.1.isSome)
      && decide (([.Constant (.str (Str.ofString "1")) j p4] : List Expr).length + ([] : List Keyword).length + (if ([] : List Keyword).isEmpty then 0 else 1) < 30)) = true := by rfl)
    (hline : (apos.endLine == pos.line) = true := by rfl) (hs : starEach [.Constant (.str (Str.ofString "1")) j p4] X.env = (false, eval (.Constant (.str (Str.ofString "1")) j p4) X.env) :: starEach [] X.env := by rfl) :
    DE X np He (.Call (.Attribute (.JoinedStr [.FormattedValue a (-1) (some (.JoinedStr [.Constant (.str (Str.ofString "b")) k p1] p2)) p0] p3) "count" apos) [.Constant (.str (Str.ofString "1")) j p4] [] pos) (cUn fOnes wa) := by
  refine PE.weak (pe_bm PySem.F.plainAttrs_str PySem.F.slot_str_count PySem.F.type_str_count mt_count (pe_joined1 (pe_bin ha)) (pa_cons pe_str pa_nil hs) hbase hfew hline hs) fun σ H Q ⟨env, Q0, R, w, q⟩ => ⟨env, _, R, w, fun ra e1 v1 H1 w1 s1 r1 => ?_⟩
  obtain ⟨d, hd, w1⟩ := r1.rs s1.rep w1
  unfold fOnes at w1
  split at w1
  · obtain ⟨h0, hl, w1⟩ := w1
    cases hd
    obtain ⟨n, rfl⟩ := Int.eq_ofNat_of_zero_le h0
    refine ⟨n, rfl, line_of hl, rfl, ?_⟩
    exact ⟨_, _, rfl, rfl, q (.val _) e1 _ H1 w1 s1 ⟨rfl, fun n => by simp [isL] at n⟩⟩
  · exact w1.elim
end
/-! ### how many -/
def popF : Nat → Nat → Nat
  | 0, _ => 0
  | f + 1, n => n % 2 + popF f (n / 2)
theorem core_count : ∀ (fuel n : Nat) (ds : List Char), ((Nat.toDigitsCore 2 fuel n ds).map Char.toNat).count 49 = popF fuel n + (ds.map Char.toNat).count 49
  | 0, n, ds => by simp [Nat.toDigitsCore, popF]
  | fuel + 1, n, ds => by
    have hd : (((Nat.digitChar (n % 2)) :: ds).map Char.toNat).count 49 = n % 2 + (ds.map Char.toNat).count 49 := by
      have : n % 2 = 0 ∨ n % 2 = 1 := by omega
      rcases this with h | h
      · rw [h, List.map_cons, List.count_cons_of_ne (by decide)]; omega
      · rw [h, List.map_cons, show (Nat.digitChar 1).toNat = 49 from rfl, List.count_cons_self]; omega
    simp only [Nat.toDigitsCore, popF]
    split
    · rename_i h
      rw [hd, h]
      have : popF fuel 0 = 0 := by
        clear hd h
        induction fuel with
        | zero => rfl
        | succ f ih => simp only [popF]; rw [show 0 / 2 = 0 from rfl, ih]
      omega
    · rw [core_count fuel (n / 2) _, hd]; omega
theorem sub_one (xs : List Nat) (i : Nat) (h : i < xs.length) : Str.subAt ⟨xs.toArray⟩ (Str.ofString "1") i = decide (xs[i] = 49) := by
  unfold Str.subAt
  have e : (xs.toArray.extract i (i + (Str.ofString "1").length)) = #[xs[i]] := by
    rw [show (Str.ofString "1").length = 1 from rfl]
    apply Array.ext
    · simp; omega
    · intro j h1 h2
      simp at h2
      subst h2
      simp
  show ((xs.toArray.extract i (i + (Str.ofString "1").length)) == (Str.ofString "1").cps) = _
  rw [e, show (Str.ofString "1").cps = #[49] from rfl]
  by_cases g : xs[i] = 49
  · rw [g]; decide
  · rw [decide_eq_false g]
    simp [g]
theorem occ_loop (xs : List Nat) : ∀ (len lo : Nat) (st : Array Nat × Nat), lo + len = xs.length + 1 → st.2 ≤ lo → st.1.size ≤ lo →
    (forIn (List.range' lo len) st (StrLaws.occBody ⟨xs.toArray⟩ (Str.ofString "1") xs.length (xs.length + 1))).run.fst.size = st.1.size + (xs.drop lo).count 49
  | 0, lo, st, h1, _, _ => by
    rw [List.drop_eq_nil_of_le (by omega)]
    simp [List.range']
  | len + 1, lo, st, h1, h2, h3 => by
    rw [List.range'_succ, List.forIn_cons]
    unfold StrLaws.occBody
    have l1 : (Str.ofString "1").length = 1 := rfl
    by_cases g : lo < xs.length
    · rw [List.drop_eq_getElem_cons g]
      by_cases q : xs[lo] = 49
      · rw [if_pos ⟨⟨⟨by omega, h2⟩, by rw [l1]; omega⟩, by rw [sub_one xs lo g]; exact decide_eq_true q⟩]
        have := occ_loop xs len (lo + 1) (st.1.push lo, lo + (Str.ofString "1").length) (by omega) (by rw [l1]; omega) (by simp; omega)
        refine Eq.trans this ?_
        rw [Array.size_push, q, List.count_cons_self]; omega
      · rw [if_neg (fun h => q (by have := h.2; rw [sub_one xs lo g] at this; exact of_decide_eq_true this))]
        have := occ_loop xs len (lo + 1) (st.1, st.2) (by omega) (by show st.2 ≤ lo + 1; omega) (by show st.1.size ≤ lo + 1; omega)
        refine Eq.trans this ?_
        rw [List.count_cons_of_ne q]
    · rw [if_neg (fun h => by have := h.1.2; rw [l1] at this; omega)]
      have := occ_loop xs len (lo + 1) (st.1, st.2) (by omega) (by show st.2 ≤ lo + 1; omega) (by show st.1.size ≤ lo + 1; omega)
      refine Eq.trans this ?_
      rw [List.drop_eq_nil_of_le (show xs.length ≤ lo + 1 by omega), List.drop_eq_nil_of_le (show xs.length ≤ lo by omega)]
theorem count_bin (a : Nat) : Txt.count (binText a) (Str.ofString "1") = (popF (a + 1) a : Nat) := by
  unfold Txt.count
  have hl : (binText a).length = ((Nat.toDigits 2 a).map Char.toNat).length := by
    show (List.toArray _).size = _
    simp
  rw [StrLaws.occ_eq, Array.length_toList]
  have := occ_loop ((Nat.toDigits 2 a).map Char.toNat) (((Nat.toDigits 2 a).map Char.toNat).length + 1) 0 (#[], 0) (by omega) (Nat.le_refl _) (Nat.le_refl _)
  rw [hl]
  have e : (forIn (List.range' 0 (((Nat.toDigits 2 a).map Char.toNat).length + 1 - 0)) ((#[] : Array Nat), 0) (StrLaws.occBody (binText a) (Str.ofString "1") ((Nat.toDigits 2 a).map Char.toNat).length (((Nat.toDigits 2 a).map Char.toNat).length + 1))).run.fst.size = popF (a + 1) a := by
    refine Eq.trans this ?_
    have h2 := core_count (a + 1) a []
    simpa [Nat.toDigits] using h2
  exact congrArg (fun n : Nat => (n : Int)) e
theorem bin_len (a : Nat) : (binText a).length ≤ a + 2 := by
  show (List.toArray _).size ≤ _
  have := toDigitsCore_len (a + 1) a []
  simp [Nat.toDigits] at this ⊢
  omega
theorem core_len2 : ∀ (fuel n k : Nat) (ds : List Char), n < 2 ^ (k + 1) → (Nat.toDigitsCore 2 fuel n ds).length ≤ ds.length + (k + 1)
  | 0, n, k, ds, _ => by simp [Nat.toDigitsCore]
  | fuel + 1, n, k, ds, h => by
    simp only [Nat.toDigitsCore]
    split
    · simp only [List.length_cons]; omega
    · rename_i h2
      cases k with
      | zero => simp at h; omega
      | succ k =>
        have := core_len2 fuel (n / 2) k (Nat.digitChar (n % 2) :: ds) (by rw [Nat.pow_succ] at h; omega)
        simp only [List.length_cons] at this
        omega
theorem bin_len2 {a k : Nat} (h : a < 2 ^ (k + 1)) : (binText a).length ≤ k + 1 := by
  show (List.toArray _).size ≤ _
  have := core_len2 (a + 1) a k [] h
  simp [Nat.toDigits] at this ⊢
  omega
end DL

namespace DL
open PySem PySem.Spec PyProof.Rows L2
section
variable {X : Cx} {np : Nat} {He : Hp} {a : Expr} {wa : W} {pos : Pos}
/-! ### the least and the greatest of a list of ints -/
def fMinL : FA := onL fun xs k => match intsD xs with
  | some ns => 0 < ns.length ∧ ∀ m, m ∈ ns → (∀ y, y ∈ ns → m ≤ y) → k (.int m)
  | none => False
def fMaxL : FA := onL fun xs k => match intsD xs with
  | some ns => 0 < ns.length ∧ ∀ m, m ∈ ns → (∀ y, y ∈ ns → y ≤ m) → k (.int m)
  | none => False
theorem e_minL {p : Pos} (hc : X.calm = true) (hm : X.mg "min" = none) (ha : DE X np He a wa) (hg : Gl X "min" := by rfl) (he : starEach [a] X.env = (false, eval a X.env) :: starEach [] X.env := by rfl) :
    DE X np He (.Call (.Name "min" p) [a] [] pos) (cBi fMinL (cCons wa cNil)) := by
  refine e_bi (cr_min hc) ?_ hm (by decide +kernel) (a_cons ha a_nil he) hg (he := he)
  intro H ds vs k Q r h q
  obtain ⟨xs, e0, g⟩ := onL_of h
  subst e0
  obtain ⟨v, rfl, rv⟩ := r.one
  obtain ⟨p, us, rfl, s, ru⟩ := rv
  split at g
  · rename_i ns e
    have e2 := intsD_ok ru e
    subst e2
    exact ⟨p, ns, rfl, .of s, g.1, fun m h1 h2 => q _ _ H (g.2 m h1 h2) (.refl H) rfl (fun n => by simp [isL] at n)⟩
  · exact g.elim
theorem e_maxL {p : Pos} (hc : X.calm = true) (hm : X.mg "max" = none) (ha : DE X np He a wa) (hg : Gl X "max" := by rfl) (he : starEach [a] X.env = (false, eval a X.env) :: starEach [] X.env := by rfl) :
    DE X np He (.Call (.Name "max" p) [a] [] pos) (cBi fMaxL (cCons wa cNil)) := by
  refine e_bi (cr_max hc) ?_ hm (by decide +kernel) (a_cons ha a_nil he) hg (he := he)
  intro H ds vs k Q r h q
  obtain ⟨xs, e0, g⟩ := onL_of h
  subst e0
  obtain ⟨v, rfl, rv⟩ := r.one
  obtain ⟨p, us, rfl, s, ru⟩ := rv
  split at g
  · rename_i ns e
    have e2 := intsD_ok ru e
    subst e2
    exact ⟨p, ns, rfl, .of s, g.1, fun m h1 h2 => q _ _ H (g.2 m h1 h2) (.refl H) rfl (fun n => by simp [isL] at n)⟩
  · exact g.elim
end
end DL

namespace DL
open PySem PySem.Spec PyProof.Rows L2
/-! ### texts -/
def strsD : List D → Option (List Str)
  | [] => some []
  | .str x :: r => (strsD r).map (x :: ·)
  | _ :: _ => none
theorem strsD_ok {K : PySem.W.Frag} {H : Hp} : ∀ {ds : List D} {vs : List V} {ns : List Str}, RpIs K H ds vs → strsD ds = some ns → vs = ns.map V.str
  | [], vs, ns, r, h => by
    simp only [RpIs] at r
    simp only [strsD, Option.some.injEq] at h
    subst r h
    rfl
  | d :: ds, vs, ns, r, h => by
    cases d <;> first | (simp only [strsD] at h; cases h; done) | skip
    simp only [RpIs, RpI] at r
    obtain ⟨v, r', rfl, rfl, h2⟩ := r
    simp only [strsD, Option.map_eq_some_iff] at h
    obtain ⟨ms, e, rfl⟩ := h
    rw [List.map_cons, strsD_ok h2 e]
theorem strsD_map (ns : List Str) : strsD (ns.map D.str) = some ns := by
  induction ns with
  | nil => rfl
  | cons n r ih => simp [strsD, ih]
def fIxS : F2 := fun x y k => match x, y with
  | .str z, .int i => z.length ≤ 1000000 ∧ (match L2.atI z.cps.toList i with
    | some c => k (.str ⟨#[c]⟩)
    | none => False)
  | _, _ => False
def fAddS : F2 := fun x y k => match x, y with
  | .str a, .str b => a.length + b.length ≤ 1000000 ∧ k (.str (a ++ b))
  | _, _ => False
def fJoin (z : Str) : F1 := fun x k => match x with
  | .lst xs => (match strsD xs with
    | some ys => (ys.map (·.length)).sum + ys.length * z.length ≤ 16777216 ∧ k (.str (Txt.join z ys))
    | none => False)
  | _ => False
def fSortS : FA := onL fun xs k => match strsD xs with
  | some zs => zs.length < 64 ∧ ∀ ys : List Str, ys.Perm zs → sortedS ys = true → k (.lst (ys.map D.str))
  | none => False
section
variable {X : Cx} {np : Nat} {He : Hp} {a b : Expr} {wa wb : W} {pos : Pos}
theorem opd_ixS : OpD X.K rIxS fIxS := by
  intro H x y v w k Q rx ry h q
  unfold fIxS at h
  split at h
  · cases rx; cases ry
    obtain ⟨h1, h⟩ := h
    split at h
    · rename_i c e
      exact ⟨_, _, c, rfl, rfl, line_of h1, e, q _ _ H h (.refl H) rfl (fun n => by simp [isL] at n)⟩
    · exact h.elim
  · exact h.elim
theorem e_ixStr (ha : DE X np He a wa) (hb : DE X np He b wb) (hs : PlainIx b := by exact fun _ _ => rfl) : DE X np He (.Subscript a b pos) (cOp fIxS wa wb) := e_ix ix_str opd_ixS ha hb hs
theorem e_addS (ha : DE X np He a wa) (hb : DE X np He b wb) : DE X np He (.BinOp a .Add b pos) (cOp fAddS wa wb) := by
  refine e_op op_add_str ?_ ha hb
  intro H x y v w k Q rx ry h q
  unfold fAddS at h
  split at h
  · cases rx; cases ry
    exact ⟨_, _, rfl, rfl, line_of h.1, q _ _ H h.2 (.refl H) rfl (fun n => by simp [isL] at n)⟩
  · exact h.elim
theorem e_join {z : Str} {j : Nat} {p apos : Pos} (ha : DE X np He a wa) (hs : starEach [a] X.env = [(false, eval a X.env)] := by rfl) (hbase : attributeBase (.Constant (.str z) j p) "join" X.env (eval (.Constant (.str z) j p) X.env) = eval (.Constant (.str z) j p) X.env := by rfl) (hline : (apos.endLine == pos.line) = true := by rfl) :
    DE X np He (.Call (.Attribute (.Constant (.str z) j p) "join" apos) [a] [] pos) (cUn (fJoin z) wa) := by
  refine PE.weak (pe_join pe_str ha hs hbase hline) fun σ H Q ⟨env, Q0, R, w, q⟩ => ⟨⟨z, rfl⟩, env, _, R, w, fun ra e1 v1 H1 w1 s1 r1 => ?_⟩
  obtain ⟨x, hx, w1⟩ := r1.rs s1.rep w1
  unfold fJoin at w1
  split at w1
  · rename_i xs
    obtain ⟨p, us, rfl, s, ru⟩ := hx
    split at w1
    · rename_i ys e
      have e2 := strsD_ok ru e
      subst e2
      exact ⟨z, p, ys, rfl, rfl, .inl (.of s), w1.1, q _ e1 _ H1 w1.2 s1 ⟨rfl, fun n => by simp [isL] at n⟩⟩
    · exact w1.elim
  · exact w1.elim
theorem e_sortedS {p : Pos} (hc : X.calm = true) (hm : X.mg "sorted" = none) (ha : DE X np He a wa) (hg : Gl X "sorted" := by rfl) (he : starEach [a] X.env = (false, eval a X.env) :: starEach [] X.env := by rfl) :
    DE X np He (.Call (.Name "sorted" p) [a] [] pos) (cBi fSortS (cCons wa cNil)) := by
  refine e_bi cr_sortedS ?_ hm PyProof.Rows.boot_sorted (a_cons ha a_nil he) hg (he := he)
  intro H ds vs k Q r h q
  obtain ⟨xs, e0, g⟩ := onL_of h
  subst e0
  obtain ⟨v, rfl, rv⟩ := r.one
  obtain ⟨p, us, rfl, s, ru⟩ := rv
  split at g
  · rename_i zs e
    have e2 := strsD_ok ru e
    subst e2
    refine ⟨p, zs, rfl, .of s, g.1, fun ys p3 h1 h2 n3 => q (.lst (ys.map D.str)) _ _ (g.2 ys h1 h2) (.new n3) ⟨p3, ys.map V.str, rfl, upd_same, ?_⟩ (fun _ b e => by cases e; exact n3)⟩
    have go : ∀ (K : PySem.W.Frag) (G : Hp) (l : List Str), RpIs K G (l.map D.str) (l.map V.str) := fun K G l => by
      induction l with
      | nil => exact rfl
      | cons m r ih => exact ⟨_, _, rfl, rfl, ih⟩
    exact go _ _ _
  · exact g.elim
end
end DL

namespace DL
open PySem PySem.Spec PyProof.Rows L2
/-! ### texts, sign by sign -/
def sgn1 (c : Nat) : D := .str ⟨#[c]⟩
def sgnD (z : Str) : List D := z.cps.toList.map sgn1
def iS (wa : W) : WI := fun env Q => wa env fun r e1 => rs e1 r fun d => match d with
  | .str z => Q ⟨sgnD z, []⟩ e1
  | _ => False
def fAll : FA := onL fun xs k => match bolsD xs with
  | some ns => k (.bl (ns.all id))
  | none => False
def fLenS : FA := on1 fun d k => match d with
  | .str z => z.length ≤ 1000000 ∧ k (.int z.length)
  | _ => False
def fNotInS : F2 := fun x y k => match x, y with
  | .str x, .str z => ∃ c, x = ⟨#[c]⟩ ∧ k (.bl (!decide (c ∈ z.cps.toList)))
  | _, _ => False
def fLeS : F2 := fun x y k => match x, y with
  | .str i, .str j => k (.bl (!decide (j.cps.toList < i.cps.toList)))
  | _, _ => False
def slS (x : D) (lo hi : Option Int) (k : D → Prop) : Prop := match x with
  | .str z => z.length ≤ 1000000 ∧ k (.str (cutS z lo hi))
  | _ => False
def cSlLS (wa wb : W) : W := fun env Q => wa env fun ra e1 => wb e1 fun rb e2 => rs e2 rb fun y => isI y fun lo => rs e2 ra fun x => slS x (some lo) none fun z => Q (.val z) e2
def cSlHS (wa wb : W) : W := fun env Q => wa env fun ra e1 => wb e1 fun rb e2 => rs e2 rb fun y => isI y fun hi => rs e2 ra fun x => slS x none (some hi) fun z => Q (.val z) e2
section
variable {X : Cx} {np : Nat} {He : Hp} {a b tg : Expr} {wa wb : W} {pos : Pos}
theorem i_str (ha : DE X np He a wa) : DI X np He tg a (iS wa) := by
  refine PI.weak (pi_str ha) fun σ H R ⟨env, Q0, Rp, w, q⟩ => ⟨env, _, Rp, w, fun r e1 v H1 w1 s1 r1 => ?_⟩
  obtain ⟨d, hd, w1⟩ := r1.rs s1.rep w1
  cases d <;> first | exact False.elim w1 | skip
  rename_i z
  cases hd
  have hz : z.cps.size = (sgnD z).length := by simp [sgnD]
  refine ⟨z, rfl, ?_⟩
  refine q ⟨sgnD z, []⟩ e1 H1 (Its z) (fun _ => True) (fun i H v H' => H' = H ∧ ∃ c, z.cps[i]? = some c ∧ v = .str ⟨#[c]⟩) w1 s1 (hz ▸ walk_str) (fun p hp => absurd hp (by simp)) (fun i H2 x H3 hi y _ => ?_) (fun _ _ => trivial)
  obtain ⟨rfl, c, hc, rfl⟩ := y
  refine ⟨.refl _, sgn1 c, ?_, ?_⟩
  · show (sgnD z)[i]? = some (sgn1 c)
    unfold sgnD
    rw [List.getElem?_map, Array.getElem?_toList, hc]
    rfl
  · simp only [sgn1, RpI]
theorem e_all {p : Pos} (hc : X.calm = true) (hm : X.mg "all" = none) (ha : DE X np He a wa) (hg : Gl X "all" := by rfl) (he : starEach [a] X.env = (false, eval a X.env) :: starEach [] X.env := by rfl) :
    DE X np He (.Call (.Name "all" p) [a] [] pos) (cBi fAll (cCons wa cNil)) := by
  refine e_bi (cr_all hc) ?_ hm (by decide +kernel) (a_cons ha a_nil he) hg (he := he)
  intro H ds vs k Q r h q
  obtain ⟨xs, e0, g⟩ := onL_of h
  subst e0
  obtain ⟨v, rfl, rv⟩ := r.one
  obtain ⟨p, us, rfl, s, ru⟩ := rv
  split at g
  · rename_i ns e
    have e2 := bolsD_ok ru e
    subst e2
    exact ⟨p, ns, rfl, .of s, q _ _ H g (.refl H) rfl (fun n => by simp [isL] at n)⟩
  · exact g.elim
theorem e_lenS {p : Pos} (hm : X.mg "len" = none) (ha : DE X np He a wa) (hg : Gl X "len" := by rfl) (he : starEach [a] X.env = (false, eval a X.env) :: starEach [] X.env := by rfl) :
    DE X np He (.Call (.Name "len" p) [a] [] pos) (cBi fLenS (cCons wa cNil)) := by
  refine e_bi call_len_str ?_ hm (by decide +kernel) (a_cons ha a_nil he) hg (he := he)
  intro H ds vs k Q r h q
  obtain ⟨d, rfl, h⟩ := on1_of h
  obtain ⟨v, rfl, rv⟩ := r.one
  cases d <;> first | exact h.elim | skip
  cases rv
  exact ⟨_, rfl, line_of h.1, q _ _ H h.2 (.refl H) rfl (fun n => by simp [isL] at n)⟩
theorem opd_notInS : OpD X.K (fun x y H Q => ∃ (c : Nat) (z : Str), x = .str ⟨#[c]⟩ ∧ y = .str z ∧ Q (.bl (!decide (c ∈ z.cps.toList))) H) fNotInS := by
  intro H x y v w k Q rx ry h q
  unfold fNotInS at h
  split at h
  · cases rx; cases ry
    obtain ⟨c, rfl, h⟩ := h
    exact ⟨c, _, rfl, rfl, q _ _ H h (.refl H) rfl (fun n => by simp [isL] at n)⟩
  · exact h.elim
theorem t_notInS (ha : DE X np He a wa) (hb : DE X np He b wb) (hm : behindInMarks .NotIn b = false := by with_unfolding_all rfl) : DT X np He (.Compare a [.NotIn] [b] pos) (cOp fNotInS wa wb) := t_cmp op_notIn_sign opd_notInS ha hb hm
theorem opd_leS : OpD X.K (fun x y H Q => ∃ i j, x = .str i ∧ y = .str j ∧ Q (.bl (!decide (j.cps.toList < i.cps.toList))) H) fLeS := by
  intro H x y v w k Q rx ry h q
  unfold fLeS at h
  split at h
  · cases rx; cases ry
    exact ⟨_, _, rfl, rfl, q _ _ H h (.refl H) rfl (fun n => by simp [isL] at n)⟩
  · exact h.elim
theorem e_slLS {p2 : Pos} (ha : DE X np He a wa) (hb : DE X np He b wb) : DE X np He (.Subscript a (.Slice (some b) none none p2) pos) (cSlLS wa wb) := by
  refine PE.weak (pe_slice sl_str ha (po_some hb) po_none) fun σ H Q ⟨env, Q0, R, w, q⟩ => ⟨env, _, R, w, fun ra e1 v1 H1 w1 s1 r1 => ⟨e1, _, s1.rep, w1, fun rb e2 v2 H2 w2 s2 r2 => ?_⟩⟩
  obtain ⟨y, hy, w2⟩ := r2.rs s2.rep w2
  obtain ⟨i, rfl, w2⟩ := isI_of w2
  have s12 := s1.trans s2
  obtain ⟨x, hx, w2⟩ := (r1.keep R s1 s2).rs s2.rep w2
  cases x <;> first | exact False.elim w2 | skip
  cases hx
  exact ⟨i, hy, _, rfl, line_of w2.1, q _ e2 _ H2 w2.2 s12 ⟨rfl, fun n => by simp [isL] at n⟩⟩
theorem e_slHS {p2 : Pos} (ha : DE X np He a wa) (hb : DE X np He b wb) : DE X np He (.Subscript a (.Slice none (some b) none p2) pos) (cSlHS wa wb) := by
  refine PE.weak (pe_slice sl_str ha po_none (po_some hb)) fun σ H Q ⟨env, Q0, R, w, q⟩ => ⟨env, _, R, w, fun ra e1 v1 H1 w1 s1 r1 => ⟨e1, _, s1.rep, w1, fun rb e2 v2 H2 w2 s2 r2 => ?_⟩⟩
  obtain ⟨y, hy, w2⟩ := r2.rs s2.rep w2
  obtain ⟨i, rfl, w2⟩ := isI_of w2
  have s12 := s1.trans s2
  obtain ⟨x, hx, w2⟩ := (r1.keep R s1 s2).rs s2.rep w2
  cases x <;> first | exact False.elim w2 | skip
  cases hx
  exact ⟨i, hy, _, rfl, line_of w2.1, q _ e2 _ H2 w2.2 s12 ⟨rfl, fun n => by simp [isL] at n⟩⟩
end
end DL

namespace DL
open PySem PySem.Spec PyProof.Rows L2
/-! ### spans, lines, tables as data -/
abbrev Sp2 := List (Int × Int)
abbrev Ln := Int × Sp2
def encP (p : Int × Int) : D := .tup [.int p.1, .int p.2]
def encS (s : Sp2) : D := .tup (s.map encP)
def encL (l : Ln) : D := .tup [.int l.1, encS l.2]
def encT (c : Int) (ls : List Ln) : D := .tup [.int c, .tup (ls.map encL)]
def SpOk (c : Int) : Int → Sp2 → Prop
  | _, [] => True
  | lo, (a, b) :: r => lo ≤ a ∧ a < b ∧ b ≤ c ∧ SpOk c (b + 1) r
def LsOk (c : Int) : Int → List Ln → Prop
  | _, [] => True
  | p, (s, sp) :: r => p < s ∧ SpOk c 0 sp ∧ LsOk c s r
def TbOk (c : Int) (ls : List Ln) : Prop := (1 ≤ c ∧ c ≤ 60) ∧ ∃ sp r, ls = (0, sp) :: r ∧ SpOk c 0 sp ∧ LsOk c 0 r
def inS (p : Int) (s : Sp2) : Bool := s.any fun q => decide (q.1 ≤ p) && decide (p < q.2)

/-! ### draws -/
def sp_law_take : FSpec where
  pre := fun ds => match ds with
    | [.lst xs, .int m] => IsInts xs ∧ 0 < m
    | _ => False
  post := fun ds r ds' => match ds with
    | [.lst _, .int m] => ∃ ns v, r = .int v ∧ ds' = [.lst (List.map D.int ns), .int m] ∧ 0 ≤ v ∧ v < m
    | _ => False
/-- slots: 0 draws, 1 many -/
def w_law_take : WS :=
    (cSeq (cIte (cOp fEqS (cBi fLen (cCons (cVar 0) cNil)) (cC (.int 0)))
      (cRet 2 (cC (.int 0)))
      cNilS)
    (cRet 2 (cOp fMod (cBi fInt (cCons (cMeth 0 fPop cNil) cNil)) (cVar 1))))
theorem of_take {ds : List D} (h : sp_law_take.pre ds) : ∃ (ns : List Int) (m : Int), ds = [.lst (ns.map D.int), .int m] ∧ 0 < m := by
  unfold sp_law_take at h
  dsimp only at h
  split at h
  · obtain ⟨⟨ns, rfl⟩, h⟩ := h
    exact ⟨ns, _, rfl, h⟩
  · exact h.elim
theorem pure_law_take : ∀ ds, ds.length = 2 → sp_law_take.pre ds → w_law_take (env0 ds 0) { nx := fun e => sp_law_take.post ds .non (outs e 2), rt := fun d e => sp_law_take.post ds d (outs e 2) } := by
  intro ds _ h
  obtain ⟨ns, m, rfl, hm⟩ := of_take h
  (conv => whnf); (repeat (first | (refine And.intro rfl ?_; conv => whnf) | (refine And.intro trivial ?_; conv => whnf) | (refine And.intro ⟨rfl, trivial⟩ ?_; conv => whnf) | (refine And.intro ⟨rfl, rfl, trivial⟩ ?_; conv => whnf) | (refine ifb_t ?_; conv => whnf) | (refine ifb_f ?_; conv => whnf) | (refine ifb_nr ?_; conv => whnf) | (refine ifb_er ?_; conv => whnf) | (refine And.intro (by first | decide | omega | (unfold CMul; omega) | (unfold CDiv; omega) | (unfold CPow; decide) | (exact cpow1 (by omega) (by omega)) | (exact cpow1 (by dsimp only; omega) (by dsimp only; omega)) | (simp only [rngD_len, List.length_replicate, List.length_map, List.length_append, List.length_cons, List.length_nil, List.length_set] at *; omega)) ?_; conv => whnf)))
  refine ifb_dec (fun e => ?_) (fun e => ?_)
  · (conv => whnf); (repeat (first | (refine And.intro rfl ?_; conv => whnf) | (refine And.intro trivial ?_; conv => whnf) | (refine And.intro ⟨rfl, trivial⟩ ?_; conv => whnf) | (refine And.intro ⟨rfl, rfl, trivial⟩ ?_; conv => whnf) | (refine ifb_t ?_; conv => whnf) | (refine ifb_f ?_; conv => whnf) | (refine ifb_nr ?_; conv => whnf) | (refine ifb_er ?_; conv => whnf) | (refine And.intro (by first | decide | omega | (unfold CMul; omega) | (unfold CDiv; omega) | (unfold CPow; decide) | (exact cpow1 (by omega) (by omega)) | (exact cpow1 (by dsimp only; omega) (by dsimp only; omega)) | (simp only [rngD_len, List.length_replicate, List.length_map, List.length_append, List.length_cons, List.length_nil, List.length_set] at *; omega)) ?_; conv => whnf)))
    exact ⟨ns, 0, rfl, rfl, Int.le_refl _, hm⟩
  · have hne : ns ≠ [] := fun z => by subst z; exact e rfl
    obtain ⟨xs, x, rfl⟩ : ∃ xs x, ns = xs ++ [x] := ⟨_, _, (List.dropLast_concat_getLast hne).symm⟩
    have el : (List.map D.int (xs ++ [x])).getLast? = some (D.int x) := by simp
    have ed : (List.map D.int (xs ++ [x])).dropLast = xs.map D.int := by simp
    (conv => whnf); (repeat (first | (refine And.intro rfl ?_; conv => whnf) | (refine And.intro trivial ?_; conv => whnf) | (refine And.intro ⟨rfl, trivial⟩ ?_; conv => whnf) | (refine And.intro ⟨rfl, rfl, trivial⟩ ?_; conv => whnf) | (refine ifb_t ?_; conv => whnf) | (refine ifb_f ?_; conv => whnf) | (refine ifb_nr ?_; conv => whnf) | (refine ifb_er ?_; conv => whnf) | (refine And.intro (by first | decide | omega | (unfold CMul; omega) | (unfold CDiv; omega) | (unfold CPow; decide) | (exact cpow1 (by omega) (by omega)) | (exact cpow1 (by dsimp only; omega) (by dsimp only; omega)) | (simp only [rngD_len, List.length_replicate, List.length_map, List.length_append, List.length_cons, List.length_nil, List.length_set] at *; omega)) ?_; conv => whnf)))
    rw [el, ed]
    (conv => whnf); (repeat (first | (refine And.intro rfl ?_; conv => whnf) | (refine And.intro trivial ?_; conv => whnf) | (refine And.intro ⟨rfl, trivial⟩ ?_; conv => whnf) | (refine And.intro ⟨rfl, rfl, trivial⟩ ?_; conv => whnf) | (refine ifb_t ?_; conv => whnf) | (refine ifb_f ?_; conv => whnf) | (refine ifb_nr ?_; conv => whnf) | (refine ifb_er ?_; conv => whnf) | (refine And.intro (by first | decide | omega | (unfold CMul; omega) | (unfold CDiv; omega) | (unfold CPow; decide) | (exact cpow1 (by omega) (by omega)) | (exact cpow1 (by dsimp only; omega) (by dsimp only; omega)) | (simp only [rngD_len, List.length_replicate, List.length_map, List.length_append, List.length_cons, List.length_nil, List.length_set] at *; omega)) ?_; conv => whnf)))
    exact ⟨xs, x % m, rfl, rfl, Int.emod_nonneg _ (by omega), Int.emod_lt_of_pos _ hm⟩
def sp_law_cycle : FSpec where
  pre := fun ds => match ds with
    | [.lst xs] => IsInts xs
    | _ => False
  post := fun _ r ds' => ∃ ns c, r = .int c ∧ ds' = [.lst (List.map D.int ns)] ∧ 1 ≤ c ∧ c ≤ 60
/-- slots: 0 draws -/
def w_law_cycle : WS :=
    (cSeq (cIte (cOp fEqS (cCallN 2 sp_law_take (cCons (cVar 0) (cCons (cC (.int 8)) cNil))) (cC (.int 0)))
      (cRet 1 (cOp fAddG (cC (.int 1)) (cCallN 2 sp_law_take (cCons (cVar 0) (cCons (cC (.int 60)) cNil)))))
      cNilS)
    (cRet 1 (cOp fAddG (cC (.int 1)) (cCallN 2 sp_law_take (cCons (cVar 0) (cCons (cC (.int 6)) cNil))))))
theorem pure_law_cycle : ∀ ds, ds.length = 1 → sp_law_cycle.pre ds → w_law_cycle (env0 ds 0) { nx := fun e => sp_law_cycle.post ds .non (outs e 1), rt := fun d e => sp_law_cycle.post ds d (outs e 1) } := by
  intro ds _ h
  unfold sp_law_cycle at h
  dsimp only at h
  split at h
  · obtain ⟨ns, rfl⟩ := h
    (conv => whnf); (repeat (first | (refine And.intro rfl ?_; conv => whnf) | (refine And.intro trivial ?_; conv => whnf) | (refine And.intro ⟨rfl, trivial⟩ ?_; conv => whnf) | (refine And.intro ⟨rfl, rfl, trivial⟩ ?_; conv => whnf) | (refine ifb_t ?_; conv => whnf) | (refine ifb_f ?_; conv => whnf) | (refine ifb_nr ?_; conv => whnf) | (refine ifb_er ?_; conv => whnf) | (refine And.intro (by first | decide | omega | (unfold CMul; omega) | (unfold CDiv; omega) | (unfold CPow; decide) | (exact cpow1 (by omega) (by omega)) | (exact cpow1 (by dsimp only; omega) (by dsimp only; omega)) | (simp only [rngD_len, List.length_replicate, List.length_map, List.length_append, List.length_cons, List.length_nil, List.length_set] at *; omega)) ?_; conv => whnf)))
    refine ⟨⟨⟨_, rfl⟩, by first | decide | omega⟩, ?_⟩; rintro _ _ ⟨ns1, v, rfl, rfl, h0, h1⟩; (conv => whnf); (repeat (first | (refine And.intro rfl ?_; conv => whnf) | (refine And.intro trivial ?_; conv => whnf) | (refine And.intro ⟨rfl, trivial⟩ ?_; conv => whnf) | (refine And.intro ⟨rfl, rfl, trivial⟩ ?_; conv => whnf) | (refine ifb_t ?_; conv => whnf) | (refine ifb_f ?_; conv => whnf) | (refine ifb_nr ?_; conv => whnf) | (refine ifb_er ?_; conv => whnf) | (refine And.intro (by first | decide | omega | (unfold CMul; omega) | (unfold CDiv; omega) | (unfold CPow; decide) | (exact cpow1 (by omega) (by omega)) | (exact cpow1 (by dsimp only; omega) (by dsimp only; omega)) | (simp only [rngD_len, List.length_replicate, List.length_map, List.length_append, List.length_cons, List.length_nil, List.length_set] at *; omega)) ?_; conv => whnf)))
    refine ifb_dec (fun e => ?_) (fun e => ?_)
    · (conv => whnf); (repeat (first | (refine And.intro rfl ?_; conv => whnf) | (refine And.intro trivial ?_; conv => whnf) | (refine And.intro ⟨rfl, trivial⟩ ?_; conv => whnf) | (refine And.intro ⟨rfl, rfl, trivial⟩ ?_; conv => whnf) | (refine ifb_t ?_; conv => whnf) | (refine ifb_f ?_; conv => whnf) | (refine ifb_nr ?_; conv => whnf) | (refine ifb_er ?_; conv => whnf) | (refine And.intro (by first | decide | omega | (unfold CMul; omega) | (unfold CDiv; omega) | (unfold CPow; decide) | (exact cpow1 (by omega) (by omega)) | (exact cpow1 (by dsimp only; omega) (by dsimp only; omega)) | (simp only [rngD_len, List.length_replicate, List.length_map, List.length_append, List.length_cons, List.length_nil, List.length_set] at *; omega)) ?_; conv => whnf)))
      refine ⟨⟨⟨_, rfl⟩, by first | decide | omega⟩, ?_⟩; rintro _ _ ⟨ns2, v2, rfl, rfl, h2, h3⟩; (conv => whnf); (repeat (first | (refine And.intro rfl ?_; conv => whnf) | (refine And.intro trivial ?_; conv => whnf) | (refine And.intro ⟨rfl, trivial⟩ ?_; conv => whnf) | (refine And.intro ⟨rfl, rfl, trivial⟩ ?_; conv => whnf) | (refine ifb_t ?_; conv => whnf) | (refine ifb_f ?_; conv => whnf) | (refine ifb_nr ?_; conv => whnf) | (refine ifb_er ?_; conv => whnf) | (refine And.intro (by first | decide | omega | (unfold CMul; omega) | (unfold CDiv; omega) | (unfold CPow; decide) | (exact cpow1 (by omega) (by omega)) | (exact cpow1 (by dsimp only; omega) (by dsimp only; omega)) | (simp only [rngD_len, List.length_replicate, List.length_map, List.length_append, List.length_cons, List.length_nil, List.length_set] at *; omega)) ?_; conv => whnf)))
      exact ⟨ns2, 1 + v2, rfl, rfl, by omega, by omega⟩
    · (conv => whnf); (repeat (first | (refine And.intro rfl ?_; conv => whnf) | (refine And.intro trivial ?_; conv => whnf) | (refine And.intro ⟨rfl, trivial⟩ ?_; conv => whnf) | (refine And.intro ⟨rfl, rfl, trivial⟩ ?_; conv => whnf) | (refine ifb_t ?_; conv => whnf) | (refine ifb_f ?_; conv => whnf) | (refine ifb_nr ?_; conv => whnf) | (refine ifb_er ?_; conv => whnf) | (refine And.intro (by first | decide | omega | (unfold CMul; omega) | (unfold CDiv; omega) | (unfold CPow; decide) | (exact cpow1 (by omega) (by omega)) | (exact cpow1 (by dsimp only; omega) (by dsimp only; omega)) | (simp only [rngD_len, List.length_replicate, List.length_map, List.length_append, List.length_cons, List.length_nil, List.length_set] at *; omega)) ?_; conv => whnf)))
      refine ⟨⟨⟨_, rfl⟩, by first | decide | omega⟩, ?_⟩; rintro _ _ ⟨ns2, v2, rfl, rfl, h2, h3⟩; (conv => whnf); (repeat (first | (refine And.intro rfl ?_; conv => whnf) | (refine And.intro trivial ?_; conv => whnf) | (refine And.intro ⟨rfl, trivial⟩ ?_; conv => whnf) | (refine And.intro ⟨rfl, rfl, trivial⟩ ?_; conv => whnf) | (refine ifb_t ?_; conv => whnf) | (refine ifb_f ?_; conv => whnf) | (refine ifb_nr ?_; conv => whnf) | (refine ifb_er ?_; conv => whnf) | (refine And.intro (by first | decide | omega | (unfold CMul; omega) | (unfold CDiv; omega) | (unfold CPow; decide) | (exact cpow1 (by omega) (by omega)) | (exact cpow1 (by dsimp only; omega) (by dsimp only; omega)) | (simp only [rngD_len, List.length_replicate, List.length_map, List.length_append, List.length_cons, List.length_nil, List.length_set] at *; omega)) ?_; conv => whnf)))
      exact ⟨ns2, 1 + v2, rfl, rfl, by omega, by omega⟩
  · exact h.elim
def sp_law_size : FSpec where
  pre := fun ds => match ds with
    | [.lst xs, .rol ys] => IsInts xs ∧ IsInts ys
    | _ => False
  post := fun ds r ds' => match ds with
    | [_, .rol ys] => ∃ ns v, r = .int v ∧ ds' = [.lst (List.map D.int ns), .rol ys] ∧ 0 ≤ v
    | _ => False
/-- slots: 0 draws, 1 script, 2 kind, 3 number, 4 k -/
def w_law_size : WS :=
    (cSeq (cAsg 2 [0, 1] 2 (cCallN 2 sp_law_take (cCons (cVar 0) (cCons (cC (.int 8)) cNil))))
    (cSeq (cIte (cOp fLt (cVar 2) (cC (.int 5)))
      (cRet 2 (cCallN 2 sp_law_take (cCons (cVar 0) (cCons (cC (.int 12)) cNil))))
      cNilS)
    (cSeq (cIte (cOp fEqS (cVar 2) (cC (.int 5)))
      (cRet 2 (cCallN 2 sp_law_take (cCons (cVar 0) (cCons (cC (.int 100)) cNil))))
      cNilS)
    (cSeq (cIte (cOr (cOp fEqS (cVar 2) (cC (.int 6))) (cOp fEqS (cBi fLen (cCons (cVar 1) cNil)) (cC (.int 0))))
      (cSeq (cAsg 2 [0, 1] 3 (cC (.int 0)))
        (cSeq (cFor [0, 1] (iR1 (cC (.int 5))) (gN 2 [0, 1] 4)
          (cAsg 2 [0, 1] 3 (cOp fAddG (cOp fMul (cVar 3) (cC (.int 1000))) (cCallN 2 sp_law_take (cCons (cVar 0) (cCons (cC (.int 1000)) cNil))))))
        (cRet 2 (cVar 3))))
      cNilS)
    (cRet 2 (cBi fAbs (cCons (cBi fInt (cCons (cOp fIx (cVar 1) (cCallN 2 sp_law_take (cCons (cVar 0) (cCons (cBi fLen (cCons (cVar 1) cNil)) cNil)))) cNil)) cNil)))))))
theorem pure_law_size : ∀ ds, ds.length = 2 → sp_law_size.pre ds → w_law_size (env0 ds 3) { nx := fun e => sp_law_size.post ds .non (outs e 2), rt := fun d e => sp_law_size.post ds d (outs e 2) } := by
  intro ds _ h
  unfold sp_law_size at h
  dsimp only at h
  split at h
  · obtain ⟨⟨ns, rfl⟩, ms, rfl⟩ := h
    (conv => whnf); (repeat (first | (refine And.intro rfl ?_; conv => whnf) | (refine And.intro trivial ?_; conv => whnf) | (refine And.intro ⟨rfl, trivial⟩ ?_; conv => whnf) | (refine And.intro ⟨rfl, rfl, trivial⟩ ?_; conv => whnf) | (refine ifb_t ?_; conv => whnf) | (refine ifb_f ?_; conv => whnf) | (refine ifb_nr ?_; conv => whnf) | (refine ifb_er ?_; conv => whnf) | (refine And.intro (by first | decide | omega | (unfold CMul; omega) | (unfold CDiv; omega) | (unfold CPow; decide) | (exact cpow1 (by omega) (by omega)) | (exact cpow1 (by dsimp only; omega) (by dsimp only; omega)) | (simp only [rngD_len, List.length_replicate, List.length_map, List.length_append, List.length_cons, List.length_nil, List.length_set] at *; omega)) ?_; conv => whnf)))
    refine ⟨⟨⟨_, rfl⟩, by first | decide | omega⟩, ?_⟩; rintro _ _ ⟨ns1, v, rfl, rfl, h0, h1⟩; (conv => whnf); (repeat (first | (refine And.intro rfl ?_; conv => whnf) | (refine And.intro trivial ?_; conv => whnf) | (refine And.intro ⟨rfl, trivial⟩ ?_; conv => whnf) | (refine And.intro ⟨rfl, rfl, trivial⟩ ?_; conv => whnf) | (refine ifb_t ?_; conv => whnf) | (refine ifb_f ?_; conv => whnf) | (refine ifb_nr ?_; conv => whnf) | (refine ifb_er ?_; conv => whnf) | (refine And.intro (by first | decide | omega | (unfold CMul; omega) | (unfold CDiv; omega) | (unfold CPow; decide) | (exact cpow1 (by omega) (by omega)) | (exact cpow1 (by dsimp only; omega) (by dsimp only; omega)) | (simp only [rngD_len, List.length_replicate, List.length_map, List.length_append, List.length_cons, List.length_nil, List.length_set] at *; omega)) ?_; conv => whnf)))
    refine ifb_dec (fun e => ?_) (fun e => ?_)
    · (conv => whnf); (repeat (first | (refine And.intro rfl ?_; conv => whnf) | (refine And.intro trivial ?_; conv => whnf) | (refine And.intro ⟨rfl, trivial⟩ ?_; conv => whnf) | (refine And.intro ⟨rfl, rfl, trivial⟩ ?_; conv => whnf) | (refine ifb_t ?_; conv => whnf) | (refine ifb_f ?_; conv => whnf) | (refine ifb_nr ?_; conv => whnf) | (refine ifb_er ?_; conv => whnf) | (refine And.intro (by first | decide | omega | (unfold CMul; omega) | (unfold CDiv; omega) | (unfold CPow; decide) | (exact cpow1 (by omega) (by omega)) | (exact cpow1 (by dsimp only; omega) (by dsimp only; omega)) | (simp only [rngD_len, List.length_replicate, List.length_map, List.length_append, List.length_cons, List.length_nil, List.length_set] at *; omega)) ?_; conv => whnf)))
      refine ⟨⟨⟨_, rfl⟩, by first | decide | omega⟩, ?_⟩; rintro _ _ ⟨ns2, v2, rfl, rfl, h2, h3⟩; (conv => whnf); (repeat (first | (refine And.intro rfl ?_; conv => whnf) | (refine And.intro trivial ?_; conv => whnf) | (refine And.intro ⟨rfl, trivial⟩ ?_; conv => whnf) | (refine And.intro ⟨rfl, rfl, trivial⟩ ?_; conv => whnf) | (refine ifb_t ?_; conv => whnf) | (refine ifb_f ?_; conv => whnf) | (refine ifb_nr ?_; conv => whnf) | (refine ifb_er ?_; conv => whnf) | (refine And.intro (by first | decide | omega | (unfold CMul; omega) | (unfold CDiv; omega) | (unfold CPow; decide) | (exact cpow1 (by omega) (by omega)) | (exact cpow1 (by dsimp only; omega) (by dsimp only; omega)) | (simp only [rngD_len, List.length_replicate, List.length_map, List.length_append, List.length_cons, List.length_nil, List.length_set] at *; omega)) ?_; conv => whnf)))
      exact ⟨ns2, v2, rfl, rfl, h2⟩
    · (conv => whnf); (repeat (first | (refine And.intro rfl ?_; conv => whnf) | (refine And.intro trivial ?_; conv => whnf) | (refine And.intro ⟨rfl, trivial⟩ ?_; conv => whnf) | (refine And.intro ⟨rfl, rfl, trivial⟩ ?_; conv => whnf) | (refine ifb_t ?_; conv => whnf) | (refine ifb_f ?_; conv => whnf) | (refine ifb_nr ?_; conv => whnf) | (refine ifb_er ?_; conv => whnf) | (refine And.intro (by first | decide | omega | (unfold CMul; omega) | (unfold CDiv; omega) | (unfold CPow; decide) | (exact cpow1 (by omega) (by omega)) | (exact cpow1 (by dsimp only; omega) (by dsimp only; omega)) | (simp only [rngD_len, List.length_replicate, List.length_map, List.length_append, List.length_cons, List.length_nil, List.length_set] at *; omega)) ?_; conv => whnf)))
      refine ifb_dec (fun e2 => ?_) (fun e2 => ?_)
      · (conv => whnf); (repeat (first | (refine And.intro rfl ?_; conv => whnf) | (refine And.intro trivial ?_; conv => whnf) | (refine And.intro ⟨rfl, trivial⟩ ?_; conv => whnf) | (refine And.intro ⟨rfl, rfl, trivial⟩ ?_; conv => whnf) | (refine ifb_t ?_; conv => whnf) | (refine ifb_f ?_; conv => whnf) | (refine ifb_nr ?_; conv => whnf) | (refine ifb_er ?_; conv => whnf) | (refine And.intro (by first | decide | omega | (unfold CMul; omega) | (unfold CDiv; omega) | (unfold CPow; decide) | (exact cpow1 (by omega) (by omega)) | (exact cpow1 (by dsimp only; omega) (by dsimp only; omega)) | (simp only [rngD_len, List.length_replicate, List.length_map, List.length_append, List.length_cons, List.length_nil, List.length_set] at *; omega)) ?_; conv => whnf)))
        refine ⟨⟨⟨_, rfl⟩, by first | decide | omega⟩, ?_⟩; rintro _ _ ⟨ns2, v2, rfl, rfl, h2, h3⟩; (conv => whnf); (repeat (first | (refine And.intro rfl ?_; conv => whnf) | (refine And.intro trivial ?_; conv => whnf) | (refine And.intro ⟨rfl, trivial⟩ ?_; conv => whnf) | (refine And.intro ⟨rfl, rfl, trivial⟩ ?_; conv => whnf) | (refine ifb_t ?_; conv => whnf) | (refine ifb_f ?_; conv => whnf) | (refine ifb_nr ?_; conv => whnf) | (refine ifb_er ?_; conv => whnf) | (refine And.intro (by first | decide | omega | (unfold CMul; omega) | (unfold CDiv; omega) | (unfold CPow; decide) | (exact cpow1 (by omega) (by omega)) | (exact cpow1 (by dsimp only; omega) (by dsimp only; omega)) | (simp only [rngD_len, List.length_replicate, List.length_map, List.length_append, List.length_cons, List.length_nil, List.length_set] at *; omega)) ?_; conv => whnf)))
        exact ⟨ns2, v2, rfl, rfl, h2⟩
      · (conv => whnf); (repeat (first | (refine And.intro rfl ?_; conv => whnf) | (refine And.intro trivial ?_; conv => whnf) | (refine And.intro ⟨rfl, trivial⟩ ?_; conv => whnf) | (refine And.intro ⟨rfl, rfl, trivial⟩ ?_; conv => whnf) | (refine ifb_t ?_; conv => whnf) | (refine ifb_f ?_; conv => whnf) | (refine ifb_nr ?_; conv => whnf) | (refine ifb_er ?_; conv => whnf) | (refine And.intro (by first | decide | omega | (unfold CMul; omega) | (unfold CDiv; omega) | (unfold CPow; decide) | (exact cpow1 (by omega) (by omega)) | (exact cpow1 (by dsimp only; omega) (by dsimp only; omega)) | (simp only [rngD_len, List.length_replicate, List.length_map, List.length_append, List.length_cons, List.length_nil, List.length_set] at *; omega)) ?_; conv => whnf)))
        have neg : ∀ e, e = [some (D.lst (ns1.map D.int)), some (D.rol (ms.map D.int)), some (D.int v), none, none] → ms ≠ [] → (cRet 2 (cBi fAbs (cCons (cBi fInt (cCons (cOp fIx (cVar 1) (cCallN 2 sp_law_take (cCons (cVar 0) (cCons (cBi fLen (cCons (cVar 1) cNil)) cNil)))) cNil)) cNil))) e { nx := fun e => sp_law_size.post [.lst (ns.map D.int), .rol (ms.map D.int)] .non (outs e 2), rt := fun d e => sp_law_size.post [.lst (ns.map D.int), .rol (ms.map D.int)] d (outs e 2) } := by
          rintro e rfl hms
          (conv => whnf); (repeat (first | (refine And.intro rfl ?_; conv => whnf) | (refine And.intro trivial ?_; conv => whnf) | (refine And.intro ⟨rfl, trivial⟩ ?_; conv => whnf) | (refine And.intro ⟨rfl, rfl, trivial⟩ ?_; conv => whnf) | (refine ifb_t ?_; conv => whnf) | (refine ifb_f ?_; conv => whnf) | (refine ifb_nr ?_; conv => whnf) | (refine ifb_er ?_; conv => whnf) | (refine And.intro (by first | decide | omega | (unfold CMul; omega) | (unfold CDiv; omega) | (unfold CPow; decide) | (exact cpow1 (by omega) (by omega)) | (exact cpow1 (by dsimp only; omega) (by dsimp only; omega)) | (simp only [rngD_len, List.length_replicate, List.length_map, List.length_append, List.length_cons, List.length_nil, List.length_set] at *; omega)) ?_; conv => whnf)))
          have hp : 0 < ((List.map D.int ms).length : Int) := by
            have := List.length_pos_iff.mpr hms
            simpa using this
          refine ⟨⟨⟨_, rfl⟩, hp⟩, ?_⟩
          rintro _ _ ⟨ns2, x, rfl, rfl, hx0, hx1⟩
          (conv => whnf); (repeat (first | (refine And.intro rfl ?_; conv => whnf) | (refine And.intro trivial ?_; conv => whnf) | (refine And.intro ⟨rfl, trivial⟩ ?_; conv => whnf) | (refine And.intro ⟨rfl, rfl, trivial⟩ ?_; conv => whnf) | (refine ifb_t ?_; conv => whnf) | (refine ifb_f ?_; conv => whnf) | (refine ifb_nr ?_; conv => whnf) | (refine ifb_er ?_; conv => whnf) | (refine And.intro (by first | decide | omega | (unfold CMul; omega) | (unfold CDiv; omega) | (unfold CPow; decide) | (exact cpow1 (by omega) (by omega)) | (exact cpow1 (by dsimp only; omega) (by dsimp only; omega)) | (simp only [rngD_len, List.length_replicate, List.length_map, List.length_append, List.length_cons, List.length_nil, List.length_set] at *; omega)) ?_; conv => whnf)))
          have hx2 : x.toNat < ms.length := by
            have : x < (ms.length : Int) := by simpa using hx1
            omega
          have ea : atI (List.map D.int ms) x = some (D.int ms[x.toNat]) := by
            have := atI_nat (xs := List.map D.int ms) (j := x.toNat) (v := D.int ms[x.toNat]) (by simp [hx2])
            rwa [Int.toNat_of_nonneg hx0] at this
          rw [ea]
          (conv => whnf); (repeat (first | (refine And.intro rfl ?_; conv => whnf) | (refine And.intro trivial ?_; conv => whnf) | (refine And.intro ⟨rfl, trivial⟩ ?_; conv => whnf) | (refine And.intro ⟨rfl, rfl, trivial⟩ ?_; conv => whnf) | (refine ifb_t ?_; conv => whnf) | (refine ifb_f ?_; conv => whnf) | (refine ifb_nr ?_; conv => whnf) | (refine ifb_er ?_; conv => whnf) | (refine And.intro (by first | decide | omega | (unfold CMul; omega) | (unfold CDiv; omega) | (unfold CPow; decide) | (exact cpow1 (by omega) (by omega)) | (exact cpow1 (by dsimp only; omega) (by dsimp only; omega)) | (simp only [rngD_len, List.length_replicate, List.length_map, List.length_append, List.length_cons, List.length_nil, List.length_set] at *; omega)) ?_; conv => whnf)))
          refine ⟨ns2, _, rfl, rfl, ?_⟩
          split <;> omega
        have big : ∀ N e, e = [some (D.lst (ns1.map D.int)), some (D.rol (ms.map D.int)), some (D.int v), none, none] → (cSeq (cAsg 2 [0, 1] 3 (cC (.int 0)))
        (cSeq (cFor [0, 1] (iR1 (cC (.int 5))) (gN 2 [0, 1] 4)
          (cAsg 2 [0, 1] 3 (cOp fAddG (cOp fMul (cVar 3) (cC (.int 1000))) (cCallN 2 sp_law_take (cCons (cVar 0) (cCons (cC (.int 1000)) cNil))))))
        (cRet 2 (cVar 3)))) e { nx := N, rt := fun d e => sp_law_size.post [.lst (ns.map D.int), .rol (ms.map D.int)] d (outs e 2) } := by
          rintro N e rfl
          (conv => whnf); (repeat (first | (refine And.intro rfl ?_; conv => whnf) | (refine And.intro trivial ?_; conv => whnf) | (refine And.intro ⟨rfl, trivial⟩ ?_; conv => whnf) | (refine And.intro ⟨rfl, rfl, trivial⟩ ?_; conv => whnf) | (refine ifb_t ?_; conv => whnf) | (refine ifb_f ?_; conv => whnf) | (refine ifb_nr ?_; conv => whnf) | (refine ifb_er ?_; conv => whnf) | (refine And.intro (by first | decide | omega | (unfold CMul; omega) | (unfold CDiv; omega) | (unfold CPow; decide) | (exact cpow1 (by omega) (by omega)) | (exact cpow1 (by dsimp only; omega) (by dsimp only; omega)) | (simp only [rngD_len, List.length_replicate, List.length_map, List.length_append, List.length_cons, List.length_nil, List.length_set] at *; omega)) ?_; conv => whnf)))
          refine loop_rng (fun _ e => ∃ (ks : List Int) (num : Int) (o : Option D), 0 ≤ num ∧ e = [some (D.lst (ks.map D.int)), some (D.rol (ms.map D.int)), some (D.int v), some (D.int num), o]) ⟨ns1, 0, none, Int.le_refl _, rfl⟩ ?_ ?_
          · rintro j env nxt h1 h2 ⟨ks, num, o, hn, rfl⟩ hx
            (conv => whnf); (repeat (first | (refine And.intro rfl ?_; conv => whnf) | (refine And.intro trivial ?_; conv => whnf) | (refine And.intro ⟨rfl, trivial⟩ ?_; conv => whnf) | (refine And.intro ⟨rfl, rfl, trivial⟩ ?_; conv => whnf) | (refine ifb_t ?_; conv => whnf) | (refine ifb_f ?_; conv => whnf) | (refine ifb_nr ?_; conv => whnf) | (refine ifb_er ?_; conv => whnf) | (refine And.intro (by first | decide | omega | (unfold CMul; omega) | (unfold CDiv; omega) | (unfold CPow; decide) | (exact cpow1 (by omega) (by omega)) | (exact cpow1 (by dsimp only; omega) (by dsimp only; omega)) | (simp only [rngD_len, List.length_replicate, List.length_map, List.length_append, List.length_cons, List.length_nil, List.length_set] at *; omega)) ?_; conv => whnf)))
            refine ⟨⟨⟨_, rfl⟩, by first | decide | omega⟩, ?_⟩; rintro _ _ ⟨ks2, d, rfl, rfl, hd0, hd1⟩; (conv => whnf); (repeat (first | (refine And.intro rfl ?_; conv => whnf) | (refine And.intro trivial ?_; conv => whnf) | (refine And.intro ⟨rfl, trivial⟩ ?_; conv => whnf) | (refine And.intro ⟨rfl, rfl, trivial⟩ ?_; conv => whnf) | (refine ifb_t ?_; conv => whnf) | (refine ifb_f ?_; conv => whnf) | (refine ifb_nr ?_; conv => whnf) | (refine ifb_er ?_; conv => whnf) | (refine And.intro (by first | decide | omega | (unfold CMul; omega) | (unfold CDiv; omega) | (unfold CPow; decide) | (exact cpow1 (by omega) (by omega)) | (exact cpow1 (by dsimp only; omega) (by dsimp only; omega)) | (simp only [rngD_len, List.length_replicate, List.length_map, List.length_append, List.length_cons, List.length_nil, List.length_set] at *; omega)) ?_; conv => whnf)))
            exact hx _ ⟨ks2, num * 1000 + d, _, by omega, rfl⟩
          · rintro env ⟨ks, num, o, hn, rfl⟩
            (conv => whnf); (repeat (first | (refine And.intro rfl ?_; conv => whnf) | (refine And.intro trivial ?_; conv => whnf) | (refine And.intro ⟨rfl, trivial⟩ ?_; conv => whnf) | (refine And.intro ⟨rfl, rfl, trivial⟩ ?_; conv => whnf) | (refine ifb_t ?_; conv => whnf) | (refine ifb_f ?_; conv => whnf) | (refine ifb_nr ?_; conv => whnf) | (refine ifb_er ?_; conv => whnf) | (refine And.intro (by first | decide | omega | (unfold CMul; omega) | (unfold CDiv; omega) | (unfold CPow; decide) | (exact cpow1 (by omega) (by omega)) | (exact cpow1 (by dsimp only; omega) (by dsimp only; omega)) | (simp only [rngD_len, List.length_replicate, List.length_map, List.length_append, List.length_cons, List.length_nil, List.length_set] at *; omega)) ?_; conv => whnf)))
            exact ⟨ks, num, rfl, rfl, hn⟩
        refine ifb_dec (fun e6 => ?_) (fun e6 => ?_)
        · (conv => whnf); refine ifb_t ?_
          exact big _ _ rfl
        · (conv => whnf); (repeat (first | (refine And.intro rfl ?_; conv => whnf) | (refine And.intro trivial ?_; conv => whnf) | (refine And.intro ⟨rfl, trivial⟩ ?_; conv => whnf) | (refine And.intro ⟨rfl, rfl, trivial⟩ ?_; conv => whnf) | (refine ifb_t ?_; conv => whnf) | (refine ifb_f ?_; conv => whnf) | (refine ifb_nr ?_; conv => whnf) | (refine ifb_er ?_; conv => whnf) | (refine And.intro (by first | decide | omega | (unfold CMul; omega) | (unfold CDiv; omega) | (unfold CPow; decide) | (exact cpow1 (by omega) (by omega)) | (exact cpow1 (by dsimp only; omega) (by dsimp only; omega)) | (simp only [rngD_len, List.length_replicate, List.length_map, List.length_append, List.length_cons, List.length_nil, List.length_set] at *; omega)) ?_; conv => whnf)))
          refine ifb_dec (fun e7 => ?_) (fun e7 => ?_)
          · exact big _ _ rfl
          · exact neg _ rfl (fun z => by subst z; exact e7 rfl)
  · exact h.elim
theorem cut {u v : WS} {env : DEnv} {K : Kt} (J : DEnv → Prop) (h1 : ∀ nxt, (∀ e, J e → nxt e) → u env { K with nx := nxt }) (h2 : ∀ e, J e → v e K) : cSeq u v env K := h1 _ h2
def sp_law_draws : FSpec where
  pre := fun ds => match ds with
    | [.rol xs, .int m] => IsInts xs ∧ xs.length ≤ 63 ∧ 0 ≤ m ∧ m ≤ 1000
    | _ => False
  post := fun ds r ds' => ds' = ds ∧ ∃ ns : List Int, r = .lst (ns.map D.int)
/-- slots: 0 script, 1 many, 2 cells, 3 rest, 4 draws, 5 k, 6 at, 7 mixed, 8 cell -/
def w_law_draws : WS :=
    (cSeq (cAsg 2 [0, 1] 2 (cLc [8] (iE (cVar 0)) (gN 2 [] 8) tTrue (cBi fInt (cCons (cVar 8) cNil))))
    (cSeq (cIte (cOp fEqS (cBi fLen (cCons (cVar 2) cNil)) (cC (.int 0)))
      (cEx (cMeth 2 fAppend (cCons (cC (.int 0)) cNil)))
      cNilS)
    (cSeq (cAsg 2 [0, 1] 3 (cBi fList (cCons (cVar 2) cNil)))
    (cSeq (cAsg 2 [0, 1] 4 (cLst cNil))
    (cSeq (cFor [0, 1] (iR1 (cVar 1)) (gN 2 [0, 1] 5)
      (cSeq (cAsg 2 [0, 1] 6 (cOp fMod (cVar 5) (cBi fLen (cCons (cVar 2) cNil))))
        (cIte (cOp fGe (cOp fIx (cVar 2) (cVar 6)) (cOp fPow (cC (.int 10)) (cC (.int 18))))
          (cSeq (cEx (cMeth 4 fAppend (cCons (cOp fMod (cBi fInt (cCons (cOp fIx (cVar 3) (cVar 6)) cNil)) (cC (.int 1000))) cNil)))
            (cSet 3 (cOp fFdiv (cOp fIx (cVar 3) (cVar 6)) (cC (.int 1000))) (cVar 6)))
          (cSeq (cAsg 2 [0, 1] 7 (cOp fMod (cBi fInt (cCons (cOp fAddG (cOp fAddG (cOp fMul (cOp fIx (cVar 2) (cVar 6)) (cC (.int 48271))) (cOp fMul (cVar 5) (cC (.int 69621)))) (cC (.int 11))) cNil)) (cC (.int 2147483647))))
            (cEx (cMeth 4 fAppend (cCons (cOp fMod (cBi fInt (cCons (cOp fAddG (cOp fAddG (cOp fMul (cVar 7) (cVar 7)) (cOp fMul (cC (.int 3)) (cVar 7))) (cVar 5)) cNil)) (cC (.int 1000003))) cNil)))))))
    (cSeq (cEx (cMeth 4 fReverse cNil))
    (cRet 2 (cVar 4))))))))
theorem atI_lt {α : Type} {xs : List α} {j : Int} (h0 : 0 ≤ j) (h1 : j < xs.length) : ∃ (h : j.toNat < xs.length), atI xs j = some xs[j.toNat] := by
  have h : j.toNat < xs.length := by omega
  refine ⟨h, ?_⟩
  have := atI_nat (xs := xs) (j := j.toNat) (v := xs[j.toNat]) (List.getElem?_eq_getElem h)
  rwa [Int.toNat_of_nonneg h0] at this
theorem atI_map {α : Type} {f : α → D} {xs : List α} {j : Int} (h0 : 0 ≤ j) (h1 : j < xs.length) : ∃ v, v ∈ xs ∧ atI (xs.map f) j = some (f v) := by
  obtain ⟨h, e⟩ := atI_lt (xs := xs.map f) h0 (by simpa using h1)
  have h' : j.toNat < xs.length := by omega
  exact ⟨xs[j.toNat], List.getElem_mem h', by rw [e]; simp⟩
theorem ixN_lt {n : Nat} {j : Int} (h0 : 0 ≤ j) (h1 : j < n) : ixN n j = some j.toNat := by
  unfold ixN
  rw [if_pos h0, if_pos h1]
theorem pure_law_draws : ∀ ds, ds.length = 2 → sp_law_draws.pre ds → w_law_draws (env0 ds 7) { nx := fun e => sp_law_draws.post ds .non (outs e 2), rt := fun d e => sp_law_draws.post ds d (outs e 2) } := by
  intro ds _ h
  unfold sp_law_draws at h
  dsimp only at h
  split at h
  · obtain ⟨⟨ns, rfl⟩, hlen, hm0, hm1⟩ := h
    rename_i m _
    (conv => whnf); (repeat (first | (refine And.intro rfl ?_; conv => whnf) | (refine And.intro trivial ?_; conv => whnf) | (refine And.intro ⟨rfl, trivial⟩ ?_; conv => whnf) | (refine And.intro ⟨rfl, rfl, trivial⟩ ?_; conv => whnf) | (refine ifb_t ?_; conv => whnf) | (refine ifb_f ?_; conv => whnf) | (refine ifb_nr ?_; conv => whnf) | (refine ifb_er ?_; conv => whnf) | (refine And.intro (by first | decide | omega | (unfold CMul; omega) | (unfold CDiv; omega) | (unfold CPow; decide) | (exact cpow1 (by omega) (by omega)) | (exact cpow1 (by dsimp only; omega) (by dsimp only; omega)) | (simp only [rngD_len, List.length_replicate, List.length_map, List.length_append, List.length_cons, List.length_nil, List.length_set] at *; omega)) ?_; conv => whnf)))
    have hlen : ns.length ≤ 63 := by simpa using hlen
    refine lcGo_map (fun x => x) _ (List.map D.int ns) ?_ ?_
    · rintro x nxt acc hx hn
      obtain ⟨i, _, rfl⟩ := List.mem_map.mp hx
      (conv => whnf); (repeat (first | (refine And.intro rfl ?_; conv => whnf) | (refine And.intro trivial ?_; conv => whnf) | (refine And.intro ⟨rfl, trivial⟩ ?_; conv => whnf) | (refine And.intro ⟨rfl, rfl, trivial⟩ ?_; conv => whnf) | (refine ifb_t ?_; conv => whnf) | (refine ifb_f ?_; conv => whnf) | (refine ifb_nr ?_; conv => whnf) | (refine ifb_er ?_; conv => whnf) | (refine And.intro (by first | decide | omega | (unfold CMul; omega) | (unfold CDiv; omega) | (unfold CPow; decide) | (exact cpow1 (by omega) (by omega)) | (exact cpow1 (by dsimp only; omega) (by dsimp only; omega)) | (simp only [rngD_len, List.length_replicate, List.length_map, List.length_append, List.length_cons, List.length_nil, List.length_set] at *; omega)) ?_; conv => whnf)))
      exact hn
    · refine ⟨trivial, rfl, ?_⟩
      rw [List.map_id']
      dsimp only
      refine cut (fun e => ∃ cs : List Int, cs ≠ [] ∧ cs.length ≤ 63 ∧ e = [some (D.rol (ns.map D.int)), some (D.int m), some (D.lst (cs.map D.int)), none, none, none, none, none, none]) (fun nxt hn => ?_) ?_
      · (conv => whnf); (repeat (first | (refine And.intro rfl ?_; conv => whnf) | (refine And.intro trivial ?_; conv => whnf) | (refine And.intro ⟨rfl, trivial⟩ ?_; conv => whnf) | (refine And.intro ⟨rfl, rfl, trivial⟩ ?_; conv => whnf) | (refine ifb_t ?_; conv => whnf) | (refine ifb_f ?_; conv => whnf) | (refine ifb_nr ?_; conv => whnf) | (refine ifb_er ?_; conv => whnf) | (refine And.intro (by first | decide | omega | (unfold CMul; omega) | (unfold CDiv; omega) | (unfold CPow; decide) | (exact cpow1 (by omega) (by omega)) | (exact cpow1 (by dsimp only; omega) (by dsimp only; omega)) | (simp only [rngD_len, List.length_replicate, List.length_map, List.length_append, List.length_cons, List.length_nil, List.length_set] at *; omega)) ?_; conv => whnf)))
        refine ifb_dec (fun e => ?_) (fun e => ?_)
        · (conv => whnf); (repeat (first | (refine And.intro rfl ?_; conv => whnf) | (refine And.intro trivial ?_; conv => whnf) | (refine And.intro ⟨rfl, trivial⟩ ?_; conv => whnf) | (refine And.intro ⟨rfl, rfl, trivial⟩ ?_; conv => whnf) | (refine ifb_t ?_; conv => whnf) | (refine ifb_f ?_; conv => whnf) | (refine ifb_nr ?_; conv => whnf) | (refine ifb_er ?_; conv => whnf) | (refine And.intro (by first | decide | omega | (unfold CMul; omega) | (unfold CDiv; omega) | (unfold CPow; decide) | (exact cpow1 (by omega) (by omega)) | (exact cpow1 (by dsimp only; omega) (by dsimp only; omega)) | (simp only [rngD_len, List.length_replicate, List.length_map, List.length_append, List.length_cons, List.length_nil, List.length_set] at *; omega)) ?_; conv => whnf)))
          refine hn _ ⟨[0], by simp, by simp, ?_⟩
          have : ns = [] := by
            cases ns with
            | nil => rfl
            | cons a b => simp at e; omega
          subst this
          rfl
        · (conv => whnf); (repeat (first | (refine And.intro rfl ?_; conv => whnf) | (refine And.intro trivial ?_; conv => whnf) | (refine And.intro ⟨rfl, trivial⟩ ?_; conv => whnf) | (refine And.intro ⟨rfl, rfl, trivial⟩ ?_; conv => whnf) | (refine ifb_t ?_; conv => whnf) | (refine ifb_f ?_; conv => whnf) | (refine ifb_nr ?_; conv => whnf) | (refine ifb_er ?_; conv => whnf) | (refine And.intro (by first | decide | omega | (unfold CMul; omega) | (unfold CDiv; omega) | (unfold CPow; decide) | (exact cpow1 (by omega) (by omega)) | (exact cpow1 (by dsimp only; omega) (by dsimp only; omega)) | (simp only [rngD_len, List.length_replicate, List.length_map, List.length_append, List.length_cons, List.length_nil, List.length_set] at *; omega)) ?_; conv => whnf)))
          refine hn _ ⟨ns, fun z => ?_, hlen, rfl⟩
          subst z
          exact e rfl
      · rintro e ⟨cs, hne, hlc, rfl⟩
        have hpos := List.length_pos_iff.mpr hne
        (conv => whnf); (repeat (first | (refine And.intro rfl ?_; conv => whnf) | (refine And.intro trivial ?_; conv => whnf) | (refine And.intro ⟨rfl, trivial⟩ ?_; conv => whnf) | (refine And.intro ⟨rfl, rfl, trivial⟩ ?_; conv => whnf) | (refine ifb_t ?_; conv => whnf) | (refine ifb_f ?_; conv => whnf) | (refine ifb_nr ?_; conv => whnf) | (refine ifb_er ?_; conv => whnf) | (refine And.intro (by first | decide | omega | (unfold CMul; omega) | (unfold CDiv; omega) | (unfold CPow; decide) | (exact cpow1 (by omega) (by omega)) | (exact cpow1 (by dsimp only; omega) (by dsimp only; omega)) | (simp only [rngD_len, List.length_replicate, List.length_map, List.length_append, List.length_cons, List.length_nil, List.length_set] at *; omega)) ?_; conv => whnf)))
        refine loop_rng (fun j e => ∃ (rs : List Int) (dr : List Int) (o5 o6 o7 : Option D), (rs.length = cs.length ∧ (dr.length : Int) = j) ∧ e = [some (D.rol (ns.map D.int)), some (D.int m), some (D.lst (cs.map D.int)), some (D.lst (rs.map D.int)), some (D.lst (dr.map D.int)), o5, o6, o7, none]) ⟨cs, [], none, none, none, ⟨rfl, rfl⟩, rfl⟩ ?_ ?_
        · rintro j env nxt hj0 hj1 ⟨rs, dr, o5, o6, o7, ⟨hrl, hdl⟩, rfl⟩ hx
          have hpi : (0:Int) < cs.length := by omega
          have hm0 := Int.emod_nonneg j (show (cs.length : Int) ≠ 0 by omega)
          have hm1 := Int.emod_lt_of_pos j hpi
          obtain ⟨c, _, ec⟩ := atI_map (f := D.int) (xs := cs) hm0 hm1
          obtain ⟨r, _, er⟩ := atI_map (f := D.int) (xs := rs) hm0 (by omega)
          have ei : ixN (List.map D.int rs).length (j % (cs.length : Int)) = some (j % (cs.length : Int)).toNat := ixN_lt hm0 (by simp; omega)
          (conv => whnf); (repeat (first | (refine And.intro rfl ?_; conv => whnf) | (refine And.intro trivial ?_; conv => whnf) | (refine And.intro ⟨rfl, trivial⟩ ?_; conv => whnf) | (refine And.intro ⟨rfl, rfl, trivial⟩ ?_; conv => whnf) | (refine ifb_t ?_; conv => whnf) | (refine ifb_f ?_; conv => whnf) | (refine ifb_nr ?_; conv => whnf) | (refine ifb_er ?_; conv => whnf) | (refine And.intro (by first | decide | omega | (unfold CMul; omega) | (unfold CDiv; omega) | (unfold CPow; decide) | (exact cpow1 (by omega) (by omega)) | (exact cpow1 (by dsimp only; omega) (by dsimp only; omega)) | (simp only [rngD_len, List.length_replicate, List.length_map, List.length_append, List.length_cons, List.length_nil, List.length_set] at *; omega)) ?_; conv => whnf)))
          simp only [List.length_map]
          (conv => whnf); (repeat (first | (refine And.intro rfl ?_; conv => whnf) | (refine And.intro trivial ?_; conv => whnf) | (refine And.intro ⟨rfl, trivial⟩ ?_; conv => whnf) | (refine And.intro ⟨rfl, rfl, trivial⟩ ?_; conv => whnf) | (refine ifb_t ?_; conv => whnf) | (refine ifb_f ?_; conv => whnf) | (refine ifb_nr ?_; conv => whnf) | (refine ifb_er ?_; conv => whnf) | (refine And.intro (by first | decide | omega | (unfold CMul; omega) | (unfold CDiv; omega) | (unfold CPow; decide) | (exact cpow1 (by omega) (by omega)) | (exact cpow1 (by dsimp only; omega) (by dsimp only; omega)) | (simp only [rngD_len, List.length_replicate, List.length_map, List.length_append, List.length_cons, List.length_nil, List.length_set] at *; omega)) ?_; conv => whnf)))
          rw [ec]
          (conv => whnf); (repeat (first | (refine And.intro rfl ?_; conv => whnf) | (refine And.intro trivial ?_; conv => whnf) | (refine And.intro ⟨rfl, trivial⟩ ?_; conv => whnf) | (refine And.intro ⟨rfl, rfl, trivial⟩ ?_; conv => whnf) | (refine ifb_t ?_; conv => whnf) | (refine ifb_f ?_; conv => whnf) | (refine ifb_nr ?_; conv => whnf) | (refine ifb_er ?_; conv => whnf) | (refine And.intro (by first | decide | omega | (unfold CMul; omega) | (unfold CDiv; omega) | (unfold CPow; decide) | (exact cpow1 (by omega) (by omega)) | (exact cpow1 (by dsimp only; omega) (by dsimp only; omega)) | (simp only [rngD_len, List.length_replicate, List.length_map, List.length_append, List.length_cons, List.length_nil, List.length_set] at *; omega)) ?_; conv => whnf)))
          refine ifb_dec (fun e => ?_) (fun e => ?_)
          · (conv => whnf); (repeat (first | (refine And.intro rfl ?_; conv => whnf) | (refine And.intro trivial ?_; conv => whnf) | (refine And.intro ⟨rfl, trivial⟩ ?_; conv => whnf) | (refine And.intro ⟨rfl, rfl, trivial⟩ ?_; conv => whnf) | (refine ifb_t ?_; conv => whnf) | (refine ifb_f ?_; conv => whnf) | (refine ifb_nr ?_; conv => whnf) | (refine ifb_er ?_; conv => whnf) | (refine And.intro (by first | decide | omega | (unfold CMul; omega) | (unfold CDiv; omega) | (unfold CPow; decide) | (exact cpow1 (by omega) (by omega)) | (exact cpow1 (by dsimp only; omega) (by dsimp only; omega)) | (simp only [rngD_len, List.length_replicate, List.length_map, List.length_append, List.length_cons, List.length_nil, List.length_set] at *; omega)) ?_; conv => whnf)))
            rw [er]
            (conv => whnf); (repeat (first | (refine And.intro rfl ?_; conv => whnf) | (refine And.intro trivial ?_; conv => whnf) | (refine And.intro ⟨rfl, trivial⟩ ?_; conv => whnf) | (refine And.intro ⟨rfl, rfl, trivial⟩ ?_; conv => whnf) | (refine ifb_t ?_; conv => whnf) | (refine ifb_f ?_; conv => whnf) | (refine ifb_nr ?_; conv => whnf) | (refine ifb_er ?_; conv => whnf) | (refine And.intro (by first | decide | omega | (unfold CMul; omega) | (unfold CDiv; omega) | (unfold CPow; decide) | (exact cpow1 (by omega) (by omega)) | (exact cpow1 (by dsimp only; omega) (by dsimp only; omega)) | (simp only [rngD_len, List.length_replicate, List.length_map, List.length_append, List.length_cons, List.length_nil, List.length_set] at *; omega)) ?_; conv => whnf)))
            rw [er]
            (conv => whnf); (repeat (first | (refine And.intro rfl ?_; conv => whnf) | (refine And.intro trivial ?_; conv => whnf) | (refine And.intro ⟨rfl, trivial⟩ ?_; conv => whnf) | (refine And.intro ⟨rfl, rfl, trivial⟩ ?_; conv => whnf) | (refine ifb_t ?_; conv => whnf) | (refine ifb_f ?_; conv => whnf) | (refine ifb_nr ?_; conv => whnf) | (refine ifb_er ?_; conv => whnf) | (refine And.intro (by first | decide | omega | (unfold CMul; omega) | (unfold CDiv; omega) | (unfold CPow; decide) | (exact cpow1 (by omega) (by omega)) | (exact cpow1 (by dsimp only; omega) (by dsimp only; omega)) | (simp only [rngD_len, List.length_replicate, List.length_map, List.length_append, List.length_cons, List.length_nil, List.length_set] at *; omega)) ?_; conv => whnf)))
            rw [ei]
            (conv => whnf); (repeat (first | (refine And.intro rfl ?_; conv => whnf) | (refine And.intro trivial ?_; conv => whnf) | (refine And.intro ⟨rfl, trivial⟩ ?_; conv => whnf) | (refine And.intro ⟨rfl, rfl, trivial⟩ ?_; conv => whnf) | (refine ifb_t ?_; conv => whnf) | (refine ifb_f ?_; conv => whnf) | (refine ifb_nr ?_; conv => whnf) | (refine ifb_er ?_; conv => whnf) | (refine And.intro (by first | decide | omega | (unfold CMul; omega) | (unfold CDiv; omega) | (unfold CPow; decide) | (exact cpow1 (by omega) (by omega)) | (exact cpow1 (by dsimp only; omega) (by dsimp only; omega)) | (simp only [rngD_len, List.length_replicate, List.length_map, List.length_append, List.length_cons, List.length_nil, List.length_set] at *; omega)) ?_; conv => whnf)))
            exact hx _ ⟨rs.set (j % (cs.length : Int)).toNat (r / 1000), dr ++ [r % 1000], _, _, _, ⟨by simpa using hrl, by simp; omega⟩, by (first | rfl | (simp only [List.map_append, List.map_set, List.map_cons, List.map_nil]; done) | (simp only [List.map_append, List.map_set, List.map_cons, List.map_nil]; rfl))⟩
          · (conv => whnf); (repeat (first | (refine And.intro rfl ?_; conv => whnf) | (refine And.intro trivial ?_; conv => whnf) | (refine And.intro ⟨rfl, trivial⟩ ?_; conv => whnf) | (refine And.intro ⟨rfl, rfl, trivial⟩ ?_; conv => whnf) | (refine ifb_t ?_; conv => whnf) | (refine ifb_f ?_; conv => whnf) | (refine ifb_nr ?_; conv => whnf) | (refine ifb_er ?_; conv => whnf) | (refine And.intro (by first | decide | omega | (unfold CMul; omega) | (unfold CDiv; omega) | (unfold CPow; decide) | (exact cpow1 (by omega) (by omega)) | (exact cpow1 (by dsimp only; omega) (by dsimp only; omega)) | (simp only [rngD_len, List.length_replicate, List.length_map, List.length_append, List.length_cons, List.length_nil, List.length_set] at *; omega)) ?_; conv => whnf)))
            rw [ec]
            (conv => whnf); (repeat (first | (refine And.intro rfl ?_; conv => whnf) | (refine And.intro trivial ?_; conv => whnf) | (refine And.intro ⟨rfl, trivial⟩ ?_; conv => whnf) | (refine And.intro ⟨rfl, rfl, trivial⟩ ?_; conv => whnf) | (refine ifb_t ?_; conv => whnf) | (refine ifb_f ?_; conv => whnf) | (refine ifb_nr ?_; conv => whnf) | (refine ifb_er ?_; conv => whnf) | (refine And.intro (by first | decide | omega | (unfold CMul; omega) | (unfold CDiv; omega) | (unfold CPow; decide) | (exact cpow1 (by omega) (by omega)) | (exact cpow1 (by dsimp only; omega) (by dsimp only; omega)) | (simp only [rngD_len, List.length_replicate, List.length_map, List.length_append, List.length_cons, List.length_nil, List.length_set] at *; omega)) ?_; conv => whnf)))
            exact hx _ ⟨rs, dr ++ [_], _, _, _, ⟨hrl, by simp; omega⟩, by (first | rfl | (simp only [List.map_append, List.map_set, List.map_cons, List.map_nil]; done) | (simp only [List.map_append, List.map_set, List.map_cons, List.map_nil]; rfl))⟩
        · rintro env ⟨rs, dr, o5, o6, o7, ⟨hrl, hdl⟩, rfl⟩
          (conv => whnf); (repeat (first | (refine And.intro rfl ?_; conv => whnf) | (refine And.intro trivial ?_; conv => whnf) | (refine And.intro ⟨rfl, trivial⟩ ?_; conv => whnf) | (refine And.intro ⟨rfl, rfl, trivial⟩ ?_; conv => whnf) | (refine ifb_t ?_; conv => whnf) | (refine ifb_f ?_; conv => whnf) | (refine ifb_nr ?_; conv => whnf) | (refine ifb_er ?_; conv => whnf) | (refine And.intro (by first | decide | omega | (unfold CMul; omega) | (unfold CDiv; omega) | (unfold CPow; decide) | (exact cpow1 (by omega) (by omega)) | (exact cpow1 (by dsimp only; omega) (by dsimp only; omega)) | (simp only [rngD_len, List.length_replicate, List.length_map, List.length_append, List.length_cons, List.length_nil, List.length_set] at *; omega)) ?_; conv => whnf)))
          exact ⟨dr.reverse, by simp⟩
  · exact h.elim
end DL

namespace DL
open PySem PySem.Spec PyProof.Rows L2
theorem SpOk.mono {c c' : Int} (h : c ≤ c') : ∀ {lo : Int} {s : Sp2}, SpOk c lo s → SpOk c' lo s
  | _, [], _ => trivial
  | _, (a, b) :: r, ⟨h1, h2, h3, h4⟩ => ⟨h1, h2, by omega, SpOk.mono h h4⟩
theorem SpOk.snoc {c : Int} : ∀ {lo : Int} {s : Sp2} {a b : Int}, SpOk c lo (s ++ [(a, b)]) ↔ SpOk c lo s ∧ lo ≤ a ∧ (∀ q ∈ s, q.2 < a) ∧ a < b ∧ b ≤ c
  | lo, [], a, b => by simp [SpOk]
  | lo, (x, y) :: r, a, b => by
    simp only [List.cons_append, SpOk, SpOk.snoc (lo := y + 1) (s := r), List.forall_mem_cons]
    constructor
    · rintro ⟨h1, h2, h3, h4, h5, h6, h7, h8⟩
      exact ⟨⟨h1, h2, h3, h4⟩, by omega, ⟨by omega, h6⟩, h7, h8⟩
    · rintro ⟨⟨h1, h2, h3, h4⟩, h5, ⟨h6, h7⟩, h8, h9⟩
      exact ⟨h1, h2, h3, h4, by omega, h7, h8, h9⟩
theorem SpOk.le {c : Int} : ∀ {lo : Int} {s : Sp2}, SpOk c lo s → ∀ q ∈ s, lo ≤ q.1 ∧ q.1 < q.2 ∧ q.2 ≤ c
  | _, [], _, q, h => by simp at h
  | lo, (a, b) :: r, ⟨h1, h2, h3, h4⟩, q, h => by
    rcases List.mem_cons.mp h with rfl | h
    · exact ⟨h1, h2, h3⟩
    · have := SpOk.le h4 q h
      exact ⟨by omega, this.2⟩
theorem inS_app (p : Int) (s t : Sp2) : inS p (s ++ t) = (inS p s || inS p t) := by simp [inS]
theorem inS_one (p a b : Int) : inS p [(a, b)] = (decide (a ≤ p) && decide (p < b)) := by simp [inS]
theorem mapP_len (s : Sp2) : (s.map encP).length = s.length := by simp
theorem ixN_last (n : Nat) : ixN (n + 1) (-1) = some n := by
  unfold ixN
  rw [if_neg (by decide), if_pos (by omega)]
  congr 1
  omega
theorem atI_last {α : Type} (xs : List α) (x : α) : atI (xs ++ [x]) (-1) = some x := by
  unfold atI
  rw [show ixN (xs ++ [x]).length (-1) = some xs.length by rw [List.length_append]; exact ixN_last _]
  simp
theorem set_last {α : Type} (xs : List α) (x y : α) : (xs ++ [x]).set xs.length y = xs ++ [y] := by simp
def sp_law_spans : FSpec where
  pre := fun ds => ∃ bs : List Bool, ds = [.lst (bs.map D.bl)] ∧ bs.length ≤ 1000
  post := fun ds r ds' => ds' = ds ∧ ∀ bs : List Bool, ds = [.lst (bs.map D.bl)] → ∃ s, r = encS s ∧ SpOk bs.length 0 s ∧ ∀ p : Nat, inS p s = bs.getD p false
/-- slots: 0 cells, 1 spans, 2 k -/
def w_law_spans : WS :=
    (cSeq (cAsg 1 [0] 1 (cLst cNil))
    (cSeq (cFor [0] (iR1 (cBi fLen (cCons (cVar 0) cNil))) (gN 1 [0] 2)
      (cIte (cAnd (cOp fIx (cVar 0) (cVar 2)) (cAnd (cOp fGt (cBi fLen (cCons (cVar 1) cNil)) (cC (.int 0))) (cOp fEqS (cOp fIx (cOp fIx (cVar 1) (cUn fNeg (cC (.int 1)))) (cC (.int 1))) (cVar 2))))
          (cSet 1 (cTup (cCons (cOp fIx (cOp fIx (cVar 1) (cUn fNeg (cC (.int 1)))) (cC (.int 0))) (cCons (cOp fAddG (cVar 2) (cC (.int 1))) cNil))) (cUn fNeg (cC (.int 1))))
          (cIte (cOp fIx (cVar 0) (cVar 2))
              (cEx (cMeth 1 fAppend (cCons (cTup (cCons (cVar 2) (cCons (cOp fAddG (cVar 2) (cC (.int 1))) cNil))) cNil)))
              cNilS)))
    (cRet 1 (cBi fTuple (cCons (cVar 1) cNil)))))
theorem pure_law_spans : ∀ ds, ds.length = 1 → sp_law_spans.pre ds → w_law_spans (env0 ds 2) { nx := fun e => sp_law_spans.post ds .non (outs e 1), rt := fun d e => sp_law_spans.post ds d (outs e 1) } := by
  rintro ds _ ⟨bs, rfl, hl⟩
  (conv => whnf); (repeat (first | (refine And.intro rfl ?_; conv => whnf) | (refine And.intro trivial ?_; conv => whnf) | (refine And.intro ⟨rfl, trivial⟩ ?_; conv => whnf) | (refine And.intro ⟨rfl, rfl, trivial⟩ ?_; conv => whnf) | (refine ifb_t ?_; conv => whnf) | (refine ifb_f ?_; conv => whnf) | (refine ifb_nr ?_; conv => whnf) | (refine ifb_er ?_; conv => whnf) | (refine And.intro (by first | decide | omega | (unfold CMul; omega) | (unfold CDiv; omega) | (unfold CPow; decide) | (exact cpow1 (by omega) (by omega)) | (exact cpow1 (by dsimp only; omega) (by dsimp only; omega)) | (simp only [rngD_len, List.length_replicate, List.length_map, List.length_append, List.length_cons, List.length_nil, List.length_set] at *; omega)) ?_; conv => whnf)))
  simp only [List.length_map]
  refine loop_rng (fun j e => ∃ (s : Sp2) (o : Option D), (SpOk j 0 s ∧ (s.length : Int) ≤ j ∧ ∀ p : Nat, inS p s = (decide (p < j) && bs.getD p false)) ∧ e = [some (D.lst (bs.map D.bl)), some (D.lst (s.map encP)), o]) ⟨[], none, ⟨trivial, by simp, fun p => by rw [show decide ((p : Int) < 0) = false from decide_eq_false (by omega)]; rfl⟩, rfl⟩ ?_ ?_
  · rintro j env nxt hj0 hj1 ⟨s, o, ⟨hs, hsl, hp⟩, rfl⟩ hx
    have hj2 : j < (bs.length : Int) := by simpa using hj1
    have ec : atI (List.map D.bl bs) j = some (D.bl (bs.getD j.toNat false)) := by
      obtain ⟨h, e⟩ := atI_lt (xs := bs.map D.bl) hj0 (by simpa using hj2)
      rw [e]
      have h' : j.toNat < bs.length := by omega
      simp [List.getD, h']
    have key : ∀ t : Sp2, SpOk (j + 1) 0 t → (t.length : Int) ≤ j + 1 → (∀ p : Nat, inS p t = (inS p s || (decide ((p : Int) = j) && bs.getD j.toNat false))) → ∀ o, nxt [some (D.lst (bs.map D.bl)), some (D.lst (t.map encP)), o] := by
      intro t h1 h2 h3 o
      refine hx _ ⟨t, o, ⟨h1, h2, fun p => ?_⟩, rfl⟩
      rw [h3, hp]
      by_cases e1 : (p : Int) = j
      · have : p = j.toNat := by omega
        subst this
        have e2 : ¬ ((j.toNat : Int) < j) := by omega
        have e3 : ((j.toNat : Int) < j + 1) := by omega
        simp only [e1, e2, e3]
        simp; omega
      · by_cases e2 : (p : Int) < j
        · have e3 : ((p : Int) < j + 1) := by omega
          simp [e1, e2, e3]
        · have e3 : ¬ ((p : Int) < j + 1) := by omega
          simp [e1, e2, e3]
    have add : bs.getD j.toNat false = true → (∀ q ∈ s, q.2 < j) → ∀ o, nxt [some (D.lst (bs.map D.bl)), some (D.lst ((s ++ [(j, j + 1)]).map encP)), o] := by
      intro hb hq o
      refine key _ (SpOk.snoc.mpr ⟨hs.mono (by omega), hj0, hq, by omega, Int.le_refl _⟩) (by simp; omega) (fun p => ?_) o
      rw [inS_app, inS_one, hb]
      have : (decide (j ≤ (p : Int)) && decide ((p : Int) < j + 1)) = decide ((p : Int) = j) := by
        by_cases e : (p : Int) = j
        · simp [e]; omega
        · simp [e]; omega
      rw [this]; simp
    cases ecc : bs.getD j.toNat false with
    | true =>
      rw [ecc] at ec
      (conv => whnf); (repeat (first | (refine And.intro rfl ?_; conv => whnf) | (refine And.intro trivial ?_; conv => whnf) | (refine And.intro ⟨rfl, trivial⟩ ?_; conv => whnf) | (refine And.intro ⟨rfl, rfl, trivial⟩ ?_; conv => whnf) | (refine ifb_t ?_; conv => whnf) | (refine ifb_f ?_; conv => whnf) | (refine ifb_nr ?_; conv => whnf) | (refine ifb_er ?_; conv => whnf) | (refine And.intro (by first | decide | omega | (unfold CMul; omega) | (unfold CDiv; omega) | (unfold CPow; decide) | (exact cpow1 (by omega) (by omega)) | (exact cpow1 (by dsimp only; omega) (by dsimp only; omega)) | (simp only [rngD_len, List.length_replicate, List.length_map, List.length_append, List.length_cons, List.length_nil, List.length_set] at *; omega)) ?_; conv => whnf)))
      rw [ec]
      (conv => whnf); (repeat (first | (refine And.intro rfl ?_; conv => whnf) | (refine And.intro trivial ?_; conv => whnf) | (refine And.intro ⟨rfl, trivial⟩ ?_; conv => whnf) | (refine And.intro ⟨rfl, rfl, trivial⟩ ?_; conv => whnf) | (refine ifb_t ?_; conv => whnf) | (refine ifb_f ?_; conv => whnf) | (refine ifb_nr ?_; conv => whnf) | (refine ifb_er ?_; conv => whnf) | (refine And.intro (by first | decide | omega | (unfold CMul; omega) | (unfold CDiv; omega) | (unfold CPow; decide) | (exact cpow1 (by omega) (by omega)) | (exact cpow1 (by dsimp only; omega) (by dsimp only; omega)) | (simp only [rngD_len, List.length_replicate, List.length_map, List.length_append, List.length_cons, List.length_nil, List.length_set] at *; omega)) ?_; conv => whnf)))
      refine ifb_dec (fun e2 => ?_) (fun e2 => ?_)
      · obtain ⟨t, ⟨a, b⟩, rfl⟩ : ∃ t q, s = t ++ [q] := by
          have : s ≠ [] := fun z => by subst z; simp at e2
          exact ⟨_, _, (List.dropLast_concat_getLast this).symm⟩
        have el : atI (List.map encP (t ++ [(a, b)])) (-1) = some (encP (a, b)) := by rw [List.map_append]; exact atI_last _ _
        obtain ⟨hs1, hs2, hs3, hs4, hs5⟩ := SpOk.snoc.mp hs
        (conv => whnf); (repeat (first | (refine And.intro rfl ?_; conv => whnf) | (refine And.intro trivial ?_; conv => whnf) | (refine And.intro ⟨rfl, trivial⟩ ?_; conv => whnf) | (refine And.intro ⟨rfl, rfl, trivial⟩ ?_; conv => whnf) | (refine ifb_t ?_; conv => whnf) | (refine ifb_f ?_; conv => whnf) | (refine ifb_nr ?_; conv => whnf) | (refine ifb_er ?_; conv => whnf) | (refine And.intro (by first | decide | omega | (unfold CMul; omega) | (unfold CDiv; omega) | (unfold CPow; decide) | (exact cpow1 (by omega) (by omega)) | (exact cpow1 (by dsimp only; omega) (by dsimp only; omega)) | (simp only [rngD_len, List.length_replicate, List.length_map, List.length_append, List.length_cons, List.length_nil, List.length_set] at *; omega)) ?_; conv => whnf)))
        rw [el]
        (conv => whnf); (repeat (first | (refine And.intro rfl ?_; conv => whnf) | (refine And.intro trivial ?_; conv => whnf) | (refine And.intro ⟨rfl, trivial⟩ ?_; conv => whnf) | (refine And.intro ⟨rfl, rfl, trivial⟩ ?_; conv => whnf) | (refine ifb_t ?_; conv => whnf) | (refine ifb_f ?_; conv => whnf) | (refine ifb_nr ?_; conv => whnf) | (refine ifb_er ?_; conv => whnf) | (refine And.intro (by first | decide | omega | (unfold CMul; omega) | (unfold CDiv; omega) | (unfold CPow; decide) | (exact cpow1 (by omega) (by omega)) | (exact cpow1 (by dsimp only; omega) (by dsimp only; omega)) | (simp only [rngD_len, List.length_replicate, List.length_map, List.length_append, List.length_cons, List.length_nil, List.length_set] at *; omega)) ?_; conv => whnf)))
        refine ifb_dec (fun e3 => ?_) (fun e3 => ?_)
        · have e3 : b = j := e3
          subst e3
          (conv => whnf); (repeat (first | (refine And.intro rfl ?_; conv => whnf) | (refine And.intro trivial ?_; conv => whnf) | (refine And.intro ⟨rfl, trivial⟩ ?_; conv => whnf) | (refine And.intro ⟨rfl, rfl, trivial⟩ ?_; conv => whnf) | (refine ifb_t ?_; conv => whnf) | (refine ifb_f ?_; conv => whnf) | (refine ifb_nr ?_; conv => whnf) | (refine ifb_er ?_; conv => whnf) | (refine And.intro (by first | decide | omega | (unfold CMul; omega) | (unfold CDiv; omega) | (unfold CPow; decide) | (exact cpow1 (by omega) (by omega)) | (exact cpow1 (by dsimp only; omega) (by dsimp only; omega)) | (simp only [rngD_len, List.length_replicate, List.length_map, List.length_append, List.length_cons, List.length_nil, List.length_set] at *; omega)) ?_; conv => whnf)))
          rw [el]
          (conv => whnf); (repeat (first | (refine And.intro rfl ?_; conv => whnf) | (refine And.intro trivial ?_; conv => whnf) | (refine And.intro ⟨rfl, trivial⟩ ?_; conv => whnf) | (refine And.intro ⟨rfl, rfl, trivial⟩ ?_; conv => whnf) | (refine ifb_t ?_; conv => whnf) | (refine ifb_f ?_; conv => whnf) | (refine ifb_nr ?_; conv => whnf) | (refine ifb_er ?_; conv => whnf) | (refine And.intro (by first | decide | omega | (unfold CMul; omega) | (unfold CDiv; omega) | (unfold CPow; decide) | (exact cpow1 (by omega) (by omega)) | (exact cpow1 (by dsimp only; omega) (by dsimp only; omega)) | (simp only [rngD_len, List.length_replicate, List.length_map, List.length_append, List.length_cons, List.length_nil, List.length_set] at *; omega)) ?_; conv => whnf)))
          have ei : ixN (List.map encP (t ++ [(a, b)])).length (-1) = some t.length := by rw [show (List.map encP (t ++ [(a, b)])).length = t.length + 1 by simp]; exact ixN_last _
          rw [ei]
          (conv => whnf); (repeat (first | (refine And.intro rfl ?_; conv => whnf) | (refine And.intro trivial ?_; conv => whnf) | (refine And.intro ⟨rfl, trivial⟩ ?_; conv => whnf) | (refine And.intro ⟨rfl, rfl, trivial⟩ ?_; conv => whnf) | (refine ifb_t ?_; conv => whnf) | (refine ifb_f ?_; conv => whnf) | (refine ifb_nr ?_; conv => whnf) | (refine ifb_er ?_; conv => whnf) | (refine And.intro (by first | decide | omega | (unfold CMul; omega) | (unfold CDiv; omega) | (unfold CPow; decide) | (exact cpow1 (by omega) (by omega)) | (exact cpow1 (by dsimp only; omega) (by dsimp only; omega)) | (simp only [rngD_len, List.length_replicate, List.length_map, List.length_append, List.length_cons, List.length_nil, List.length_set] at *; omega)) ?_; conv => whnf)))
          have es : (List.map encP (t ++ [(a, b)])).set t.length (D.tup [D.int a, D.int (b + 1)]) = List.map encP (t ++ [(a, b + 1)]) := by simp [encP]
          have := key (t ++ [(a, b + 1)]) (SpOk.snoc.mpr ⟨hs1.mono (by omega), hs2, hs3, by omega, Int.le_refl _⟩) (by simp at hsl ⊢; omega) (fun p => by
            rw [inS_app, inS_app, inS_one, inS_one, ecc, Bool.and_true, Bool.or_assoc]
            congr 1
            by_cases h1 : (p : Int) = b
            · simp [h1]; omega
            · by_cases h2 : (p : Int) < b
              · have h3 : (p : Int) < b + 1 := by omega
                simp [h1, h2, h3]
              · have h3 : ¬ (p : Int) < b + 1 := by omega
                simp [h1, h2, h3]) (some (.int b))
          rw [← es] at this
          exact this
        · have e3 : b ≠ j := e3
          (conv => whnf); (repeat (first | (refine And.intro rfl ?_; conv => whnf) | (refine And.intro trivial ?_; conv => whnf) | (refine And.intro ⟨rfl, trivial⟩ ?_; conv => whnf) | (refine And.intro ⟨rfl, rfl, trivial⟩ ?_; conv => whnf) | (refine ifb_t ?_; conv => whnf) | (refine ifb_f ?_; conv => whnf) | (refine ifb_nr ?_; conv => whnf) | (refine ifb_er ?_; conv => whnf) | (refine And.intro (by first | decide | omega | (unfold CMul; omega) | (unfold CDiv; omega) | (unfold CPow; decide) | (exact cpow1 (by omega) (by omega)) | (exact cpow1 (by dsimp only; omega) (by dsimp only; omega)) | (simp only [rngD_len, List.length_replicate, List.length_map, List.length_append, List.length_cons, List.length_nil, List.length_set] at *; omega)) ?_; conv => whnf)))
          rw [ec]
          (conv => whnf); (repeat (first | (refine And.intro rfl ?_; conv => whnf) | (refine And.intro trivial ?_; conv => whnf) | (refine And.intro ⟨rfl, trivial⟩ ?_; conv => whnf) | (refine And.intro ⟨rfl, rfl, trivial⟩ ?_; conv => whnf) | (refine ifb_t ?_; conv => whnf) | (refine ifb_f ?_; conv => whnf) | (refine ifb_nr ?_; conv => whnf) | (refine ifb_er ?_; conv => whnf) | (refine And.intro (by first | decide | omega | (unfold CMul; omega) | (unfold CDiv; omega) | (unfold CPow; decide) | (exact cpow1 (by omega) (by omega)) | (exact cpow1 (by dsimp only; omega) (by dsimp only; omega)) | (simp only [rngD_len, List.length_replicate, List.length_map, List.length_append, List.length_cons, List.length_nil, List.length_set] at *; omega)) ?_; conv => whnf)))
          have := add ecc (fun q hq => by
            rcases List.mem_append.mp hq with hq | hq
            · have := hs3 q hq; omega
            · rw [List.mem_singleton.mp hq]; show b < j; omega) (some (.int j))
          rw [List.map_append] at this
          exact this
      · have e2 : s = [] := by
          cases s with
          | nil => rfl
          | cons x y => exact absurd (by simp) e2
        subst e2
        (conv => whnf); (repeat (first | (refine And.intro rfl ?_; conv => whnf) | (refine And.intro trivial ?_; conv => whnf) | (refine And.intro ⟨rfl, trivial⟩ ?_; conv => whnf) | (refine And.intro ⟨rfl, rfl, trivial⟩ ?_; conv => whnf) | (refine ifb_t ?_; conv => whnf) | (refine ifb_f ?_; conv => whnf) | (refine ifb_nr ?_; conv => whnf) | (refine ifb_er ?_; conv => whnf) | (refine And.intro (by first | decide | omega | (unfold CMul; omega) | (unfold CDiv; omega) | (unfold CPow; decide) | (exact cpow1 (by omega) (by omega)) | (exact cpow1 (by dsimp only; omega) (by dsimp only; omega)) | (simp only [rngD_len, List.length_replicate, List.length_map, List.length_append, List.length_cons, List.length_nil, List.length_set] at *; omega)) ?_; conv => whnf)))
        rw [ec]
        (conv => whnf); (repeat (first | (refine And.intro rfl ?_; conv => whnf) | (refine And.intro trivial ?_; conv => whnf) | (refine And.intro ⟨rfl, trivial⟩ ?_; conv => whnf) | (refine And.intro ⟨rfl, rfl, trivial⟩ ?_; conv => whnf) | (refine ifb_t ?_; conv => whnf) | (refine ifb_f ?_; conv => whnf) | (refine ifb_nr ?_; conv => whnf) | (refine ifb_er ?_; conv => whnf) | (refine And.intro (by first | decide | omega | (unfold CMul; omega) | (unfold CDiv; omega) | (unfold CPow; decide) | (exact cpow1 (by omega) (by omega)) | (exact cpow1 (by dsimp only; omega) (by dsimp only; omega)) | (simp only [rngD_len, List.length_replicate, List.length_map, List.length_append, List.length_cons, List.length_nil, List.length_set] at *; omega)) ?_; conv => whnf)))
        exact add ecc (by simp) (some (.int j))
    | false =>
      rw [ecc] at ec
      (conv => whnf); (repeat (first | (refine And.intro rfl ?_; conv => whnf) | (refine And.intro trivial ?_; conv => whnf) | (refine And.intro ⟨rfl, trivial⟩ ?_; conv => whnf) | (refine And.intro ⟨rfl, rfl, trivial⟩ ?_; conv => whnf) | (refine ifb_t ?_; conv => whnf) | (refine ifb_f ?_; conv => whnf) | (refine ifb_nr ?_; conv => whnf) | (refine ifb_er ?_; conv => whnf) | (refine And.intro (by first | decide | omega | (unfold CMul; omega) | (unfold CDiv; omega) | (unfold CPow; decide) | (exact cpow1 (by omega) (by omega)) | (exact cpow1 (by dsimp only; omega) (by dsimp only; omega)) | (simp only [rngD_len, List.length_replicate, List.length_map, List.length_append, List.length_cons, List.length_nil, List.length_set] at *; omega)) ?_; conv => whnf)))
      rw [ec]
      (conv => whnf); (repeat (first | (refine And.intro rfl ?_; conv => whnf) | (refine And.intro trivial ?_; conv => whnf) | (refine And.intro ⟨rfl, trivial⟩ ?_; conv => whnf) | (refine And.intro ⟨rfl, rfl, trivial⟩ ?_; conv => whnf) | (refine ifb_t ?_; conv => whnf) | (refine ifb_f ?_; conv => whnf) | (refine ifb_nr ?_; conv => whnf) | (refine ifb_er ?_; conv => whnf) | (refine And.intro (by first | decide | omega | (unfold CMul; omega) | (unfold CDiv; omega) | (unfold CPow; decide) | (exact cpow1 (by omega) (by omega)) | (exact cpow1 (by dsimp only; omega) (by dsimp only; omega)) | (simp only [rngD_len, List.length_replicate, List.length_map, List.length_append, List.length_cons, List.length_nil, List.length_set] at *; omega)) ?_; conv => whnf)))
      rw [ec]
      (conv => whnf); (repeat (first | (refine And.intro rfl ?_; conv => whnf) | (refine And.intro trivial ?_; conv => whnf) | (refine And.intro ⟨rfl, trivial⟩ ?_; conv => whnf) | (refine And.intro ⟨rfl, rfl, trivial⟩ ?_; conv => whnf) | (refine ifb_t ?_; conv => whnf) | (refine ifb_f ?_; conv => whnf) | (refine ifb_nr ?_; conv => whnf) | (refine ifb_er ?_; conv => whnf) | (refine And.intro (by first | decide | omega | (unfold CMul; omega) | (unfold CDiv; omega) | (unfold CPow; decide) | (exact cpow1 (by omega) (by omega)) | (exact cpow1 (by dsimp only; omega) (by dsimp only; omega)) | (simp only [rngD_len, List.length_replicate, List.length_map, List.length_append, List.length_cons, List.length_nil, List.length_set] at *; omega)) ?_; conv => whnf)))
      refine hx _ ⟨s, _, ⟨hs.mono (by omega), by omega, fun p => ?_⟩, rfl⟩
      rw [hp]
      by_cases h1 : (p : Int) = j
      · have : p = j.toNat := by omega
        rw [this, ecc]; simp
      · by_cases h2 : (p : Int) < j
        · have h3 : (p : Int) < j + 1 := by omega
          simp [h2, h3]
        · have h3 : ¬ (p : Int) < j + 1 := by omega
          simp [h2, h3]
  · rintro env ⟨s, o, ⟨hs, hsl, hp⟩, rfl⟩
    (conv => whnf); (repeat (first | (refine And.intro rfl ?_; conv => whnf) | (refine And.intro trivial ?_; conv => whnf) | (refine And.intro ⟨rfl, trivial⟩ ?_; conv => whnf) | (refine And.intro ⟨rfl, rfl, trivial⟩ ?_; conv => whnf) | (refine ifb_t ?_; conv => whnf) | (refine ifb_f ?_; conv => whnf) | (refine ifb_nr ?_; conv => whnf) | (refine ifb_er ?_; conv => whnf) | (refine And.intro (by first | decide | omega | (unfold CMul; omega) | (unfold CDiv; omega) | (unfold CPow; decide) | (exact cpow1 (by omega) (by omega)) | (exact cpow1 (by dsimp only; omega) (by dsimp only; omega)) | (simp only [rngD_len, List.length_replicate, List.length_map, List.length_append, List.length_cons, List.length_nil, List.length_set] at *; omega)) ?_; conv => whnf)))
    intro bs' h
    have : bs' = bs := by
      simp only [List.cons.injEq, and_true, D.lst.injEq] at h
      exact (List.map_inj_right (fun a b h => by cases h; rfl)).mp h.symm
    subst this
    refine ⟨s, rfl, by simpa using hs, fun p => ?_⟩
    rw [hp]
    by_cases h1 : p < bs'.length
    · have : (p : Int) < 0 + ((bs'.length : Int).toNat : Int) := by omega
      rw [decide_eq_true this]; rfl
    · have : bs'.getD p false = false := by simp [List.getD, List.getElem?_eq_none (by omega : bs'.length ≤ p)]
      rw [this]; simp
def sp_law_phases : FSpec where
  pre := fun ds => ∃ (ns : List Int) (c : Int), ds = [.lst (ns.map D.int), .int c] ∧ 1 ≤ c ∧ c ≤ 60
  post := fun ds r ds' => ∀ (xs : List D) (c : Int), ds = [.lst xs, .int c] → ∃ (ns : List Int) (s : Sp2), r = encS s ∧ ds' = [.lst (ns.map D.int), .int c] ∧ SpOk c 0 s
/-- slots: 0 draws, 1 cycle, 2 kind, 3 cells, 4 bits, 5 k, 6 low, 7 high, 8 j -/
def w_law_phases : WS :=
    (cSeq (cAsg 2 [0, 1] 2 (cCallN 2 sp_law_take (cCons (cVar 0) (cCons (cC (.int 5)) cNil))))
    (cSeq (cIte (cOp fEqS (cVar 2) (cC (.int 0)))
      (cRet 2 (cTup cNil))
      cNilS)
    (cSeq (cIte (cOp fEqS (cVar 2) (cC (.int 1)))
      (cRet 2 (cTup (cCons (cTup (cCons (cC (.int 0)) (cCons (cVar 1) cNil))) cNil)))
      cNilS)
    (cSeq (cAsg 2 [0, 1] 3 (cLc [5] (iR1 (cVar 1)) (gN 2 [] 5) tTrue (cC (.bl false))))
    (cSeq (cIte (cOp fEqS (cVar 2) (cC (.int 2)))
      (cSeq (cAsg 2 [0, 1] 4 (cCallN 2 sp_law_take (cCons (cVar 0) (cCons (cC (.int 1000003)) cNil))))
        (cSeq (cFor [0, 1] (iR1 (cVar 1)) (gN 2 [0, 1] 5)
          (cSeq (cSet 3 (cOp fEqS (cOp fMod (cBi fInt (cCons (cVar 4) cNil)) (cC (.int 2))) (cC (.int 1))) (cVar 5))
            (cAsg 2 [0, 1] 4 (cOp fAddG (cOp fFdiv (cVar 4) (cC (.int 2))) (cOp fMul (cC (.int 524288)) (cBi fInt (cCons (cOp fIx (cVar 3) (cVar 5)) cNil)))))))
        (cRet 2 (cCallN 1 sp_law_spans (cCons (cVar 3) cNil)))))
      cNilS)
    (cSeq (cFor [0, 1] (iR1 (cOp fAddG (cC (.int 1)) (cCallN 2 sp_law_take (cCons (cVar 0) (cCons (cC (.int 4)) cNil))))) (gN 2 [0, 1] 5)
      (cSeq (cAsg 2 [0, 1] 6 (cCallN 2 sp_law_take (cCons (cVar 0) (cCons (cVar 1) cNil))))
        (cSeq (cAsg 2 [0, 1] 7 (cOp fAddG (cOp fAddG (cVar 6) (cC (.int 1))) (cCallN 2 sp_law_take (cCons (cVar 0) (cCons (cOp fAddG (cC (.int 1)) (cOp fFdiv (cVar 1) (cC (.int 3)))) cNil)))))
        (cAsg 2 [0, 1] 3 (cLc [8] (iR1 (cVar 1)) (gN 2 [] 8) tTrue (cOr (cOp fIx (cVar 3) (cVar 8)) (cAnd (cOp fLe (cVar 6) (cVar 8)) (cOp fLt (cVar 8) (cVar 7)))))))))
    (cRet 2 (cCallN 1 sp_law_spans (cCons (cVar 3) cNil)))))))))
theorem phases_post {ns xs : List Int} {c : Int} {s : Sp2} (h : SpOk c 0 s) : sp_law_phases.post [.lst (ns.map D.int), .int c] (encS s) [.lst (xs.map D.int), .int c] := by
  intro ys c' e
  simp only [List.cons.injEq, and_true, D.lst.injEq, D.int.injEq] at e
  obtain ⟨_, rfl⟩ := e
  exact ⟨xs, s, rfl, rfl, h⟩
theorem rng_mem {lo : Int} : ∀ {n : Nat} {d : D}, d ∈ rngD lo n → ∃ i, d = .int i ∧ lo ≤ i ∧ i < lo + n
  | 0, d, h => by simp [rngD] at h
  | n + 1, d, h => by
    simp only [rngD, List.mem_cons] at h
    rcases h with rfl | h
    · exact ⟨lo, rfl, Int.le_refl _, by omega⟩
    · obtain ⟨i, rfl, h1, h2⟩ := rng_mem h
      exact ⟨i, rfl, by omega, by omega⟩
theorem map_const {α β : Type} (b : β) : ∀ xs : List α, xs.map (fun _ => b) = List.replicate xs.length b
  | [] => rfl
  | x :: r => by rw [List.map_cons, map_const b r]; rfl
theorem map_bl {α : Type} {f : α → D} : ∀ (xs : List α), (∀ d ∈ xs, ∃ b, f d = .bl b) → ∃ bs : List Bool, xs.map f = bs.map D.bl ∧ bs.length = xs.length
  | [], _ => ⟨[], rfl, rfl⟩
  | x :: r, h => by
    obtain ⟨bs, e, l⟩ := map_bl r fun d hd => h d (List.mem_cons_of_mem _ hd)
    obtain ⟨b, eb⟩ := h x (by simp)
    exact ⟨b :: bs, by simp [e, eb], by simp [l]⟩
theorem pure_law_phases : ∀ ds, ds.length = 2 → sp_law_phases.pre ds → w_law_phases (env0 ds 7) { nx := fun e => sp_law_phases.post ds .non (outs e 2), rt := fun d e => sp_law_phases.post ds d (outs e 2) } := by
  rintro ds _ ⟨ns, c, rfl, h0, h1⟩
  (conv => whnf); (repeat (first | (refine And.intro rfl ?_; conv => whnf) | (refine And.intro trivial ?_; conv => whnf) | (refine And.intro ⟨rfl, trivial⟩ ?_; conv => whnf) | (refine And.intro ⟨rfl, rfl, trivial⟩ ?_; conv => whnf) | (refine ifb_t ?_; conv => whnf) | (refine ifb_f ?_; conv => whnf) | (refine ifb_nr ?_; conv => whnf) | (refine ifb_er ?_; conv => whnf) | (refine And.intro (by first | decide | omega | (unfold CMul; omega) | (unfold CDiv; omega) | (unfold CPow; decide) | (exact cpow1 (by omega) (by omega)) | (exact cpow1 (by dsimp only; omega) (by dsimp only; omega)) | (simp only [rngD_len, List.length_replicate, List.length_map, List.length_append, List.length_cons, List.length_nil, List.length_set] at *; omega)) ?_; conv => whnf)))
  refine ⟨⟨⟨_, rfl⟩, by first | decide | omega⟩, ?_⟩; rintro _ _ ⟨ns1, v, rfl, rfl, h2, h3⟩; (conv => whnf); (repeat (first | (refine And.intro rfl ?_; conv => whnf) | (refine And.intro trivial ?_; conv => whnf) | (refine And.intro ⟨rfl, trivial⟩ ?_; conv => whnf) | (refine And.intro ⟨rfl, rfl, trivial⟩ ?_; conv => whnf) | (refine ifb_t ?_; conv => whnf) | (refine ifb_f ?_; conv => whnf) | (refine ifb_nr ?_; conv => whnf) | (refine ifb_er ?_; conv => whnf) | (refine And.intro (by first | decide | omega | (unfold CMul; omega) | (unfold CDiv; omega) | (unfold CPow; decide) | (exact cpow1 (by omega) (by omega)) | (exact cpow1 (by dsimp only; omega) (by dsimp only; omega)) | (simp only [rngD_len, List.length_replicate, List.length_map, List.length_append, List.length_cons, List.length_nil, List.length_set] at *; omega)) ?_; conv => whnf)))
  refine ifb_dec (fun e1 => ?_) (fun e1 => ?_)
  · (conv => whnf); (repeat (first | (refine And.intro rfl ?_; conv => whnf) | (refine And.intro trivial ?_; conv => whnf) | (refine And.intro ⟨rfl, trivial⟩ ?_; conv => whnf) | (refine And.intro ⟨rfl, rfl, trivial⟩ ?_; conv => whnf) | (refine ifb_t ?_; conv => whnf) | (refine ifb_f ?_; conv => whnf) | (refine ifb_nr ?_; conv => whnf) | (refine ifb_er ?_; conv => whnf) | (refine And.intro (by first | decide | omega | (unfold CMul; omega) | (unfold CDiv; omega) | (unfold CPow; decide) | (exact cpow1 (by omega) (by omega)) | (exact cpow1 (by dsimp only; omega) (by dsimp only; omega)) | (simp only [rngD_len, List.length_replicate, List.length_map, List.length_append, List.length_cons, List.length_nil, List.length_set] at *; omega)) ?_; conv => whnf)))
    exact phases_post (s := []) trivial
  · (conv => whnf); (repeat (first | (refine And.intro rfl ?_; conv => whnf) | (refine And.intro trivial ?_; conv => whnf) | (refine And.intro ⟨rfl, trivial⟩ ?_; conv => whnf) | (refine And.intro ⟨rfl, rfl, trivial⟩ ?_; conv => whnf) | (refine ifb_t ?_; conv => whnf) | (refine ifb_f ?_; conv => whnf) | (refine ifb_nr ?_; conv => whnf) | (refine ifb_er ?_; conv => whnf) | (refine And.intro (by first | decide | omega | (unfold CMul; omega) | (unfold CDiv; omega) | (unfold CPow; decide) | (exact cpow1 (by omega) (by omega)) | (exact cpow1 (by dsimp only; omega) (by dsimp only; omega)) | (simp only [rngD_len, List.length_replicate, List.length_map, List.length_append, List.length_cons, List.length_nil, List.length_set] at *; omega)) ?_; conv => whnf)))
    refine ifb_dec (fun e2 => ?_) (fun e2 => ?_)
    · (conv => whnf); (repeat (first | (refine And.intro rfl ?_; conv => whnf) | (refine And.intro trivial ?_; conv => whnf) | (refine And.intro ⟨rfl, trivial⟩ ?_; conv => whnf) | (refine And.intro ⟨rfl, rfl, trivial⟩ ?_; conv => whnf) | (refine ifb_t ?_; conv => whnf) | (refine ifb_f ?_; conv => whnf) | (refine ifb_nr ?_; conv => whnf) | (refine ifb_er ?_; conv => whnf) | (refine And.intro (by first | decide | omega | (unfold CMul; omega) | (unfold CDiv; omega) | (unfold CPow; decide) | (exact cpow1 (by omega) (by omega)) | (exact cpow1 (by dsimp only; omega) (by dsimp only; omega)) | (simp only [rngD_len, List.length_replicate, List.length_map, List.length_append, List.length_cons, List.length_nil, List.length_set] at *; omega)) ?_; conv => whnf)))
      exact phases_post (s := [(0, c)]) ⟨by omega, by omega, by omega, trivial⟩
    · (conv => whnf); (repeat (first | (refine And.intro rfl ?_; conv => whnf) | (refine And.intro trivial ?_; conv => whnf) | (refine And.intro ⟨rfl, trivial⟩ ?_; conv => whnf) | (refine And.intro ⟨rfl, rfl, trivial⟩ ?_; conv => whnf) | (refine ifb_t ?_; conv => whnf) | (refine ifb_f ?_; conv => whnf) | (refine ifb_nr ?_; conv => whnf) | (refine ifb_er ?_; conv => whnf) | (refine And.intro (by first | decide | omega | (unfold CMul; omega) | (unfold CDiv; omega) | (unfold CPow; decide) | (exact cpow1 (by omega) (by omega)) | (exact cpow1 (by dsimp only; omega) (by dsimp only; omega)) | (simp only [rngD_len, List.length_replicate, List.length_map, List.length_append, List.length_cons, List.length_nil, List.length_set] at *; omega)) ?_; conv => whnf)))
      refine lcGo_map (fun _ => .bl false) _ _ ?_ ?_
      · intro x nxt acc hx hn
        obtain ⟨i, rfl, _, _⟩ := rng_mem hx
        (conv => whnf); (repeat (first | (refine And.intro rfl ?_; conv => whnf) | (refine And.intro trivial ?_; conv => whnf) | (refine And.intro ⟨rfl, trivial⟩ ?_; conv => whnf) | (refine And.intro ⟨rfl, rfl, trivial⟩ ?_; conv => whnf) | (refine ifb_t ?_; conv => whnf) | (refine ifb_f ?_; conv => whnf) | (refine ifb_nr ?_; conv => whnf) | (refine ifb_er ?_; conv => whnf) | (refine And.intro (by first | decide | omega | (unfold CMul; omega) | (unfold CDiv; omega) | (unfold CPow; decide) | (exact cpow1 (by omega) (by omega)) | (exact cpow1 (by dsimp only; omega) (by dsimp only; omega)) | (simp only [rngD_len, List.length_replicate, List.length_map, List.length_append, List.length_cons, List.length_nil, List.length_set] at *; omega)) ?_; conv => whnf)))
        exact hn
      · rw [map_const, rngD_len]
        have er : List.replicate c.toNat (D.bl false) = (List.replicate c.toNat false).map D.bl := by simp
        (conv => whnf); (repeat (first | (refine And.intro rfl ?_; conv => whnf) | (refine And.intro trivial ?_; conv => whnf) | (refine And.intro ⟨rfl, trivial⟩ ?_; conv => whnf) | (refine And.intro ⟨rfl, rfl, trivial⟩ ?_; conv => whnf) | (refine ifb_t ?_; conv => whnf) | (refine ifb_f ?_; conv => whnf) | (refine ifb_nr ?_; conv => whnf) | (refine ifb_er ?_; conv => whnf) | (refine And.intro (by first | decide | omega | (unfold CMul; omega) | (unfold CDiv; omega) | (unfold CPow; decide) | (exact cpow1 (by omega) (by omega)) | (exact cpow1 (by dsimp only; omega) (by dsimp only; omega)) | (simp only [rngD_len, List.length_replicate, List.length_map, List.length_append, List.length_cons, List.length_nil, List.length_set] at *; omega)) ?_; conv => whnf)))
        rw [er]
        refine ifb_dec (fun e3 => ?_) (fun e3 => ?_)
        · (conv => whnf); (repeat (first | (refine And.intro rfl ?_; conv => whnf) | (refine And.intro trivial ?_; conv => whnf) | (refine And.intro ⟨rfl, trivial⟩ ?_; conv => whnf) | (refine And.intro ⟨rfl, rfl, trivial⟩ ?_; conv => whnf) | (refine ifb_t ?_; conv => whnf) | (refine ifb_f ?_; conv => whnf) | (refine ifb_nr ?_; conv => whnf) | (refine ifb_er ?_; conv => whnf) | (refine And.intro (by first | decide | omega | (unfold CMul; omega) | (unfold CDiv; omega) | (unfold CPow; decide) | (exact cpow1 (by omega) (by omega)) | (exact cpow1 (by dsimp only; omega) (by dsimp only; omega)) | (simp only [rngD_len, List.length_replicate, List.length_map, List.length_append, List.length_cons, List.length_nil, List.length_set] at *; omega)) ?_; conv => whnf)))
          refine ⟨⟨⟨_, rfl⟩, by first | decide | omega⟩, ?_⟩; rintro _ _ ⟨ns2, v2, rfl, rfl, h4, h5⟩; (conv => whnf); (repeat (first | (refine And.intro rfl ?_; conv => whnf) | (refine And.intro trivial ?_; conv => whnf) | (refine And.intro ⟨rfl, trivial⟩ ?_; conv => whnf) | (refine And.intro ⟨rfl, rfl, trivial⟩ ?_; conv => whnf) | (refine ifb_t ?_; conv => whnf) | (refine ifb_f ?_; conv => whnf) | (refine ifb_nr ?_; conv => whnf) | (refine ifb_er ?_; conv => whnf) | (refine And.intro (by first | decide | omega | (unfold CMul; omega) | (unfold CDiv; omega) | (unfold CPow; decide) | (exact cpow1 (by omega) (by omega)) | (exact cpow1 (by dsimp only; omega) (by dsimp only; omega)) | (simp only [rngD_len, List.length_replicate, List.length_map, List.length_append, List.length_cons, List.length_nil, List.length_set] at *; omega)) ?_; conv => whnf)))
          refine loop_rng (fun j e => ∃ (bs : List Bool) (b : Int) (o : Option D), bs.length = c.toNat ∧ e = [some (.lst (ns2.map D.int)), some (.int c), some (.int v), some (.lst (bs.map D.bl)), some (.int b), o, none, none, none]) ⟨List.replicate c.toNat false, v2, none, by simp, rfl⟩ ?_ ?_
          · rintro j env nxt hj0 hj1 ⟨bs, b, o, hb, rfl⟩ hx
            have hj2 : j < (bs.length : Int) := by omega
            have ei : ixN (bs.map D.bl).length j = some j.toNat := ixN_lt hj0 (by simpa using hj2)
            have ea : ∀ x : Bool, atI ((bs.map D.bl).set j.toNat (.bl x)) j = some (.bl x) := fun x => by
              obtain ⟨h, e⟩ := atI_lt (xs := (bs.map D.bl).set j.toNat (.bl x)) hj0 (by simpa using hj2)
              rw [e, List.getElem_set_self]
            (conv => whnf); (repeat (first | (refine And.intro rfl ?_; conv => whnf) | (refine And.intro trivial ?_; conv => whnf) | (refine And.intro ⟨rfl, trivial⟩ ?_; conv => whnf) | (refine And.intro ⟨rfl, rfl, trivial⟩ ?_; conv => whnf) | (refine ifb_t ?_; conv => whnf) | (refine ifb_f ?_; conv => whnf) | (refine ifb_nr ?_; conv => whnf) | (refine ifb_er ?_; conv => whnf) | (refine And.intro (by first | decide | omega | (unfold CMul; omega) | (unfold CDiv; omega) | (unfold CPow; decide) | (exact cpow1 (by omega) (by omega)) | (exact cpow1 (by dsimp only; omega) (by dsimp only; omega)) | (simp only [rngD_len, List.length_replicate, List.length_map, List.length_append, List.length_cons, List.length_nil, List.length_set] at *; omega)) ?_; conv => whnf)))
            rw [ei]
            (conv => whnf); (repeat (first | (refine And.intro rfl ?_; conv => whnf) | (refine And.intro trivial ?_; conv => whnf) | (refine And.intro ⟨rfl, trivial⟩ ?_; conv => whnf) | (refine And.intro ⟨rfl, rfl, trivial⟩ ?_; conv => whnf) | (refine ifb_t ?_; conv => whnf) | (refine ifb_f ?_; conv => whnf) | (refine ifb_nr ?_; conv => whnf) | (refine ifb_er ?_; conv => whnf) | (refine And.intro (by first | decide | omega | (unfold CMul; omega) | (unfold CDiv; omega) | (unfold CPow; decide) | (exact cpow1 (by omega) (by omega)) | (exact cpow1 (by dsimp only; omega) (by dsimp only; omega)) | (simp only [rngD_len, List.length_replicate, List.length_map, List.length_append, List.length_cons, List.length_nil, List.length_set] at *; omega)) ?_; conv => whnf)))
            rw [ea]
            (conv => whnf); (repeat (first | (refine And.intro rfl ?_; conv => whnf) | (refine And.intro trivial ?_; conv => whnf) | (refine And.intro ⟨rfl, trivial⟩ ?_; conv => whnf) | (refine And.intro ⟨rfl, rfl, trivial⟩ ?_; conv => whnf) | (refine ifb_t ?_; conv => whnf) | (refine ifb_f ?_; conv => whnf) | (refine ifb_nr ?_; conv => whnf) | (refine ifb_er ?_; conv => whnf) | (refine And.intro (by first | decide | omega | (unfold CMul; omega) | (unfold CDiv; omega) | (unfold CPow; decide) | (exact cpow1 (by omega) (by omega)) | (exact cpow1 (by dsimp only; omega) (by dsimp only; omega)) | (simp only [rngD_len, List.length_replicate, List.length_map, List.length_append, List.length_cons, List.length_nil, List.length_set] at *; omega)) ?_; conv => whnf)))
            refine hx _ ⟨bs.set j.toNat _, _, _, by simpa using hb, by (first | rfl | (simp only [List.map_append, List.map_set, List.map_cons, List.map_nil]; done) | (simp only [List.map_append, List.map_set, List.map_cons, List.map_nil]; rfl))⟩
          · rintro env ⟨bs, b, o, hb, rfl⟩
            (conv => whnf); (repeat (first | (refine And.intro rfl ?_; conv => whnf) | (refine And.intro trivial ?_; conv => whnf) | (refine And.intro ⟨rfl, trivial⟩ ?_; conv => whnf) | (refine And.intro ⟨rfl, rfl, trivial⟩ ?_; conv => whnf) | (refine ifb_t ?_; conv => whnf) | (refine ifb_f ?_; conv => whnf) | (refine ifb_nr ?_; conv => whnf) | (refine ifb_er ?_; conv => whnf) | (refine And.intro (by first | decide | omega | (unfold CMul; omega) | (unfold CDiv; omega) | (unfold CPow; decide) | (exact cpow1 (by omega) (by omega)) | (exact cpow1 (by dsimp only; omega) (by dsimp only; omega)) | (simp only [rngD_len, List.length_replicate, List.length_map, List.length_append, List.length_cons, List.length_nil, List.length_set] at *; omega)) ?_; conv => whnf)))
            refine ⟨⟨bs, rfl, by omega⟩, ?_⟩
            rintro _ _ ⟨rfl, h⟩
            obtain ⟨s, rfl, hs, _⟩ := h bs rfl
            (conv => whnf); (repeat (first | (refine And.intro rfl ?_; conv => whnf) | (refine And.intro trivial ?_; conv => whnf) | (refine And.intro ⟨rfl, trivial⟩ ?_; conv => whnf) | (refine And.intro ⟨rfl, rfl, trivial⟩ ?_; conv => whnf) | (refine ifb_t ?_; conv => whnf) | (refine ifb_f ?_; conv => whnf) | (refine ifb_nr ?_; conv => whnf) | (refine ifb_er ?_; conv => whnf) | (refine And.intro (by first | decide | omega | (unfold CMul; omega) | (unfold CDiv; omega) | (unfold CPow; decide) | (exact cpow1 (by omega) (by omega)) | (exact cpow1 (by dsimp only; omega) (by dsimp only; omega)) | (simp only [rngD_len, List.length_replicate, List.length_map, List.length_append, List.length_cons, List.length_nil, List.length_set] at *; omega)) ?_; conv => whnf)))
            exact phases_post (by rw [hb] at hs; rwa [show ((c.toNat : Nat) : Int) = c by omega] at hs)
        · (conv => whnf); (repeat (first | (refine And.intro rfl ?_; conv => whnf) | (refine And.intro trivial ?_; conv => whnf) | (refine And.intro ⟨rfl, trivial⟩ ?_; conv => whnf) | (refine And.intro ⟨rfl, rfl, trivial⟩ ?_; conv => whnf) | (refine ifb_t ?_; conv => whnf) | (refine ifb_f ?_; conv => whnf) | (refine ifb_nr ?_; conv => whnf) | (refine ifb_er ?_; conv => whnf) | (refine And.intro (by first | decide | omega | (unfold CMul; omega) | (unfold CDiv; omega) | (unfold CPow; decide) | (exact cpow1 (by omega) (by omega)) | (exact cpow1 (by dsimp only; omega) (by dsimp only; omega)) | (simp only [rngD_len, List.length_replicate, List.length_map, List.length_append, List.length_cons, List.length_nil, List.length_set] at *; omega)) ?_; conv => whnf)))
          refine ⟨⟨⟨_, rfl⟩, by first | decide | omega⟩, ?_⟩; rintro _ _ ⟨ns2, v2, rfl, rfl, h4, h5⟩; (conv => whnf); (repeat (first | (refine And.intro rfl ?_; conv => whnf) | (refine And.intro trivial ?_; conv => whnf) | (refine And.intro ⟨rfl, trivial⟩ ?_; conv => whnf) | (refine And.intro ⟨rfl, rfl, trivial⟩ ?_; conv => whnf) | (refine ifb_t ?_; conv => whnf) | (refine ifb_f ?_; conv => whnf) | (refine ifb_nr ?_; conv => whnf) | (refine ifb_er ?_; conv => whnf) | (refine And.intro (by first | decide | omega | (unfold CMul; omega) | (unfold CDiv; omega) | (unfold CPow; decide) | (exact cpow1 (by omega) (by omega)) | (exact cpow1 (by dsimp only; omega) (by dsimp only; omega)) | (simp only [rngD_len, List.length_replicate, List.length_map, List.length_append, List.length_cons, List.length_nil, List.length_set] at *; omega)) ?_; conv => whnf)))
          refine loop_rng (fun j e => ∃ (ks : List Int) (bs : List Bool) (o6 o7 o5 : Option D), bs.length = c.toNat ∧ e = [some (.lst (ks.map D.int)), some (.int c), some (.int v), some (.lst (bs.map D.bl)), none, o5, o6, o7, none]) ⟨ns2, List.replicate c.toNat false, none, none, none, by simp, rfl⟩ ?_ ?_
          · rintro j env nxt hj0 hj1 ⟨ks, bs, o6, o7, o5, hb, rfl⟩ hx
            (conv => whnf); (repeat (first | (refine And.intro rfl ?_; conv => whnf) | (refine And.intro trivial ?_; conv => whnf) | (refine And.intro ⟨rfl, trivial⟩ ?_; conv => whnf) | (refine And.intro ⟨rfl, rfl, trivial⟩ ?_; conv => whnf) | (refine ifb_t ?_; conv => whnf) | (refine ifb_f ?_; conv => whnf) | (refine ifb_nr ?_; conv => whnf) | (refine ifb_er ?_; conv => whnf) | (refine And.intro (by first | decide | omega | (unfold CMul; omega) | (unfold CDiv; omega) | (unfold CPow; decide) | (exact cpow1 (by omega) (by omega)) | (exact cpow1 (by dsimp only; omega) (by dsimp only; omega)) | (simp only [rngD_len, List.length_replicate, List.length_map, List.length_append, List.length_cons, List.length_nil, List.length_set] at *; omega)) ?_; conv => whnf)))
            refine ⟨⟨⟨_, rfl⟩, by first | decide | omega⟩, ?_⟩; rintro _ _ ⟨ns3, low, rfl, rfl, hl0, hl1⟩; (conv => whnf); (repeat (first | (refine And.intro rfl ?_; conv => whnf) | (refine And.intro trivial ?_; conv => whnf) | (refine And.intro ⟨rfl, trivial⟩ ?_; conv => whnf) | (refine And.intro ⟨rfl, rfl, trivial⟩ ?_; conv => whnf) | (refine ifb_t ?_; conv => whnf) | (refine ifb_f ?_; conv => whnf) | (refine ifb_nr ?_; conv => whnf) | (refine ifb_er ?_; conv => whnf) | (refine And.intro (by first | decide | omega | (unfold CMul; omega) | (unfold CDiv; omega) | (unfold CPow; decide) | (exact cpow1 (by omega) (by omega)) | (exact cpow1 (by dsimp only; omega) (by dsimp only; omega)) | (simp only [rngD_len, List.length_replicate, List.length_map, List.length_append, List.length_cons, List.length_nil, List.length_set] at *; omega)) ?_; conv => whnf)))
            refine ⟨⟨⟨_, rfl⟩, by omega⟩, ?_⟩
            rintro _ _ ⟨ns4, hi, rfl, rfl, hi0, hi1⟩
            (conv => whnf); (repeat (first | (refine And.intro rfl ?_; conv => whnf) | (refine And.intro trivial ?_; conv => whnf) | (refine And.intro ⟨rfl, trivial⟩ ?_; conv => whnf) | (refine And.intro ⟨rfl, rfl, trivial⟩ ?_; conv => whnf) | (refine ifb_t ?_; conv => whnf) | (refine ifb_f ?_; conv => whnf) | (refine ifb_nr ?_; conv => whnf) | (refine ifb_er ?_; conv => whnf) | (refine And.intro (by first | decide | omega | (unfold CMul; omega) | (unfold CDiv; omega) | (unfold CPow; decide) | (exact cpow1 (by omega) (by omega)) | (exact cpow1 (by dsimp only; omega) (by dsimp only; omega)) | (simp only [rngD_len, List.length_replicate, List.length_map, List.length_append, List.length_cons, List.length_nil, List.length_set] at *; omega)) ?_; conv => whnf)))
            refine lcGo_map (fun d => match d with | .int j => .bl (bs.getD j.toNat false || (decide (low ≤ j) && decide (j < low + 1 + hi))) | _ => .non) _ _ ?_ ?_
            · intro x nxt acc hx hn
              obtain ⟨i, rfl, hi2, hi3⟩ := rng_mem hx
              have hi4 : i < (bs.length : Int) := by omega
              have ec : atI (List.map D.bl bs) i = some (D.bl (bs.getD i.toNat false)) := by
                obtain ⟨h, e⟩ := atI_lt (xs := bs.map D.bl) hi2 (by simpa using hi4)
                rw [e]
                have h' : i.toNat < bs.length := by omega
                simp [List.getD, h']
              (conv => whnf); (repeat (first | (refine And.intro rfl ?_; conv => whnf) | (refine And.intro trivial ?_; conv => whnf) | (refine And.intro ⟨rfl, trivial⟩ ?_; conv => whnf) | (refine And.intro ⟨rfl, rfl, trivial⟩ ?_; conv => whnf) | (refine ifb_t ?_; conv => whnf) | (refine ifb_f ?_; conv => whnf) | (refine ifb_nr ?_; conv => whnf) | (refine ifb_er ?_; conv => whnf) | (refine And.intro (by first | decide | omega | (unfold CMul; omega) | (unfold CDiv; omega) | (unfold CPow; decide) | (exact cpow1 (by omega) (by omega)) | (exact cpow1 (by dsimp only; omega) (by dsimp only; omega)) | (simp only [rngD_len, List.length_replicate, List.length_map, List.length_append, List.length_cons, List.length_nil, List.length_set] at *; omega)) ?_; conv => whnf)))
              rw [ec]
              cases ecc : bs.getD i.toNat false with
              | true =>
                (conv => whnf); (repeat (first | (refine And.intro rfl ?_; conv => whnf) | (refine And.intro trivial ?_; conv => whnf) | (refine And.intro ⟨rfl, trivial⟩ ?_; conv => whnf) | (refine And.intro ⟨rfl, rfl, trivial⟩ ?_; conv => whnf) | (refine ifb_t ?_; conv => whnf) | (refine ifb_f ?_; conv => whnf) | (refine ifb_nr ?_; conv => whnf) | (refine ifb_er ?_; conv => whnf) | (refine And.intro (by first | decide | omega | (unfold CMul; omega) | (unfold CDiv; omega) | (unfold CPow; decide) | (exact cpow1 (by omega) (by omega)) | (exact cpow1 (by dsimp only; omega) (by dsimp only; omega)) | (simp only [rngD_len, List.length_replicate, List.length_map, List.length_append, List.length_cons, List.length_nil, List.length_set] at *; omega)) ?_; conv => whnf)))
                dsimp only at hn
                rw [ecc] at hn
                exact hn
              | false =>
                dsimp only at hn
                rw [ecc] at hn
                (conv => whnf); (repeat (first | (refine And.intro rfl ?_; conv => whnf) | (refine And.intro trivial ?_; conv => whnf) | (refine And.intro ⟨rfl, trivial⟩ ?_; conv => whnf) | (refine And.intro ⟨rfl, rfl, trivial⟩ ?_; conv => whnf) | (refine ifb_t ?_; conv => whnf) | (refine ifb_f ?_; conv => whnf) | (refine ifb_nr ?_; conv => whnf) | (refine ifb_er ?_; conv => whnf) | (refine And.intro (by first | decide | omega | (unfold CMul; omega) | (unfold CDiv; omega) | (unfold CPow; decide) | (exact cpow1 (by omega) (by omega)) | (exact cpow1 (by dsimp only; omega) (by dsimp only; omega)) | (simp only [rngD_len, List.length_replicate, List.length_map, List.length_append, List.length_cons, List.length_nil, List.length_set] at *; omega)) ?_; conv => whnf)))
                refine ifb_dec (fun e5 => ?_) (fun e5 => ?_)
                · (conv => whnf); (repeat (first | (refine And.intro rfl ?_; conv => whnf) | (refine And.intro trivial ?_; conv => whnf) | (refine And.intro ⟨rfl, trivial⟩ ?_; conv => whnf) | (refine And.intro ⟨rfl, rfl, trivial⟩ ?_; conv => whnf) | (refine ifb_t ?_; conv => whnf) | (refine ifb_f ?_; conv => whnf) | (refine ifb_nr ?_; conv => whnf) | (refine ifb_er ?_; conv => whnf) | (refine And.intro (by first | decide | omega | (unfold CMul; omega) | (unfold CDiv; omega) | (unfold CPow; decide) | (exact cpow1 (by omega) (by omega)) | (exact cpow1 (by dsimp only; omega) (by dsimp only; omega)) | (simp only [rngD_len, List.length_replicate, List.length_map, List.length_append, List.length_cons, List.length_nil, List.length_set] at *; omega)) ?_; conv => whnf)))
                  rw [decide_eq_true e5] at hn
                  exact hn
                · (conv => whnf); (repeat (first | (refine And.intro rfl ?_; conv => whnf) | (refine And.intro trivial ?_; conv => whnf) | (refine And.intro ⟨rfl, trivial⟩ ?_; conv => whnf) | (refine And.intro ⟨rfl, rfl, trivial⟩ ?_; conv => whnf) | (refine ifb_t ?_; conv => whnf) | (refine ifb_f ?_; conv => whnf) | (refine ifb_nr ?_; conv => whnf) | (refine ifb_er ?_; conv => whnf) | (refine And.intro (by first | decide | omega | (unfold CMul; omega) | (unfold CDiv; omega) | (unfold CPow; decide) | (exact cpow1 (by omega) (by omega)) | (exact cpow1 (by dsimp only; omega) (by dsimp only; omega)) | (simp only [rngD_len, List.length_replicate, List.length_map, List.length_append, List.length_cons, List.length_nil, List.length_set] at *; omega)) ?_; conv => whnf)))
                  rw [decide_eq_false e5] at hn
                  exact hn
            · obtain ⟨bs', e', hl'⟩ := map_bl (f := fun d => match d with | .int j => .bl (bs.getD j.toNat false || (decide (low ≤ j) && decide (j < low + 1 + hi))) | _ => .non) (rngD 0 c.toNat) (fun d hd => by obtain ⟨i, rfl, _, _⟩ := rng_mem hd; exact ⟨_, rfl⟩)
              (conv => whnf); (repeat (first | (refine And.intro rfl ?_; conv => whnf) | (refine And.intro trivial ?_; conv => whnf) | (refine And.intro ⟨rfl, trivial⟩ ?_; conv => whnf) | (refine And.intro ⟨rfl, rfl, trivial⟩ ?_; conv => whnf) | (refine ifb_t ?_; conv => whnf) | (refine ifb_f ?_; conv => whnf) | (refine ifb_nr ?_; conv => whnf) | (refine ifb_er ?_; conv => whnf) | (refine And.intro (by first | decide | omega | (unfold CMul; omega) | (unfold CDiv; omega) | (unfold CPow; decide) | (exact cpow1 (by omega) (by omega)) | (exact cpow1 (by dsimp only; omega) (by dsimp only; omega)) | (simp only [rngD_len, List.length_replicate, List.length_map, List.length_append, List.length_cons, List.length_nil, List.length_set] at *; omega)) ?_; conv => whnf)))
              rw [rngD_len] at hl'
              rw [e']
              exact hx _ ⟨ns4, bs', _, _, _, hl', rfl⟩
          · rintro env ⟨ks, bs, o6, o7, o5, hb, rfl⟩
            (conv => whnf); (repeat (first | (refine And.intro rfl ?_; conv => whnf) | (refine And.intro trivial ?_; conv => whnf) | (refine And.intro ⟨rfl, trivial⟩ ?_; conv => whnf) | (refine And.intro ⟨rfl, rfl, trivial⟩ ?_; conv => whnf) | (refine ifb_t ?_; conv => whnf) | (refine ifb_f ?_; conv => whnf) | (refine ifb_nr ?_; conv => whnf) | (refine ifb_er ?_; conv => whnf) | (refine And.intro (by first | decide | omega | (unfold CMul; omega) | (unfold CDiv; omega) | (unfold CPow; decide) | (exact cpow1 (by omega) (by omega)) | (exact cpow1 (by dsimp only; omega) (by dsimp only; omega)) | (simp only [rngD_len, List.length_replicate, List.length_map, List.length_append, List.length_cons, List.length_nil, List.length_set] at *; omega)) ?_; conv => whnf)))
            refine ⟨⟨bs, rfl, by omega⟩, ?_⟩
            rintro _ _ ⟨rfl, h⟩
            obtain ⟨s, rfl, hs, _⟩ := h bs rfl
            (conv => whnf); (repeat (first | (refine And.intro rfl ?_; conv => whnf) | (refine And.intro trivial ?_; conv => whnf) | (refine And.intro ⟨rfl, trivial⟩ ?_; conv => whnf) | (refine And.intro ⟨rfl, rfl, trivial⟩ ?_; conv => whnf) | (refine ifb_t ?_; conv => whnf) | (refine ifb_f ?_; conv => whnf) | (refine ifb_nr ?_; conv => whnf) | (refine ifb_er ?_; conv => whnf) | (refine And.intro (by first | decide | omega | (unfold CMul; omega) | (unfold CDiv; omega) | (unfold CPow; decide) | (exact cpow1 (by omega) (by omega)) | (exact cpow1 (by dsimp only; omega) (by dsimp only; omega)) | (simp only [rngD_len, List.length_replicate, List.length_map, List.length_append, List.length_cons, List.length_nil, List.length_set] at *; omega)) ?_; conv => whnf)))
            exact phases_post (by rw [hb] at hs; rwa [show ((c.toNat : Nat) : Int) = c by omega] at hs)
end DL

namespace DL
open PySem PySem.Spec PyProof.Rows L2
theorem LsOk.snoc {c : Int} : ∀ {lo : Int} {ls : List Ln} {a : Int} {s : Sp2}, LsOk c lo ls → lo < a → (∀ l ∈ ls, l.1 < a) → SpOk c 0 s → LsOk c lo (ls ++ [(a, s)])
  | lo, [], a, s, _, h1, h2, h3 => ⟨h1, h3, trivial⟩
  | lo, (x, y) :: r, a, s, ⟨g1, g2, g3⟩, h1, h2, h3 => ⟨g1, g2, LsOk.snoc g3 (h2 (x, y) (by simp)) (fun l hl => h2 l (by simp [hl])) h3⟩
theorem TbOk.snoc {c : Int} {ls : List Ln} {a : Int} {s : Sp2} (h : TbOk c ls) (h2 : ∀ l ∈ ls, l.1 < a) (h3 : SpOk c 0 s) : TbOk c (ls ++ [(a, s)]) := by
  obtain ⟨hc, sp, r, rfl, h4, h5⟩ := h
  refine ⟨hc, sp, r ++ [(a, s)], rfl, h4, LsOk.snoc h5 (h2 (0, sp) (by simp)) (fun l hl => h2 l (by simp [hl])) h3⟩
theorem TbOk.one {c : Int} {s : Sp2} (hc : 1 ≤ c ∧ c ≤ 60) (h : SpOk c 0 s) : TbOk c [(0, s)] := ⟨hc, s, [], rfl, h, trivial⟩
def sp_law_table : FSpec where
  pre := fun ds => ∃ (ns ms : List Int) (c : Int), ds = [.lst (ns.map D.int), .rol (ms.map D.int), .int c] ∧ 1 ≤ c ∧ c ≤ 60
  post := fun ds r ds' => ∀ (xs ys : List D) (c : Int), ds = [.lst xs, .rol ys, .int c] → ∃ (ns : List Int) (ls : List Ln), r = encT c ls ∧ ds' = [.lst (ns.map D.int), .rol ys, .int c] ∧ TbOk c ls ∧ ls.length ≤ 12
/-- slots: 0 draws, 1 script, 2 cycle, 3 lines, 4 start, 5 k -/
def w_law_table : WS :=
    (cSeq (cAsg 3 [0, 1, 2] 3 (cLst (cCons (cTup (cCons (cC (.int 0)) (cCons (cCallN 2 sp_law_phases (cCons (cVar 0) (cCons (cVar 2) cNil))) cNil))) cNil)))
    (cSeq (cAsg 3 [0, 1, 2] 4 (cC (.int 0)))
    (cSeq (cFor [0, 1, 2] (iR1 (cCallN 2 sp_law_take (cCons (cVar 0) (cCons (cC (.int 4)) cNil)))) (gN 3 [0, 1, 2] 5)
      (cSeq (cAsg 3 [0, 1, 2] 4 (cOp fAddG (cOp fAddG (cVar 4) (cC (.int 1))) (cCallN 2 sp_law_size (cCons (cVar 0) (cCons (cVar 1) cNil)))))
        (cEx (cMeth 3 fAppend (cCons (cTup (cCons (cVar 4) (cCons (cCallN 2 sp_law_phases (cCons (cVar 0) (cCons (cVar 2) cNil))) cNil))) cNil)))))
    (cRet 3 (cTup (cCons (cVar 2) (cCons (cBi fTuple (cCons (cVar 3) cNil)) cNil)))))))
theorem table_post {ns xs ms : List Int} {c : Int} {ls : List Ln} (h : TbOk c ls) (hl : ls.length ≤ 12) : sp_law_table.post [.lst (ns.map D.int), .rol (ms.map D.int), .int c] (encT c ls) [.lst (xs.map D.int), .rol (ms.map D.int), .int c] := by
  intro xs ys c' e
  simp only [List.cons.injEq, and_true, D.lst.injEq, D.int.injEq, D.rol.injEq] at e
  obtain ⟨_, rfl, rfl⟩ := e
  exact ⟨_, ls, rfl, rfl, h, hl⟩
theorem pure_law_table : ∀ ds, ds.length = 3 → sp_law_table.pre ds → w_law_table (env0 ds 3) { nx := fun e => sp_law_table.post ds .non (outs e 3), rt := fun d e => sp_law_table.post ds d (outs e 3) } := by
  rintro ds _ ⟨ns, ms, c, rfl, h0, h1⟩
  (conv => whnf); (repeat (first | (refine And.intro rfl ?_; conv => whnf) | (refine And.intro trivial ?_; conv => whnf) | (refine And.intro ⟨rfl, trivial⟩ ?_; conv => whnf) | (refine And.intro ⟨rfl, rfl, trivial⟩ ?_; conv => whnf) | (refine ifb_t ?_; conv => whnf) | (refine ifb_f ?_; conv => whnf) | (refine ifb_nr ?_; conv => whnf) | (refine ifb_er ?_; conv => whnf) | (refine And.intro (by first | decide | omega | (unfold CMul; omega) | (unfold CDiv; omega) | (unfold CPow; decide) | (exact cpow1 (by omega) (by omega)) | (exact cpow1 (by dsimp only; omega) (by dsimp only; omega)) | (simp only [rngD_len, List.length_replicate, List.length_map, List.length_append, List.length_cons, List.length_nil, List.length_set] at *; omega)) ?_; conv => whnf)))
  refine ⟨⟨_, _, rfl, h0, h1⟩, ?_⟩
  intro r ds' hp
  obtain ⟨ns1, s, rfl, rfl, hs⟩ := hp _ _ rfl
  (conv => whnf); (repeat (first | (refine And.intro rfl ?_; conv => whnf) | (refine And.intro trivial ?_; conv => whnf) | (refine And.intro ⟨rfl, trivial⟩ ?_; conv => whnf) | (refine And.intro ⟨rfl, rfl, trivial⟩ ?_; conv => whnf) | (refine ifb_t ?_; conv => whnf) | (refine ifb_f ?_; conv => whnf) | (refine ifb_nr ?_; conv => whnf) | (refine ifb_er ?_; conv => whnf) | (refine And.intro (by first | decide | omega | (unfold CMul; omega) | (unfold CDiv; omega) | (unfold CPow; decide) | (exact cpow1 (by omega) (by omega)) | (exact cpow1 (by dsimp only; omega) (by dsimp only; omega)) | (simp only [rngD_len, List.length_replicate, List.length_map, List.length_append, List.length_cons, List.length_nil, List.length_set] at *; omega)) ?_; conv => whnf)))
  refine ⟨⟨⟨_, rfl⟩, by first | decide | omega⟩, ?_⟩; rintro _ _ ⟨ns2, v, rfl, rfl, h2, h3⟩; (conv => whnf); (repeat (first | (refine And.intro rfl ?_; conv => whnf) | (refine And.intro trivial ?_; conv => whnf) | (refine And.intro ⟨rfl, trivial⟩ ?_; conv => whnf) | (refine And.intro ⟨rfl, rfl, trivial⟩ ?_; conv => whnf) | (refine ifb_t ?_; conv => whnf) | (refine ifb_f ?_; conv => whnf) | (refine ifb_nr ?_; conv => whnf) | (refine ifb_er ?_; conv => whnf) | (refine And.intro (by first | decide | omega | (unfold CMul; omega) | (unfold CDiv; omega) | (unfold CPow; decide) | (exact cpow1 (by omega) (by omega)) | (exact cpow1 (by dsimp only; omega) (by dsimp only; omega)) | (simp only [rngD_len, List.length_replicate, List.length_map, List.length_append, List.length_cons, List.length_nil, List.length_set] at *; omega)) ?_; conv => whnf)))
  refine loop_rng (fun j e => ∃ (ks : List Int) (ls : List Ln) (st : Int) (o : Option D), (TbOk c ls ∧ (ls.length : Int) = j + 1 ∧ 0 ≤ st ∧ ∀ l ∈ ls, l.1 ≤ st) ∧ e = [some (.lst (ks.map D.int)), some (.rol (ms.map D.int)), some (.int c), some (.lst (ls.map encL)), some (.int st), o]) ⟨ns2, [(0, s)], 0, none, ⟨TbOk.one ⟨h0, h1⟩ hs, by simp, Int.le_refl _, by simp⟩, rfl⟩ ?_ ?_
  · rintro j env nxt hj0 hj1 ⟨ks, ls, st, o, ⟨ht, hl, hs0, hle⟩, rfl⟩ hx
    (conv => whnf); (repeat (first | (refine And.intro rfl ?_; conv => whnf) | (refine And.intro trivial ?_; conv => whnf) | (refine And.intro ⟨rfl, trivial⟩ ?_; conv => whnf) | (refine And.intro ⟨rfl, rfl, trivial⟩ ?_; conv => whnf) | (refine ifb_t ?_; conv => whnf) | (refine ifb_f ?_; conv => whnf) | (refine ifb_nr ?_; conv => whnf) | (refine ifb_er ?_; conv => whnf) | (refine And.intro (by first | decide | omega | (unfold CMul; omega) | (unfold CDiv; omega) | (unfold CPow; decide) | (exact cpow1 (by omega) (by omega)) | (exact cpow1 (by dsimp only; omega) (by dsimp only; omega)) | (simp only [rngD_len, List.length_replicate, List.length_map, List.length_append, List.length_cons, List.length_nil, List.length_set] at *; omega)) ?_; conv => whnf)))
    refine ⟨⟨⟨_, rfl⟩, _, rfl⟩, ?_⟩
    rintro _ _ ⟨ns3, v3, rfl, rfl, hv3⟩
    (conv => whnf); (repeat (first | (refine And.intro rfl ?_; conv => whnf) | (refine And.intro trivial ?_; conv => whnf) | (refine And.intro ⟨rfl, trivial⟩ ?_; conv => whnf) | (refine And.intro ⟨rfl, rfl, trivial⟩ ?_; conv => whnf) | (refine ifb_t ?_; conv => whnf) | (refine ifb_f ?_; conv => whnf) | (refine ifb_nr ?_; conv => whnf) | (refine ifb_er ?_; conv => whnf) | (refine And.intro (by first | decide | omega | (unfold CMul; omega) | (unfold CDiv; omega) | (unfold CPow; decide) | (exact cpow1 (by omega) (by omega)) | (exact cpow1 (by dsimp only; omega) (by dsimp only; omega)) | (simp only [rngD_len, List.length_replicate, List.length_map, List.length_append, List.length_cons, List.length_nil, List.length_set] at *; omega)) ?_; conv => whnf)))
    refine ⟨⟨_, _, rfl, h0, h1⟩, ?_⟩
    intro r ds' hp
    obtain ⟨ns4, s4, rfl, rfl, hs4⟩ := hp _ _ rfl
    (conv => whnf); (repeat (first | (refine And.intro rfl ?_; conv => whnf) | (refine And.intro trivial ?_; conv => whnf) | (refine And.intro ⟨rfl, trivial⟩ ?_; conv => whnf) | (refine And.intro ⟨rfl, rfl, trivial⟩ ?_; conv => whnf) | (refine ifb_t ?_; conv => whnf) | (refine ifb_f ?_; conv => whnf) | (refine ifb_nr ?_; conv => whnf) | (refine ifb_er ?_; conv => whnf) | (refine And.intro (by first | decide | omega | (unfold CMul; omega) | (unfold CDiv; omega) | (unfold CPow; decide) | (exact cpow1 (by omega) (by omega)) | (exact cpow1 (by dsimp only; omega) (by dsimp only; omega)) | (simp only [rngD_len, List.length_replicate, List.length_map, List.length_append, List.length_cons, List.length_nil, List.length_set] at *; omega)) ?_; conv => whnf)))
    exact hx _ ⟨ns4, ls ++ [(st + 1 + v3, s4)], st + 1 + v3, _, ⟨ht.snoc (fun l hl => by have := hle l hl; omega) hs4, by simp; omega, by omega, fun l hl => by
      rcases List.mem_append.mp hl with h | h
      · have := hle l h; omega
      · rw [List.mem_singleton.mp h]; exact Int.le_refl _⟩, by (first | rfl | (simp only [List.map_append, List.map_set, List.map_cons, List.map_nil]; done) | (simp only [List.map_append, List.map_set, List.map_cons, List.map_nil]; rfl))⟩
  · rintro env ⟨ks, ls, st, o, ⟨ht, hl, hs0, hle⟩, rfl⟩
    (conv => whnf); (repeat (first | (refine And.intro rfl ?_; conv => whnf) | (refine And.intro trivial ?_; conv => whnf) | (refine And.intro ⟨rfl, trivial⟩ ?_; conv => whnf) | (refine And.intro ⟨rfl, rfl, trivial⟩ ?_; conv => whnf) | (refine ifb_t ?_; conv => whnf) | (refine ifb_f ?_; conv => whnf) | (refine ifb_nr ?_; conv => whnf) | (refine ifb_er ?_; conv => whnf) | (refine And.intro (by first | decide | omega | (unfold CMul; omega) | (unfold CDiv; omega) | (unfold CPow; decide) | (exact cpow1 (by omega) (by omega)) | (exact cpow1 (by dsimp only; omega) (by dsimp only; omega)) | (simp only [rngD_len, List.length_replicate, List.length_map, List.length_append, List.length_cons, List.length_nil, List.length_set] at *; omega)) ?_; conv => whnf)))
    exact table_post ht (by omega)
abbrev sp_law_long_table : FSpec := sp_law_table
/-- slots: 0 draws, 1 script, 2 cycle, 3 lines, 4 start, 5 k -/
def w_law_long_table : WS :=
    (cSeq (cIte (cOp fGt (cCallN 2 sp_law_take (cCons (cVar 0) (cCons (cC (.int 8)) cNil))) (cC (.int 0)))
      (cRet 3 (cCallN 3 sp_law_table (cCons (cVar 0) (cCons (cVar 1) (cCons (cVar 2) cNil)))))
      cNilS)
    (cSeq (cAsg 3 [0, 1, 2] 3 (cLst (cCons (cTup (cCons (cC (.int 0)) (cCons (cCallN 2 sp_law_phases (cCons (cVar 0) (cCons (cVar 2) cNil))) cNil))) cNil)))
    (cSeq (cAsg 3 [0, 1, 2] 4 (cC (.int 0)))
    (cSeq (cFor [0, 1, 2] (iR1 (cOp fAddG (cC (.int 4)) (cCallN 2 sp_law_take (cCons (cVar 0) (cCons (cC (.int 8)) cNil))))) (gN 3 [0, 1, 2] 5)
      (cSeq (cAsg 3 [0, 1, 2] 4 (cOp fAddG (cOp fAddG (cVar 4) (cC (.int 1))) (cCallN 2 sp_law_take (cCons (cVar 0) (cCons (cOp fAddG (cVar 2) (cC (.int 6))) cNil)))))
        (cEx (cMeth 3 fAppend (cCons (cTup (cCons (cVar 4) (cCons (cCallN 2 sp_law_phases (cCons (cVar 0) (cCons (cVar 2) cNil))) cNil))) cNil)))))
    (cRet 3 (cTup (cCons (cVar 2) (cCons (cBi fTuple (cCons (cVar 3) cNil)) cNil))))))))
theorem pure_law_long_table : ∀ ds, ds.length = 3 → sp_law_long_table.pre ds → w_law_long_table (env0 ds 3) { nx := fun e => sp_law_long_table.post ds .non (outs e 3), rt := fun d e => sp_law_long_table.post ds d (outs e 3) } := by
  rintro ds _ ⟨ns, ms, c, rfl, h0, h1⟩
  (conv => whnf); (repeat (first | (refine And.intro rfl ?_; conv => whnf) | (refine And.intro trivial ?_; conv => whnf) | (refine And.intro ⟨rfl, trivial⟩ ?_; conv => whnf) | (refine And.intro ⟨rfl, rfl, trivial⟩ ?_; conv => whnf) | (refine ifb_t ?_; conv => whnf) | (refine ifb_f ?_; conv => whnf) | (refine ifb_nr ?_; conv => whnf) | (refine ifb_er ?_; conv => whnf) | (refine And.intro (by first | decide | omega | (unfold CMul; omega) | (unfold CDiv; omega) | (unfold CPow; decide) | (exact cpow1 (by omega) (by omega)) | (exact cpow1 (by dsimp only; omega) (by dsimp only; omega)) | (simp only [rngD_len, List.length_replicate, List.length_map, List.length_append, List.length_cons, List.length_nil, List.length_set] at *; omega)) ?_; conv => whnf)))
  refine ⟨⟨⟨_, rfl⟩, by first | decide | omega⟩, ?_⟩; rintro _ _ ⟨ns1, v1, rfl, rfl, h2, h3⟩; (conv => whnf); (repeat (first | (refine And.intro rfl ?_; conv => whnf) | (refine And.intro trivial ?_; conv => whnf) | (refine And.intro ⟨rfl, trivial⟩ ?_; conv => whnf) | (refine And.intro ⟨rfl, rfl, trivial⟩ ?_; conv => whnf) | (refine ifb_t ?_; conv => whnf) | (refine ifb_f ?_; conv => whnf) | (refine ifb_nr ?_; conv => whnf) | (refine ifb_er ?_; conv => whnf) | (refine And.intro (by first | decide | omega | (unfold CMul; omega) | (unfold CDiv; omega) | (unfold CPow; decide) | (exact cpow1 (by omega) (by omega)) | (exact cpow1 (by dsimp only; omega) (by dsimp only; omega)) | (simp only [rngD_len, List.length_replicate, List.length_map, List.length_append, List.length_cons, List.length_nil, List.length_set] at *; omega)) ?_; conv => whnf)))
  refine ifb_dec (fun e1 => ?_) (fun e1 => ?_)
  · (conv => whnf); (repeat (first | (refine And.intro rfl ?_; conv => whnf) | (refine And.intro trivial ?_; conv => whnf) | (refine And.intro ⟨rfl, trivial⟩ ?_; conv => whnf) | (refine And.intro ⟨rfl, rfl, trivial⟩ ?_; conv => whnf) | (refine ifb_t ?_; conv => whnf) | (refine ifb_f ?_; conv => whnf) | (refine ifb_nr ?_; conv => whnf) | (refine ifb_er ?_; conv => whnf) | (refine And.intro (by first | decide | omega | (unfold CMul; omega) | (unfold CDiv; omega) | (unfold CPow; decide) | (exact cpow1 (by omega) (by omega)) | (exact cpow1 (by dsimp only; omega) (by dsimp only; omega)) | (simp only [rngD_len, List.length_replicate, List.length_map, List.length_append, List.length_cons, List.length_nil, List.length_set] at *; omega)) ?_; conv => whnf)))
    refine ⟨⟨_, _, _, rfl, h0, h1⟩, ?_⟩
    intro r ds' hp
    obtain ⟨ns2, ls, rfl, rfl, hls, hll⟩ := hp _ _ _ rfl
    (conv => whnf); (repeat (first | (refine And.intro rfl ?_; conv => whnf) | (refine And.intro trivial ?_; conv => whnf) | (refine And.intro ⟨rfl, trivial⟩ ?_; conv => whnf) | (refine And.intro ⟨rfl, rfl, trivial⟩ ?_; conv => whnf) | (refine ifb_t ?_; conv => whnf) | (refine ifb_f ?_; conv => whnf) | (refine ifb_nr ?_; conv => whnf) | (refine ifb_er ?_; conv => whnf) | (refine And.intro (by first | decide | omega | (unfold CMul; omega) | (unfold CDiv; omega) | (unfold CPow; decide) | (exact cpow1 (by omega) (by omega)) | (exact cpow1 (by dsimp only; omega) (by dsimp only; omega)) | (simp only [rngD_len, List.length_replicate, List.length_map, List.length_append, List.length_cons, List.length_nil, List.length_set] at *; omega)) ?_; conv => whnf)))
    exact table_post hls hll
  · (conv => whnf); (repeat (first | (refine And.intro rfl ?_; conv => whnf) | (refine And.intro trivial ?_; conv => whnf) | (refine And.intro ⟨rfl, trivial⟩ ?_; conv => whnf) | (refine And.intro ⟨rfl, rfl, trivial⟩ ?_; conv => whnf) | (refine ifb_t ?_; conv => whnf) | (refine ifb_f ?_; conv => whnf) | (refine ifb_nr ?_; conv => whnf) | (refine ifb_er ?_; conv => whnf) | (refine And.intro (by first | decide | omega | (unfold CMul; omega) | (unfold CDiv; omega) | (unfold CPow; decide) | (exact cpow1 (by omega) (by omega)) | (exact cpow1 (by dsimp only; omega) (by dsimp only; omega)) | (simp only [rngD_len, List.length_replicate, List.length_map, List.length_append, List.length_cons, List.length_nil, List.length_set] at *; omega)) ?_; conv => whnf)))
    refine ⟨⟨_, _, rfl, h0, h1⟩, ?_⟩
    intro r ds' hp
    obtain ⟨ns1, s, rfl, rfl, hs⟩ := hp _ _ rfl
    (conv => whnf); (repeat (first | (refine And.intro rfl ?_; conv => whnf) | (refine And.intro trivial ?_; conv => whnf) | (refine And.intro ⟨rfl, trivial⟩ ?_; conv => whnf) | (refine And.intro ⟨rfl, rfl, trivial⟩ ?_; conv => whnf) | (refine ifb_t ?_; conv => whnf) | (refine ifb_f ?_; conv => whnf) | (refine ifb_nr ?_; conv => whnf) | (refine ifb_er ?_; conv => whnf) | (refine And.intro (by first | decide | omega | (unfold CMul; omega) | (unfold CDiv; omega) | (unfold CPow; decide) | (exact cpow1 (by omega) (by omega)) | (exact cpow1 (by dsimp only; omega) (by dsimp only; omega)) | (simp only [rngD_len, List.length_replicate, List.length_map, List.length_append, List.length_cons, List.length_nil, List.length_set] at *; omega)) ?_; conv => whnf)))
    refine ⟨⟨⟨_, rfl⟩, by first | decide | omega⟩, ?_⟩; rintro _ _ ⟨ns2, v, rfl, rfl, h2, h3⟩; (conv => whnf); (repeat (first | (refine And.intro rfl ?_; conv => whnf) | (refine And.intro trivial ?_; conv => whnf) | (refine And.intro ⟨rfl, trivial⟩ ?_; conv => whnf) | (refine And.intro ⟨rfl, rfl, trivial⟩ ?_; conv => whnf) | (refine ifb_t ?_; conv => whnf) | (refine ifb_f ?_; conv => whnf) | (refine ifb_nr ?_; conv => whnf) | (refine ifb_er ?_; conv => whnf) | (refine And.intro (by first | decide | omega | (unfold CMul; omega) | (unfold CDiv; omega) | (unfold CPow; decide) | (exact cpow1 (by omega) (by omega)) | (exact cpow1 (by dsimp only; omega) (by dsimp only; omega)) | (simp only [rngD_len, List.length_replicate, List.length_map, List.length_append, List.length_cons, List.length_nil, List.length_set] at *; omega)) ?_; conv => whnf)))
    refine loop_rng (fun j e => ∃ (ks : List Int) (ls : List Ln) (st : Int) (o : Option D), (TbOk c ls ∧ (ls.length : Int) = j + 1 ∧ 0 ≤ st ∧ ∀ l ∈ ls, l.1 ≤ st) ∧ e = [some (.lst (ks.map D.int)), some (.rol (ms.map D.int)), some (.int c), some (.lst (ls.map encL)), some (.int st), o]) ⟨ns2, [(0, s)], 0, none, ⟨TbOk.one ⟨h0, h1⟩ hs, by simp, Int.le_refl _, by simp⟩, rfl⟩ ?_ ?_
    · rintro j env nxt hj0 hj1 ⟨ks, ls, st, o, ⟨ht, hl, hs0, hle⟩, rfl⟩ hx
      (conv => whnf); (repeat (first | (refine And.intro rfl ?_; conv => whnf) | (refine And.intro trivial ?_; conv => whnf) | (refine And.intro ⟨rfl, trivial⟩ ?_; conv => whnf) | (refine And.intro ⟨rfl, rfl, trivial⟩ ?_; conv => whnf) | (refine ifb_t ?_; conv => whnf) | (refine ifb_f ?_; conv => whnf) | (refine ifb_nr ?_; conv => whnf) | (refine ifb_er ?_; conv => whnf) | (refine And.intro (by first | decide | omega | (unfold CMul; omega) | (unfold CDiv; omega) | (unfold CPow; decide) | (exact cpow1 (by omega) (by omega)) | (exact cpow1 (by dsimp only; omega) (by dsimp only; omega)) | (simp only [rngD_len, List.length_replicate, List.length_map, List.length_append, List.length_cons, List.length_nil, List.length_set] at *; omega)) ?_; conv => whnf)))
      refine ⟨⟨⟨_, rfl⟩, by omega⟩, ?_⟩
      rintro _ _ ⟨ns3, v3, rfl, rfl, hv3, hv4⟩
      (conv => whnf); (repeat (first | (refine And.intro rfl ?_; conv => whnf) | (refine And.intro trivial ?_; conv => whnf) | (refine And.intro ⟨rfl, trivial⟩ ?_; conv => whnf) | (refine And.intro ⟨rfl, rfl, trivial⟩ ?_; conv => whnf) | (refine ifb_t ?_; conv => whnf) | (refine ifb_f ?_; conv => whnf) | (refine ifb_nr ?_; conv => whnf) | (refine ifb_er ?_; conv => whnf) | (refine And.intro (by first | decide | omega | (unfold CMul; omega) | (unfold CDiv; omega) | (unfold CPow; decide) | (exact cpow1 (by omega) (by omega)) | (exact cpow1 (by dsimp only; omega) (by dsimp only; omega)) | (simp only [rngD_len, List.length_replicate, List.length_map, List.length_append, List.length_cons, List.length_nil, List.length_set] at *; omega)) ?_; conv => whnf)))
      refine ⟨⟨_, _, rfl, h0, h1⟩, ?_⟩
      intro r ds' hp
      obtain ⟨ns4, s4, rfl, rfl, hs4⟩ := hp _ _ rfl
      (conv => whnf); (repeat (first | (refine And.intro rfl ?_; conv => whnf) | (refine And.intro trivial ?_; conv => whnf) | (refine And.intro ⟨rfl, trivial⟩ ?_; conv => whnf) | (refine And.intro ⟨rfl, rfl, trivial⟩ ?_; conv => whnf) | (refine ifb_t ?_; conv => whnf) | (refine ifb_f ?_; conv => whnf) | (refine ifb_nr ?_; conv => whnf) | (refine ifb_er ?_; conv => whnf) | (refine And.intro (by first | decide | omega | (unfold CMul; omega) | (unfold CDiv; omega) | (unfold CPow; decide) | (exact cpow1 (by omega) (by omega)) | (exact cpow1 (by dsimp only; omega) (by dsimp only; omega)) | (simp only [rngD_len, List.length_replicate, List.length_map, List.length_append, List.length_cons, List.length_nil, List.length_set] at *; omega)) ?_; conv => whnf)))
      exact hx _ ⟨ns4, ls ++ [(st + 1 + v3, s4)], st + 1 + v3, _, ⟨ht.snoc (fun l hl => by have := hle l hl; omega) hs4, by simp; omega, by omega, fun l hl => by
        rcases List.mem_append.mp hl with h | h
        · have := hle l h; omega
        · rw [List.mem_singleton.mp h]; exact Int.le_refl _⟩, by (first | rfl | (simp only [List.map_append, List.map_set, List.map_cons, List.map_nil]; done) | (simp only [List.map_append, List.map_set, List.map_cons, List.map_nil]; rfl))⟩
    · rintro env ⟨ks, ls, st, o, ⟨ht, hl, hs0, hle⟩, rfl⟩
      (conv => whnf); (repeat (first | (refine And.intro rfl ?_; conv => whnf) | (refine And.intro trivial ?_; conv => whnf) | (refine And.intro ⟨rfl, trivial⟩ ?_; conv => whnf) | (refine And.intro ⟨rfl, rfl, trivial⟩ ?_; conv => whnf) | (refine ifb_t ?_; conv => whnf) | (refine ifb_f ?_; conv => whnf) | (refine ifb_nr ?_; conv => whnf) | (refine ifb_er ?_; conv => whnf) | (refine And.intro (by first | decide | omega | (unfold CMul; omega) | (unfold CDiv; omega) | (unfold CPow; decide) | (exact cpow1 (by omega) (by omega)) | (exact cpow1 (by dsimp only; omega) (by dsimp only; omega)) | (simp only [rngD_len, List.length_replicate, List.length_map, List.length_append, List.length_cons, List.length_nil, List.length_set] at *; omega)) ?_; conv => whnf)))
      exact table_post ht (by omega)
/-! equal data are the same -/
def fitD : Nat → D → Bool
  | _, .non => true
  | _, .bl _ => true
  | _, .int _ => true
  | _, .str _ => true
  | 0, _ => false
  | n + 1, .tup xs => decide (xs.length ≤ 900000) && (xs.all (fun d => !isL d && fitD n d))
  | n + 1, .lst xs => decide (xs.length ≤ 900000) && (xs.all (fun d => !isL d && fitD n d))
  | _ + 1, .rol _ => false
theorem flatA_rep : ∀ n : Nat, flatA (List.replicate n (D.bl true)) = true
  | 0 => rfl
  | n + 1 => by rw [List.replicate_succ]; simp only [flatA, flatD, flatA_rep n]; rfl
theorem any_rep : ∀ n : Nat, ((List.replicate n (D.bl true)).any fun y => eqF y (D.bl false)) = false
  | 0 => rfl
  | n + 1 => by rw [List.replicate_succ, List.any_cons, any_rep n]; rfl
def spn_law_same : Nat → FSpec
  | 0 => ⟨fun _ => False, fun _ _ _ => False⟩
  | n + 1 => ⟨fun ds => ∃ d, ds = [d, d] ∧ fitD n d = true, fun ds r ds' => r = .bl true ∧ ds' = ds⟩
abbrev sp_law_same : FSpec := spn_law_same 8
/-- slots: 0 actual, 1 due, 2 k -/
def w_law_same (n : Nat) : WS :=
    (cSeq (cIte (cIsi2 .tuple .list (cVar 1))
      (cSeq (cIte (cOr (cOp fNeS (cIsi .tuple (cVar 0)) (cIsi .tuple (cVar 1))) (cOp fNeS (cIsi .list (cVar 0)) (cIsi .list (cVar 1))))
          (cRet 2 (cC (.bl false)))
          cNilS)
        (cSeq (cIte (cOp fNeS (cBi fLen (cCons (cVar 0) cNil)) (cBi fLen (cCons (cVar 1) cNil)))
          (cRet 2 (cC (.bl false)))
          cNilS)
        (cRet 2 (cOp (fIn true) (cC (.bl false)) (cLc [2] (iR1 (cBi fLen (cCons (cVar 1) cNil))) (gN 2 [] 2) tTrue (cCallN 2 (spn_law_same n) (cCons (cOp fIx (cVar 0) (cVar 2)) (cCons (cOp fIx (cVar 1) (cVar 2)) cNil))))))))
      cNilS)
    (cSeq (cIte (cOr (cOp fNeS (cIsi .bool (cVar 0)) (cIsi .bool (cVar 1))) (cOp fNeS (cIsi .int (cVar 0)) (cIsi .int (cVar 1))))
      (cRet 2 (cC (.bl false)))
      cNilS)
    (cSeq (cIte (cOr (cOp fNeS (cIsi .str (cVar 0)) (cIsi .str (cVar 1))) (cOp fNeS (cUn (fIsN false) (cVar 0)) (cUn (fIsN false) (cVar 1))))
      (cRet 2 (cC (.bl false)))
      cNilS)
    (cRet 2 (cOp fEqS (cVar 0) (cVar 1))))))
theorem pure_law_same : ∀ n, ∀ ds, ds.length = 2 → (spn_law_same (n + 1)).pre ds → w_law_same n (env0 ds 1) { nx := fun e => (spn_law_same (n + 1)).post ds .non (outs e 2), rt := fun d e => (spn_law_same (n + 1)).post ds d (outs e 2) } := by
  rintro n ds _ ⟨d, rfl, hf⟩
  cases d with
  | non => (conv => whnf); (repeat (first | (refine And.intro rfl ?_; conv => whnf) | (refine And.intro trivial ?_; conv => whnf) | (refine And.intro ⟨rfl, trivial⟩ ?_; conv => whnf) | (refine And.intro ⟨rfl, rfl, trivial⟩ ?_; conv => whnf) | (refine ifb_t ?_; conv => whnf) | (refine ifb_f ?_; conv => whnf) | (refine ifb_nr ?_; conv => whnf) | (refine ifb_er ?_; conv => whnf) | (refine And.intro (by first | decide | omega | (unfold CMul; omega) | (unfold CDiv; omega) | (unfold CPow; decide) | (exact cpow1 (by omega) (by omega)) | (exact cpow1 (by dsimp only; omega) (by dsimp only; omega)) | (simp only [rngD_len, List.length_replicate, List.length_map, List.length_append, List.length_cons, List.length_nil, List.length_set] at *; omega)) ?_; conv => whnf))); rfl
  | bl b => (conv => whnf); (repeat (first | (refine And.intro rfl ?_; conv => whnf) | (refine And.intro trivial ?_; conv => whnf) | (refine And.intro ⟨rfl, trivial⟩ ?_; conv => whnf) | (refine And.intro ⟨rfl, rfl, trivial⟩ ?_; conv => whnf) | (refine ifb_t ?_; conv => whnf) | (refine ifb_f ?_; conv => whnf) | (refine ifb_nr ?_; conv => whnf) | (refine ifb_er ?_; conv => whnf) | (refine And.intro (by first | decide | omega | (unfold CMul; omega) | (unfold CDiv; omega) | (unfold CPow; decide) | (exact cpow1 (by omega) (by omega)) | (exact cpow1 (by dsimp only; omega) (by dsimp only; omega)) | (simp only [rngD_len, List.length_replicate, List.length_map, List.length_append, List.length_cons, List.length_nil, List.length_set] at *; omega)) ?_; conv => whnf))); simp; rfl
  | int i => (conv => whnf); (repeat (first | (refine And.intro rfl ?_; conv => whnf) | (refine And.intro trivial ?_; conv => whnf) | (refine And.intro ⟨rfl, trivial⟩ ?_; conv => whnf) | (refine And.intro ⟨rfl, rfl, trivial⟩ ?_; conv => whnf) | (refine ifb_t ?_; conv => whnf) | (refine ifb_f ?_; conv => whnf) | (refine ifb_nr ?_; conv => whnf) | (refine ifb_er ?_; conv => whnf) | (refine And.intro (by first | decide | omega | (unfold CMul; omega) | (unfold CDiv; omega) | (unfold CPow; decide) | (exact cpow1 (by omega) (by omega)) | (exact cpow1 (by dsimp only; omega) (by dsimp only; omega)) | (simp only [rngD_len, List.length_replicate, List.length_map, List.length_append, List.length_cons, List.length_nil, List.length_set] at *; omega)) ?_; conv => whnf))); simp; rfl
  | str x => (conv => whnf); (repeat (first | (refine And.intro rfl ?_; conv => whnf) | (refine And.intro trivial ?_; conv => whnf) | (refine And.intro ⟨rfl, trivial⟩ ?_; conv => whnf) | (refine And.intro ⟨rfl, rfl, trivial⟩ ?_; conv => whnf) | (refine ifb_t ?_; conv => whnf) | (refine ifb_f ?_; conv => whnf) | (refine ifb_nr ?_; conv => whnf) | (refine ifb_er ?_; conv => whnf) | (refine And.intro (by first | decide | omega | (unfold CMul; omega) | (unfold CDiv; omega) | (unfold CPow; decide) | (exact cpow1 (by omega) (by omega)) | (exact cpow1 (by dsimp only; omega) (by dsimp only; omega)) | (simp only [rngD_len, List.length_replicate, List.length_map, List.length_append, List.length_cons, List.length_nil, List.length_set] at *; omega)) ?_; conv => whnf))); simp; rfl
  | tup xs =>
    obtain ⟨n, rfl⟩ : ∃ m, n = m + 1 := by
      cases n with
      | zero => simp [fitD] at hf
      | succ m => exact ⟨m, rfl⟩
    simp only [fitD, Bool.and_eq_true, decide_eq_true_eq, List.all_eq_true] at hf
    obtain ⟨hl, hf⟩ := hf
    (conv => whnf); (repeat (first | (refine And.intro rfl ?_; conv => whnf) | (refine And.intro trivial ?_; conv => whnf) | (refine And.intro ⟨rfl, trivial⟩ ?_; conv => whnf) | (refine And.intro ⟨rfl, rfl, trivial⟩ ?_; conv => whnf) | (refine ifb_t ?_; conv => whnf) | (refine ifb_f ?_; conv => whnf) | (refine ifb_nr ?_; conv => whnf) | (refine ifb_er ?_; conv => whnf) | (refine And.intro (by first | decide | omega | (unfold CMul; omega) | (unfold CDiv; omega) | (unfold CPow; decide) | (exact cpow1 (by omega) (by omega)) | (exact cpow1 (by dsimp only; omega) (by dsimp only; omega)) | (simp only [rngD_len, List.length_replicate, List.length_map, List.length_append, List.length_cons, List.length_nil, List.length_set] at *; omega)) ?_; conv => whnf)))
    refine lcGo_map (fun _ => .bl true) _ _ ?_ ?_
    · intro x nxt acc hx hn
      obtain ⟨i, rfl, h1, h2⟩ := rng_mem hx
      obtain ⟨h, ea⟩ := atI_lt (xs := xs) (j := i) h1 (by omega)
      (conv => whnf); (repeat (first | (refine And.intro rfl ?_; conv => whnf) | (refine And.intro trivial ?_; conv => whnf) | (refine And.intro ⟨rfl, trivial⟩ ?_; conv => whnf) | (refine And.intro ⟨rfl, rfl, trivial⟩ ?_; conv => whnf) | (refine ifb_t ?_; conv => whnf) | (refine ifb_f ?_; conv => whnf) | (refine ifb_nr ?_; conv => whnf) | (refine ifb_er ?_; conv => whnf) | (refine And.intro (by first | decide | omega | (unfold CMul; omega) | (unfold CDiv; omega) | (unfold CPow; decide) | (exact cpow1 (by omega) (by omega)) | (exact cpow1 (by dsimp only; omega) (by dsimp only; omega)) | (simp only [rngD_len, List.length_replicate, List.length_map, List.length_append, List.length_cons, List.length_nil, List.length_set] at *; omega)) ?_; conv => whnf)))
      rw [ea]
      (conv => whnf); (repeat (first | (refine And.intro rfl ?_; conv => whnf) | (refine And.intro trivial ?_; conv => whnf) | (refine And.intro ⟨rfl, trivial⟩ ?_; conv => whnf) | (refine And.intro ⟨rfl, rfl, trivial⟩ ?_; conv => whnf) | (refine ifb_t ?_; conv => whnf) | (refine ifb_f ?_; conv => whnf) | (refine ifb_nr ?_; conv => whnf) | (refine ifb_er ?_; conv => whnf) | (refine And.intro (by first | decide | omega | (unfold CMul; omega) | (unfold CDiv; omega) | (unfold CPow; decide) | (exact cpow1 (by omega) (by omega)) | (exact cpow1 (by dsimp only; omega) (by dsimp only; omega)) | (simp only [rngD_len, List.length_replicate, List.length_map, List.length_append, List.length_cons, List.length_nil, List.length_set] at *; omega)) ?_; conv => whnf)))
      rw [ea]
      (conv => whnf); (repeat (first | (refine And.intro rfl ?_; conv => whnf) | (refine And.intro trivial ?_; conv => whnf) | (refine And.intro ⟨rfl, trivial⟩ ?_; conv => whnf) | (refine And.intro ⟨rfl, rfl, trivial⟩ ?_; conv => whnf) | (refine ifb_t ?_; conv => whnf) | (refine ifb_f ?_; conv => whnf) | (refine ifb_nr ?_; conv => whnf) | (refine ifb_er ?_; conv => whnf) | (refine And.intro (by first | decide | omega | (unfold CMul; omega) | (unfold CDiv; omega) | (unfold CPow; decide) | (exact cpow1 (by omega) (by omega)) | (exact cpow1 (by dsimp only; omega) (by dsimp only; omega)) | (simp only [rngD_len, List.length_replicate, List.length_map, List.length_append, List.length_cons, List.length_nil, List.length_set] at *; omega)) ?_; conv => whnf)))
      have hd := hf _ (List.getElem_mem h)
      have hL : isL xs[i.toNat] = false := by simpa using hd.1
      refine ⟨⟨_, rfl, hd.2⟩, ?_⟩
      rintro _ _ ⟨rfl, rfl⟩
      (conv => whnf); (repeat (first | (refine And.intro rfl ?_; conv => whnf) | (refine And.intro trivial ?_; conv => whnf) | (refine And.intro ⟨rfl, trivial⟩ ?_; conv => whnf) | (refine And.intro ⟨rfl, rfl, trivial⟩ ?_; conv => whnf) | (refine ifb_t ?_; conv => whnf) | (refine ifb_f ?_; conv => whnf) | (refine ifb_nr ?_; conv => whnf) | (refine ifb_er ?_; conv => whnf) | (refine And.intro (by first | decide | omega | (unfold CMul; omega) | (unfold CDiv; omega) | (unfold CPow; decide) | (exact cpow1 (by omega) (by omega)) | (exact cpow1 (by dsimp only; omega) (by dsimp only; omega)) | (simp only [rngD_len, List.length_replicate, List.length_map, List.length_append, List.length_cons, List.length_nil, List.length_set] at *; omega)) ?_; conv => whnf)))
      exact hn
    · rw [map_const]
      refine ⟨trivial, ?_⟩
      (conv => whnf); (repeat (first | (refine And.intro rfl ?_; conv => whnf) | (refine And.intro trivial ?_; conv => whnf) | (refine And.intro ⟨rfl, trivial⟩ ?_; conv => whnf) | (refine And.intro ⟨rfl, rfl, trivial⟩ ?_; conv => whnf) | (refine ifb_t ?_; conv => whnf) | (refine ifb_f ?_; conv => whnf) | (refine ifb_nr ?_; conv => whnf) | (refine ifb_er ?_; conv => whnf) | (refine And.intro (by first | decide | omega | (unfold CMul; omega) | (unfold CDiv; omega) | (unfold CPow; decide) | (exact cpow1 (by omega) (by omega)) | (exact cpow1 (by dsimp only; omega) (by dsimp only; omega)) | (simp only [rngD_len, List.length_replicate, List.length_map, List.length_append, List.length_cons, List.length_nil, List.length_set] at *; omega)) ?_; conv => whnf)))
      refine ⟨flatA_rep _, ?_⟩
      dsimp only
      rw [any_rep]
      (conv => whnf); (repeat (first | (refine And.intro rfl ?_; conv => whnf) | (refine And.intro trivial ?_; conv => whnf) | (refine And.intro ⟨rfl, trivial⟩ ?_; conv => whnf) | (refine And.intro ⟨rfl, rfl, trivial⟩ ?_; conv => whnf) | (refine ifb_t ?_; conv => whnf) | (refine ifb_f ?_; conv => whnf) | (refine ifb_nr ?_; conv => whnf) | (refine ifb_er ?_; conv => whnf) | (refine And.intro (by first | decide | omega | (unfold CMul; omega) | (unfold CDiv; omega) | (unfold CPow; decide) | (exact cpow1 (by omega) (by omega)) | (exact cpow1 (by dsimp only; omega) (by dsimp only; omega)) | (simp only [rngD_len, List.length_replicate, List.length_map, List.length_append, List.length_cons, List.length_nil, List.length_set] at *; omega)) ?_; conv => whnf)))
      rfl
  | lst xs =>
    obtain ⟨n, rfl⟩ : ∃ m, n = m + 1 := by
      cases n with
      | zero => simp [fitD] at hf
      | succ m => exact ⟨m, rfl⟩
    simp only [fitD, Bool.and_eq_true, decide_eq_true_eq, List.all_eq_true] at hf
    obtain ⟨hl, hf⟩ := hf
    (conv => whnf); (repeat (first | (refine And.intro rfl ?_; conv => whnf) | (refine And.intro trivial ?_; conv => whnf) | (refine And.intro ⟨rfl, trivial⟩ ?_; conv => whnf) | (refine And.intro ⟨rfl, rfl, trivial⟩ ?_; conv => whnf) | (refine ifb_t ?_; conv => whnf) | (refine ifb_f ?_; conv => whnf) | (refine ifb_nr ?_; conv => whnf) | (refine ifb_er ?_; conv => whnf) | (refine And.intro (by first | decide | omega | (unfold CMul; omega) | (unfold CDiv; omega) | (unfold CPow; decide) | (exact cpow1 (by omega) (by omega)) | (exact cpow1 (by dsimp only; omega) (by dsimp only; omega)) | (simp only [rngD_len, List.length_replicate, List.length_map, List.length_append, List.length_cons, List.length_nil, List.length_set] at *; omega)) ?_; conv => whnf)))
    refine lcGo_map (fun _ => .bl true) _ _ ?_ ?_
    · intro x nxt acc hx hn
      obtain ⟨i, rfl, h1, h2⟩ := rng_mem hx
      obtain ⟨h, ea⟩ := atI_lt (xs := xs) (j := i) h1 (by omega)
      (conv => whnf); (repeat (first | (refine And.intro rfl ?_; conv => whnf) | (refine And.intro trivial ?_; conv => whnf) | (refine And.intro ⟨rfl, trivial⟩ ?_; conv => whnf) | (refine And.intro ⟨rfl, rfl, trivial⟩ ?_; conv => whnf) | (refine ifb_t ?_; conv => whnf) | (refine ifb_f ?_; conv => whnf) | (refine ifb_nr ?_; conv => whnf) | (refine ifb_er ?_; conv => whnf) | (refine And.intro (by first | decide | omega | (unfold CMul; omega) | (unfold CDiv; omega) | (unfold CPow; decide) | (exact cpow1 (by omega) (by omega)) | (exact cpow1 (by dsimp only; omega) (by dsimp only; omega)) | (simp only [rngD_len, List.length_replicate, List.length_map, List.length_append, List.length_cons, List.length_nil, List.length_set] at *; omega)) ?_; conv => whnf)))
      rw [ea]
      (conv => whnf); (repeat (first | (refine And.intro rfl ?_; conv => whnf) | (refine And.intro trivial ?_; conv => whnf) | (refine And.intro ⟨rfl, trivial⟩ ?_; conv => whnf) | (refine And.intro ⟨rfl, rfl, trivial⟩ ?_; conv => whnf) | (refine ifb_t ?_; conv => whnf) | (refine ifb_f ?_; conv => whnf) | (refine ifb_nr ?_; conv => whnf) | (refine ifb_er ?_; conv => whnf) | (refine And.intro (by first | decide | omega | (unfold CMul; omega) | (unfold CDiv; omega) | (unfold CPow; decide) | (exact cpow1 (by omega) (by omega)) | (exact cpow1 (by dsimp only; omega) (by dsimp only; omega)) | (simp only [rngD_len, List.length_replicate, List.length_map, List.length_append, List.length_cons, List.length_nil, List.length_set] at *; omega)) ?_; conv => whnf)))
      rw [ea]
      (conv => whnf); (repeat (first | (refine And.intro rfl ?_; conv => whnf) | (refine And.intro trivial ?_; conv => whnf) | (refine And.intro ⟨rfl, trivial⟩ ?_; conv => whnf) | (refine And.intro ⟨rfl, rfl, trivial⟩ ?_; conv => whnf) | (refine ifb_t ?_; conv => whnf) | (refine ifb_f ?_; conv => whnf) | (refine ifb_nr ?_; conv => whnf) | (refine ifb_er ?_; conv => whnf) | (refine And.intro (by first | decide | omega | (unfold CMul; omega) | (unfold CDiv; omega) | (unfold CPow; decide) | (exact cpow1 (by omega) (by omega)) | (exact cpow1 (by dsimp only; omega) (by dsimp only; omega)) | (simp only [rngD_len, List.length_replicate, List.length_map, List.length_append, List.length_cons, List.length_nil, List.length_set] at *; omega)) ?_; conv => whnf)))
      have hd := hf _ (List.getElem_mem h)
      have hL : isL xs[i.toNat] = false := by simpa using hd.1
      refine ⟨⟨_, rfl, hd.2⟩, ?_⟩
      rintro _ _ ⟨rfl, rfl⟩
      (conv => whnf); (repeat (first | (refine And.intro rfl ?_; conv => whnf) | (refine And.intro trivial ?_; conv => whnf) | (refine And.intro ⟨rfl, trivial⟩ ?_; conv => whnf) | (refine And.intro ⟨rfl, rfl, trivial⟩ ?_; conv => whnf) | (refine ifb_t ?_; conv => whnf) | (refine ifb_f ?_; conv => whnf) | (refine ifb_nr ?_; conv => whnf) | (refine ifb_er ?_; conv => whnf) | (refine And.intro (by first | decide | omega | (unfold CMul; omega) | (unfold CDiv; omega) | (unfold CPow; decide) | (exact cpow1 (by omega) (by omega)) | (exact cpow1 (by dsimp only; omega) (by dsimp only; omega)) | (simp only [rngD_len, List.length_replicate, List.length_map, List.length_append, List.length_cons, List.length_nil, List.length_set] at *; omega)) ?_; conv => whnf)))
      exact hn
    · rw [map_const]
      refine ⟨trivial, ?_⟩
      (conv => whnf); (repeat (first | (refine And.intro rfl ?_; conv => whnf) | (refine And.intro trivial ?_; conv => whnf) | (refine And.intro ⟨rfl, trivial⟩ ?_; conv => whnf) | (refine And.intro ⟨rfl, rfl, trivial⟩ ?_; conv => whnf) | (refine ifb_t ?_; conv => whnf) | (refine ifb_f ?_; conv => whnf) | (refine ifb_nr ?_; conv => whnf) | (refine ifb_er ?_; conv => whnf) | (refine And.intro (by first | decide | omega | (unfold CMul; omega) | (unfold CDiv; omega) | (unfold CPow; decide) | (exact cpow1 (by omega) (by omega)) | (exact cpow1 (by dsimp only; omega) (by dsimp only; omega)) | (simp only [rngD_len, List.length_replicate, List.length_map, List.length_append, List.length_cons, List.length_nil, List.length_set] at *; omega)) ?_; conv => whnf)))
      refine ⟨flatA_rep _, ?_⟩
      dsimp only
      rw [any_rep]
      (conv => whnf); (repeat (first | (refine And.intro rfl ?_; conv => whnf) | (refine And.intro trivial ?_; conv => whnf) | (refine And.intro ⟨rfl, trivial⟩ ?_; conv => whnf) | (refine And.intro ⟨rfl, rfl, trivial⟩ ?_; conv => whnf) | (refine ifb_t ?_; conv => whnf) | (refine ifb_f ?_; conv => whnf) | (refine ifb_nr ?_; conv => whnf) | (refine ifb_er ?_; conv => whnf) | (refine And.intro (by first | decide | omega | (unfold CMul; omega) | (unfold CDiv; omega) | (unfold CPow; decide) | (exact cpow1 (by omega) (by omega)) | (exact cpow1 (by dsimp only; omega) (by dsimp only; omega)) | (simp only [rngD_len, List.length_replicate, List.length_map, List.length_append, List.length_cons, List.length_nil, List.length_set] at *; omega)) ?_; conv => whnf)))
      rfl
  | rol xs => cases n <;> simp [fitD] at hf
end DL

set_option maxHeartbeats 4000000
namespace DL
open PySem PySem.Spec PyProof.Rows L2
/-! ### words -/
def okC (c : Nat) : Bool := decide (97 ≤ c) && decide (c ≤ 122)
def isW (z : Str) : Bool := !(z.cps.toList.isEmpty) && z.cps.toList.all okC
theorem leA (c : Nat) : (!decide ((⟨#[c]⟩ : Str).cps.toList < (PySem.Str.ofString "a").cps.toList)) = decide (97 ≤ c) := by
  have e : (PySem.Str.ofString "a").cps.toList = [97] := by decide
  rw [e]
  show (!decide ([c] < [97])) = _
  have : ([c] < [97]) ↔ c < 97 := by simp [List.cons_lt_cons_iff]
  rw [Bool.eq_iff_iff]
  simp [this]
theorem leZ (c : Nat) : (!decide ((PySem.Str.ofString "z").cps.toList < (⟨#[c]⟩ : Str).cps.toList)) = decide (c ≤ 122) := by
  have e : (PySem.Str.ofString "z").cps.toList = [122] := by decide
  rw [e]
  show (!decide ([122] < [c])) = _
  have : ([122] < [c]) ↔ 122 < c := by simp [List.cons_lt_cons_iff]
  rw [Bool.eq_iff_iff]
  simp [this]
def alpha : Str := PySem.Str.ofString "abcdefghijklmnopqrstuvwxyz"
theorem alpha_list : alpha.cps.toList = (List.range 26).map (97 + ·) := by decide
theorem mem_alpha (c : Nat) : decide (c ∈ alpha.cps.toList) = okC c := by
  rw [alpha_list]
  unfold okC
  rw [Bool.eq_iff_iff]
  simp only [decide_eq_true_eq, Bool.and_eq_true, List.mem_map, List.mem_range]
  constructor
  · rintro ⟨i, h, rfl⟩
    omega
  · rintro ⟨h1, h2⟩
    exact ⟨c - 97, by omega, by omega⟩
theorem len_list (z : Str) : z.length = z.cps.toList.length := by simp [Str.length]
def okD : D → D
  | .str z => .bl (isW z)
  | d => d
def sp_is_word : FSpec where
  pre := fun ds => ∃ z : Str, ds = [.str z] ∧ z.length ≤ 100000
  post := fun ds r ds' => ds' = ds ∧ ∀ z : Str, ds = [.str z] → r = .bl (isW z)
def sp_law_is_word : FSpec := sp_is_word
theorem word_post {z : Str} {b : Bool} (h : b = isW z) : ∀ z' : Str, [D.str z] = [D.str z'] → D.bl b = .bl (isW z') := by
  intro z' e
  simp only [List.cons.injEq, D.str.injEq, and_true] at e
  rw [h, e]
theorem isW1 (c : Nat) : isW ⟨#[c]⟩ = okC c := by simp [isW]
theorem sgnD_len (z : Str) : (sgnD z).length = z.length := by rw [sgnD, List.length_map, len_list]
theorem sgn_ok (z : Str) : (sgnD z).map okD = (z.cps.toList.map okC).map D.bl := by
  unfold sgnD
  rw [List.map_map, List.map_map]
  refine List.map_congr_left fun c _ => ?_
  show D.bl (isW ⟨#[c]⟩) = D.bl (okC c)
  rw [isW1]
/-- slots: 0 text, 1 sign -/
def w_is_word : WS :=
    (cRet 1 (cAnd (cOp fNeS (cVar 0) (cC (.str (PySem.Str.ofString "")))) (cBi fAll (cCons (cLc [1] (iS (cVar 0)) (gN 1 [] 1) tTrue (cChain fLeS fLeS (cC (.str (PySem.Str.ofString "a"))) (cVar 1) (cC (.str (PySem.Str.ofString "z"))))) cNil))))
theorem pure_is_word : ∀ ds, ds.length = 1 → sp_is_word.pre ds → w_is_word (env0 ds 1) { nx := fun e => sp_is_word.post ds .non (outs e 1), rt := fun d e => sp_is_word.post ds d (outs e 1) } := by
  rintro ds _ ⟨z, rfl, hz⟩
  (conv => whnf); (repeat (first | (refine And.intro rfl ?_; conv => whnf) | (refine And.intro trivial ?_; conv => whnf) | (refine And.intro ⟨rfl, trivial⟩ ?_; conv => whnf) | (refine And.intro ⟨rfl, rfl, trivial⟩ ?_; conv => whnf) | (refine ifb_t ?_; conv => whnf) | (refine ifb_f ?_; conv => whnf) | (refine ifb_nr ?_; conv => whnf) | (refine ifb_er ?_; conv => whnf) | (refine And.intro (by first | decide | omega | (unfold CMul; omega) | (unfold CDiv; omega) | (unfold CPow; decide) | (exact cpow1 (by omega) (by omega)) | (exact cpow1 (by dsimp only; omega) (by dsimp only; omega)) | (simp only [rngD_len, List.length_replicate, List.length_map, List.length_append, List.length_cons, List.length_nil, List.length_set] at *; omega)) ?_; conv => whnf)))
  refine ifb_ndec (fun q => ?_) (fun q => ?_)
  · have hz2 := sgnD_len z
    (conv => whnf); (repeat (first | (refine And.intro rfl ?_; conv => whnf) | (refine And.intro trivial ?_; conv => whnf) | (refine And.intro ⟨rfl, trivial⟩ ?_; conv => whnf) | (refine And.intro ⟨rfl, rfl, trivial⟩ ?_; conv => whnf) | (refine ifb_t ?_; conv => whnf) | (refine ifb_f ?_; conv => whnf) | (refine ifb_nr ?_; conv => whnf) | (refine ifb_er ?_; conv => whnf) | (refine And.intro (by first | decide | omega | (unfold CMul; omega) | (unfold CDiv; omega) | (unfold CPow; decide) | (exact cpow1 (by omega) (by omega)) | (exact cpow1 (by dsimp only; omega) (by dsimp only; omega)) | (simp only [rngD_len, List.length_replicate, List.length_map, List.length_append, List.length_cons, List.length_nil, List.length_set] at *; omega)) ?_; conv => whnf)))
    refine lcGo_map okD _ _ ?_ ?_
    · intro d nxt acc hd hnx
      obtain ⟨c, _, rfl⟩ := List.mem_map.mp hd
      have hv : okD (sgn1 c) = .bl (decide (97 ≤ c) && decide (c ≤ 122)) := by
        show D.bl (isW ⟨#[c]⟩) = _
        rw [isW1]
        rfl
      rw [hv] at hnx
      (conv => whnf); (repeat (first | (refine And.intro rfl ?_; conv => whnf) | (refine And.intro trivial ?_; conv => whnf) | (refine And.intro ⟨rfl, trivial⟩ ?_; conv => whnf) | (refine And.intro ⟨rfl, rfl, trivial⟩ ?_; conv => whnf) | (refine ifb_t ?_; conv => whnf) | (refine ifb_f ?_; conv => whnf) | (refine ifb_nr ?_; conv => whnf) | (refine ifb_er ?_; conv => whnf) | (refine And.intro (by first | decide | omega | (unfold CMul; omega) | (unfold CDiv; omega) | (unfold CPow; decide) | (exact cpow1 (by omega) (by omega)) | (exact cpow1 (by dsimp only; omega) (by dsimp only; omega)) | (simp only [rngD_len, List.length_replicate, List.length_map, List.length_append, List.length_cons, List.length_nil, List.length_set] at *; omega)) ?_; conv => whnf)))
      rw [leA]
      refine ifb_dec (fun g1 => ?_) (fun g1 => ?_)
      · rw [decide_eq_true g1] at hnx
        (conv => whnf); (repeat (first | (refine And.intro rfl ?_; conv => whnf) | (refine And.intro trivial ?_; conv => whnf) | (refine And.intro ⟨rfl, trivial⟩ ?_; conv => whnf) | (refine And.intro ⟨rfl, rfl, trivial⟩ ?_; conv => whnf) | (refine ifb_t ?_; conv => whnf) | (refine ifb_f ?_; conv => whnf) | (refine ifb_nr ?_; conv => whnf) | (refine ifb_er ?_; conv => whnf) | (refine And.intro (by first | decide | omega | (unfold CMul; omega) | (unfold CDiv; omega) | (unfold CPow; decide) | (exact cpow1 (by omega) (by omega)) | (exact cpow1 (by dsimp only; omega) (by dsimp only; omega)) | (simp only [rngD_len, List.length_replicate, List.length_map, List.length_append, List.length_cons, List.length_nil, List.length_set] at *; omega)) ?_; conv => whnf)))
        rw [leZ]
        exact hnx
      · rw [decide_eq_false g1] at hnx
        (conv => whnf); (repeat (first | (refine And.intro rfl ?_; conv => whnf) | (refine And.intro trivial ?_; conv => whnf) | (refine And.intro ⟨rfl, trivial⟩ ?_; conv => whnf) | (refine And.intro ⟨rfl, rfl, trivial⟩ ?_; conv => whnf) | (refine ifb_t ?_; conv => whnf) | (refine ifb_f ?_; conv => whnf) | (refine ifb_nr ?_; conv => whnf) | (refine ifb_er ?_; conv => whnf) | (refine And.intro (by first | decide | omega | (unfold CMul; omega) | (unfold CDiv; omega) | (unfold CPow; decide) | (exact cpow1 (by omega) (by omega)) | (exact cpow1 (by dsimp only; omega) (by dsimp only; omega)) | (simp only [rngD_len, List.length_replicate, List.length_map, List.length_append, List.length_cons, List.length_nil, List.length_set] at *; omega)) ?_; conv => whnf)))
        exact hnx
    · rw [sgn_ok]
      (conv => whnf); (repeat (first | (refine And.intro rfl ?_; conv => whnf) | (refine And.intro trivial ?_; conv => whnf) | (refine And.intro ⟨rfl, trivial⟩ ?_; conv => whnf) | (refine And.intro ⟨rfl, rfl, trivial⟩ ?_; conv => whnf) | (refine ifb_t ?_; conv => whnf) | (refine ifb_f ?_; conv => whnf) | (refine ifb_nr ?_; conv => whnf) | (refine ifb_er ?_; conv => whnf) | (refine And.intro (by first | decide | omega | (unfold CMul; omega) | (unfold CDiv; omega) | (unfold CPow; decide) | (exact cpow1 (by omega) (by omega)) | (exact cpow1 (by dsimp only; omega) (by dsimp only; omega)) | (simp only [rngD_len, List.length_replicate, List.length_map, List.length_append, List.length_cons, List.length_nil, List.length_set] at *; omega)) ?_; conv => whnf)))
      have e : bolsD ((z.cps.toList.map okC).map D.bl) = some (z.cps.toList.map okC) := bolsD_map _
      rw [e]
      (conv => whnf); (repeat (first | (refine And.intro rfl ?_; conv => whnf) | (refine And.intro trivial ?_; conv => whnf) | (refine And.intro ⟨rfl, trivial⟩ ?_; conv => whnf) | (refine And.intro ⟨rfl, rfl, trivial⟩ ?_; conv => whnf) | (refine ifb_t ?_; conv => whnf) | (refine ifb_f ?_; conv => whnf) | (refine ifb_nr ?_; conv => whnf) | (refine ifb_er ?_; conv => whnf) | (refine And.intro (by first | decide | omega | (unfold CMul; omega) | (unfold CDiv; omega) | (unfold CPow; decide) | (exact cpow1 (by omega) (by omega)) | (exact cpow1 (by dsimp only; omega) (by dsimp only; omega)) | (simp only [rngD_len, List.length_replicate, List.length_map, List.length_append, List.length_cons, List.length_nil, List.length_set] at *; omega)) ?_; conv => whnf)))
      refine word_post ?_
      unfold isW
      have : z.cps.toList.isEmpty = false := by
        cases hh : z.cps.toList with
        | nil =>
          refine absurd ?_ q
          obtain ⟨⟨l⟩⟩ := z
          have : l = [] := hh
          subst this
          rfl
        | cons _ _ => rfl
      rw [this, List.all_map]
      rfl
  · (conv => whnf); (repeat (first | (refine And.intro rfl ?_; conv => whnf) | (refine And.intro trivial ?_; conv => whnf) | (refine And.intro ⟨rfl, trivial⟩ ?_; conv => whnf) | (refine And.intro ⟨rfl, rfl, trivial⟩ ?_; conv => whnf) | (refine ifb_t ?_; conv => whnf) | (refine ifb_f ?_; conv => whnf) | (refine ifb_nr ?_; conv => whnf) | (refine ifb_er ?_; conv => whnf) | (refine And.intro (by first | decide | omega | (unfold CMul; omega) | (unfold CDiv; omega) | (unfold CPow; decide) | (exact cpow1 (by omega) (by omega)) | (exact cpow1 (by dsimp only; omega) (by dsimp only; omega)) | (simp only [rngD_len, List.length_replicate, List.length_map, List.length_append, List.length_cons, List.length_nil, List.length_set] at *; omega)) ?_; conv => whnf)))
    refine word_post ?_
    rw [q]
    decide
/-- slots: 0 text, 1 char -/
def w_law_is_word : WS :=
    (cSeq (cFor [0] (iS (cVar 0)) (gN 1 [0] 1)
      (cIte (cOp fNotInS (cVar 1) (cC (.str (PySem.Str.ofString "abcdefghijklmnopqrstuvwxyz"))))
          (cRet 1 (cC (.bl false)))
          cNilS))
    (cRet 1 (cOp fGt (cBi fLenS (cCons (cVar 0) cNil)) (cC (.int 0)))))
theorem pure_law_is_word : ∀ ds, ds.length = 1 → sp_law_is_word.pre ds → w_law_is_word (env0 ds 1) { nx := fun e => sp_law_is_word.post ds .non (outs e 1), rt := fun d e => sp_law_is_word.post ds d (outs e 1) } := by
  rintro ds _ ⟨z, rfl, hz⟩
  (conv => whnf); (repeat (first | (refine And.intro rfl ?_; conv => whnf) | (refine And.intro trivial ?_; conv => whnf) | (refine And.intro ⟨rfl, trivial⟩ ?_; conv => whnf) | (refine And.intro ⟨rfl, rfl, trivial⟩ ?_; conv => whnf) | (refine ifb_t ?_; conv => whnf) | (refine ifb_f ?_; conv => whnf) | (refine ifb_nr ?_; conv => whnf) | (refine ifb_er ?_; conv => whnf) | (refine And.intro (by first | decide | omega | (unfold CMul; omega) | (unfold CDiv; omega) | (unfold CPow; decide) | (exact cpow1 (by omega) (by omega)) | (exact cpow1 (by dsimp only; omega) (by dsimp only; omega)) | (simp only [rngD_len, List.length_replicate, List.length_map, List.length_append, List.length_cons, List.length_nil, List.length_set] at *; omega)) ?_; conv => whnf)))
  refine loop_for (fun xs e => ∃ (p q : List Nat) (o1 : Option D), (z.cps.toList = p ++ q ∧ xs = q.map sgn1 ∧ p.all okC = true) ∧ e = [some (.str z), o1]) ⟨[], z.cps.toList, none, ⟨rfl, rfl, rfl⟩, rfl⟩ ?_ ?_
  · rintro x r env nxt ⟨p, q, o1, ⟨h1, h2, h3⟩, rfl⟩ hx
    cases q with
    | nil => simp at h2
    | cons c q =>
      simp only [List.map_cons, List.cons.injEq] at h2
      obtain ⟨rfl, rfl⟩ := h2
      (conv => whnf); (repeat (first | (refine And.intro rfl ?_; conv => whnf) | (refine And.intro trivial ?_; conv => whnf) | (refine And.intro ⟨rfl, trivial⟩ ?_; conv => whnf) | (refine And.intro ⟨rfl, rfl, trivial⟩ ?_; conv => whnf) | (refine ifb_t ?_; conv => whnf) | (refine ifb_f ?_; conv => whnf) | (refine ifb_nr ?_; conv => whnf) | (refine ifb_er ?_; conv => whnf) | (refine And.intro (by first | decide | omega | (unfold CMul; omega) | (unfold CDiv; omega) | (unfold CPow; decide) | (exact cpow1 (by omega) (by omega)) | (exact cpow1 (by dsimp only; omega) (by dsimp only; omega)) | (simp only [rngD_len, List.length_replicate, List.length_map, List.length_append, List.length_cons, List.length_nil, List.length_set] at *; omega)) ?_; conv => whnf)))
      refine ⟨c, rfl, ?_⟩
      (conv => whnf); (repeat (first | (refine And.intro rfl ?_; conv => whnf) | (refine And.intro trivial ?_; conv => whnf) | (refine And.intro ⟨rfl, trivial⟩ ?_; conv => whnf) | (refine And.intro ⟨rfl, rfl, trivial⟩ ?_; conv => whnf) | (refine ifb_t ?_; conv => whnf) | (refine ifb_f ?_; conv => whnf) | (refine ifb_nr ?_; conv => whnf) | (refine ifb_er ?_; conv => whnf) | (refine And.intro (by first | decide | omega | (unfold CMul; omega) | (unfold CDiv; omega) | (unfold CPow; decide) | (exact cpow1 (by omega) (by omega)) | (exact cpow1 (by dsimp only; omega) (by dsimp only; omega)) | (simp only [rngD_len, List.length_replicate, List.length_map, List.length_append, List.length_cons, List.length_nil, List.length_set] at *; omega)) ?_; conv => whnf)))
      rw [show decide (c ∈ (PySem.Str.ofString "abcdefghijklmnopqrstuvwxyz").cps.toList) = okC c from mem_alpha c]
      cases hc : okC c with
      | true =>
        (conv => whnf); (repeat (first | (refine And.intro rfl ?_; conv => whnf) | (refine And.intro trivial ?_; conv => whnf) | (refine And.intro ⟨rfl, trivial⟩ ?_; conv => whnf) | (refine And.intro ⟨rfl, rfl, trivial⟩ ?_; conv => whnf) | (refine ifb_t ?_; conv => whnf) | (refine ifb_f ?_; conv => whnf) | (refine ifb_nr ?_; conv => whnf) | (refine ifb_er ?_; conv => whnf) | (refine And.intro (by first | decide | omega | (unfold CMul; omega) | (unfold CDiv; omega) | (unfold CPow; decide) | (exact cpow1 (by omega) (by omega)) | (exact cpow1 (by dsimp only; omega) (by dsimp only; omega)) | (simp only [rngD_len, List.length_replicate, List.length_map, List.length_append, List.length_cons, List.length_nil, List.length_set] at *; omega)) ?_; conv => whnf)))
        exact hx _ ⟨p ++ [c], q, _, ⟨by rw [h1]; simp, rfl, by rw [List.all_append, h3]; simp [hc]⟩, rfl⟩
      | false =>
        (conv => whnf); (repeat (first | (refine And.intro rfl ?_; conv => whnf) | (refine And.intro trivial ?_; conv => whnf) | (refine And.intro ⟨rfl, trivial⟩ ?_; conv => whnf) | (refine And.intro ⟨rfl, rfl, trivial⟩ ?_; conv => whnf) | (refine ifb_t ?_; conv => whnf) | (refine ifb_f ?_; conv => whnf) | (refine ifb_nr ?_; conv => whnf) | (refine ifb_er ?_; conv => whnf) | (refine And.intro (by first | decide | omega | (unfold CMul; omega) | (unfold CDiv; omega) | (unfold CPow; decide) | (exact cpow1 (by omega) (by omega)) | (exact cpow1 (by dsimp only; omega) (by dsimp only; omega)) | (simp only [rngD_len, List.length_replicate, List.length_map, List.length_append, List.length_cons, List.length_nil, List.length_set] at *; omega)) ?_; conv => whnf)))
        refine word_post ?_
        unfold isW
        rw [h1, List.all_append, List.all_cons, hc]
        simp
  · rintro env ⟨p, q, o1, ⟨h1, h2, h3⟩, rfl⟩
    cases q with
    | cons c q => simp at h2
    | nil =>
      (conv => whnf); (repeat (first | (refine And.intro rfl ?_; conv => whnf) | (refine And.intro trivial ?_; conv => whnf) | (refine And.intro ⟨rfl, trivial⟩ ?_; conv => whnf) | (refine And.intro ⟨rfl, rfl, trivial⟩ ?_; conv => whnf) | (refine ifb_t ?_; conv => whnf) | (refine ifb_f ?_; conv => whnf) | (refine ifb_nr ?_; conv => whnf) | (refine ifb_er ?_; conv => whnf) | (refine And.intro (by first | decide | omega | (unfold CMul; omega) | (unfold CDiv; omega) | (unfold CPow; decide) | (exact cpow1 (by omega) (by omega)) | (exact cpow1 (by dsimp only; omega) (by dsimp only; omega)) | (simp only [rngD_len, List.length_replicate, List.length_map, List.length_append, List.length_cons, List.length_nil, List.length_set] at *; omega)) ?_; conv => whnf)))
      refine word_post ?_
      unfold isW
      rw [List.append_nil] at h1
      rw [h1, h3, len_list, h1]
      cases p <;> simp

/-! ### values and rows -/
def isV : D → Bool
  | .str z => isW z
  | _ => true
def Vl (d : D) : Prop := (∃ i, d = .int i) ∨ ∃ z : Str, d = .str z ∧ z.length ≤ 1000
def sp_is_value : FSpec where
  pre := fun ds => ∃ d, ds = [d] ∧ Vl d
  post := fun ds r ds' => ds' = ds ∧ ∀ d, ds = [d] → r = .bl (isV d)
theorem value_post {d : D} {b : Bool} (h : b = isV d) : ∀ d', [d] = [d'] → D.bl b = .bl (isV d') := by
  intro d' e
  simp only [List.cons.injEq, and_true] at e
  rw [h, e]
/-- slots: 0 value -/
def w_is_value : WS :=
    (cRet 1 (cOr (cUn fNot (cIsi .str (cVar 0))) (cCallN 1 sp_is_word (cCons (cVar 0) cNil))))
theorem pure_is_value : ∀ ds, ds.length = 1 → sp_is_value.pre ds → w_is_value (env0 ds 0) { nx := fun e => sp_is_value.post ds .non (outs e 1), rt := fun d e => sp_is_value.post ds d (outs e 1) } := by
  rintro ds _ ⟨d, rfl, h⟩
  rcases h with ⟨i, rfl⟩ | ⟨z, rfl, hz⟩
  · (conv => whnf); (repeat (first | (refine And.intro rfl ?_; conv => whnf) | (refine And.intro trivial ?_; conv => whnf) | (refine And.intro ⟨rfl, trivial⟩ ?_; conv => whnf) | (refine And.intro ⟨rfl, rfl, trivial⟩ ?_; conv => whnf) | (refine ifb_t ?_; conv => whnf) | (refine ifb_f ?_; conv => whnf) | (refine ifb_nr ?_; conv => whnf) | (refine ifb_er ?_; conv => whnf) | (refine And.intro (by first | decide | omega | (unfold CMul; omega) | (unfold CDiv; omega) | (unfold CPow; decide) | (exact cpow1 (by omega) (by omega)) | (exact cpow1 (by dsimp only; omega) (by dsimp only; omega)) | (simp only [rngD_len, List.length_replicate, List.length_map, List.length_append, List.length_cons, List.length_nil, List.length_set] at *; omega)) ?_; conv => whnf)))
    exact value_post rfl
  · (conv => whnf); (repeat (first | (refine And.intro rfl ?_; conv => whnf) | (refine And.intro trivial ?_; conv => whnf) | (refine And.intro ⟨rfl, trivial⟩ ?_; conv => whnf) | (refine And.intro ⟨rfl, rfl, trivial⟩ ?_; conv => whnf) | (refine ifb_t ?_; conv => whnf) | (refine ifb_f ?_; conv => whnf) | (refine ifb_nr ?_; conv => whnf) | (refine ifb_er ?_; conv => whnf) | (refine And.intro (by first | decide | omega | (unfold CMul; omega) | (unfold CDiv; omega) | (unfold CPow; decide) | (exact cpow1 (by omega) (by omega)) | (exact cpow1 (by dsimp only; omega) (by dsimp only; omega)) | (simp only [rngD_len, List.length_replicate, List.length_map, List.length_append, List.length_cons, List.length_nil, List.length_set] at *; omega)) ?_; conv => whnf)))
    refine ⟨⟨z, rfl, by omega⟩, ?_⟩
    rintro _ _ ⟨rfl, h⟩
    cases h z rfl
    (conv => whnf); (repeat (first | (refine And.intro rfl ?_; conv => whnf) | (refine And.intro trivial ?_; conv => whnf) | (refine And.intro ⟨rfl, trivial⟩ ?_; conv => whnf) | (refine And.intro ⟨rfl, rfl, trivial⟩ ?_; conv => whnf) | (refine ifb_t ?_; conv => whnf) | (refine ifb_f ?_; conv => whnf) | (refine ifb_nr ?_; conv => whnf) | (refine ifb_er ?_; conv => whnf) | (refine And.intro (by first | decide | omega | (unfold CMul; omega) | (unfold CDiv; omega) | (unfold CPow; decide) | (exact cpow1 (by omega) (by omega)) | (exact cpow1 (by dsimp only; omega) (by dsimp only; omega)) | (simp only [rngD_len, List.length_replicate, List.length_map, List.length_append, List.length_cons, List.length_nil, List.length_set] at *; omega)) ?_; conv => whnf)))
    exact value_post rfl
def sp_is_row : FSpec where
  pre := fun ds => ∃ xs : List D, ds = [.tup xs] ∧ xs.length ≤ 1000 ∧ ∀ x ∈ xs, Vl x
  post := fun ds r ds' => ds' = ds ∧ ∀ xs : List D, ds = [.tup xs] → r = .bl (decide ((xs.length : Int) ≤ 8) && xs.all isV)
theorem row_post {xs : List D} {b : Bool} (h : b = (decide ((xs.length : Int) ≤ 8) && xs.all isV)) : ∀ xs' : List D, [D.tup xs] = [D.tup xs'] → D.bl b = .bl (decide ((xs'.length : Int) ≤ 8) && xs'.all isV) := by
  intro xs' e
  simp only [List.cons.injEq, D.tup.injEq, and_true] at e
  rw [h, e]
/-- slots: 0 row, 1 value -/
def w_is_row : WS :=
    (cRet 1 (cAnd (cOp fLe (cBi fLen (cCons (cVar 0) cNil)) (cC (.int 8))) (cBi fAll (cCons (cLc [1] (iE (cVar 0)) (gN 1 [] 1) tTrue (cCallN 1 sp_is_value (cCons (cVar 1) cNil))) cNil))))
theorem pure_is_row : ∀ ds, ds.length = 1 → sp_is_row.pre ds → w_is_row (env0 ds 1) { nx := fun e => sp_is_row.post ds .non (outs e 1), rt := fun d e => sp_is_row.post ds d (outs e 1) } := by
  rintro ds _ ⟨xs, rfl, hl, hx⟩
  (conv => whnf); (repeat (first | (refine And.intro rfl ?_; conv => whnf) | (refine And.intro trivial ?_; conv => whnf) | (refine And.intro ⟨rfl, trivial⟩ ?_; conv => whnf) | (refine And.intro ⟨rfl, rfl, trivial⟩ ?_; conv => whnf) | (refine ifb_t ?_; conv => whnf) | (refine ifb_f ?_; conv => whnf) | (refine ifb_nr ?_; conv => whnf) | (refine ifb_er ?_; conv => whnf) | (refine And.intro (by first | decide | omega | (unfold CMul; omega) | (unfold CDiv; omega) | (unfold CPow; decide) | (exact cpow1 (by omega) (by omega)) | (exact cpow1 (by dsimp only; omega) (by dsimp only; omega)) | (simp only [rngD_len, List.length_replicate, List.length_map, List.length_append, List.length_cons, List.length_nil, List.length_set] at *; omega)) ?_; conv => whnf)))
  refine ifb_dec (fun g => ?_) (fun g => ?_)
  · (conv => whnf); (repeat (first | (refine And.intro rfl ?_; conv => whnf) | (refine And.intro trivial ?_; conv => whnf) | (refine And.intro ⟨rfl, trivial⟩ ?_; conv => whnf) | (refine And.intro ⟨rfl, rfl, trivial⟩ ?_; conv => whnf) | (refine ifb_t ?_; conv => whnf) | (refine ifb_f ?_; conv => whnf) | (refine ifb_nr ?_; conv => whnf) | (refine ifb_er ?_; conv => whnf) | (refine And.intro (by first | decide | omega | (unfold CMul; omega) | (unfold CDiv; omega) | (unfold CPow; decide) | (exact cpow1 (by omega) (by omega)) | (exact cpow1 (by dsimp only; omega) (by dsimp only; omega)) | (simp only [rngD_len, List.length_replicate, List.length_map, List.length_append, List.length_cons, List.length_nil, List.length_set] at *; omega)) ?_; conv => whnf)))
    refine lcGo_map (fun d => .bl (isV d)) _ _ ?_ ?_
    · intro d nxt acc hd hnx
      have hv := hx d hd
      rcases hv with ⟨i, rfl⟩ | ⟨z, rfl, hz⟩
      · (conv => whnf); (repeat (first | (refine And.intro rfl ?_; conv => whnf) | (refine And.intro trivial ?_; conv => whnf) | (refine And.intro ⟨rfl, trivial⟩ ?_; conv => whnf) | (refine And.intro ⟨rfl, rfl, trivial⟩ ?_; conv => whnf) | (refine ifb_t ?_; conv => whnf) | (refine ifb_f ?_; conv => whnf) | (refine ifb_nr ?_; conv => whnf) | (refine ifb_er ?_; conv => whnf) | (refine And.intro (by first | decide | omega | (unfold CMul; omega) | (unfold CDiv; omega) | (unfold CPow; decide) | (exact cpow1 (by omega) (by omega)) | (exact cpow1 (by dsimp only; omega) (by dsimp only; omega)) | (simp only [rngD_len, List.length_replicate, List.length_map, List.length_append, List.length_cons, List.length_nil, List.length_set] at *; omega)) ?_; conv => whnf)))
        refine ⟨⟨_, rfl, .inl ⟨i, rfl⟩⟩, ?_⟩
        rintro _ _ ⟨rfl, h⟩
        cases h _ rfl
        (conv => whnf); (repeat (first | (refine And.intro rfl ?_; conv => whnf) | (refine And.intro trivial ?_; conv => whnf) | (refine And.intro ⟨rfl, trivial⟩ ?_; conv => whnf) | (refine And.intro ⟨rfl, rfl, trivial⟩ ?_; conv => whnf) | (refine ifb_t ?_; conv => whnf) | (refine ifb_f ?_; conv => whnf) | (refine ifb_nr ?_; conv => whnf) | (refine ifb_er ?_; conv => whnf) | (refine And.intro (by first | decide | omega | (unfold CMul; omega) | (unfold CDiv; omega) | (unfold CPow; decide) | (exact cpow1 (by omega) (by omega)) | (exact cpow1 (by dsimp only; omega) (by dsimp only; omega)) | (simp only [rngD_len, List.length_replicate, List.length_map, List.length_append, List.length_cons, List.length_nil, List.length_set] at *; omega)) ?_; conv => whnf)))
        exact hnx
      · (conv => whnf); (repeat (first | (refine And.intro rfl ?_; conv => whnf) | (refine And.intro trivial ?_; conv => whnf) | (refine And.intro ⟨rfl, trivial⟩ ?_; conv => whnf) | (refine And.intro ⟨rfl, rfl, trivial⟩ ?_; conv => whnf) | (refine ifb_t ?_; conv => whnf) | (refine ifb_f ?_; conv => whnf) | (refine ifb_nr ?_; conv => whnf) | (refine ifb_er ?_; conv => whnf) | (refine And.intro (by first | decide | omega | (unfold CMul; omega) | (unfold CDiv; omega) | (unfold CPow; decide) | (exact cpow1 (by omega) (by omega)) | (exact cpow1 (by dsimp only; omega) (by dsimp only; omega)) | (simp only [rngD_len, List.length_replicate, List.length_map, List.length_append, List.length_cons, List.length_nil, List.length_set] at *; omega)) ?_; conv => whnf)))
        refine ⟨⟨_, rfl, .inr ⟨z, rfl, hz⟩⟩, ?_⟩
        rintro _ _ ⟨rfl, h⟩
        cases h _ rfl
        (conv => whnf); (repeat (first | (refine And.intro rfl ?_; conv => whnf) | (refine And.intro trivial ?_; conv => whnf) | (refine And.intro ⟨rfl, trivial⟩ ?_; conv => whnf) | (refine And.intro ⟨rfl, rfl, trivial⟩ ?_; conv => whnf) | (refine ifb_t ?_; conv => whnf) | (refine ifb_f ?_; conv => whnf) | (refine ifb_nr ?_; conv => whnf) | (refine ifb_er ?_; conv => whnf) | (refine And.intro (by first | decide | omega | (unfold CMul; omega) | (unfold CDiv; omega) | (unfold CPow; decide) | (exact cpow1 (by omega) (by omega)) | (exact cpow1 (by dsimp only; omega) (by dsimp only; omega)) | (simp only [rngD_len, List.length_replicate, List.length_map, List.length_append, List.length_cons, List.length_nil, List.length_set] at *; omega)) ?_; conv => whnf)))
        exact hnx
    · (conv => whnf); (repeat (first | (refine And.intro rfl ?_; conv => whnf) | (refine And.intro trivial ?_; conv => whnf) | (refine And.intro ⟨rfl, trivial⟩ ?_; conv => whnf) | (refine And.intro ⟨rfl, rfl, trivial⟩ ?_; conv => whnf) | (refine ifb_t ?_; conv => whnf) | (refine ifb_f ?_; conv => whnf) | (refine ifb_nr ?_; conv => whnf) | (refine ifb_er ?_; conv => whnf) | (refine And.intro (by first | decide | omega | (unfold CMul; omega) | (unfold CDiv; omega) | (unfold CPow; decide) | (exact cpow1 (by omega) (by omega)) | (exact cpow1 (by dsimp only; omega) (by dsimp only; omega)) | (simp only [rngD_len, List.length_replicate, List.length_map, List.length_append, List.length_cons, List.length_nil, List.length_set] at *; omega)) ?_; conv => whnf)))
      have e : bolsD (xs.map fun d => D.bl (isV d)) = some (xs.map isV) := by
        rw [show (xs.map fun d => D.bl (isV d)) = (xs.map isV).map D.bl by rw [List.map_map]; rfl]
        exact bolsD_map _
      rw [e]
      (conv => whnf); (repeat (first | (refine And.intro rfl ?_; conv => whnf) | (refine And.intro trivial ?_; conv => whnf) | (refine And.intro ⟨rfl, trivial⟩ ?_; conv => whnf) | (refine And.intro ⟨rfl, rfl, trivial⟩ ?_; conv => whnf) | (refine ifb_t ?_; conv => whnf) | (refine ifb_f ?_; conv => whnf) | (refine ifb_nr ?_; conv => whnf) | (refine ifb_er ?_; conv => whnf) | (refine And.intro (by first | decide | omega | (unfold CMul; omega) | (unfold CDiv; omega) | (unfold CPow; decide) | (exact cpow1 (by omega) (by omega)) | (exact cpow1 (by dsimp only; omega) (by dsimp only; omega)) | (simp only [rngD_len, List.length_replicate, List.length_map, List.length_append, List.length_cons, List.length_nil, List.length_set] at *; omega)) ?_; conv => whnf)))
      refine row_post ?_
      rw [List.all_map, decide_eq_true g]
      rfl
  · (conv => whnf); (repeat (first | (refine And.intro rfl ?_; conv => whnf) | (refine And.intro trivial ?_; conv => whnf) | (refine And.intro ⟨rfl, trivial⟩ ?_; conv => whnf) | (refine And.intro ⟨rfl, rfl, trivial⟩ ?_; conv => whnf) | (refine ifb_t ?_; conv => whnf) | (refine ifb_f ?_; conv => whnf) | (refine ifb_nr ?_; conv => whnf) | (refine ifb_er ?_; conv => whnf) | (refine And.intro (by first | decide | omega | (unfold CMul; omega) | (unfold CDiv; omega) | (unfold CPow; decide) | (exact cpow1 (by omega) (by omega)) | (exact cpow1 (by dsimp only; omega) (by dsimp only; omega)) | (simp only [rngD_len, List.length_replicate, List.length_map, List.length_append, List.length_cons, List.length_nil, List.length_set] at *; omega)) ?_; conv => whnf)))
    refine row_post ?_
    rw [decide_eq_false g]
    rfl
/-! ### the law's own draws -/
def sumL (ws : List Str) : Nat := (ws.map (·.length)).sum
theorem join_len (z : Str) (ys : List Str) : (Txt.join z ys).length ≤ sumL ys + ys.length * z.length := by
  have e : Txt.join z ys = Str.join z ys := PySem.StrLaws.glued_eq_join z ys
  rw [e]
  exact PySem.StrLaws.join_length_le z ys
theorem sumL_snoc (ws : List Str) (w : Str) : sumL (ws ++ [w]) = sumL ws + w.length := by simp [sumL]
def chars : Str := PySem.Str.ofString " !\"#$&'()*+,-./0123456789:;<=>?@ABCDEFGHIJKLMNOPQRSTUVWXYZ[\\]^_`" ++ PySem.Str.ofString "abcdefghijklmnopqrstuvwxyz{|}~\n\t"
theorem chars_len : 0 < chars.length ∧ chars.length ≤ 1000 := by
  unfold chars
  rw [PySem.Str.length_append]
  decide
theorem text_at {z : Str} {v : Int} (h0 : 0 ≤ v) (h : v < z.length) : ∃ c, L2.atI z.cps.toList v = some c ∧ c ∈ z.cps.toList := by
  obtain ⟨h1, e⟩ := atI_lt (xs := z.cps.toList) (j := v) h0 (by rw [← len_list]; exact h)
  exact ⟨_, e, List.getElem_mem h1⟩
def sp_law_char : FSpec where
  pre := fun ds => ∃ ns : List Int, ds = [.lst (ns.map D.int)]
  post := fun _ r ds' => ∃ (ns : List Int) (c : Nat), r = .str ⟨#[c]⟩ ∧ ds' = [.lst (ns.map D.int)]
/-- slots: 0 draws, 1 chars -/
def w_law_char : WS :=
    (cSeq (cAsg 1 [0] 1 (cC (.str (PySem.Str.ofString " !\"#$&'()*+,-./0123456789:;<=>?@ABCDEFGHIJKLMNOPQRSTUVWXYZ[\\]^_`"))))
    (cSeq (cAsg 1 [0] 1 (cOp fAddS (cVar 1) (cC (.str (PySem.Str.ofString "abcdefghijklmnopqrstuvwxyz{|}~\n\t")))))
    (cRet 1 (cOp fIxS (cVar 1) (cCallN 2 sp_law_take (cCons (cVar 0) (cCons (cBi fLenS (cCons (cVar 1) cNil)) cNil)))))))
theorem pure_law_char : ∀ ds, ds.length = 1 → sp_law_char.pre ds → w_law_char (env0 ds 1) { nx := fun e => sp_law_char.post ds .non (outs e 1), rt := fun d e => sp_law_char.post ds d (outs e 1) } := by
  rintro ds _ ⟨ns, rfl⟩
  (conv => whnf); (repeat (first | (refine And.intro rfl ?_; conv => whnf) | (refine And.intro trivial ?_; conv => whnf) | (refine And.intro ⟨rfl, trivial⟩ ?_; conv => whnf) | (refine And.intro ⟨rfl, rfl, trivial⟩ ?_; conv => whnf) | (refine ifb_t ?_; conv => whnf) | (refine ifb_f ?_; conv => whnf) | (refine ifb_nr ?_; conv => whnf) | (refine ifb_er ?_; conv => whnf) | (refine And.intro (by first | decide | omega | (unfold CMul; omega) | (unfold CDiv; omega) | (unfold CPow; decide) | (exact cpow1 (by omega) (by omega)) | (exact cpow1 (by dsimp only; omega) (by dsimp only; omega)) | (simp only [rngD_len, List.length_replicate, List.length_map, List.length_append, List.length_cons, List.length_nil, List.length_set] at *; omega)) ?_; conv => whnf)))
  have hc := chars_len
  unfold chars at hc
  generalize (PySem.Str.ofString " !\"#$&'()*+,-./0123456789:;<=>?@ABCDEFGHIJKLMNOPQRSTUVWXYZ[\\]^_`" ++ PySem.Str.ofString "abcdefghijklmnopqrstuvwxyz{|}~\n\t") = z at *
  refine ⟨⟨⟨_, rfl⟩, by omega⟩, ?_⟩
  rintro _ _ ⟨ns2, v, rfl, rfl, h0, h1⟩
  obtain ⟨c, e, _⟩ := text_at (z := z) h0 h1
  (conv => whnf); (repeat (first | (refine And.intro rfl ?_; conv => whnf) | (refine And.intro trivial ?_; conv => whnf) | (refine And.intro ⟨rfl, trivial⟩ ?_; conv => whnf) | (refine And.intro ⟨rfl, rfl, trivial⟩ ?_; conv => whnf) | (refine ifb_t ?_; conv => whnf) | (refine ifb_f ?_; conv => whnf) | (refine ifb_nr ?_; conv => whnf) | (refine ifb_er ?_; conv => whnf) | (refine And.intro (by first | decide | omega | (unfold CMul; omega) | (unfold CDiv; omega) | (unfold CPow; decide) | (exact cpow1 (by omega) (by omega)) | (exact cpow1 (by dsimp only; omega) (by dsimp only; omega)) | (simp only [rngD_len, List.length_replicate, List.length_map, List.length_append, List.length_cons, List.length_nil, List.length_set] at *; omega)) ?_; conv => whnf)))
  rw [e]
  (conv => whnf); (repeat (first | (refine And.intro rfl ?_; conv => whnf) | (refine And.intro trivial ?_; conv => whnf) | (refine And.intro ⟨rfl, trivial⟩ ?_; conv => whnf) | (refine And.intro ⟨rfl, rfl, trivial⟩ ?_; conv => whnf) | (refine ifb_t ?_; conv => whnf) | (refine ifb_f ?_; conv => whnf) | (refine ifb_nr ?_; conv => whnf) | (refine ifb_er ?_; conv => whnf) | (refine And.intro (by first | decide | omega | (unfold CMul; omega) | (unfold CDiv; omega) | (unfold CPow; decide) | (exact cpow1 (by omega) (by omega)) | (exact cpow1 (by dsimp only; omega) (by dsimp only; omega)) | (simp only [rngD_len, List.length_replicate, List.length_map, List.length_append, List.length_cons, List.length_nil, List.length_set] at *; omega)) ?_; conv => whnf)))
  exact ⟨ns2, c, rfl, rfl⟩
def sp_law_letters : FSpec where
  pre := fun ds => ∃ ns : List Int, ds = [.lst (ns.map D.int)]
  post := fun _ r ds' => ∃ (ns : List Int) (z : Str), r = .str z ∧ ds' = [.lst (ns.map D.int)] ∧ isW z = true ∧ 0 < z.length ∧ z.length ≤ 60
theorem sumL_ones : ∀ cs : List Nat, sumL (cs.map fun c => (⟨#[c]⟩ : Str)) = cs.length
  | [] => rfl
  | c :: r => by
    have := sumL_ones r
    simp only [sumL, List.map_cons, List.sum_cons, List.length_cons] at this ⊢
    rw [this]
    show 1 + _ = _
    omega
theorem join_ones : ∀ cs : List Nat, (Txt.join (PySem.Str.ofString "") (cs.map fun c => (⟨#[c]⟩ : Str))).cps.toList = cs := by
  intro cs
  have e : Txt.join (PySem.Str.ofString "") (cs.map fun c => (⟨#[c]⟩ : Str)) = Str.join (PySem.Str.ofString "") (cs.map fun c => (⟨#[c]⟩ : Str)) := PySem.StrLaws.glued_eq_join _ _
  rw [e]
  have h0 : (PySem.Str.ofString "").cps.toList = [] := by decide
  induction cs with
  | nil => rfl
  | cons c r ih =>
    cases r with
    | nil => rfl
    | cons d r =>
      have := ih (PySem.StrLaws.glued_eq_join _ _)
      show ((⟨#[c]⟩ : Str) ++ PySem.Str.ofString "" ++ Str.join (PySem.Str.ofString "") ((d :: r).map fun c => (⟨#[c]⟩ : Str))).cps.toList = _
      rw [Str.cps_append, Str.cps_append, Array.toList_append, Array.toList_append, h0, this]
      rfl
/-- slots: 0 draws, 1 many, 2 turn, 3 step, 4 k -/
def w_law_letters : WS :=
    (cSeq (cAsg 1 [0] 1 (cOp fAddG (cC (.int 1)) (cCallN 2 sp_law_take (cCons (cVar 0) (cCons (cC (.int 5)) cNil)))))
    (cSeq (cIte (cOp fEqS (cCallN 2 sp_law_take (cCons (cVar 0) (cCons (cC (.int 6)) cNil))) (cC (.int 0)))
      (cAsg 1 [0] 1 (cOp fAddG (cC (.int 1)) (cCallN 2 sp_law_take (cCons (cVar 0) (cCons (cC (.int 60)) cNil)))))
      cNilS)
    (cSeq (cAsg 1 [0] 2 (cCallN 2 sp_law_take (cCons (cVar 0) (cCons (cC (.int 26)) cNil))))
    (cSeq (cAsg 1 [0] 3 (cCallN 2 sp_law_take (cCons (cVar 0) (cCons (cC (.int 26)) cNil))))
    (cRet 1 (cUn (fJoin (PySem.Str.ofString "")) (cLc [4] (iR1 (cVar 1)) (gN 1 [] 4) tTrue (cOp fIxS (cC (.str (PySem.Str.ofString "abcdefghijklmnopqrstuvwxyz"))) (cOp fMod (cBi fInt (cCons (cOp fAddG (cVar 2) (cOp fMul (cVar 4) (cVar 3))) cNil)) (cC (.int 26)))))))))))
theorem alpha_ok {v : Int} (h0 : 0 ≤ v) (h : v < 26) : ∃ c, L2.atI alpha.cps.toList v = some c ∧ okC c = true := by
  have hl : alpha.length = 26 := by decide
  obtain ⟨c, e, hc⟩ := text_at (z := alpha) h0 (by rw [hl]; exact h)
  refine ⟨c, e, ?_⟩
  rw [← mem_alpha c]
  exact decide_eq_true hc
theorem letters_end {ns ks : List Int} {m t s : Int} (hm : 1 ≤ m) (hm2 : m ≤ 60) (hs : 0 ≤ s) (hs2 : s < 26) : (cRet 1 (cUn (fJoin (PySem.Str.ofString "")) (cLc [4] (iR1 (cVar 1)) (gN 1 [] 4) tTrue (cOp fIxS (cC (.str (PySem.Str.ofString "abcdefghijklmnopqrstuvwxyz"))) (cOp fMod (cBi fInt (cCons (cOp fAddG (cVar 2) (cOp fMul (cVar 4) (cVar 3))) cNil)) (cC (.int 26))))))) [some (.lst (ks.map D.int)), some (.int m), some (.int t), some (.int s), none] { nx := fun e => sp_law_letters.post [.lst (ns.map D.int)] .non (outs e 1), rt := fun d e => sp_law_letters.post [.lst (ns.map D.int)] d (outs e 1) } := by
  (conv => whnf); (repeat (first | (refine And.intro rfl ?_; conv => whnf) | (refine And.intro trivial ?_; conv => whnf) | (refine And.intro ⟨rfl, trivial⟩ ?_; conv => whnf) | (refine And.intro ⟨rfl, rfl, trivial⟩ ?_; conv => whnf) | (refine ifb_t ?_; conv => whnf) | (refine ifb_f ?_; conv => whnf) | (refine ifb_nr ?_; conv => whnf) | (refine ifb_er ?_; conv => whnf) | (refine And.intro (by first | decide | omega | (unfold CMul; omega) | (unfold CDiv; omega) | (unfold CPow; decide) | (exact cpow1 (by omega) (by omega)) | (exact cpow1 (by dsimp only; omega) (by dsimp only; omega)) | (simp only [rngD_len, List.length_replicate, List.length_map, List.length_append, List.length_cons, List.length_nil, List.length_set] at *; omega)) ?_; conv => whnf)))
  refine loop_lc (fun ys acc e => ∃ (cs : List Nat) (i : Int) (n : Nat), (ys = rngD i n ∧ acc = (cs.map fun c => (⟨#[c]⟩ : Str)).map D.str ∧ cs.length + n = m.toNat ∧ cs.all okC = true ∧ i = cs.length) ∧ e = [some (.lst (ks.map D.int)), some (.int m), some (.int t), some (.int s), none]) ⟨[], 0, m.toNat, ⟨rfl, rfl, by simp, rfl, rfl⟩, rfl⟩ ?_ ?_
  · rintro x r acc env nxt ⟨cs, i, n, ⟨h4, rfl, h6, h7, h8⟩, rfl⟩ hx
    cases n with
    | zero => simp [rngD] at h4
    | succ n =>
      simp only [rngD, List.cons.injEq] at h4
      obtain ⟨rfl, rfl⟩ := h4
      (conv => whnf); (repeat (first | (refine And.intro rfl ?_; conv => whnf) | (refine And.intro trivial ?_; conv => whnf) | (refine And.intro ⟨rfl, trivial⟩ ?_; conv => whnf) | (refine And.intro ⟨rfl, rfl, trivial⟩ ?_; conv => whnf) | (refine ifb_t ?_; conv => whnf) | (refine ifb_f ?_; conv => whnf) | (refine ifb_nr ?_; conv => whnf) | (refine ifb_er ?_; conv => whnf) | (refine And.intro (by first | decide | omega | (unfold CMul; omega) | (unfold CDiv; omega) | (unfold CPow; decide) | (exact cpow1 (by omega) (by omega)) | (exact cpow1 (by dsimp only; omega) (by dsimp only; omega)) | (simp only [rngD_len, List.length_replicate, List.length_map, List.length_append, List.length_cons, List.length_nil, List.length_set] at *; omega)) ?_; conv => whnf)))
      obtain ⟨c, e, hc⟩ := alpha_ok (v := (t + i * s) % 26) (Int.emod_nonneg _ (by omega)) (Int.emod_lt_of_pos _ (by omega))
      rw [show L2.atI (Str.ofString "abcdefghijklmnopqrstuvwxyz").cps.toList ((t + i * s) % 26) = some c from e]
      (conv => whnf); (repeat (first | (refine And.intro rfl ?_; conv => whnf) | (refine And.intro trivial ?_; conv => whnf) | (refine And.intro ⟨rfl, trivial⟩ ?_; conv => whnf) | (refine And.intro ⟨rfl, rfl, trivial⟩ ?_; conv => whnf) | (refine ifb_t ?_; conv => whnf) | (refine ifb_f ?_; conv => whnf) | (refine ifb_nr ?_; conv => whnf) | (refine ifb_er ?_; conv => whnf) | (refine And.intro (by first | decide | omega | (unfold CMul; omega) | (unfold CDiv; omega) | (unfold CPow; decide) | (exact cpow1 (by omega) (by omega)) | (exact cpow1 (by dsimp only; omega) (by dsimp only; omega)) | (simp only [rngD_len, List.length_replicate, List.length_map, List.length_append, List.length_cons, List.length_nil, List.length_set] at *; omega)) ?_; conv => whnf)))
      exact hx _ _ ⟨cs ++ [c], i + 1, n, ⟨rfl, by rw [List.map_append, List.map_append]; rfl, by simp only [List.length_append, List.length_cons, List.length_nil]; omega, by rw [List.all_append, h7]; simp [hc], by simp only [List.length_append, List.length_cons, List.length_nil]; omega⟩, rfl⟩
  · rintro acc env ⟨cs, i, n, ⟨h4, rfl, h6, h7, h8⟩, rfl⟩
    have hn : n = 0 := by
      cases n with
      | zero => rfl
      | succ n => simp [rngD] at h4
    subst hn
    (conv => whnf); (repeat (first | (refine And.intro rfl ?_; conv => whnf) | (refine And.intro trivial ?_; conv => whnf) | (refine And.intro ⟨rfl, trivial⟩ ?_; conv => whnf) | (refine And.intro ⟨rfl, rfl, trivial⟩ ?_; conv => whnf) | (refine ifb_t ?_; conv => whnf) | (refine ifb_f ?_; conv => whnf) | (refine ifb_nr ?_; conv => whnf) | (refine ifb_er ?_; conv => whnf) | (refine And.intro (by first | decide | omega | (unfold CMul; omega) | (unfold CDiv; omega) | (unfold CPow; decide) | (exact cpow1 (by omega) (by omega)) | (exact cpow1 (by dsimp only; omega) (by dsimp only; omega)) | (simp only [rngD_len, List.length_replicate, List.length_map, List.length_append, List.length_cons, List.length_nil, List.length_set] at *; omega)) ?_; conv => whnf)))
    rw [strsD_map]
    have hz : (Str.ofString "").length = 0 := by decide
    refine ⟨by rw [hz, Nat.mul_zero]; have := sumL_ones cs; unfold sumL at this; omega, ?_⟩
    have e := join_ones cs
    generalize Txt.join (Str.ofString "") (cs.map fun c => (⟨#[c]⟩ : Str)) = wd at *
    (conv => whnf); (repeat (first | (refine And.intro rfl ?_; conv => whnf) | (refine And.intro trivial ?_; conv => whnf) | (refine And.intro ⟨rfl, trivial⟩ ?_; conv => whnf) | (refine And.intro ⟨rfl, rfl, trivial⟩ ?_; conv => whnf) | (refine ifb_t ?_; conv => whnf) | (refine ifb_f ?_; conv => whnf) | (refine ifb_nr ?_; conv => whnf) | (refine ifb_er ?_; conv => whnf) | (refine And.intro (by first | decide | omega | (unfold CMul; omega) | (unfold CDiv; omega) | (unfold CPow; decide) | (exact cpow1 (by omega) (by omega)) | (exact cpow1 (by dsimp only; omega) (by dsimp only; omega)) | (simp only [rngD_len, List.length_replicate, List.length_map, List.length_append, List.length_cons, List.length_nil, List.length_set] at *; omega)) ?_; conv => whnf)))
    refine ⟨ks, wd, rfl, rfl, ?_, by rw [len_list, e]; omega, by rw [len_list, e]; omega⟩
    unfold isW
    rw [e, h7]
    cases cs with
    | nil => simp at h6; omega
    | cons _ _ => rfl
theorem pure_law_letters : ∀ ds, ds.length = 1 → sp_law_letters.pre ds → w_law_letters (env0 ds 4) { nx := fun e => sp_law_letters.post ds .non (outs e 1), rt := fun d e => sp_law_letters.post ds d (outs e 1) } := by
  rintro ds _ ⟨ns, rfl⟩
  (conv => whnf); (repeat (first | (refine And.intro rfl ?_; conv => whnf) | (refine And.intro trivial ?_; conv => whnf) | (refine And.intro ⟨rfl, trivial⟩ ?_; conv => whnf) | (refine And.intro ⟨rfl, rfl, trivial⟩ ?_; conv => whnf) | (refine ifb_t ?_; conv => whnf) | (refine ifb_f ?_; conv => whnf) | (refine ifb_nr ?_; conv => whnf) | (refine ifb_er ?_; conv => whnf) | (refine And.intro (by first | decide | omega | (unfold CMul; omega) | (unfold CDiv; omega) | (unfold CPow; decide) | (exact cpow1 (by omega) (by omega)) | (exact cpow1 (by dsimp only; omega) (by dsimp only; omega)) | (simp only [rngD_len, List.length_replicate, List.length_map, List.length_append, List.length_cons, List.length_nil, List.length_set] at *; omega)) ?_; conv => whnf)))
  refine ⟨⟨⟨_, rfl⟩, by decide⟩, ?_⟩
  rintro _ _ ⟨n1, v1, rfl, rfl, h1, h1'⟩
  (conv => whnf); (repeat (first | (refine And.intro rfl ?_; conv => whnf) | (refine And.intro trivial ?_; conv => whnf) | (refine And.intro ⟨rfl, trivial⟩ ?_; conv => whnf) | (refine And.intro ⟨rfl, rfl, trivial⟩ ?_; conv => whnf) | (refine ifb_t ?_; conv => whnf) | (refine ifb_f ?_; conv => whnf) | (refine ifb_nr ?_; conv => whnf) | (refine ifb_er ?_; conv => whnf) | (refine And.intro (by first | decide | omega | (unfold CMul; omega) | (unfold CDiv; omega) | (unfold CPow; decide) | (exact cpow1 (by omega) (by omega)) | (exact cpow1 (by dsimp only; omega) (by dsimp only; omega)) | (simp only [rngD_len, List.length_replicate, List.length_map, List.length_append, List.length_cons, List.length_nil, List.length_set] at *; omega)) ?_; conv => whnf)))
  refine ⟨⟨⟨_, rfl⟩, by decide⟩, ?_⟩
  rintro _ _ ⟨n2, v2, rfl, rfl, h2, h2'⟩
  (conv => whnf); (repeat (first | (refine And.intro rfl ?_; conv => whnf) | (refine And.intro trivial ?_; conv => whnf) | (refine And.intro ⟨rfl, trivial⟩ ?_; conv => whnf) | (refine And.intro ⟨rfl, rfl, trivial⟩ ?_; conv => whnf) | (refine ifb_t ?_; conv => whnf) | (refine ifb_f ?_; conv => whnf) | (refine ifb_nr ?_; conv => whnf) | (refine ifb_er ?_; conv => whnf) | (refine And.intro (by first | decide | omega | (unfold CMul; omega) | (unfold CDiv; omega) | (unfold CPow; decide) | (exact cpow1 (by omega) (by omega)) | (exact cpow1 (by dsimp only; omega) (by dsimp only; omega)) | (simp only [rngD_len, List.length_replicate, List.length_map, List.length_append, List.length_cons, List.length_nil, List.length_set] at *; omega)) ?_; conv => whnf)))
  refine ifb_dec (fun g => ?_) (fun g => ?_)
  · (conv => whnf); (repeat (first | (refine And.intro rfl ?_; conv => whnf) | (refine And.intro trivial ?_; conv => whnf) | (refine And.intro ⟨rfl, trivial⟩ ?_; conv => whnf) | (refine And.intro ⟨rfl, rfl, trivial⟩ ?_; conv => whnf) | (refine ifb_t ?_; conv => whnf) | (refine ifb_f ?_; conv => whnf) | (refine ifb_nr ?_; conv => whnf) | (refine ifb_er ?_; conv => whnf) | (refine And.intro (by first | decide | omega | (unfold CMul; omega) | (unfold CDiv; omega) | (unfold CPow; decide) | (exact cpow1 (by omega) (by omega)) | (exact cpow1 (by dsimp only; omega) (by dsimp only; omega)) | (simp only [rngD_len, List.length_replicate, List.length_map, List.length_append, List.length_cons, List.length_nil, List.length_set] at *; omega)) ?_; conv => whnf)))
    refine ⟨⟨⟨_, rfl⟩, by decide⟩, ?_⟩
    rintro _ _ ⟨n3, v3, rfl, rfl, h3, h3'⟩
    (conv => whnf); (repeat (first | (refine And.intro rfl ?_; conv => whnf) | (refine And.intro trivial ?_; conv => whnf) | (refine And.intro ⟨rfl, trivial⟩ ?_; conv => whnf) | (refine And.intro ⟨rfl, rfl, trivial⟩ ?_; conv => whnf) | (refine ifb_t ?_; conv => whnf) | (refine ifb_f ?_; conv => whnf) | (refine ifb_nr ?_; conv => whnf) | (refine ifb_er ?_; conv => whnf) | (refine And.intro (by first | decide | omega | (unfold CMul; omega) | (unfold CDiv; omega) | (unfold CPow; decide) | (exact cpow1 (by omega) (by omega)) | (exact cpow1 (by dsimp only; omega) (by dsimp only; omega)) | (simp only [rngD_len, List.length_replicate, List.length_map, List.length_append, List.length_cons, List.length_nil, List.length_set] at *; omega)) ?_; conv => whnf)))
    refine ⟨⟨⟨_, rfl⟩, by decide⟩, ?_⟩
    rintro _ _ ⟨n4, v4, rfl, rfl, h4, h4'⟩
    (conv => whnf); (repeat (first | (refine And.intro rfl ?_; conv => whnf) | (refine And.intro trivial ?_; conv => whnf) | (refine And.intro ⟨rfl, trivial⟩ ?_; conv => whnf) | (refine And.intro ⟨rfl, rfl, trivial⟩ ?_; conv => whnf) | (refine ifb_t ?_; conv => whnf) | (refine ifb_f ?_; conv => whnf) | (refine ifb_nr ?_; conv => whnf) | (refine ifb_er ?_; conv => whnf) | (refine And.intro (by first | decide | omega | (unfold CMul; omega) | (unfold CDiv; omega) | (unfold CPow; decide) | (exact cpow1 (by omega) (by omega)) | (exact cpow1 (by dsimp only; omega) (by dsimp only; omega)) | (simp only [rngD_len, List.length_replicate, List.length_map, List.length_append, List.length_cons, List.length_nil, List.length_set] at *; omega)) ?_; conv => whnf)))
    refine ⟨⟨⟨_, rfl⟩, by decide⟩, ?_⟩
    rintro _ _ ⟨n5, v5, rfl, rfl, h5, h5'⟩
    exact And.intro rfl (letters_end (ns := ns) (ks := n5) (m := 1 + v3) (t := v4) (s := v5) (by omega) (by omega) h5 h5')
  · (conv => whnf); (repeat (first | (refine And.intro rfl ?_; conv => whnf) | (refine And.intro trivial ?_; conv => whnf) | (refine And.intro ⟨rfl, trivial⟩ ?_; conv => whnf) | (refine And.intro ⟨rfl, rfl, trivial⟩ ?_; conv => whnf) | (refine ifb_t ?_; conv => whnf) | (refine ifb_f ?_; conv => whnf) | (refine ifb_nr ?_; conv => whnf) | (refine ifb_er ?_; conv => whnf) | (refine And.intro (by first | decide | omega | (unfold CMul; omega) | (unfold CDiv; omega) | (unfold CPow; decide) | (exact cpow1 (by omega) (by omega)) | (exact cpow1 (by dsimp only; omega) (by dsimp only; omega)) | (simp only [rngD_len, List.length_replicate, List.length_map, List.length_append, List.length_cons, List.length_nil, List.length_set] at *; omega)) ?_; conv => whnf)))
    refine ⟨⟨⟨_, rfl⟩, by decide⟩, ?_⟩
    rintro _ _ ⟨n4, v4, rfl, rfl, h4, h4'⟩
    (conv => whnf); (repeat (first | (refine And.intro rfl ?_; conv => whnf) | (refine And.intro trivial ?_; conv => whnf) | (refine And.intro ⟨rfl, trivial⟩ ?_; conv => whnf) | (refine And.intro ⟨rfl, rfl, trivial⟩ ?_; conv => whnf) | (refine ifb_t ?_; conv => whnf) | (refine ifb_f ?_; conv => whnf) | (refine ifb_nr ?_; conv => whnf) | (refine ifb_er ?_; conv => whnf) | (refine And.intro (by first | decide | omega | (unfold CMul; omega) | (unfold CDiv; omega) | (unfold CPow; decide) | (exact cpow1 (by omega) (by omega)) | (exact cpow1 (by dsimp only; omega) (by dsimp only; omega)) | (simp only [rngD_len, List.length_replicate, List.length_map, List.length_append, List.length_cons, List.length_nil, List.length_set] at *; omega)) ?_; conv => whnf)))
    refine ⟨⟨⟨_, rfl⟩, by decide⟩, ?_⟩
    rintro _ _ ⟨n5, v5, rfl, rfl, h5, h5'⟩
    exact And.intro rfl (letters_end (ns := ns) (ks := n5) (m := 1 + v1) (t := v4) (s := v5) (by omega) (by omega) h5 h5')
def sp_law_text : FSpec where
  pre := fun ds => ∃ ns : List Int, ds = [.lst (ns.map D.int)]
  post := fun _ r ds' => ∃ (ns : List Int) (z : Str), r = .str z ∧ ds' = [.lst (ns.map D.int)] ∧ z.length ≤ 1000
/-- slots: 0 draws, 1 kind, 2 word, 3 at, 4 k -/
def w_law_text : WS :=
    (cSeq (cAsg 1 [0] 1 (cCallN 2 sp_law_take (cCons (cVar 0) (cCons (cC (.int 8)) cNil))))
    (cSeq (cIte (cOp fEqS (cVar 1) (cC (.int 0)))
      (cRet 1 (cC (.str (PySem.Str.ofString ""))))
      cNilS)
    (cSeq (cIte (cOp fEqS (cVar 1) (cC (.int 1)))
      (cRet 1 (cUn (fJoin (PySem.Str.ofString "")) (cLc [4] (iR1 (cCallN 2 sp_law_take (cCons (cVar 0) (cCons (cC (.int 7)) cNil)))) (gN 1 [] 4) tTrue (cCallN 1 sp_law_char (cCons (cVar 0) cNil)))))
      cNilS)
    (cSeq (cAsg 1 [0] 2 (cCallN 1 sp_law_letters (cCons (cVar 0) cNil)))
    (cSeq (cIte (cOp fLt (cVar 1) (cC (.int 5)))
      (cSeq (cAsg 1 [0] 3 (cCallN 2 sp_law_take (cCons (cVar 0) (cCons (cBi fLenS (cCons (cVar 2) cNil)) cNil))))
        (cAsg 1 [0] 2 (cOp fAddS (cOp fAddS (cSlHS (cVar 2) (cVar 3)) (cCallN 1 sp_law_char (cCons (cVar 0) cNil))) (cSlLS (cVar 2) (cOp fAddG (cVar 3) (cC (.int 1)))))))
      cNilS)
    (cRet 1 (cVar 2)))))))
theorem pure_law_text : ∀ ds, ds.length = 1 → sp_law_text.pre ds → w_law_text (env0 ds 4) { nx := fun e => sp_law_text.post ds .non (outs e 1), rt := fun d e => sp_law_text.post ds d (outs e 1) } := by
  rintro ds _ ⟨ns, rfl⟩
  (conv => whnf); (repeat (first | (refine And.intro rfl ?_; conv => whnf) | (refine And.intro trivial ?_; conv => whnf) | (refine And.intro ⟨rfl, trivial⟩ ?_; conv => whnf) | (refine And.intro ⟨rfl, rfl, trivial⟩ ?_; conv => whnf) | (refine ifb_t ?_; conv => whnf) | (refine ifb_f ?_; conv => whnf) | (refine ifb_nr ?_; conv => whnf) | (refine ifb_er ?_; conv => whnf) | (refine And.intro (by first | decide | omega | (unfold CMul; omega) | (unfold CDiv; omega) | (unfold CPow; decide) | (exact cpow1 (by omega) (by omega)) | (exact cpow1 (by dsimp only; omega) (by dsimp only; omega)) | (simp only [rngD_len, List.length_replicate, List.length_map, List.length_append, List.length_cons, List.length_nil, List.length_set] at *; omega)) ?_; conv => whnf)))
  refine ⟨⟨⟨_, rfl⟩, by decide⟩, ?_⟩
  rintro _ _ ⟨n1, v1, rfl, rfl, h1, h1'⟩
  (conv => whnf); (repeat (first | (refine And.intro rfl ?_; conv => whnf) | (refine And.intro trivial ?_; conv => whnf) | (refine And.intro ⟨rfl, trivial⟩ ?_; conv => whnf) | (refine And.intro ⟨rfl, rfl, trivial⟩ ?_; conv => whnf) | (refine ifb_t ?_; conv => whnf) | (refine ifb_f ?_; conv => whnf) | (refine ifb_nr ?_; conv => whnf) | (refine ifb_er ?_; conv => whnf) | (refine And.intro (by first | decide | omega | (unfold CMul; omega) | (unfold CDiv; omega) | (unfold CPow; decide) | (exact cpow1 (by omega) (by omega)) | (exact cpow1 (by dsimp only; omega) (by dsimp only; omega)) | (simp only [rngD_len, List.length_replicate, List.length_map, List.length_append, List.length_cons, List.length_nil, List.length_set] at *; omega)) ?_; conv => whnf)))
  refine ifb_dec (fun g => ?_) (fun g => ?_)
  · (conv => whnf); (repeat (first | (refine And.intro rfl ?_; conv => whnf) | (refine And.intro trivial ?_; conv => whnf) | (refine And.intro ⟨rfl, trivial⟩ ?_; conv => whnf) | (refine And.intro ⟨rfl, rfl, trivial⟩ ?_; conv => whnf) | (refine ifb_t ?_; conv => whnf) | (refine ifb_f ?_; conv => whnf) | (refine ifb_nr ?_; conv => whnf) | (refine ifb_er ?_; conv => whnf) | (refine And.intro (by first | decide | omega | (unfold CMul; omega) | (unfold CDiv; omega) | (unfold CPow; decide) | (exact cpow1 (by omega) (by omega)) | (exact cpow1 (by dsimp only; omega) (by dsimp only; omega)) | (simp only [rngD_len, List.length_replicate, List.length_map, List.length_append, List.length_cons, List.length_nil, List.length_set] at *; omega)) ?_; conv => whnf)))
    exact ⟨n1, _, rfl, rfl, by decide⟩
  · (conv => whnf); (repeat (first | (refine And.intro rfl ?_; conv => whnf) | (refine And.intro trivial ?_; conv => whnf) | (refine And.intro ⟨rfl, trivial⟩ ?_; conv => whnf) | (refine And.intro ⟨rfl, rfl, trivial⟩ ?_; conv => whnf) | (refine ifb_t ?_; conv => whnf) | (refine ifb_f ?_; conv => whnf) | (refine ifb_nr ?_; conv => whnf) | (refine ifb_er ?_; conv => whnf) | (refine And.intro (by first | decide | omega | (unfold CMul; omega) | (unfold CDiv; omega) | (unfold CPow; decide) | (exact cpow1 (by omega) (by omega)) | (exact cpow1 (by dsimp only; omega) (by dsimp only; omega)) | (simp only [rngD_len, List.length_replicate, List.length_map, List.length_append, List.length_cons, List.length_nil, List.length_set] at *; omega)) ?_; conv => whnf)))
    refine ifb_dec (fun g2 => ?_) (fun g2 => ?_)
    · (conv => whnf); (repeat (first | (refine And.intro rfl ?_; conv => whnf) | (refine And.intro trivial ?_; conv => whnf) | (refine And.intro ⟨rfl, trivial⟩ ?_; conv => whnf) | (refine And.intro ⟨rfl, rfl, trivial⟩ ?_; conv => whnf) | (refine ifb_t ?_; conv => whnf) | (refine ifb_f ?_; conv => whnf) | (refine ifb_nr ?_; conv => whnf) | (refine ifb_er ?_; conv => whnf) | (refine And.intro (by first | decide | omega | (unfold CMul; omega) | (unfold CDiv; omega) | (unfold CPow; decide) | (exact cpow1 (by omega) (by omega)) | (exact cpow1 (by dsimp only; omega) (by dsimp only; omega)) | (simp only [rngD_len, List.length_replicate, List.length_map, List.length_append, List.length_cons, List.length_nil, List.length_set] at *; omega)) ?_; conv => whnf)))
      refine ⟨⟨⟨_, rfl⟩, by decide⟩, ?_⟩
      rintro _ _ ⟨n2, v2, rfl, rfl, h2, h2'⟩
      (conv => whnf); (repeat (first | (refine And.intro rfl ?_; conv => whnf) | (refine And.intro trivial ?_; conv => whnf) | (refine And.intro ⟨rfl, trivial⟩ ?_; conv => whnf) | (refine And.intro ⟨rfl, rfl, trivial⟩ ?_; conv => whnf) | (refine ifb_t ?_; conv => whnf) | (refine ifb_f ?_; conv => whnf) | (refine ifb_nr ?_; conv => whnf) | (refine ifb_er ?_; conv => whnf) | (refine And.intro (by first | decide | omega | (unfold CMul; omega) | (unfold CDiv; omega) | (unfold CPow; decide) | (exact cpow1 (by omega) (by omega)) | (exact cpow1 (by dsimp only; omega) (by dsimp only; omega)) | (simp only [rngD_len, List.length_replicate, List.length_map, List.length_append, List.length_cons, List.length_nil, List.length_set] at *; omega)) ?_; conv => whnf)))
      refine loop_lc (fun ys acc e => ∃ (ks : List Int) (cs : List Nat) (i : Int) (n : Nat), (ys = rngD i n ∧ acc = (cs.map fun c => (⟨#[c]⟩ : Str)).map D.str ∧ cs.length + n = v2.toNat) ∧ e = [some (.lst (ks.map D.int)), some (.int v1), none, none, none]) ⟨n2, [], 0, v2.toNat, ⟨rfl, rfl, by simp⟩, rfl⟩ ?_ ?_
      · rintro x r acc env nxt ⟨ks, cs, i, n, ⟨h4, rfl, h6⟩, rfl⟩ hx
        cases n with
        | zero => simp [rngD] at h4
        | succ n =>
          simp only [rngD, List.cons.injEq] at h4
          obtain ⟨rfl, rfl⟩ := h4
          (conv => whnf); (repeat (first | (refine And.intro rfl ?_; conv => whnf) | (refine And.intro trivial ?_; conv => whnf) | (refine And.intro ⟨rfl, trivial⟩ ?_; conv => whnf) | (refine And.intro ⟨rfl, rfl, trivial⟩ ?_; conv => whnf) | (refine ifb_t ?_; conv => whnf) | (refine ifb_f ?_; conv => whnf) | (refine ifb_nr ?_; conv => whnf) | (refine ifb_er ?_; conv => whnf) | (refine And.intro (by first | decide | omega | (unfold CMul; omega) | (unfold CDiv; omega) | (unfold CPow; decide) | (exact cpow1 (by omega) (by omega)) | (exact cpow1 (by dsimp only; omega) (by dsimp only; omega)) | (simp only [rngD_len, List.length_replicate, List.length_map, List.length_append, List.length_cons, List.length_nil, List.length_set] at *; omega)) ?_; conv => whnf)))
          refine ⟨⟨_, rfl⟩, ?_⟩
          rintro _ _ ⟨n3, c, rfl, rfl⟩
          (conv => whnf); (repeat (first | (refine And.intro rfl ?_; conv => whnf) | (refine And.intro trivial ?_; conv => whnf) | (refine And.intro ⟨rfl, trivial⟩ ?_; conv => whnf) | (refine And.intro ⟨rfl, rfl, trivial⟩ ?_; conv => whnf) | (refine ifb_t ?_; conv => whnf) | (refine ifb_f ?_; conv => whnf) | (refine ifb_nr ?_; conv => whnf) | (refine ifb_er ?_; conv => whnf) | (refine And.intro (by first | decide | omega | (unfold CMul; omega) | (unfold CDiv; omega) | (unfold CPow; decide) | (exact cpow1 (by omega) (by omega)) | (exact cpow1 (by dsimp only; omega) (by dsimp only; omega)) | (simp only [rngD_len, List.length_replicate, List.length_map, List.length_append, List.length_cons, List.length_nil, List.length_set] at *; omega)) ?_; conv => whnf)))
          exact hx _ _ ⟨n3, cs ++ [c], i + 1, n, ⟨rfl, by rw [List.map_append, List.map_append]; rfl, by simp only [List.length_append, List.length_cons, List.length_nil]; omega⟩, rfl⟩
      · rintro acc env ⟨ks, cs, i, n, ⟨h4, rfl, h6⟩, rfl⟩
        (conv => whnf); (repeat (first | (refine And.intro rfl ?_; conv => whnf) | (refine And.intro trivial ?_; conv => whnf) | (refine And.intro ⟨rfl, trivial⟩ ?_; conv => whnf) | (refine And.intro ⟨rfl, rfl, trivial⟩ ?_; conv => whnf) | (refine ifb_t ?_; conv => whnf) | (refine ifb_f ?_; conv => whnf) | (refine ifb_nr ?_; conv => whnf) | (refine ifb_er ?_; conv => whnf) | (refine And.intro (by first | decide | omega | (unfold CMul; omega) | (unfold CDiv; omega) | (unfold CPow; decide) | (exact cpow1 (by omega) (by omega)) | (exact cpow1 (by dsimp only; omega) (by dsimp only; omega)) | (simp only [rngD_len, List.length_replicate, List.length_map, List.length_append, List.length_cons, List.length_nil, List.length_set] at *; omega)) ?_; conv => whnf)))
        rw [strsD_map]
        have hz : (Str.ofString "").length = 0 := by decide
        refine ⟨by rw [hz, Nat.mul_zero]; have := sumL_ones cs; unfold sumL at this; omega, ?_⟩
        have e := join_ones cs
        generalize Txt.join (Str.ofString "") (cs.map fun c => (⟨#[c]⟩ : Str)) = wd at *
        (conv => whnf); (repeat (first | (refine And.intro rfl ?_; conv => whnf) | (refine And.intro trivial ?_; conv => whnf) | (refine And.intro ⟨rfl, trivial⟩ ?_; conv => whnf) | (refine And.intro ⟨rfl, rfl, trivial⟩ ?_; conv => whnf) | (refine ifb_t ?_; conv => whnf) | (refine ifb_f ?_; conv => whnf) | (refine ifb_nr ?_; conv => whnf) | (refine ifb_er ?_; conv => whnf) | (refine And.intro (by first | decide | omega | (unfold CMul; omega) | (unfold CDiv; omega) | (unfold CPow; decide) | (exact cpow1 (by omega) (by omega)) | (exact cpow1 (by dsimp only; omega) (by dsimp only; omega)) | (simp only [rngD_len, List.length_replicate, List.length_map, List.length_append, List.length_cons, List.length_nil, List.length_set] at *; omega)) ?_; conv => whnf)))
        exact ⟨ks, wd, rfl, rfl, by rw [len_list, e]; omega⟩
    · (conv => whnf); (repeat (first | (refine And.intro rfl ?_; conv => whnf) | (refine And.intro trivial ?_; conv => whnf) | (refine And.intro ⟨rfl, trivial⟩ ?_; conv => whnf) | (refine And.intro ⟨rfl, rfl, trivial⟩ ?_; conv => whnf) | (refine ifb_t ?_; conv => whnf) | (refine ifb_f ?_; conv => whnf) | (refine ifb_nr ?_; conv => whnf) | (refine ifb_er ?_; conv => whnf) | (refine And.intro (by first | decide | omega | (unfold CMul; omega) | (unfold CDiv; omega) | (unfold CPow; decide) | (exact cpow1 (by omega) (by omega)) | (exact cpow1 (by dsimp only; omega) (by dsimp only; omega)) | (simp only [rngD_len, List.length_replicate, List.length_map, List.length_append, List.length_cons, List.length_nil, List.length_set] at *; omega)) ?_; conv => whnf)))
      refine ⟨⟨_, rfl⟩, ?_⟩
      rintro _ _ ⟨n2, z, rfl, rfl, _, hz0, hz1⟩
      (conv => whnf); (repeat (first | (refine And.intro rfl ?_; conv => whnf) | (refine And.intro trivial ?_; conv => whnf) | (refine And.intro ⟨rfl, trivial⟩ ?_; conv => whnf) | (refine And.intro ⟨rfl, rfl, trivial⟩ ?_; conv => whnf) | (refine ifb_t ?_; conv => whnf) | (refine ifb_f ?_; conv => whnf) | (refine ifb_nr ?_; conv => whnf) | (refine ifb_er ?_; conv => whnf) | (refine And.intro (by first | decide | omega | (unfold CMul; omega) | (unfold CDiv; omega) | (unfold CPow; decide) | (exact cpow1 (by omega) (by omega)) | (exact cpow1 (by dsimp only; omega) (by dsimp only; omega)) | (simp only [rngD_len, List.length_replicate, List.length_map, List.length_append, List.length_cons, List.length_nil, List.length_set] at *; omega)) ?_; conv => whnf)))
      refine ifb_dec (fun g3 => ?_) (fun g3 => ?_)
      · (conv => whnf); (repeat (first | (refine And.intro rfl ?_; conv => whnf) | (refine And.intro trivial ?_; conv => whnf) | (refine And.intro ⟨rfl, trivial⟩ ?_; conv => whnf) | (refine And.intro ⟨rfl, rfl, trivial⟩ ?_; conv => whnf) | (refine ifb_t ?_; conv => whnf) | (refine ifb_f ?_; conv => whnf) | (refine ifb_nr ?_; conv => whnf) | (refine ifb_er ?_; conv => whnf) | (refine And.intro (by first | decide | omega | (unfold CMul; omega) | (unfold CDiv; omega) | (unfold CPow; decide) | (exact cpow1 (by omega) (by omega)) | (exact cpow1 (by dsimp only; omega) (by dsimp only; omega)) | (simp only [rngD_len, List.length_replicate, List.length_map, List.length_append, List.length_cons, List.length_nil, List.length_set] at *; omega)) ?_; conv => whnf)))
        refine ⟨⟨⟨_, rfl⟩, by omega⟩, ?_⟩
        rintro _ _ ⟨n3, v3, rfl, rfl, h3, h3'⟩
        (conv => whnf); (repeat (first | (refine And.intro rfl ?_; conv => whnf) | (refine And.intro trivial ?_; conv => whnf) | (refine And.intro ⟨rfl, trivial⟩ ?_; conv => whnf) | (refine And.intro ⟨rfl, rfl, trivial⟩ ?_; conv => whnf) | (refine ifb_t ?_; conv => whnf) | (refine ifb_f ?_; conv => whnf) | (refine ifb_nr ?_; conv => whnf) | (refine ifb_er ?_; conv => whnf) | (refine And.intro (by first | decide | omega | (unfold CMul; omega) | (unfold CDiv; omega) | (unfold CPow; decide) | (exact cpow1 (by omega) (by omega)) | (exact cpow1 (by dsimp only; omega) (by dsimp only; omega)) | (simp only [rngD_len, List.length_replicate, List.length_map, List.length_append, List.length_cons, List.length_nil, List.length_set] at *; omega)) ?_; conv => whnf)))
        refine ⟨⟨_, rfl⟩, ?_⟩
        rintro _ _ ⟨n4, c, rfl, rfl⟩
        (conv => whnf); (repeat (first | (refine And.intro rfl ?_; conv => whnf) | (refine And.intro trivial ?_; conv => whnf) | (refine And.intro ⟨rfl, trivial⟩ ?_; conv => whnf) | (refine And.intro ⟨rfl, rfl, trivial⟩ ?_; conv => whnf) | (refine ifb_t ?_; conv => whnf) | (refine ifb_f ?_; conv => whnf) | (refine ifb_nr ?_; conv => whnf) | (refine ifb_er ?_; conv => whnf) | (refine And.intro (by first | decide | omega | (unfold CMul; omega) | (unfold CDiv; omega) | (unfold CPow; decide) | (exact cpow1 (by omega) (by omega)) | (exact cpow1 (by dsimp only; omega) (by dsimp only; omega)) | (simp only [rngD_len, List.length_replicate, List.length_map, List.length_append, List.length_cons, List.length_nil, List.length_set] at *; omega)) ?_; conv => whnf)))
        have ha := cutS_length z none (some v3)
        have hb := cutS_length z (some (v3 + 1)) none
        have hc : (⟨#[c]⟩ : Str).length = 1 := rfl
        refine ⟨by omega, ?_⟩
        (conv => whnf); (repeat (first | (refine And.intro rfl ?_; conv => whnf) | (refine And.intro trivial ?_; conv => whnf) | (refine And.intro ⟨rfl, trivial⟩ ?_; conv => whnf) | (refine And.intro ⟨rfl, rfl, trivial⟩ ?_; conv => whnf) | (refine ifb_t ?_; conv => whnf) | (refine ifb_f ?_; conv => whnf) | (refine ifb_nr ?_; conv => whnf) | (refine ifb_er ?_; conv => whnf) | (refine And.intro (by first | decide | omega | (unfold CMul; omega) | (unfold CDiv; omega) | (unfold CPow; decide) | (exact cpow1 (by omega) (by omega)) | (exact cpow1 (by dsimp only; omega) (by dsimp only; omega)) | (simp only [rngD_len, List.length_replicate, List.length_map, List.length_append, List.length_cons, List.length_nil, List.length_set] at *; omega)) ?_; conv => whnf)))
        rw [PySem.Str.length_append]
        refine ⟨by omega, ?_⟩
        (conv => whnf); (repeat (first | (refine And.intro rfl ?_; conv => whnf) | (refine And.intro trivial ?_; conv => whnf) | (refine And.intro ⟨rfl, trivial⟩ ?_; conv => whnf) | (refine And.intro ⟨rfl, rfl, trivial⟩ ?_; conv => whnf) | (refine ifb_t ?_; conv => whnf) | (refine ifb_f ?_; conv => whnf) | (refine ifb_nr ?_; conv => whnf) | (refine ifb_er ?_; conv => whnf) | (refine And.intro (by first | decide | omega | (unfold CMul; omega) | (unfold CDiv; omega) | (unfold CPow; decide) | (exact cpow1 (by omega) (by omega)) | (exact cpow1 (by dsimp only; omega) (by dsimp only; omega)) | (simp only [rngD_len, List.length_replicate, List.length_map, List.length_append, List.length_cons, List.length_nil, List.length_set] at *; omega)) ?_; conv => whnf)))
        exact ⟨n4, _, rfl, rfl, by rw [PySem.Str.length_append, PySem.Str.length_append]; omega⟩
      · (conv => whnf); (repeat (first | (refine And.intro rfl ?_; conv => whnf) | (refine And.intro trivial ?_; conv => whnf) | (refine And.intro ⟨rfl, trivial⟩ ?_; conv => whnf) | (refine And.intro ⟨rfl, rfl, trivial⟩ ?_; conv => whnf) | (refine ifb_t ?_; conv => whnf) | (refine ifb_f ?_; conv => whnf) | (refine ifb_nr ?_; conv => whnf) | (refine ifb_er ?_; conv => whnf) | (refine And.intro (by first | decide | omega | (unfold CMul; omega) | (unfold CDiv; omega) | (unfold CPow; decide) | (exact cpow1 (by omega) (by omega)) | (exact cpow1 (by dsimp only; omega) (by dsimp only; omega)) | (simp only [rngD_len, List.length_replicate, List.length_map, List.length_append, List.length_cons, List.length_nil, List.length_set] at *; omega)) ?_; conv => whnf)))
        exact ⟨n2, z, rfl, rfl, by omega⟩
def It (d : D) : Prop := (∃ i, d = .int i) ∨ ∃ z : Str, d = .str z ∧ isW z = true ∧ z.length ≤ 60
def sp_law_item : FSpec where
  pre := fun ds => ∃ ns ms : List Int, ds = [.lst (ns.map D.int), .rol (ms.map D.int)]
  post := fun ds r ds' => ∀ x ms, ds = [x, .rol ms] → ∃ ns : List Int, It r ∧ ds' = [.lst (ns.map D.int), .rol ms]
/-- slots: 0 draws, 1 script -/
def w_law_item : WS :=
    (cSeq (cIte (cOp fEqS (cCallN 2 sp_law_take (cCons (cVar 0) (cCons (cC (.int 2)) cNil))) (cC (.int 0)))
      (cRet 2 (cOp fMul (cCallN 2 sp_law_size (cCons (cVar 0) (cCons (cVar 1) cNil))) (cOp fSub (cC (.int 1)) (cOp fMul (cC (.int 2)) (cCallN 2 sp_law_take (cCons (cVar 0) (cCons (cC (.int 2)) cNil)))))))
      cNilS)
    (cRet 2 (cCallN 1 sp_law_letters (cCons (cVar 0) cNil))))
theorem pure_law_item : ∀ ds, ds.length = 2 → sp_law_item.pre ds → w_law_item (env0 ds 0) { nx := fun e => sp_law_item.post ds .non (outs e 2), rt := fun d e => sp_law_item.post ds d (outs e 2) } := by
  rintro ds _ ⟨ns, ms, rfl⟩
  (conv => whnf); (repeat (first | (refine And.intro rfl ?_; conv => whnf) | (refine And.intro trivial ?_; conv => whnf) | (refine And.intro ⟨rfl, trivial⟩ ?_; conv => whnf) | (refine And.intro ⟨rfl, rfl, trivial⟩ ?_; conv => whnf) | (refine ifb_t ?_; conv => whnf) | (refine ifb_f ?_; conv => whnf) | (refine ifb_nr ?_; conv => whnf) | (refine ifb_er ?_; conv => whnf) | (refine And.intro (by first | decide | omega | (unfold CMul; omega) | (unfold CDiv; omega) | (unfold CPow; decide) | (exact cpow1 (by omega) (by omega)) | (exact cpow1 (by dsimp only; omega) (by dsimp only; omega)) | (simp only [rngD_len, List.length_replicate, List.length_map, List.length_append, List.length_cons, List.length_nil, List.length_set] at *; omega)) ?_; conv => whnf)))
  refine ⟨⟨⟨_, rfl⟩, by decide⟩, ?_⟩
  rintro _ _ ⟨n1, v1, rfl, rfl, h1, h1'⟩
  (conv => whnf); (repeat (first | (refine And.intro rfl ?_; conv => whnf) | (refine And.intro trivial ?_; conv => whnf) | (refine And.intro ⟨rfl, trivial⟩ ?_; conv => whnf) | (refine And.intro ⟨rfl, rfl, trivial⟩ ?_; conv => whnf) | (refine ifb_t ?_; conv => whnf) | (refine ifb_f ?_; conv => whnf) | (refine ifb_nr ?_; conv => whnf) | (refine ifb_er ?_; conv => whnf) | (refine And.intro (by first | decide | omega | (unfold CMul; omega) | (unfold CDiv; omega) | (unfold CPow; decide) | (exact cpow1 (by omega) (by omega)) | (exact cpow1 (by dsimp only; omega) (by dsimp only; omega)) | (simp only [rngD_len, List.length_replicate, List.length_map, List.length_append, List.length_cons, List.length_nil, List.length_set] at *; omega)) ?_; conv => whnf)))
  refine ifb_dec (fun g => ?_) (fun g => ?_)
  · (conv => whnf); (repeat (first | (refine And.intro rfl ?_; conv => whnf) | (refine And.intro trivial ?_; conv => whnf) | (refine And.intro ⟨rfl, trivial⟩ ?_; conv => whnf) | (refine And.intro ⟨rfl, rfl, trivial⟩ ?_; conv => whnf) | (refine ifb_t ?_; conv => whnf) | (refine ifb_f ?_; conv => whnf) | (refine ifb_nr ?_; conv => whnf) | (refine ifb_er ?_; conv => whnf) | (refine And.intro (by first | decide | omega | (unfold CMul; omega) | (unfold CDiv; omega) | (unfold CPow; decide) | (exact cpow1 (by omega) (by omega)) | (exact cpow1 (by dsimp only; omega) (by dsimp only; omega)) | (simp only [rngD_len, List.length_replicate, List.length_map, List.length_append, List.length_cons, List.length_nil, List.length_set] at *; omega)) ?_; conv => whnf)))
    refine ⟨⟨⟨_, rfl⟩, _, rfl⟩, ?_⟩
    rintro _ _ ⟨n2, v2, rfl, rfl, h2⟩
    (conv => whnf); (repeat (first | (refine And.intro rfl ?_; conv => whnf) | (refine And.intro trivial ?_; conv => whnf) | (refine And.intro ⟨rfl, trivial⟩ ?_; conv => whnf) | (refine And.intro ⟨rfl, rfl, trivial⟩ ?_; conv => whnf) | (refine ifb_t ?_; conv => whnf) | (refine ifb_f ?_; conv => whnf) | (refine ifb_nr ?_; conv => whnf) | (refine ifb_er ?_; conv => whnf) | (refine And.intro (by first | decide | omega | (unfold CMul; omega) | (unfold CDiv; omega) | (unfold CPow; decide) | (exact cpow1 (by omega) (by omega)) | (exact cpow1 (by dsimp only; omega) (by dsimp only; omega)) | (simp only [rngD_len, List.length_replicate, List.length_map, List.length_append, List.length_cons, List.length_nil, List.length_set] at *; omega)) ?_; conv => whnf)))
    refine ⟨⟨⟨_, rfl⟩, by decide⟩, ?_⟩
    rintro _ _ ⟨n3, v3, rfl, rfl, h3, h3'⟩
    (conv => whnf); (repeat (first | (refine And.intro rfl ?_; conv => whnf) | (refine And.intro trivial ?_; conv => whnf) | (refine And.intro ⟨rfl, trivial⟩ ?_; conv => whnf) | (refine And.intro ⟨rfl, rfl, trivial⟩ ?_; conv => whnf) | (refine ifb_t ?_; conv => whnf) | (refine ifb_f ?_; conv => whnf) | (refine ifb_nr ?_; conv => whnf) | (refine ifb_er ?_; conv => whnf) | (refine And.intro (by first | decide | omega | (unfold CMul; omega) | (unfold CDiv; omega) | (unfold CPow; decide) | (exact cpow1 (by omega) (by omega)) | (exact cpow1 (by dsimp only; omega) (by dsimp only; omega)) | (simp only [rngD_len, List.length_replicate, List.length_map, List.length_append, List.length_cons, List.length_nil, List.length_set] at *; omega)) ?_; conv => whnf)))
    intro x ms' e
    simp only [List.cons.injEq, and_true, D.rol.injEq] at e
    obtain ⟨_, rfl⟩ := e
    exact ⟨n3, .inl ⟨_, rfl⟩, rfl⟩
  · (conv => whnf); (repeat (first | (refine And.intro rfl ?_; conv => whnf) | (refine And.intro trivial ?_; conv => whnf) | (refine And.intro ⟨rfl, trivial⟩ ?_; conv => whnf) | (refine And.intro ⟨rfl, rfl, trivial⟩ ?_; conv => whnf) | (refine ifb_t ?_; conv => whnf) | (refine ifb_f ?_; conv => whnf) | (refine ifb_nr ?_; conv => whnf) | (refine ifb_er ?_; conv => whnf) | (refine And.intro (by first | decide | omega | (unfold CMul; omega) | (unfold CDiv; omega) | (unfold CPow; decide) | (exact cpow1 (by omega) (by omega)) | (exact cpow1 (by dsimp only; omega) (by dsimp only; omega)) | (simp only [rngD_len, List.length_replicate, List.length_map, List.length_append, List.length_cons, List.length_nil, List.length_set] at *; omega)) ?_; conv => whnf)))
    refine ⟨⟨_, rfl⟩, ?_⟩
    rintro _ _ ⟨n2, z, rfl, rfl, hw, hz0, hz1⟩
    (conv => whnf); (repeat (first | (refine And.intro rfl ?_; conv => whnf) | (refine And.intro trivial ?_; conv => whnf) | (refine And.intro ⟨rfl, trivial⟩ ?_; conv => whnf) | (refine And.intro ⟨rfl, rfl, trivial⟩ ?_; conv => whnf) | (refine ifb_t ?_; conv => whnf) | (refine ifb_f ?_; conv => whnf) | (refine ifb_nr ?_; conv => whnf) | (refine ifb_er ?_; conv => whnf) | (refine And.intro (by first | decide | omega | (unfold CMul; omega) | (unfold CDiv; omega) | (unfold CPow; decide) | (exact cpow1 (by omega) (by omega)) | (exact cpow1 (by dsimp only; omega) (by dsimp only; omega)) | (simp only [rngD_len, List.length_replicate, List.length_map, List.length_append, List.length_cons, List.length_nil, List.length_set] at *; omega)) ?_; conv => whnf)))
    intro x ms' e
    simp only [List.cons.injEq, and_true, D.rol.injEq] at e
    obtain ⟨_, rfl⟩ := e
    exact ⟨n2, .inr ⟨z, rfl, hw, hz1⟩, rfl⟩
/-! ### a stop ahead of a statement -/
@[irreducible] def Stop (p : Prop) : Prop := p
theorem Stop.mk {p : Prop} (h : p) : Stop p := by unfold Stop; exact h
theorem Stop.eq (p : Prop) : Stop p = p := by unfold Stop; rfl
def cCut (w u : WS) : WS := fun env K => w env { K with nx := fun e => Stop (u e K) }
theorem cCut_eq (w u : WS) : cCut w u = cSeq w u := by
  funext env K
  unfold cCut cSeq
  simp only [Stop.eq]
theorem cutW {u v : WS} {env : DEnv} {K : Kt} (J : DEnv → Prop) (h1 : ∀ nxt : DEnv → Prop, (∀ e, J e → nxt e) → u env { K with nx := nxt }) (h2 : ∀ e, J e → v e K) : Stop (cSeq u v env K) := Stop.mk (h1 _ h2)
theorem cutW' {u v : WS} {env : DEnv} {K : Kt} (J : DEnv → Prop) (h1 : ∀ nxt : DEnv → Prop, (∀ e, J e → nxt e) → u env { K with nx := nxt }) (h2 : ∀ e, J e → v e K) : Stop (cCut u v env K) := Stop.mk (h1 _ fun e h => Stop.mk (h2 e h))
theorem stopE {w : WS} {env e : DEnv} {K : Kt} (h : env = e) (g : w e K) : Stop (w env K) := Stop.mk (h ▸ g)
/-! ### the law -/
theorem It.vl {d : D} (h : It d) : Vl d := by
  rcases h with ⟨i, rfl⟩ | ⟨z, rfl, _, hz⟩
  · exact .inl ⟨i, rfl⟩
  · exact .inr ⟨z, rfl, by omega⟩
theorem It.isV {d : D} (h : It d) : isV d = true := by
  rcases h with ⟨i, rfl⟩ | ⟨z, rfl, hw, hz⟩
  · rfl
  · exact hw
theorem same_bl (b : Bool) : sp_law_same.pre [.bl b, .bl b] := ⟨.bl b, rfl, rfl⟩
theorem end34 {ns : List Int} {ks : List Int} {z : Str} {xs : List D} {o5 : Option D} {b : Bool} (hl : xs.length ≤ 1000) (hv : ∀ x ∈ xs, Vl x) (hb : b = (decide ((xs.length : Int) ≤ 8) && xs.all isV)) : (cRet 1 (cCallN 2 sp_law_same (cCons (cCallN 1 sp_is_row (cCons (cBi fTuple (cCons (cVar 3) cNil)) cNil)) (cCons (cVar 4) cNil)))) [some (.rol (ns.map D.int)), some (.lst (ks.map D.int)), some (.str z), some (.lst xs), some (.bl b), o5] { nx := fun e => sp_law.post [.rol (ns.map D.int)] .non (outs e 1), rt := fun d e => sp_law.post [.rol (ns.map D.int)] d (outs e 1) } := by
  (conv => whnf); (repeat (first | (refine And.intro rfl ?_; conv => whnf) | (refine And.intro trivial ?_; conv => whnf) | (refine And.intro ⟨rfl, trivial⟩ ?_; conv => whnf) | (refine And.intro ⟨rfl, rfl, trivial⟩ ?_; conv => whnf) | (refine ifb_t ?_; conv => whnf) | (refine ifb_f ?_; conv => whnf) | (refine ifb_nr ?_; conv => whnf) | (refine ifb_er ?_; conv => whnf) | (refine And.intro (by first | decide | omega | (unfold CMul; omega) | (unfold CDiv; omega) | (unfold CPow; decide) | (exact cpow1 (by omega) (by omega)) | (exact cpow1 (by dsimp only; omega) (by dsimp only; omega)) | (simp only [rngD_len, List.length_replicate, List.length_map, List.length_append, List.length_cons, List.length_nil, List.length_set] at *; omega)) ?_; conv => whnf)))
  refine ⟨⟨_, rfl, hl, hv⟩, ?_⟩
  rintro _ _ ⟨rfl, h⟩
  cases h _ rfl
  rw [← hb]
  (conv => whnf); (repeat (first | (refine And.intro rfl ?_; conv => whnf) | (refine And.intro trivial ?_; conv => whnf) | (refine And.intro ⟨rfl, trivial⟩ ?_; conv => whnf) | (refine And.intro ⟨rfl, rfl, trivial⟩ ?_; conv => whnf) | (refine ifb_t ?_; conv => whnf) | (refine ifb_f ?_; conv => whnf) | (refine ifb_nr ?_; conv => whnf) | (refine ifb_er ?_; conv => whnf) | (refine And.intro (by first | decide | omega | (unfold CMul; omega) | (unfold CDiv; omega) | (unfold CPow; decide) | (exact cpow1 (by omega) (by omega)) | (exact cpow1 (by dsimp only; omega) (by dsimp only; omega)) | (simp only [rngD_len, List.length_replicate, List.length_map, List.length_append, List.length_cons, List.length_nil, List.length_set] at *; omega)) ?_; conv => whnf)))
  refine ⟨same_bl _, ?_⟩
  rintro _ _ ⟨rfl, rfl⟩
  (conv => whnf); (repeat (first | (refine And.intro rfl ?_; conv => whnf) | (refine And.intro trivial ?_; conv => whnf) | (refine And.intro ⟨rfl, trivial⟩ ?_; conv => whnf) | (refine And.intro ⟨rfl, rfl, trivial⟩ ?_; conv => whnf) | (refine ifb_t ?_; conv => whnf) | (refine ifb_f ?_; conv => whnf) | (refine ifb_nr ?_; conv => whnf) | (refine ifb_er ?_; conv => whnf) | (refine And.intro (by first | decide | omega | (unfold CMul; omega) | (unfold CDiv; omega) | (unfold CPow; decide) | (exact cpow1 (by omega) (by omega)) | (exact cpow1 (by dsimp only; omega) (by dsimp only; omega)) | (simp only [rngD_len, List.length_replicate, List.length_map, List.length_append, List.length_cons, List.length_nil, List.length_set] at *; omega)) ?_; conv => whnf)))
theorem all_set {z : Str} : ∀ {xs : List D} {j : Nat}, xs.all isV = true → j < xs.length → (xs.set j (.str z)).all isV = isW z
  | [], _, _, h => by simp at h
  | x :: r, 0, h, _ => by
    rw [List.all_cons, Bool.and_eq_true] at h
    rw [List.set_cons_zero, List.all_cons, h.2, Bool.and_true]
    rfl
  | x :: r, j + 1, h, hj => by
    rw [List.all_cons, Bool.and_eq_true] at h
    rw [List.set_cons_succ, List.all_cons, h.1, Bool.true_and]
    exact all_set h.2 (by simpa using hj)
theorem ix_nn {n : Nat} {v : Int} (h0 : 0 ≤ v) (h : v < n) : ixN n v = some v.toNat := by
  unfold ixN
  simp [h0, h]
/-- slots: 0 script, 1 draws, 2 text, 3 row, 4 due, 5 k -/
def w_law : WS :=
    (cSeq (cAsg 1 [0] 1 (cCallN 2 sp_law_draws (cCons (cVar 0) (cCons (cC (.int 120)) cNil))))
    (cSeq (cAsg 1 [0] 2 (cCallN 1 sp_law_text (cCons (cVar 1) cNil)))
    (cSeq (cIte (cUn fNot (cCallN 2 sp_law_same (cCons (cCallN 1 sp_is_word (cCons (cVar 2) cNil)) (cCons (cCallN 1 sp_law_is_word (cCons (cVar 2) cNil)) cNil))))
      (cRet 1 (cC (.bl false)))
      cNilS)
    (cSeq (cAsg 1 [0] 3 (cLc [5] (iR1 (cCallN 2 sp_law_take (cCons (cVar 1) (cCons (cC (.int 11)) cNil)))) (gN 1 [] 5) tTrue (cCallN 2 sp_law_item (cCons (cVar 1) (cCons (cVar 0) cNil)))))
    (cSeq (cAsg 1 [0] 4 (cOp fLe (cBi fLen (cCons (cVar 3) cNil)) (cC (.int 8))))
    (cSeq (cIte (cAnd (cOp fGt (cBi fLen (cCons (cVar 3) cNil)) (cC (.int 0))) (cOp fEqS (cCallN 2 sp_law_take (cCons (cVar 1) (cCons (cC (.int 2)) cNil))) (cC (.int 0))))
      (cSeq (cAsg 1 [0] 2 (cCallN 1 sp_law_text (cCons (cVar 1) cNil)))
        (cSeq (cSet 3 (cVar 2) (cCallN 2 sp_law_take (cCons (cVar 1) (cCons (cBi fLen (cCons (cVar 3) cNil)) cNil))))
        (cAsg 1 [0] 4 (cAnd (cVar 4) (cCallN 1 sp_law_is_word (cCons (cVar 2) cNil))))))
      cNilS)
    (cRet 1 (cCallN 2 sp_law_same (cCons (cCallN 1 sp_is_row (cCons (cBi fTuple (cCons (cVar 3) cNil)) cNil)) (cCons (cVar 4) cNil))))))))))
def w'_law : WS :=
    (cSeq (cAsg 1 [0] 1 (cCallN 2 sp_law_draws (cCons (cVar 0) (cCons (cC (.int 120)) cNil))))
    (cSeq (cAsg 1 [0] 2 (cCallN 1 sp_law_text (cCons (cVar 1) cNil)))
    (cSeq (cIte (cUn fNot (cCallN 2 sp_law_same (cCons (cCallN 1 sp_is_word (cCons (cVar 2) cNil)) (cCons (cCallN 1 sp_law_is_word (cCons (cVar 2) cNil)) cNil))))
      (cRet 1 (cC (.bl false)))
      cNilS)
    (cSeq (cAsg 1 [0] 3 (cLc [5] (iR1 (cCallN 2 sp_law_take (cCons (cVar 1) (cCons (cC (.int 11)) cNil)))) (gN 1 [] 5) tTrue (cCallN 2 sp_law_item (cCons (cVar 1) (cCons (cVar 0) cNil)))))
    (cSeq (cAsg 1 [0] 4 (cOp fLe (cBi fLen (cCons (cVar 3) cNil)) (cC (.int 8))))
    (cCut (cIte (cAnd (cOp fGt (cBi fLen (cCons (cVar 3) cNil)) (cC (.int 0))) (cOp fEqS (cCallN 2 sp_law_take (cCons (cVar 1) (cCons (cC (.int 2)) cNil))) (cC (.int 0))))
      (cSeq (cAsg 1 [0] 2 (cCallN 1 sp_law_text (cCons (cVar 1) cNil)))
        (cSeq (cSet 3 (cVar 2) (cCallN 2 sp_law_take (cCons (cVar 1) (cCons (cBi fLen (cCons (cVar 3) cNil)) cNil))))
        (cAsg 1 [0] 4 (cAnd (cVar 4) (cCallN 1 sp_law_is_word (cCons (cVar 2) cNil))))))
      cNilS)
    (cRet 1 (cCallN 2 sp_law_same (cCons (cCallN 1 sp_is_row (cCons (cBi fTuple (cCons (cVar 3) cNil)) cNil)) (cCons (cVar 4) cNil))))))))))
theorem w'_law_eq : w_law = w'_law := by
  unfold w'_law
  simp only [cCut_eq]
  rfl
theorem pure_law : ∀ ds, ds.length = 1 → sp_law.pre ds → w_law (env0 ds 5) { nx := fun e => sp_law.post ds .non (outs e 1), rt := fun d e => sp_law.post ds d (outs e 1) } := by
  rintro ds _ ⟨ns, rfl, hl⟩
  rw [w'_law_eq]
  (conv => whnf); (repeat (first | (refine And.intro rfl ?_; conv => whnf) | (refine And.intro trivial ?_; conv => whnf) | (refine And.intro ⟨rfl, trivial⟩ ?_; conv => whnf) | (refine And.intro ⟨rfl, rfl, trivial⟩ ?_; conv => whnf) | (refine ifb_t ?_; conv => whnf) | (refine ifb_f ?_; conv => whnf) | (refine ifb_nr ?_; conv => whnf) | (refine ifb_er ?_; conv => whnf) | (refine And.intro (by first | decide | omega | (unfold CMul; omega) | (unfold CDiv; omega) | (unfold CPow; decide) | (exact cpow1 (by omega) (by omega)) | (exact cpow1 (by dsimp only; omega) (by dsimp only; omega)) | (simp only [rngD_len, List.length_replicate, List.length_map, List.length_append, List.length_cons, List.length_nil, List.length_set] at *; omega)) ?_; conv => whnf)))
  refine ⟨⟨⟨ns, rfl⟩, by simpa using hl, by decide, by decide⟩, ?_⟩
  rintro _ _ ⟨rfl, ms, rfl⟩
  (conv => whnf); (repeat (first | (refine And.intro rfl ?_; conv => whnf) | (refine And.intro trivial ?_; conv => whnf) | (refine And.intro ⟨rfl, trivial⟩ ?_; conv => whnf) | (refine And.intro ⟨rfl, rfl, trivial⟩ ?_; conv => whnf) | (refine ifb_t ?_; conv => whnf) | (refine ifb_f ?_; conv => whnf) | (refine ifb_nr ?_; conv => whnf) | (refine ifb_er ?_; conv => whnf) | (refine And.intro (by first | decide | omega | (unfold CMul; omega) | (unfold CDiv; omega) | (unfold CPow; decide) | (exact cpow1 (by omega) (by omega)) | (exact cpow1 (by dsimp only; omega) (by dsimp only; omega)) | (simp only [rngD_len, List.length_replicate, List.length_map, List.length_append, List.length_cons, List.length_nil, List.length_set] at *; omega)) ?_; conv => whnf)))
  refine ⟨⟨_, rfl⟩, ?_⟩
  rintro _ _ ⟨m1, z, rfl, rfl, hz⟩
  (conv => whnf); (repeat (first | (refine And.intro rfl ?_; conv => whnf) | (refine And.intro trivial ?_; conv => whnf) | (refine And.intro ⟨rfl, trivial⟩ ?_; conv => whnf) | (refine And.intro ⟨rfl, rfl, trivial⟩ ?_; conv => whnf) | (refine ifb_t ?_; conv => whnf) | (refine ifb_f ?_; conv => whnf) | (refine ifb_nr ?_; conv => whnf) | (refine ifb_er ?_; conv => whnf) | (refine And.intro (by first | decide | omega | (unfold CMul; omega) | (unfold CDiv; omega) | (unfold CPow; decide) | (exact cpow1 (by omega) (by omega)) | (exact cpow1 (by dsimp only; omega) (by dsimp only; omega)) | (simp only [rngD_len, List.length_replicate, List.length_map, List.length_append, List.length_cons, List.length_nil, List.length_set] at *; omega)) ?_; conv => whnf)))
  refine ⟨⟨z, rfl, by omega⟩, ?_⟩
  rintro _ _ ⟨rfl, h⟩
  cases h _ rfl
  (conv => whnf); (repeat (first | (refine And.intro rfl ?_; conv => whnf) | (refine And.intro trivial ?_; conv => whnf) | (refine And.intro ⟨rfl, trivial⟩ ?_; conv => whnf) | (refine And.intro ⟨rfl, rfl, trivial⟩ ?_; conv => whnf) | (refine ifb_t ?_; conv => whnf) | (refine ifb_f ?_; conv => whnf) | (refine ifb_nr ?_; conv => whnf) | (refine ifb_er ?_; conv => whnf) | (refine And.intro (by first | decide | omega | (unfold CMul; omega) | (unfold CDiv; omega) | (unfold CPow; decide) | (exact cpow1 (by omega) (by omega)) | (exact cpow1 (by dsimp only; omega) (by dsimp only; omega)) | (simp only [rngD_len, List.length_replicate, List.length_map, List.length_append, List.length_cons, List.length_nil, List.length_set] at *; omega)) ?_; conv => whnf)))
  refine ⟨⟨z, rfl, by omega⟩, ?_⟩
  rintro _ _ ⟨rfl, h⟩
  cases h _ rfl
  (conv => whnf); (repeat (first | (refine And.intro rfl ?_; conv => whnf) | (refine And.intro trivial ?_; conv => whnf) | (refine And.intro ⟨rfl, trivial⟩ ?_; conv => whnf) | (refine And.intro ⟨rfl, rfl, trivial⟩ ?_; conv => whnf) | (refine ifb_t ?_; conv => whnf) | (refine ifb_f ?_; conv => whnf) | (refine ifb_nr ?_; conv => whnf) | (refine ifb_er ?_; conv => whnf) | (refine And.intro (by first | decide | omega | (unfold CMul; omega) | (unfold CDiv; omega) | (unfold CPow; decide) | (exact cpow1 (by omega) (by omega)) | (exact cpow1 (by dsimp only; omega) (by dsimp only; omega)) | (simp only [rngD_len, List.length_replicate, List.length_map, List.length_append, List.length_cons, List.length_nil, List.length_set] at *; omega)) ?_; conv => whnf)))
  refine ⟨same_bl _, ?_⟩
  rintro _ _ ⟨rfl, rfl⟩
  (conv => whnf); (repeat (first | (refine And.intro rfl ?_; conv => whnf) | (refine And.intro trivial ?_; conv => whnf) | (refine And.intro ⟨rfl, trivial⟩ ?_; conv => whnf) | (refine And.intro ⟨rfl, rfl, trivial⟩ ?_; conv => whnf) | (refine ifb_t ?_; conv => whnf) | (refine ifb_f ?_; conv => whnf) | (refine ifb_nr ?_; conv => whnf) | (refine ifb_er ?_; conv => whnf) | (refine And.intro (by first | decide | omega | (unfold CMul; omega) | (unfold CDiv; omega) | (unfold CPow; decide) | (exact cpow1 (by omega) (by omega)) | (exact cpow1 (by dsimp only; omega) (by dsimp only; omega)) | (simp only [rngD_len, List.length_replicate, List.length_map, List.length_append, List.length_cons, List.length_nil, List.length_set] at *; omega)) ?_; conv => whnf)))
  refine ⟨⟨⟨_, rfl⟩, by decide⟩, ?_⟩
  rintro _ _ ⟨m2, v2, rfl, rfl, h2, h2'⟩
  (conv => whnf); (repeat (first | (refine And.intro rfl ?_; conv => whnf) | (refine And.intro trivial ?_; conv => whnf) | (refine And.intro ⟨rfl, trivial⟩ ?_; conv => whnf) | (refine And.intro ⟨rfl, rfl, trivial⟩ ?_; conv => whnf) | (refine ifb_t ?_; conv => whnf) | (refine ifb_f ?_; conv => whnf) | (refine ifb_nr ?_; conv => whnf) | (refine ifb_er ?_; conv => whnf) | (refine And.intro (by first | decide | omega | (unfold CMul; omega) | (unfold CDiv; omega) | (unfold CPow; decide) | (exact cpow1 (by omega) (by omega)) | (exact cpow1 (by dsimp only; omega) (by dsimp only; omega)) | (simp only [rngD_len, List.length_replicate, List.length_map, List.length_append, List.length_cons, List.length_nil, List.length_set] at *; omega)) ?_; conv => whnf)))
  refine loop_lc (fun ys acc e => ∃ (ks : List Int) (i : Int) (n : Nat), (ys = rngD i n ∧ acc.length + n = v2.toNat ∧ ∀ x ∈ acc, It x) ∧ e = [some (.rol (ns.map D.int)), some (.lst (ks.map D.int)), some (.str z), none, none, none]) ⟨m2, 0, v2.toNat, ⟨rfl, by simp, by simp⟩, rfl⟩ ?_ ?_
  · rintro x r acc env nxt ⟨ks, i, n, ⟨h4, h6, h7⟩, rfl⟩ hx
    cases n with
    | zero => simp [rngD] at h4
    | succ n =>
      simp only [rngD, List.cons.injEq] at h4
      obtain ⟨rfl, rfl⟩ := h4
      (conv => whnf); (repeat (first | (refine And.intro rfl ?_; conv => whnf) | (refine And.intro trivial ?_; conv => whnf) | (refine And.intro ⟨rfl, trivial⟩ ?_; conv => whnf) | (refine And.intro ⟨rfl, rfl, trivial⟩ ?_; conv => whnf) | (refine ifb_t ?_; conv => whnf) | (refine ifb_f ?_; conv => whnf) | (refine ifb_nr ?_; conv => whnf) | (refine ifb_er ?_; conv => whnf) | (refine And.intro (by first | decide | omega | (unfold CMul; omega) | (unfold CDiv; omega) | (unfold CPow; decide) | (exact cpow1 (by omega) (by omega)) | (exact cpow1 (by dsimp only; omega) (by dsimp only; omega)) | (simp only [rngD_len, List.length_replicate, List.length_map, List.length_append, List.length_cons, List.length_nil, List.length_set] at *; omega)) ?_; conv => whnf)))
      refine ⟨⟨_, _, rfl⟩, ?_⟩
      intro r ds' hp
      obtain ⟨m3, hi, rfl⟩ := hp _ _ rfl
      have add : isL r = false ∧ nxt (acc ++ [r]) [some (.rol (ns.map D.int)), some (.lst (m3.map D.int)), some (.str z), none, none, none] := by
        refine ⟨?_, hx _ _ ⟨m3, i + 1, n, ⟨rfl, by simp only [List.length_append, List.length_cons, List.length_nil]; omega, ?_⟩, rfl⟩⟩
        · rcases hi with ⟨i, rfl⟩ | ⟨z, rfl, _⟩ <;> rfl
        · intro y hy
          rcases List.mem_append.mp hy with hy | hy
          · exact h7 y hy
          · rw [List.mem_singleton.mp hy]; exact hi
      rcases hi with ⟨i, rfl⟩ | ⟨z, rfl, _⟩
      · (conv => whnf); (repeat (first | (refine And.intro rfl ?_; conv => whnf) | (refine And.intro trivial ?_; conv => whnf) | (refine And.intro ⟨rfl, trivial⟩ ?_; conv => whnf) | (refine And.intro ⟨rfl, rfl, trivial⟩ ?_; conv => whnf) | (refine ifb_t ?_; conv => whnf) | (refine ifb_f ?_; conv => whnf) | (refine ifb_nr ?_; conv => whnf) | (refine ifb_er ?_; conv => whnf) | (refine And.intro (by first | decide | omega | (unfold CMul; omega) | (unfold CDiv; omega) | (unfold CPow; decide) | (exact cpow1 (by omega) (by omega)) | (exact cpow1 (by dsimp only; omega) (by dsimp only; omega)) | (simp only [rngD_len, List.length_replicate, List.length_map, List.length_append, List.length_cons, List.length_nil, List.length_set] at *; omega)) ?_; conv => whnf)))
        exact add.2
      · (conv => whnf); (repeat (first | (refine And.intro rfl ?_; conv => whnf) | (refine And.intro trivial ?_; conv => whnf) | (refine And.intro ⟨rfl, trivial⟩ ?_; conv => whnf) | (refine And.intro ⟨rfl, rfl, trivial⟩ ?_; conv => whnf) | (refine ifb_t ?_; conv => whnf) | (refine ifb_f ?_; conv => whnf) | (refine ifb_nr ?_; conv => whnf) | (refine ifb_er ?_; conv => whnf) | (refine And.intro (by first | decide | omega | (unfold CMul; omega) | (unfold CDiv; omega) | (unfold CPow; decide) | (exact cpow1 (by omega) (by omega)) | (exact cpow1 (by dsimp only; omega) (by dsimp only; omega)) | (simp only [rngD_len, List.length_replicate, List.length_map, List.length_append, List.length_cons, List.length_nil, List.length_set] at *; omega)) ?_; conv => whnf)))
        exact add.2
  · rintro acc env ⟨ks, i, n, ⟨h4, h6, h7⟩, rfl⟩
    have hal : acc.length ≤ 10 := by omega
    have hvl : ∀ x ∈ acc, Vl x := fun x hx => (h7 x hx).vl
    have hall : acc.all isV = true := List.all_eq_true.mpr fun x hx => (h7 x hx).isV
    (conv => whnf); (repeat (first | (refine And.intro rfl ?_; conv => whnf) | (refine And.intro trivial ?_; conv => whnf) | (refine And.intro ⟨rfl, trivial⟩ ?_; conv => whnf) | (refine And.intro ⟨rfl, rfl, trivial⟩ ?_; conv => whnf) | (refine ifb_t ?_; conv => whnf) | (refine ifb_f ?_; conv => whnf) | (refine ifb_nr ?_; conv => whnf) | (refine ifb_er ?_; conv => whnf) | (refine And.intro (by first | decide | omega | (unfold CMul; omega) | (unfold CDiv; omega) | (unfold CPow; decide) | (exact cpow1 (by omega) (by omega)) | (exact cpow1 (by dsimp only; omega) (by dsimp only; omega)) | (simp only [rngD_len, List.length_replicate, List.length_map, List.length_append, List.length_cons, List.length_nil, List.length_set] at *; omega)) ?_; conv => whnf)))
    refine ifb_dec (fun g => ?_) (fun g => ?_)
    · (conv => whnf); (repeat (first | (refine And.intro rfl ?_; conv => whnf) | (refine And.intro trivial ?_; conv => whnf) | (refine And.intro ⟨rfl, trivial⟩ ?_; conv => whnf) | (refine And.intro ⟨rfl, rfl, trivial⟩ ?_; conv => whnf) | (refine ifb_t ?_; conv => whnf) | (refine ifb_f ?_; conv => whnf) | (refine ifb_nr ?_; conv => whnf) | (refine ifb_er ?_; conv => whnf) | (refine And.intro (by first | decide | omega | (unfold CMul; omega) | (unfold CDiv; omega) | (unfold CPow; decide) | (exact cpow1 (by omega) (by omega)) | (exact cpow1 (by dsimp only; omega) (by dsimp only; omega)) | (simp only [rngD_len, List.length_replicate, List.length_map, List.length_append, List.length_cons, List.length_nil, List.length_set] at *; omega)) ?_; conv => whnf)))
      refine ⟨⟨⟨_, rfl⟩, by decide⟩, ?_⟩
      rintro _ _ ⟨m3, v3, rfl, rfl, h3, h3'⟩
      (conv => whnf); (repeat (first | (refine And.intro rfl ?_; conv => whnf) | (refine And.intro trivial ?_; conv => whnf) | (refine And.intro ⟨rfl, trivial⟩ ?_; conv => whnf) | (refine And.intro ⟨rfl, rfl, trivial⟩ ?_; conv => whnf) | (refine ifb_t ?_; conv => whnf) | (refine ifb_f ?_; conv => whnf) | (refine ifb_nr ?_; conv => whnf) | (refine ifb_er ?_; conv => whnf) | (refine And.intro (by first | decide | omega | (unfold CMul; omega) | (unfold CDiv; omega) | (unfold CPow; decide) | (exact cpow1 (by omega) (by omega)) | (exact cpow1 (by dsimp only; omega) (by dsimp only; omega)) | (simp only [rngD_len, List.length_replicate, List.length_map, List.length_append, List.length_cons, List.length_nil, List.length_set] at *; omega)) ?_; conv => whnf)))
      refine ifb_dec (fun g2 => ?_) (fun g2 => ?_)
      · (conv => whnf); (repeat (first | (refine And.intro rfl ?_; conv => whnf) | (refine And.intro trivial ?_; conv => whnf) | (refine And.intro ⟨rfl, trivial⟩ ?_; conv => whnf) | (refine And.intro ⟨rfl, rfl, trivial⟩ ?_; conv => whnf) | (refine ifb_t ?_; conv => whnf) | (refine ifb_f ?_; conv => whnf) | (refine ifb_nr ?_; conv => whnf) | (refine ifb_er ?_; conv => whnf) | (refine And.intro (by first | decide | omega | (unfold CMul; omega) | (unfold CDiv; omega) | (unfold CPow; decide) | (exact cpow1 (by omega) (by omega)) | (exact cpow1 (by dsimp only; omega) (by dsimp only; omega)) | (simp only [rngD_len, List.length_replicate, List.length_map, List.length_append, List.length_cons, List.length_nil, List.length_set] at *; omega)) ?_; conv => whnf)))
        refine ⟨⟨_, rfl⟩, ?_⟩
        rintro _ _ ⟨m4, z2, rfl, rfl, hz2⟩
        (conv => whnf); (repeat (first | (refine And.intro rfl ?_; conv => whnf) | (refine And.intro trivial ?_; conv => whnf) | (refine And.intro ⟨rfl, trivial⟩ ?_; conv => whnf) | (refine And.intro ⟨rfl, rfl, trivial⟩ ?_; conv => whnf) | (refine ifb_t ?_; conv => whnf) | (refine ifb_f ?_; conv => whnf) | (refine ifb_nr ?_; conv => whnf) | (refine ifb_er ?_; conv => whnf) | (refine And.intro (by first | decide | omega | (unfold CMul; omega) | (unfold CDiv; omega) | (unfold CPow; decide) | (exact cpow1 (by omega) (by omega)) | (exact cpow1 (by dsimp only; omega) (by dsimp only; omega)) | (simp only [rngD_len, List.length_replicate, List.length_map, List.length_append, List.length_cons, List.length_nil, List.length_set] at *; omega)) ?_; conv => whnf)))
        refine ⟨⟨⟨_, rfl⟩, by omega⟩, ?_⟩
        rintro _ _ ⟨m5, v5, rfl, rfl, h5, h5'⟩
        (conv => whnf); (repeat (first | (refine And.intro rfl ?_; conv => whnf) | (refine And.intro trivial ?_; conv => whnf) | (refine And.intro ⟨rfl, trivial⟩ ?_; conv => whnf) | (refine And.intro ⟨rfl, rfl, trivial⟩ ?_; conv => whnf) | (refine ifb_t ?_; conv => whnf) | (refine ifb_f ?_; conv => whnf) | (refine ifb_nr ?_; conv => whnf) | (refine ifb_er ?_; conv => whnf) | (refine And.intro (by first | decide | omega | (unfold CMul; omega) | (unfold CDiv; omega) | (unfold CPow; decide) | (exact cpow1 (by omega) (by omega)) | (exact cpow1 (by dsimp only; omega) (by dsimp only; omega)) | (simp only [rngD_len, List.length_replicate, List.length_map, List.length_append, List.length_cons, List.length_nil, List.length_set] at *; omega)) ?_; conv => whnf)))
        rw [ix_nn h5 h5']
        (conv => whnf); (repeat (first | (refine And.intro rfl ?_; conv => whnf) | (refine And.intro trivial ?_; conv => whnf) | (refine And.intro ⟨rfl, trivial⟩ ?_; conv => whnf) | (refine And.intro ⟨rfl, rfl, trivial⟩ ?_; conv => whnf) | (refine ifb_t ?_; conv => whnf) | (refine ifb_f ?_; conv => whnf) | (refine ifb_nr ?_; conv => whnf) | (refine ifb_er ?_; conv => whnf) | (refine And.intro (by first | decide | omega | (unfold CMul; omega) | (unfold CDiv; omega) | (unfold CPow; decide) | (exact cpow1 (by omega) (by omega)) | (exact cpow1 (by dsimp only; omega) (by dsimp only; omega)) | (simp only [rngD_len, List.length_replicate, List.length_map, List.length_append, List.length_cons, List.length_nil, List.length_set] at *; omega)) ?_; conv => whnf)))
        have hvl2 : ∀ x ∈ acc.set v5.toNat (.str z2), Vl x := by
          intro x hx
          rcases List.mem_or_eq_of_mem_set hx with hx | rfl
          · exact hvl x hx
          · exact .inr ⟨z2, rfl, hz2⟩
        have hall2 : (acc.set v5.toNat (.str z2)).all isV = isW z2 := all_set hall (by omega)
        have hl2 : (acc.set v5.toNat (.str z2)).length = acc.length := List.length_set
        refine ifb_dec (fun g3 => ?_) (fun g3 => ?_)
        · (conv => whnf); (repeat (first | (refine And.intro rfl ?_; conv => whnf) | (refine And.intro trivial ?_; conv => whnf) | (refine And.intro ⟨rfl, trivial⟩ ?_; conv => whnf) | (refine And.intro ⟨rfl, rfl, trivial⟩ ?_; conv => whnf) | (refine ifb_t ?_; conv => whnf) | (refine ifb_f ?_; conv => whnf) | (refine ifb_nr ?_; conv => whnf) | (refine ifb_er ?_; conv => whnf) | (refine And.intro (by first | decide | omega | (unfold CMul; omega) | (unfold CDiv; omega) | (unfold CPow; decide) | (exact cpow1 (by omega) (by omega)) | (exact cpow1 (by dsimp only; omega) (by dsimp only; omega)) | (simp only [rngD_len, List.length_replicate, List.length_map, List.length_append, List.length_cons, List.length_nil, List.length_set] at *; omega)) ?_; conv => whnf)))
          refine ⟨⟨z2, rfl, by omega⟩, ?_⟩
          rintro _ _ ⟨rfl, h⟩
          cases h _ rfl
          (conv => whnf); (repeat (first | (refine And.intro rfl ?_; conv => whnf) | (refine And.intro trivial ?_; conv => whnf) | (refine And.intro ⟨rfl, trivial⟩ ?_; conv => whnf) | (refine And.intro ⟨rfl, rfl, trivial⟩ ?_; conv => whnf) | (refine ifb_t ?_; conv => whnf) | (refine ifb_f ?_; conv => whnf) | (refine ifb_nr ?_; conv => whnf) | (refine ifb_er ?_; conv => whnf) | (refine And.intro (by first | decide | omega | (unfold CMul; omega) | (unfold CDiv; omega) | (unfold CPow; decide) | (exact cpow1 (by omega) (by omega)) | (exact cpow1 (by dsimp only; omega) (by dsimp only; omega)) | (simp only [rngD_len, List.length_replicate, List.length_map, List.length_append, List.length_cons, List.length_nil, List.length_set] at *; omega)) ?_; conv => whnf)))
          exact stopE (e := [some (.rol (ns.map D.int)), some (.lst (m5.map D.int)), some (.str z2), some (.lst (acc.set v5.toNat (.str z2))), some (.bl (isW z2)), none]) rfl (end34 (by omega) hvl2 (by rw [hall2, hl2, decide_eq_true g3, Bool.true_and]))
        · (conv => whnf); (repeat (first | (refine And.intro rfl ?_; conv => whnf) | (refine And.intro trivial ?_; conv => whnf) | (refine And.intro ⟨rfl, trivial⟩ ?_; conv => whnf) | (refine And.intro ⟨rfl, rfl, trivial⟩ ?_; conv => whnf) | (refine ifb_t ?_; conv => whnf) | (refine ifb_f ?_; conv => whnf) | (refine ifb_nr ?_; conv => whnf) | (refine ifb_er ?_; conv => whnf) | (refine And.intro (by first | decide | omega | (unfold CMul; omega) | (unfold CDiv; omega) | (unfold CPow; decide) | (exact cpow1 (by omega) (by omega)) | (exact cpow1 (by dsimp only; omega) (by dsimp only; omega)) | (simp only [rngD_len, List.length_replicate, List.length_map, List.length_append, List.length_cons, List.length_nil, List.length_set] at *; omega)) ?_; conv => whnf)))
          exact stopE (e := [some (.rol (ns.map D.int)), some (.lst (m5.map D.int)), some (.str z2), some (.lst (acc.set v5.toNat (.str z2))), some (.bl false), none]) rfl (end34 (by omega) hvl2 (by rw [hall2, hl2, decide_eq_false g3, Bool.false_and]))
      · (conv => whnf); (repeat (first | (refine And.intro rfl ?_; conv => whnf) | (refine And.intro trivial ?_; conv => whnf) | (refine And.intro ⟨rfl, trivial⟩ ?_; conv => whnf) | (refine And.intro ⟨rfl, rfl, trivial⟩ ?_; conv => whnf) | (refine ifb_t ?_; conv => whnf) | (refine ifb_f ?_; conv => whnf) | (refine ifb_nr ?_; conv => whnf) | (refine ifb_er ?_; conv => whnf) | (refine And.intro (by first | decide | omega | (unfold CMul; omega) | (unfold CDiv; omega) | (unfold CPow; decide) | (exact cpow1 (by omega) (by omega)) | (exact cpow1 (by dsimp only; omega) (by dsimp only; omega)) | (simp only [rngD_len, List.length_replicate, List.length_map, List.length_append, List.length_cons, List.length_nil, List.length_set] at *; omega)) ?_; conv => whnf)))
        exact stopE (e := [some (.rol (ns.map D.int)), some (.lst (m3.map D.int)), some (.str z), some (.lst acc), some (.bl (decide ((acc.length : Int) ≤ 8))), none]) rfl (end34 (by omega) hvl (by rw [hall, Bool.and_true]))
    · (conv => whnf); (repeat (first | (refine And.intro rfl ?_; conv => whnf) | (refine And.intro trivial ?_; conv => whnf) | (refine And.intro ⟨rfl, trivial⟩ ?_; conv => whnf) | (refine And.intro ⟨rfl, rfl, trivial⟩ ?_; conv => whnf) | (refine ifb_t ?_; conv => whnf) | (refine ifb_f ?_; conv => whnf) | (refine ifb_nr ?_; conv => whnf) | (refine ifb_er ?_; conv => whnf) | (refine And.intro (by first | decide | omega | (unfold CMul; omega) | (unfold CDiv; omega) | (unfold CPow; decide) | (exact cpow1 (by omega) (by omega)) | (exact cpow1 (by dsimp only; omega) (by dsimp only; omega)) | (simp only [rngD_len, List.length_replicate, List.length_map, List.length_append, List.length_cons, List.length_nil, List.length_set] at *; omega)) ?_; conv => whnf)))
      exact stopE (e := [some (.rol (ns.map D.int)), some (.lst (ks.map D.int)), some (.str z), some (.lst acc), some (.bl (decide ((acc.length : Int) ≤ 8))), none]) rfl (end34 (by omega) hvl (by rw [hall, Bool.and_true]))
end DL

namespace Lw
open PySem PySem.Spec PyProof.Rows L2 DL
def topS (i : Nat) : Stmt := PySem.Challenge.pw_ateverymoment_k34_words_and_rows.main.body.getD i (.Pass ⟨0, 0, 0, 0⟩)
structure Blt (mg : Str → Option Value) : Prop where
  len_ : mg "len" = none
  range_ : mg "range" = none
  int_ : mg "int" = none
  abs_ : mg "abs" = none
  list_ : mg "list" = none
  tuple_ : mg "tuple" = none
  sum_ : mg "sum" = none
  any_ : mg "any" = none
  sorted_ : mg "sorted" = none
  max_ : mg "max" = none
  min_ : mg "min" = none
  divmod_ : mg "divmod" = none
  isinstance_ : mg "isinstance" = none
  zip_ : mg "zip" = none
  reversed_ : mg "reversed" = none
  bool_ : mg "bool" = none
  str_ : mg "str" = none
  set_ : mg "set" = none
  all_ : mg "all" = none
section
variable {P : Program} {w : World} {K : PySem.W.Frag} {mg : Str → Option Value} {base : Heap}
abbrev s_is_word : Stmt := topS 2
abbrev N_is_word : List Str := ["text", "sign"]
theorem sc_is_word : FnScope ["text", "sign"] ["text"] (defScope s_is_word) := ⟨rfl, rfl, rfl, by decide +kernel, rfl, by decide +kernel, by decide +kernel⟩
set_option maxHeartbeats 0 in
theorem ok_is_word {f : Addr} {fd : FuncData} (B : Blt mg) (F : Fun K "is_word" "is_word" s_is_word f fd) : FnOk P w K mg base CX0 1 f fd ["text"] (spOf K 1 sp_is_word) := by
  have nd := (sc_is_word).nd
  exact fn_ok w_is_word F sc_is_word (fun cdv A outer s H E hr =>
    (s_one (s_ret (e_and' (e_neS (e_var 0) e_str) (e_one (e_all rfl B.all_ (e_lc rfl nd (i_str (e_var 0)) (blkOk_by (N := N_is_word) (sc := defScope s_is_word) (own := [("sign", 1)]) (by decide +kernel)) (fun _ _ _ _ _ => (g_name 1 nd)) (fun _ _ _ _ _ => ts_nil) (fun _ _ _ _ _ => (e_chain op_le_str op_le_str opd_leS opd_leS e_str (e_var 1) e_str))))))))) pure_is_word
abbrev s_is_value : Stmt := topS 3
abbrev N_is_value : List Str := ["value"]
theorem sc_is_value : FnScope ["value"] ["value"] (defScope s_is_value) := ⟨rfl, rfl, rfl, by decide +kernel, rfl, by decide +kernel, by decide +kernel⟩
set_option maxHeartbeats 0 in
theorem ok_is_value {f : Addr} {fd : FuncData} (B : Blt mg) (F : Fun K "is_value" "is_value" s_is_value f fd) (F_is_word : FnD P w K mg base 1 "is_word" ["text"] sp_is_word) : FnOk P w K mg base CX0 2 f fd ["value"] (spOf K 1 sp_is_value) := by
  have nd := (sc_is_value).nd
  exact fn_ok w_is_value F sc_is_value (fun cdv A outer s H E hr =>
    (s_one (s_ret (e_or' (e_not (e_isi .str B.isinstance_ B.str_ (by decide +kernel) (e_var 0))) (e_one (e_call F_is_word (hr.mono (j := 1) (by decide)) (a_cons (e_var 0) a_nil))))))) pure_is_value
abbrev s_is_row : Stmt := topS 4
abbrev N_is_row : List Str := ["row", "value"]
theorem sc_is_row : FnScope ["row", "value"] ["row"] (defScope s_is_row) := ⟨rfl, rfl, rfl, by decide +kernel, rfl, by decide +kernel, by decide +kernel⟩
set_option maxHeartbeats 0 in
theorem ok_is_row {f : Addr} {fd : FuncData} (B : Blt mg) (F : Fun K "is_row" "is_row" s_is_row f fd) (F_is_value : FnD P w K mg base 2 "is_value" ["value"] sp_is_value) {t_MOST_VALUES : Tok} (g_MOST_VALUES : mg "MOST_VALUES" = some (.int 8 t_MOST_VALUES)) : FnOk P w K mg base CX0 3 f fd ["row"] (spOf K 1 sp_is_row) := by
  have nd := (sc_is_row).nd
  exact fn_ok w_is_row F sc_is_row (fun cdv A outer s H E hr =>
    (s_one (s_ret (e_and' (e_le (e_len B.len_ (e_var 0)) (e_gint g_MOST_VALUES)) (e_one (e_all rfl B.all_ (e_lc rfl nd (i_seq (e_var 0)) (blkOk_by (N := N_is_row) (sc := defScope s_is_row) (own := [("value", 1)]) (by decide +kernel)) (fun _ _ _ _ _ => (g_name 1 nd)) (fun _ _ _ _ _ => ts_nil) (fun _ _ _ _ _ => (e_call F_is_value (hr.mono (j := 2) (by decide)) (a_cons (e_var 1) a_nil)))))))))) pure_is_row
abbrev s_law_draws : Stmt := topS 6
abbrev N_law_draws : List Str := ["script", "many", "cells", "rest", "draws", "k", "at", "mixed", "cell"]
theorem sc_law_draws : FnScope ["script", "many", "cells", "rest", "draws", "k", "at", "mixed", "cell"] ["script", "many"] (defScope s_law_draws) := ⟨rfl, rfl, rfl, by decide +kernel, rfl, by decide +kernel, by decide +kernel⟩
set_option maxHeartbeats 0 in
theorem ok_law_draws {f : Addr} {fd : FuncData} (B : Blt mg) (F : Fun K "_law_draws" "_law_draws" s_law_draws f fd) : FnOk P w K mg base CX0 1 f fd ["script", "many"] (spOf K 2 sp_law_draws) := by
  have nd := (sc_law_draws).nd
  exact fn_ok w_law_draws F sc_law_draws (fun cdv A outer s H E hr =>
    (s_cons (s_setLc 2 rfl nd (i_seq (e_var 0)) (blkOk_by (N := N_law_draws) (sc := defScope s_law_draws) (own := [("cell", 8)]) (by decide +kernel)) (fun _ _ _ _ _ => (g_name 8 nd)) (fun _ _ _ _ _ => ts_nil) (fun _ _ _ _ _ => (e_int1 B.int_ (e_var 8))))
    (s_cons (s_if (t_eqS (e_len B.len_ (e_var 2)) e_int)
      (s_one (s_expr (e_append (i := 2) e_int)))
      s_nil)
    (s_cons (s_asg 3 nd (e_list B.list_ (e_var 2)))
    (s_cons (s_asg 4 nd (e_lst a_nil))
    (s_cons (s_for [0, 1] [5] .never rfl (i_rng1 B.range_ (e_var 1)) (g_name 5 nd)
      (s_cons (s_asg 6 nd (e_mod (e_var 5) (e_len B.len_ (e_var 2))))
        (s_one (s_if (t_ge (e_ixs (e_var 2) (e_var 6)) (e_pow e_int e_int))
          (s_cons (s_expr (e_append (i := 4) (e_mod (e_int1 B.int_ (e_ixs (e_var 3) (e_var 6))) e_int)))
            (s_one (s_set 3 (e_fdiv (e_ixs (e_var 3) (e_var 6)) e_int) (e_var 6))))
          (s_cons (s_asg 7 nd (e_mod (e_int1 B.int_ (e_addG (e_addG (e_mul (e_ixs (e_var 2) (e_var 6)) e_int) (e_mul (e_var 5) e_int)) e_int)) e_int))
            (s_one (s_expr (e_append (i := 4) (e_mod (e_int1 B.int_ (e_addG (e_addG (e_mul (e_var 7) (e_var 7)) (e_mul e_int (e_var 7))) (e_var 5))) e_int)))))))))
    (s_cons (s_expr (e_reverse (i := 4)))
    (s_one (s_ret (e_var 4)))))))))) pure_law_draws
abbrev s_law_take : Stmt := topS 7
abbrev N_law_take : List Str := ["draws", "many"]
theorem sc_law_take : FnScope ["draws", "many"] ["draws", "many"] (defScope s_law_take) := ⟨rfl, rfl, rfl, by decide +kernel, rfl, by decide +kernel, by decide +kernel⟩
set_option maxHeartbeats 0 in
theorem ok_law_take {f : Addr} {fd : FuncData} (B : Blt mg) (F : Fun K "_law_take" "_law_take" s_law_take f fd) : FnOk P w K mg base CX0 1 f fd ["draws", "many"] (spOf K 2 sp_law_take) := by
  have nd := (sc_law_take).nd
  exact fn_ok w_law_take F sc_law_take (fun cdv A outer s H E hr =>
    (s_cons (s_if (t_eqS (e_len B.len_ (e_var 0)) e_int)
      (s_one (s_ret e_int))
      s_nil)
    (s_one (s_ret (e_mod (e_int1 B.int_ (e_pop (i := 0))) (e_var 1)))))) pure_law_take
abbrev s_law_size : Stmt := topS 8
abbrev N_law_size : List Str := ["draws", "script", "kind", "number", "k"]
theorem sc_law_size : FnScope ["draws", "script", "kind", "number", "k"] ["draws", "script"] (defScope s_law_size) := ⟨rfl, rfl, rfl, by decide +kernel, rfl, by decide +kernel, by decide +kernel⟩
set_option maxHeartbeats 0 in
theorem ok_law_size {f : Addr} {fd : FuncData} (B : Blt mg) (F : Fun K "_law_size" "_law_size" s_law_size f fd) (F_law_take : FnD P w K mg base 1 "_law_take" ["draws", "many"] sp_law_take) : FnOk P w K mg base CX0 2 f fd ["draws", "script"] (spOf K 2 sp_law_size) := by
  have nd := (sc_law_size).nd
  exact fn_ok w_law_size F sc_law_size (fun cdv A outer s H E hr =>
    (s_cons (s_asg 2 nd (e_call F_law_take (hr.mono (j := 1) (by decide)) (a_cons (e_var 0) (a_cons e_int a_nil))))
    (s_cons (s_if (t_lt (e_var 2) e_int)
      (s_one (s_ret (e_call F_law_take (hr.mono (j := 1) (by decide)) (a_cons (e_var 0) (a_cons e_int a_nil)))))
      s_nil)
    (s_cons (s_if (t_eqS (e_var 2) e_int)
      (s_one (s_ret (e_call F_law_take (hr.mono (j := 1) (by decide)) (a_cons (e_var 0) (a_cons e_int a_nil)))))
      s_nil)
    (s_cons (s_if (t_bop (w_or (t_eqS (e_var 2) e_int) (w_or1 (t_eqS (e_len B.len_ (e_var 1)) e_int))))
      (s_cons (s_asg 3 nd e_int)
        (s_cons (s_for [0, 1] [4] .never rfl (i_rng1 B.range_ e_int) (g_name 4 nd)
          (s_one (s_asg 3 nd (e_addG (e_mul (e_var 3) e_int) (e_call F_law_take (hr.mono (j := 1) (by decide)) (a_cons (e_var 0) (a_cons e_int a_nil)))))))
        (s_one (s_ret (e_var 3)))))
      s_nil)
    (s_one (s_ret (e_abs B.abs_ (e_int1 B.int_ (e_ixs (e_var 1) (e_call F_law_take (hr.mono (j := 1) (by decide)) (a_cons (e_var 0) (a_cons (e_len B.len_ (e_var 1)) a_nil))))))))))))) pure_law_size
abbrev s_law_same : Stmt := topS 9
abbrev N_law_same : List Str := ["actual", "due", "k"]
theorem sc_law_same : FnScope ["actual", "due", "k"] ["actual", "due"] (defScope s_law_same) := ⟨rfl, rfl, rfl, by decide +kernel, rfl, by decide +kernel, by decide +kernel⟩
set_option maxHeartbeats 0 in
theorem okn_law_same {f : Addr} {fd : FuncData} (B : Blt mg) (F : Fun K "_law_same" "_law_same" s_law_same f fd) (g : mg "_law_same" = some (.ref f)) : ∀ n : Nat, FnOk P w K mg base CX0 (0 + n) f fd ["actual", "due"] (spOf K 2 (spn_law_same n))
  | 0 => fn_false fun _ h => h
  | n + 1 => by
    have nd := (sc_law_same).nd
    have F_law_same : FnD P w K mg base (0 + n) "_law_same" ["actual", "due"] (spn_law_same n) := ⟨f, fd, okn_law_same B F g n, g, F.kp, F.binds fun _ _ _ _ _ _ us hl => match us, hl with | [_, _], _ => rfl⟩
    exact fn_ok (w_law_same n) F sc_law_same (fun cdv A outer s H E hr =>
    (s_cons (s_if (t_val (e_isi2 .tuple .list B.isinstance_ B.tuple_ B.list_ (by decide +kernel) (by decide +kernel) (e_var 1)))
      (s_cons (s_if (t_bop (w_or (t_neS (e_isi .tuple B.isinstance_ B.tuple_ (by decide +kernel) (e_var 0)) (e_isi .tuple B.isinstance_ B.tuple_ (by decide +kernel) (e_var 1))) (w_or1 (t_neS (e_isi .list B.isinstance_ B.list_ (by decide +kernel) (e_var 0)) (e_isi .list B.isinstance_ B.list_ (by decide +kernel) (e_var 1))))))
          (s_one (s_ret e_bl))
          s_nil)
        (s_cons (s_if (t_neS (e_len B.len_ (e_var 0)) (e_len B.len_ (e_var 1)))
          (s_one (s_ret e_bl))
          s_nil)
        (s_one (s_ret (e_notIn e_bl (e_lc rfl nd (i_rng1 B.range_ (e_len B.len_ (e_var 1))) (blkOk_by (N := N_law_same) (sc := defScope s_law_same) (own := [("k", 2)]) (by decide +kernel)) (fun _ _ _ _ _ => (g_name 2 nd)) (fun _ _ _ _ _ => ts_nil) (fun _ _ _ _ _ => (e_call F_law_same (hr.mono (j := 0 + n) (Nat.le_refl _)) (a_cons (e_ixs (e_var 0) (e_var 2)) (a_cons (e_ixs (e_var 1) (e_var 2)) a_nil))))))))))
      s_nil)
    (s_cons (s_if (t_bop (w_or (t_neS (e_isi .bool B.isinstance_ B.bool_ (by decide +kernel) (e_var 0)) (e_isi .bool B.isinstance_ B.bool_ (by decide +kernel) (e_var 1))) (w_or1 (t_neS (e_isi .int B.isinstance_ B.int_ (by decide +kernel) (e_var 0)) (e_isi .int B.isinstance_ B.int_ (by decide +kernel) (e_var 1))))))
      (s_one (s_ret e_bl))
      s_nil)
    (s_cons (s_if (t_bop (w_or (t_neS (e_isi .str B.isinstance_ B.str_ (by decide +kernel) (e_var 0)) (e_isi .str B.isinstance_ B.str_ (by decide +kernel) (e_var 1))) (w_or1 (t_neS (e_isN (e_var 0)) (e_isN (e_var 1))))))
      (s_one (s_ret e_bl))
      s_nil)
    (s_one (s_ret (e_eqS (e_var 0) (e_var 1)))))))) (pure_law_same n)
theorem ok_law_same {f : Addr} {fd : FuncData} (B : Blt mg) (F : Fun K "_law_same" "_law_same" s_law_same f fd) (g : mg "_law_same" = some (.ref f)) : FnOk P w K mg base CX0 8 f fd ["actual", "due"] (spOf K 2 sp_law_same) :=
  okn_law_same B F g 8
abbrev s_law_is_word : Stmt := topS 10
abbrev N_law_is_word : List Str := ["text", "char"]
theorem sc_law_is_word : FnScope ["text", "char"] ["text"] (defScope s_law_is_word) := ⟨rfl, rfl, rfl, by decide +kernel, rfl, by decide +kernel, by decide +kernel⟩
set_option maxHeartbeats 0 in
theorem ok_law_is_word {f : Addr} {fd : FuncData} (B : Blt mg) (F : Fun K "_law_is_word" "_law_is_word" s_law_is_word f fd) : FnOk P w K mg base CX0 1 f fd ["text"] (spOf K 1 sp_law_is_word) := by
  have nd := (sc_law_is_word).nd
  exact fn_ok w_law_is_word F sc_law_is_word (fun cdv A outer s H E hr =>
    (s_cons (s_for [0] [1] .never rfl (i_str (e_var 0)) (g_name 1 nd)
      (s_one (s_if (t_notInS (e_var 1) e_str)
          (s_one (s_ret e_bl))
          s_nil)))
    (s_one (s_ret (e_gt (e_lenS B.len_ (e_var 0)) e_int))))) pure_law_is_word
abbrev s_law_char : Stmt := topS 11
abbrev N_law_char : List Str := ["draws", "chars"]
theorem sc_law_char : FnScope ["draws", "chars"] ["draws"] (defScope s_law_char) := ⟨rfl, rfl, rfl, by decide +kernel, rfl, by decide +kernel, by decide +kernel⟩
set_option maxHeartbeats 0 in
theorem ok_law_char {f : Addr} {fd : FuncData} (B : Blt mg) (F : Fun K "_law_char" "_law_char" s_law_char f fd) (F_law_take : FnD P w K mg base 1 "_law_take" ["draws", "many"] sp_law_take) : FnOk P w K mg base CX0 2 f fd ["draws"] (spOf K 1 sp_law_char) := by
  have nd := (sc_law_char).nd
  exact fn_ok w_law_char F sc_law_char (fun cdv A outer s H E hr =>
    (s_cons (s_asg 1 nd e_str)
    (s_cons (s_asg 1 nd (e_addS (e_var 1) e_str))
    (s_one (s_ret (e_ixStr (e_var 1) (e_call F_law_take (hr.mono (j := 1) (by decide)) (a_cons (e_var 0) (a_cons (e_lenS B.len_ (e_var 1)) a_nil))))))))) pure_law_char
abbrev s_law_letters : Stmt := topS 12
abbrev N_law_letters : List Str := ["draws", "many", "turn", "step", "k"]
theorem sc_law_letters : FnScope ["draws", "many", "turn", "step", "k"] ["draws"] (defScope s_law_letters) := ⟨rfl, rfl, rfl, by decide +kernel, rfl, by decide +kernel, by decide +kernel⟩
set_option maxHeartbeats 0 in
theorem ok_law_letters {f : Addr} {fd : FuncData} (B : Blt mg) (F : Fun K "_law_letters" "_law_letters" s_law_letters f fd) (F_law_take : FnD P w K mg base 1 "_law_take" ["draws", "many"] sp_law_take) : FnOk P w K mg base CX0 2 f fd ["draws"] (spOf K 1 sp_law_letters) := by
  have nd := (sc_law_letters).nd
  exact fn_ok w_law_letters F sc_law_letters (fun cdv A outer s H E hr =>
    (s_cons (s_asg 1 nd (e_addG e_int (e_call F_law_take (hr.mono (j := 1) (by decide)) (a_cons (e_var 0) (a_cons e_int a_nil)))))
    (s_cons (s_if (t_eqS (e_call F_law_take (hr.mono (j := 1) (by decide)) (a_cons (e_var 0) (a_cons e_int a_nil))) e_int)
      (s_one (s_asg 1 nd (e_addG e_int (e_call F_law_take (hr.mono (j := 1) (by decide)) (a_cons (e_var 0) (a_cons e_int a_nil))))))
      s_nil)
    (s_cons (s_asg 2 nd (e_call F_law_take (hr.mono (j := 1) (by decide)) (a_cons (e_var 0) (a_cons e_int a_nil))))
    (s_cons (s_asg 3 nd (e_call F_law_take (hr.mono (j := 1) (by decide)) (a_cons (e_var 0) (a_cons e_int a_nil))))
    (s_one (s_ret (e_join (e_lc rfl nd (i_rng1 B.range_ (e_var 1)) (blkOk_by (N := N_law_letters) (sc := defScope s_law_letters) (own := [("k", 4)]) (by decide +kernel)) (fun _ _ _ _ _ => (g_name 4 nd)) (fun _ _ _ _ _ => ts_nil) (fun _ _ _ _ _ => (e_ixStr e_str (e_mod (e_int1 B.int_ (e_addG (e_var 2) (e_mul (e_var 4) (e_var 3)))) e_int)))))))))))) pure_law_letters
abbrev s_law_text : Stmt := topS 13
abbrev N_law_text : List Str := ["draws", "kind", "word", "at", "k"]
theorem sc_law_text : FnScope ["draws", "kind", "word", "at", "k"] ["draws"] (defScope s_law_text) := ⟨rfl, rfl, rfl, by decide +kernel, rfl, by decide +kernel, by decide +kernel⟩
set_option maxHeartbeats 0 in
theorem ok_law_text {f : Addr} {fd : FuncData} (B : Blt mg) (F : Fun K "_law_text" "_law_text" s_law_text f fd) (F_law_take : FnD P w K mg base 1 "_law_take" ["draws", "many"] sp_law_take) (F_law_char : FnD P w K mg base 2 "_law_char" ["draws"] sp_law_char) (F_law_letters : FnD P w K mg base 2 "_law_letters" ["draws"] sp_law_letters) : FnOk P w K mg base CX0 3 f fd ["draws"] (spOf K 1 sp_law_text) := by
  have nd := (sc_law_text).nd
  exact fn_ok w_law_text F sc_law_text (fun cdv A outer s H E hr =>
    (s_cons (s_asg 1 nd (e_call F_law_take (hr.mono (j := 1) (by decide)) (a_cons (e_var 0) (a_cons e_int a_nil))))
    (s_cons (s_if (t_eqS (e_var 1) e_int)
      (s_one (s_ret e_str))
      s_nil)
    (s_cons (s_if (t_eqS (e_var 1) e_int)
      (s_one (s_ret (e_join (e_lc rfl nd (i_rng1 B.range_ (e_call F_law_take (hr.mono (j := 1) (by decide)) (a_cons (e_var 0) (a_cons e_int a_nil)))) (blkOk_by (N := N_law_text) (sc := defScope s_law_text) (own := [("k", 4)]) (by decide +kernel)) (fun _ _ _ _ _ => (g_name 4 nd)) (fun _ _ _ _ _ => ts_nil) (fun _ _ _ _ _ => (e_call F_law_char (hr.mono (j := 2) (by decide)) (a_cons (e_var 0) a_nil)))))))
      s_nil)
    (s_cons (s_asg 2 nd (e_call F_law_letters (hr.mono (j := 2) (by decide)) (a_cons (e_var 0) a_nil)))
    (s_cons (s_if (t_lt (e_var 1) e_int)
      (s_cons (s_asg 3 nd (e_call F_law_take (hr.mono (j := 1) (by decide)) (a_cons (e_var 0) (a_cons (e_lenS B.len_ (e_var 2)) a_nil))))
        (s_one (s_asg 2 nd (e_addS (e_addS (e_slHS (e_var 2) (e_var 3)) (e_call F_law_char (hr.mono (j := 2) (by decide)) (a_cons (e_var 0) a_nil))) (e_slLS (e_var 2) (e_addG (e_var 3) e_int))))))
      s_nil)
    (s_one (s_ret (e_var 2))))))))) pure_law_text
abbrev s_law_item : Stmt := topS 14
abbrev N_law_item : List Str := ["draws", "script"]
theorem sc_law_item : FnScope ["draws", "script"] ["draws", "script"] (defScope s_law_item) := ⟨rfl, rfl, rfl, by decide +kernel, rfl, by decide +kernel, by decide +kernel⟩
set_option maxHeartbeats 0 in
theorem ok_law_item {f : Addr} {fd : FuncData} (B : Blt mg) (F : Fun K "_law_item" "_law_item" s_law_item f fd) (F_law_take : FnD P w K mg base 1 "_law_take" ["draws", "many"] sp_law_take) (F_law_size : FnD P w K mg base 2 "_law_size" ["draws", "script"] sp_law_size) (F_law_letters : FnD P w K mg base 2 "_law_letters" ["draws"] sp_law_letters) : FnOk P w K mg base CX0 3 f fd ["draws", "script"] (spOf K 2 sp_law_item) := by
  have nd := (sc_law_item).nd
  exact fn_ok w_law_item F sc_law_item (fun cdv A outer s H E hr =>
    (s_cons (s_if (t_eqS (e_call F_law_take (hr.mono (j := 1) (by decide)) (a_cons (e_var 0) (a_cons e_int a_nil))) e_int)
      (s_one (s_ret (e_mul (e_call F_law_size (hr.mono (j := 2) (by decide)) (a_cons (e_var 0) (a_cons (e_var 1) a_nil))) (e_sub e_int (e_mul e_int (e_call F_law_take (hr.mono (j := 1) (by decide)) (a_cons (e_var 0) (a_cons e_int a_nil))))))))
      s_nil)
    (s_one (s_ret (e_call F_law_letters (hr.mono (j := 2) (by decide)) (a_cons (e_var 0) a_nil)))))) pure_law_item
abbrev s_law : Stmt := topS 15
abbrev N_law : List Str := ["script", "draws", "text", "row", "due", "k"]
theorem sc_law : FnScope ["script", "draws", "text", "row", "due", "k"] ["script"] (defScope s_law) := ⟨rfl, rfl, rfl, by decide +kernel, rfl, by decide +kernel, by decide +kernel⟩
set_option maxHeartbeats 0 in
theorem ok_law {f : Addr} {fd : FuncData} (B : Blt mg) (F : Fun K "law" "law" s_law f fd) (F_law_draws : FnD P w K mg base 1 "_law_draws" ["script", "many"] sp_law_draws) (F_law_text : FnD P w K mg base 3 "_law_text" ["draws"] sp_law_text) (F_law_same : FnD P w K mg base 8 "_law_same" ["actual", "due"] sp_law_same) (F_is_word : FnD P w K mg base 1 "is_word" ["text"] sp_is_word) (F_law_is_word : FnD P w K mg base 1 "_law_is_word" ["text"] sp_law_is_word) (F_law_take : FnD P w K mg base 1 "_law_take" ["draws", "many"] sp_law_take) (F_law_item : FnD P w K mg base 3 "_law_item" ["draws", "script"] sp_law_item) (F_is_row : FnD P w K mg base 3 "is_row" ["row"] sp_is_row) : FnOk P w K mg base CX0 9 f fd ["script"] (spOf K 1 sp_law) := by
  have nd := (sc_law).nd
  exact fn_ok w_law F sc_law (fun cdv A outer s H E hr =>
    (s_cons (s_asg 1 nd (e_call F_law_draws (hr.mono (j := 1) (by decide)) (a_cons (e_var 0) (a_cons e_int a_nil))))
    (s_cons (s_asg 2 nd (e_call F_law_text (hr.mono (j := 3) (by decide)) (a_cons (e_var 1) a_nil)))
    (s_cons (s_if (t_not (t_val (e_call F_law_same (hr.mono (j := 8) (by decide)) (a_cons (e_call F_is_word (hr.mono (j := 1) (by decide)) (a_cons (e_var 2) a_nil)) (a_cons (e_call F_law_is_word (hr.mono (j := 1) (by decide)) (a_cons (e_var 2) a_nil)) a_nil)))))
      (s_one (s_ret e_bl))
      s_nil)
    (s_cons (s_setLc 3 rfl nd (i_rng1 B.range_ (e_call F_law_take (hr.mono (j := 1) (by decide)) (a_cons (e_var 1) (a_cons e_int a_nil)))) (blkOk_by (N := N_law) (sc := defScope s_law) (own := [("k", 5)]) (by decide +kernel)) (fun _ _ _ _ _ => (g_name 5 nd)) (fun _ _ _ _ _ => ts_nil) (fun _ _ _ _ _ => (e_call F_law_item (hr.mono (j := 3) (by decide)) (a_cons (e_var 1) (a_cons (e_var 0) a_nil)))))
    (s_cons (s_asg 4 nd (e_le (e_len B.len_ (e_var 3)) e_int))
    (s_cons (s_if (t_bop (w_and (t_gt (e_len B.len_ (e_var 3)) e_int) (w_and1 (t_eqS (e_call F_law_take (hr.mono (j := 1) (by decide)) (a_cons (e_var 1) (a_cons e_int a_nil))) e_int))))
      (s_cons (s_asg 2 nd (e_call F_law_text (hr.mono (j := 3) (by decide)) (a_cons (e_var 1) a_nil)))
        (s_cons (s_set 3 (e_var 2) (e_call F_law_take (hr.mono (j := 1) (by decide)) (a_cons (e_var 1) (a_cons (e_len B.len_ (e_var 3)) a_nil))))
        (s_one (s_asg 4 nd (e_and' (e_var 4) (e_one (e_call F_law_is_word (hr.mono (j := 1) (by decide)) (a_cons (e_var 2) a_nil))))))))
      s_nil)
    (s_one (s_ret (e_call F_law_same (hr.mono (j := 8) (by decide)) (a_cons (e_call F_is_row (hr.mono (j := 3) (by decide)) (a_cons (e_tuple B.tuple_ (e_var 3)) a_nil)) (a_cons (e_var 4) a_nil)))))))))))) pure_law
end
set_option maxHeartbeats 0 in
theorem all_mk {l : PySem.W.OpenLaw} {w : World} {K : PySem.W.Frag} {h : Heap} {mg : Str → Option Value} {fa f0 f1 f2 f3 f4 f5 f6 f7 f8 f9 f10 f11 f12 : Addr} (X : K.In h) (G : h.Ns mainGlobals mg) (hfa : mg "law" = some (.ref fa))
    {od0 an0 od1 an1 od2 an2 od3 an3 od4 an4 od5 an5 od6 an6 od7 an7 od8 an8 od9 an9 od10 an10 od11 an11 od12 an12 : Option Addr} {sl0 sl1 sl2 sl3 sl4 sl5 sl6 sl7 sl8 sl9 sl10 sl11 sl12 : Array (Option Value)} {oc0 kV0 dc0 pm0 cd0 ct0 oc1 kV1 dc1 pm1 cd1 ct1 oc2 kV2 dc2 pm2 cd2 ct2 oc3 kV3 dc3 pm3 cd3 ct3 oc4 kV4 dc4 pm4 cd4 ct4 oc5 kV5 dc5 pm5 cd5 ct5 oc6 kV6 dc6 pm6 cd6 ct6 oc7 kV7 dc7 pm7 cd7 ct7 oc8 kV8 dc8 pm8 cd8 ct8 oc9 kV9 dc9 pm9 cd9 ct9 oc10 kV10 dc10 pm10 cd10 ct10 oc11 kV11 dc11 pm11 cd11 ct11 oc12 kV12 dc12 pm12 cd12 ct12 : Value}
    (a0 : PySem.W.nsIn K mainGlobals "is_word" = some (some (.ref f0))) (l0 : K.lookup f0 = some ⟨oc0, od0, .func (PySem.W.fnOf "is_word" "is_word" (defArgs s_is_word) (defBody s_is_word) (defScope s_is_word) .none kV0 dc0 pm0 an0 cd0 ct0), sl0⟩) (c0 : PySem.W.codeIn K cd0 "is_word" = true) (k0 : PySem.W.keepIn K (.ref f0) = true)
    (a1 : PySem.W.nsIn K mainGlobals "is_value" = some (some (.ref f1))) (l1 : K.lookup f1 = some ⟨oc1, od1, .func (PySem.W.fnOf "is_value" "is_value" (defArgs s_is_value) (defBody s_is_value) (defScope s_is_value) .none kV1 dc1 pm1 an1 cd1 ct1), sl1⟩) (c1 : PySem.W.codeIn K cd1 "is_value" = true) (k1 : PySem.W.keepIn K (.ref f1) = true)
    (a2 : PySem.W.nsIn K mainGlobals "is_row" = some (some (.ref f2))) (l2 : K.lookup f2 = some ⟨oc2, od2, .func (PySem.W.fnOf "is_row" "is_row" (defArgs s_is_row) (defBody s_is_row) (defScope s_is_row) .none kV2 dc2 pm2 an2 cd2 ct2), sl2⟩) (c2 : PySem.W.codeIn K cd2 "is_row" = true) (k2 : PySem.W.keepIn K (.ref f2) = true)
    (a3 : PySem.W.nsIn K mainGlobals "_law_draws" = some (some (.ref f3))) (l3 : K.lookup f3 = some ⟨oc3, od3, .func (PySem.W.fnOf "_law_draws" "_law_draws" (defArgs s_law_draws) (defBody s_law_draws) (defScope s_law_draws) .none kV3 dc3 pm3 an3 cd3 ct3), sl3⟩) (c3 : PySem.W.codeIn K cd3 "_law_draws" = true) (k3 : PySem.W.keepIn K (.ref f3) = true)
    (a4 : PySem.W.nsIn K mainGlobals "_law_take" = some (some (.ref f4))) (l4 : K.lookup f4 = some ⟨oc4, od4, .func (PySem.W.fnOf "_law_take" "_law_take" (defArgs s_law_take) (defBody s_law_take) (defScope s_law_take) .none kV4 dc4 pm4 an4 cd4 ct4), sl4⟩) (c4 : PySem.W.codeIn K cd4 "_law_take" = true) (k4 : PySem.W.keepIn K (.ref f4) = true)
    (a5 : PySem.W.nsIn K mainGlobals "_law_size" = some (some (.ref f5))) (l5 : K.lookup f5 = some ⟨oc5, od5, .func (PySem.W.fnOf "_law_size" "_law_size" (defArgs s_law_size) (defBody s_law_size) (defScope s_law_size) .none kV5 dc5 pm5 an5 cd5 ct5), sl5⟩) (c5 : PySem.W.codeIn K cd5 "_law_size" = true) (k5 : PySem.W.keepIn K (.ref f5) = true)
    (a6 : PySem.W.nsIn K mainGlobals "_law_same" = some (some (.ref f6))) (l6 : K.lookup f6 = some ⟨oc6, od6, .func (PySem.W.fnOf "_law_same" "_law_same" (defArgs s_law_same) (defBody s_law_same) (defScope s_law_same) .none kV6 dc6 pm6 an6 cd6 ct6), sl6⟩) (c6 : PySem.W.codeIn K cd6 "_law_same" = true) (k6 : PySem.W.keepIn K (.ref f6) = true)
    (a7 : PySem.W.nsIn K mainGlobals "_law_is_word" = some (some (.ref f7))) (l7 : K.lookup f7 = some ⟨oc7, od7, .func (PySem.W.fnOf "_law_is_word" "_law_is_word" (defArgs s_law_is_word) (defBody s_law_is_word) (defScope s_law_is_word) .none kV7 dc7 pm7 an7 cd7 ct7), sl7⟩) (c7 : PySem.W.codeIn K cd7 "_law_is_word" = true) (k7 : PySem.W.keepIn K (.ref f7) = true)
    (a8 : PySem.W.nsIn K mainGlobals "_law_char" = some (some (.ref f8))) (l8 : K.lookup f8 = some ⟨oc8, od8, .func (PySem.W.fnOf "_law_char" "_law_char" (defArgs s_law_char) (defBody s_law_char) (defScope s_law_char) .none kV8 dc8 pm8 an8 cd8 ct8), sl8⟩) (c8 : PySem.W.codeIn K cd8 "_law_char" = true) (k8 : PySem.W.keepIn K (.ref f8) = true)
    (a9 : PySem.W.nsIn K mainGlobals "_law_letters" = some (some (.ref f9))) (l9 : K.lookup f9 = some ⟨oc9, od9, .func (PySem.W.fnOf "_law_letters" "_law_letters" (defArgs s_law_letters) (defBody s_law_letters) (defScope s_law_letters) .none kV9 dc9 pm9 an9 cd9 ct9), sl9⟩) (c9 : PySem.W.codeIn K cd9 "_law_letters" = true) (k9 : PySem.W.keepIn K (.ref f9) = true)
    (a10 : PySem.W.nsIn K mainGlobals "_law_text" = some (some (.ref f10))) (l10 : K.lookup f10 = some ⟨oc10, od10, .func (PySem.W.fnOf "_law_text" "_law_text" (defArgs s_law_text) (defBody s_law_text) (defScope s_law_text) .none kV10 dc10 pm10 an10 cd10 ct10), sl10⟩) (c10 : PySem.W.codeIn K cd10 "_law_text" = true) (k10 : PySem.W.keepIn K (.ref f10) = true)
    (a11 : PySem.W.nsIn K mainGlobals "_law_item" = some (some (.ref f11))) (l11 : K.lookup f11 = some ⟨oc11, od11, .func (PySem.W.fnOf "_law_item" "_law_item" (defArgs s_law_item) (defBody s_law_item) (defScope s_law_item) .none kV11 dc11 pm11 an11 cd11 ct11), sl11⟩) (c11 : PySem.W.codeIn K cd11 "_law_item" = true) (k11 : PySem.W.keepIn K (.ref f11) = true)
    (a12 : PySem.W.nsIn K mainGlobals "law" = some (some (.ref f12))) (l12 : K.lookup f12 = some ⟨oc12, od12, .func (PySem.W.fnOf "law" "law" (defArgs s_law) (defBody s_law) (defScope s_law) .none kV12 dc12 pm12 an12 cd12 ct12), sl12⟩) (c12 : PySem.W.codeIn K cd12 "law" = true) (k12 : PySem.W.keepIn K (.ref f12) = true)
    (z0 : PySem.W.nsIn K mainGlobals "len" = some none) (z1 : PySem.W.nsIn K mainGlobals "range" = some none) (z2 : PySem.W.nsIn K mainGlobals "int" = some none) (z3 : PySem.W.nsIn K mainGlobals "abs" = some none) (z4 : PySem.W.nsIn K mainGlobals "list" = some none) (z5 : PySem.W.nsIn K mainGlobals "tuple" = some none) (z6 : PySem.W.nsIn K mainGlobals "sum" = some none) (z7 : PySem.W.nsIn K mainGlobals "any" = some none) (z8 : PySem.W.nsIn K mainGlobals "sorted" = some none) (z9 : PySem.W.nsIn K mainGlobals "max" = some none) (z10 : PySem.W.nsIn K mainGlobals "min" = some none) (z11 : PySem.W.nsIn K mainGlobals "divmod" = some none) (z12 : PySem.W.nsIn K mainGlobals "isinstance" = some none) (z13 : PySem.W.nsIn K mainGlobals "zip" = some none) (z14 : PySem.W.nsIn K mainGlobals "reversed" = some none) (z15 : PySem.W.nsIn K mainGlobals "bool" = some none) (z16 : PySem.W.nsIn K mainGlobals "str" = some none) (z17 : PySem.W.nsIn K mainGlobals "set" = some none) (z18 : PySem.W.nsIn K mainGlobals "all" = some none) {t_MOST_VALUES : Tok} (y_MOST_VALUES : PySem.W.nsIn K mainGlobals "MOST_VALUES" = some (some (.int 8 t_MOST_VALUES))) :
    ∃ fd : FuncData, (∀ (s : Shared) (v : Value), BindsTo s fd ⟨[v], []⟩ [("script", v)]) ∧ ∀ base : Heap, K.In base → base.Ns mainGlobals mg → FnOk l.prog w K mg base CX0 9 fa fd ["script"] (spOf K 1 sp_law) := by
  have e := hfa.symm.trans (PySem.W.mg_of X G a12)
  cases e
  have U0 := fun_mk (st := s_is_word) l0 c0 k0
  have U1 := fun_mk (st := s_is_value) l1 c1 k1
  have U2 := fun_mk (st := s_is_row) l2 c2 k2
  have U3 := fun_mk (st := s_law_draws) l3 c3 k3
  have U4 := fun_mk (st := s_law_take) l4 c4 k4
  have U5 := fun_mk (st := s_law_size) l5 c5 k5
  have U6 := fun_mk (st := s_law_same) l6 c6 k6
  have U7 := fun_mk (st := s_law_is_word) l7 c7 k7
  have U8 := fun_mk (st := s_law_char) l8 c8 k8
  have U9 := fun_mk (st := s_law_letters) l9 c9 k9
  have U10 := fun_mk (st := s_law_text) l10 c10 k10
  have U11 := fun_mk (st := s_law_item) l11 c11 k11
  have U12 := fun_mk (st := s_law) l12 c12 k12
  refine ⟨PySem.W.fnOf "law" "law" (defArgs s_law) (defBody s_law) (defScope s_law) .none kV12 dc12 pm12 an12 cd12 ct12, fun s v => .of_eq rfl, fun base _ _ => ?_⟩
  have B : Blt mg := ⟨PySem.W.mg_none_of X G z0, PySem.W.mg_none_of X G z1, PySem.W.mg_none_of X G z2, PySem.W.mg_none_of X G z3, PySem.W.mg_none_of X G z4, PySem.W.mg_none_of X G z5, PySem.W.mg_none_of X G z6, PySem.W.mg_none_of X G z7, PySem.W.mg_none_of X G z8, PySem.W.mg_none_of X G z9, PySem.W.mg_none_of X G z10, PySem.W.mg_none_of X G z11, PySem.W.mg_none_of X G z12, PySem.W.mg_none_of X G z13, PySem.W.mg_none_of X G z14, PySem.W.mg_none_of X G z15, PySem.W.mg_none_of X G z16, PySem.W.mg_none_of X G z17, PySem.W.mg_none_of X G z18⟩
  have F_law_draws : FnD l.prog w K mg base 1 "_law_draws" ["script", "many"] sp_law_draws := ⟨_, _, ok_law_draws B U3, PySem.W.mg_of X G a3, (U3).kp, (U3).binds fun _ _ _ _ _ _ us hl => match us, hl with | [_, _], _ => rfl⟩
  have F_law_take : FnD l.prog w K mg base 1 "_law_take" ["draws", "many"] sp_law_take := ⟨_, _, ok_law_take B U4, PySem.W.mg_of X G a4, (U4).kp, (U4).binds fun _ _ _ _ _ _ us hl => match us, hl with | [_, _], _ => rfl⟩
  have F_law_char : FnD l.prog w K mg base 2 "_law_char" ["draws"] sp_law_char := ⟨_, _, ok_law_char B U8 F_law_take, PySem.W.mg_of X G a8, (U8).kp, (U8).binds fun _ _ _ _ _ _ us hl => match us, hl with | [_], _ => rfl⟩
  have F_law_letters : FnD l.prog w K mg base 2 "_law_letters" ["draws"] sp_law_letters := ⟨_, _, ok_law_letters B U9 F_law_take, PySem.W.mg_of X G a9, (U9).kp, (U9).binds fun _ _ _ _ _ _ us hl => match us, hl with | [_], _ => rfl⟩
  have F_law_text : FnD l.prog w K mg base 3 "_law_text" ["draws"] sp_law_text := ⟨_, _, ok_law_text B U10 F_law_take F_law_char F_law_letters, PySem.W.mg_of X G a10, (U10).kp, (U10).binds fun _ _ _ _ _ _ us hl => match us, hl with | [_], _ => rfl⟩
  have F_law_same : FnD l.prog w K mg base 8 "_law_same" ["actual", "due"] sp_law_same := ⟨_, _, ok_law_same B U6 (PySem.W.mg_of X G a6), PySem.W.mg_of X G a6, (U6).kp, (U6).binds fun _ _ _ _ _ _ us hl => match us, hl with | [_, _], _ => rfl⟩
  have F_is_word : FnD l.prog w K mg base 1 "is_word" ["text"] sp_is_word := ⟨_, _, ok_is_word B U0, PySem.W.mg_of X G a0, (U0).kp, (U0).binds fun _ _ _ _ _ _ us hl => match us, hl with | [_], _ => rfl⟩
  have F_law_is_word : FnD l.prog w K mg base 1 "_law_is_word" ["text"] sp_law_is_word := ⟨_, _, ok_law_is_word B U7, PySem.W.mg_of X G a7, (U7).kp, (U7).binds fun _ _ _ _ _ _ us hl => match us, hl with | [_], _ => rfl⟩
  have F_law_size : FnD l.prog w K mg base 2 "_law_size" ["draws", "script"] sp_law_size := ⟨_, _, ok_law_size B U5 F_law_take, PySem.W.mg_of X G a5, (U5).kp, (U5).binds fun _ _ _ _ _ _ us hl => match us, hl with | [_, _], _ => rfl⟩
  have F_law_item : FnD l.prog w K mg base 3 "_law_item" ["draws", "script"] sp_law_item := ⟨_, _, ok_law_item B U11 F_law_take F_law_size F_law_letters, PySem.W.mg_of X G a11, (U11).kp, (U11).binds fun _ _ _ _ _ _ us hl => match us, hl with | [_, _], _ => rfl⟩
  have F_is_value : FnD l.prog w K mg base 2 "is_value" ["value"] sp_is_value := ⟨_, _, ok_is_value B U1 F_is_word, PySem.W.mg_of X G a1, (U1).kp, (U1).binds fun _ _ _ _ _ _ us hl => match us, hl with | [_], _ => rfl⟩
  have F_is_row : FnD l.prog w K mg base 3 "is_row" ["row"] sp_is_row := ⟨_, _, ok_is_row B U2 F_is_value (PySem.W.mg_of X G y_MOST_VALUES), PySem.W.mg_of X G a2, (U2).kp, (U2).binds fun _ _ _ _ _ _ us hl => match us, hl with | [_], _ => rfl⟩
  exact ok_law (P := l.prog) (w := w) (base := base) B U12 F_law_draws F_law_text F_law_same F_is_word F_law_is_word F_law_take F_law_item F_is_row
end Lw
open PySem PySem.W PyProof.Rows
set_option maxHeartbeats 0 in
theorem PySem.Challenge.cw_ateverymoment_k34_words_and_rows_holds : PySem.Challenge.rw_ateverymoment_k34_words_and_rows.Holds := by
  w_on; o_law; k_head; (case hw => w_witness2)
  k_fill
  refine L2.walk_of (l := PySem.Challenge.rw_ateverymoment_k34_words_and_rows) (n := 63) (k := 9) (x := "script") (CX := fun _ => L2.CX0) (sp := fun w => DL.spOf _ 1 DL.sp_law) rfl (by decide) rfl ⟨rfl, by decide, by decide⟩ (fun w h Y => PySem.W.kIn_of Y) ?F (fun _ H a ns hl hO hS => DL.law_start hl hO hS) (fun _ _ _ _ _ h => h)
  case F =>
    intro w mg fa h KX G hmg
    refine' Lw.all_mk KX G hmg ?a0 ?l0 ?c0 ?k0 ?a1 ?l1 ?c1 ?k1 ?a2 ?l2 ?c2 ?k2 ?a3 ?l3 ?c3 ?k3 ?a4 ?l4 ?c4 ?k4 ?a5 ?l5 ?c5 ?k5 ?a6 ?l6 ?c6 ?k6 ?a7 ?l7 ?c7 ?k7 ?a8 ?l8 ?c8 ?k8 ?a9 ?l9 ?c9 ?k9 ?a10 ?l10 ?c10 ?k10 ?a11 ?l11 ?c11 ?k11 ?a12 ?l12 ?c12 ?k12 ?z0 ?z1 ?z2 ?z3 ?z4 ?z5 ?z6 ?z7 ?z8 ?z9 ?z10 ?z11 ?z12 ?z13 ?z14 ?z15 ?z16 ?z17 ?z18 ?y_MOST_VALUES
    (case a0 => k_is); (case l0 => k_is); (case c0 => k_is); (case k0 => k_is); (case a1 => k_is); (case l1 => k_is); (case c1 => k_is); (case k1 => k_is); (case a2 => k_is); (case l2 => k_is); (case c2 => k_is); (case k2 => k_is); (case a3 => k_is); (case l3 => k_is); (case c3 => k_is); (case k3 => k_is); (case a4 => k_is); (case l4 => k_is); (case c4 => k_is); (case k4 => k_is); (case a5 => k_is); (case l5 => k_is); (case c5 => k_is); (case k5 => k_is); (case a6 => k_is); (case l6 => k_is); (case c6 => k_is); (case k6 => k_is); (case a7 => k_is); (case l7 => k_is); (case c7 => k_is); (case k7 => k_is); (case a8 => k_is); (case l8 => k_is); (case c8 => k_is); (case k8 => k_is); (case a9 => k_is); (case l9 => k_is); (case c9 => k_is); (case k9 => k_is); (case a10 => k_is); (case l10 => k_is); (case c10 => k_is); (case k10 => k_is); (case a11 => k_is); (case l11 => k_is); (case c11 => k_is); (case k11 => k_is); (case a12 => k_is); (case l12 => k_is); (case c12 => k_is); (case k12 => k_is); (case z0 => k_is); (case z1 => k_is); (case z2 => k_is); (case z3 => k_is); (case z4 => k_is); (case z5 => k_is); (case z6 => k_is); (case z7 => k_is); (case z8 => k_is); (case z9 => k_is); (case z10 => k_is); (case z11 => k_is); (case z12 => k_is); (case z13 => k_is); (case z14 => k_is); (case z15 => k_is); (case z16 => k_is); (case z17 => k_is); (case z18 => k_is); (case y_MOST_VALUES => k_is)