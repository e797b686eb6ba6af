import PyProof.Rows.All
import HandS.ForMost
import HandS.IsInst
import HandS.Walk
import HandS.Flow
import HandS.Style
import HandS.WideBits
import HandS.Zip
import HandS.Rev
import HandS.RevRange
import HandS.RevTup
import HandS.TupAny
import HandS.More
import HandS.Conv
import KE.KDictZip
import KE.KRevSl
import KE.GoesMore
import HandS.SortRule
import HandS.Defaults
import HandS.FStr
import PyProof.Rows.StrIntSpec
import PyProof.StrLawsOcc
import PyProof.Rows.FactsT3
import HandS.SetFor
import HandS.Strs
import HandS.Text
import KE.GoesEnum
import HandS.SortKw
import KE.DatumOrd
import OpenK.AllK
import PyProof.RulesMatchSeq
import PyProof.Rows.MatchSeqLen
import PySem.Challenge.RW_ateverymoment_k44_each_rule_once
set_option Elab.async false
set_option linter.all false
set_option maxRecDepth 100000

namespace DL
open PySem PySem.Spec PyProof.Rows L2

/-! ### data -/
/-- values: whole numbers and words -/
inductive Vl where
  | int (n : Int) | str (x : Str)
deriving DecidableEq
inductive D where
  | non | bl (b : Bool) | int (i : Int) | str (x : Str) | tup (ds : List D) | lst (ds : List D) | rol (ds : List D) | tpd (ds : List D) | rod (ks : List (List Vl)) (vs : List D)

def isL : D → Bool
  | .lst _ => true
  | _ => false

def SqR (K : PySem.W.Frag) (H : Hp) (a : Addr) (xs : List V) : Prop :=
  (∃ o, H a = some (.frz o (.lst xs))) ∨
    ∃ (o : Obj) (its : Array Value) (n : Nat), K.lookup a = some o ∧ o.cls = .type "list" ∧ o.dict = none ∧ o.data = .seq its n ∧ its.size ≤ sizeLine ∧ Vals xs its.toList
theorem SqR.seq {K : PySem.W.Frag} {H : Hp} {a : Addr} {xs : List V} (h : SqR K H a xs) : SqL K H a xs := by
  rcases h with ⟨o, h⟩ | h
  · exact .inl (.inr ⟨o, h⟩)
  · exact .inr h

/-- a tuple that is known to have no dict -/
def TpK (K : PySem.W.Frag) (H : Hp) (a : Addr) (xs : List V) : Prop := (∃ o : Obj, H a = some (.frz o (.tup xs)) ∧ o.dict = none) ∨
    ∃ (o : Obj) (its : Array Value) (n : Nat), K.lookup a = some o ∧ o.cls = .type "tuple" ∧ o.dict = none ∧ o.data = .seq its n ∧ its.size ≤ sizeLine ∧ Vals xs its.toList
theorem TpK.t {K : PySem.W.Frag} {H : Hp} {a : Addr} {xs : List V} (h : TpK K H a xs) : SqT K H a xs := by
  rcases h with ⟨o, h, _⟩ | ⟨o, its, n, h1, h2, _, h3⟩
  · exact .inl (.inr ⟨o, h⟩)
  · exact .inr ⟨o, its, n, h1, h2, h3⟩
def Vl.key : Vl → L2.Key
  | .int n => .inl n
  | .str x => .inr x
mutual
def RpI (K : PySem.W.Frag) (H : Hp) : D → V → Prop
  | .non, v => v = .non
  | .bl b, v => v = .bl b
  | .int i, v => v = .int i
  | .str x, v => v = .str x
  | .tup ds, v => ∃ a vs, v = .ref a ∧ H a = some (.tup vs) ∧ RpIs K H ds vs
  | .tpd ds, v => ∃ a vs, v = .ref a ∧ TpK K H a vs ∧ RpIs K H ds vs
  | .rod ks ds, v => ∃ (a : Addr) (kvs : List (List L2.Key × V)), v = .ref a ∧ (∃ o : Obj, H a = some (.frz o (.dT kvs))) ∧ kvs.map (·.1) = ks.map (·.map Vl.key) ∧ RpIs K H ds (kvs.map (·.2))
  | .rol ds, v => ∃ a vs, v = .ref a ∧ SqR K H a vs ∧ RpIs K H ds vs
  | .lst _, _ => False
def RpIs (K : PySem.W.Frag) (H : Hp) : List D → List V → Prop
  | [], vs => vs = []
  | d :: ds, vs => ∃ v r, vs = v :: r ∧ RpI K H d v ∧ RpIs K H ds r
end
def RpV (K : PySem.W.Frag) (H : Hp) : D → V → Prop
  | .lst ds, v => ∃ a vs, v = .ref a ∧ H a = some (.lst vs) ∧ RpIs K H ds vs
  | d, v => RpI K H d v

/-- all that is no list is kept -/
def Kp (H H' : Hp) : Prop := ∀ b o, H b = some o → (∀ xs, o ≠ .lst xs) → H' b = some o
theorem Kp.refl (H : Hp) : Kp H H := fun _ _ h _ => h
theorem Kp.trans {H H1 H2 : Hp} (a : Kp H H1) (b : Kp H1 H2) : Kp H H2 := fun c o h n => b c o (a c o h n) n
theorem Kp.tup {K : PySem.W.Frag} {H H' : Hp} (k : Kp H H') {a : Addr} {vs : List V} (h : SqT K H a vs) : SqT K H' a vs := by
  rcases h with (h | ⟨o, h⟩) | h
  · exact .inl (.inl (k _ _ h (fun _ e => nomatch e)))
  · exact .inl (.inr ⟨o, k _ _ h (fun _ e => nomatch e)⟩)
  · exact .inr h
theorem Kp.rol {K : PySem.W.Frag} {H H' : Hp} (k : Kp H H') {a : Addr} {vs : List V} (h : SqR K H a vs) : SqR K H' a vs := by
  rcases h with ⟨o, h⟩ | h
  · exact .inl ⟨o, k _ _ h (fun _ e => nomatch e)⟩
  · exact .inr h
mutual
theorem RpI.kp {K : PySem.W.Frag} {H H' : Hp} (k : Kp H H') : ∀ (d : D) (v : V), RpI K H d v → RpI K H' d v
  | .non, v, h => h
  | .bl _, v, h => h
  | .int _, v, h => h
  | .str _, v, h => h
  | .tup ds, v, h => by
    simp only [RpI] at h ⊢
    obtain ⟨a, vs, e, s, r⟩ := h
    exact ⟨a, vs, e, k _ _ s (fun _ z => nomatch z), RpIs.kp k ds vs r⟩
  | .tpd ds, v, h => by
    simp only [RpI] at h ⊢
    obtain ⟨a, vs, e, s, r⟩ := h
    refine ⟨a, vs, e, ?_, RpIs.kp k ds vs r⟩
    rcases s with ⟨o, s, d⟩ | s
    · exact .inl ⟨o, k _ _ s (fun _ z => nomatch z), d⟩
    · exact .inr s
  | .rod ks ds, v, h => by
    simp only [RpI] at h ⊢
    obtain ⟨a, kvs, e, s, m, r⟩ := h
    obtain ⟨o, s⟩ := s
    exact ⟨a, kvs, e, ⟨o, k _ _ s (fun _ z => nomatch z)⟩, m, RpIs.kp k ds _ r⟩
  | .rol ds, v, h => by
    simp only [RpI] at h ⊢
    obtain ⟨a, vs, e, s, r⟩ := h
    exact ⟨a, vs, e, k.rol s, RpIs.kp k ds vs r⟩
  | .lst _, v, h => by simp only [RpI] at h
theorem RpIs.kp {K : PySem.W.Frag} {H H' : Hp} (k : Kp H H') : ∀ (ds : List D) (vs : List V), RpIs K H ds vs → RpIs K H' ds vs
  | [], vs, h => by simp only [RpIs] at h ⊢; exact h
  | d :: ds, vs, h => by
    simp only [RpIs] at h ⊢
    obtain ⟨v, r, e, h1, h2⟩ := h
    exact ⟨v, r, e, RpI.kp k d v h1, RpIs.kp k ds r h2⟩
end
theorem RpV.of {K : PySem.W.Frag} {H : Hp} {d : D} {v : V} (h : RpI K H d v) : RpV K H d v := by
  cases d <;> first | exact h | (simp only [RpI] at h)
theorem RpV.imm {K : PySem.W.Frag} {H : Hp} {d : D} {v : V} (h : RpV K H d v) (n : isL d = false) : RpI K H d v := by
  cases d <;> first | exact h | (exact absurd n (by simp [isL]))
theorem RpV.kp {K : PySem.W.Frag} {H H' : Hp} {d : D} {v : V} (k : Kp H H') (h : RpV K H d v) (n : isL d = false) : RpV K H' d v := .of (RpI.kp k d v (h.imm n))
theorem RpV.kpl {K : PySem.W.Frag} {H H' : Hp} {ds : List D} {v : V} (k : Kp H H') (h : RpV K H (.lst ds) v) (e : ∀ a o, v = .ref a → H a = some o → H' a = some o) : RpV K H' (.lst ds) v := by
  obtain ⟨a, vs, e1, e2, r⟩ := h
  exact ⟨a, vs, e1, e a _ e1 e2, RpIs.kp k ds vs r⟩

theorem RpIs.length {K : PySem.W.Frag} {H : Hp} : ∀ {ds : List D} {vs : List V}, RpIs K H ds vs → ds.length = vs.length
  | [], vs, h => by simp only [RpIs] at h; subst h; rfl
  | d :: ds, vs, h => by
    simp only [RpIs] at h
    obtain ⟨v, r, rfl, _, h2⟩ := h
    simp only [List.length_cons, RpIs.length h2]
theorem RpIs.get {K : PySem.W.Frag} {H : Hp} : ∀ {ds : List D} {vs : List V} {i : Nat} {d : D}, RpIs K H ds vs → ds[i]? = some d → ∃ v, vs[i]? = some v ∧ RpI K H d v
  | [], vs, i, d, h, e => by simp at e
  | d0 :: ds, vs, 0, d, h, e => by
    simp only [RpIs] at h
    obtain ⟨v, r, rfl, h1, _⟩ := h
    simp at e; subst e
    exact ⟨v, rfl, h1⟩
  | d0 :: ds, vs, i + 1, d, h, e => by
    simp only [RpIs] at h
    obtain ⟨v, r, rfl, _, h2⟩ := h
    obtain ⟨u, e1, e2⟩ := RpIs.get h2 (by simpa using e)
    exact ⟨u, by simpa using e1, e2⟩
theorem RpIs.get' {K : PySem.W.Frag} {H : Hp} : ∀ {ds : List D} {vs : List V} {i : Nat} {v : V}, RpIs K H ds vs → vs[i]? = some v → ∃ d, ds[i]? = some d ∧ RpI K H d v := by
  intro ds vs i v h e
  have hl := h.length
  have hi : i < ds.length := by rw [hl]; exact (List.getElem?_eq_some_iff.mp e).1
  obtain ⟨u, e1, e2⟩ := h.get (List.getElem?_eq_getElem hi)
  rw [e] at e1; cases e1
  exact ⟨_, List.getElem?_eq_getElem hi, e2⟩
theorem RpIs.append {K : PySem.W.Frag} {H : Hp} : ∀ {ds es : List D} {vs us : List V}, RpIs K H ds vs → RpIs K H es us → RpIs K H (ds ++ es) (vs ++ us)
  | [], es, vs, us, h, g => by simp only [RpIs] at h; subst h; exact g
  | d :: ds, es, vs, us, h, g => by
    simp only [RpIs] at h
    obtain ⟨v, r, rfl, h1, h2⟩ := h
    show RpIs K H (d :: (ds ++ es)) (v :: (r ++ us))
    simp only [RpIs]
    exact ⟨v, _, rfl, h1, RpIs.append h2 g⟩
theorem RpIs.set {K : PySem.W.Frag} {H : Hp} {d : D} {v : V} (hv : RpI K H d v) : ∀ {ds : List D} {vs : List V} (i : Nat), RpIs K H ds vs → RpIs K H (ds.set i d) (vs.set i v)
  | [], vs, i, h => by simp only [RpIs] at h; subst h; simp [RpIs]
  | d0 :: ds, vs, 0, h => by
    simp only [RpIs] at h
    obtain ⟨w, r, rfl, _, h2⟩ := h
    simp only [List.set_cons_zero, RpIs]
    exact ⟨v, r, rfl, hv, h2⟩
  | d0 :: ds, vs, i + 1, h => by
    simp only [RpIs] at h
    obtain ⟨w, r, rfl, h1, h2⟩ := h
    simp only [List.set_cons_succ, RpIs]
    exact ⟨w, _, rfl, h1, RpIs.set hv i h2⟩
theorem RpIs.take {K : PySem.W.Frag} {H : Hp} : ∀ {ds : List D} {vs : List V} (n : Nat), RpIs K H ds vs → RpIs K H (ds.take n) (vs.take n)
  | ds, vs, 0, h => by simp [RpIs]
  | [], vs, n + 1, h => by simp only [RpIs] at h; subst h; simp [RpIs]
  | d0 :: ds, vs, n + 1, h => by
    simp only [RpIs] at h
    obtain ⟨w, r, rfl, h1, h2⟩ := h
    simp only [List.take_succ_cons, RpIs]
    exact ⟨w, _, rfl, h1, RpIs.take n h2⟩
theorem RpIs.drop {K : PySem.W.Frag} {H : Hp} : ∀ {ds : List D} {vs : List V} (n : Nat), RpIs K H ds vs → RpIs K H (ds.drop n) (vs.drop n)
  | ds, vs, 0, h => h
  | [], vs, n + 1, h => by simp only [RpIs] at h; subst h; simp [RpIs]
  | d0 :: ds, vs, n + 1, h => by
    simp only [RpIs] at h
    obtain ⟨w, r, rfl, h1, h2⟩ := h
    exact RpIs.drop n h2
theorem RpIs.reverse {K : PySem.W.Frag} {H : Hp} : ∀ {ds : List D} {vs : List V}, RpIs K H ds vs → RpIs K H ds.reverse vs.reverse
  | [], vs, h => by simp only [RpIs] at h; subst h; simp [RpIs]
  | d0 :: ds, vs, h => by
    simp only [RpIs] at h
    obtain ⟨w, r, rfl, h1, h2⟩ := h
    rw [List.reverse_cons, List.reverse_cons]
    refine RpIs.append (RpIs.reverse h2) ?_
    simp only [RpIs]
    exact ⟨w, [], rfl, h1, rfl⟩
theorem RpIs.dropLast {K : PySem.W.Frag} {H : Hp} {ds : List D} {vs : List V} (h : RpIs K H ds vs) : RpIs K H ds.dropLast vs.dropLast := by
  rw [List.dropLast_eq_take, List.dropLast_eq_take, h.length]
  exact RpIs.take _ h

/-! ### what a frame's slots hold -/
abbrev DEnv := List (Option D)
def LA (σ : L2.St) (env : DEnv) (b : Addr) : Prop := ∃ (i : Nat) (xs : List D), env[i]? = some (some (D.lst xs)) ∧ σ[i]? = some (some (V.ref b))
structure Rep (K : PySem.W.Frag) (np : Nat) (He : Hp) (σ : L2.St) (H : Hp) (env : DEnv) : Prop where
  len : σ.length = env.length
  val : ∀ (i : Nat) (d : D), env[i]? = some (some d) → ∃ v, σ[i]? = some (some v) ∧ RpV K H d v
  apart : ∀ (i j : Nat) (xs ys : List D) (a : Addr), env[i]? = some (some (D.lst xs)) → env[j]? = some (some (D.lst ys)) → σ[i]? = some (some (V.ref a)) → σ[j]? = some (some (V.ref a)) → i = j
  own : ∀ (i : Nat) (xs : List D) (a : Addr), np ≤ i → env[i]? = some (some (D.lst xs)) → σ[i]? = some (some (V.ref a)) → He a = none
  dom : ∀ b, H b = none → He b = none
section
variable {K : PySem.W.Frag} {np : Nat} {He : Hp} {σ σ' σ'' : L2.St} {H H' H'' : Hp} {env env' env'' : DEnv}
theorem Rep.la (R : Rep K np He σ H env) {b : Addr} (h : LA σ env b) : ∃ vs, H b = some (.lst vs) := by
  obtain ⟨i, xs, e, e2⟩ := h
  obtain ⟨v, e3, a, vs, rfl, e5, _⟩ := R.val i _ e
  rw [e2] at e3
  have e4 : b = a := by simpa using e3
  subst e4
  exact ⟨vs, e5⟩

structure SE (K : PySem.W.Frag) (np : Nat) (He : Hp) (σ : L2.St) (H : Hp) (env : DEnv) (H' : Hp) (env' : DEnv) : Prop where
  rep : Rep K np He σ H' env'
  shape : ∀ (i : Nat), env'[i]? = env[i]? ∨ ∃ (xs ys : List D), env[i]? = some (some (D.lst xs)) ∧ env'[i]? = some (some (D.lst ys))
  keep : ∀ b o, H b = some o → ¬ LA σ env b → H' b = some o
  dom : ∀ b, H' b = none → H b = none
theorem SE.refl (R : Rep K np He σ H env) : SE K np He σ H env H env := ⟨R, fun _ => .inl rfl, fun _ _ h _ => h, fun _ h => h⟩
theorem SE.la (s : SE K np He σ H env H' env') {b : Addr} : LA σ env' b ↔ LA σ env b := by
  constructor
  · rintro ⟨i, xs, e, e2⟩
    rcases s.shape i with h | ⟨ys, zs, h1, h2⟩
    · exact ⟨i, xs, h ▸ e, e2⟩
    · exact ⟨i, ys, h1, e2⟩
  · rintro ⟨i, xs, e, e2⟩
    rcases s.shape i with h | ⟨ys, zs, h1, h2⟩
    · exact ⟨i, xs, h.trans e, e2⟩
    · exact ⟨i, zs, h2, e2⟩
theorem SE.trans (a : SE K np He σ H env H' env') (b : SE K np He σ H' env' H'' env'') : SE K np He σ H env H'' env'' where
  rep := b.rep
  shape := fun i => by
    rcases b.shape i with h | ⟨ys, zs, h1, h2⟩
    · rcases a.shape i with g | ⟨us, ws, g1, g2⟩
      · exact .inl (h.trans g)
      · exact .inr ⟨us, ws, g1, h.trans g2⟩
    · rcases a.shape i with g | ⟨us, ws, g1, g2⟩
      · exact .inr ⟨ys, zs, g ▸ h1, h2⟩
      · exact .inr ⟨us, zs, g1, h2⟩
  keep := fun c o h n => b.keep c o (a.keep c o h n) fun z => n (a.la.mp z)
  dom := fun c h => a.dom c (b.dom c h)
theorem SE.kp (R : Rep K np He σ H env) (s : SE K np He σ H env H' env') : Kp H H' := fun b o h n => s.keep b o h fun z => by
  obtain ⟨vs, e⟩ := R.la z
  rw [h] at e
  exact n vs (Option.some.inj e)

/-! ### an expression's result: a value, or a list that stands in a slot -/
inductive RV where
  | val (d : D) | ref (i : Nat)
def RpR (K : PySem.W.Frag) (σ : L2.St) (H H' : Hp) (env' : DEnv) (v : V) : RV → Prop
  | .val d => RpV K H' d v ∧ (isL d = true → ∀ a, v = .ref a → H a = none)
  | .ref i => σ[i]? = some (some v) ∧ ∃ xs, env'[i]? = some (some (D.lst xs))
def getv (env : DEnv) (i : Nat) (k : D → Prop) : Prop :=
  match env[i]? with
  | some (some d) => k d
  | _ => False
theorem getv_of {i : Nat} {k : D → Prop} (h : getv env i k) : ∃ d, env[i]? = some (some d) ∧ k d := by
  unfold getv at h
  split at h
  · exact ⟨_, by assumption, h⟩
  · exact h.elim
def rs (env : DEnv) : RV → (D → Prop) → Prop
  | .val d, k => k d
  | .ref i, k => getv env i k
/-- behind further steps -/
theorem RpR.keep {v : V} {r : RV} (R : Rep K np He σ H env) (a : SE K np He σ H env H' env') (b : SE K np He σ H' env' H'' env'') (h : RpR K σ H H' env' v r) : RpR K σ H H'' env'' v r := by
  cases r with
  | ref i =>
    obtain ⟨e, xs, e2⟩ := h
    refine ⟨e, ?_⟩
    rcases b.shape i with g | ⟨us, ws, g1, g2⟩
    · exact ⟨xs, g.trans e2⟩
    · exact ⟨ws, g2⟩
  | val d =>
    obtain ⟨h1, h2⟩ := h
    refine ⟨?_, h2⟩
    by_cases hd : isL d = true
    · cases d with
      | lst ds =>
        refine h1.kpl (SE.kp a.rep b) fun c o e1 e2 => b.keep c o e2 fun z => ?_
        have z' := a.la.mp z
        obtain ⟨vs, e3⟩ := R.la z'
        rw [h2 rfl c e1] at e3
        cases e3
      | _ => simp [isL] at hd
    · exact h1.kp (SE.kp a.rep b) (by simpa using hd)
/-- what it stands for now -/
theorem RpR.rs {v : V} {r : RV} {k : D → Prop} (R : Rep K np He σ H' env') (h : RpR K σ H H' env' v r) (g : rs env' r k) : ∃ d, RpV K H' d v ∧ k d := by
  cases r with
  | val d => exact ⟨d, h.1, g⟩
  | ref i =>
    obtain ⟨d, e, q⟩ := getv_of g
    obtain ⟨u, e2, r⟩ := R.val i d e
    rw [h.1] at e2
    have e3 : v = u := by simpa using e2
    subst e3
    exact ⟨d, r, q⟩
end
end DL

namespace DL
open PySem PySem.Spec PyProof.Rows L2

abbrev W := DEnv → (RV → DEnv → Prop) → Prop
abbrev WA := DEnv → (List RV → DEnv → Prop) → Prop
def rE (K : PySem.W.Frag) (np : Nat) (He : Hp) (w : W) : TE := fun σ H Q => ∃ env Q0, Rep K np He σ H env ∧ w env Q0 ∧
  ∀ r env' v H', Q0 r env' → SE K np He σ H env H' env' → RpR K σ H H' env' v r → Q v H'
def TN (v : V) (r : RV) (vs : List V) (rl : List RV) : Prop := ∀ d, r = .val d → isL d = true → ∀ (j : Nat) (ys : List D), rl[j]? = some (.val (.lst ys)) → vs[j]? ≠ some v
def RpRs (K : PySem.W.Frag) (σ : L2.St) (H H' : Hp) (env' : DEnv) : List V → List RV → Prop
  | [], rl => rl = []
  | v :: vs, rl => ∃ r rest, rl = r :: rest ∧ RpR K σ H H' env' v r ∧ RpRs K σ H H' env' vs rest ∧ TN v r vs rest
def rA (K : PySem.W.Frag) (np : Nat) (He : Hp) (w : WA) : TA := fun σ H Q => ∃ env Q0, Rep K np He σ H env ∧ w env Q0 ∧
  ∀ rl env' vs H', Q0 rl env' → SE K np He σ H env H' env' → RpRs K σ H H' env' vs rl → Q vs H'
abbrev DE (X : Cx) (np : Nat) (He : Hp) (e : Expr) (w : W) : Prop := PE X e (rE X.K np He w)
abbrev DT (X : Cx) (np : Nat) (He : Hp) (e : Expr) (w : W) : Prop := PT X e (tB (rE X.K np He w))
abbrev DA (X : Cx) (np : Nat) (He : Hp) (es : List Expr) (w : WA) : Prop := PA X es (rA X.K np He w)

theorem PE.weak {X : Cx} {e : Expr} {t t' : TE} (h : PE X e t) (i : ∀ σ H Q, t' σ H Q → t σ H Q) : PE X e t' := ⟨fun pins s σ H Q I q => h.run pins s σ H Q I (i σ H Q q)⟩
theorem PT.weak {X : Cx} {e : Expr} {t t' : TT} (h : PT X e t) (i : ∀ σ H Q, t' σ H Q → t σ H Q) : PT X e t' := ⟨fun pins s σ H Q I q => h.run pins s σ H Q I (i σ H Q q)⟩
theorem PA.weak {X : Cx} {e : List Expr} {t t' : TA} (h : PA X e t) (i : ∀ σ H Q, t' σ H Q → t σ H Q) : PA X e t' := ⟨fun pos pins s σ H Q I q => h.run pos pins s σ H Q I (i σ H Q q)⟩

section
variable {K : PySem.W.Frag} {np : Nat} {He : Hp} {σ σ' σ'' : L2.St} {H H' H'' : Hp} {env env' env'' : DEnv}
/-- the heap grows -/
def Ext (H H' : Hp) : Prop := ∀ b o, H b = some o → H' b = some o
theorem Ext.refl (H : Hp) : Ext H H := fun _ _ h => h
theorem Ext.new {p : Addr} {o : HO} (h : H p = none) : Ext H (upd H p o) := fun b u e => by rw [upd_ne (ne_of_none e h)]; exact e
theorem Ext.kp (h : Ext H H') : Kp H H' := fun b o e _ => h b o e
theorem Ext.dom (h : Ext H H') : ∀ b, H' b = none → H b = none := fun b n => by
  cases q : H b with
  | none => rfl
  | some o => rw [h b o q] at n; cases n
theorem RpV.ext {d : D} {v : V} (x : Ext H H') (h : RpV K H d v) : RpV K H' d v := by
  cases d with
  | lst ds => exact h.kpl x.kp fun a o _ e => x a o e
  | _ => exact h.kp x.kp rfl
theorem SE.ext (R : Rep K np He σ H env) (x : Ext H H') : SE K np He σ H env H' env where
  rep := ⟨R.len, fun i d e => let ⟨v, e1, r⟩ := R.val i d e; ⟨v, e1, r.ext x⟩, R.apart, R.own, fun b n => R.dom b (x.dom b n)⟩
  shape := fun _ => .inl rfl
  keep := fun b o h _ => x b o h
  dom := x.dom

theorem RpRs.keep (R : Rep K np He σ H env) (a : SE K np He σ H env H' env') (b : SE K np He σ H' env' H'' env'') : ∀ {vs : List V} {rl : List RV}, RpRs K σ H H' env' vs rl → RpRs K σ H H'' env'' vs rl
  | [], rl, h => h
  | v :: vs, rl, h => by
    obtain ⟨r, rest, e, h1, h2, tn⟩ := h
    exact ⟨r, rest, e, h1.keep R a b, RpRs.keep R a b h2, tn⟩
/-- a later start -/
theorem RpR.start {v : V} {r : RV} (a : SE K np He σ H env H' env') (h : RpR K σ H' H'' env'' v r) : RpR K σ H H'' env'' v r := by
  cases r with
  | ref i => exact h
  | val d => exact ⟨h.1, fun n c e => a.dom c (h.2 n c e)⟩
theorem RpRs.start (a : SE K np He σ H env H' env') : ∀ {vs : List V} {rl : List RV}, RpRs K σ H' H'' env'' vs rl → RpRs K σ H H'' env'' vs rl
  | [], rl, h => h
  | v :: vs, rl, h => by
    obtain ⟨r, rest, e, h1, h2, tn⟩ := h
    exact ⟨r, rest, e, h1.start a, RpRs.start a h2, tn⟩
theorem RpRs.at : ∀ {vs : List V} {rl : List RV} {j : Nat} {v : V} {r : RV}, RpRs K σ H H' env' vs rl → vs[j]? = some v → rl[j]? = some r → RpR K σ H H' env' v r
  | [], rl, j, v, r, _, e, _ => by simp at e
  | u :: vs, rl, 0, v, r, h, e, e2 => by
    obtain ⟨r', rest, rfl, h1, h2, tn⟩ := h
    simp at e e2
    subst e e2
    exact h1
  | u :: vs, rl, j + 1, v, r, h, e, e2 => by
    obtain ⟨r', rest, rfl, h1, h2, tn⟩ := h
    exact RpRs.at h2 (by simpa using e) (by simpa using e2)
theorem TN.of {σ2 : L2.St} {v : V} {r : RV} {vs : List V} {rl : List RV} (h1 : RpR K σ H H' env' v r) (h2 : RpRs K σ2 H' H'' env'' vs rl) : TN v r vs rl := by
  intro d e il j ys e1 e2
  subst e
  cases d with
  | lst xs =>
    obtain ⟨a, us, rfl, h, _⟩ := h1.1
    have := (RpRs.at h2 e2 e1).2 rfl a rfl
    rw [this] at h
    cases h
  | _ => simp [isL] at il
def RpVs (K : PySem.W.Frag) (H : Hp) : List D → List V → Prop
  | [], vs => vs = []
  | d :: ds, vs => ∃ v r, vs = v :: r ∧ RpV K H d v ∧ RpVs K H ds r
def rsl (env : DEnv) : List RV → (List D → Prop) → Prop
  | [], k => k []
  | r :: rest, k => rs env r fun d => rsl env rest fun ds => k (d :: ds)
theorem RpRs.rs (R : Rep K np He σ H' env') : ∀ {vs : List V} {rl : List RV} {k : List D → Prop}, RpRs K σ H H' env' vs rl → rsl env' rl k → ∃ ds, RpVs K H' ds vs ∧ k ds
  | [], rl, k, h, g => by
    have e : rl = [] := h
    subst e
    exact ⟨[], rfl, g⟩
  | v :: vs, rl, k, h, g => by
    obtain ⟨r, rest, e, h1, h2, tn⟩ := h
    subst e
    obtain ⟨d, hd, g1⟩ := h1.rs R g
    obtain ⟨ds, hds, g2⟩ := RpRs.rs R h2 g1
    exact ⟨d :: ds, ⟨v, vs, rfl, hd, hds⟩, g2⟩
/-- no list among them -/
def immA : List D → Bool
  | [] => true
  | d :: ds => !isL d && immA ds
theorem RpVs.imm : ∀ {ds : List D} {vs : List V}, RpVs K H ds vs → immA ds = true → RpIs K H ds vs
  | [], vs, h, _ => by simp only [RpIs]; exact h
  | d :: ds, vs, h, n => by
    obtain ⟨v, r, e, h1, h2⟩ := h
    simp only [immA, Bool.and_eq_true, Bool.not_eq_true'] at n
    simp only [RpIs]
    exact ⟨v, r, e, h1.imm n.1, RpVs.imm h2 n.2⟩
theorem RpVs.length : ∀ {ds : List D} {vs : List V}, RpVs K H ds vs → ds.length = vs.length
  | [], vs, h => by cases (show vs = [] from h); rfl
  | d :: ds, vs, h => by
    obtain ⟨v, r, rfl, _, h2⟩ := h
    simp only [List.length_cons, RpVs.length h2]
end

section
variable {X : Cx} {np : Nat} {He : Hp} {a b c e : Expr} {es : List Expr} {wa wb wc : W} {ws : WA} {pos : Pos}

/-! ### names, constants -/
def pick (d : D) (a b : Prop) : Prop := match d with
  | .lst _ => a
  | _ => b
def cVar (i : Nat) : W := fun env Q => getv env i fun d => pick d (Q (.ref i) env) (Q (.val d) env)
theorem e_var (i : Nat) {x : Str} (hN : X.N[i]? = some x := by rfl) (hv : Vis X.env.scope x := by first | exact Or.inl rfl | exact Or.inr (Or.inl rfl) | exact Or.inr (Or.inr rfl)) (hd : (x == ("__debug__" : Str)) = false := by decide)
    (hcd : (x == ("__classdict__" : Str)) = false := by decide) : DE X np He (.Name x pos) (cVar i) := by
  refine PE.weak (pe_var hN hv hd hcd) fun σ H Q ⟨env, Q0, R, w, q⟩ => ?_
  obtain ⟨d, e, w⟩ := getv_of w
  obtain ⟨v, e1, r⟩ := R.val i d e
  refine ⟨v, e1, ?_⟩
  cases d with
  | lst ds => exact q (.ref i) env v H w (.refl R) ⟨e1, ds, e⟩
  | _ => exact q (.val _) env v H w (.refl R) ⟨r, fun n => by simp [isL] at n⟩
def cC (d : D) : W := fun env Q => Q (.val d) env
theorem e_int {i : Int} {j : Nat} : DE X np He (.Constant (.int i) j pos) (cC (.int i)) := PE.weak pe_int fun σ H Q ⟨env, Q0, R, w, q⟩ => q _ env _ H w (.refl R) ⟨rfl, fun n => by simp [isL] at n⟩
theorem e_bl {i : Bool} {j : Nat} : DE X np He (.Constant (.bool i) j pos) (cC (.bl i)) := PE.weak pe_bl fun σ H Q ⟨env, Q0, R, w, q⟩ => q _ env _ H w (.refl R) ⟨rfl, fun n => by simp [isL] at n⟩
theorem e_non {j : Nat} : DE X np He (.Constant .none j pos) (cC .non) := PE.weak pe_non fun σ H Q ⟨env, Q0, R, w, q⟩ => q _ env _ H w (.refl R) ⟨rfl, fun n => by simp [isL] at n⟩
theorem e_str {i : Str} {j : Nat} : DE X np He (.Constant (.str i) j pos) (cC (.str i)) := PE.weak pe_str fun σ H Q ⟨env, Q0, R, w, q⟩ => q _ env _ H w (.refl R) ⟨rfl, fun n => by simp [isL] at n⟩
/-! ### two operands -/
abbrev F2 := D → D → (D → Prop) → Prop
def cOp (f : F2) (wa wb : W) : W := fun env Q => wa env fun ra e1 => wb e1 fun rb e2 => rs e2 ra fun x => rs e2 rb fun y => f x y fun z => Q (.val z) e2
def OpD (K : PySem.W.Frag) (r : R2) (f : F2) : Prop := ∀ (H : Hp) (x y : D) (v w : V) (k : D → Prop) (Q : VK), RpV K H x v → RpV K H y w → f x y k →
  (∀ z u H', k z → Ext H H' → RpV K H' z u → (isL z = true → ∀ a, u = .ref a → H a = none) → Q u H') → r v w H Q
theorem two {ta tb : TE} {r : R2} {f : F2} (h : OpD X.K r f) : ∀ σ H Q, rE X.K np He (cOp f wa wb) σ H Q → tOp r (rE X.K np He wa) (rE X.K np He wb) σ H Q := by
  intro σ H Q ⟨env, Q0, R, w, q⟩
  refine ⟨env, _, R, w, fun ra e1 v1 H1 w1 s1 r1 => ⟨e1, _, s1.rep, w1, fun rb e2 v2 H2 w2 s2 r2 => ?_⟩⟩
  have r1' := r1.keep R s1 s2
  have s12 := s1.trans s2
  obtain ⟨x, hx, w2⟩ := r1'.rs s2.rep w2
  obtain ⟨y, hy, w2⟩ := r2.rs s2.rep w2
  refine h H2 x y v1 v2 _ Q hx hy w2 fun z u H' k ex rz fz => ?_
  exact q _ e2 u H' k (s12.trans (.ext s2.rep ex)) ⟨rz, fun n c e => s12.dom c (fz n c e)⟩
theorem e_op {op : Operator} {r : R2} {f : F2} (ho : OpR X (binaryOp op) r) (h : OpD X.K r f) (ha : DE X np He a wa) (hb : DE X np He b wb) : DE X np He (.BinOp a op b pos) (cOp f wa wb) :=
  PE.weak (pe_op ho ha hb) (two (ta := rE X.K np He wa) (tb := rE X.K np He wb) h)
theorem e_cmp {op : CmpOp} {r : R2} {f : F2} (ho : OpR X (compareOp op) r) (h : OpD X.K r f) (ha : DE X np He a wa) (hb : DE X np He b wb) (hm : behindInMarks op b = false) : DE X np He (.Compare a [op] [b] pos) (cOp f wa wb) :=
  PE.weak (pe_cmpR ho ha hb hm) (two (ta := rE X.K np He wa) (tb := rE X.K np He wb) h)
theorem t_cmp {op : CmpOp} {r : R2} {f : F2} (ho : OpR X (compareOp op) r) (h : OpD X.K r f) (ha : DE X np He a wa) (hb : DE X np He b wb) (hm : behindInMarks op b = false) : DT X np He (.Compare a [op] [b] pos) (cOp f wa wb) :=
  PT.weak (pt_cmpR ho ha hb hm) fun σ H Q h' => two (ta := rE X.K np He wa) (tb := rE X.K np He wb) h σ H _ h'
theorem e_ix {r : R2} {f : F2} (hr : IxR X r) (h : OpD X.K r f) (ha : DE X np He a wa) (hb : DE X np He b wb) (hs : PlainIx b := by exact fun _ _ => rfl) : DE X np He (.Subscript a b pos) (cOp f wa wb) :=
  PE.weak (pe_ix hr ha hb hs) (two (ta := rE X.K np He wa) (tb := rE X.K np He wb) h)

/-! ### two ints -/
def fI (g : Int → Int → (D → Prop) → Prop) : F2 := fun x y k => match x, y with
  | .int i, .int j => g i j k
  | _, _ => False
theorem fI_of {g : Int → Int → (D → Prop) → Prop} {x y : D} {k : D → Prop} (h : fI g x y k) : ∃ i j, x = .int i ∧ y = .int j ∧ g i j k := by
  unfold fI at h
  split at h
  · exact ⟨_, _, rfl, rfl, h⟩
  · exact h.elim
theorem opd_I {C : Int → Int → Prop} {g : Int → Int → Int} : OpD X.K (rI C fun i j => .int (g i j)) (fI fun i j k => C i j ∧ k (.int (g i j))) := by
  intro H x y v w k Q rx ry h q
  obtain ⟨i, j, rfl, rfl, hc, h⟩ := fI_of h
  exact ⟨i, j, rx, ry, hc, q _ _ H h (.refl H) rfl (fun n => by simp [isL] at n)⟩
theorem opd_I0 {g : Int → Int → Int} : OpD X.K (rI0 fun i j => .int (g i j)) (fI fun i j k => k (.int (g i j))) := by
  intro H x y v w k Q rx ry h q
  obtain ⟨i, j, rfl, rfl, h⟩ := fI_of h
  exact ⟨i, j, rx, ry, q _ _ H h (.refl H) rfl (fun n => by simp [isL] at n)⟩
theorem opd_B0 {g : Int → Int → Bool} : OpD X.K (rI0 fun i j => .bl (g i j)) (fI fun i j k => k (.bl (g i j))) := by
  intro H x y v w k Q rx ry h q
  obtain ⟨i, j, rfl, rfl, h⟩ := fI_of h
  exact ⟨i, j, rx, ry, q _ _ H h (.refl H) rfl (fun n => by simp [isL] at n)⟩
abbrev fSub : F2 := fI fun i j k => k (.int (i - j))
abbrev fMul : F2 := fI fun i j k => CMul i j ∧ k (.int (i * j))
abbrev fFdiv : F2 := fI fun i j k => CDiv i j ∧ k (.int (i / j))
abbrev fMod : F2 := fI fun i j k => 0 < j ∧ k (.int (i % j))
abbrev fPow : F2 := fI fun i j k => CPow i j ∧ k (.int (i ^ j.toNat))
abbrev fLt : F2 := fI fun i j k => k (.bl (decide (i < j)))
abbrev fLe : F2 := fI fun i j k => k (.bl (decide (i ≤ j)))
abbrev fGt : F2 := fI fun i j k => k (.bl (decide (j < i)))
abbrev fGe : F2 := fI fun i j k => k (.bl (decide (j ≤ i)))
section
variable (ha : DE X np He a wa) (hb : DE X np He b wb)
include ha hb
theorem e_sub : DE X np He (.BinOp a .Sub b pos) (cOp fSub wa wb) := e_op op_sub opd_I0 ha hb
theorem e_mul : DE X np He (.BinOp a .Mult b pos) (cOp fMul wa wb) := e_op op_mul opd_I ha hb
theorem e_fdiv : DE X np He (.BinOp a .FloorDiv b pos) (cOp fFdiv wa wb) := e_op op_fdiv opd_I ha hb
theorem e_mod : DE X np He (.BinOp a .Mod b pos) (cOp fMod wa wb) := e_op op_mod opd_I ha hb
theorem e_pow : DE X np He (.BinOp a .Pow b pos) (cOp fPow wa wb) := e_op op_pow opd_I ha hb
theorem t_lt : DT X np He (.Compare a [.Lt] [b] pos) (cOp fLt wa wb) := t_cmp op_lt opd_B0 ha hb (nomark _)
theorem t_le : DT X np He (.Compare a [.LtE] [b] pos) (cOp fLe wa wb) := t_cmp op_le opd_B0 ha hb (nomark _)
theorem t_gt : DT X np He (.Compare a [.Gt] [b] pos) (cOp fGt wa wb) := t_cmp op_gt opd_B0 ha hb (nomark _)
theorem t_ge : DT X np He (.Compare a [.GtE] [b] pos) (cOp fGe wa wb) := t_cmp op_ge opd_B0 ha hb (nomark _)
end
/-! ### == of scalars -/
def eqS : D → D → Option Bool
  | .non, .non => some true | .non, .int _ => some false | .int _, .non => some false | .non, .bl _ => some false | .bl _, .non => some false | .non, .str _ => some false | .str _, .non => some false
  | .int i, .int j => some (decide (i = j)) | .bl i, .bl j => some (decide (i = j)) | .str i, .str j => some (decide (i = j))
  | .int _, .str _ => some false | .str _, .int _ => some false | .bl _, .str _ => some false | .str _, .bl _ => some false
  | _, _ => none
def fEqS : F2 := fun x y k => match eqS x y with
  | some c => k (.bl c)
  | none => False
def fNeS : F2 := fun x y k => match eqS x y with
  | some c => k (.bl (!c))
  | none => False
theorem eqS_ok {K : PySem.W.Frag} {H : Hp} {x y : D} {v w : V} {c : Bool} (rx : RpV K H x v) (ry : RpV K H y w) (h : eqS x y = some c) : scal v w = true ∧ decide (v = w) = c := by
  cases x <;> cases y <;> first
    | (simp [eqS] at h; done)
    | (cases rx; cases ry; simp only [eqS, Option.some.injEq] at h; subst h; refine ⟨rfl, ?_⟩; simp)
theorem opd_eqS : OpD X.K rEq fEqS := by
  intro H x y v w k Q rx ry h q
  unfold fEqS at h
  split at h
  · rename_i c e
    obtain ⟨h1, h2⟩ := eqS_ok rx ry e
    refine ⟨h1, ?_⟩
    rw [h2]
    exact q _ _ H h (.refl H) rfl (fun n => by simp [isL] at n)
  · exact h.elim
theorem opd_neS : OpD X.K rNe fNeS := by
  intro H x y v w k Q rx ry h q
  unfold fNeS at h
  split at h
  · rename_i c e
    obtain ⟨h1, h2⟩ := eqS_ok rx ry e
    refine ⟨h1, ?_⟩
    rw [h2]
    exact q _ _ H h (.refl H) rfl (fun n => by simp [isL] at n)
  · exact h.elim
theorem e_eqS (ha : DE X np He a wa) (hb : DE X np He b wb) : DE X np He (.Compare a [.Eq] [b] pos) (cOp fEqS wa wb) := e_cmp op_eq opd_eqS ha hb (nomark _)
theorem t_eqS (ha : DE X np He a wa) (hb : DE X np He b wb) : DT X np He (.Compare a [.Eq] [b] pos) (cOp fEqS wa wb) := t_cmp op_eq opd_eqS ha hb (nomark _)
theorem t_neS (ha : DE X np He a wa) (hb : DE X np He b wb) : DT X np He (.Compare a [.NotEq] [b] pos) (cOp fNeS wa wb) := t_cmp op_ne opd_neS ha hb (nomark _)

/-! ### subscripts -/
def seqD : D → Option (List D)
  | .tup ds => some ds
  | .lst ds => some ds
  | .rol ds => some ds
  | .tpd ds => some ds
  | _ => none
theorem RpV.seq {K : PySem.W.Frag} {H : Hp} {d : D} {v : V} {ds : List D} (h : RpV K H d v) (e : seqD d = some ds) : ∃ a vs, v = .ref a ∧ (SqL K H a vs ∨ SqT K H a vs) ∧ RpIs K H ds vs := by
  cases d with
  | tup es =>
    simp only [seqD, Option.some.injEq] at e
    subst e
    obtain ⟨a, vs, e1, s, r⟩ := (show ∃ a vs, v = .ref a ∧ H a = some (.tup vs) ∧ RpIs K H es vs by simpa only [RpV, RpI] using h)
    exact ⟨a, vs, e1, .inr (.of s), r⟩
  | tpd es =>
    simp only [seqD, Option.some.injEq] at e
    subst e
    obtain ⟨a, vs, e1, s, r⟩ := (show ∃ a vs, v = .ref a ∧ TpK K H a vs ∧ RpIs K H es vs by simpa only [RpV, RpI] using h)
    exact ⟨a, vs, e1, .inr s.t, r⟩
  | rol es =>
    simp only [seqD, Option.some.injEq] at e
    subst e
    obtain ⟨a, vs, e1, s, r⟩ := (show ∃ a vs, v = .ref a ∧ SqR K H a vs ∧ RpIs K H es vs by simpa only [RpV, RpI] using h)
    exact ⟨a, vs, e1, .inl s.seq, r⟩
  | lst es =>
    simp only [seqD, Option.some.injEq] at e
    subst e
    obtain ⟨a, vs, e1, s, r⟩ := h
    exact ⟨a, vs, e1, .inl (.of s), r⟩
  | _ => simp [seqD] at e
def fIx : F2 := fun x y k => match seqD x, y with
  | some ds, .int i => (match atI ds i with
    | some d => k d
    | none => False)
  | _, _ => False
theorem atI_rp {K : PySem.W.Frag} {H : Hp} {ds : List D} {vs : List V} {i : Int} {d : D} (r : RpIs K H ds vs) (h : atI ds i = some d) : ∃ v, atI vs i = some v ∧ RpI K H d v := by
  unfold atI at h ⊢
  rw [← r.length]
  cases q : ixN ds.length i with
  | none => rw [q] at h; cases h
  | some j =>
    rw [q] at h
    exact r.get h
theorem opd_ix : OpD X.K (rIx X.K) fIx := by
  intro H x y v w k Q rx ry h q
  unfold fIx at h
  split at h
  · rename_i ds i e1
    split at h
    · rename_i d e2
      obtain ⟨a, vs, rfl, s, r⟩ := rx.seq e1
      obtain ⟨u, e3, ru⟩ := atI_rp r e2
      have hi : isL d = false := by
        cases d <;> first | rfl | (simp only [RpI] at ru)
      rcases s with s | s
      · exact .inl ⟨a, vs, i, u, rfl, ry, s, e3, q d u H h (.refl H) (.of ru) (fun n => by rw [hi] at n; cases n)⟩
      · exact .inr (.inl ⟨a, vs, i, u, rfl, ry, s, e3, q d u H h (.refl H) (.of ru) (fun n => by rw [hi] at n; cases n)⟩)
    · exact h.elim
  · exact h.elim
theorem e_ixs (ha : DE X np He a wa) (hb : DE X np He b wb) (hs : PlainIx b := by exact fun _ _ => rfl) : DE X np He (.Subscript a b pos) (cOp fIx wa wb) := e_ix ix_seq opd_ix ha hb hs

/-! ### one operand -/
abbrev F1 := D → (D → Prop) → Prop
def cUn (f : F1) (wa : W) : W := fun env Q => wa env fun ra e1 => rs e1 ra fun x => f x fun z => Q (.val z) e1
def fNeg : F1 := fun x k => match x with
  | .int i => k (.int (-i))
  | _ => False
def isN : D → Bool
  | .non => true
  | _ => false
def fIsN (neg : Bool) : F1 := fun x k => k (.bl (if neg = true then !isN x else isN x))
theorem e_neg (ha : DE X np He a wa) : DE X np He (.UnaryOp .USub a pos) (cUn fNeg wa) := by
  refine PE.weak (pe_un un_neg ha) fun σ H Q ⟨env, Q0, R, w, q⟩ => ⟨env, _, R, w, fun ra e1 v1 H1 w1 s1 r1 => ?_⟩
  obtain ⟨x, hx, w1⟩ := r1.rs s1.rep w1
  cases x <;> first | exact False.elim w1 | skip
  exact ⟨_, hx, q _ e1 _ H1 w1 s1 ⟨rfl, fun n => by simp [isL] at n⟩⟩
theorem RpV.non_iff {K : PySem.W.Frag} {H : Hp} {d : D} {v : V} (h : RpV K H d v) : decide (v = .non) = isN d := by
  cases d with
  | non => cases h; rfl
  | bl _ => cases h; rfl
  | int _ => cases h; rfl
  | str _ => cases h; rfl
  | tup _ => simp only [RpV, RpI] at h; obtain ⟨a, _, rfl, _⟩ := h; rfl
  | rol _ => simp only [RpV, RpI] at h; obtain ⟨a, _, rfl, _⟩ := h; rfl
  | tpd _ => simp only [RpV, RpI] at h; obtain ⟨a, _, rfl, _⟩ := h; rfl
  | rod _ _ => simp only [RpV, RpI] at h; obtain ⟨a, _, rfl, _⟩ := h; rfl
  | lst _ => obtain ⟨a, _, rfl, _⟩ := h; rfl
theorem isN_core (neg : Bool) : ∀ σ H Q, rE X.K np He (cUn (fIsN neg) wa) σ H Q → rE X.K np He wa σ H fun x H1 => Q (.bl (if neg = true then !decide (x = .non) else decide (x = .non))) H1 := by
  intro σ H Q ⟨env, Q0, R, w, q⟩
  refine ⟨env, _, R, w, fun ra e1 v1 H1 w1 s1 r1 => ?_⟩
  obtain ⟨x, hx, w1⟩ := r1.rs s1.rep w1
  rw [hx.non_iff]
  exact q (.val (.bl (if neg = true then !isN x else isN x))) e1 _ H1 w1 s1 ⟨rfl, fun n => by simp [isL] at n⟩
theorem e_isN {j : Nat} {pos' : Pos} (ha : DE X np He a wa) : DE X np He (.Compare a [.Is] [.Constant .none j pos'] pos) (cUn (fIsN false) wa) :=
  PE.weak (pe_cmp (pc_isN ha)) fun σ H Q h => isN_core false σ H _ h
theorem t_isN {j : Nat} {pos' : Pos} (ha : DE X np He a wa) : DT X np He (.Compare a [.Is] [.Constant .none j pos'] pos) (cUn (fIsN false) wa) :=
  PT.weak (pt_cmp (pc_isN ha)) fun σ H Q h => isN_core false σ H _ h
theorem t_notN {j : Nat} {pos' : Pos} (ha : DE X np He a wa) : DT X np He (.Compare a [.IsNot] [.Constant .none j pos'] pos) (cUn (fIsN true) wa) :=
  PT.weak (pt_cmp (pc_notN ha)) fun σ H Q h => isN_core true σ H _ h
/-- any value that is a bool, as a test -/
theorem t_val (h : DE X np He e wa) (he : ∀ whole, isTrue e X.env whole = (do let v ← whole; standAt e.pos; holding [v] (truthy v)) := by intro _; rfl) : DT X np He e wa := pt_val h he

/-! ### and, or, if -/
inductive ifb : D → Prop → Prop → Prop where
  | t {a b : Prop} (h : a) : ifb (.bl true) a b
  | f {a b : Prop} (h : b) : ifb (.bl false) a b
def cAnd (wa wb : W) : W := fun env Q => wa env fun ra e1 => rs e1 ra fun x => ifb x (wb e1 Q) (Q (.val (.bl false)) e1)
def cOr (wa wb : W) : W := fun env Q => wa env fun ra e1 => rs e1 ra fun x => ifb x (Q (.val (.bl true)) e1) (wb e1 Q)
def cIf (wc wa wb : W) : W := fun env Q => wc env fun rc e1 => rs e1 rc fun x => ifb x (wa e1 Q) (wb e1 Q)
theorem ifb_of {d : D} {A B : Prop} (h : ifb d A B) : (d = .bl true ∧ A) ∨ (d = .bl false ∧ B) := by
  cases h with
  | t h => exact .inl ⟨rfl, h⟩
  | f h => exact .inr ⟨rfl, h⟩
theorem rE.next {σ : L2.St} {H H1 : Hp} {env e1 : DEnv} {Q : VK} {Q0 : RV → DEnv → Prop} (s1 : SE X.K np He σ H env H1 e1) (w : wb e1 Q0)
    (q : ∀ r env' v H', Q0 r env' → SE X.K np He σ H env H' env' → RpR X.K σ H H' env' v r → Q v H') : rE X.K np He wb σ H1 Q :=
  ⟨e1, Q0, s1.rep, w, fun r env' v H' g s2 r2 => q r env' v H' g (s1.trans s2) (r2.start s1)⟩
theorem e_one {op : BoolOp} (ha : DE X np He a wa) : DE X np He (.BoolOp op [a] pos) wa := pe_one ha
theorem e_and' {rest : List Expr} (ha : DE X np He a wa) (hb : DE X np He (.BoolOp .And (b :: rest) pos) wb) : DE X np He (.BoolOp .And (a :: b :: rest) pos) (cAnd wa wb) := by
  refine PE.weak (pe_and ha hb) fun σ H Q ⟨env, Q0, R, w, q⟩ => ⟨env, _, R, w, fun ra e1 v1 H1 w1 s1 r1 => ?_⟩
  obtain ⟨x, hx, w1⟩ := r1.rs s1.rep w1
  have w1z := ifb_of w1; clear w1; rcases w1z with ⟨rfl, w1⟩ | ⟨rfl, w1⟩
  · exact ⟨true, hx, rE.next s1 w1 q⟩
  · exact ⟨false, hx, q _ e1 _ H1 w1 s1 ⟨rfl, fun n => by simp [isL] at n⟩⟩
theorem e_or' {rest : List Expr} (ha : DE X np He a wa) (hb : DE X np He (.BoolOp .Or (b :: rest) pos) wb) : DE X np He (.BoolOp .Or (a :: b :: rest) pos) (cOr wa wb) := by
  refine PE.weak (pe_or ha hb) fun σ H Q ⟨env, Q0, R, w, q⟩ => ⟨env, _, R, w, fun ra e1 v1 H1 w1 s1 r1 => ?_⟩
  obtain ⟨x, hx, w1⟩ := r1.rs s1.rep w1
  have w1z := ifb_of w1; clear w1; rcases w1z with ⟨rfl, w1⟩ | ⟨rfl, w1⟩
  · exact ⟨true, hx, q _ e1 _ H1 w1 s1 ⟨rfl, fun n => by simp [isL] at n⟩⟩
  · exact ⟨false, hx, rE.next s1 w1 q⟩
abbrev DW (X : Cx) (np : Nat) (He : Hp) (e : Expr) (w : W) : Prop := PW X e (tB (rE X.K np He w))
theorem w_and1 (ha : DT X np He a wa) : DW X np He (.BoolOp .And [a] pos) wa := pw_and1 ha
theorem w_or1 (ha : DT X np He a wa) : DW X np He (.BoolOp .Or [a] pos) wa := pw_or1 ha
theorem PW.weak {e : Expr} {t t' : TT} (h : PW X e t) (i : ∀ σ H Q, t' σ H Q → t σ H Q) : PW X e t' := ⟨fun wh pins s σ H Q I q => h.run wh pins s σ H Q I (i σ H Q q)⟩
theorem w_and {rest : List Expr} (ha : DT X np He a wa) (hb : DW X np He (.BoolOp .And (b :: rest) pos) wb) : DW X np He (.BoolOp .And (a :: b :: rest) pos) (cAnd wa wb) := by
  refine DL.PW.weak (pw_and ha hb) fun σ H Q ⟨env, Q0, R, w, q⟩ => ⟨env, _, R, w, fun ra e1 v1 H1 w1 s1 r1 => ?_⟩
  obtain ⟨x, hx, w1⟩ := r1.rs s1.rep w1
  have w1z := ifb_of w1; clear w1; rcases w1z with ⟨rfl, w1⟩ | ⟨rfl, w1⟩
  · exact ⟨true, hx, rE.next s1 w1 q⟩
  · refine ⟨false, hx, ?_⟩
    obtain ⟨c, e, q'⟩ := q _ e1 (.bl false) H1 w1 s1 ⟨rfl, fun n => by simp [isL] at n⟩
    cases e
    exact q'
theorem w_or {rest : List Expr} (ha : DT X np He a wa) (hb : DW X np He (.BoolOp .Or (b :: rest) pos) wb) : DW X np He (.BoolOp .Or (a :: b :: rest) pos) (cOr wa wb) := by
  refine DL.PW.weak (pw_or ha hb) fun σ H Q ⟨env, Q0, R, w, q⟩ => ⟨env, _, R, w, fun ra e1 v1 H1 w1 s1 r1 => ?_⟩
  obtain ⟨x, hx, w1⟩ := r1.rs s1.rep w1
  have w1z := ifb_of w1; clear w1; rcases w1z with ⟨rfl, w1⟩ | ⟨rfl, w1⟩
  · refine ⟨true, hx, ?_⟩
    obtain ⟨c, e, q'⟩ := q _ e1 (.bl true) H1 w1 s1 ⟨rfl, fun n => by simp [isL] at n⟩
    cases e
    exact q'
  · exact ⟨false, hx, rE.next s1 w1 q⟩
theorem t_bop (h : DW X np He e wa) : DT X np He e wa := h.pt
theorem e_ifx (hc : DT X np He c wc) (ha : DE X np He a wa) (hb : DE X np He b wb) : DE X np He (.IfExp c a b pos) (cIf wc wa wb) := by
  refine PE.weak (pe_ifExp hc ha hb) fun σ H Q ⟨env, Q0, R, w, q⟩ => ⟨env, _, R, w, fun ra e1 v1 H1 w1 s1 r1 => ?_⟩
  obtain ⟨x, hx, w1⟩ := r1.rs s1.rep w1
  have w1z := ifb_of w1; clear w1; rcases w1z with ⟨rfl, w1⟩ | ⟨rfl, w1⟩
  · exact ⟨true, hx, rE.next s1 w1 q⟩
  · exact ⟨false, hx, rE.next s1 w1 q⟩
/-! ### arguments, displays -/
def cNil : WA := fun env Q => Q [] env
def cCons (wa : W) (ws : WA) : WA := fun env Q => wa env fun r e1 => ws e1 fun rl e2 => Q (r :: rl) e2
theorem a_nil : DA X np He [] cNil := PA.weak pa_nil fun σ H Q ⟨env, Q0, R, w, q⟩ => q [] env [] H w (.refl R) rfl
theorem a_cons (ha : DE X np He a wa) (hr : DA X np He es ws) (hs : starEach (a :: es) X.env = (false, eval a X.env) :: starEach es X.env := by rfl) : DA X np He (a :: es) (cCons wa ws) := by
  refine PA.weak (pa_cons ha hr hs) fun σ H Q ⟨env, Q0, R, w, q⟩ => ⟨env, _, R, w, fun r e1 v1 H1 w1 s1 r1 => ⟨e1, _, s1.rep, w1, fun rl e2 vs H2 w2 s2 r2 => ?_⟩⟩
  exact q (r :: rl) e2 (v1 :: vs) H2 w2 (s1.trans s2) ⟨r, rl, rfl, r1.keep R s1 s2, r2.start s1, .of r1 r2⟩
theorem line_of {n : Nat} (h : n ≤ 1000000) : n ≤ sizeLine := Nat.le_trans h (by rw [sizeLine_eq]; decide)
def cTup (ws : WA) : W := fun env Q => ws env fun rl e1 => rsl e1 rl fun ds => immA ds = true ∧ ds.length ≤ 1000000 ∧ Q (.val (.tup ds)) e1
def cLst (ws : WA) : W := fun env Q => ws env fun rl e1 => rsl e1 rl fun ds => immA ds = true ∧ ds.length ≤ 1000000 ∧ Q (.val (.lst ds)) e1
theorem e_tup {k : Nat} (h : DA X np He es ws) : DE X np He (.Tuple es k pos) (cTup ws) := by
  refine PE.weak (pe_tup h) fun σ H Q ⟨env, Q0, R, w, q⟩ => ⟨env, _, R, w, fun rl e1 vs H1 w1 s1 r1 => ?_⟩
  obtain ⟨ds, hd, im, sz, w1⟩ := r1.rs s1.rep w1
  refine ⟨by rw [← hd.length]; exact line_of sz, fun p np' => ?_⟩
  have ex : Ext H1 (upd H1 p (.tup vs)) := .new np'
  refine q _ e1 _ _ w1 (s1.trans (.ext s1.rep ex)) ⟨?_, fun n => by simp [isL] at n⟩
  show RpI _ _ _ _
  simp only [RpI]
  exact ⟨p, vs, rfl, upd_same, RpIs.kp ex.kp ds vs (hd.imm im)⟩
theorem e_lst (h : DA X np He es ws) : DE X np He (.List es pos) (cLst ws) := by
  refine PE.weak (pe_lst h) fun σ H Q ⟨env, Q0, R, w, q⟩ => ⟨env, _, R, w, fun rl e1 vs H1 w1 s1 r1 => ?_⟩
  obtain ⟨ds, hd, im, sz, w1⟩ := r1.rs s1.rep w1
  refine ⟨by rw [← hd.length]; exact line_of sz, fun p np' => ?_⟩
  have ex : Ext H1 (upd H1 p (.lst vs)) := .new np'
  refine q _ e1 _ _ w1 (s1.trans (.ext s1.rep ex)) ⟨⟨p, vs, rfl, upd_same, RpIs.kp ex.kp ds vs (hd.imm im)⟩, fun _ c e => ?_⟩
  cases e
  exact s1.dom p np'

/-! ### calls of what is built in -/
abbrev FA := List D → (D → Prop) → Prop
def CaD (K : PySem.W.Frag) (r : List V → Hp → VK → Prop) (f : FA) : Prop := ∀ (H : Hp) (ds : List D) (vs : List V) (k : D → Prop) (Q : VK), RpVs K H ds vs → f ds k →
  (∀ z u H', k z → Ext H H' → RpV K H' z u → (isL z = true → ∀ a, u = .ref a → H a = none) → Q u H') → r vs H Q
def cBi (f : FA) (ws : WA) : W := fun env Q => ws env fun rl e1 => rsl e1 rl fun ds => f ds fun z => Q (.val z) e1
theorem bi_core {r : List V → Hp → VK → Prop} {f : FA} (h : CaD X.K r f) : ∀ σ H Q, rE X.K np He (cBi f ws) σ H Q → tCB r (rA X.K np He ws) σ H Q := by
  intro σ H Q ⟨env, Q0, R, w, q⟩
  refine ⟨env, _, R, w, fun rl e1 vs H1 w1 s1 r1 => ?_⟩
  obtain ⟨ds, hd, w1⟩ := r1.rs s1.rep w1
  refine h H1 ds vs _ Q hd w1 fun z u H' k ex rz fz => ?_
  exact q _ e1 u H' k (s1.trans (.ext s1.rep ex)) ⟨rz, fun n c e => s1.dom c (fz n c e)⟩
theorem e_bi {id : String} {r : List V → Hp → VK → Prop} {f : FA} {x : Str} {p : Pos} (hc : CallR X (.builtin id) r) (h : CaD X.K r f) (hm : X.mg x = none) (hv : bootBuiltins x = some (.builtin id)) (ha : DA X np He (a :: es) ws) (hg : Gl X x := by rfl)
    (hn : x ≠ "__name__" := by decide) (hdb : (x == ("__debug__" : Str)) = false := by decide) (he : starEach (a :: es) X.env = (false, eval a X.env) :: starEach es X.env := by rfl) (hpl : (backTo pos (starEach es X.env)).any (·.1) = false := by rfl) :
    DE X np He (.Call (.Name x p) (a :: es) [] pos) (cBi f ws) := PE.weak (pe_callB hc hg hm hv ha hn hdb he hpl) (bi_core h)
theorem e_ty {T : String} {r : List V → Hp → VK → Prop} {f : FA} {x : Str} {p : Pos} (hc : CallR X (.type T) r) (h : CaD X.K r f) (hm : X.mg x = none) (hv : bootBuiltins x = some (.type T)) (ha : DA X np He (a :: es) ws) (hg : Gl X x := by rfl)
    (hn : x ≠ "__name__" := by decide) (hdb : (x == ("__debug__" : Str)) = false := by decide) (he : starEach (a :: es) X.env = (false, eval a X.env) :: starEach es X.env := by rfl) (hpl : (backTo pos (starEach es X.env)).any (·.1) = false := by rfl) :
    DE X np He (.Call (.Name x p) (a :: es) [] pos) (cBi f ws) := PE.weak (pe_callTy hc hg hm hv ha hn hdb he hpl) (bi_core h)
theorem RpVs.one {K : PySem.W.Frag} {H : Hp} {d : D} {vs : List V} (h : RpVs K H [d] vs) : ∃ v, vs = [v] ∧ RpV K H d v := by
  obtain ⟨v, r, rfl, h1, h2⟩ := h
  cases (show r = [] from h2)
  exact ⟨v, rfl, h1⟩
theorem RpVs.two {K : PySem.W.Frag} {H : Hp} {d e : D} {vs : List V} (h : RpVs K H [d, e] vs) : ∃ v w, vs = [v, w] ∧ RpV K H d v ∧ RpV K H e w := by
  obtain ⟨v, r, rfl, h1, h2⟩ := h
  obtain ⟨w, rfl, h3⟩ := RpVs.one h2
  exact ⟨v, w, rfl, h1, h3⟩
end
end DL

namespace DL
open PySem PySem.Spec PyProof.Rows L2
section
variable {X : Cx} {np : Nat} {He : Hp} {a b c e : Expr} {es : List Expr} {wa wb wc : W} {ws : WA} {pos : Pos}

/-! ### built-ins -/
def on1 (f : D → (D → Prop) → Prop) : FA := fun ds k => match ds with
  | [d] => f d k
  | _ => False
theorem on1_of {f : D → (D → Prop) → Prop} {ds : List D} {k : D → Prop} (h : on1 f ds k) : ∃ d, ds = [d] ∧ f d k := by
  unfold on1 at h
  split at h
  · exact ⟨_, rfl, h⟩
  · exact h.elim
def onS (f : List D → (D → Prop) → Prop) : FA := on1 fun d k => match seqD d with
  | some xs => f xs k
  | none => False
theorem onS_of {f : List D → (D → Prop) → Prop} {ds : List D} {k : D → Prop} (h : onS f ds k) : ∃ d xs, ds = [d] ∧ seqD d = some xs ∧ f xs k := by
  obtain ⟨d, e, g⟩ := on1_of h
  split at g
  · exact ⟨d, _, e, by assumption, g⟩
  · exact g.elim
def fLen : FA := onS fun xs k => k (.int xs.length)
theorem cad_len : CaD X.K (fun xs H Q => ∃ p ys, xs = [.ref p] ∧ (SqL X.K H p ys ∨ SqT X.K H p ys) ∧ Q (.int ys.length) H) fLen := by
  intro H ds vs k Q r h q
  obtain ⟨d, xs, rfl, e, h⟩ := onS_of h
  obtain ⟨v, rfl, rv⟩ := r.one
  obtain ⟨p, us, rfl, s, ru⟩ := rv.seq e
  exact ⟨p, us, rfl, s, by rw [← ru.length]; exact q _ _ H h (.refl H) rfl (fun n => by simp [isL] at n)⟩
theorem e_len {p : Pos} (hm : X.mg "len" = none) (ha : DE X np He a wa) (hg : Gl X "len" := by rfl) (he : starEach [a] X.env = (false, eval a X.env) :: starEach [] X.env := by rfl) :
    DE X np He (.Call (.Name "len" p) [a] [] pos) (cBi fLen (cCons wa cNil)) := e_bi call_len_seq cad_len hm PySem.boot_len (a_cons ha a_nil he) hg (he := he)
def fInt : FA := on1 fun d k => match d with
  | .int i => k (.int i)
  | .bl c => k (.int (if c then 1 else 0))
  | _ => False
theorem e_int1 {p : Pos} (hm : X.mg "int" = none) (ha : DE X np He a wa) (hg : Gl X "int" := by rfl) (he : starEach [a] X.env = (false, eval a X.env) :: starEach [] X.env := by rfl) :
    DE X np He (.Call (.Name "int" p) [a] [] pos) (cBi fInt (cCons wa cNil)) := by
  refine e_ty call_int1 ?_ hm (by decide +kernel) (a_cons ha a_nil he) hg (he := he)
  intro H ds vs k Q r h q
  obtain ⟨d, rfl, h⟩ := on1_of h
  obtain ⟨v, rfl, rv⟩ := r.one
  cases d <;> first | exact h.elim | skip
  · cases rv
    exact .inr ⟨_, rfl, q _ _ H h (.refl H) rfl (fun n => by simp [isL] at n)⟩
  · cases rv
    exact .inl ⟨_, rfl, q _ _ H h (.refl H) rfl (fun n => by simp [isL] at n)⟩
def fAbs : FA := on1 fun d k => match d with
  | .int i => k (.int (if i < 0 then -i else i))
  | _ => False
theorem e_abs {p : Pos} (hm : X.mg "abs" = none) (ha : DE X np He a wa) (hg : Gl X "abs" := by rfl) (he : starEach [a] X.env = (false, eval a X.env) :: starEach [] X.env := by rfl) :
    DE X np He (.Call (.Name "abs" p) [a] [] pos) (cBi fAbs (cCons wa cNil)) := by
  refine e_bi call_abs ?_ hm (by decide +kernel) (a_cons ha a_nil he) hg (he := he)
  intro H ds vs k Q r h q
  obtain ⟨d, rfl, h⟩ := on1_of h
  obtain ⟨v, rfl, rv⟩ := r.one
  cases d <;> first | exact h.elim | skip
  cases rv
  exact ⟨_, rfl, q _ _ H h (.refl H) rfl (fun n => by simp [isL] at n)⟩
def fList : FA := onS fun xs k => k (.lst xs)
def fTuple : FA := on1 fun d k => match d with
  | .tpd xs => k (.tpd xs)
  | .tup xs => k (.tup xs)
  | .lst xs => k (.tup xs)
  | .rol xs => k (.tup xs)
  | _ => False
theorem e_list {p : Pos} (hm : X.mg "list" = none) (ha : DE X np He a wa) (hg : Gl X "list" := by rfl) (he : starEach [a] X.env = (false, eval a X.env) :: starEach [] X.env := by rfl) :
    DE X np He (.Call (.Name "list" p) [a] [] pos) (cBi fList (cCons wa cNil)) := by
  refine e_ty call_list_of ?_ hm (by decide +kernel) (a_cons ha a_nil he) hg (he := he)
  intro H ds vs k Q r h q
  obtain ⟨d, xs, rfl, e, h⟩ := onS_of h
  obtain ⟨v, rfl, rv⟩ := r.one
  obtain ⟨p, us, rfl, s, ru⟩ := rv.seq e
  refine ⟨p, us, rfl, s, fun l nl => q _ _ _ h (.new nl) ⟨l, us, rfl, upd_same, RpIs.kp (Ext.new nl).kp xs us ru⟩ (fun _ a e => ?_)⟩
  cases e
  exact nl
theorem e_tuple {p : Pos} (hm : X.mg "tuple" = none) (ha : DE X np He a wa) (hg : Gl X "tuple" := by rfl) (he : starEach [a] X.env = (false, eval a X.env) :: starEach [] X.env := by rfl) :
    DE X np He (.Call (.Name "tuple" p) [a] [] pos) (cBi fTuple (cCons wa cNil)) := by
  refine e_ty call_tuple_of ?_ hm (by decide +kernel) (a_cons ha a_nil he) hg (he := he)
  intro H ds vs k Q r h q
  obtain ⟨d, rfl, h⟩ := on1_of h
  obtain ⟨v, rfl, rv⟩ := r.one
  have lst : ∀ {p : Addr} {us : List V} {xs : List D}, SqL X.K H p us → RpIs X.K H xs us → k (.tup xs) → ∃ (p' : Addr) (us' : List V), [V.ref p] = [.ref p'] ∧ ((SqL X.K H p' us' ∧ ∀ l, H l = none → Q (.ref l) (upd H l (.tup us'))) ∨ (SqT X.K H p' us' ∧ Q (.ref p') H)) := by
    intro p us xs s ru h
    refine ⟨p, us, rfl, .inl ⟨s, fun l nl => q _ _ _ h (.new nl) ?_ (fun n => by simp [isL] at n)⟩⟩
    show RpI _ _ _ _
    simp only [RpI]
    exact ⟨l, us, rfl, upd_same, RpIs.kp (Ext.new nl).kp xs us ru⟩
  cases d with
  | lst xs =>
    obtain ⟨p, us, rfl, s, ru⟩ := rv
    exact lst (.of s) ru h
  | rol xs =>
    obtain ⟨p, us, rfl, s, ru⟩ := (show ∃ a vs, v = .ref a ∧ SqR X.K H a vs ∧ RpIs X.K H xs vs by simpa only [RpV, RpI] using rv)
    exact lst s.seq ru h
  | tup xs =>
    obtain ⟨p, us, rfl, s, ru⟩ := (show ∃ a vs, v = .ref a ∧ H a = some (.tup vs) ∧ RpIs X.K H xs vs by simpa only [RpV, RpI] using rv)
    exact ⟨p, us, rfl, .inr ⟨.of s, q _ _ H h (.refl H) rv (fun n => by simp [isL] at n)⟩⟩
  | tpd xs =>
    obtain ⟨p, us, rfl, s, ru⟩ := (show ∃ a vs, v = .ref a ∧ TpK X.K H a vs ∧ RpIs X.K H xs vs by simpa only [RpV, RpI] using rv)
    exact ⟨p, us, rfl, .inr ⟨s.t, q _ _ H h (.refl H) rv (fun n => by simp [isL] at n)⟩⟩
  | _ => exact h.elim
/-- a list only -/
def onL (f : List D → (D → Prop) → Prop) : FA := on1 fun d k => match d with
  | .lst xs => f xs k
  | _ => False
theorem onL_of {f : List D → (D → Prop) → Prop} {ds : List D} {k : D → Prop} (h : onL f ds k) : ∃ xs, ds = [.lst xs] ∧ f xs k := by
  obtain ⟨d, e, g⟩ := on1_of h
  split at g
  · exact ⟨_, e, g⟩
  · exact g.elim
/-! ### isinstance -/
def tyN : D → String
  | .non => "NoneType" | .bl _ => "bool" | .int _ => "int" | .str _ => "str" | .tup _ => "tuple" | .lst _ => "list" | .rol _ => "list" | .tpd _ => "tuple" | .rod _ _ => "dict"
def isRod : D → Bool
  | .rod _ _ => true
  | _ => false
theorem tyN_ok {K : PySem.W.Frag} {H : Hp} {d : D} {v : V} (h : RpV K H d v) (nr : isRod d = false) : TyX K H v (.type (tyN d)) := by
  cases d with
  | non => cases h; exact .base .non
  | bl b => cases h; exact .base (.bl b)
  | int b => cases h; exact .base (.int b)
  | str b => cases h; exact .base (.str b)
  | lst ds => obtain ⟨a, vs, rfl, e, _⟩ := h; exact .base (.lst e)
  | rol ds =>
    obtain ⟨a, vs, rfl, s, _⟩ := (show ∃ a vs, v = .ref a ∧ SqR K H a vs ∧ RpIs K H ds vs by simpa only [RpV, RpI] using h)
    rcases s with ⟨o, s⟩ | ⟨o, its, n, s, c, _⟩
    · exact .base (.frz s)
    · exact .kList s c
  | tup ds =>
    obtain ⟨a, vs, rfl, s, _⟩ := (show ∃ a vs, v = .ref a ∧ H a = some (.tup vs) ∧ RpIs K H ds vs by simpa only [RpV, RpI] using h)
    exact .base (.tup s)
  | tpd ds =>
    obtain ⟨a, vs, rfl, s, _⟩ := (show ∃ a vs, v = .ref a ∧ TpK K H a vs ∧ RpIs K H ds vs by simpa only [RpV, RpI] using h)
    rcases s with ⟨o, s, _⟩ | ⟨o, its, n, s, c, _⟩
    · exact .fTuple s
    · exact .kTuple s c
  | rod ks ds => simp [isRod] at nr
inductive Ty5 where
  | tuple | list | bool | int | str
def Ty5.nm : Ty5 → String
  | .tuple => "tuple" | .list => "list" | .bool => "bool" | .int => "int" | .str => "str"
def isT : D → Ty5 → Bool
  | .tup _, .tuple => true
  | .tpd _, .tuple => true
  | .lst _, .list => true
  | .rol _, .list => true
  | .bl _, .bool => true
  | .bl _, .int => true
  | .int _, .int => true
  | .str _, .str => true
  | _, _ => false
theorem kit_all (d : D) (T : Ty5) : kitB (tyN d) T.nm = some (isT d T) := by
  cases d <;> cases T <;> (simp only [tyN, Ty5.nm, isT]; decide +kernel)
/-- it is no dict -/
def nrd (d : D) (A : Prop) : Prop := match d with
  | .rod _ _ => False
  | _ => A
theorem nrd_of {d : D} {A : Prop} (h : nrd d A) : isRod d = false ∧ A := by
  cases d <;> first | exact h.elim | exact ⟨rfl, h⟩
def cIsi (T : Ty5) (wa : W) : W := fun env Q => wa env fun ra e1 => rs e1 ra fun x => nrd x (Q (.val (.bl (isT x T))) e1)
theorem e_isi (T : Ty5) {x : Str} {p p2 : Pos} (hm : X.mg "isinstance" = none) (hx : X.mg x = none) (hv : bootBuiltins x = some (.type T.nm)) (ha : DE X np He a wa) (hg : Gl X "isinstance" := by rfl) (hg2 : Gl X x := by rfl) (hn : x ≠ "__name__" := by decide)
    (hd : (x == ("__debug__" : Str)) = false := by decide) (he : starEach [a, .Name x p2] X.env = (false, eval a X.env) :: starEach [.Name x p2] X.env := by rfl) (hpl : (backTo pos (starEach [.Name x p2] X.env)).any (·.1) = false := by rfl) :
    DE X np He (.Call (.Name "isinstance" p) [a, .Name x p2] [] pos) (cIsi T wa) := by
  refine PE.weak (pe_callB call_isi hg hm (by decide +kernel) (pa_cons ha (pa_cons (pe_bltn (v := .ty T.nm) hg2 hx hv rfl hn hd) pa_nil) he) (he := he) (hpl := hpl)) fun σ H Q ⟨env, Q0, R, w, q⟩ => ⟨env, _, R, w, fun ra e1 v1 H1 w1 s1 r1 => ?_⟩
  obtain ⟨d, hd, w1⟩ := r1.rs s1.rep w1
  obtain ⟨nr, w1⟩ := nrd_of w1
  exact ⟨v1, .ty T.nm, .type (tyN d), .type T.nm, isT d T, rfl, .ty T.nm, tyN_ok hd nr, kit_ty (kit_all d T), q _ e1 _ H1 w1 s1 ⟨rfl, fun n => by simp [isL] at n⟩⟩
theorem kit2 {K : PySem.W.Frag} {d : D} {T U : Ty5} : PySem.W.kitAny K (.type (tyN d)) [.type T.nm, .type U.nm] = some (isT d T || isT d U) := by
  refine kitAny_cons (kit_ty (kit_all d T)) (fun h => ?_) (fun h => by rw [h]; rfl)
  refine kitAny_cons (kit_ty (kit_all d U)) (fun h' => ?_) (fun h' => by rw [h, h']; rfl)
  rw [h, h']
  rfl
def cIsi2 (T U : Ty5) (wa : W) : W := fun env Q => wa env fun ra e1 => rs e1 ra fun x => nrd x (Q (.val (.bl (isT x T || isT x U))) e1)
theorem e_isi2 (T U : Ty5) {x y : Str} {k : Nat} {p p2 p3 p4 : Pos} (hm : X.mg "isinstance" = none) (hx : X.mg x = none) (hy : X.mg y = none) (hv : bootBuiltins x = some (.type T.nm)) (hw : bootBuiltins y = some (.type U.nm)) (ha : DE X np He a wa)
    (hg : Gl X "isinstance" := by rfl) (hg2 : Gl X x := by rfl) (hg3 : Gl X y := by rfl) (hn : x ≠ "__name__" := by decide) (hn2 : y ≠ "__name__" := by decide)
    (hd : (x == ("__debug__" : Str)) = false := by decide) (hd2 : (y == ("__debug__" : Str)) = false := by decide) (he : starEach [a, .Tuple [.Name x p2, .Name y p3] k p4] X.env = (false, eval a X.env) :: starEach [.Tuple [.Name x p2, .Name y p3] k p4] X.env := by rfl) (hpl : (backTo pos (starEach [.Tuple [.Name x p2, .Name y p3] k p4] X.env)).any (·.1) = false := by rfl) :
    DE X np He (.Call (.Name "isinstance" p) [a, .Tuple [.Name x p2, .Name y p3] k p4] [] pos) (cIsi2 T U wa) := by
  refine PE.weak (pe_callB call_isiT hg hm (by decide +kernel) (pa_cons ha (pa_cons (pe_tup (pa_cons (pe_bltn (v := .ty T.nm) hg2 hx hv rfl hn hd) (pa_cons (pe_bltn (v := .ty U.nm) hg3 hy hw rfl hn2 hd2) pa_nil))) pa_nil) he) (he := he) (hpl := hpl)) fun σ H Q ⟨env, Q0, R, w, q⟩ => ⟨env, _, R, w, fun ra e1 v1 H1 w1 s1 r1 => ?_⟩
  refine ⟨by rw [sizeLine_eq]; show 2 ≤ 16777216; decide, fun p np' => ?_⟩
  have ex : Ext H1 (upd H1 p (.tup [.ty T.nm, .ty U.nm])) := .new np'
  have s2 := s1.trans (.ext s1.rep ex)
  have r2 := r1.keep R s1 (.ext s1.rep ex)
  obtain ⟨d, hd, w1⟩ := r2.rs s2.rep w1
  obtain ⟨nr, w1⟩ := nrd_of w1
  exact ⟨v1, p, _, .type (tyN d), [.type T.nm, .type U.nm], isT d T || isT d U, rfl, upd_same, .cons (.ty T.nm) (.cons (.ty U.nm) .nil), tyN_ok hd nr, kit2, q _ e1 _ _ w1 s2 ⟨rfl, fun n => by simp [isL] at n⟩⟩

/-! ### lists: +, * , in -/
def fAddG : F2 := fun x y k => match x, y with
  | .int i, .int j => k (.int (i + j))
  | .lst xs, .lst ys => xs.length + ys.length ≤ 1000000 ∧ k (.lst (xs ++ ys))
  | .tup xs, .tup ys => xs.length + ys.length ≤ 1000000 ∧ k (.tup (xs ++ ys))
  | .tpd xs, .tpd ys => xs.length + ys.length ≤ 1000000 ∧ k (.tup (xs ++ ys)) ∧ k (.tpd (xs ++ ys))
  | .tup xs, .tpd ys => xs.length + ys.length ≤ 1000000 ∧ k (.tup (xs ++ ys)) ∧ k (.tpd (xs ++ ys))
  | .tpd xs, .tup ys => xs.length + ys.length ≤ 1000000 ∧ k (.tup (xs ++ ys)) ∧ k (.tpd (xs ++ ys))
  | _, _ => False
theorem opd_addG : OpD X.K (fun x y H Q => rI0 (fun i j => V.int (i + j)) x y H Q ∨ rCat x y H Q ∨ rCatA X.K x y H Q) fAddG := by
  intro H x y v w k Q rx ry h q
  unfold fAddG at h
  split at h
  · cases rx; cases ry
    exact .inl ⟨_, _, rfl, rfl, q _ _ H h (.refl H) rfl (fun n => by simp [isL] at n)⟩
  · obtain ⟨a1, vs, rfl, e1, r1⟩ := rx
    obtain ⟨a2, us, rfl, e2, r2⟩ := ry
    refine .inr (.inl ⟨a1, a2, vs, us, rfl, rfl, e1, e2, by rw [← r1.length, ← r2.length]; exact line_of h.1, fun p np' => ?_⟩)
    have ex : Ext H (upd H p (.lst (vs ++ us))) := .new np'
    refine q _ _ _ h.2 ex ⟨p, _, rfl, upd_same, RpIs.kp ex.kp _ _ (r1.append r2)⟩ (fun _ c e => ?_)
    cases e
    exact np'
  · obtain ⟨a1, vs, rfl, e1, r1⟩ := rx
    obtain ⟨a2, us, rfl, e2, r2⟩ := ry
    refine .inr (.inr ⟨a1, a2, vs, us, rfl, rfl, .of e1, .of e2, by rw [← r1.length, ← r2.length]; exact line_of h.1, fun n1 => ?_, fun _ n2 => ?_, fun _ _ p np' => ?_⟩)
    · subst n1
      have hxs := List.eq_nil_of_length_eq_zero (r1.length.trans rfl)
      subst hxs
      exact q _ _ H h.2 (.refl H) ⟨a2, us, rfl, e2, r2⟩ (fun n => by simp [isL] at n)
    · subst n2
      have hys := List.eq_nil_of_length_eq_zero (r2.length.trans rfl)
      subst hys
      exact q _ _ H h.2 (.refl H) ⟨a1, vs, rfl, e1, by rw [List.append_nil]; exact r1⟩ (fun n => by simp [isL] at n)
    · have ex : Ext H (upd H p (.tup (vs ++ us))) := .new np'
      exact q _ _ _ h.2 ex ⟨p, _, rfl, upd_same, RpIs.kp ex.kp _ _ (r1.append r2)⟩ (fun n => by simp [isL] at n)
  · obtain ⟨a1, vs, rfl, e1, r1⟩ := rx
    obtain ⟨a2, us, rfl, e2, r2⟩ := ry
    refine .inr (.inr ⟨a1, a2, vs, us, rfl, rfl, e1.t, e2.t, by rw [← r1.length, ← r2.length]; exact line_of h.1, fun n1 => ?_, fun _ n2 => ?_, fun _ _ p np' => ?_⟩)
    · subst n1
      have hxs := List.eq_nil_of_length_eq_zero (r1.length.trans rfl)
      subst hxs
      exact q _ _ H h.2.2 (.refl H) ⟨a2, us, rfl, e2, r2⟩ (fun n => by simp [isL] at n)
    · subst n2
      have hys := List.eq_nil_of_length_eq_zero (r2.length.trans rfl)
      subst hys
      exact q _ _ H h.2.2 (.refl H) ⟨a1, vs, rfl, e1, by rw [List.append_nil]; exact r1⟩ (fun n => by simp [isL] at n)
    · have ex : Ext H (upd H p (.tup (vs ++ us))) := .new np'
      exact q _ _ _ h.2.1 ex ⟨p, _, rfl, upd_same, RpIs.kp ex.kp _ _ (r1.append r2)⟩ (fun n => by simp [isL] at n)
  · obtain ⟨a1, vs, rfl, e1, r1⟩ := rx
    obtain ⟨a2, us, rfl, e2, r2⟩ := ry
    refine .inr (.inr ⟨a1, a2, vs, us, rfl, rfl, .of e1, e2.t, by rw [← r1.length, ← r2.length]; exact line_of h.1, fun n1 => ?_, fun _ n2 => ?_, fun _ _ p np' => ?_⟩)
    · subst n1
      have hxs := List.eq_nil_of_length_eq_zero (r1.length.trans rfl)
      subst hxs
      exact q _ _ H h.2.2 (.refl H) ⟨a2, us, rfl, e2, r2⟩ (fun n => by simp [isL] at n)
    · subst n2
      have hys := List.eq_nil_of_length_eq_zero (r2.length.trans rfl)
      subst hys
      exact q _ _ H h.2.1 (.refl H) ⟨a1, vs, rfl, e1, by rw [List.append_nil]; exact r1⟩ (fun n => by simp [isL] at n)
    · have ex : Ext H (upd H p (.tup (vs ++ us))) := .new np'
      exact q _ _ _ h.2.1 ex ⟨p, _, rfl, upd_same, RpIs.kp ex.kp _ _ (r1.append r2)⟩ (fun n => by simp [isL] at n)
  · obtain ⟨a1, vs, rfl, e1, r1⟩ := rx
    obtain ⟨a2, us, rfl, e2, r2⟩ := ry
    refine .inr (.inr ⟨a1, a2, vs, us, rfl, rfl, e1.t, .of e2, by rw [← r1.length, ← r2.length]; exact line_of h.1, fun n1 => ?_, fun _ n2 => ?_, fun _ _ p np' => ?_⟩)
    · subst n1
      have hxs := List.eq_nil_of_length_eq_zero (r1.length.trans rfl)
      subst hxs
      exact q _ _ H h.2.1 (.refl H) ⟨a2, us, rfl, e2, r2⟩ (fun n => by simp [isL] at n)
    · subst n2
      have hys := List.eq_nil_of_length_eq_zero (r2.length.trans rfl)
      subst hys
      exact q _ _ H h.2.2 (.refl H) ⟨a1, vs, rfl, e1, by rw [List.append_nil]; exact r1⟩ (fun n => by simp [isL] at n)
    · have ex : Ext H (upd H p (.tup (vs ++ us))) := .new np'
      exact q _ _ _ h.2.1 ex ⟨p, _, rfl, upd_same, RpIs.kp ex.kp _ _ (r1.append r2)⟩ (fun n => by simp [isL] at n)
  · exact h.elim
theorem e_addG (ha : DE X np He a wa) (hb : DE X np He b wb) : DE X np He (.BinOp a .Add b pos) (cOp fAddG wa wb) := e_op (op_add.or (op_cat.or op_catA)) opd_addG ha hb
theorem RpIs.rep {K : PySem.W.Frag} {H : Hp} {ds : List D} {vs : List V} (h : RpIs K H ds vs) : ∀ n : Nat, RpIs K H (List.replicate n ds).flatten (List.replicate n vs).flatten
  | 0 => by simp [RpIs]
  | n + 1 => by
    rw [List.replicate_succ, List.replicate_succ, List.flatten_cons, List.flatten_cons]
    exact h.append (RpIs.rep h n)
/-- a flat value within a flat list -/
def flatD : D → Bool
  | .non => true | .bl _ => true | .int _ => true | .str _ => true
  | _ => false
def eqF : D → D → Bool
  | .non, .non => true
  | .bl a, .bl b => a == b
  | .bl a, .int b => (if a then 1 else 0) == b
  | .int a, .bl b => a == (if b then 1 else 0)
  | .int a, .int b => a == b
  | .str a, .str b => a == b
  | _, _ => false
def flatA : List D → Bool
  | [] => true
  | d :: r => flatD d && flatA r
def fIn (neg : Bool) : F2 := fun x y k => match seqD y with
  | some ys => flatD x = true ∧ flatA ys = true ∧ k (.bl (if neg then !(ys.any fun y => eqF y x) else ys.any fun y => eqF y x))
  | none => False
theorem flat_ok {K : PySem.W.Frag} {H : Hp} {d : D} {v : V} (h : RpV K H d v) (f : flatD d = true) : flatV v = true := by
  cases d <;> first | (cases h; rfl) | (simp [flatD] at f)
theorem eqF_ok {K : PySem.W.Frag} {H : Hp} {d e : D} {v w : V} (h : RpV K H d v) (g : RpV K H e w) (f : flatD d = true) (f' : flatD e = true) : eqV v w = eqF d e := by
  cases d <;> first | (simp [flatD] at f; done) | skip
  all_goals cases e <;> first | (simp [flatD] at f'; done) | (cases h; cases g; rfl)
theorem flatA_ok {K : PySem.W.Frag} {H : Hp} {d : D} {v : V} (hd : RpV K H d v) (fd : flatD d = true) : ∀ {ys : List D} {us : List V}, RpIs K H ys us → flatA ys = true → us.all flatV = true ∧ inV v us = ys.any fun y => eqF y d
  | [], us, r, _ => by
    simp only [RpIs] at r
    subst r
    exact ⟨rfl, rfl⟩
  | y :: ys, us, r, f => by
    simp only [RpIs] at r
    obtain ⟨u, r', rfl, h1, h2⟩ := r
    simp only [flatA, Bool.and_eq_true] at f
    obtain ⟨i1, i2⟩ := flatA_ok hd fd h2 f.2
    have h1' : RpV K H y u := .of h1
    refine ⟨by rw [List.all_cons, flat_ok h1' f.1, i1]; rfl, ?_⟩
    unfold inV at i2 ⊢
    rw [List.any_cons, List.any_cons, i2, eqF_ok h1' hd f.1 fd]
theorem opd_in {neg : Bool} : OpD X.K (rIn X.K neg) (fIn neg) := by
  intro H x y v w k Q rx ry h q
  unfold fIn at h
  split at h
  · rename_i ys e
    obtain ⟨f1, f2, h⟩ := h
    obtain ⟨p, us, rfl, s, ru⟩ := ry.seq e
    obtain ⟨i1, i2⟩ := flatA_ok rx f1 ru f2
    refine ⟨p, us, rfl, s, flat_ok rx f1, i1, ?_⟩
    rw [i2]
    exact q _ _ H h (.refl H) rfl (fun n => by simp [isL] at n)
  · exact h.elim
theorem e_notIn (ha : DE X np He a wa) (hb : DE X np He b wb) (hm : behindInMarks .NotIn b = false := by with_unfolding_all rfl) : DE X np He (.Compare a [.NotIn] [b] pos) (cOp (fIn true) wa wb) := e_cmp op_notIn_seq opd_in ha hb hm
theorem e_in (ha : DE X np He a wa) (hb : DE X np He b wb) (hm : behindInMarks .In b = false := by with_unfolding_all rfl) : DE X np He (.Compare a [.In] [b] pos) (cOp (fIn false) wa wb) := e_cmp op_in_seq opd_in ha hb hm
theorem t_in (ha : DE X np He a wa) (hb : DE X np He b wb) (hm : behindInMarks .In b = false := by with_unfolding_all rfl) : DT X np He (.Compare a [.In] [b] pos) (cOp (fIn false) wa wb) := t_cmp op_in_seq opd_in ha hb hm

/-! ### slices -/
def cutD (xs : List D) (lo hi : Option Int) : List D := (xs.drop (HT.sIx xs.length 0 lo)).take (HT.sIx xs.length xs.length hi - HT.sIx xs.length 0 lo)
theorem cut_ok {K : PySem.W.Frag} {H : Hp} {ds : List D} {vs : List V} (r : RpIs K H ds vs) (lo hi : Option Int) : RpIs K H (cutD ds lo hi) (cutV vs lo hi) := by
  unfold cutD cutV
  rw [r.length]
  exact RpIs.take _ (RpIs.drop _ r)
def slD (x : D) (lo hi : Option Int) (k : D → Prop) : Prop := match x with
  | .lst xs => k (.lst (cutD xs lo hi))
  | .rol xs => k (.lst (cutD xs lo hi))
  | .tup xs => k (.tup (cutD xs lo hi))
  | .tpd xs => k (.tup (cutD xs lo hi)) ∧ k (.tpd (cutD xs lo hi))
  | _ => False
theorem whole_cut {xs : List V} {lo hi : Option Int} (h : HT.sIx xs.length 0 lo = 0 ∧ HT.sIx xs.length xs.length hi = xs.length) : cutV xs lo hi = xs := by
  unfold cutV
  rw [h.1, h.2]
  simp
theorem slr : SlR X (fun x lo hi H Q => rSlL X.K x lo hi H Q ∨ rSlA X.K x lo hi H Q) := sl_list.or sl_tupA
theorem sl_ok {H : Hp} {x : D} {v : V} {lo hi : Option Int} {k : D → Prop} {Q : VK} (rx : RpV X.K H x v) (h : slD x lo hi k)
    (q : ∀ z u H', k z → Ext H H' → RpV X.K H' z u → (isL z = true → ∀ a, u = .ref a → H a = none) → Q u H') : rSlL X.K v lo hi H Q ∨ rSlA X.K v lo hi H Q := by
  have lst : ∀ {xs : List D} {a : Addr} {vs : List V}, SqL X.K H a vs → RpIs X.K H xs vs → k (.lst (cutD xs lo hi)) → rSlL X.K (.ref a) lo hi H Q := fun {xs a vs} s r h => by
    refine ⟨a, vs, rfl, s, fun p np' => ?_⟩
    have ex : Ext H (upd H p (.lst (cutV vs lo hi))) := .new np'
    refine q _ _ _ h ex ⟨p, _, rfl, upd_same, RpIs.kp ex.kp _ _ (cut_ok r lo hi)⟩ (fun _ c e => ?_)
    cases e
    exact np'
  cases x with
  | lst xs => obtain ⟨a, vs, rfl, s, r⟩ := rx; exact .inl (lst (.of s) r h)
  | rol xs =>
    obtain ⟨a, vs, rfl, s, r⟩ := (show ∃ a vs, v = .ref a ∧ SqR X.K H a vs ∧ RpIs X.K H xs vs by simpa only [RpV, RpI] using rx)
    exact .inl (lst s.seq r h)
  | tup xs =>
    obtain ⟨a, vs, rfl, s, r⟩ := (show ∃ a vs, v = .ref a ∧ H a = some (.tup vs) ∧ RpIs X.K H xs vs by simpa only [RpV, RpI] using rx)
    refine .inr ⟨a, vs, rfl, .of s, fun hw => ?_, fun _ p np' => ?_⟩
    · refine q _ _ H h (.refl H) ?_ (fun n => by simp [isL] at n)
      show RpI _ _ _ _
      simp only [RpI]
      refine ⟨a, vs, rfl, s, ?_⟩
      have := cut_ok r lo hi
      rw [whole_cut hw] at this
      exact this
    · have ex : Ext H (upd H p (.tup (cutV vs lo hi))) := .new np'
      refine q _ _ _ h ex ?_ (fun n => by simp [isL] at n)
      show RpI _ _ _ _
      simp only [RpI]
      exact ⟨p, _, rfl, upd_same, RpIs.kp ex.kp _ _ (cut_ok r lo hi)⟩
  | tpd xs =>
    obtain ⟨a, vs, rfl, s, r⟩ := (show ∃ a vs, v = .ref a ∧ TpK X.K H a vs ∧ RpIs X.K H xs vs by simpa only [RpV, RpI] using rx)
    refine .inr ⟨a, vs, rfl, s.t, fun hw => ?_, fun _ p np' => ?_⟩
    · refine q _ _ H h.2 (.refl H) ?_ (fun n => by simp [isL] at n)
      show RpI _ _ _ _
      simp only [RpI]
      refine ⟨a, vs, rfl, s, ?_⟩
      have := cut_ok r lo hi
      rw [whole_cut hw] at this
      exact this
    · have ex : Ext H (upd H p (.tup (cutV vs lo hi))) := .new np'
      refine q _ _ _ h.1 ex ?_ (fun n => by simp [isL] at n)
      show RpI _ _ _ _
      simp only [RpI]
      exact ⟨p, _, rfl, upd_same, RpIs.kp ex.kp _ _ (cut_ok r lo hi)⟩
  | _ => exact False.elim h
def isI (d : D) (k : Int → Prop) : Prop := match d with
  | .int i => k i
  | _ => False
theorem isI_of {d : D} {k : Int → Prop} (h : isI d k) : ∃ i, d = .int i ∧ k i := by
  unfold isI at h
  split at h
  · exact ⟨_, rfl, h⟩
  · exact h.elim
def cSlL (wa wb : W) : W := fun env Q => wa env fun ra e1 => wb e1 fun rb e2 => rs e2 rb fun y => isI y fun lo => rs e2 ra fun x => slD x (some lo) none fun z => Q (.val z) e2
def cSlH (wa wb : W) : W := fun env Q => wa env fun ra e1 => wb e1 fun rb e2 => rs e2 rb fun y => isI y fun hi => rs e2 ra fun x => slD x none (some hi) fun z => Q (.val z) e2
theorem e_slL {p2 : Pos} (ha : DE X np He a wa) (hb : DE X np He b wb) : DE X np He (.Subscript a (.Slice (some b) none none p2) pos) (cSlL wa wb) := by
  refine PE.weak (pe_slice slr ha (po_some hb) po_none) fun σ H Q ⟨env, Q0, R, w, q⟩ => ⟨env, _, R, w, fun ra e1 v1 H1 w1 s1 r1 => ⟨e1, _, s1.rep, w1, fun rb e2 v2 H2 w2 s2 r2 => ?_⟩⟩
  obtain ⟨y, hy, w2⟩ := r2.rs s2.rep w2
  obtain ⟨i, rfl, w2⟩ := isI_of w2
  have s12 := s1.trans s2
  obtain ⟨x, hx, w2⟩ := (r1.keep R s1 s2).rs s2.rep w2
  exact ⟨i, hy, sl_ok hx w2 fun z u H' k ex rz fz => q _ e2 u H' k (s12.trans (.ext s2.rep ex)) ⟨rz, fun n c e => s12.dom c (fz n c e)⟩⟩
theorem e_slH {p2 : Pos} (ha : DE X np He a wa) (hb : DE X np He b wb) : DE X np He (.Subscript a (.Slice none (some b) none p2) pos) (cSlH wa wb) := by
  refine PE.weak (pe_slice slr ha po_none (po_some hb)) fun σ H Q ⟨env, Q0, R, w, q⟩ => ⟨env, _, R, w, fun ra e1 v1 H1 w1 s1 r1 => ⟨e1, _, s1.rep, w1, fun rb e2 v2 H2 w2 s2 r2 => ?_⟩⟩
  obtain ⟨y, hy, w2⟩ := r2.rs s2.rep w2
  obtain ⟨i, rfl, w2⟩ := isI_of w2
  have s12 := s1.trans s2
  obtain ⟨x, hx, w2⟩ := (r1.keep R s1 s2).rs s2.rep w2
  exact ⟨i, hy, sl_ok hx w2 fun z u H' k ex rz fz => q _ e2 u H' k (s12.trans (.ext s2.rep ex)) ⟨rz, fun n c e => s12.dom c (fz n c e)⟩⟩
end
end DL

namespace DL
open PySem PySem.Spec PyProof.Rows L2
section
variable {K : PySem.W.Frag} {np : Nat} {He : Hp} {σ σ' σ'' : L2.St} {H H' H'' : Hp} {env env' env'' : DEnv}

/-! ### a list in a slot is written -/
theorem kp_store {a : Addr} {us ws : List V} (h : H a = some (.lst us)) : Kp H (upd H a (.lst ws)) := fun b o e n => by
  have hb : b ≠ a := fun z => by
    subst z
    rw [h] at e
    exact n us (Option.some.inj e).symm
  rw [upd_ne hb]
  exact e
theorem SE.store {i : Nat} {xs ys : List D} {a : Addr} {us ws : List V} (R : Rep K np He σ H env) (h : env[i]? = some (some (D.lst xs))) (hs : σ[i]? = some (some (V.ref a))) (ha : H a = some (.lst us)) (r : RpIs K H ys ws) :
    SE K np He σ H env (upd H a (.lst ws)) (env.set i (some (D.lst ys))) := by
  have hi : i < env.length := (List.getElem?_eq_some_iff.mp h).1
  have kp : Kp H (upd H a (.lst ws)) := kp_store ha
  have isl : ∀ (j : Nat) (zs : List D), (env.set i (some (D.lst ys)))[j]? = some (some (D.lst zs)) → ∃ zs', env[j]? = some (some (D.lst zs')) := fun j zs e => by
    by_cases hj : i = j
    · subst hj; exact ⟨xs, h⟩
    · rw [List.getElem?_set_ne hj] at e; exact ⟨zs, e⟩
  refine ⟨⟨by rw [List.length_set]; exact R.len, fun j d e => ?_, fun j l zs zs' c e1 e2 s1 s2 => ?_, fun j zs c hj e s => ?_, fun b n => ?_⟩, fun j => ?_, fun b o e n => ?_, fun b n => ?_⟩
  · by_cases hj : i = j
    · subst hj
      rw [List.getElem?_set_self hi] at e
      cases e
      exact ⟨_, hs, a, ws, rfl, upd_same, RpIs.kp kp ys ws r⟩
    · rw [List.getElem?_set_ne hj] at e
      obtain ⟨v, e1, rv⟩ := R.val j d e
      refine ⟨v, e1, ?_⟩
      cases d with
      | lst zs =>
        refine rv.kpl kp fun c o ec eo => ?_
        subst ec
        have : c ≠ a := fun z => by
          subst z
          exact hj (R.apart i j xs zs c h e hs e1)
        rw [upd_ne this]
        exact eo
      | _ => exact rv.kp kp rfl
  · obtain ⟨w1, q1⟩ := isl j zs e1
    obtain ⟨w2, q2⟩ := isl l zs' e2
    exact R.apart j l w1 w2 c q1 q2 s1 s2
  · obtain ⟨w1, q1⟩ := isl j zs e
    exact R.own j w1 c hj q1 s
  · by_cases hb : b = a
    · subst hb; rw [upd_same] at n; cases n
    · rw [upd_ne hb] at n; exact R.dom b n
  · by_cases hj : i = j
    · subst hj
      exact .inr ⟨xs, ys, h, List.getElem?_set_self hi⟩
    · exact .inl (List.getElem?_set_ne hj)
  · have hb : b ≠ a := fun z => by
      subst z
      exact n ⟨i, xs, h, hs⟩
    rw [upd_ne hb]
    exact e
  · by_cases hb : b = a
    · subst hb; rw [upd_same] at n; cases n
    · rw [upd_ne hb] at n; exact n
def getl (env : DEnv) (i : Nat) (k : List D → Prop) : Prop := match env[i]? with
  | some (some (.lst xs)) => k xs
  | _ => False
theorem getl_of {i : Nat} {k : List D → Prop} (h : getl env i k) : ∃ xs, env[i]? = some (some (D.lst xs)) ∧ k xs := by
  unfold getl at h
  split at h
  · exact ⟨_, by assumption, h⟩
  · exact h.elim
/-- the list of a slot, by its address -/
theorem Rep.lst (R : Rep K np He σ H env) {i : Nat} {xs : List D} (h : env[i]? = some (some (D.lst xs))) : ∃ a us, σ[i]? = some (some (V.ref a)) ∧ H a = some (.lst us) ∧ RpIs K H xs us := by
  obtain ⟨v, e, a, us, rfl, e2, r⟩ := R.val i _ h
  exact ⟨a, us, e, e2, r⟩
end

section
variable {X : Cx} {np : Nat} {He : Hp} {a b c e : Expr} {es : List Expr} {wa wb wc : W} {ws : WA} {pos : Pos}
/-! ### methods of a list in a slot -/
abbrev FM := List D → List D → (D → List D → Prop) → Prop
def MeD (K : PySem.W.Frag) (r : V → List V → Hp → VK → Prop) (f : FM) : Prop := ∀ (H : Hp) (a : Addr) (us : List V) (xs : List D) (vs : List V) (ds : List D) (k : D → List D → Prop) (Q : VK), H a = some (.lst us) → RpIs K H xs us → RpVs K H ds vs → f xs ds k →
  (∀ z u ys ws, k z ys → RpIs K H ys ws → RpI K H z u → Q u (upd H a (.lst ws))) → r (.ref a) vs H Q
def cMeth (i : Nat) (f : FM) (ws : WA) : W := fun env Q => getl env i fun _ => ws env fun rl e1 => rsl e1 rl fun ds => getl e1 i fun xs => f xs ds fun z ys => Q (.val z) (e1.set i (some (.lst ys)))
theorem meth_core {i : Nat} {r : V → List V → Hp → VK → Prop} {f : FM} (h : MeD X.K r f) : ∀ σ H Q, rE X.K np He (cMeth i f ws) σ H Q → tBM X.K "list" r (tVar i) (rA X.K np He ws) σ H Q := by
  intro σ H Q ⟨env, Q0, R, w, q⟩
  obtain ⟨xs0, e0, w⟩ := getl_of w
  obtain ⟨a, us, es, ha, ra⟩ := R.lst e0
  refine ⟨.ref a, es, .inl ⟨rfl, us, .of ha⟩, env, _, R, w, fun rl e1 vs H1 w1 s1 r1 => ?_⟩
  obtain ⟨ds, hd, w1⟩ := r1.rs s1.rep w1
  obtain ⟨xs, e2, w1⟩ := getl_of w1
  obtain ⟨a', us', es', ha', ra'⟩ := s1.rep.lst e2
  rw [es] at es'
  have ea : a = a' := by simpa using es'
  subst ea
  refine h H1 a us' xs vs ds _ Q ha' ra' hd w1 fun z u ys ws' k ry rz => ?_
  have hz : isL z = false := by cases z <;> first | rfl | (simp only [RpI] at rz)
  refine q _ _ u _ k (s1.trans (.store s1.rep e2 es ha' ry)) ⟨.of (RpI.kp (kp_store ha') z u rz), fun n => by rw [hz] at n; cases n⟩
def fAppend : FM := fun xs ds k => match ds with
  | [d] => isL d = false ∧ xs.length < 1000000 ∧ k .non (xs ++ [d])
  | _ => False
theorem e_append {i : Nat} {x : Str} {p apos : Pos} (ha : DE X np He a wa) (hN : X.N[i]? = some x := by rfl) (hv : Vis X.env.scope x := by first | exact Or.inl rfl | exact Or.inr (Or.inl rfl) | exact Or.inr (Or.inr rfl)) (hd : (x == ("__debug__" : Str)) = false := by decide)
    (hcd : (x == ("__classdict__" : Str)) = false := by decide) (hbase : attributeBase (.Name x p) "append" X.env (eval (.Name x p) X.env) = eval (.Name x p) X.env := by rfl)
    (hfew : ((backTo pos (starEach [a] X.env)).all (fun x => !x.1) && (backToKw pos (keywordEach [] X.env)).all (fun x => x.1.isSome)
      && decide ([a].length + ([] : List Keyword).length + (if ([] : List Keyword).isEmpty then 0 else 1) < 30)) = true := by rfl)
    (hline : (apos.endLine == pos.line) = true := by rfl) (hs : starEach [a] X.env = (false, eval a X.env) :: starEach [] X.env := by rfl) :
    DE X np He (.Call (.Attribute (.Name x p) "append" apos) [a] [] pos) (cMeth i fAppend (cCons wa cNil)) := by
  refine PE.weak (pe_bm PySem.F.plainAttrs_list PySem.F.slot_list_append PySem.F.type_list_append mt_append (pv i hN hv hd hcd) (a_cons ha a_nil hs) hbase hfew hline hs) (meth_core ?_)
  intro H a us xs vs ds k Q ha ra rd h q
  unfold fAppend at h
  split at h
  · obtain ⟨h1, h2, h⟩ := h
    obtain ⟨v, rfl, rv⟩ := rd.one
    refine ⟨a, us, v, rfl, rfl, ha, by rw [← ra.length]; exact Nat.lt_of_lt_of_le h2 (line_of (Nat.le_refl _)), q _ _ _ _ h (ra.append ?_) ?_⟩
    · simp only [RpIs]
      exact ⟨v, [], rfl, rv.imm h1, rfl⟩
    · simp only [RpI]
  · exact h.elim
theorem meth0_core {i : Nat} {r : V → List V → Hp → VK → Prop} {f : FM} (h : MeD X.K r f) : ∀ σ H Q, rE X.K np He (cMeth i f cNil) σ H Q → tBM0 X.K "list" r (tVar i) σ H Q := by
  intro σ H Q ⟨env, Q0, R, w, q⟩
  obtain ⟨xs, e0, w⟩ := getl_of w
  obtain ⟨xs', e0', w⟩ := getl_of w
  obtain ⟨a, us, es, ha, ra⟩ := R.lst e0'
  refine ⟨.ref a, es, .inl ⟨rfl, us, .of ha⟩, h H a us xs' [] [] _ Q ha ra rfl w fun z u ys ws' k ry rz => ?_⟩
  have hz : isL z = false := by cases z <;> first | rfl | (simp only [RpI] at rz)
  exact q _ _ u _ k (.store R e0' es ha ry) ⟨.of (RpI.kp (kp_store ha) z u rz), fun n => by rw [hz] at n; cases n⟩
def fPop : FM := fun xs ds k => match ds with
  | [] => (match xs.getLast? with
    | some d => k d xs.dropLast
    | none => False)
  | _ => False
theorem e_pop {i : Nat} {x : Str} {p apos : Pos} (hN : X.N[i]? = some x := by rfl) (hv : Vis X.env.scope x := by first | exact Or.inl rfl | exact Or.inr (Or.inl rfl) | exact Or.inr (Or.inr rfl)) (hd : (x == ("__debug__" : Str)) = false := by decide)
    (hcd : (x == ("__classdict__" : Str)) = false := by decide) (hbase : attributeBase (.Name x p) "pop" X.env (eval (.Name x p) X.env) = eval (.Name x p) X.env := by rfl) (hline : (apos.endLine == pos.line) = true := by rfl) :
    DE X np He (.Call (.Attribute (.Name x p) "pop" apos) [] [] pos) (cMeth i fPop cNil) := by
  refine PE.weak (pe_bm0 PySem.F.plainAttrs_list PySem.F.slot_list_pop PySem.F.type_list_pop mt_pop (pv i hN hv hd hcd) hbase hline) (meth0_core ?_)
  intro H a us xs vs ds k Q ha ra rd h q
  unfold fPop at h
  split at h
  · cases (show vs = [] from rd)
    split at h
    · rename_i d e
      rw [List.getLast?_eq_getElem?] at e
      obtain ⟨u, e1, ru⟩ := ra.get e
      exact ⟨a, us, u, rfl, rfl, ha, by rw [← ra.length]; exact e1, q _ _ _ _ h ra.dropLast ru⟩
    · exact h.elim
  · exact h.elim
def fReverse : FM := fun xs ds k => match ds with
  | [] => k .non xs.reverse
  | _ => False
theorem e_reverse {i : Nat} {x : Str} {p apos : Pos} (hN : X.N[i]? = some x := by rfl) (hv : Vis X.env.scope x := by first | exact Or.inl rfl | exact Or.inr (Or.inl rfl) | exact Or.inr (Or.inr rfl)) (hd : (x == ("__debug__" : Str)) = false := by decide)
    (hcd : (x == ("__classdict__" : Str)) = false := by decide) (hbase : attributeBase (.Name x p) "reverse" X.env (eval (.Name x p) X.env) = eval (.Name x p) X.env := by rfl) (hline : (apos.endLine == pos.line) = true := by rfl) :
    DE X np He (.Call (.Attribute (.Name x p) "reverse" apos) [] [] pos) (cMeth i fReverse cNil) := by
  refine PE.weak (pe_bm0 PySem.F.plainAttrs_list PySem.F.slot_list_reverse PySem.F.type_list_reverse mt_reverse (pv i hN hv hd hcd) hbase hline) (meth0_core ?_)
  intro H a us xs vs ds k Q ha ra rd h q
  unfold fReverse at h
  split at h
  · cases (show vs = [] from rd)
    exact ⟨a, us, rfl, rfl, ha, q _ _ _ _ h ra.reverse rfl⟩
  · exact h.elim

/-! ### calls of own defs -/
structure FSpec where
  pre : List D → Prop
  post : List D → D → List D → Prop
def noRef (i : Nat) : List RV → Bool
  | [] => true
  | .ref j :: r => !(i == j) && noRef i r
  | .val _ :: r => noRef i r
def okR : List RV → Bool
  | [] => true
  | .ref i :: r => noRef i r && okR r
  | .val _ :: r => okR r
def upA : List RV → List D → DEnv → DEnv
  | .ref i :: rl, .lst ys :: ds, e => upA rl ds (e.set i (some (.lst ys)))
  | _ :: rl, _ :: ds, e => upA rl ds e
  | _, _, e => e
/-- what a def does to its list arguments -/
structure After (K : PySem.W.Frag) (H H' : Hp) (ds ds' : List D) (vs : List V) : Prop where
  len : ds'.length = ds.length
  keep : ∀ b o, H b = some o → (∀ (i : Nat) (xs : List D), ds[i]? = some (.lst xs) → vs[i]? ≠ some (.ref b)) → H' b = some o
  dom : ∀ b, H' b = none → H b = none
  lst : ∀ (i : Nat) (xs : List D) (v : V), ds[i]? = some (.lst xs) → vs[i]? = some v → ∃ ys, ds'[i]? = some (.lst ys) ∧ RpV K H' (.lst ys) v
def apA : List D → List V → Prop
  | .lst _ :: ds, v :: vs => (∀ (j : Nat) (xs : List D), ds[j]? = some (.lst xs) → vs[j]? ≠ some v) ∧ apA ds vs
  | _ :: ds, _ :: vs => apA ds vs
  | _, _ => True
def spOf (K : PySem.W.Frag) (n : Nat) (sp : FSpec) : Sp := fun vs H Q _ => ∃ ds, vs.length = n ∧ RpVs K H ds vs ∧ apA ds vs ∧ sp.pre ds ∧
  ∀ r ds' v H', sp.post ds r ds' → After K H H' ds ds' vs → RpV K H' r v → (isL r = true → ∀ a, v = .ref a → H a = none) → Q v H'
structure FnD (P : Program) (w : World) (K : PySem.W.Frag) (mg : Str → Option Value) (base : Heap) (k : Nat) (x : Str) (ps : List Str) (sp : FSpec) : Prop where
  ex : ∃ f fd, FnOk P w K mg base CX0 k f fd ps (spOf K ps.length sp) ∧ mg x = some (.ref f) ∧ PySem.W.keepIn K (.ref f) = true ∧ Binds K fd ps []
/-- results, values and data side by side -/
def Tri (K : PySem.W.Frag) (σ : L2.St) (H H' : Hp) (env : DEnv) : List RV → List V → List D → Prop
  | [], vs, ds => vs = [] ∧ ds = []
  | .val d :: rl, vs, ds => ∃ v vr dr, vs = v :: vr ∧ ds = d :: dr ∧ RpV K H' d v ∧ (isL d = true → (∀ a, v = .ref a → H a = none) ∧ ∀ (j : Nat) (ys : List D), rl[j]? = some (.val (.lst ys)) → vr[j]? ≠ some v) ∧ Tri K σ H H' env rl vr dr
  | .ref i :: rl, vs, ds => ∃ v vr xs dr, vs = v :: vr ∧ ds = .lst xs :: dr ∧ σ[i]? = some (some v) ∧ env[i]? = some (some (D.lst xs)) ∧ Tri K σ H H' env rl vr dr
theorem tri_of {K : PySem.W.Frag} {σ : L2.St} {H H' : Hp} {env : DEnv} (R : Rep K np He σ H' env) : ∀ {rl : List RV} {vs : List V} {k : List D → Prop}, RpRs K σ H H' env vs rl → rsl env rl k → ∃ ds, Tri K σ H H' env rl vs ds ∧ RpVs K H' ds vs ∧ k ds
  | [], vs, k, h, g => by
    cases vs with
    | nil => exact ⟨[], ⟨rfl, rfl⟩, rfl, g⟩
    | cons v vs => obtain ⟨r, rest, e, _⟩ := h; cases e
  | .val d :: rl, vs, k, h, g => by
    cases vs with
    | nil => cases (show (RV.val d :: rl) = [] from h)
    | cons v vs =>
      obtain ⟨r, rest, e, h1, h2, tn⟩ := h
      cases e
      obtain ⟨ds, t, rv, q⟩ := tri_of R h2 g
      exact ⟨d :: ds, ⟨v, vs, ds, rfl, rfl, h1.1, fun n => ⟨h1.2 n, tn d rfl n⟩, t⟩, ⟨v, vs, rfl, h1.1, rv⟩, q⟩
  | .ref i :: rl, vs, k, h, g => by
    cases vs with
    | nil => cases (show (RV.ref i :: rl) = [] from h)
    | cons v vs =>
      obtain ⟨r, rest, e, h1, h2, tn⟩ := h
      cases e
      obtain ⟨d, e1, g⟩ := getv_of g
      obtain ⟨ds, t, rv, q⟩ := tri_of R h2 g
      obtain ⟨hs, xs, e2⟩ := h1
      rw [e1] at e2
      have ed : d = .lst xs := by simpa using e2
      subst ed
      obtain ⟨u, e3, ru⟩ := R.val i _ e1
      rw [hs] at e3
      have eu : v = u := by simpa using e3
      subst eu
      exact ⟨_ :: ds, ⟨v, vs, xs, ds, rfl, rfl, hs, e1, t⟩, ⟨v, vs, rfl, ru, rv⟩, q⟩
section
variable {K : PySem.W.Frag} {σ : L2.St} {H H' : Hp} {env : DEnv}
/-- a list argument is a slot's or a new one -/
theorem Tri.arg : ∀ {rl : List RV} {vs : List V} {ds : List D} {j : Nat} {xs : List D}, Tri K σ H H' env rl vs ds → ds[j]? = some (.lst xs) →
    (∃ i v, rl[j]? = some (.ref i) ∧ vs[j]? = some v ∧ σ[i]? = some (some v) ∧ env[i]? = some (some (D.lst xs))) ∨ (∃ a, rl[j]? = some (.val (.lst xs)) ∧ vs[j]? = some (.ref a) ∧ H a = none)
  | [], vs, ds, j, xs, h, e => by
    obtain ⟨_, rfl⟩ := h
    simp at e
  | .val d :: rl, vs, ds, 0, xs, h, e => by
    obtain ⟨v, vr, dr, rfl, rfl, r, f, _⟩ := h
    simp at e
    subst e
    obtain ⟨a, us, rfl, _⟩ := r
    exact .inr ⟨a, rfl, rfl, (f rfl).1 a rfl⟩
  | .ref i :: rl, vs, ds, 0, xs, h, e => by
    obtain ⟨v, vr, xs', dr, rfl, rfl, s, g, _⟩ := h
    simp at e
    subst e
    exact .inl ⟨i, v, rfl, rfl, s, g⟩
  | .val d :: rl, vs, ds, j + 1, xs, h, e => by
    obtain ⟨v, vr, dr, rfl, rfl, _, _, t⟩ := h
    simpa using Tri.arg t (by simpa using e)
  | .ref i :: rl, vs, ds, j + 1, xs, h, e => by
    obtain ⟨v, vr, xs', dr, rfl, rfl, _, _, t⟩ := h
    simpa using Tri.arg t (by simpa using e)
theorem noRef_at {i : Nat} : ∀ {rl : List RV} {j l : Nat}, noRef i rl = true → rl[j]? = some (.ref l) → i ≠ l
  | [], j, l, _, e => by simp at e
  | .ref m :: rl, 0, l, h, e => by
    simp at e
    subst e
    simp only [noRef, Bool.and_eq_true, Bool.not_eq_true', beq_eq_false_iff_ne] at h
    exact h.1
  | .val d :: rl, 0, l, h, e => by simp at e
  | .ref m :: rl, j + 1, l, h, e => by
    simp only [noRef, Bool.and_eq_true] at h
    exact noRef_at h.2 (by simpa using e)
  | .val d :: rl, j + 1, l, h, e => noRef_at (rl := rl) (by simpa only [noRef] using h) (by simpa using e)
theorem Tri.apart (R0 : ∀ b, LA σ env b → H b ≠ none) (R : Rep K np He σ H' env) : ∀ {rl : List RV} {vs : List V} {ds : List D}, Tri K σ H H' env rl vs ds → okR rl = true → apA ds vs
  | [], vs, ds, h, _ => by
    obtain ⟨rfl, rfl⟩ := h
    trivial
  | .val d :: rl, vs, ds, h, ok => by
    obtain ⟨v, vr, dr, rfl, rfl, r, f, t⟩ := h
    have ih := Tri.apart R0 R t (by simpa only [okR] using ok)
    cases d with
    | lst xs =>
      refine ⟨fun j ys e q => ?_, ih⟩
      obtain ⟨a, us, rfl, _⟩ := r
      rcases t.arg e with ⟨i, v, e1, e2, e3, e4⟩ | ⟨a', e1, e2, e3⟩
      · rw [q] at e2
        cases e2
        exact R0 a ⟨i, ys, e4, e3⟩ ((f rfl).1 a rfl)
      · exact (f rfl).2 j ys e1 q
    | _ => exact ih
  | .ref i :: rl, vs, ds, h, ok => by
    obtain ⟨v, vr, xs, dr, rfl, rfl, s, g, t⟩ := h
    simp only [okR, Bool.and_eq_true] at ok
    have ih := Tri.apart R0 R t ok.2
    refine ⟨fun j ys e q => ?_, ih⟩
    obtain ⟨u, e5, a, us, rfl, _⟩ := R.val i _ g
    rw [s] at e5
    have ev : v = .ref a := by simpa using e5
    subst ev
    rcases t.arg e with ⟨l, v, e1, e2, e3, e4⟩ | ⟨a', e1, e2, e3⟩
    · rw [q] at e2
      cases e2
      exact noRef_at ok.1 e1 (R.apart i l xs ys a g e4 s e3)
    · rw [q] at e2
      cases e2
      exact R0 a ⟨i, xs, g, s⟩ e3
theorem upA_at : ∀ {rl : List RV} {vs : List V} {ds : List D} {ds' : List D} {env0 : DEnv} (j : Nat), Tri K σ H H' env rl vs ds → okR rl = true → env0.length = env.length → ds'.length = ds.length →
    (∀ (p : Nat) (xs : List D), ds[p]? = some (D.lst xs) → ∃ ys, ds'[p]? = some (D.lst ys)) →
    (∃ (p : Nat) (ys : List D) (v : V), rl[p]? = some (RV.ref j) ∧ ds'[p]? = some (D.lst ys) ∧ vs[p]? = some v ∧ σ[j]? = some (some v) ∧ (∃ xs, ds[p]? = some (D.lst xs) ∧ env[j]? = some (some (D.lst xs))) ∧ (upA rl ds' env0)[j]? = some (some (D.lst ys))) ∨ ((∀ (p : Nat), rl[p]? ≠ some (RV.ref j)) ∧ (upA rl ds' env0)[j]? = env0[j]?)
  | [], vs, ds, ds', env0, j, h, _, _, _, _ => .inr ⟨fun p => by simp, by unfold upA; rfl⟩
  | .val d :: rl, vs, ds, ds', env0, j, h, ok, hl, hd, hq => by
    obtain ⟨v, vr, dr, rfl, rfl, r, f, t⟩ := h
    cases ds' with
    | nil => simp at hd
    | cons d' ds' =>
      have ih := upA_at (ds' := ds') j t (by simpa only [okR] using ok) hl (by simpa using hd) (fun p xs e => by simpa using hq (p + 1) xs (by simpa using e))
      have eu : upA (.val d :: rl) (d' :: ds') env0 = upA rl ds' env0 := by
        cases d' <;> rfl
      rw [eu]
      rcases ih with ⟨p, ys, v', i1, i2, i3, i4, ⟨xs, i5, i6⟩, i7⟩ | ⟨i1, i2⟩
      · exact .inl ⟨p + 1, ys, v', by simpa using i1, by simpa using i2, by simpa using i3, i4, ⟨xs, by simpa using i5, i6⟩, i7⟩
      · refine .inr ⟨fun p => ?_, i2⟩
        cases p with
        | zero => simp
        | succ p => simpa using i1 p
  | .ref i :: rl, vs, ds, ds', env0, j, h, ok, hl, hd, hq => by
    obtain ⟨v, vr, xs, dr, rfl, rfl, s, g, t⟩ := h
    cases ds' with
    | nil => simp at hd
    | cons d' ds' =>
      obtain ⟨ys0, e0⟩ := hq 0 xs rfl
      simp at e0
      subst e0
      simp only [okR, Bool.and_eq_true] at ok
      have hi : i < env0.length := by rw [hl]; exact (List.getElem?_eq_some_iff.mp g).1
      have ih := upA_at (ds' := ds') (env0 := env0.set i (some (D.lst ys0))) j t ok.2 (by rw [List.length_set]; exact hl) (by simpa using hd) (fun p xs e => by simpa using hq (p + 1) xs (by simpa using e))
      show _ ∨ (_ ∧ (upA rl ds' (env0.set i (some (D.lst ys0))))[j]? = _)
      rcases ih with ⟨p, ys, v', i1, i2, i3, i4, ⟨xs', i5, i6⟩, i7⟩ | ⟨i1, i2⟩
      · exact .inl ⟨p + 1, ys, v', by simpa using i1, by simpa using i2, by simpa using i3, i4, ⟨xs', by simpa using i5, i6⟩, i7⟩
      · by_cases hj : i = j
        · subst hj
          exact .inl ⟨0, ys0, v, rfl, rfl, rfl, s, ⟨xs, rfl, g⟩, by show (upA rl ds' (env0.set i (some (D.lst ys0))))[i]? = _; rw [i2, List.getElem?_set_self hi]⟩
        · refine .inr ⟨fun p => ?_, by rw [i2, List.getElem?_set_ne hj]⟩
          cases p with
          | zero => simpa using fun z => hj z
          | succ p => simpa using i1 p
end
/-- behind a call -/
theorem SE.called {K : PySem.W.Frag} {σ : L2.St} {H H1 H' : Hp} {env e1 : DEnv} {rl : List RV} {vs : List V} {ds ds' : List D} (R : Rep K np He σ H env) (s1 : SE K np He σ H env H1 e1) (t : Tri K σ H H1 e1 rl vs ds) (ok : okR rl = true) (A : After K H1 H' ds ds' vs) :
    SE K np He σ H env H' (upA rl ds' e1) := by
  have la0 : ∀ b, LA σ env b → H b ≠ none := fun b z => by
    obtain ⟨us, e⟩ := R.la z
    rw [e]
    exact fun q => nomatch q
  have la1 : ∀ b, LA σ e1 b → H b ≠ none := fun b z => la0 b (s1.la.mp z)
  have argla : ∀ (i : Nat) (xs : List D) (b : Addr), ds[i]? = some (.lst xs) → vs[i]? = some (.ref b) → LA σ e1 b ∨ H b = none := fun i xs b e q => by
    rcases t.arg e with ⟨l, v, a1, a2, a3, a4⟩ | ⟨a', a1, a2, a3⟩
    · rw [q] at a2
      cases a2
      exact .inl ⟨l, xs, a4, a3⟩
    · rw [q] at a2
      cases a2
      exact .inr a3
  have hq : ∀ (p : Nat) (xs : List D), ds[p]? = some (D.lst xs) → ∃ ys, ds'[p]? = some (D.lst ys) := fun p xs e => by
    rcases t.arg e with ⟨l, v, a1, a2, a3, a4⟩ | ⟨a', a1, a2, a3⟩
    · obtain ⟨ys, q, _⟩ := A.lst p xs v e a2
      exact ⟨ys, q⟩
    · obtain ⟨ys, q, _⟩ := A.lst p xs _ e a2
      exact ⟨ys, q⟩
  have at_ := fun j => upA_at (env0 := e1) (ds' := ds') j t ok rfl A.len hq
  have kp1 : Kp H1 H' := fun b o e n => A.keep b o e fun i xs ed ev => by
    have hv : ∃ us, H1 b = some (.lst us) := by
      rcases t.arg ed with ⟨l, v, a1, a2, a3, a4⟩ | ⟨a', a1, a2, a3⟩
      · rw [ev] at a2
        cases a2
        exact s1.rep.la ⟨l, xs, a4, a3⟩
      · have rp : ∀ {rl : List RV} {vs : List V} {ds : List D} {i : Nat} {d : D} {v : V}, Tri K σ H H1 e1 rl vs ds → rl[i]? = some (.val d) → vs[i]? = some v → RpV K H1 d v := by
          intro rl
          induction rl with
          | nil => intro vs ds i d v _ e _; simp at e
          | cons r rl ih =>
            intro vs ds i d v t e ev
            cases r with
            | val d' =>
              obtain ⟨v', vr, dr, rfl, rfl, r, _, t⟩ := t
              cases i with
              | zero => simp at e ev; subst e ev; exact r
              | succ i => exact ih t (by simpa using e) (by simpa using ev)
            | ref m =>
              obtain ⟨v', vr, xs, dr, rfl, rfl, _, _, t⟩ := t
              cases i with
              | zero => simp at e
              | succ i => exact ih t (by simpa using e) (by simpa using ev)
        obtain ⟨c, us, ec, e3, _⟩ := rp t a1 ev
        cases ec
        exact ⟨us, e3⟩
    obtain ⟨us, e3⟩ := hv
    rw [e] at e3
    exact n us (Option.some.inj e3)
  have islst : ∀ (j : Nat) (ys : List D), (upA rl ds' e1)[j]? = some (some (D.lst ys)) → ∃ xs, e1[j]? = some (some (D.lst xs)) := fun j ys e => by
    rcases at_ j with ⟨p, zs, v, _, _, _, _, ⟨xs, _, i6⟩, _⟩ | ⟨_, i2⟩
    · exact ⟨xs, i6⟩
    · exact ⟨ys, i2 ▸ e⟩
  have lenU : ∀ (rl : List RV) (ds' : List D) (e : DEnv), (upA rl ds' e).length = e.length := by
    intro rl
    induction rl with
    | nil => intro ds' e; cases ds' <;> rfl
    | cons r rl ih =>
      intro ds' e
      cases ds' with
      | nil => cases r <;> rfl
      | cons d ds' =>
        cases r with
        | val d' => cases d <;> exact ih _ _
        | ref i =>
          cases d with
          | lst ys =>
            show (upA rl ds' (e.set i (some (.lst ys)))).length = _
            rw [ih, List.length_set]
          | _ => exact ih _ _
  refine ⟨⟨by rw [lenU]; exact s1.rep.len, fun j d e => ?_, fun i j xs ys a e2 e3 g2 g3 => ?_, fun i xs a hi e2 g2 => ?_, fun b n => s1.rep.dom b (A.dom b n)⟩, fun j => ?_, fun b o e n => ?_, fun b n => s1.dom b (A.dom b n)⟩
  · rcases at_ j with ⟨p, ys, v, i1, i2, i3, i4, ⟨xs, i5, i6⟩, i7⟩ | ⟨i1, i2⟩
    · rw [i7] at e
      cases e
      obtain ⟨ys', q1, q2⟩ := A.lst p xs v i5 i3
      rw [i2] at q1
      cases q1
      exact ⟨v, i4, q2⟩
    · rw [i2] at e
      obtain ⟨v, e2, rv⟩ := s1.rep.val j d e
      refine ⟨v, e2, ?_⟩
      cases d with
      | lst zs =>
        refine rv.kpl kp1 fun c o ec eo => ?_
        subst ec
        refine A.keep c o eo fun i xs ed ev => ?_
        rcases t.arg ed with ⟨l, v, a1, a2, a3, a4⟩ | ⟨a', a1, a2, a3⟩
        · rw [ev] at a2
          cases a2
          have := s1.rep.apart j l zs xs c e a4 e2 a3
          subst this
          exact i1 i a1
        · rw [ev] at a2
          cases a2
          exact la1 c ⟨j, zs, e, e2⟩ a3
      | _ => exact rv.kp kp1 rfl
  · obtain ⟨x1, q1⟩ := islst i xs e2
    obtain ⟨x2, q2⟩ := islst j ys e3
    exact s1.rep.apart i j x1 x2 a q1 q2 g2 g3
  · obtain ⟨x1, q1⟩ := islst i xs e2
    exact s1.rep.own i x1 a hi q1 g2
  · have sh : (upA rl ds' e1)[j]? = e1[j]? ∨ ∃ (xs ys : List D), e1[j]? = some (some (D.lst xs)) ∧ (upA rl ds' e1)[j]? = some (some (D.lst ys)) := by
      rcases at_ j with ⟨p, ys, v, i1, i2, i3, i4, ⟨xs, i5, i6⟩, i7⟩ | ⟨i1, i2⟩
      · exact .inr ⟨xs, ys, i6, i7⟩
      · exact .inl i2
    rcases sh with h | ⟨ys, zs, h1, h2⟩
    · rcases s1.shape j with g | ⟨us, ws, g1, g2⟩
      · exact .inl (h.trans g)
      · exact .inr ⟨us, ws, g1, h.trans g2⟩
    · rcases s1.shape j with g | ⟨us, ws, g1, g2⟩
      · exact .inr ⟨ys, zs, g ▸ h1, h2⟩
      · exact .inr ⟨us, zs, g1, h2⟩
  · refine A.keep b o (s1.keep b o e n) fun i xs ed ev => ?_
    rcases argla i xs b ed ev with z | z
    · exact n (s1.la.mp z)
    · rw [e] at z
      cases z
theorem Tri.len {K : PySem.W.Frag} {σ : L2.St} {H H' : Hp} {env : DEnv} : ∀ {rl : List RV} {vs : List V} {ds : List D}, Tri K σ H H' env rl vs ds → rl.length = vs.length
  | [], vs, ds, h => by rw [h.1]; rfl
  | .val d :: rl, vs, ds, h => by
    obtain ⟨v, vr, dr, rfl, rfl, _, _, t⟩ := h
    simp only [List.length_cons, Tri.len t]
  | .ref i :: rl, vs, ds, h => by
    obtain ⟨v, vr, xs, dr, rfl, rfl, _, _, t⟩ := h
    simp only [List.length_cons, Tri.len t]
def cCallN (n : Nat) (sp : FSpec) (ws : WA) : W := fun env Q => ws env fun rl e1 => rl.length = n ∧ rsl e1 rl fun ds => okR rl = true ∧ sp.pre ds ∧ ∀ r ds', sp.post ds r ds' → Q (.val r) (upA rl ds' e1)
theorem e_call {sp : FSpec} {k n : Nat} {ps : List Str} {x : Str} {p : Pos} (F : FnD X.prog X.w X.K X.mg X.base k x ps sp) (hr : Room k X.A) (ha : DA X np He (a :: es) ws) (hn : ps.length = n := by rfl) (hg : Gl X x := by rfl) (hdb : (x == ("__debug__" : Str)) = false := by decide)
    (he : starEach (a :: es) X.env = (false, eval a X.env) :: starEach es X.env := by rfl) (hpl : (backTo pos (starEach es X.env)).any (·.1) = false := by rfl) :
    DE X np He (.Call (.Name x p) (a :: es) [] pos) (cCallN n sp ws) := by
  subst hn
  obtain ⟨f, fd, F, hm, hk, hb⟩ := F.ex
  refine PE.weak (pe_call F hr hg hm hk hb .nil pass0 ha hdb he hpl) fun σ H Q ⟨env, Q0, R, w, q⟩ => ⟨env, _, R, w, fun rl e1 vs H1 w1 s1 r1 => ?_⟩
  obtain ⟨hn, w1⟩ := w1
  obtain ⟨ds, t, hd, ok, pre, w1⟩ := tri_of s1.rep r1 w1
  have la1 : ∀ b, LA σ e1 b → H b ≠ none := fun b z => by
    obtain ⟨us, e⟩ := R.la (s1.la.mp z)
    rw [e]
    exact fun q => nomatch q
  rw [List.append_nil]
  refine ⟨ds, by rw [← t.len]; exact hn, hd, t.apart la1 s1.rep ok, pre, fun r ds' v H' po A rv fr => ?_⟩
  exact q _ _ v H' (w1 r ds' po) (.called R s1 t ok A) ⟨rv, fun n c e => s1.dom c (fr n c e)⟩
end
end DL

namespace DL
open PySem PySem.Spec PyProof.Rows L2

/-! ### a statement's step -/
structure SS (K : PySem.W.Frag) (np : Nat) (He : Hp) (pr : List Nat) (σ : L2.St) (H : Hp) (env : DEnv) (σ' : L2.St) (H' : Hp) (env' : DEnv) : Prop where
  rep : Rep K np He σ' H' env'
  keep : ∀ b o, H b = some o → ¬ LA σ env b → H' b = some o ∧ ¬ LA σ' env' b
  par : ∀ (i : Nat) (xs : List D), i ∈ pr → env[i]? = some (some (D.lst xs)) → σ'[i]? = σ[i]? ∧ ∃ (ys : List D), env'[i]? = some (some (D.lst ys))
  dom : ∀ b, H' b = none → H b = none
  len : env'.length = env.length
section
variable {K : PySem.W.Frag} {np : Nat} {He : Hp} {pr pr' : List Nat} {σ σ' σ'' : L2.St} {H H' H'' : Hp} {env env' env'' : DEnv}
theorem SS.refl (R : Rep K np He σ H env) : SS K np He pr σ H env σ H env := ⟨R, fun _ _ h n => ⟨h, n⟩, fun _ xs _ e => ⟨rfl, xs, e⟩, fun _ h => h, rfl⟩
theorem SS.trans (a : SS K np He pr σ H env σ' H' env') (b : SS K np He pr σ' H' env' σ'' H'' env'') : SS K np He pr σ H env σ'' H'' env'' where
  rep := b.rep
  keep := fun c o h n => let ⟨h1, n1⟩ := a.keep c o h n; b.keep c o h1 n1
  par := fun i xs hi e => by
    obtain ⟨e1, ys, e2⟩ := a.par i xs hi e
    obtain ⟨e3, zs, e4⟩ := b.par i ys hi e2
    exact ⟨e3.trans e1, zs, e4⟩
  dom := fun c h => a.dom c (b.dom c h)
  len := b.len.trans a.len
theorem SE.ss (s : SE K np He σ H env H' env') (R : Rep K np He σ H env) : SS K np He pr σ H env σ H' env' where
  rep := s.rep
  keep := fun b o h n => ⟨s.keep b o h n, fun z => n (s.la.mp z)⟩
  par := fun i xs _ e => ⟨rfl, by
    rcases s.shape i with h | ⟨us, ws, g1, g2⟩
    · exact ⟨xs, h.trans e⟩
    · exact ⟨ws, g2⟩⟩
  dom := s.dom
  len := by rw [← s.rep.len, R.len]
theorem SS.sub (h : ∀ i ∈ pr, i ∈ pr') (s : SS K np He pr' σ H env σ' H' env') : SS K np He pr σ H env σ' H' env' := ⟨s.rep, s.keep, fun i xs hi e => s.par i xs (h i hi) e, s.dom, s.len⟩
theorem SS.kp (R : Rep K np He σ H env) (s : SS K np He pr σ H env σ' H' env') : Kp H H' := fun b o h n => (s.keep b o h fun z => by
  obtain ⟨vs, e⟩ := R.la z
  rw [h] at e
  exact n vs (Option.some.inj e)).1

/-! ### a value is stored -/
def isLo : Option D → Bool
  | some (.lst _) => true
  | _ => false
def stOk (np : Nat) (pr : List Nat) (env : DEnv) (i : Nat) (d : D) : Bool := match env[i]? with
  | none => false
  | some old => (!isL d || decide (np ≤ i)) && (!(pr.contains i) || !isLo old)
theorem SS.put {i : Nat} {d : D} {v : V} {H1 : Hp} {e1 : DEnv} (R : Rep K np He σ H env) (s : SE K np He σ H env H1 e1) (ok : stOk np pr e1 i d = true) (r : RpV K H1 d v) (fr : isL d = true → ∀ a, v = .ref a → H a = none) :
    SS K np He pr σ H env (σ.set i (some v)) H1 (e1.set i (some d)) := by
  have nla : isL d = true → ∀ a, v = .ref a → ¬ LA σ e1 a := fun n a e z => by
    obtain ⟨us, q⟩ := R.la (s.la.mp z)
    rw [fr n a e] at q
    cases q
  have R1 := s.rep
  have st := SE.ss (pr := pr) s R
  unfold stOk at ok
  split at ok
  · cases ok
  · rename_i old e
    have hi : i < e1.length := (List.getElem?_eq_some_iff.mp e).1
    have his : i < σ.length := by rw [R1.len]; exact hi
    simp only [Bool.and_eq_true, Bool.or_eq_true, Bool.not_eq_true', decide_eq_true_eq, List.contains_eq_mem, decide_eq_false_iff_not] at ok
    have isl : ∀ (j : Nat) (xs : List D), (e1.set i (some d))[j]? = some (some (D.lst xs)) → (j = i ∧ d = .lst xs) ∨ (j ≠ i ∧ e1[j]? = some (some (D.lst xs))) := fun j xs e => by
      by_cases hj : i = j
      · subst hj
        rw [List.getElem?_set_self hi] at e
        exact .inl ⟨rfl, by simpa using e⟩
      · rw [List.getElem?_set_ne hj] at e
        exact .inr ⟨fun z => hj z.symm, e⟩
    have σset : ∀ (j : Nat), j ≠ i → (σ.set i (some v))[j]? = σ[j]? := fun j hj => List.getElem?_set_ne fun z => hj z.symm
    have σself : (σ.set i (some v))[i]? = some (some v) := List.getElem?_set_self his
    refine ⟨⟨by rw [List.length_set, List.length_set]; exact R1.len, fun j d' e' => ?_, fun j l xs ys a e1' e2 s1 s2 => ?_, fun j xs a hj e' s' => ?_, R1.dom⟩, fun b o h n => ⟨s.keep b o h n, ?_⟩, fun j xs hj e' => ?_, s.dom, by rw [List.length_set]; exact st.len⟩
    · by_cases hj : i = j
      · subst hj
        rw [List.getElem?_set_self hi] at e'
        cases e'
        exact ⟨v, σself, r⟩
      · rw [List.getElem?_set_ne hj] at e'
        obtain ⟨u, e1, ru⟩ := R1.val j d' e'
        exact ⟨u, (List.getElem?_set_ne hj).trans e1, ru⟩
    · rcases isl j xs e1' with ⟨q1, q2⟩ | ⟨n1, q1⟩
      · rcases isl l ys e2 with ⟨q3, _⟩ | ⟨n2, q3⟩
        · exact q1.trans q3.symm
        · rw [q1, σself] at s1
          rw [σset l n2] at s2
          have ev : v = .ref a := by simpa using s1
          exact absurd ⟨l, ys, q3, s2⟩ (nla (by rw [q2]; rfl) a ev)
      · rw [σset j n1] at s1
        rcases isl l ys e2 with ⟨q3, q4⟩ | ⟨n2, q3⟩
        · rw [q3, σself] at s2
          have ev : v = .ref a := by simpa using s2
          exact absurd ⟨j, xs, q1, s1⟩ (nla (by rw [q4]; rfl) a ev)
        · rw [σset l n2] at s2
          exact R1.apart j l xs ys a q1 q3 s1 s2
    · rcases isl j xs e' with ⟨q1, q2⟩ | ⟨n1, q1⟩
      · rw [q1, σself] at s'
        have ev : v = .ref a := by simpa using s'
        exact R.dom a (fr (by rw [q2]; rfl) a ev)
      · rw [σset j n1] at s'
        exact R1.own j xs a hj q1 s'
    · rintro ⟨j, xs, q0, s1⟩
      rcases isl j xs q0 with ⟨q1, q2⟩ | ⟨n1, q1⟩
      · rw [q1, σself] at s1
        have ev : v = .ref b := by simpa using s1
        have z := fr (by rw [q2]; rfl) b ev
        rw [h] at z
        cases z
      · rw [σset j n1] at s1
        exact n (s.la.mp ⟨j, xs, q1, s1⟩)
    · obtain ⟨_, ys, e2⟩ := st.par j xs hj e'
      by_cases hji : j = i
      · rw [hji, e] at e2
        cases e2
        rcases ok.2 with z | z
        · rw [hji] at hj
          exact absurd hj z
        · simp [isLo] at z
      · exact ⟨σset j hji, ys, (List.getElem?_set_ne fun z => hji z.symm).trans e2⟩
end

/-! ### targets -/
abbrev G := D → DEnv → (DEnv → Prop) → Prop
abbrev Gs := List D → DEnv → (DEnv → Prop) → Prop
/-- slots outside sl stay -/
def Out (sl : List Nat) (σ σ' : L2.St) (env env' : DEnv) : Prop := ∀ j, j ∉ sl → σ'[j]? = σ[j]? ∧ env'[j]? = env[j]?
def rG (K : PySem.W.Frag) (np : Nat) (He : Hp) (pr sl : List Nat) (g : G) : TG := fun v σ H Q => ∃ env d Q0, Rep K np He σ H env ∧ RpI K H d v ∧ g d env Q0 ∧ ∀ env' σ', Q0 env' → SS K np He pr σ H env σ' H env' → Out sl σ σ' env env' → Q σ' H
def rGs (K : PySem.W.Frag) (np : Nat) (He : Hp) (pr sl : List Nat) (g : Gs) : TGs := fun vs σ H Q => ∃ env ds Q0, Rep K np He σ H env ∧ RpIs K H ds vs ∧ g ds env Q0 ∧ ∀ env' σ', Q0 env' → SS K np He pr σ H env σ' H env' → Out sl σ σ' env env' → Q σ' H
theorem PG.weak {X : Cx} {e : Expr} {t t' : TG} (h : PG X e t) (i : ∀ v σ H Q, t' v σ H Q → t v σ H Q) : PG X e t' := ⟨fun pins s σ H v u Q I r q => h.run pins s σ H v u Q I r (i v σ H Q q)⟩
theorem PGs.weak {X : Cx} {e : List Expr} {t t' : TGs} (h : PGs X e t) (i : ∀ v σ H Q, t' v σ H Q → t v σ H Q) : PGs X e t' := ⟨fun pins s σ H v u Q I r q => h.run pins s σ H v u Q I r (i v σ H Q q)⟩
section
variable {X : Cx} {np : Nat} {He : Hp} {pr sl : List Nat} {pos : Pos}
abbrev DG (X : Cx) (np : Nat) (He : Hp) (pr sl : List Nat) (e : Expr) (g : G) : Prop := PG X e (rG X.K np He pr sl g)
abbrev DGs (X : Cx) (np : Nat) (He : Hp) (pr sl : List Nat) (e : List Expr) (g : Gs) : Prop := PGs X e (rGs X.K np He pr sl g)
def gN (np : Nat) (pr : List Nat) (i : Nat) : G := fun d env k => stOk np pr env i d = true ∧ k (env.set i (some d))
theorem RpI.immL {K : PySem.W.Frag} {H : Hp} {d : D} {v : V} (h : RpI K H d v) : isL d = false := by
  cases d <;> first | rfl | (simp only [RpI] at h)
theorem g_name (i : Nat) {x : Str} (hN : X.N.Nodup) (hsl : i ∈ sl := by decide) (hi : X.N[i]? = some x := by rfl) (hx : Loc X.env.scope x := by first | exact Or.inl rfl | exact Or.inr rfl) (hf : X.fn x = true ∨ X.env.scope.names.lookup x = some .local := by first | exact .inl rfl | exact .inr rfl | assumption) :
    DG X np He pr sl (.Name x pos) (gN np pr i) := by
  refine PG.weak (pg_name hN hi hx hf) fun v σ H Q ⟨env, d, Q0, R, r, ⟨ok, w⟩, q⟩ => ?_
  refine q _ _ w (.put R (.refl R) ok (.of r) fun n => by rw [r.immL] at n; cases n) fun j hj => ?_
  have hji : i ≠ j := fun z => hj (z ▸ hsl)
  exact ⟨List.getElem?_set_ne hji, List.getElem?_set_ne hji⟩
def gNil' : Gs := fun ds env k => match ds with
  | [] => k env
  | _ => False
def gCons' (g : G) (gs : Gs) : Gs := fun ds env k => match ds with
  | d :: r => g d env fun e => gs r e k
  | [] => False
theorem g_nil : DGs X np He pr sl [] gNil' := by
  refine PGs.weak pgs_nil fun vs σ H Q ⟨env, ds, Q0, R, r, w, q⟩ => ?_
  cases ds with
  | nil =>
    simp only [RpIs] at r
    exact ⟨r, q env σ w (.refl R) fun _ _ => ⟨rfl, rfl⟩⟩
  | cons d ds => exact False.elim w
theorem g_cons {e : Expr} {es : List Expr} {g : G} {gs : Gs} (h1 : DG X np He pr sl e g) (h2 : DGs X np He pr sl es gs) (hs : (assignEach (e :: es) X.env).map (·.2) = assign e X.env :: (assignEach es X.env).map (·.2) := by rfl) : DGs X np He pr sl (e :: es) (gCons' g gs) := by
  refine PGs.weak (pgs_cons h1 h2 hs) fun vs σ H Q ⟨env, ds, Q0, R, r, w, q⟩ => ?_
  cases ds with
  | nil => exact False.elim w
  | cons d ds =>
    simp only [RpIs] at r
    obtain ⟨v, vr, rfl, r1, r2⟩ := r
    refine ⟨v, vr, rfl, env, d, _, R, r1, w, fun e1 σ1 w1 s1 o1 => ⟨e1, ds, _, s1.rep, r2, w1, fun e2 σ2 w2 s2 o2 => q e2 σ2 w2 (s1.trans s2) fun j hj => ?_⟩⟩
    exact ⟨(o2 j hj).1.trans (o1 j hj).1, (o2 j hj).2.trans (o1 j hj).2⟩
def gT (n : Nat) (gs : Gs) : G := fun d env k => match d with
  | .tup ds => ds.length = n ∧ gs ds env k
  | _ => False
theorem g_tup {es : List Expr} {k : Nat} {gs : Gs} {n : Nat} (hc : X.calm = true) (h : DGs X np He pr sl es gs)
    (hn : (assignEach es X.env).length = n := by rfl) (hst : (assignEach es X.env).findIdx? (·.1) = none := by rfl) : DG X np He pr sl (.Tuple es k pos) (gT n gs) := by
  refine PG.weak (pg_tup hc h hn hst) fun v σ H Q ⟨env, d, Q0, R, r, w, q⟩ => ?_
  cases d with
  | tup ds =>
    obtain ⟨hl, w⟩ := w
    simp only [RpI] at r
    obtain ⟨a, vs, rfl, s, r⟩ := r
    exact ⟨a, vs, rfl, .of s, by rw [← r.length]; exact hl, env, ds, Q0, R, r, w, q⟩
  | _ => exact False.elim w
end

/-! ### what is walked -/
structure Src where
  xs : List D
  chk : List (Nat × List D)
def chkE : List (Nat × List D) → DEnv → Prop
  | [], _ => True
  | (i, l) :: r, env => env[i]? = some (some (D.lst l)) ∧ chkE r env
abbrev WI := DEnv → (Src → DEnv → Prop) → Prop
/-- all that is neither list nor dict is kept -/
def KpS (H H' : Hp) : Prop := ∀ b o, H b = some o → (∀ xs, o ≠ .lst xs) → (∀ kvs, o ≠ .dT kvs) → H' b = some o
theorem Kp.s {H H' : Hp} (k : Kp H H') : KpS H H' := fun b o h n _ => k b o h n
theorem KpS.tup {K : PySem.W.Frag} {H H' : Hp} (k : KpS H H') {a : Addr} {vs : List V} (h : SqT K H a vs) : SqT K H' a vs := by
  rcases h with (h | ⟨o, h⟩) | h
  · exact .inl (.inl (k _ _ h (fun _ e => nomatch e) fun _ e => nomatch e))
  · exact .inl (.inr ⟨o, k _ _ h (fun _ e => nomatch e) fun _ e => nomatch e⟩)
  · exact .inr h
theorem KpS.rol {K : PySem.W.Frag} {H H' : Hp} (k : KpS H H') {a : Addr} {vs : List V} (h : SqR K H a vs) : SqR K H' a vs := by
  rcases h with ⟨o, h⟩ | h
  · exact .inl ⟨o, k _ _ h (fun _ e => nomatch e) fun _ e => nomatch e⟩
  · exact .inr h
mutual
theorem RpI.kps {K : PySem.W.Frag} {H H' : Hp} (k : KpS H H') : ∀ (d : D) (v : V), RpI K H d v → RpI K H' d v
  | .non, v, h => h
  | .bl _, v, h => h
  | .int _, v, h => h
  | .str _, v, h => h
  | .tup ds, v, h => by
    simp only [RpI] at h ⊢
    obtain ⟨a, vs, e, s, r⟩ := h
    exact ⟨a, vs, e, k _ _ s (fun _ z => nomatch z) (fun _ z => nomatch z), RpIs.kps k ds vs r⟩
  | .tpd ds, v, h => by
    simp only [RpI] at h ⊢
    obtain ⟨a, vs, e, s, r⟩ := h
    refine ⟨a, vs, e, ?_, RpIs.kps k ds vs r⟩
    rcases s with ⟨o, s, d⟩ | s
    · exact .inl ⟨o, k _ _ s (fun _ z => nomatch z) (fun _ z => nomatch z), d⟩
    · exact .inr s
  | .rod ks ds, v, h => by
    simp only [RpI] at h ⊢
    obtain ⟨a, kvs, e, s, m, r⟩ := h
    obtain ⟨o, s⟩ := s
    exact ⟨a, kvs, e, ⟨o, k _ _ s (fun _ z => nomatch z) (fun _ z => nomatch z)⟩, m, RpIs.kps k ds _ r⟩
  | .rol ds, v, h => by
    simp only [RpI] at h ⊢
    obtain ⟨a, vs, e, s, r⟩ := h
    exact ⟨a, vs, e, k.rol s, RpIs.kps k ds vs r⟩
  | .lst _, v, h => by simp only [RpI] at h
theorem RpIs.kps {K : PySem.W.Frag} {H H' : Hp} (k : KpS H H') : ∀ (ds : List D) (vs : List V), RpIs K H ds vs → RpIs K H' ds vs
  | [], vs, h => by simp only [RpIs] at h ⊢; exact h
  | d :: ds, vs, h => by
    simp only [RpIs] at h ⊢
    obtain ⟨v, r, e, h1, h2⟩ := h
    exact ⟨v, r, e, RpI.kps k d v h1, RpIs.kps k ds r h2⟩
end
structure Stay (K : PySem.W.Frag) (np : Nat) (He : Hp) (σ1 : L2.St) (H H1 : Hp) (e1 : DEnv) (chk : List (Nat × List D)) (H' : Hp) : Prop where
  kp : KpS H1 H'
  keep : ∀ b xs, H b = none → H1 b = some (.lst xs) → ¬ LA σ1 e1 b → H' b = some (.lst xs)
  chk : ∀ p ∈ chk, ∀ a, σ1[p.1]? = some (some (V.ref a)) → ∃ us, H' a = some (.lst us) ∧ RpIs K H' p.2 us
def rI (K : PySem.W.Frag) (np : Nat) (He : Hp) (w : WI) : TI := fun σ H R => ∃ env Q0, Rep K np He σ H env ∧ w env Q0 ∧
  ∀ src e1 H1 J (Gd : Hp → Prop) (Y : Nat → Hp → V → Hp → Prop), Q0 src e1 → SE K np He σ H env H1 e1 → Walk J src.xs.length Gd Y → (∀ p ∈ src.chk, e1[p.1]? = some (some (D.lst p.2))) →
    (∀ i H2 x H3, i < src.xs.length → Y i H2 x H3 → Gd H2 → Ext H2 H3 ∧ ∃ d, src.xs[i]? = some d ∧ RpI K H3 d x) → (∀ H', Stay K np He σ H H1 e1 src.chk H' → Gd H') → R J H1
theorem PI.weak {X : Cx} {tg e : Expr} {t t' : TI} (h : PI X tg e t) (i : ∀ σ H R, t' σ H R → t σ H R) : PI X tg e t' := ⟨fun pins s σ H R I q => h.run pins s σ H R I (i σ H R q)⟩
section
variable {X : Cx} {np : Nat} {He : Hp} {a b c e tg : Expr} {es : List Expr} {wa wb wc : W} {ws : WA} {pos : Pos}
abbrev DI (X : Cx) (np : Nat) (He : Hp) (tg e : Expr) (w : WI) : Prop := PI X tg e (rI X.K np He w)
def iSeq (K : PySem.W.Frag) (tl : TE) : TI := fun σ H R => tl σ H fun x H1 => ∃ a, x = .ref a ∧ (((∃ xs, SqL K H1 a xs) ∧ R (Itl K a) H1) ∨ ((∃ xs, SqT K H1 a xs) ∧ R (Itt K a) H1))
theorem pi_seq {l : Expr} {tl : TE} (hl : PE X l tl) : PI X tg l (iSeq X.K tl) := by
  refine ⟨fun pins s σ H R I h => ?_⟩
  refine thn (hl.run pins s σ H _ I h) fun v s1 ⟨x, H1, I1, r1, q1⟩ => ?_
  obtain ⟨a, e, q⟩ := q1
  subst e
  cases r1
  rcases q with ⟨⟨xs, hq⟩, q⟩ | ⟨⟨xs, hq⟩, q⟩
  · obtain ⟨its, rv, p, hz⟩ := I1.list hq
    refine wpAny_pyIter_list p.isList ?_
    refine ⟨s1.heap.objs.size, [s1.heap.objs.size], _, _, H1, rfl, I1.kept (t' := s1.toks) fun b o e => Heap.get?_push_of_some _ e, turn_list a _, ⟨_, Heap.get?_push_size _ rfl, rfl, rfl⟩, fun b hb => ?_, q⟩
    have e : b = s1.heap.objs.size := by simpa using hb
    subst e
    exact I1.fpOk (Nat.le_refl _) (I1.hok.fresh (Nat.le_refl _))
  · obtain ⟨its, rv, p, hz⟩ := I1.tuple hq
    refine wpAny_pyIter_tuple (show s1.heap.IsTuple a its.toArray from p) ?_
    refine ⟨s1.heap.objs.size, [s1.heap.objs.size], _, _, H1, rfl, I1.kept (t' := s1.toks) fun b o e => Heap.get?_push_of_some _ e, turn_tuple a _, ⟨_, Heap.get?_push_size _ rfl, rfl, rfl⟩, fun b hb => ?_, q⟩
    have e : b = s1.heap.objs.size := by simpa using hb
    subst e
    exact I1.fpOk (Nat.le_refl _) (I1.hok.fresh (Nat.le_refl _))
/-- a list that bears data, read anew at each turn -/
theorem walk_rl {K : PySem.W.Frag} {a : Addr} {ds : List D} : Walk (Itl K a) ds.length (fun H => ∃ vs, SqL K H a vs ∧ RpIs K H ds vs) (fun i H x H' => H' = H ∧ ∃ d, ds[i]? = some d ∧ RpI K H d x) := by
  refine ⟨fun i H hi ⟨vs, s, r⟩ => ?_, fun H ⟨vs, s, r⟩ => ⟨vs, s, by rw [r.length]; exact Nat.le_refl _⟩, fun i H x H' hi ⟨vs, s, r⟩ y => ?_⟩
  · obtain ⟨v, e, _⟩ := r.get (List.getElem?_eq_getElem hi)
    exact ⟨vs, v, s, e⟩
  · obtain ⟨d, e, rd⟩ := r.get' (y.2 vs s)
    exact ⟨y.1, d, e, rd⟩
theorem walk_rt {K : PySem.W.Frag} {a : Addr} {ds : List D} : Walk (Itt K a) ds.length (fun H => ∃ vs, SqT K H a vs ∧ RpIs K H ds vs) (fun i H x H' => H' = H ∧ ∃ d, ds[i]? = some d ∧ RpI K H d x) := by
  refine ⟨fun i H hi ⟨vs, s, r⟩ => ?_, fun H ⟨vs, s, r⟩ => ⟨vs, s, by rw [r.length]; exact Nat.le_refl _⟩, fun i H x H' hi ⟨vs, s, r⟩ y => ?_⟩
  · obtain ⟨v, e, _⟩ := r.get (List.getElem?_eq_getElem hi)
    exact ⟨vs, v, s, e⟩
  · obtain ⟨d, e, rd⟩ := r.get' (y.2 vs s)
    exact ⟨y.1, d, e, rd⟩
/-- a walked thing: a value, or a list in a slot -/
def srcR (e1 : DEnv) (r : RV) (k : List D → List (Nat × List D) → Prop) : Prop := match r with
  | .val (.lst xs) => k xs []
  | .val (.tup xs) => k xs []
  | .val (.rol xs) => k xs []
  | .val (.tpd xs) => k xs []
  | .ref i => getl e1 i fun xs => k xs [(i, xs)]
  | _ => False
/-- where it stands -/
theorem src_at {K : PySem.W.Frag} {σ : L2.St} {H H1 : Hp} {env e1 : DEnv} {v : V} {r : RV} {k : List D → List (Nat × List D) → Prop} (R : Rep K np He σ H env) (s1 : SE K np He σ H env H1 e1) (h : RpR K σ H H1 e1 v r) (g : srcR e1 r k) :
    ∃ ds chk a, k ds chk ∧ v = .ref a ∧ (∀ p ∈ chk, e1[p.1]? = some (some (D.lst p.2))) ∧
      ((∀ H' : Hp, Stay K np He σ H H1 e1 chk H' → ∃ vs, SqL K H' a vs ∧ RpIs K H' ds vs) ∨ (∀ H' : Hp, Stay K np He σ H H1 e1 chk H' → ∃ vs, SqT K H' a vs ∧ RpIs K H' ds vs)) := by
  cases r with
  | ref i =>
    obtain ⟨xs, e, g⟩ := getl_of g
    obtain ⟨hs, _⟩ := h
    obtain ⟨a, us, e2, ha, ra⟩ := s1.rep.lst e
    rw [hs] at e2
    have ev : v = .ref a := by simpa using e2
    refine ⟨xs, [(i, xs)], a, g, ev, fun p hp => ?_, .inl fun H' st => ?_⟩
    · cases (show p = (i, xs) by simpa using hp)
      exact e
    · obtain ⟨us', h1, h2⟩ := st.chk (i, xs) (by simp) a (by rw [hs, ev])
      exact ⟨us', .of h1, h2⟩
  | val d =>
    obtain ⟨h, fr⟩ := h
    cases d with
    | lst xs =>
      obtain ⟨a, us, ev, ha, ra⟩ := h
      refine ⟨xs, [], a, g, ev, fun p hp => absurd hp (by simp), .inl fun H' st => ⟨us, .of (st.keep a _ (fr rfl a ev) ha fun z => ?_), RpIs.kps st.kp xs us ra⟩⟩
      obtain ⟨ws, q⟩ := R.la (s1.la.mp z)
      rw [fr rfl a ev] at q
      cases q
    | tup xs =>
      obtain ⟨a, us, ev, ha, ra⟩ := (show ∃ a vs, v = .ref a ∧ H1 a = some (.tup vs) ∧ RpIs K H1 xs vs by simpa only [RpV, RpI] using h)
      exact ⟨xs, [], a, g, ev, fun p hp => absurd hp (by simp), .inr fun H' st => ⟨us, st.kp.tup (.of ha), RpIs.kps st.kp xs us ra⟩⟩
    | tpd xs =>
      obtain ⟨a, us, ev, ha, ra⟩ := (show ∃ a vs, v = .ref a ∧ TpK K H1 a vs ∧ RpIs K H1 xs vs by simpa only [RpV, RpI] using h)
      exact ⟨xs, [], a, g, ev, fun p hp => absurd hp (by simp), .inr fun H' st => ⟨us, st.kp.tup ha.t, RpIs.kps st.kp xs us ra⟩⟩
    | rol xs =>
      obtain ⟨a, us, ev, ha, ra⟩ := (show ∃ a vs, v = .ref a ∧ SqR K H1 a vs ∧ RpIs K H1 xs vs by simpa only [RpV, RpI] using h)
      exact ⟨xs, [], a, g, ev, fun p hp => absurd hp (by simp), .inl fun H' st => ⟨us, (st.kp.rol ha).seq, RpIs.kps st.kp xs us ra⟩⟩
    | _ => exact False.elim g
theorem Stay.here {K : PySem.W.Frag} {σ : L2.St} {H H1 : Hp} {e1 : DEnv} {chk : List (Nat × List D)} (R : Rep K np He σ H1 e1) (h : ∀ p ∈ chk, e1[p.1]? = some (some (D.lst p.2))) : Stay K np He σ H H1 e1 chk H1 := by
  refine ⟨(Kp.refl _).s, fun _ _ _ h _ => h, fun p hp a ea => ?_⟩
  obtain ⟨a', us, e, ha, ra⟩ := R.lst (h p hp)
  rw [ea] at e
  have : a = a' := by simpa using e
  subst this
  exact ⟨us, ha, ra⟩
def iE (wa : W) : WI := fun env Q => wa env fun r e1 => srcR e1 r fun xs chk => Q ⟨xs, chk⟩ e1
theorem i_seq (ha : DE X np He a wa) : DI X np He tg a (iE wa) := by
  refine PI.weak (pi_seq ha) fun σ H R ⟨env, Q0, Rp, w, q⟩ => ⟨env, _, Rp, w, fun r e1 v H1 w1 s1 r1 => ?_⟩
  obtain ⟨ds, chk, a, k, rfl, hc, hs⟩ := src_at Rp s1 r1 w1
  have here := Stay.here (H := H) s1.rep hc
  refine ⟨a, rfl, ?_⟩
  rcases hs with hs | hs
  · obtain ⟨vs, s, _⟩ := hs H1 here
    refine .inl ⟨⟨vs, s⟩, q ⟨ds, chk⟩ e1 H1 _ _ _ k s1 walk_rl hc (fun i H2 x H3 _ ⟨y1, y2⟩ _ => ?_) hs⟩
    subst y1
    exact ⟨.refl _, y2⟩
  · obtain ⟨vs, s, _⟩ := hs H1 here
    refine .inr ⟨⟨vs, s⟩, q ⟨ds, chk⟩ e1 H1 _ _ _ k s1 walk_rt hc (fun i H2 x H3 _ ⟨y1, y2⟩ _ => ?_) hs⟩
    subst y1
    exact ⟨.refl _, y2⟩
/-- lo, lo + 1, .. -/
def rngD (lo : Int) : Nat → List D
  | 0 => []
  | n + 1 => .int lo :: rngD (lo + 1) n
theorem rngD_len (lo : Int) (n : Nat) : (rngD lo n).length = n := by
  induction n generalizing lo with
  | zero => rfl
  | succ n ih => simp [rngD, ih]
theorem rngD_get (lo : Int) (n i : Nat) (h : i < n) : (rngD lo n)[i]? = some (D.int (lo + i)) := by
  induction n generalizing lo i with
  | zero => omega
  | succ n ih =>
    cases i with
    | zero => simp [rngD]
    | succ i =>
      simp only [rngD, List.getElem?_cons_succ]
      rw [ih (lo + 1) i (by omega)]
      congr 2
      omega
theorem walk_rg {lo : Int} {n : Nat} : Walk (Itr lo n) (rngD lo n).length (fun _ => True) (YFn fun i => .int (lo + i)) := by
  rw [rngD_len]
  exact walk_range
def iR1 (wa : W) : WI := fun env Q => wa env fun r e1 => rs e1 r fun d => isI d fun j => j ≤ 1000000 ∧ -1000000 ≤ j ∧ Q ⟨rngD 0 j.toNat, []⟩ e1
theorem i_rng1 {p : Pos} (hm : X.mg "range" = none) (ha : DE X np He a wa) (hg : Gl X "range" := by rfl) (hs : starEach [a] X.env = [(false, eval a X.env)] := by rfl) : DI X np He tg (.Call (.Name "range" p) [a] [] pos) (iR1 wa) := by
  refine PI.weak (pi_range1 hg hm (pa_cons ha pa_nil hs) hs) fun σ H R ⟨env, Q0, Rp, w, q⟩ => ⟨env, _, Rp, w, fun r e1 v H1 w1 s1 r1 => ?_⟩
  obtain ⟨d, hd, w1⟩ := r1.rs s1.rep w1
  obtain ⟨j, rfl, h1, h2, w1⟩ := isI_of w1
  cases hd
  refine ⟨j, rfl, by omega, by omega, ?_⟩
  refine q ⟨rngD 0 j.toNat, []⟩ e1 H1 (Itr 0 j.toNat) _ _ w1 s1 walk_rg (fun p hp => absurd hp (by simp)) (fun i H2 x H3 hi y _ => ?_) (fun _ _ => trivial)
  obtain ⟨rfl, rfl⟩ := y
  refine ⟨.refl _, _, rngD_get 0 j.toNat i (by simpa [rngD_len] using hi), ?_⟩
  simp only [RpI]
/-- zip of two lists -/
def zipD : List D → List D → List D
  | x :: xs, y :: ys => .tup [x, y] :: zipD xs ys
  | _, _ => []
theorem zipD_len : ∀ (xs ys : List D), (zipD xs ys).length = min xs.length ys.length
  | [], ys => by simp [zipD]
  | x :: xs, [] => by simp [zipD]
  | x :: xs, y :: ys => by simp only [zipD, List.length_cons, zipD_len xs ys]; omega
theorem zipD_get : ∀ (xs ys : List D) (i : Nat) (x y : D), xs[i]? = some x → ys[i]? = some y → (zipD xs ys)[i]? = some (D.tup [x, y])
  | [], ys, i, x, y, h, _ => by simp at h
  | x0 :: xs, [], i, x, y, _, h => by simp at h
  | x0 :: xs, y0 :: ys, 0, x, y, h, g => by simp at h g; subst h g; simp [zipD]
  | x0 :: xs, y0 :: ys, i + 1, x, y, h, g => by
    simp only [zipD, List.getElem?_cons_succ]
    exact zipD_get xs ys i x y (by simpa using h) (by simpa using g)
theorem Stay.sub {K : PySem.W.Frag} {σ : L2.St} {H H1 H' : Hp} {e1 : DEnv} {c c' : List (Nat × List D)} (h : ∀ p ∈ c, p ∈ c') (s : Stay K np He σ H H1 e1 c' H') : Stay K np He σ H H1 e1 c H' := ⟨s.kp, s.keep, fun p hp => s.chk p (h p hp)⟩
end
end DL

namespace DL
open PySem PySem.Spec PyProof.Rows L2

/-! ### comprehensions -/
def wipeE (env : DEnv) : List Nat → DEnv
  | [] => env
  | v :: vs => (wipeE env vs).set v none
def back (env env0 : DEnv) : List Nat → DEnv
  | [] => env
  | v :: vs => (back env env0 vs).set v ((env0[v]?).getD none)
def noLs (env : DEnv) : List Nat → Bool
  | [] => true
  | v :: vs => !isLo ((env[v]?).getD none) && noLs env vs
section
variable {K : PySem.W.Frag} {np : Nat} {He : Hp} {σ σ' σ'' : L2.St} {H H' H'' : Hp} {env env' env'' : DEnv}
theorem wipeE_len (env : DEnv) : ∀ vs : List Nat, (wipeE env vs).length = env.length
  | [] => rfl
  | v :: vs => by unfold wipeE; rw [List.length_set, wipeE_len env vs]
theorem wipeE_out {i : Nat} : ∀ {vs : List Nat}, i ∉ vs → (wipeE env vs)[i]? = env[i]?
  | [], _ => rfl
  | v :: vs, h => by
    have h1 : v ≠ i := fun e => h (by rw [e]; exact List.mem_cons_self)
    have h2 : i ∉ vs := fun m => h (List.mem_cons_of_mem _ m)
    unfold wipeE
    rw [List.getElem?_set_ne h1]
    exact wipeE_out h2
theorem wipeE_some {i : Nat} {d : D} : ∀ {vs : List Nat}, (wipeE env vs)[i]? = some (some d) → env[i]? = some (some d) ∧ i ∉ vs
  | [], h => ⟨h, by simp⟩
  | v :: vs, h => by
    unfold wipeE at h
    by_cases hi : v = i
    · subst hi
      by_cases hv : v < (wipeE env vs).length
      · rw [List.getElem?_set_self hv] at h; cases h
      · rw [List.getElem?_eq_none (by simpa using hv)] at h; cases h
    · rw [List.getElem?_set_ne hi] at h
      obtain ⟨h1, h2⟩ := wipeE_some h
      exact ⟨h1, by simp only [List.mem_cons, not_or]; exact ⟨fun e => hi e.symm, h2⟩⟩
theorem back_len (env env0 : DEnv) : ∀ vs : List Nat, (back env env0 vs).length = env.length
  | [] => rfl
  | v :: vs => by unfold back; rw [List.length_set, back_len env env0 vs]
theorem back_out {env0 : DEnv} {i : Nat} : ∀ {vs : List Nat}, i ∉ vs → (back env env0 vs)[i]? = env[i]?
  | [], _ => rfl
  | v :: vs, h => by
    have h1 : v ≠ i := fun e => h (by rw [e]; exact List.mem_cons_self)
    have h2 : i ∉ vs := fun m => h (List.mem_cons_of_mem _ m)
    unfold back
    rw [List.getElem?_set_ne h1]
    exact back_out h2
theorem back_in {env0 : DEnv} {i : Nat} (hl : env.length = env0.length) : ∀ {vs : List Nat}, i ∈ vs → (back env env0 vs)[i]? = env0[i]?
  | [], h => by simp at h
  | v :: vs, h => by
    unfold back
    by_cases hi : v = i
    · subst hi
      by_cases hv : v < env0.length
      · rw [List.getElem?_set_self (by rw [back_len, hl]; exact hv), List.getElem?_eq_getElem hv]; rfl
      · rw [List.getElem?_eq_none (by rw [List.length_set, back_len, hl]; omega), List.getElem?_eq_none (by omega)]
    · rw [List.getElem?_set_ne hi]
      rcases List.mem_cons.mp h with z | z
      · exact absurd z.symm hi
      · exact back_in hl z
theorem noLs_at : ∀ {vs : List Nat} {i : Nat} {xs : List D}, noLs env vs = true → i ∈ vs → env[i]? ≠ some (some (D.lst xs))
  | [], i, xs, _, h => by simp at h
  | v :: vs, i, xs, n, h => by
    simp only [noLs, Bool.and_eq_true, Bool.not_eq_true'] at n
    rcases List.mem_cons.mp h with z | z
    · subst z
      intro e
      rw [e] at n
      simp [isLo] at n
    · exact noLs_at n.2 z
theorem Rep.wipe (R : Rep K np He σ H env) (vs : List Nat) : Rep K np He (wipe σ vs) H (wipeE env vs) where
  len := by rw [wipe_length, wipeE_len]; exact R.len
  val := fun i d e => by
    obtain ⟨e1, hi⟩ := wipeE_some e
    obtain ⟨v, e2, r⟩ := R.val i d e1
    exact ⟨v, (wipe_out hi).trans e2, r⟩
  apart := fun i j xs ys a e1 e2 s1 s2 => R.apart i j xs ys a (wipeE_some e1).1 (wipeE_some e2).1 (wipe_some s1).1 (wipe_some s2).1
  own := fun i xs a hi e s => R.own i xs a hi (wipeE_some e).1 (wipe_some s).1
  dom := R.dom
theorem la_wipe {vs : List Nat} {b : Addr} (h : LA (wipe σ vs) (wipeE env vs) b) : LA σ env b := by
  obtain ⟨i, xs, e, s⟩ := h
  exact ⟨i, xs, (wipeE_some e).1, (wipe_some s).1⟩
/-- the block's steps, seen from outside -/
structure In (K : PySem.W.Frag) (np : Nat) (He : Hp) (vs : List Nat) (σ : L2.St) (H : Hp) (env : DEnv) (H' : Hp) (env' : DEnv) : Prop where
  se : SE K np He (L2.wipe σ vs) H (wipeE env vs) H' env'
theorem SE.back {vs : List Nat} (R : Rep K np He σ H env) (n : noLs env vs = true) (s : SE K np He (L2.wipe σ vs) H (wipeE env vs) H' env') : SE K np He σ H env H' (back env' env vs) := by
  have hl : env'.length = env.length := by
    have h1 := s.rep.len
    rw [wipe_length, R.len] at h1
    exact h1.symm
  have kp : Kp H H' := fun b o h nl => s.keep b o h fun z => by
    obtain ⟨us, e⟩ := R.la (la_wipe z)
    rw [h] at e
    exact nl us (Option.some.inj e)
  have lst : ∀ (i : Nat) (xs : List D), (DL.back env' env vs)[i]? = some (some (D.lst xs)) → i ∉ vs ∧ env'[i]? = some (some (D.lst xs)) := fun i xs e => by
    by_cases hi : i ∈ vs
    · rw [back_in hl hi] at e
      exact absurd e (noLs_at n hi)
    · rw [back_out hi] at e
      exact ⟨hi, e⟩
  refine ⟨⟨by rw [back_len, hl]; exact R.len, fun i d e => ?_, fun i j xs ys a e1 e2 s1 s2 => ?_, fun i xs a hi e s' => ?_, s.rep.dom⟩, fun i => ?_, fun b o h nla => s.keep b o h fun z => nla (la_wipe z), s.dom⟩
  · by_cases hi : i ∈ vs
    · rw [back_in hl hi] at e
      obtain ⟨v, e1, r⟩ := R.val i d e
      refine ⟨v, e1, r.kp kp ?_⟩
      cases d with
      | lst xs => exact absurd e (noLs_at n hi)
      | _ => rfl
    · rw [back_out hi] at e
      obtain ⟨v, e1, r⟩ := s.rep.val i d e
      exact ⟨v, (wipe_some e1).1, r⟩
  · obtain ⟨h1, q1⟩ := lst i xs e1
    obtain ⟨h2, q2⟩ := lst j ys e2
    exact s.rep.apart i j xs ys a q1 q2 ((wipe_out h1).trans s1) ((wipe_out h2).trans s2)
  · obtain ⟨h1, q1⟩ := lst i xs e
    exact s.rep.own i xs a hi q1 ((wipe_out h1).trans s')
  · by_cases hi : i ∈ vs
    · exact .inl (back_in hl hi)
    · rw [back_out hi]
      rcases s.shape i with h | ⟨us, ws, g1, g2⟩
      · rw [wipeE_out hi] at h
        exact .inl h
      · exact .inr ⟨us, ws, (wipeE_some g1).1, g2⟩
theorem wipe_idem {σ2 : L2.St} {vs : List Nat} (hl : σ2.length = σ.length) (h : ∀ j, j ∉ vs → σ2[j]? = σ[j]?) : L2.wipe σ2 vs = L2.wipe σ vs := by
  have ins : ∀ (τ : L2.St) (ws : List Nat) (i : Nat), i ∈ ws → i < τ.length → (L2.wipe τ ws)[i]? = some none := by
    intro τ ws
    induction ws with
    | nil => intro i h; simp at h
    | cons w ws ih =>
      intro i h hi
      unfold L2.wipe
      by_cases hw : w = i
      · subst hw
        exact List.getElem?_set_self (by rw [wipe_length]; exact hi)
      · rw [List.getElem?_set_ne hw]
        rcases List.mem_cons.mp h with z | z
        · exact absurd z.symm hw
        · exact ih i z hi
  apply List.ext_getElem?
  intro i
  by_cases hi : i ∈ vs
  · by_cases hlt : i < σ.length
    · rw [ins _ _ i hi (by omega), ins _ _ i hi hlt]
    · rw [List.getElem?_eq_none (by rw [wipe_length]; omega), List.getElem?_eq_none (by rw [wipe_length]; omega)]
  · rw [wipe_out hi, wipe_out hi]
    exact h i hi
end

def lcGo (g : G) (wt we : W) (own : List Nat) (chk : List (Nat × List D)) (k : List D → DEnv → Prop) : List D → List D → DEnv → Prop
  | [], acc, env => chkE chk env ∧ k acc env
  | x :: xs, acc, env => chkE chk env ∧ g x env fun e2 => wt e2 fun rb e3 => rs e3 rb fun b =>
      ifb b (we e3 fun r e4 => rs e4 r fun y => isL y = false ∧ lcGo g wt we own chk k xs (acc ++ [y]) (wipeE e4 own)) (lcGo g wt we own chk k xs acc (wipeE e3 own))
@[irreducible] def Loop (p : Prop) : Prop := p
theorem Loop.out {p : Prop} (h : Loop p) : p := by unfold Loop at h; exact h
theorem Loop.mk {p : Prop} (h : p) : Loop p := by unfold Loop; exact h
def cLc (own : List Nat) (wi : WI) (g : G) (wt we : W) : W := fun env Q => wi env fun src e1 => noLs e1 own = true ∧ src.xs.length ≤ 1000000 ∧
  Loop (lcGo g wt we own src.chk (fun acc e => Q (.val (.lst acc)) (back e e1 own)) src.xs [] (wipeE e1 own))
theorem chkE_at : ∀ {chk : List (Nat × List D)} {env : DEnv} {p : Nat × List D}, chkE chk env → p ∈ chk → env[p.1]? = some (some (D.lst p.2))
  | [], env, p, _, h => by simp at h
  | (i, l) :: r, env, p, c, h => by
    rcases List.mem_cons.mp h with z | z
    · subst z; exact c.1
    · exact chkE_at c.2 z
section
variable {X : Cx} {np : Nat} {He : Hp} {pos : Pos}
def tTrue : W := cC (.bl true)
theorem PTs.weak {es : List Expr} {t t' : TT} (h : PTs X es t) (i : ∀ σ H Q, t' σ H Q → t σ H Q) : PTs X es t' := ⟨fun pins s σ H Q I q => h.run pins s σ H Q I (i σ H Q q)⟩
theorem ts_nil : PTs X [] (tB (rE X.K np He tTrue)) := DL.PTs.weak pts_nil fun σ H Q ⟨env, Q0, R, w, q⟩ => by
  obtain ⟨c, e, q'⟩ := q _ env (.bl true) H w (.refl R) ⟨rfl, fun n => by simp [isL] at n⟩
  cases e
  exact q'
theorem ts_one {c : Expr} {wc : W} (h : DT X np He c wc) : PTs X [c] (tB (rE X.K np He wc)) := pts_one h
/-- the core: the reading of a comprehension -/
theorem lc_read {K : PySem.W.Frag} {own : List Nat} {wi : WI} {g : G} {wt we : W} : ∀ σ H Q, rE K np He (cLc own wi g wt we) σ H Q → tLc (rI K np He wi) (rG K np He [] own g) (tB (rE K np He wt)) (rE K np He we) own σ H Q := by
  intro σ H Q ⟨env, Q0, R, w, q⟩
  refine ⟨env, _, R, w, fun src e1 H1 J Gd Y w1 s1 wk hc hy hg Dn hD => ?_⟩
  obtain ⟨nl, sz, w1l⟩ := w1
  have w1 := w1l.out
  have R1 := s1.rep
  have R1' : Rep K np He (L2.wipe σ own) H1 (wipeE e1 own) := R1.wipe own
  have hDe : ∀ a, H1 a ≠ none → a ≠ Dn := fun a h z => h (z ▸ hD)
  have DLA : ∀ {e2 : DEnv} {H2 : Hp}, SE K np He (L2.wipe σ own) H1 (wipeE e1 own) H2 e2 → ¬ LA (L2.wipe σ own) e2 Dn := fun s z => by
    obtain ⟨us, e⟩ := R1'.la (s.la.mp z)
    rw [hD] at e
    cases e
  -- a step of the block, with the new list written in it
  have wr : ∀ {H2 : Hp} {e2 : DEnv} {us ws : List V}, SE K np He (L2.wipe σ own) H1 (wipeE e1 own) H2 e2 → (H2 Dn = some (.lst us) ∨ H2 Dn = none) → SE K np He (L2.wipe σ own) H1 (wipeE e1 own) (upd H2 Dn (.lst ws)) e2 := fun {H2 e2 us ws} s hd => by
    have kp : Kp H2 (upd H2 Dn (.lst ws)) := fun b o e n => by
      have hb : b ≠ Dn := fun z => by
        subst z
        rcases hd with z | z
        · rw [z] at e; exact n us (Option.some.inj e).symm
        · rw [z] at e; cases e
      rw [upd_ne hb]
      exact e
    refine ⟨⟨s.rep.len, fun i d e => ?_, s.rep.apart, s.rep.own, fun b n => ?_⟩, s.shape, fun b o h n => ?_, fun b n => ?_⟩
    · obtain ⟨v, ev, r⟩ := s.rep.val i d e
      refine ⟨v, ev, ?_⟩
      cases d with
      | lst zs =>
        refine r.kpl kp fun a o ea eo => ?_
        subst ea
        have : a ≠ Dn := fun z => by
          subst z
          exact DLA s ⟨i, zs, e, ev⟩
        rw [upd_ne this]
        exact eo
      | _ => exact r.kp kp rfl
    · by_cases hb : b = Dn
      · subst hb; rw [upd_same] at n; cases n
      · rw [upd_ne hb] at n; exact s.rep.dom b n
    · have hb : b ≠ Dn := hDe b (by rw [h]; exact fun z => nomatch z)
      rw [upd_ne hb]
      exact s.keep b o h n
    · by_cases hb : b = Dn
      · subst hb; rw [upd_same] at n; cases n
      · rw [upd_ne hb] at n; exact s.dom b n
  let Pv : Nat → Hp → Prop := fun i H2 => ∃ acc us e2, H2 Dn = some (.lst us) ∧ RpIs K H2 acc us ∧ acc.length ≤ i ∧ SE K np He (L2.wipe σ own) H1 (wipeE e1 own) H2 e2 ∧ (∀ j ∈ own, e2[j]? = (wipeE e1 own)[j]?) ∧
    lcGo g wt we own src.chk (fun acc e => Q0 (.val (.lst acc)) (back e e1 own)) (src.xs.drop i) acc e2
  have stay : ∀ {H2 : Hp} {e2 : DEnv}, SE K np He (L2.wipe σ own) H1 (wipeE e1 own) H2 e2 → chkE src.chk e2 → Stay K np He σ H H1 e1 src.chk H2 := fun {H2 e2} s c => by
    refine ⟨(SE.kp R1' s).s, fun b o _ h n => s.keep b _ h fun z => n (la_wipe z), fun p hp a ea => ?_⟩
    have e := chkE_at c hp
    obtain ⟨a', us, e3, ha, ra⟩ := s.rep.lst e
    have e4 := (wipe_some e3).1
    rw [ea] at e4
    have : a = a' := by simpa using e4
    subst this
    exact ⟨us, ha, ra⟩
  have chk_of : ∀ {xs acc : List D} {e2 : DEnv} {k : List D → DEnv → Prop}, lcGo g wt we own src.chk k xs acc e2 → chkE src.chk e2 := fun {xs acc e2 k} h => by
    cases xs with
    | nil => exact h.1
    | cons x xs => exact h.1
  refine lc_it wk Pv ⟨[], [], wipeE e1 own, upd_same, by simp [RpIs], Nat.zero_le _, wr (us := []) (.refl R1') (.inr hD), fun _ _ => rfl, w1⟩ ?_ ?_ ?_
  · rintro i H2 hi ⟨acc, us, e2, hd, ra, la, s, _, go⟩
    exact hg H2 (stay s (chk_of go))
  · rintro i x H2 H3 hi ⟨acc, us, e2, hd, ra, la, s, ho, go⟩ y
    have st := stay s (chk_of go)
    obtain ⟨ex, d, ed, rd⟩ := hy i H2 x H3 hi y (hg H2 st)
    have dr : src.xs.drop i = d :: src.xs.drop (i + 1) := by
      rw [← List.getElem_cons_drop hi]
      rw [List.getElem?_eq_getElem hi] at ed
      rw [Option.some.inj ed]
    rw [dr] at go
    obtain ⟨_, go⟩ := go
    have s3 : SE K np He (L2.wipe σ own) H1 (wipeE e1 own) H3 e2 := s.trans (.ext s.rep ex)
    refine ⟨e2, d, _, s3.rep, rd, go, fun e4 σ4 w4 s4 o4 => ⟨?_, ?_⟩⟩
    · exact (wipe_idem (by rw [s4.rep.len, s4.len, ← s3.rep.len]) fun j hj => (o4 j hj).1).trans (by
        refine wipe_idem (by rw [wipe_length]) fun j hj => wipe_out hj)
    · -- the element
      have R4 := s4.rep
      -- from the block's start, the target's slots apart
      have cl : ∀ {H5 : Hp} {e5 : DEnv}, SE K np He σ4 H3 e4 H5 e5 → SE K np He (L2.wipe σ own) H1 (wipeE e1 own) H5 (wipeE e5 own) := fun {H5 e5} s5 => by
        have hl4 : σ4.length = (L2.wipe σ own).length := by rw [s4.rep.len, s4.len, ← s3.rep.len]
        have hw : L2.wipe σ4 own = L2.wipe σ own := (wipe_idem hl4 fun j hj => (o4 j hj).1).trans (wipe_idem (by rw [wipe_length]) fun j hj => wipe_out hj)
        have R5 := s5.rep.wipe own
        rw [hw] at R5
        have ela : ∀ b, LA σ4 e4 b → LA (L2.wipe σ own) e2 b := fun b z => by
          obtain ⟨j, xs, q1, q2⟩ := z
          by_cases hj : j ∈ own
          · exfalso
            -- a target's slot holds no list
            obtain ⟨v, e6, r6⟩ := R4.val j _ q1
            obtain ⟨a, us', ea, eh, _⟩ := r6
            have z' := s4.keep
            rw [q2] at e6
            have eb : b = a := by simpa [ea] using e6
            subst eb
            by_cases hla : LA (L2.wipe σ own) e2 b
            · obtain ⟨l, ys, g1, g2⟩ := hla
              have hlo : l ∉ own := fun m => by
                rw [ho l m] at g1
                exact (wipeE_some g1).2 m
              have g1' := (o4 l hlo).2.trans g1
              have g2' := (o4 l hlo).1.trans g2
              have := R4.apart j l xs ys b q1 g1' q2 g2'
              exact hlo (this ▸ hj)
            · exact (z' b _ eh hla).2 ⟨j, xs, q1, q2⟩
          · exact ⟨j, xs, (o4 j hj).2 ▸ q1, (o4 j hj).1 ▸ q2⟩
        have ela2 : ∀ b, LA (L2.wipe σ own) e2 b → LA σ4 e4 b := fun b z => by
          obtain ⟨l, ys, g1, g2⟩ := z
          have hlo : l ∉ own := fun m => by
            rw [ho l m] at g1
            exact (wipeE_some g1).2 m
          exact ⟨l, ys, (o4 l hlo).2.trans g1, (o4 l hlo).1.trans g2⟩
        refine ⟨R5, fun j => ?_, fun b o h n => ?_, fun b n => s3.dom b (s5.dom b n)⟩
        · by_cases hj : j ∈ own
          · left
            have w0 : ∀ (τ : DEnv) (ws : List Nat), j ∈ ws → (wipeE τ ws)[j]? = if j < τ.length then some none else none := by
              intro τ ws
              induction ws with
              | nil => intro h; simp at h
              | cons w ws ih =>
                intro h
                unfold wipeE
                by_cases hw : w = j
                · subst hw
                  by_cases hlt : w < τ.length
                  · rw [List.getElem?_set_self (by rw [wipeE_len]; exact hlt), if_pos hlt]
                  · rw [List.getElem?_eq_none (by rw [List.length_set, wipeE_len]; omega), if_neg hlt]
                · rw [List.getElem?_set_ne hw]
                  rcases List.mem_cons.mp h with z | z
                  · exact absurd z.symm hw
                  · exact ih z
            have l5 : e5.length = e1.length := by
              have h1 := s5.rep.len
              have h2 := R4.len
              have h3 := s4.len
              have h4 := s3.rep.len
              have h5 := R1'.len
              rw [wipeE_len] at h5
              omega
            rw [w0 _ _ hj, w0 _ _ hj, l5]
          · rw [wipeE_out hj, wipeE_out hj]
            have h45 := s5.shape j
            rw [(o4 j hj).2] at h45
            have h12 := s3.shape j
            rw [wipeE_out hj] at h12
            rcases h45 with h | ⟨us, ws, g1, g2⟩
            · rcases h12 with k | ⟨us, ws, k1, k2⟩
              · exact .inl (h.trans k)
              · exact .inr ⟨us, ws, k1, h.trans k2⟩
            · rcases h12 with k | ⟨us', ws', k1, k2⟩
              · exact .inr ⟨us, ws, k ▸ g1, g2⟩
              · exact .inr ⟨us', ws, k1, g2⟩
        · have h3 := s3.keep b o h n
          have nla : ¬ LA (L2.wipe σ own) e2 b := fun z => n (s3.la.mp z)
          exact s5.keep b o h3 fun z => nla (ela b z)
      have hd3 : H3 Dn = some (.lst us) := ex Dn _ hd
      have dla4 : ¬ LA σ4 e4 Dn := fun z => by
        obtain ⟨j, xs, q1, q2⟩ := z
        by_cases hj : j ∈ own
        · by_cases hla : LA (L2.wipe σ own) e2 Dn
          · exact DLA s3 hla
          · exact (s4.keep Dn _ hd3 hla).2 ⟨j, xs, q1, q2⟩
        · exact DLA s3 ⟨j, xs, (o4 j hj).2 ▸ q1, (o4 j hj).1 ▸ q2⟩
      refine ⟨e4, _, R4, w4, fun rb e5 vb H5 w5 s5 r5 => ?_⟩
      obtain ⟨b, hb, w5⟩ := r5.rs s5.rep w5
      have hd5 : H5 Dn = some (.lst us) := s5.keep Dn _ hd3 dla4
      have fin : ∀ {H6 : Hp} {e6 : DEnv} {acc' : List D} {us' : List V}, SE K np He σ4 H3 e4 H6 e6 → H6 Dn = some (.lst us') → RpIs K H6 acc' us' → acc'.length ≤ i + 1 → lcGo g wt we own src.chk (fun acc e => Q0 (.val (.lst acc)) (back e e1 own)) (src.xs.drop (i + 1)) acc' (wipeE e6 own) → Pv (i + 1) H6 := fun {H6 e6 acc' us'} s6 h6 r6 l6 go6 => by
        refine ⟨acc', us', wipeE e6 own, h6, r6, l6, cl s6, fun j hj => ?_, go6⟩
        rcases (cl s6).shape j with z | ⟨us, ws, g1, g2⟩
        · exact z
        · exact absurd hj (wipeE_some g1).2
      have w5z := ifb_of w5; clear w5; rcases w5z with ⟨rfl, w5⟩ | ⟨rfl, w5⟩
      · refine ⟨true, hb, ?_⟩
        dsimp only
        rw [if_pos rfl]
        refine ⟨e5, _, s5.rep, w5, fun r e6 v H6 w6 s6 r6 => ?_⟩
        have s56 := s5.trans s6
        obtain ⟨y', hy', w6⟩ := r6.rs s6.rep w6
        obtain ⟨ny, w6⟩ := w6
        have hd6 : H6 Dn = some (.lst us) := s56.keep Dn _ hd3 dla4
        have kp46 : Kp H3 H6 := SE.kp R4 s56
        have kp6 : Kp H6 (upd H6 Dn (.lst (us ++ [v]))) := kp_store hd6
        refine ⟨us, hd6, ?_, ?_⟩
        · rw [← ra.length]
          exact Nat.lt_of_lt_of_le (show acc.length < 1000000 by omega) (line_of (Nat.le_refl _))
        · -- the list written
          have ra3 : RpIs K H3 acc us := RpIs.kp ex.kp acc us ra
          have r7 : RpIs K (upd H6 Dn (.lst (us ++ [v]))) (acc ++ [y']) (us ++ [v]) := by
            refine RpIs.append (RpIs.kp kp6 _ _ (RpIs.kp kp46 acc us ra3)) ?_
            simp only [RpIs]
            exact ⟨v, [], rfl, RpI.kp kp6 _ _ (hy'.imm ny), rfl⟩
          have s7 : SE K np He (L2.wipe σ own) H1 (wipeE e1 own) (upd H6 Dn (.lst (us ++ [v]))) (wipeE e6 own) := wr (us := us) (cl s56) (.inl hd6)
          refine ⟨acc ++ [y'], us ++ [v], wipeE e6 own, upd_same, r7, by rw [List.length_append, List.length_singleton]; omega, s7, fun j hj => ?_, w6⟩
          rcases s7.shape j with z | ⟨us, ws, g1, g2⟩
          · exact z
          · exact absurd hj (wipeE_some g1).2
      · refine ⟨false, hb, ?_⟩
        dsimp only
        rw [if_neg Bool.false_ne_true]
        exact fin s5 hd5 (RpIs.kp (SE.kp R4 s5) _ _ (RpIs.kp ex.kp acc us ra)) (by omega) w5
  · rintro H2 ⟨acc, us, e2, hd, ra, la, s, ho, go⟩
    rw [List.drop_length] at go
    obtain ⟨_, go⟩ := go
    refine q _ _ _ _ go (s1.trans (.back R1 nl s)) ⟨⟨Dn, us, rfl, hd, ra⟩, fun _ a ea => ?_⟩
    cases ea
    exact s1.dom Dn hD
theorem e_lc {elt tg iter : Expr} {ifs : List Expr} {scope : Scope} {own : List (Str × Nat)} {ow : List Nat} {wi : WI} {g : G} {wt we : W} (hc : X.calm = true) (hN : X.N.Nodup) (hi : DI X np He tg iter wi) (ok : BlkOk X.N X.env.scope scope own)
    (hg : ∀ (s : Shared) (H : Hp) (C : Addr) (cl : List (Str × Addr)) (fp : List Addr), DG (X.blk s H scope (compEnvC scope cl C X.env) fp) np He [] ow tg g)
    (ht : ∀ (s : Shared) (H : Hp) (C : Addr) (cl : List (Str × Addr)) (fp : List Addr), PTs (X.blk s H scope (compEnvC scope cl C X.env) fp) ifs (tB (rE X.K np He wt)))
    (he : ∀ (s : Shared) (H : Hp) (C : Addr) (cl : List (Str × Addr)) (fp : List Addr), DE (X.blk s H scope (compEnvC scope cl C X.env) fp) np He elt we) (hw : own.map (·.2) = ow := by rfl) (hs : ∀ x, foldedSetIterable iter X.env x = pure x := by intro _; rfl) :
    DE X np He (.ListComp elt [⟨tg, iter, ifs, 0⟩] scope pos) (cLc ow wi g wt we) := by
  subst hw
  exact PE.weak (pe_lc hc hN hi ok hg ht he hs) (lc_read (own := own.map (·.2)))
end
end DL

namespace DL
open PySem PySem.Spec PyProof.Rows L2

structure Kt where
  nx : DEnv → Prop
  rt : D → DEnv → Prop
  bk : DEnv → Prop := fun _ => False
  ct : DEnv → Prop := fun _ => False
abbrev WS := DEnv → Kt → Prop
structure Goes (K : PySem.W.Frag) (np : Nat) (He : Hp) (pr : List Nat) (σ : L2.St) (H : Hp) (env : DEnv) (K0 : Kt) (D : Ends) : Prop where
  nx : ∀ env' σ' H', K0.nx env' → SS K np He pr σ H env σ' H' env' → D.nx σ' H'
  rt : ∀ d env' σ' H' v, K0.rt d env' → SS K np He pr σ H env σ' H' env' → RpV K H' d v → (isL d = true → ∀ a, v = .ref a → He a = none) → D.rt v H'
  bk : ∀ env' σ' H', K0.bk env' → SS K np He pr σ H env σ' H' env' → D.bk σ' H'
  ct : ∀ env' σ' H', K0.ct env' → SS K np He pr σ H env σ' H' env' → D.ct σ' H'
def rS (K : PySem.W.Frag) (np : Nat) (He : Hp) (pr : List Nat) (w : WS) : TS := fun D σ H => ∃ env K0, Rep K np He σ H env ∧ w env K0 ∧ Goes K np He pr σ H env K0 D
abbrev DS (X : Cx) (np : Nat) (He : Hp) (pr : List Nat) (s : Stmt) (w : WS) : Prop := PS X s (rS X.K np He pr w)
abbrev DSs (X : Cx) (np : Nat) (He : Hp) (pr : List Nat) (s : List Stmt) (w : WS) : Prop := PSs X s (rS X.K np He pr w)
theorem PS.weak {X : Cx} {e : Stmt} {t t' : TS} (h : PS X e t) (i : ∀ D σ H, t' D σ H → t D σ H) : PS X e t' := ⟨fun pins s σ H D I q => h.run pins s σ H D I (i D σ H q)⟩
theorem PSs.weak {X : Cx} {e : List Stmt} {t t' : TS} (h : PSs X e t) (i : ∀ D σ H, t' D σ H → t D σ H) : PSs X e t' := ⟨fun pins s σ H D I q => h.run pins s σ H D I (i D σ H q)⟩
theorem Goes.from {K : PySem.W.Frag} {np : Nat} {He : Hp} {pr : List Nat} {σ σ1 : L2.St} {H H1 : Hp} {env e1 : DEnv} {K0 : Kt} {D : Ends} (g : Goes K np He pr σ H env K0 D) (s : SS K np He pr σ H env σ1 H1 e1) : Goes K np He pr σ1 H1 e1 K0 D :=
  ⟨fun a b c h t => g.nx a b c h (s.trans t), fun d a b c v h t => g.rt d a b c v h (s.trans t), fun a b c h t => g.bk a b c h (s.trans t), fun a b c h t => g.ct a b c h (s.trans t)⟩
section
variable {X : Cx} {np : Nat} {He : Hp} {pr : List Nat} {a b c e : Expr} {es : List Expr} {wa wb wc we wi : W} {ws : WA} {pos : Pos} {st : Stmt} {sts : List Stmt} {u v : WS}
def cNilS : WS := fun env K => K.nx env
def cSeq (w u : WS) : WS := fun env K => w env { K with nx := fun e => u e K }
theorem s_nil : DSs X np He pr [] cNilS := PSs.weak pss_nil fun D σ H ⟨env, K0, R, w, g⟩ => g.nx env σ H w (.refl R)
theorem s_cons (h1 : DS X np He pr st u) (h2 : DSs X np He pr sts v) : DSs X np He pr (st :: sts) (cSeq u v) :=
  PSs.weak (pss_cons h1 h2) fun D σ H ⟨env, K0, R, w, g⟩ => ⟨env, _, R, w, fun e1 σ1 H1 w1 s1 => ⟨e1, K0, s1.rep, w1, g.from s1⟩, g.rt, g.bk, g.ct⟩
theorem s_one (h1 : DS X np He pr st u) : DSs X np He pr [st] u := pss_one h1
def cAsg (np : Nat) (pr : List Nat) (i : Nat) (we : W) : WS := fun env K => we env fun r e1 => match r with
  | .val d => stOk np pr e1 i d = true ∧ K.nx (e1.set i (some d))
  | .ref _ => False
theorem asg_core {i : Nat} : ∀ D σ H, rS X.K np He pr (cAsg np pr i we) D σ H → tAsg (rE X.K np He we) (gName i) D σ H := by
  intro D σ H ⟨env, K0, R, w, g⟩
  refine ⟨env, _, R, w, fun r e1 v1 H1 w1 s1 r1 => ?_⟩
  cases r with
  | ref j => exact False.elim w1
  | val d =>
    obtain ⟨ok, w1⟩ := w1
    exact g.nx _ _ _ w1 (.put R s1 ok r1.1 r1.2)
theorem s_asg (i : Nat) {x : Str} {pos' : Pos} (hN : X.N.Nodup) (he : DE X np He e we) (hi : X.N[i]? = some x := by rfl) (hx : Loc X.env.scope x := by first | exact Or.inl rfl | exact Or.inr rfl) (hs : swapsWith e (some (.Name x pos')) pos.line X.env = pure false := by rfl) (hf : X.fn x = true ∨ X.env.scope.names.lookup x = some .local := by first | exact .inl rfl | exact .inr rfl | assumption) :
    DS X np He pr (.Assign [.Name x pos'] e pos) (cAsg np pr i we) := PS.weak (ps_set hN hi hx he hs hf) asg_core
theorem s_setLc (i : Nat) {y : Str} {py : Pos} {elt tg iter : Expr} {ifs : List Expr} {scope : Scope} {own : List (Str × Nat)} {ow : List Nat} {spos : Pos} {wI : WI} {g : G} {wt we : W} (hc : X.calm = true) (hN : X.N.Nodup) (hi : DI X np He tg iter wI) (ok : BlkOk X.N X.env.scope scope own)
    (hg : ∀ (s : Shared) (H : Hp) (C : Addr) (cl : List (Str × Addr)) (fp : List Addr), DG (X.blk s H scope (compEnvC scope cl C X.env) fp) np He [] ow tg g)
    (ht : ∀ (s : Shared) (H : Hp) (C : Addr) (cl : List (Str × Addr)) (fp : List Addr), PTs (X.blk s H scope (compEnvC scope cl C X.env) fp) ifs (tB (rE X.K np He wt)))
    (he : ∀ (s : Shared) (H : Hp) (C : Addr) (cl : List (Str × Addr)) (fp : List Addr), DE (X.blk s H scope (compEnvC scope cl C X.env) fp) np He elt we) (hw : own.map (·.2) = ow := by rfl) (hy : X.N[i]? = some y := by rfl) (hyl : X.env.scope.names.lookup y = some .local := by rfl)
    (hsw : swapsWith (.ListComp elt [⟨tg, iter, ifs, 0⟩] scope pos) (some (.Name y py)) spos.line X.env = pure true := by exact sw_true rfl rfl rfl (by decide +kernel)) (hs : ∀ x, foldedSetIterable iter X.env x = pure x := by intro _; rfl) :
    DS X np He pr (.Assign [.Name y py] (.ListComp elt [⟨tg, iter, ifs, 0⟩] scope pos) spos) (cAsg np pr i (cLc ow wI g wt we)) := by
  subst hw
  exact PS.weak (ps_setLc (wi := rI X.K np He wI) (g := rG X.K np He [] (own.map (·.2)) g) (tt := tB (rE X.K np He wt)) (te := rE X.K np He we) hc hN hy hyl hsw hi ok hg ht he hs) (by
    intro D σ H h
    have h' := asg_core D σ H h
    exact lc_read σ H _ h')
def cEx (we : W) : WS := fun env K => we env fun _ e1 => K.nx e1
theorem s_expr (he : DE X np He e we) (hs : swapsWith e none pos.line X.env = pure false := by rfl) : DS X np He pr (.Expr e pos) (cEx we) := by
  refine PS.weak (ps_expr he hs) fun D σ H ⟨env, K0, R, w, g⟩ => ⟨env, _, R, w, fun r e1 v1 H1 w1 s1 r1 => g.nx _ _ _ w1 (s1.ss R)⟩
def cRet (np : Nat) (we : W) : WS := fun env K => we env fun r e1 => match r with
  | .val d => K.rt d e1
  | .ref i => np ≤ i ∧ getv e1 i fun d => K.rt d e1
theorem s_ret (he : DE X np He e we) : DS X np He pr (.Return (some e) pos) (cRet np we) := by
  refine PS.weak (ps_ret he) fun D σ H ⟨env, K0, R, w, g⟩ => ⟨env, _, R, w, fun r e1 v1 H1 w1 s1 r1 => ?_⟩
  cases r with
  | val d => exact g.rt d e1 σ H1 v1 w1 (s1.ss R) r1.1 fun n a ea => R.dom a (r1.2 n a ea)
  | ref i =>
    obtain ⟨hi, w1⟩ := w1
    obtain ⟨d, ed, w1⟩ := getv_of w1
    obtain ⟨v, ev, rv⟩ := s1.rep.val i d ed
    rw [r1.1] at ev
    have evv : v1 = v := by simpa using ev
    subst evv
    refine g.rt d e1 σ H1 v1 w1 (s1.ss R) rv fun n a ea => ?_
    cases d with
    | lst xs => exact s1.rep.own i xs a hi ed (by rw [r1.1, ea])
    | _ => simp [isL] at n
def cIte (wc : W) (u v : WS) : WS := fun env K => wc env fun r e1 => rs e1 r fun d => ifb d (u e1 K) (v e1 K)
theorem s_if {p q : List Stmt} (hc : DT X np He c wc) (ha : DSs X np He pr p u) (hb : DSs X np He pr q v) : DS X np He pr (.If c p q pos) (cIte wc u v) := by
  refine PS.weak (ps_if hc ha hb) fun D σ H ⟨env, K0, R, w, g⟩ => ⟨env, _, R, w, fun r e1 v1 H1 w1 s1 r1 => ?_⟩
  obtain ⟨d, hd, w1⟩ := r1.rs s1.rep w1
  have w1z := ifb_of w1; clear w1; rcases w1z with ⟨rfl, w1⟩ | ⟨rfl, w1⟩
  · refine ⟨true, hd, ?_⟩
    dsimp only
    rw [if_pos rfl]
    exact ⟨e1, K0, s1.rep, w1, g.from (s1.ss R)⟩
  · refine ⟨false, hd, ?_⟩
    dsimp only
    rw [if_neg Bool.false_ne_true]
    exact ⟨e1, K0, s1.rep, w1, g.from (s1.ss R)⟩
/-- a, b = x, y -/
def put1 (np : Nat) (pr : List Nat) (i : Nat) (d : D) (env : DEnv) (k : DEnv → Prop) : Prop := isL d = false ∧ stOk np pr env i d = true ∧ k (env.set i (some d))
/-- xs[k] = e -/
def cSet (i : Nat) (we wi : W) : WS := fun env K => we env fun r e1 => match r with
  | .val d => isL d = false ∧ getl e1 i fun _ => wi e1 fun ri e2 => rs e2 ri fun y => isI y fun k => getl e2 i fun xs => (match ixN xs.length k with
    | some j => K.nx (e2.set i (some (.lst (xs.set j d))))
    | none => False)
  | .ref _ => False
theorem s_set (i : Nat) {x : Str} {p p2 : Pos} {ix : Expr} (he : DE X np He e we) (hi : DE X np He ix wi) (hN : X.N[i]? = some x := by rfl) (hv : Vis X.env.scope x := by first | exact Or.inl rfl | exact Or.inr (Or.inl rfl) | exact Or.inr (Or.inr rfl)) (hd : (x == ("__debug__" : Str)) = false := by decide)
    (hcd : (x == ("__classdict__" : Str)) = false := by decide)
    (ha : ∀ v, assign (.Subscript (.Name x p) ix p2) X.env v = (do
      let ov ← holding [v] (eval (.Name x p) X.env)
      let iv ← holding [v, ov] (eval ix X.env)
      standAt p2
      holding [v, ov, iv] (setItem ov iv v)
      release [v, ov, iv] []) := by intro _; rfl)
    (hs : swapsWithSole [.Subscript (.Name x p) ix p2] e pos.line X.env = pure false := by rfl) (hw : swappedStores [.Subscript (.Name x p) ix p2] e X.env = pure none := by rfl)
    (h1 : (assignEach [.Subscript (.Name x p) ix p2] X.env).map (·.2) = [assign (.Subscript (.Name x p) ix p2) X.env] := by rfl) :
    DS X np He pr (.Assign [.Subscript (.Name x p) ix p2] e pos) (cSet i we wi) := by
  refine PS.weak (ps_asg he (pg_sub (pv i hN hv hd hcd) hi set_list ha) hs hw h1) fun D σ H ⟨env, K0, R, w, g⟩ => ⟨env, _, R, w, fun r e1 v1 H1 w1 s1 r1 => ?_⟩
  cases r with
  | ref j => exact False.elim w1
  | val d =>
    obtain ⟨im, w1⟩ := w1
    obtain ⟨xs0, e0, w1⟩ := getl_of w1
    obtain ⟨a, us, es, ha, ra⟩ := s1.rep.lst e0
    refine ⟨.ref a, es, e1, _, s1.rep, w1, fun ri e2 v2 H2 w2 s2 r2 => ?_⟩
    obtain ⟨y, hy, w2⟩ := r2.rs s2.rep w2
    obtain ⟨k, rfl, w2⟩ := isI_of w2
    obtain ⟨xs, e3, w2⟩ := getl_of w2
    split at w2
    · rename_i j hj
      obtain ⟨a', us', es', ha', ra'⟩ := s2.rep.lst e3
      rw [es] at es'
      have ea : a = a' := by simpa using es'
      subst ea
      cases hy
      refine ⟨a, us', k, j, rfl, rfl, ha', by rw [← ra'.length]; exact hj, ?_⟩
      have rd : RpI X.K H2 d v1 := RpI.kp (SE.kp s1.rep s2) d v1 (r1.1.imm im)
      exact g.nx _ σ _ w2 (((s1.trans s2).trans (.store s2.rep e3 es ha' (ra'.set rd j))).ss R)
    · exact w2.elim

/-! ### loops -/
def goFor (g : G) (wb : WS) (chk : List (Nat × List D)) (K : Kt) : List D → DEnv → Prop
  | [], env => chkE chk env ∧ K.nx env
  | x :: xs, env => chkE chk env ∧ g x env fun e2 => wb e2 { nx := goFor g wb chk K xs, rt := K.rt, bk := K.nx, ct := goFor g wb chk K xs }
def cFor (pr : List Nat) (wI : WI) (g : G) (wb : WS) : WS := fun env K => wI env fun src e1 => (src.chk.all fun p => pr.contains p.1) = true ∧ Loop (goFor g wb src.chk K src.xs e1)
theorem s_for {tg iter : Expr} {body : List Stmt} {wI : WI} {g : G} {wb : WS} (pr' sl : List Nat) (hx : PassesOwn (model X.prog X.w) X.A X.env X.xe) (hc : X.calm = true) (hi : DI X np He tg iter wI) (hg : DG X np He pr' sl tg g) (hb : DSs X np He pr' body wb)
    (hp : (pr.all fun i => pr'.contains i) = true := by decide) (hs : ∀ x, foldedSetIterable iter X.env x = pure x := by intro _; rfl) : DS X np He pr (.For tg iter body [] pos) (cFor pr' wI g wb) := by
  refine PS.weak (ps_for hx hc hi hg hb hs) fun D σ H ⟨env, K0, R, w, gs⟩ => ⟨env, _, R, w, fun src e1 H1 J Gd Y w1 s1 wk hck hy hgd => ?_⟩
  have sub : ∀ i ∈ pr, i ∈ pr' := fun i h => by
    have := List.all_eq_true.mp hp i h
    simpa [List.contains_eq_mem] using this
  obtain ⟨hpr, w1l⟩ := w1
  have w1 := w1l.out
  have cpr : ∀ p ∈ src.chk, p.1 ∈ pr' := fun p h => by
    have := List.all_eq_true.mp hpr p h
    simpa [List.contains_eq_mem] using this
  let Pv : Nat → L2.St → Hp → Prop := fun i σ2 H2 => ∃ e2, SS X.K np He pr' σ H1 e1 σ2 H2 e2 ∧ goFor g wb src.chk K0 (src.xs.drop i) e2
  have out : ∀ {σ2 : L2.St} {H2 : Hp} {e2 : DEnv}, SS X.K np He pr' σ H1 e1 σ2 H2 e2 → SS X.K np He pr σ H env σ2 H2 e2 := fun s => (s1.ss R).trans (s.sub sub)
  have cgo : ∀ {xs : List DL.D} {e2 : DEnv}, goFor g wb src.chk K0 xs e2 → chkE src.chk e2 := fun {xs e2} h => by
    cases xs with
    | nil => exact h.1
    | cons x xs => exact h.1
  have gd : ∀ {σ2 : L2.St} {H2 : Hp} {e2 : DEnv}, SS X.K np He pr' σ H1 e1 σ2 H2 e2 → chkE src.chk e2 → Gd H2 := fun {σ2 H2 e2} s c => by
    refine hgd H2 ⟨(s.kp s1.rep).s, fun b o _ h n => (s.keep b _ h n).1, fun p hp a ea => ?_⟩
    obtain ⟨q1, _⟩ := s.par p.1 p.2 (cpr p hp) (hck p hp)
    obtain ⟨a', us, e3, ha, ra⟩ := s.rep.lst (chkE_at c hp)
    rw [q1, ea] at e3
    have : a = a' := by simpa using e3
    subst this
    exact ⟨us, ha, ra⟩
  refine for_it wk Pv ⟨e1, .refl s1.rep, w1⟩ ?_ ?_ ?_
  · rintro i σ2 H2 hi ⟨e2, s, go⟩
    exact gd s (cgo go)
  · rintro i x σ2 H2 H3 hi ⟨e2, s, go⟩ y
    obtain ⟨ex, d, ed, rd⟩ := hy i H2 x H3 hi y (gd s (cgo go))
    have dr : src.xs.drop i = d :: src.xs.drop (i + 1) := by
      rw [← List.getElem_cons_drop hi]
      rw [List.getElem?_eq_getElem hi] at ed
      rw [Option.some.inj ed]
    rw [dr] at go
    obtain ⟨_, go⟩ := go
    have s3 : SS X.K np He pr' σ H1 e1 σ2 H3 e2 := s.trans ((SE.ext s.rep ex).ss s.rep)
    refine ⟨e2, d, _, s3.rep, rd, go, fun e4 σ4 w4 s4 o4 => ?_⟩
    refine ⟨e4, _, s4.rep, w4, ⟨fun e5 σ5 H5 w5 s5 => ⟨e5, (s3.trans s4).trans s5, w5⟩, fun d e5 σ5 H5 v w5 s5 rv fr => ?_, fun e5 σ5 H5 w5 s5 => ?_, fun e5 σ5 H5 w5 s5 => ⟨e5, (s3.trans s4).trans s5, w5⟩⟩⟩
    · exact gs.rt d e5 σ5 H5 v w5 (out ((s3.trans s4).trans s5)) rv fr
    · exact gs.nx e5 σ5 H5 w5 (out ((s3.trans s4).trans s5))
  · rintro σ2 H2 ⟨e2, s, go⟩
    rw [List.drop_length] at go
    exact gs.nx e2 σ2 H2 go.2 (out s)
def cWhile (wc : W) (wb : WS) : WS := fun env K => ∃ (inv : DEnv → Prop) (μ : DEnv → Nat), inv env ∧ ∀ e, inv e → wc e fun r e1 => rs e1 r fun d =>
  ifb d (wb e1 { nx := fun e' => inv e' ∧ μ e' < μ e, rt := K.rt, bk := K.nx, ct := fun e' => inv e' ∧ μ e' < μ e }) (K.nx e1)
theorem s_while {body : List Stmt} {wb : WS} (hx : PassesOwn (model X.prog X.w) X.A X.env X.xe) (hc : DT X np He c wc) (hb : DSs X np He pr body wb) : DS X np He pr (.While c body [] pos) (cWhile wc wb) := by
  refine PS.weak (ps_while hx hc hb) fun D σ H ⟨env, K0, R, ⟨inv, μ, i0, tn⟩, gs⟩ => ?_
  refine ⟨fun m σ2 H2 => ∃ e2, SS X.K np He pr σ H env σ2 H2 e2 ∧ inv e2 ∧ m = μ e2, ⟨_, env, .refl R, i0, rfl⟩, ?_⟩
  rintro m σ2 H2 ⟨e2, s, iv, rfl⟩
  refine ⟨e2, _, s.rep, tn e2 iv, fun r e3 v3 H3 w3 s3 r3 => ?_⟩
  obtain ⟨d, hd, w3⟩ := r3.rs s3.rep w3
  have s' := s.trans (s3.ss s.rep)
  have w3z := ifb_of w3; clear w3; rcases w3z with ⟨rfl, w3⟩ | ⟨rfl, w3⟩
  · refine ⟨true, hd, ?_⟩
    dsimp only
    rw [if_pos rfl]
    refine ⟨fun σ4 H4 => ∃ e4, SS X.K np He pr σ H env σ4 H4 e4 ∧ inv e4 ∧ μ e4 < μ e2, fun σ4 H4 ⟨e4, s4, i4, l4⟩ => ⟨μ e4, l4, e4, s4, i4, rfl⟩, e3, _, s3.rep, w3, ?_⟩
    exact ⟨fun e5 σ5 H5 w5 s5 => ⟨e5, s'.trans s5, w5.1, w5.2⟩, fun d e5 σ5 H5 v w5 s5 rv fr => gs.rt d e5 σ5 H5 v w5 (s'.trans s5) rv fr, fun e5 σ5 H5 w5 s5 => gs.nx e5 σ5 H5 w5 (s'.trans s5), fun e5 σ5 H5 w5 s5 => ⟨e5, s'.trans s5, w5.1, w5.2⟩⟩
  · refine ⟨false, hd, ?_⟩
    dsimp only
    rw [if_neg Bool.false_ne_true]
    exact gs.nx e3 σ2 H3 w3 s'
end

/-! ### a def -/
def outs (env : DEnv) (n : Nat) : List D := (env.take n).map fun o => o.getD .non
def env0 (ds : List D) (n : Nat) : DEnv := ds.map some ++ List.replicate n none
theorem RpVs.get {K : PySem.W.Frag} {H : Hp} : ∀ {ds : List D} {vs : List V} {i : Nat} {d : D}, RpVs K H ds vs → ds[i]? = some d → ∃ v, vs[i]? = some v ∧ RpV K H d v
  | [], vs, i, d, _, e => by simp at e
  | d0 :: ds, vs, 0, d, h, e => by
    obtain ⟨v, r, rfl, h1, _⟩ := h
    simp at e
    subst e
    exact ⟨v, rfl, h1⟩
  | d0 :: ds, vs, i + 1, d, h, e => by
    obtain ⟨v, r, rfl, _, h2⟩ := h
    obtain ⟨u, e1, e2⟩ := RpVs.get h2 (by simpa using e)
    exact ⟨u, by simpa using e1, e2⟩
theorem apA_get : ∀ {ds : List D} {vs : List V} {i j : Nat} {xs ys : List D} {v : V}, apA ds vs → ds[i]? = some (.lst xs) → ds[j]? = some (.lst ys) → vs[i]? = some v → vs[j]? = some v → i = j
  | [], vs, i, j, xs, ys, v, _, e, _, _, _ => by simp at e
  | d :: ds, [], i, j, xs, ys, v, _, _, _, e, _ => by simp at e
  | d :: ds, w :: vs, i, j, xs, ys, v, h, e1, e2, s1, s2 => by
    have tl : apA ds vs := by
      cases d with
      | lst zs => exact h.2
      | _ => exact h
    cases i with
    | zero =>
      cases j with
      | zero => rfl
      | succ j =>
        simp at e1 s1
        subst e1 s1
        exact absurd (by simpa using s2) (h.1 j ys (by simpa using e2))
    | succ i =>
      cases j with
      | zero =>
        simp at e2 s2
        subst e2 s2
        exact absurd (by simpa using s1) (h.1 i xs (by simpa using e1))
      | succ j =>
        congr 1
        exact apA_get tl (by simpa using e1) (by simpa using e2) (by simpa using s1) (by simpa using s2)
section
variable {P : Program} {w : World} {K : PySem.W.Frag} {mg : Str → Option Value} {base : Heap}
theorem env0_get {ds : List D} {n i : Nat} {d : D} (h : (env0 ds n)[i]? = some (some d)) : ds[i]? = some d := by
  unfold env0 at h
  by_cases hi : i < ds.length
  · rw [List.getElem?_append_left (by simpa using hi)] at h
    simpa using h
  · rw [List.getElem?_append_right (by simpa using hi)] at h
    by_cases h2 : i - (ds.map some).length < n
    · rw [List.getElem?_replicate_of_lt h2] at h
      cases h
    · rw [List.getElem?_eq_none (by simpa using h2)] at h
      cases h
theorem start_get {N : List Str} {vs : List V} {i : Nat} {v : V} (h : vs[i]? = some v) : (L2.start N vs)[i]? = some (some v) := by
  unfold L2.start
  have hi : i < vs.length := (List.getElem?_eq_some_iff.mp h).1
  rw [List.getElem?_append_left (by simpa using hi)]
  simp [h]
theorem start_at {N : List Str} {vs : List V} {i : Nat} {v : V} (h : (L2.start N vs)[i]? = some (some v)) : vs[i]? = some v := by
  unfold L2.start at h
  by_cases hi : i < vs.length
  · rw [List.getElem?_append_left (by simpa using hi)] at h
    simpa using h
  · rw [List.getElem?_append_right (by simpa using hi)] at h
    by_cases h2 : i - (vs.map some).length < N.length - vs.length
    · rw [List.getElem?_replicate_of_lt h2] at h
      cases h
    · rw [List.getElem?_eq_none (by simpa using h2)] at h
      cases h
theorem fn_ok {x : Str} {st : Stmt} {f : Addr} {fd : FuncData} {N ps : List Str} {k : Nat} {sp : FSpec} (wS : WS) (F : Fun K x x st f fd) (S : FnScope N ps (defScope st))
    (deriv : ∀ (cdv : Value) (A : Around) (outer : List Env) (s : Shared) (H : Hp) (E : XK), Room k (A.deeper (envOfC x (defScope st) s.heap.objs.size f cdv)) →
      DSs (cxOf CX0 P w K mg base N x (defScope st) f cdv A outer s H E).nox ps.length H (List.range ps.length) (defBody st) wS)
    (pure : ∀ ds, ds.length = ps.length → sp.pre ds → wS (env0 ds (N.length - ps.length)) { nx := fun e => sp.post ds .non (outs e ps.length), rt := fun d e => sp.post ds d (outs e ps.length) }) :
    FnOk P w K mg base CX0 (k + 1) f fd ps (spOf K ps.length sp) := by
  have hNl : ps.length ≤ N.length := by
    have := congrArg List.length S.pre
    rw [List.length_take] at this
    omega
  refine F.ok S (fun vs H Q E h => ?_) (fun cdv A outer s H vs Q E hr h => ?_)
  · obtain ⟨ds, hl, _⟩ := h
    exact hl
  · obtain ⟨ds, hl, rv, ap, pre, q⟩ := h
    have hdl : ds.length = ps.length := by rw [rv.length]; exact hl
    refine ⟨_, deriv cdv A outer s H E hr, ?_⟩
    have R : Rep K ps.length H (L2.start N vs) H (env0 ds (N.length - ps.length)) := by
      refine ⟨?_, fun i d e => ?_, fun i j xs ys a e1 e2 s1 s2 => ?_, fun i xs a hi e s' => ?_, fun _ h => h⟩
      · unfold L2.start env0
        simp [hl, hdl]
      · obtain ⟨v, e1, r1⟩ := rv.get (env0_get e)
        exact ⟨v, start_get e1, r1⟩
      · exact apA_get ap (env0_get e1) (env0_get e2) (start_at s1) (start_at s2)
      · have := env0_get e
        have hi' : i < ds.length := (List.getElem?_eq_some_iff.mp this).1
        omega
    have A1 : ∀ {σ' : L2.St} {H' : Hp} {env' : DEnv}, SS K ps.length H (List.range ps.length) (L2.start N vs) H (env0 ds (N.length - ps.length)) σ' H' env' → After K H H' ds (outs env' ps.length) vs := fun {σ' H' env'} st => by
      have el : env'.length = ds.length + (N.length - ps.length) := by
        rw [st.len]
        unfold env0
        simp
      refine ⟨?_, fun b o h n => ?_, st.dom, fun i xs v e ev => ?_⟩
      · unfold outs
        rw [List.length_map, List.length_take]
        omega
      · refine (st.keep b o h fun z => ?_).1
        obtain ⟨i, xs, e, s1⟩ := z
        exact n i xs (env0_get e) (start_at s1)
      · have hi : i < ds.length := (List.getElem?_eq_some_iff.mp e).1
        have e0 : (env0 ds (N.length - ps.length))[i]? = some (some (D.lst xs)) := by
          unfold env0
          rw [List.getElem?_append_left (by simpa using hi)]
          simp [e]
        obtain ⟨q1, ys, q2⟩ := st.par i xs (List.mem_range.mpr (by omega)) e0
        rw [start_get ev] at q1
        obtain ⟨u, q3, ru⟩ := st.rep.val i _ q2
        rw [q1] at q3
        have euv : v = u := by simpa using q3
        subst euv
        refine ⟨ys, ?_, ru⟩
        unfold outs
        rw [List.getElem?_map, List.getElem?_take_of_lt (by omega), q2]
        rfl
    refine ⟨_, _, R, pure ds hdl pre, ⟨fun env' σ' H' h st => ?_, fun d env' σ' H' v h st rv fr => ?_, fun _ _ _ h _ => h.elim, fun _ _ _ h _ => h.elim⟩⟩
    · exact q .non _ .non H' h (A1 st) rfl fun n => by simp [isL] at n
    · exact q d _ v H' h (A1 st) rv fr
end
end DL

namespace DL
open PySem PySem.Spec PyProof.Rows L2
/-! ### reasoning over data -/
theorem ifb_t {A B : Prop} (h : A) : ifb (.bl true) A B := .t h
theorem ifb_f {A B : Prop} (h : B) : ifb (.bl false) A B := .f h
theorem ifb_dec {p : Prop} {_ : Decidable p} {A B : Prop} (h1 : p → A) (h2 : ¬ p → B) : ifb (.bl (decide p)) A B := by
  by_cases h : p
  · rw [decide_eq_true h]; exact .t (h1 h)
  · rw [decide_eq_false h]; exact .f (h2 h)
theorem ifb_ndec {p : Prop} {_ : Decidable p} {A B : Prop} (h1 : ¬ p → A) (h2 : p → B) : ifb (.bl (!decide p)) A B := by
  by_cases h : p
  · rw [decide_eq_true h]; exact .f (h2 h)
  · rw [decide_eq_false h]; exact .t (h1 h)
theorem ifb_nr {α : Type} {x : α} {_ : Decidable (x = x)} {A B : Prop} (h : B) : ifb (.bl (!decide (x = x))) A B := by
  rw [decide_eq_true (rfl : x = x)]; exact ifb_f h
theorem ifb_er {α : Type} {x : α} {_ : Decidable (x = x)} {A B : Prop} (h : A) : ifb (.bl (decide (x = x))) A B := by
  rw [decide_eq_true (rfl : x = x)]; exact ifb_t h
theorem goFor_rng {g : G} {wb : WS} {chk : List (Nat × List D)} {K : Kt} (I : Int → DEnv → Prop) : ∀ (n : Nat) (lo : Int) (env : DEnv), I lo env →
    (∀ j env nxt, lo ≤ j → j < lo + n → I j env → (∀ e, I (j + 1) e → nxt e) → chkE chk env ∧ g (.int j) env fun e2 => wb e2 { nx := nxt, rt := K.rt, bk := K.nx, ct := nxt }) →
    (∀ env, I (lo + n) env → chkE chk env ∧ K.nx env) → goFor g wb chk K (rngD lo n) env
  | 0, lo, env, h, _, hd => hd env (by simpa using h)
  | n + 1, lo, env, h, hs, hd => by
    refine hs lo env _ (Int.le_refl _) (by omega) h fun e he => ?_
    exact goFor_rng I n (lo + 1) e he (fun j env nxt h1 h2 => hs j env nxt (by omega) (by omega)) (fun env h => hd env (by rw [show lo + ((n + 1 : Nat) : Int) = lo + 1 + (n : Int) by omega]; exact h))
theorem loop_rng {g : G} {wb : WS} {chk : List (Nat × List D)} {K : Kt} {n : Nat} {lo : Int} {env : DEnv} (I : Int → DEnv → Prop) (h0 : I lo env)
    (hs : ∀ j env nxt, lo ≤ j → j < lo + n → I j env → (∀ e, I (j + 1) e → nxt e) → chkE chk env ∧ g (.int j) env fun e2 => wb e2 { nx := nxt, rt := K.rt, bk := K.nx, ct := nxt })
    (hd : ∀ env, I (lo + n) env → chkE chk env ∧ K.nx env) : Loop (goFor g wb chk K (rngD lo n) env) := .mk (goFor_rng I n lo env h0 hs hd)
theorem lcGo_ind {g : G} {wt we : W} {own : List Nat} {chk : List (Nat × List D)} {k : List D → DEnv → Prop} (I : List D → List D → DEnv → Prop)
    (hs : ∀ x r acc env (nxt : List D → DEnv → Prop), I (x :: r) acc env → (∀ a e, I r a e → nxt a e) → chkE chk env ∧ g x env fun e2 => wt e2 fun rb e3 => rs e3 rb fun b =>
      ifb b (we e3 fun r e4 => rs e4 r fun y => isL y = false ∧ nxt (acc ++ [y]) (wipeE e4 own)) (nxt acc (wipeE e3 own)))
    (hd : ∀ acc env, I [] acc env → chkE chk env ∧ k acc env) : ∀ xs acc env, I xs acc env → lcGo g wt we own chk k xs acc env
  | [], acc, env, h => hd acc env h
  | x :: r, acc, env, h => hs x r acc env _ h fun a e he => lcGo_ind I hs hd r a e he
/-- each item gives f of it, the slots stay -/
theorem lcGo_map {g : G} {wt we : W} {own : List Nat} {chk : List (Nat × List D)} {k : List D → DEnv → Prop} (f : D → D) (env : DEnv) (xs0 : List D)
    (hs : ∀ x (nxt : List D → DEnv → Prop) acc, x ∈ xs0 → nxt (acc ++ [f x]) env → chkE chk env ∧ g x env fun e2 => wt e2 fun rb e3 => rs e3 rb fun b =>
      ifb b (we e3 fun r e4 => rs e4 r fun y => isL y = false ∧ nxt (acc ++ [y]) (wipeE e4 own)) (nxt acc (wipeE e3 own)))
    (hd : chkE chk env ∧ k (xs0.map f) env) : Loop (lcGo g wt we own chk k xs0 [] env) := by
  refine Loop.mk ?_
  refine lcGo_ind (fun r acc e => e = env ∧ acc ++ r.map f = xs0.map f ∧ ∀ x ∈ r, x ∈ xs0) ?_ ?_ xs0 [] env ⟨rfl, by simp, fun _ h => h⟩
  · rintro x r acc e nxt ⟨rfl, h, hm⟩ hn
    exact hs x nxt acc (hm x (by simp)) (hn _ _ ⟨rfl, by simpa using h, fun y hy => hm y (by simp [hy])⟩)
  · rintro acc e ⟨rfl, h, _⟩
    have : acc = xs0.map f := by simpa using h
    rw [this]
    exact hd
/-- the items that pass p -/
theorem lcGo_filter {g : G} {wt we : W} {own : List Nat} {chk : List (Nat × List D)} {k : List D → DEnv → Prop} (p : D → Bool) (f : D → D) (env : DEnv) (xs0 : List D)
    (hs : ∀ x (nxt : List D → DEnv → Prop) acc, x ∈ xs0 → nxt (acc ++ if p x then [f x] else []) env → chkE chk env ∧ g x env fun e2 => wt e2 fun rb e3 => rs e3 rb fun b =>
      ifb b (we e3 fun r e4 => rs e4 r fun y => isL y = false ∧ nxt (acc ++ [y]) (wipeE e4 own)) (nxt acc (wipeE e3 own)))
    (hd : chkE chk env ∧ k ((xs0.filter p).map f) env) : Loop (lcGo g wt we own chk k xs0 [] env) := by
  refine Loop.mk ?_
  refine lcGo_ind (fun r acc e => e = env ∧ acc ++ (r.filter p).map f = (xs0.filter p).map f ∧ ∀ x ∈ r, x ∈ xs0) ?_ ?_ xs0 [] env ⟨rfl, by simp, fun _ h => h⟩
  · rintro x r acc e nxt ⟨rfl, h, hm⟩ hn
    refine hs x nxt acc (hm x (by simp)) (hn _ _ ⟨rfl, ?_, fun y hy => hm y (by simp [hy])⟩)
    rw [← h]
    by_cases hp : p x = true
    · simp [hp, List.filter_cons]
    · simp [hp, List.filter_cons]
  · rintro acc e ⟨rfl, h, _⟩
    have : acc = (xs0.filter p).map f := by simpa using h
    rw [this]
    exact hd
def IsInts (xs : List D) : Prop := ∃ ns : List Int, xs = ns.map D.int
theorem loop_lc {g : G} {wt we : W} {own : List Nat} {chk : List (Nat × List D)} {k : List D → DEnv → Prop} {xs : List D} {env : DEnv} (I : List D → List D → DEnv → Prop) (h0 : I xs [] env)
    (hs : ∀ x r acc env (nxt : List D → DEnv → Prop), I (x :: r) acc env → (∀ a e, I r a e → nxt a e) → chkE chk env ∧ g x env fun e2 => wt e2 fun rb e3 => rs e3 rb fun b =>
      ifb b (we e3 fun r e4 => rs e4 r fun y => isL y = false ∧ nxt (acc ++ [y]) (wipeE e4 own)) (nxt acc (wipeE e3 own)))
    (hd : ∀ acc env, I [] acc env → chkE chk env ∧ k acc env) : Loop (lcGo g wt we own chk k xs [] env) := .mk (lcGo_ind I hs hd xs [] env h0)
theorem fn_false {P : Program} {w : World} {K : PySem.W.Frag} {mg : Str → Option Value} {base : Heap} {k n : Nat} {f : Addr} {fd : FuncData} {ps : List Str} {sp : FSpec} (h : ∀ ds, sp.pre ds → False) : FnOk P w K mg base CX0 k f fd ps (spOf K n sp) :=
  ⟨fun vs H Q E ⟨ds, _, _, _, pre, _⟩ => (h ds pre).elim, fun A outer s H args us vs Q E _ _ _ _ ⟨ds, _, _, _, pre, _⟩ => (h ds pre).elim⟩
/-- the law's own start -/
def sp_law : FSpec where
  pre := fun ds => ∃ ns : List Int, ds = [.rol (ns.map D.int)] ∧ ns.length ≤ 63
  post := fun _ r _ => r = .bl true
theorem RpIs.ints {K : PySem.W.Frag} {H : Hp} : ∀ ns : List Int, RpIs K H (ns.map D.int) (ns.map V.int)
  | [] => by simp [RpIs]
  | n :: r => by
    simp only [List.map_cons, RpIs, RpI]
    exact ⟨_, _, rfl, rfl, RpIs.ints r⟩
theorem law_start {K : PySem.W.Frag} {H : Hp} {a : Addr} {ns : List Int} (hl : ns.length ≤ 63) (hO : Only H) (hS : SqL K H a (ns.map V.int)) : spOf K 1 sp_law [.ref a] H (fun v _ => v = .bl true) fun _ _ _ => False := by
  have hr : SqR K H a (ns.map V.int) := by
    rcases hS with (h | ⟨o, h⟩) | h
    · rcases hO a with n | ⟨o, xs, n⟩
      · rw [n] at h; cases h
      · rw [n] at h; cases h
    · exact .inl ⟨o, h⟩
    · exact .inr h
  refine ⟨[.rol (ns.map D.int)], rfl, ⟨_, [], rfl, ?_, rfl⟩, trivial, ⟨ns, rfl, hl⟩, fun r ds' v H' po _ rv _ => ?_⟩
  · show RpI _ _ _ _
    simp only [RpI]
    exact ⟨a, _, rfl, hr, RpIs.ints ns⟩
  · cases (show r = .bl true from po)
    exact rv
end DL

namespace DL
open PySem PySem.Spec PyProof.Rows L2
section
variable {X : Cx} {np : Nat} {He : Hp} {pos : Pos} {a b c d : Expr}
/-! ### a op b op' c op'' d -/
end
end DL

namespace DL
open PySem PySem.Spec PyProof.Rows L2
/-! ### every other item -/
def ev {α : Type} : List α → List α
  | [] => []
  | [x] => [x]
  | x :: _ :: r => x :: ev r
theorem RpIs.ev {K : PySem.W.Frag} {H : Hp} : ∀ {ds : List D} {vs : List V}, RpIs K H ds vs → RpIs K H (DL.ev ds) (DL.ev vs)
  | [], vs, h => by simp only [RpIs] at h; subst h; simp [DL.ev, RpIs]
  | [d], vs, h => by
    simp only [RpIs] at h
    obtain ⟨v, r, rfl, h1, rfl⟩ := h
    exact ⟨v, [], rfl, h1, rfl⟩
  | d :: e :: ds, vs, h => by
    simp only [RpIs] at h
    obtain ⟨v, r, rfl, h1, w, r2, rfl, h2, h3⟩ := h
    exact ⟨v, _, rfl, h1, RpIs.ev h3⟩
section
variable {X : Cx} {np : Nat} {He : Hp} {a b : Expr} {wa wb : W} {pos : Pos}
end
end DL

namespace DL
open PySem PySem.Spec PyProof.Rows L2
/-! ### tuple(zip(xs, ys)) of two lists -/
/-- what the list has got so far -/
def Got (H : Hp) (xs ys : List V) (acc : Array Value) (i : Nat) : Prop := acc.size = i ∧ ∀ (j : Nat) (v : Value), acc[j]? = some v → ∃ (T : Addr) (x y : V), v = Value.ref T ∧ H T = some (.tup [x, y]) ∧ xs[j]? = some x ∧ ys[j]? = some y
theorem Got.ext {H H' : Hp} {xs ys : List V} {acc : Array Value} {i : Nat} (x : Ext H H') (g : Got H xs ys acc i) : Got H' xs ys acc i :=
  ⟨g.1, fun j v h => let ⟨T, a, b, e1, e2, e3, e4⟩ := g.2 j v h; ⟨T, a, b, e1, x _ _ e2, e3, e4⟩⟩
theorem Got.push {H : Hp} {xs ys : List V} {acc : Array Value} {i : Nat} {T : Addr} {x y : V} (g : Got H xs ys acc i) (h : H T = some (.tup [x, y])) (hx : xs[i]? = some x) (hy : ys[i]? = some y) : Got H xs ys (acc.push (.ref T)) (i + 1) := by
  refine ⟨by rw [Array.size_push, g.1], fun j v e => ?_⟩
  rw [Array.getElem?_push] at e
  split at e
  · rename_i e1
    rw [g.1] at e1
    cases e
    subst e1
    exact ⟨T, x, y, rfl, h, hx, hy⟩
  · exact g.2 j v e
section
variable {X : Cx} {pins : List (Addr × Obj)} {σ : L2.St}
theorem SqL.ext' {K : PySem.W.Frag} {H H' : Hp} {a : Addr} {xs : List V} (e : Ext H H') (h : SqL K H a xs) : SqL K H' a xs := by
  rcases h with (h | ⟨o, h⟩) | h
  · exact .inl (.inl (e _ _ h))
  · exact .inl (.inr ⟨o, e _ _ h⟩)
  · exact .inr h
end
end DL

namespace DL
open PySem PySem.Spec PyProof.Rows L2
section
variable {X : Cx} {pins : List (Addr × Obj)} {σ : L2.St}
end
section
variable {X : Cx} {np : Nat} {He : Hp} {a b : Expr} {wa wb : W} {pos : Pos}
end
end DL

namespace DL
open PySem PySem.Spec PyProof.Rows L2
/-! ### zip of lists and tuples in any mix -/
def SqG (k : Bool) (K : PySem.W.Frag) (H : Hp) (a : Addr) (xs : List V) : Prop := match k with
  | true => SqT K H a xs
  | false => SqL K H a xs
def ItA (k : Bool) (h : Heap) (it a : Addr) (i : Nat) : Prop := match k with
  | true => h.IsTupleIter it a i
  | false => h.IsListIter it a i
def ArA (k : Bool) (h : Heap) (a : Addr) (its : Array Value) : Prop := match k with
  | true => h.IsTuple a its
  | false => h.IsList a its
theorem draws_any {prog : Program} {w : World} {A : Around} (hh : A.handled = none) (k : Bool) (it a : Addr) (hne : a ≠ it) (its : Array Value) :
    Draws prog w A it [it, a] its.size (fun i v => its[i]? = some v) (fun i h => ItA k h it a i ∧ ArA k h a its) := by
  cases k
  · exact Draws.list hh it a hne its
  · exact Draws.tuple hh it a hne its
section
variable {X : Cx} {pins : List (Addr × Obj)} {σ : L2.St} {H : Hp} {s : Shared}
theorem inv_any (J : Inv X pins σ H s) {k : Bool} {a : Addr} {xs : List V} (h : SqG k X.K H a xs) : ∃ its : List Value, Vals xs its ∧ ArA k s.heap a its.toArray ∧ a < s.heap.objs.size := by
  cases k
  · obtain ⟨its, r, p, _⟩ := J.list h
    exact ⟨its, r, p.isList, p.lt⟩
  · obtain ⟨its, r, p, _⟩ := J.tuple h
    obtain ⟨o, ho, _⟩ := id p
    exact ⟨its, r, p, Heap.lt_size ho⟩
theorem sq_inj (J : Inv X pins σ H s) {k : Bool} {a : Addr} {xs ys : List V} (h : SqG k X.K H a xs) (g : SqG k X.K H a ys) : xs = ys := by
  cases k
  · exact J.list_inj h g
  · exact J.tuple_inj h g
theorem ita_at {k : Bool} {h h' : Heap} {it a : Addr} {i : Nat} (x : ItA k h it a i) (e : ∀ o, h.get? it = some o → h'.get? it = some o) : ItA k h' it a i := by
  cases k
  · exact Heap.IsListIter.at x e
  · exact Heap.IsTupleIter.at x e
theorem ita_obj {k : Bool} {h : Heap} {it a : Addr} {i : Nat} (x : ItA k h it a i) : ∃ o, h.get? it = some o ∧ ∀ v, o.data ≠ .cell v := by
  cases k
  · obtain ⟨o, e, _, d⟩ := x; exact ⟨o, e, fun v q => by rw [d] at q; cases q⟩
  · obtain ⟨o, e, _, d⟩ := x; exact ⟨o, e, fun v q => by rw [d] at q; cases q⟩
end
def ItzG (ka kb : Bool) (K : PySem.W.Frag) (a b : Addr) : It where
  go := fun i H => ∃ (xs ys : List V) (x y : V), SqG ka K H a xs ∧ SqG kb K H b ys ∧ xs[i]? = some x ∧ ys[i]? = some y
  yld := fun i H v H' => ∃ T x y, v = .ref T ∧ H T = none ∧ H' = upd H T (.tup [x, y]) ∧ (∀ xs, SqG ka K H a xs → xs[i]? = some x) ∧ ∀ ys, SqG kb K H b ys → ys[i]? = some y
  stop := fun i H => ∃ xs ys : List V, SqG ka K H a xs ∧ SqG kb K H b ys ∧ ((i = xs.length ∧ i ≤ ys.length) ∨ (i = ys.length ∧ i ≤ xs.length))
theorem sep_of {z TI TO i1 i2 a b : Addr} (D : ZipApart z TI TO i1 i2 a b) : ZipSep2 z TI TO i1 i2 [i1, a] [i2, b] where
  TIz := D.TIz
  TOz := D.TOz
  TITO := D.TITO
  TIi1 := D.TIi1
  mem1 := by simp
  zf1 := by simp [D.i1z.symm, D.l1z.symm]
  Tf1 := by simp [D.TOi1, D.l1TO.symm]
  TIi2 := D.TIi2
  mem2 := by simp
  zf2 := by simp [D.i2z.symm, D.l2z.symm]
  Tf2 := by simp [D.TOi2, D.l2TO.symm]
  sep1_2 := by simp [D.i12, D.l2i1.symm]
  sep2_1 := by simp [D.i12.symm, D.l1i2.symm]
theorem turn_any {P : Program} {w : World} {K : PySem.W.Frag} {elts : List Expr} {kk : Nat} {tpos : Pos} {ka kb : Bool} {a b z TI TO i1 i2 : Addr} (D : ZipApart z TI TO i1 i2 a b) :
    Turn P w K (.Tuple elts kk tpos) (ItzG ka kb K a b) [z, TI, TO, i1, i2] z (fun i h => IsZip h z TI TO .none ∧ IsPair h TI (.ref i1) (.ref i2) ∧ (∃ x y, IsPair h TO x y) ∧ ItA ka h i1 a i ∧ ItA kb h i2 b i) where
  mem := List.mem_cons_self
  obj := fun i h ⟨hz, hTI, ⟨x, y, hTO⟩, h1, h2⟩ c hc => by
    simp only [List.mem_cons, List.not_mem_nil, or_false] at hc
    rcases hc with q | q | q | q | q <;> subst q
    · exact ⟨_, hz, fun v q => nomatch q⟩
    · exact ⟨_, hTI, fun v q => nomatch q⟩
    · exact ⟨_, hTO, fun v q => nomatch q⟩
    · exact ita_obj h1
    · exact ita_obj h2
  keep := fun i h h' ⟨hz, hTI, ⟨x, y, hTO⟩, h1, h2⟩ k => ⟨k z (by simp) _ hz, k TI (by simp) _ hTI, ⟨x, y, k TO (by simp) _ hTO⟩, ita_at h1 fun o q => k i1 (by simp) o q, ita_at h2 fun o q => k i2 (by simp) o q⟩
  item := by
    rintro X rfl rfl rfl hc i pins s σ H E J hf ⟨hz, hTI, ⟨x0, y0, hTO⟩, h1, h2⟩ ⟨xs, ys, x, y, q1, q2, hx, hy⟩
    obtain ⟨us, ru, p1, _⟩ := inv_any J q1
    obtain ⟨vs, rv, p2, _⟩ := inv_any J q2
    obtain ⟨u, hu, rx⟩ := ru.get hx
    obtain ⟨v, hv, ry⟩ := rv.get hy
    have S := sep_of D
    have lu : i < us.toArray.size := by rw [List.size_toArray]; exact (List.getElem?_eq_some_iff.mp hu).1
    have lv : i < vs.toArray.size := by rw [List.size_toArray]; exact (List.getElem?_eq_some_iff.mp hv).1
    have hzl : z < s.heap.objs.size := Heap.lt_size hz
    refine wpAny_pyNext_zipD2_item S (draws_any (A := X.A.in1) (J.ok.hd hc) ka i1 a D.l1i1 us.toArray) (draws_any (A := X.A.in1) (J.ok.hd hc) kb i2 b D.l2i2 vs.toArray) hz hTI hTO ⟨h1, p1⟩ ⟨h2, p2⟩ lu lv fun u' v' h' tk e1 e2 z' TO' st1 st2 hT hsz hk => ?_
    obtain rfl : u' = u := by rw [List.getElem?_toArray, hu] at e1; exact (Option.some.inj e1).symm
    obtain rfl : v' = v := by rw [List.getElem?_toArray, hv] at e2; exact (Option.some.inj e2).symm
    refine ⟨_, rfl, wpAny_letOwnedTupleGo_zip (s := { s with heap := h', toks := tk }) z' fun h'' z'' sb => ?_⟩
    have hT2 : h''.get? s.heap.objs.size = some { cls := .type "tuple", data := .seq #[u', v'] } := (sb.2 _ (Nat.ne_of_gt hzl)).trans hT
    have new : ObjOk X.prog X.w (upd H s.heap.objs.size (.tup [x, y])) h'' s.heap.objs.size (.tup [x, y]) := ⟨by show 2 ≤ sizeLine; decide, [u', v'], .cons rx (.cons ry .nil), ⟨_, hT2, rfl, _, rfl⟩⟩
    have kp : ∀ c o, c ∉ [z, TI, TO, i1, i2] → s.heap.get? c = some o → h''.get? c = some o := fun c o hb q => by
      simp only [List.mem_cons, List.not_mem_nil, or_false, not_or] at hb
      exact (sb.2 c hb.1).trans (hk c o hb.1 hb.2.2.1 hb.2.2.2.1 hb.2.2.2.2 q)
    have J1 : Inv X pins σ (upd H s.heap.objs.size (.tup [x, y])) { s with heap := h'', toks := tk } := J.turnedNew (t' := tk) (ch := [z, TI, TO, i1, i2]) kp hf (Nat.le_refl _) new
    refine ⟨.ref s.heap.objs.size, _, J1, rfl, ⟨_, x, y, rfl, J.hok.fresh (Nat.le_refl _), rfl, fun l hl => by rw [sq_inj J hl q1]; exact hx, fun l hl => by rw [sq_inj J hl q2]; exact hy⟩,
      ⟨z'', (sb.2 _ D.TIz).trans (hk _ _ D.TIz D.TITO D.TIi1 D.TIi2 hTI), ⟨u', v', (sb.2 _ D.TOz).trans TO'⟩, ita_at st1.1 fun o q => (sb.2 _ D.i1z).trans q, ita_at st2.1 fun o q => (sb.2 _ D.i2z).trans q⟩, fun c hc2 => ?_⟩
    have hlt : c < s.heap.objs.size := by
      simp only [List.mem_cons, List.not_mem_nil, or_false] at hc2
      rcases hc2 with q | q | q | q | q <;> subst q
      · exact hzl
      · exact Heap.lt_size hTI
      · exact Heap.lt_size hTO
      · obtain ⟨_, e, _⟩ := ita_obj h1; exact Heap.lt_size e
      · obtain ⟨_, e, _⟩ := ita_obj h2; exact Heap.lt_size e
    rw [upd_ne (Nat.ne_of_lt hlt)]
    exact (hf c hc2).1
  done := by
    rintro X rfl rfl rfl hc i pins s σ H E J hf ⟨hz, hTI, ⟨x0, y0, hTO⟩, h1, h2⟩ ⟨xs, ys, q1, q2, hend⟩
    obtain ⟨us, ru, p1, _⟩ := inv_any J q1
    obtain ⟨vs, rv, p2, _⟩ := inv_any J q2
    have e1 := ru.length
    have e2 := rv.length
    refine wpAny_pyNext_zipD2_end (sep_of D) (draws_any (A := X.A.in1) (J.ok.hd hc) ka i1 a D.l1i1 us.toArray) (draws_any (A := X.A.in1) (J.ok.hd hc) kb i2 b D.l2i2 vs.toArray) hz hTI hTO ⟨h1, p1⟩ ⟨h2, p2⟩ (by simp only [List.size_toArray]; omega) (by simp only [List.size_toArray]; omega) (by simp only [List.size_toArray]; omega) fun h' tk hk => ⟨rfl, ?_⟩
    exact J.turnedL (t' := tk) (ch := [z, TI, TO, i1, i2]) (fun c o hb q => by
      simp only [List.mem_cons, List.not_mem_nil, or_false, not_or] at hb
      exact hk c o hb.1 hb.2.2.1 hb.2.2.2.1 hb.2.2.2.2 q) hf
  self := fun A i s Q E st h => wpAny_pyIter_zip st.1 h
theorem begins_any (k : Bool) (a : Addr) (its : Array Value) : ∃ o, Begins (.ref a) o (fun h => ArA k h a its) ∧ ∀ (h : Heap) (it : Addr), h.get? it = some o → ItA k h it a 0 := by
  cases k
  · exact ⟨_, begins_list a its, fun h it e => ⟨_, e, rfl, rfl⟩⟩
  · exact ⟨_, begins_tuple a its, fun h it e => ⟨_, e, rfl, rfl⟩⟩
def iZipG (K : PySem.W.Frag) (ta : TA) : L2.TI := fun σ H R => ta σ H fun vs H1 => ∃ a b xs ys ka kb, vs = [.ref a, .ref b] ∧ SqG ka K H1 a xs ∧ SqG kb K H1 b ys ∧ R (ItzG ka kb K a b) H1
theorem pi_zipG {X : Cx} {e e2 : Expr} {ta : TA} {p pos tpos : Pos} {elts : List Expr} {kk : Nat} (hg : Gl X "zip") (hm : X.mg "zip" = none) (ha : PA X [e, e2] ta)
    (hs : starEach [e, e2] X.env = (false, eval e X.env) :: starEach [e2] X.env := by rfl) (hpl : (backTo pos (starEach [e2] X.env)).any (·.1) = false := by rfl) :
    PI X (.Tuple elts kk tpos) (.Call (.Name "zip" p) [e, e2] [] pos) (iZipG X.K ta) := by
  refine ⟨fun pins s σ H R J h => ?_⟩
  refine Call_ (ld_blt J hg hm PyProof.Rows.boot_zip (PyProof.Rows.callWith_type1 (thn (ha.run pos pins s σ H _ J h) fun us s1 ⟨vs, H1, J1, r1, q⟩ => ?_) hs hpl))
  obtain ⟨a, b, xs, ys, ka, kb, rfl, q1, q2, fin⟩ := q
  cases r1 with
  | cons ra rr =>
    cases rr with
    | cons rb rr =>
      cases rr
      cases ra
      cases rb
      obtain ⟨us, ru, p1, l1⟩ := inv_any J1 q1
      obtain ⟨vs, rv, p2, l2⟩ := inv_any J1 q2
      obtain ⟨o1, B1, f1⟩ := begins_any ka a us.toArray
      obtain ⟨o2, B2, f2⟩ := begins_any kb b vs.toArray
      refine zip_begins2 B1 B2 p1 p2 fun h' hz hTI hTO g1 g2 hsz hk => wpAny_pyIter_zip hz ?_
      have J2 : Inv X pins σ H1 { s1 with heap := h' } := J1.kept (t' := s1.toks) hk
      refine ⟨s1.heap.objs.size + 4, [s1.heap.objs.size + 4, s1.heap.objs.size + 2, s1.heap.objs.size + 3, s1.heap.objs.size, s1.heap.objs.size + 1], _, _, H1, rfl, J2, turn_any (PySem.W.ktu_apart s1.heap.objs.size a b l1 l2), ⟨hz, hTI, ⟨_, _, hTO⟩, f1 _ _ g1, f2 _ _ g2⟩, fun c hcm => ?_, fin⟩
      have hle : s1.heap.objs.size ≤ c := by
        simp only [List.mem_cons, List.not_mem_nil, or_false] at hcm
        rcases hcm with z | z | z | z | z
        · rw [z]; exact Nat.le_add_right _ _
        · rw [z]; exact Nat.le_add_right _ _
        · rw [z]; exact Nat.le_add_right _ _
        · rw [z]; exact Nat.le_refl _
        · rw [z]; exact Nat.le_add_right _ _
      exact J1.fpOk hle (J1.hok.fresh hle)
theorem walk_any {ka kb : Bool} {K : PySem.W.Frag} {a b : Addr} {xs ys : List D} : Walk (ItzG ka kb K a b) (zipD xs ys).length (fun H => (∃ vs, SqG ka K H a vs ∧ RpIs K H xs vs) ∧ ∃ vs, SqG kb K H b vs ∧ RpIs K H ys vs)
    (fun i H v H' => Ext H H' ∧ ∃ d, (zipD xs ys)[i]? = some d ∧ RpI K H' d v) := by
  rw [zipD_len]
  refine ⟨fun i H hi ⟨⟨vs, s, r⟩, us, s2, r2⟩ => ?_, fun H ⟨⟨vs, s, r⟩, us, s2, r2⟩ => ⟨vs, us, s, s2, by rw [← r.length, ← r2.length]; omega⟩, fun i H v H' hi ⟨⟨vs, s, r⟩, us, s2, r2⟩ y => ?_⟩
  · obtain ⟨v, e, _⟩ := r.get (List.getElem?_eq_getElem (show i < xs.length by omega))
    obtain ⟨u, e2, _⟩ := r2.get (List.getElem?_eq_getElem (show i < ys.length by omega))
    exact ⟨vs, us, v, u, s, s2, e, e2⟩
  · obtain ⟨T, x, z, rfl, hT, rfl, h4, h5⟩ := y
    obtain ⟨d1, e1, r1⟩ := r.get' (h4 vs s)
    obtain ⟨d2, e2, r2'⟩ := r2.get' (h5 us s2)
    have ex : Ext H (upd H T (.tup [x, z])) := .new hT
    refine ⟨ex, _, zipD_get xs ys i d1 d2 e1 e2, ?_⟩
    simp only [RpI, RpIs]
    exact ⟨T, _, rfl, upd_same, x, _, rfl, RpI.kp ex.kp _ _ r1, z, _, rfl, RpI.kp ex.kp _ _ r2', rfl⟩
theorem src_any {K : PySem.W.Frag} {np : Nat} {He : Hp} {σ : L2.St} {H H1 : Hp} {env e1 : DEnv} {v : V} {r : RV} {k : List D → List (Nat × List D) → Prop} (R : Rep K np He σ H env) (s1 : SE K np He σ H env H1 e1) (h : RpR K σ H H1 e1 v r) (g : srcR e1 r k) :
    ∃ ds chk a kd, k ds chk ∧ v = .ref a ∧ (∀ p ∈ chk, e1[p.1]? = some (some (D.lst p.2))) ∧ ∀ H' : Hp, Stay K np He σ H H1 e1 chk H' → ∃ vs, SqG kd K H' a vs ∧ RpIs K H' ds vs := by
  obtain ⟨ds, chk, a, h1, h2, h3, h4⟩ := src_at R s1 h g
  rcases h4 with h4 | h4
  · exact ⟨ds, chk, a, false, h1, h2, h3, h4⟩
  · exact ⟨ds, chk, a, true, h1, h2, h3, h4⟩
section
variable {X : Cx} {np : Nat} {He : Hp} {a b : Expr} {wa wb : W} {pos : Pos}
def iZG (wa wb : W) : WI := fun env Q => wa env fun ra e1 => wb e1 fun rb e2 => srcR e2 ra fun xs c1 => srcR e2 rb fun ys c2 => Q ⟨zipD xs ys, c1 ++ c2⟩ e2
theorem i_zipG {elts : List Expr} {kk : Nat} {tpos p : Pos} (hm : X.mg "zip" = none) (ha : DE X np He a wa) (hb : DE X np He b wb) (hg : Gl X "zip" := by rfl) (hs : starEach [a, b] X.env = (false, eval a X.env) :: starEach [b] X.env := by rfl) (hs2 : starEach [b] X.env = (false, eval b X.env) :: starEach [] X.env := by rfl) (hpl : (backTo pos (starEach [b] X.env)).any (·.1) = false := by rfl) :
    DI X np He (.Tuple elts kk tpos) (.Call (.Name "zip" p) [a, b] [] pos) (iZG wa wb) := by
  refine PI.weak (pi_zipG hg hm (pa_cons ha (pa_cons hb pa_nil hs2) hs) hs hpl) fun σ H R ⟨env, Q0, Rp, w, q⟩ => ⟨env, _, Rp, w, fun ra e1 v1 H1 w1 s1 r1 => ⟨e1, _, s1.rep, w1, fun rb e2 v2 H2 w2 s2 r2 => ?_⟩⟩
  have s12 := s1.trans s2
  obtain ⟨xs, c1, a1, ka, w2, rfl, hc1, st1⟩ := src_any Rp s12 (r1.keep Rp s1 s2) w2
  obtain ⟨ys, c2, a2, kb, w2, rfl, hc2, st2⟩ := src_any Rp s12 (r2.start s1) w2
  obtain ⟨vs, sv, _⟩ := st1 H2 (Stay.here s12.rep hc1)
  obtain ⟨us, su, _⟩ := st2 H2 (Stay.here s12.rep hc2)
  refine ⟨a1, a2, vs, us, ka, kb, rfl, sv, su, q ⟨zipD xs ys, c1 ++ c2⟩ e2 H2 _ _ _ w2 s12 walk_any (fun p hp => ?_) (fun i H3 x H4 hi y _ => y) (fun H' st => ?_)⟩
  · rcases List.mem_append.mp hp with z | z
    · exact hc1 p z
    · exact hc2 p z
  · exact ⟨st1 H' (st.sub fun p z => List.mem_append_left _ z), st2 H' (st.sub fun p z => List.mem_append_right _ z)⟩
end
end DL

namespace DL
open PySem PySem.Spec PyProof.Rows L2
/-! ### == and != of data at any depth -/
mutual
def toP : D → PyData
  | .non => .none
  | .bl b => .bool b
  | .int i => .int i
  | .str x => .str x
  | .tup ds => .tuple (toPs ds)
  | .lst ds => .list (toPs ds)
  | .rol ds => .list (toPs ds)
  | .tpd ds => .tuple (toPs ds)
  | .rod _ _ => .dict []
def toPs : List D → List PyData
  | [] => []
  | d :: ds => toP d :: toPs ds
end
theorem lay_cons {d : D} {ds : List D} (h : PyData.canLayAll0 (toPs (d :: ds)) = true) : (toP d).canLay0 = true ∧ PyData.canLayAll0 (toPs ds) = true := by
  simpa only [toPs, PyData.canLayAll0, Bool.and_eq_true] using h
mutual
theorem RpI.dp {K : PySem.W.Frag} {H : Hp} : ∀ (d : D) (v : V), (toP d).canLay0 = true → RpI K H d v → Dp K H v (toP d)
  | .non, v, _, h => by cases h; exact .non
  | .bl b, v, _, h => by cases h; exact .bl b
  | .int i, v, _, h => by cases h; exact .int i
  | .str x, v, _, h => by cases h; exact .str x
  | .tup ds, v, l, h => by
    simp only [RpI] at h
    obtain ⟨a, vs, rfl, s, r⟩ := h
    exact .tup (.of s) (RpIs.dp ds vs (by simpa only [toP, PyData.canLay0] using l) r)
  | .tpd ds, v, l, h => by
    simp only [RpI] at h
    obtain ⟨a, vs, rfl, s, r⟩ := h
    exact .tup s.t (RpIs.dp ds vs (by simpa only [toP, PyData.canLay0] using l) r)
  | .rol ds, v, l, h => by
    simp only [RpI] at h
    obtain ⟨a, vs, rfl, s, r⟩ := h
    exact .lst s.seq (RpIs.dp ds vs (by simpa only [toP, PyData.canLay0] using l) r)
  | .lst ds, v, _, h => by simp only [RpI] at h
  | .rod _ _, v, l, h => by simp [toP, PyData.canLay0] at l
theorem RpIs.dp {K : PySem.W.Frag} {H : Hp} : ∀ (ds : List D) (vs : List V), PyData.canLayAll0 (toPs ds) = true → RpIs K H ds vs → DpAll K H vs (toPs ds)
  | [], vs, _, h => by simp only [RpIs] at h; subst h; exact .nil
  | d :: ds, vs, l, h => by
    simp only [RpIs] at h
    obtain ⟨v, r, rfl, h1, h2⟩ := h
    exact .cons (RpI.dp d v (lay_cons l).1 h1) (RpIs.dp ds r (lay_cons l).2 h2)
end
theorem RpV.dp {K : PySem.W.Frag} {H : Hp} {d : D} {v : V} (h : RpV K H d v) (l : (toP d).canLay0 = true) : Dp K H v (toP d) := by
  cases d with
  | lst ds =>
    obtain ⟨a, vs, rfl, e, r⟩ := h
    exact .lst (.of e) (RpIs.dp ds vs (by simpa only [toP, PyData.canLay0] using l) r)
  | _ => exact RpI.dp _ v l (h.imm rfl)
theorem lay_of {x : PyData} (h : SeqAt.shaped x = true) : x.canLay0 = true := by
  unfold SeqAt.shaped at h
  rw [Bool.and_eq_true] at h
  exact h.1
def fEqD : F2 := fun x y k => SeqAt.shaped (toP x) = true ∧ SeqAt.shaped (toP y) = true ∧ k (.bl (PyData.eqv (toP x) (toP y)))
def fNeD : F2 := fun x y k => SeqAt.shaped (toP x) = true ∧ SeqAt.shaped (toP y) = true ∧ k (.bl (!PyData.eqv (toP x) (toP y)))
section
variable {X : Cx} {np : Nat} {He : Hp} {a b : Expr} {wa wb : W} {pos : Pos}
theorem opd_eqD : OpD X.K (rEqD X.K) fEqD := fun H x y v w k Q rx ry h q => ⟨_, _, rx.dp (lay_of h.1), ry.dp (lay_of h.2.1), h.1, h.2.1, q _ _ H h.2.2 (.refl H) rfl (fun n => by simp [isL] at n)⟩
theorem opd_neD : OpD X.K (rNeD X.K) fNeD := fun H x y v w k Q rx ry h q => ⟨_, _, rx.dp (lay_of h.1), ry.dp (lay_of h.2.1), h.1, h.2.1, q _ _ H h.2.2 (.refl H) rfl (fun n => by simp [isL] at n)⟩
variable (hu : X.A.units + 64 < cLine) (ha : DE X np He a wa) (hb : DE X np He b wb)
include hu ha hb
theorem t_eqD : DT X np He (.Compare a [.Eq] [b] pos) (cOp fEqD wa wb) := t_cmp (op_eqD hu) opd_eqD ha hb (nomark _)
theorem t_neD : DT X np He (.Compare a [.NotEq] [b] pos) (cOp fNeD wa wb) := t_cmp (op_neD hu) opd_neD ha hb (nomark _)
end
/-! ### trees of ints and None -/
end DL

namespace DL
open PySem PySem.Spec PyProof.Rows L2
/-! ### sorted: lists of triples of ints, of any length -/
abbrev T3 := Int × Int × Int
def IsT3 (h : Heap) (v : Value) (q : T3) : Prop := ∃ a o t u w n, v = .ref a ∧ h.get? a = some o ∧ o.cls = .type "tuple" ∧ o.data = .seq #[.int q.1 t, .int q.2.1 u, .int q.2.2 w] n
theorem IsT3.on {h h' : Heap} {v : Value} {q : T3} (x : IsT3 h v q) (k : ∀ b o, h.get? b = some o → o.cls = .type "tuple" → h'.get? b = some o) : IsT3 h' v q := by
  obtain ⟨a, o, t, u, w, n, e, ho, hc, hd⟩ := x
  exact ⟨a, o, t, u, w, n, e, k a o ho hc, hc, hd⟩
section
variable {prog : Program} {w : World} {A : Around} {E : Value → Shared → Prop} {s : Shared}
end
theorem IsT3.inj {h : Heap} {v : Value} {q r : T3} (x : IsT3 h v q) (y : IsT3 h v r) : q = r := by
  obtain ⟨a, o, t, u, w, n, e, ho, hc, hd⟩ := x
  obtain ⟨a', o', t', u', w', n', e', ho', hc', hd'⟩ := y
  rw [e] at e'
  cases e'
  rw [ho] at ho'
  cases ho'
  rw [hd] at hd'
  obtain ⟨q1, q2, q3⟩ := q
  obtain ⟨r1, r2, r3⟩ := r
  simp at hd'
  obtain ⟨⟨⟨h1, _⟩, ⟨h2, _⟩, h3, _⟩, _⟩ := hd'
  rw [h1, h2, h3]
def Trp (K : PySem.W.Frag) (H : Hp) (x : V) (q : T3) : Prop := ∃ t, x = V.ref t ∧ SqT K H t [.int q.1, .int q.2.1, .int q.2.2]
section
variable {X : Cx}
theorem Trp.at {pins : List (Addr × Obj)} {σ : L2.St} {H : Hp} {s : Shared} (J : Inv X pins σ H s) {x : V} {u : Value} {q : T3} (t : Trp X.K H x q) (r : RelV x u) : IsT3 s.heap u q := by
  obtain ⟨a, rfl, h⟩ := t
  obtain rfl : u = Value.ref a := r
  obtain ⟨its, rv, ⟨o, ho, hc, n, hd⟩, _⟩ := J.tuple h
  cases rv with
  | cons r1 rr =>
    cases rr with
    | cons r2 rr =>
      cases rr with
      | cons r3 rr =>
        cases rr
        obtain ⟨t1, rfl⟩ := r1
        obtain ⟨t2, rfl⟩ := r2
        obtain ⟨t3, rfl⟩ := r3
        exact ⟨a, o, t1, t2, t3, n, rfl, ho, hc, hd⟩
end
section
variable {X : Cx} {np : Nat} {He : Hp} {a : Expr} {wa : W} {pos : Pos}
end
end DL

namespace DL
open PySem PySem.Spec PyProof.Rows L2
/-! ### defs with one keyword-only parameter whose default is None -/
structure FnKD (P : Program) (w : World) (K : PySem.W.Frag) (mg : Str → Option Value) (base : Heap) (k : Nat) (x : Str) (ps ks : List Str) (sp : FSpec) : Prop where
  ex : ∃ f fd u, FnOk P w K mg base CX0 k f fd ps (spOf K ps.length sp) ∧ mg x = some (.ref f) ∧ PySem.W.keepIn K (.ref f) = true ∧ KBn K fd ps 1 ks (fun us ws => us ++ ws) (fun vs zs => vs ++ zs) ∧ Binds K fd ps [u] ∧ RelV V.non u
section
variable {X : Cx} {np : Nat} {He : Hp} {a b : Expr} {wa wb : W} {pos : Pos}
end
end DL

set_option maxHeartbeats 2000000
/-! ### ranges of any size, from either end -/
namespace PySem
open Sem (wp)
section
variable {prog : Program} {w : World} {A : Around} {E : Value → Shared → Prop} {s : Shared} {r : Addr} {a b c : Int} {t u v : Tok}
end
end PySem
namespace DL
open PySem PySem.Spec PyProof.Rows L2
section
variable {X : Cx} {np : Nat} {He : Hp} {tg a b : Expr} {wa wb : W} {pos : Pos}
end
end DL

set_option maxHeartbeats 2000000
/-! ### an int's bits as a text, and how many of them are 1 -/
namespace DL
open PySem PySem.Spec PyProof.Rows L2 Builtin Float
section
variable {prog : Program} {w : World} {A : Around} {E : Value → Shared → Prop} {s : Shared}
end
end DL

set_option maxHeartbeats 2000000
namespace DL
open PySem PySem.Spec PyProof.Rows L2 Builtin
section
variable {X : Cx} {np : Nat} {He : Hp} {a : Expr} {wa : W} {pos : Pos}
end
/-! ### how many -/
end DL

namespace DL
open PySem PySem.Spec PyProof.Rows L2
section
variable {X : Cx} {np : Nat} {He : Hp} {a : Expr} {wa : W} {pos : Pos}
/-! ### the least and the greatest of a list of ints -/
end
end DL

namespace DL
open PySem PySem.Spec PyProof.Rows L2
/-! ### texts -/
def strsD : List D → Option (List Str)
  | [] => some []
  | .str x :: r => (strsD r).map (x :: ·)
  | _ :: _ => none
theorem strsD_ok {K : PySem.W.Frag} {H : Hp} : ∀ {ds : List D} {vs : List V} {ns : List Str}, RpIs K H ds vs → strsD ds = some ns → vs = ns.map V.str
  | [], vs, ns, r, h => by
    simp only [RpIs] at r
    simp only [strsD, Option.some.injEq] at h
    subst r h
    rfl
  | d :: ds, vs, ns, r, h => by
    cases d <;> first | (simp only [strsD] at h; cases h; done) | skip
    simp only [RpIs, RpI] at r
    obtain ⟨v, r', rfl, rfl, h2⟩ := r
    simp only [strsD, Option.map_eq_some_iff] at h
    obtain ⟨ms, e, rfl⟩ := h
    rw [List.map_cons, strsD_ok h2 e]
theorem strsD_map (ns : List Str) : strsD (ns.map D.str) = some ns := by
  induction ns with
  | nil => rfl
  | cons n r ih => simp [strsD, ih]
def fIxS : F2 := fun x y k => match x, y with
  | .str z, .int i => z.length ≤ 1000000 ∧ (match L2.atI z.cps.toList i with
    | some c => k (.str ⟨#[c]⟩)
    | none => False)
  | _, _ => False
def fAddS : F2 := fun x y k => match x, y with
  | .str a, .str b => a.length + b.length ≤ 1000000 ∧ k (.str (a ++ b))
  | _, _ => False
def fJoin (z : Str) : F1 := fun x k => match x with
  | .lst xs => (match strsD xs with
    | some ys => (ys.map (·.length)).sum + ys.length * z.length ≤ 16777216 ∧ k (.str (Txt.join z ys))
    | none => False)
  | _ => False
def fSortS : FA := onL fun xs k => match strsD xs with
  | some zs => zs.length < 64 ∧ ∀ ys : List Str, ys.Perm zs → sortedS ys = true → k (.lst (ys.map D.str))
  | none => False
section
variable {X : Cx} {np : Nat} {He : Hp} {a b : Expr} {wa wb : W} {pos : Pos}
theorem opd_ixS : OpD X.K rIxS fIxS := by
  intro H x y v w k Q rx ry h q
  unfold fIxS at h
  split at h
  · cases rx; cases ry
    obtain ⟨h1, h⟩ := h
    split at h
    · rename_i c e
      exact ⟨_, _, c, rfl, rfl, line_of h1, e, q _ _ H h (.refl H) rfl (fun n => by simp [isL] at n)⟩
    · exact h.elim
  · exact h.elim
theorem e_ixStr (ha : DE X np He a wa) (hb : DE X np He b wb) (hs : PlainIx b := by exact fun _ _ => rfl) : DE X np He (.Subscript a b pos) (cOp fIxS wa wb) := e_ix ix_str opd_ixS ha hb hs
theorem e_addS (ha : DE X np He a wa) (hb : DE X np He b wb) : DE X np He (.BinOp a .Add b pos) (cOp fAddS wa wb) := by
  refine e_op op_add_str ?_ ha hb
  intro H x y v w k Q rx ry h q
  unfold fAddS at h
  split at h
  · cases rx; cases ry
    exact ⟨_, _, rfl, rfl, line_of h.1, q _ _ H h.2 (.refl H) rfl (fun n => by simp [isL] at n)⟩
  · exact h.elim
theorem e_join {z : Str} {j : Nat} {p apos : Pos} (ha : DE X np He a wa) (hs : starEach [a] X.env = [(false, eval a X.env)] := by rfl) (hbase : attributeBase (.Constant (.str z) j p) "join" X.env (eval (.Constant (.str z) j p) X.env) = eval (.Constant (.str z) j p) X.env := by rfl) (hline : (apos.endLine == pos.line) = true := by rfl) :
    DE X np He (.Call (.Attribute (.Constant (.str z) j p) "join" apos) [a] [] pos) (cUn (fJoin z) wa) := by
  refine PE.weak (pe_join pe_str ha hs hbase hline) fun σ H Q ⟨env, Q0, R, w, q⟩ => ⟨⟨z, rfl⟩, env, _, R, w, fun ra e1 v1 H1 w1 s1 r1 => ?_⟩
  obtain ⟨x, hx, w1⟩ := r1.rs s1.rep w1
  unfold fJoin at w1
  split at w1
  · rename_i xs
    obtain ⟨p, us, rfl, s, ru⟩ := hx
    split at w1
    · rename_i ys e
      have e2 := strsD_ok ru e
      subst e2
      exact ⟨z, p, ys, rfl, rfl, .inl (.of s), w1.1, q _ e1 _ H1 w1.2 s1 ⟨rfl, fun n => by simp [isL] at n⟩⟩
    · exact w1.elim
  · exact w1.elim
theorem e_sortedS {p : Pos} (hc : X.calm = true) (hm : X.mg "sorted" = none) (ha : DE X np He a wa) (hg : Gl X "sorted" := by rfl) (he : starEach [a] X.env = (false, eval a X.env) :: starEach [] X.env := by rfl) :
    DE X np He (.Call (.Name "sorted" p) [a] [] pos) (cBi fSortS (cCons wa cNil)) := by
  refine e_bi cr_sortedS ?_ hm PyProof.Rows.boot_sorted (a_cons ha a_nil he) hg (he := he)
  intro H ds vs k Q r h q
  obtain ⟨xs, e0, g⟩ := onL_of h
  subst e0
  obtain ⟨v, rfl, rv⟩ := r.one
  obtain ⟨p, us, rfl, s, ru⟩ := rv
  split at g
  · rename_i zs e
    have e2 := strsD_ok ru e
    subst e2
    refine ⟨p, zs, rfl, .of s, g.1, fun ys p3 h1 h2 n3 => q (.lst (ys.map D.str)) _ _ (g.2 ys h1 h2) (.new n3) ⟨p3, ys.map V.str, rfl, upd_same, ?_⟩ (fun _ b e => by cases e; exact n3)⟩
    have go : ∀ (K : PySem.W.Frag) (G : Hp) (l : List Str), RpIs K G (l.map D.str) (l.map V.str) := fun K G l => by
      induction l with
      | nil => exact rfl
      | cons m r ih => exact ⟨_, _, rfl, rfl, ih⟩
    exact go _ _ _
  · exact g.elim
end
end DL

namespace DL
open PySem PySem.Spec PyProof.Rows L2
/-! ### texts, sign by sign -/
section
variable {X : Cx} {np : Nat} {He : Hp} {a b tg : Expr} {wa wb : W} {pos : Pos}
end
end DL

namespace DL
open PySem PySem.Spec PyProof.Rows L2
/-! ### max of a list of ints with a default -/
section
variable {X : Cx} {np : Nat} {He : Hp} {a b : Expr} {wa wb : W} {pos : Pos}
/-! ### written tuples and tables of texts -/
def StrsV : List Value → List Str → Prop
  | [], [] => True
  | .str x _ :: r, y :: s => x = y ∧ StrsV r s
  | _, _ => False
theorem StrsV.vals : ∀ {vs : List Value} {ys : List Str}, StrsV vs ys → Vals (ys.map V.str) vs
  | [], [], _ => .nil
  | .str x t :: r, y :: s, h => .cons ⟨t, by rw [h.1]⟩ (StrsV.vals h.2)
  | [], _ :: _, h => h.elim
  | .str _ _ :: _, [], h => h.elim
structure TupT (K : PySem.W.Frag) (t : Addr) (ys : List Str) : Prop where
  ex : ∃ (o : Obj) (its : Array Value) (n : Nat), K.lookup t = some o ∧ o.cls = .type "tuple" ∧ o.dict = none ∧ o.data = .seq its n ∧ its.size ≤ sizeLine ∧ StrsV its.toList ys
theorem rpIs_strs {K : PySem.W.Frag} {H : Hp} : ∀ ys : List Str, RpIs K H (ys.map D.str) (ys.map V.str)
  | [] => by simp only [List.map_nil, RpIs]
  | y :: r => by
    simp only [List.map_cons, RpIs]
    exact ⟨_, _, rfl, rfl, rpIs_strs r⟩
theorem TupT.rp {K : PySem.W.Frag} {t : Addr} {ys : List Str} (T : TupT K t ys) (H : Hp) : RpV K H (.tpd (ys.map D.str)) (.ref t) := by
  obtain ⟨o, its, n, h1, h2, h2', h3, h4, h5⟩ := T.ex
  show RpI _ _ _ _
  simp only [RpI]
  exact ⟨t, _, rfl, .inr ⟨o, its, n, h1, h2, h2', h3, h4, h5.vals⟩, rpIs_strs ys⟩
structure GlbT (K : PySem.W.Frag) (mg : Str → Option Value) (x : Str) (ys : List Str) : Prop where
  ex : ∃ t, mg x = some (.ref t) ∧ TupT K t ys
theorem e_gtup {x : Str} {ys : List Str} (T : GlbT X.K X.mg x ys) (hg : Gl X x := by rfl) (hd : (x == ("__debug__" : Str)) = false := by decide) : DE X np He (.Name x pos) (cC (.tpd (ys.map D.str))) := by
  obtain ⟨t, hm, T⟩ := T.ex
  exact PE.weak (pe_glob (v := .ref t) hg hm rfl hd) fun σ H Q ⟨env, Q0, R, w, q⟩ => q _ env _ H w (.refl R) ⟨T.rp H, fun n => by simp [isL] at n⟩
abbrev Tbl := List (Str × List Str)
def AllT (K : PySem.W.Frag) (a : Addr) : Tbl → Prop
  | [] => True
  | p :: r => (∃ t, PySem.W.nsIn K a p.1 = some (some (.ref t)) ∧ TupT K t p.2) ∧ AllT K a r
theorem AllT.at {K : PySem.W.Frag} {a : Addr} : ∀ {T : Tbl}, AllT K a T → ∀ {z : Str} {ys : List Str}, (z, ys) ∈ T → ∃ t, PySem.W.nsIn K a z = some (some (.ref t)) ∧ TupT K t ys
  | [], _, _, _, h => by cases h
  | p :: r, ⟨h1, h2⟩, z, ys, h => by
    rcases List.mem_cons.mp h with e | h
    · rw [← e] at h1; exact h1
    · exact AllT.at h2 h
structure DctT (w : World) (K : PySem.W.Frag) (mg : Str → Option Value) (x : Str) (T : Tbl) : Prop where
  ex : ∃ a es n, mg x = some (.ref a) ∧ K.lookup a = some ⟨.type "dict", none, .dict es n, #[]⟩ ∧ PySem.W.KeysLit w.params es.toList ∧ AllT K a T
theorem TupT.mk' {K : PySem.W.Frag} {t : Addr} {ys : List Str} {o : Obj} {its : Array Value} {n : Nat} (h1 : K.lookup t = some o) (h2 : o.cls = .type "tuple") (h2' : o.dict = none) (h3 : o.data = .seq its n) (h4 : its.size ≤ sizeLine) (h5 : StrsV its.toList ys) : TupT K t ys := ⟨⟨o, its, n, h1, h2, h2', h3, h4, h5⟩⟩
theorem GlbT.mk' {K : PySem.W.Frag} {mg : Str → Option Value} {x : Str} {ys : List Str} {t : Addr} (h1 : mg x = some (.ref t)) (h2 : TupT K t ys) : GlbT K mg x ys := ⟨⟨t, h1, h2⟩⟩
theorem AllT.cons' {K : PySem.W.Frag} {a t : Addr} {z : Str} {ys : List Str} {r : Tbl} (h1 : PySem.W.nsIn K a z = some (some (.ref t))) (h2 : TupT K t ys) (h3 : AllT K a r) : AllT K a ((z, ys) :: r) := ⟨⟨t, h1, h2⟩, h3⟩
theorem DctT.mk' {w : World} {K : PySem.W.Frag} {mg : Str → Option Value} {x : Str} {T : Tbl} {a : Addr} {es : Array DictEntry} {n : Nat} (h1 : mg x = some (.ref a)) (h2 : K.lookup a = some ⟨.type "dict", none, .dict es n, #[]⟩) (h3 : PySem.W.KeysLit w.params es.toList) (h4 : AllT K a T) : DctT w K mg x T := ⟨⟨a, es, n, h1, h2, h3, h4⟩⟩
/-- d[x] of a written table -/
def cItm (T : Tbl) (wb : W) : W := fun env Q => wb env fun rb e1 => rs e1 rb fun d => match d with
  | .str z => ∃ ys, (z, ys) ∈ T ∧ Q (.val (.tpd (ys.map D.str))) e1
  | _ => False
theorem e_itm {x : Str} {p : Pos} {T : Tbl} (G : DctT X.w X.K X.mg x T) (hb : DE X np He b wb) (hg : Gl X x := by rfl) (hd : (x == ("__debug__" : Str)) = false := by decide) (hs : PlainIx b := by exact fun _ _ => rfl) : DE X np He (.Subscript (.Name x p) b pos) (cItm T wb) := by
  obtain ⟨a, es, n, hm, hl, hk, hT⟩ := G.ex
  refine PE.weak (pe_ix ix_kdict (pe_glob (v := .ref a) hg hm rfl hd) hb hs) fun σ H Q ⟨env, Q0, R, w, q⟩ => ?_
  refine ⟨env, _, R, w, fun rb e1 v1 H1 w1 s1 r1 => ?_⟩
  obtain ⟨d, hdv, w1⟩ := r1.rs s1.rep w1
  cases d <;> first | exact False.elim w1 | skip
  rename_i z
  obtain ⟨ys, hz, w1⟩ := w1
  obtain ⟨t, h1, h2⟩ := hT.at hz
  exact ⟨a, z, .ref t, rfl, hdv, ⟨es, n, _, hl, hk, h1, rfl⟩, q _ e1 _ H1 w1 s1 ⟨h2.rp H1, fun n => by simp [isL] at n⟩⟩
end
end DL

namespace DL
open PySem PySem.Spec PyProof.Rows L2
/-! ### sorted(set(a list of ints)) -/
/-- the object of a new set -/
abbrev setNew (w : World) : Obj := { cls := .type "set", dict := none, data := .set #[] 0 (.fresh 0 0 (!w.params.followText "set-order")) }
section
variable {P : Program} {w : World} {A : Around} {E : Value → Shared → Prop} {s : Shared}
end
section
variable {X : Cx}
end
section
variable {X : Cx} {np : Nat} {He : Hp} {a : Expr} {wa : W} {pos pos2 : Pos}
end
end DL

namespace DL
open PySem PySem.Spec PyProof.Rows L2
/-! ### sets of texts -/
def txV : Value → Str
  | .str x _ => x
  | _ => Str.empty
def tx (p : Int × Value) : Str := txV p.2
abbrev TK (P : Program) (w : World) := PySem.strKind P w
/-- the set at c holds just the texts of M, and can be walked -/
structure TxS (P : Program) (w : World) (g : Heap) (c : Addr) (M : List Str) : Prop where
  ex : ∃ ob en pe tb, (g.get? c = some ob ∧ ob.ExactSet ∧ ob.data = .set en pe tb) ∧ (ElemsOf (TK P w) en.toList ∧ (en.toList.map tx).Nodup ∧ ∀ z, z ∈ en.toList.map tx ↔ z ∈ M) ∧
    (en.size ≤ M.length ∧ en.size < scanBound) ∧ tb.fits en.size = true ∧ Ris tb.place.toList ∧ (w.params.followText "set-order" = true ∨ tb.led = true)
section
variable {P : Program} {w : World} {A : Around} {E : Value → Shared → Prop} {s : Shared} {c : Addr} {M : List Str}
theorem TxS.stays {g g' : Heap} (T : TxS P w g c M) (k : ∀ u, g.get? c = some u → g'.get? c = some u) : TxS P w g' c M := by
  obtain ⟨ob, en, pe, tb, ⟨h1, h2⟩, r⟩ := T.ex
  exact ⟨ob, en, pe, tb, ⟨k ob h1, h2⟩, r⟩
theorem tx_el {l : List (Int × Value)} (g : ElemsOf (TK P w) l) {p : Int × Value} (hp : p ∈ l) : ∃ z t, p.2 = .str z t := by
  obtain ⟨⟨z, hz, _⟩, _⟩ := g p hp
  obtain ⟨t, e⟩ := Value.isStrOf_shape hz
  exact ⟨z, t, e⟩
theorem tx_is {l : List (Int × Value)} (g : ElemsOf (TK P w) l) {p : Int × Value} (hp : p ∈ l) (y : Str) : (TK P w).is y p.2 = true ↔ tx p = y := by
  obtain ⟨z, t, e⟩ := tx_el g hp
  unfold tx
  rw [e]
  show (Value.isStrOf y (.str z t) = true) ↔ z = y
  simp only [Value.isStrOf, beq_iff_eq, decide_eq_true_eq]
/-- the table with one text more is laid down; it may be laid anew at once -/
theorem ts_lay {gw : Bool → Sem Unit} (hgw : ∀ (b : Bool) (s1 : Shared) (Q1 : Unit → Shared → Prop), Q1 () s1 → wpAny (model P w) A (gw b) Q1 E s1) {ob : Obj} {en en1 : Array (Int × Value)} {pe : Nat} {tb tb1 : SetTable} {dm : Bool} {R : Option Bool → Shared → Prop}
    (h1 : s.heap.get? c = some ob) (h2 : ob.ExactSet) (h3 : ob.data = .set en pe tb) (el : ElemsOf (TK P w) en1.toList) (nd : (en1.toList.map tx).Nodup) (mem : ∀ z, z ∈ en1.toList.map tx ↔ z ∈ M) (sm : en1.size ≤ M.length) (sb : en1.size < scanBound)
    (ft : tb1.fits en1.size = true) (rs : Ris tb1.place.toList) (ld : w.params.followText "set-order" = true ∨ tb1.led = true) (hR : ∀ g', Heap.SameBut c s.heap g' → TxS P w g' c M → R (some true) { s with heap := g' }) :
    wpAny (model P w) A (do
        storeSet c en1 tb1
        if (!dm && tb1.tooFull) = true then do
            gw (relayAll tb1 en1 (SetTable.grown en1.size)).2.2
            storeSet c (relayAll tb1 en1 (SetTable.grown en1.size)).1 (relayAll tb1 en1 (SetTable.grown en1.size)).2.1
            pure (some true)
          else pure (some true)) R E s := by
  have st1 := store_at (es' := en1) (t' := tb1) h1 h3
  have same1 := Heap.SameBut.update s.heap c (Obj.putSet en1 tb1)
  refine wpAny_bind (wpAny_storeSet_of h1 h3 ?_ (fits_of_scanBound sb))
  split
  case isFalse => exact wpAny_pure (hR _ same1 ⟨_, en1, _, tb1, ⟨st1, h2, rfl⟩, ⟨el, nd, mem⟩, ⟨sm, sb⟩, ft, rs, ld⟩)
  case isTrue =>
    have q1 := relayAll_perm tb1 en1 (SetTable.grown en1.size)
    have q2 := relayAll_fits tb1 en1 (SetTable.grown en1.size)
    have q3 := relayAll_ris tb1 en1 (SetTable.grown en1.size)
    have q4 := relayAll_led tb1 en1 (SetTable.grown en1.size)
    revert q1 q2 q3 q4
    rcases relayAll tb1 en1 (SetTable.grown en1.size) with ⟨en2, tb2, gv⟩
    intro q1 q2 q3 q4
    have sz : en2.size = en1.size := by simpa using q1.length_eq
    have sb2 : en2.size < scanBound := sz ▸ sb
    refine wpAny_bind (hgw gv _ _ (wpAny_bind (wpAny_storeSet_of st1 rfl (wpAny_pure (hR _ (same1.trans (Heap.SameBut.update _ c _)) ?_)) (fits_of_scanBound sb2))))
    have st2 := store_at (es' := en2) (t' := tb2) st1 rfl
    have pt := q1.map tx
    exact ⟨_, en2, _, tb2, ⟨st2, h2, rfl⟩, ⟨el.perm q1, pt.nodup_iff.mpr nd, fun z => pt.mem_iff.trans (mem z)⟩, ⟨sz ▸ sm, sb2⟩, q2, q3, ld.imp (fun z => z) fun z => q4.trans z⟩
theorem ts_put {z : Str} {t : Tok} {Q : Bool → Shared → Prop} (T : TxS P w s.heap c M) (room : M.length + 1 < scanBound) (hQ : ∀ b g', Heap.SameBut c s.heap g' → TxS P w g' c (M ++ [z]) → Q b { s with heap := g' }) :
    wpAny (model P w) A (setAddHashed c (.str z t) ((TK P w).hash z)) Q E s := by
  obtain ⟨ob, en, pe, tb, ⟨h1, h2, h3⟩, ⟨el, nd, mem⟩, ⟨sm, sb⟩, ft, rs, ld⟩ := T.ex
  have kz : (TK P w).is z (.str z t) = true := strKind_is P w z t
  have scz : (Value.str z t).scannable = true := rfl
  unfold setAddHashed setAddHashedIn
  refine wpAny_holding (wpAny_bind (wpAny_setState_of h1 h3 ft ?_))
  dsimp only
  rw [byScan_of scz sb el, if_pos rfl]
  unfold setAddByScan
  refine wpAny_bind (wpAny_bind (wpAny_rule (wpAny_bind (wpAny_setScan_of kz h1 h3 ft el ?_))))
  cases fi : en.toList.findIdx? (fun p => (TK P w).is z p.2) with
  | some j =>
    obtain ⟨hj, pj, _⟩ := List.findIdx?_eq_some_iff_getElem.mp fi
    have hz : z ∈ M := (mem z).mp (List.mem_map.mpr ⟨_, List.getElem_mem hj, (tx_is el (List.getElem_mem hj) z).mp pj⟩)
    refine wpAny_pure (wpAny_pure (hQ false s.heap (.refl c s.heap) ⟨ob, en, pe, tb, ⟨h1, h2, h3⟩, ⟨el, nd, fun y => (mem y).trans ?_⟩, ⟨by rw [List.length_append]; omega, sb⟩, ft, rs, ld⟩))
    rw [List.mem_append, List.mem_singleton]
    exact ⟨.inl, fun q => q.elim (fun q => q) fun q => q ▸ hz⟩
  | none =>
    have hz : z ∉ en.toList.map tx := fun q => by
      obtain ⟨p, hp, e⟩ := List.mem_map.mp q
      have := List.findIdx?_eq_none_iff.mp fi p hp
      rw [(tx_is el hp z).mpr e] at this
      cases this
    have p1 := layNew_perm tb en ((TK P w).hash z) (.str z t)
    have p2 := layNew_fits tb en ((TK P w).hash z) (.str z t)
    have p3 := layNew_ris tb en ((TK P w).hash z) (.str z t) rs
    have p4 := layNew_led tb en ((TK P w).hash z) (.str z t)
    dsimp only
    revert p1 p2 p3 p4
    rcases layNew tb en ((TK P w).hash z) (.str z t) with ⟨en1, tb1, dm, gv⟩
    intro p1 p2 p3 p4
    dsimp only at p1 p2 p3 p4 ⊢
    rw [Array.toList_push] at p1
    have el1 : ElemsOf (TK P w) en1.toList := (el.push kz scz).perm p1
    have pt := p1.map tx
    rw [List.map_append] at pt
    have nd1 : (en1.toList.map tx).Nodup := pt.nodup_iff.mpr (List.nodup_append.mpr ⟨nd, by simp, fun a ha b hb => by
      have hb : b = z := List.mem_singleton.mp hb
      exact fun q => hz (hb ▸ q ▸ ha)⟩)
    have mem1 : ∀ y, y ∈ en1.toList.map tx ↔ y ∈ M ++ [z] := fun y => by
      rw [pt.mem_iff, List.mem_append, List.mem_append, mem y]
      rfl
    have sz : en1.size = en.size + 1 := by simpa using p1.length_eq
    have sm1 : en1.size ≤ (M ++ [z]).length := by rw [List.length_append, sz]; exact Nat.succ_le_succ sm
    have sb1 : en1.size < scanBound := by omega
    have ld1 : w.params.followText "set-order" = true ∨ tb1.led = true := ld.imp (fun q => q) fun q => p4.trans q
    have gws : ∀ (b : Bool) (s1 : Shared) (Q1 : Unit → Shared → Prop), Q1 () s1 → wpAny (model P w) A (match b with | true => rule "set.scan.the-table-gave-way" | false => pure ()) Q1 E s1 := fun b s1 Q1 q => by
      cases b
      · exact wpAny_pure q
      · exact wpAny_rule q
    refine wpAny_bind (gws _ _ _ ?_)
    split
    · refine wpAny_bind ?_
      rw [hashByValue_scannable 8 scz]
      refine wpAny_pure ?_
      cases plainKind (Value.str z t) with
      | true => exact ts_lay gws h1 h2 h3 el1 nd1 mem1 sm1 sb1 p2 p3 ld1 fun g' a b => wpAny_pure (hQ true g' a b)
      | false => exact ts_lay gws h1 h2 h3 el1 nd1 mem1 sm1 sb1 (SetTable.fits_plain_off p2) p3 ld1 fun g' a b => wpAny_pure (hQ true g' a b)
    · refine wpAny_bind (wpAny_pure ?_)
      exact ts_lay gws h1 h2 h3 el1 nd1 mem1 sm1 sb1 p2 p3 ld1 fun g' a b => wpAny_pure (hQ true g' a b)
/-- the texts of a walk go in, one after another -/
theorem ts_loop {it : Addr} {fp wr : List Addr} {G : Array GenState → Array GenState → Prop} {n : Nat} {Pv : Nat → Value → Prop} {St : Nat → Shared → Prop} {R : Result → Shared → Prop} (W : WalksS P w A.in1 it fp wr G n Pv St) (far : c ∉ fp) (zs : List Str) (hn : zs.length = n)
    (small : zs.length + 1 < scanBound) (val : ∀ i v, Pv i v → ∃ z t, zs[i]? = some z ∧ v = .str z t) : ∀ (k i : Nat) (s : Shared), i + k = n → St i s → TxS P w s.heap c (zs.take i) →
      (∀ s', Moved (c :: wr) G s s' → TxS P w s'.heap c zs → R (.ok (.ret .none)) s') → codeAny (model P w) A (.builtin "set.update.loop" ⟨[.ref c, .ref it], []⟩) R s := by
  have off : c ∉ wr := fun q => far (W.sub _ q)
  have wider : ∀ b ∈ wr, b ∈ c :: wr := fun b q => List.mem_cons_of_mem _ q
  intro k
  induction k with
  | zero =>
    intro i s hi st T hR
    have hi : i = n := hi
    subst hi
    refine codeAny_builtin F.entry_set_update_loop ?_
    rw [Around.under_plainId F.plain_set_update_loop _]
    refine wpAny_bind (W.done s _ _ st fun s1 mv => wpAny_pure (hR s1 (mv.mono wider) ?_))
    rw [List.take_of_length_le (Nat.le_of_eq hn)] at T
    exact T.stays fun u e => mv.heap c u off e
  | succ k ih =>
    intro i s hi st T hR
    refine codeAny_builtin F.entry_set_update_loop ?_
    rw [Around.under_plainId F.plain_set_update_loop _]
    refine wpAny_bind (W.item i s _ _ (by omega) st fun v s1 pv st1 mv => ?_)
    obtain ⟨z, t, hz, rfl⟩ := val i v pv
    have T1 : TxS P w s1.heap c (zs.take i) := T.stays fun u e => mv.heap c u off e
    dsimp only
    refine wpAny_bind (wpAny_holding ?_)
    unfold setAdd
    refine wpAny_holding (wpAny_bind ((TK P w).pyHash (k := z) (strKind_is P w z t) ?_))
    refine ts_put (s := { s1 with toks := s1.toks + 1 }) T1 (by rw [List.length_take]; omega) fun b g' sb T2 => ?_
    have T2 : TxS P w g' c (zs.take (i + 1)) := by
      rw [List.take_add_one, hz]
      exact T2
    have frame : ∀ b, b ≠ c → ∀ u, s1.heap.get? b = some u → g'.get? b = some u := fun b q u e => (sb.2 b q).trans e
    refine wpAny_pure ⟨plainId_quiet F.plain_set_update_loop _, ih (i + 1) _ (by omega) (W.frame _ s1 _ _ st1 (Nat.le_succ _) fun b q u e => frame b (fun y => far (y ▸ q)) u e) T2 fun s2 mv2 T3 => hR s2 ?_ T3⟩
    exact Moved.trans W.gtrans ((mv.mono wider).then_heap (Nat.le_succ _) fun b u q e => frame b (fun y => q (y ▸ List.mem_cons_self)) u e) mv2
theorem ts_new {g : Heap} (h : g.get? c = some (setNew w)) : TxS P w g c [] := by
  refine ⟨_, #[], 0, _, ⟨h, ⟨rfl, rfl, rfl⟩, rfl⟩, ⟨fun p q => by simp at q, by simp, fun z => by simp⟩, ⟨Nat.le_refl _, by decide⟩, rfl, .nil, ?_⟩
  show _ ∨ (!w.params.followText "set-order") = true
  cases w.params.followText "set-order"
  · exact .inr rfl
  · exact .inl rfl
theorem strs_nth : ∀ {vs : List Value} {zs : List Str}, PyProof.Rows.StrsAre vs zs → ∀ {i : Nat} {v : Value}, vs[i]? = some v → ∃ z t, zs[i]? = some z ∧ v = .str z t
  | _, _, .nil, i, v, h => by simp at h
  | _, _, .cons z t hr, 0, v, h => by
    simp only [List.getElem?_cons_zero, Option.some.injEq] at h
    exact ⟨z, t, rfl, h.symm⟩
  | _, _, .cons z t hr, i + 1, v, h => by
    simp only [List.getElem?_cons_succ] at h ⊢
    exact strs_nth hr h
theorem strs_len : ∀ {vs : List Value} {zs : List Str}, PyProof.Rows.StrsAre vs zs → vs.length = zs.length
  | _, _, .nil => rfl
  | _, _, .cons _ _ hr => by rw [List.length_cons, List.length_cons, strs_len hr]
/-- set.__init__(c, l): the texts of the list l go into the new set -/
theorem ts_init_l {l : Addr} {items : Array Value} {zs : List Str} {R : Result → Shared → Prop} (hh : A.handled = none) (hl : s.heap.IsList l items) (hit : PyProof.Rows.StrsAre items.toList zs) (small : zs.length + 1 < scanBound) (hS : s.heap.get? c = some (setNew w)) (apart : l ≠ c)
    (h : ∀ (g' : Heap) (tk : Nat), TxS P w g' c zs → (∀ b u, b ≠ c → s.heap.get? b = some u → g'.get? b = some u) → R (.ok (.ret .none)) { s with heap := g', toks := tk }) :
    codeAny (model P w) A (.call (.builtin "set.__init__") ⟨[.ref c, .ref l], []⟩) R s := by
  have len : zs.length = items.size := by rw [← Array.length_toList, strs_len hit]
  have typ : s.TypeIs (.ref c) "set" := ⟨_, hS, rfl⟩
  have keepl := hl
  obtain ⟨⟨_, od, _, os⟩, hol, hcl, nl, hdl⟩ := hl
  dsimp only at hcl hdl
  subst hcl hdl
  have s1 := F.sub_list_set
  have s2 := F.sub_list_frozenset
  have s3 : (Value.type "list" == Value.type "dict") = false := by decide
  refine codeAny_call_builtin F.called_set.init.plain F.entry_set_init (check_set_init_1 typ ?_)
  unfold Builtin.«set.__init__» noKeywords Builtin.Frozenset.updateFrom
  generalize hPI : pyIter = PI
  wp_walk
  subst hPI
  refine wpAny_pyIter_list keepl (wpAny_bind (wpAny_runValue ?_))
  have n1 : l ≠ s.heap.objs.size := Nat.ne_of_lt (Heap.lt_size hol)
  have n2 : c ≠ s.heap.objs.size := Nat.ne_of_lt (Heap.lt_size hS)
  have hS2 := Heap.get?_push_of_some { cls := .type "list_iterator", data := .fields #[.ref l, .int 0 0] } hS
  refine ts_loop ((Walks.list (show A.in1.in1.handled = none by simp [hh]) _ l n1 items).toS) (by simp only [List.mem_cons, List.not_mem_nil, or_false, not_or]; exact ⟨n2, Ne.symm apart⟩) zs len small
    (fun i v hv => strs_nth hit (i := i) (by rw [Array.getElem?_toList]; exact hv)) items.size 0 _ (Nat.zero_add _) ?st (ts_new hS2) ?fin
  case st => exact ⟨⟨_, Heap.get?_push_size _ rfl, rfl, rfl⟩, keepl.push _⟩
  rintro ⟨g', ge', d', tk', os'⟩ mv T
  cases (show ge' = s.gens from mv.gens)
  cases (show d' = s.drawn from mv.drawn)
  cases (show os' = s.os from mv.os)
  refine wpAny_pure (wpAny_pure (h g' tk' T fun b u nb e => mv.heap b u ?_ (Heap.get?_push_of_some _ e)))
  simp only [List.mem_cons, List.not_mem_nil, or_false, not_or]
  exact ⟨nb, Nat.ne_of_lt (Heap.lt_size e)⟩
/-- the same of a tuple -/
theorem ts_init_t {l : Addr} {items : Array Value} {zs : List Str} {R : Result → Shared → Prop} (hh : A.handled = none) (hl : s.heap.IsTuple l items) (hit : PyProof.Rows.StrsAre items.toList zs) (small : zs.length + 1 < scanBound) (hS : s.heap.get? c = some (setNew w)) (apart : l ≠ c)
    (h : ∀ (g' : Heap) (tk : Nat), TxS P w g' c zs → (∀ b u, b ≠ c → s.heap.get? b = some u → g'.get? b = some u) → R (.ok (.ret .none)) { s with heap := g', toks := tk }) :
    codeAny (model P w) A (.call (.builtin "set.__init__") ⟨[.ref c, .ref l], []⟩) R s := by
  have len : zs.length = items.size := by rw [← Array.length_toList, strs_len hit]
  have typ : s.TypeIs (.ref c) "set" := ⟨_, hS, rfl⟩
  have keepl := hl
  obtain ⟨⟨_, od, _, os⟩, hol, hcl, nl, hdl⟩ := hl
  dsimp only at hcl hdl
  subst hcl hdl
  have s1 := F.sub_tuple_set
  have s2 := F.sub_tuple_frozenset
  have s3 : (Value.type "tuple" == Value.type "dict") = false := by decide
  refine codeAny_call_builtin F.called_set.init.plain F.entry_set_init (check_set_init_1 typ ?_)
  unfold Builtin.«set.__init__» noKeywords Builtin.Frozenset.updateFrom
  generalize hPI : pyIter = PI
  wp_walk
  subst hPI
  refine wpAny_pyIter_tuple keepl (wpAny_bind (wpAny_runValue ?_))
  have n1 : l ≠ s.heap.objs.size := Nat.ne_of_lt (Heap.lt_size hol)
  have n2 : c ≠ s.heap.objs.size := Nat.ne_of_lt (Heap.lt_size hS)
  have hS2 := Heap.get?_push_of_some { cls := .type "tuple_iterator", data := .fields #[.ref l, .int 0 0] } hS
  refine ts_loop ((Walks.tuple (show A.in1.in1.handled = none by simp [hh]) _ l n1 items).toS) (by simp only [List.mem_cons, List.not_mem_nil, or_false, not_or]; exact ⟨n2, Ne.symm apart⟩) zs len small
    (fun i v hv => strs_nth hit (i := i) (by rw [Array.getElem?_toList]; exact hv)) items.size 0 _ (Nat.zero_add _) ?st (ts_new hS2) ?fin
  case st => exact ⟨⟨_, Heap.get?_push_size _ rfl, rfl, rfl⟩, keepl.push _⟩
  rintro ⟨g', ge', d', tk', os'⟩ mv T
  cases (show ge' = s.gens from mv.gens)
  cases (show d' = s.drawn from mv.drawn)
  cases (show os' = s.os from mv.os)
  refine wpAny_pure (wpAny_pure (h g' tk' T fun b u nb e => mv.heap b u ?_ (Heap.get?_push_of_some _ e)))
  simp only [List.mem_cons, List.not_mem_nil, or_false, not_or]
  exact ⟨nb, Nat.ne_of_lt (Heap.lt_size e)⟩
/-- set(l), l a list or a tuple of texts -/
theorem ts_set {l : Addr} {items : Array Value} {zs : List Str} {Q : Value → Shared → Prop} (hh : A.handled = none) (hl : s.heap.IsList l items ∨ s.heap.IsTuple l items) (hit : PyProof.Rows.StrsAre items.toList zs) (small : zs.length + 1 < scanBound)
    (h : ∀ (g' : Heap) (tk : Nat), TxS P w g' s.heap.objs.size zs → (∀ b u, s.heap.get? b = some u → g'.get? b = some u) → Q (.ref s.heap.objs.size) { s with heap := g', toks := tk }) :
    wpAny (model P w) A (call (.type "set") [.ref l]) Q E s := by
  have nl : l < s.heap.objs.size := by
    rcases hl with ⟨o, ho, _⟩ | ⟨o, ho, _⟩ <;> exact Heap.lt_size ho
  obtain ⟨c0, tl, hmro⟩ := F.called_set.mro
  have f1 := F.called_set.made
  have f2 := F.called_set.sub
  have f3 := F.called_set.notType
  have f4 := F.called_set.canCreate
  have f5 := F.typeCall_set_1 (.ref l)
  refine wpAny_call (codeAny_of_tree ?_)
  refine wpAny_pure (And.intro (Code.quiet_builtin _ (by decide +kernel)) (codeAny_builtin F.entry_type_call ?_))
  rw [Around.under_plain (weight_type_call_type "set" [.ref l] []) rfl]
  repeat (any_goals (first | assumption | wp_step))
  refine codeAny_mono (code_set_led1 (E := E) (Q₁ := fun v s' => v = .ref s.heap.objs.size ∧ s' = { s with heap := s.heap.push (setNew w) }) (.ref l) ⟨rfl, rfl⟩) fun r s' hr => ?_
  rcases r with e | fl
  · exact hr
  cases fl <;> first | exact False.elim hr | skip
  obtain ⟨rfl, rfl⟩ := hr
  have g1 : (s.heap.push (setNew w)).get? s.heap.objs.size = some (setNew w) := Heap.get?_push_size _ rfl
  have g2 : Shared.TypeIs { s with heap := s.heap.push (setNew w) } (.ref s.heap.objs.size) "set" := ⟨_, g1, rfl⟩
  have g3 := F.called_set.init.lookup
  have g4 := F.called_set.init.bind (.ref s.heap.objs.size)
  repeat (any_goals (first | assumption | wp_step))
  have go : codeAny (model P w) A.in1 (.call (.builtin "set.__init__") ⟨[.ref s.heap.objs.size, .ref l], []⟩) (wants (fun v s' => v = .none ∧ ∃ g' tk, s' = { s with heap := g', toks := tk } ∧ TxS P w g' s.heap.objs.size zs ∧ ∀ b u, s.heap.get? b = some u → g'.get? b = some u) E) { s with heap := s.heap.push (setNew w) } := by
    rcases hl with hl | hl
    · exact ts_init_l (s := { s with heap := s.heap.push (setNew w) }) hh (hl.push _) hit small g1 (Nat.ne_of_lt nl) fun g' tk h1 h2 => ⟨rfl, g', tk, rfl, h1, fun b u e => h2 b u (Nat.ne_of_lt (Heap.lt_size e)) (Heap.get?_push_of_some _ e)⟩
    · exact ts_init_t (s := { s with heap := s.heap.push (setNew w) }) hh (hl.push _) hit small g1 (Nat.ne_of_lt nl) fun g' tk h1 h2 => ⟨rfl, g', tk, rfl, h1, fun b u e => h2 b u (Nat.ne_of_lt (Heap.lt_size e)) (Heap.get?_push_of_some _ e)⟩
  refine codeAny_mono go fun r s' hr => ?_
  rcases r with e | fl
  · exact hr
  cases fl <;> first | exact False.elim hr | skip
  obtain ⟨rfl, g', tk, rfl, h1, h2⟩ := hr
  repeat (any_goals (first | assumption | wp_step))
  exact h g' tk h1 h2
theorem strs_tx : ∀ (l : List Value), (∀ v ∈ l, ∃ z t, v = .str z t) → PyProof.Rows.StrsAre l (l.map txV)
  | [], _ => .nil
  | v :: l, h => by
    obtain ⟨z, t, rfl⟩ := h v (by simp)
    exact .cons z t (strs_tx l fun u hu => h u (by simp [hu]))
/-- sorted(c): its texts in order -/
theorem ts_sorted {Q : Value → Shared → Prop} (T : TxS P w s.heap c M) (hh : A.handled = none) (few : M.length < 64)
    (hQ : ∀ s' p (out : Array Value) (k : Nat) (zs : List Str), (∀ b u, s.heap.get? b = some u → s'.heap.get? b = some u) → s'.gens = s.gens → s'.os = s.os → s.heap.objs.size ≤ p → s'.heap.get? p = some (seqObj "list" out k) →
      PyProof.Rows.StrsAre out.toList zs → sortedS zs = true → zs.Nodup → (∀ z, z ∈ zs ↔ z ∈ M) → zs.length ≤ M.length → Q (.ref p) s') : wpAny (model P w) A (call (.builtin "sorted") [.ref c]) Q E s := by
  obtain ⟨ob, en, pe, tb, ⟨h1, h2, h3⟩, ⟨el, nd, mem⟩, ⟨sm, sb⟩, ft, rs, ld⟩ := T.ex
  refine Calls.call_function_entry kind_sorted plain_sorted entry_sorted (args_sorted1 _) ?_
  unfold Builtin.«sorted»
  refine wpAny_bind (m := checkCount "sorted" 1 1 _) (wpAny_pure (wpAny_bind (collect_set (A := A.in1) hh ⟨ob, h1, h2.1, h3⟩ ft sb rs ld fun s1 vs old sz ge os pm => ?_)))
  have len : vs.length = en.size := by simpa using pm.length_eq
  have v64 : vs.length < 64 := by omega
  have hS : PyProof.Rows.StrsAre vs (vs.map txV) := strs_tx vs fun v hv => by
    obtain ⟨p, hp, e⟩ := List.mem_map.mp (pm.mem_iff.mp hv)
    obtain ⟨z, t, q⟩ := tx_el el hp
    exact ⟨z, t, e ▸ q⟩
  have pt : (vs.map txV).Perm (en.toList.map tx) := by
    have q := pm.map txV
    rw [List.map_map] at q
    exact q
  refine wpAny_bind (wpAny_newList ?_ (by rw [sizeLine_eq]; omega))
  have at1 : (s1.heap.push (seqObj "list" vs.toArray 0)).get? s1.heap.objs.size = some (seqObj "list" vs.toArray 0) := Heap.get?_push_size _ rfl
  refine wpAny_bind (wpAny_holding (wpAny_call_entry slot_list_sort ⟨_, at1, rfl⟩ entry_list_sort (list_sort_treeK strKind_oneLt at1 hS.keysOf (fun v1 v2 r e => keyKind_strs (by rw [← e]; exact hS)) v64 fun st hp hs => ⟨_, rfl, ?_⟩) (args_list_sort _)))
  obtain ⟨zs, a1, a2, a3⟩ := sorted_out_str hS hp hs
  obtain ⟨k, hk⟩ := sortedHeap_at (vs := vs) (out := (arrOf st).map (·.2)) at1
  have pz := a2.trans pt
  refine wpAny_pure ⟨_, rfl, hQ _ s1.heap.objs.size _ k zs (fun b u e => ?_) ge os sz hk a1 a3 (pz.nodup_iff.mpr nd) (fun z => pz.mem_iff.trans (mem z)) (by rw [a2.length_eq, List.length_map, len]; exact sm)⟩
  have lt := Heap.lt_size (old b u e)
  show (sortedHeap (s1.heap.push (seqObj "list" vs.toArray 0)) s1.heap.objs.size vs _).get? b = some u
  rw [sortedHeap_old (Nat.ne_of_lt lt) (by rw [size_push']; exact Nat.lt_succ_of_lt lt)]
  exact Heap.get?_push_of_some _ (old b u e)
end
end DL

namespace DL
open PySem PySem.Spec PyProof.Rows L2
/-! ### sorted(set(texts)) -/
/-- a set of texts among the objects -/
def tsO (P : Program) (w : World) (c : Addr) (M : List Str) : HO := .ext fun g => TxS P w g c M
theorem TxS.obj {P : Program} {w : World} {H : Hp} {g : Heap} {c : Addr} {M : List Str} (T : TxS P w g c M) : ObjOk P w H g c (tsO P w c M) := by
  obtain ⟨ob, _, _, _, ⟨h1, _⟩, _⟩ := T.ex
  exact ⟨T, ⟨ob, h1⟩, fun _ _ t k => TxS.stays t k⟩
section
variable {X : Cx}
def rSetT (K : PySem.W.Frag) (P : Program) (w : World) : List V → Hp → VK → Prop := fun xs H Q => ∃ (l : Addr) (zs : List Str), xs = [.ref l] ∧ (SqL K H l (zs.map V.str) ∨ SqT K H l (zs.map V.str)) ∧ zs.length < 64 ∧ ∀ p : Addr, H p = none → Q (.ref p) (upd H p (tsO P w p zs))
theorem cr_setT (hc : X.calm = true) : CallR X (.type "set") (rSetT X.K X.prog X.w) := by
  intro pins s σ H xs us Q I r h
  obtain ⟨l, zs, rfl, hl, h64, q⟩ := h
  obtain rfl := Vals.ref1 r
  have : ∃ its : List Value, Vals (zs.map V.str) its ∧ (s.heap.IsList l its.toArray ∨ s.heap.IsTuple l its.toArray) := by
    rcases hl with hl | hl
    · obtain ⟨its, rv, pl, _⟩ := I.list hl
      exact ⟨its, rv, .inl pl.isList⟩
    · obtain ⟨its, rv, pt, _⟩ := I.tuple hl
      exact ⟨its, rv, .inr (by obtain ⟨o, h1, h2, n, h3⟩ := pt; exact ⟨o, h1, h2, n, h3⟩)⟩
  obtain ⟨its, rv, pl⟩ := this
  refine ts_set (I.ok.hd hc) pl (by simpa using rv.strs) (by unfold scanBound; omega) fun g' tk T old => ?_
  exact ⟨.ref _, upd H s.heap.objs.size (tsO X.prog X.w s.heap.objs.size zs), I.laid (t' := tk) (fun b u e => old b u e) (Nat.le_refl _) T.obj, rfl, q _ (I.hok.fresh (Nat.le_refl _))⟩
def rSortT (P : Program) (w : World) : List V → Hp → VK → Prop := fun xs H Q => ∃ (c : Addr) (M : List Str), xs = [.ref c] ∧ H c = some (tsO P w c M) ∧ M.length < 64 ∧
  ∀ (zs : List Str) (p : Addr), sortedS zs = true → zs.Nodup → (∀ z, z ∈ zs ↔ z ∈ M) → zs.length ≤ M.length → H p = none → Q (.ref p) (upd H p (.lst (zs.map V.str)))
theorem cr_sortT (hc : X.calm = true) : CallR X (.builtin "sorted") (rSortT X.prog X.w) := by
  intro pins s σ H xs us Q I r h
  obtain ⟨c, M, rfl, ha, h64, q⟩ := h
  obtain rfl := Vals.ref1 r
  have T : TxS X.prog X.w s.heap c M := (I.hok c _ ha).1
  refine ts_sorted T (I.ok.hd hc) h64 fun s1 p out k zs old ge os hp hg hi h1 h2 h3 h4 => ?_
  have hn : H p = none := I.hok.fresh hp
  have len : (zs.map V.str).length ≤ sizeLine := by rw [List.length_map, sizeLine_eq]; omega
  have J : Inv X pins σ (upd H p (.lst (zs.map V.str))) { s with heap := s1.heap, gens := s1.gens, drawn := s1.drawn, toks := s1.toks } :=
    I.call (ch := []) (Un.laid old hp hn) (I.hok.laid old hp ⟨len, out.toList, k, vals_of_strs hi, by simpa using hg⟩) (by rw [ge]; exact I.bare) (fun _ z => nomatch z)
  have e : s1 = { s with heap := s1.heap, gens := s1.gens, drawn := s1.drawn, toks := s1.toks } := by
    obtain ⟨g1, g2, g3, g4, g5⟩ := s1
    obtain ⟨f1, f2, f3, f4, f5⟩ := s
    cases os
    rfl
  rw [e]
  exact ⟨.ref p, _, J, rfl, q zs p h1 h2 h3 h4 hn⟩
end
section
variable {X : Cx} {np : Nat} {He : Hp} {a : Expr} {wa : W} {pos pos2 : Pos}
def fSST : FA := onS fun xs k => match strsD xs with
  | some zs => zs.length < 64 ∧ ∀ ms : List Str, sortedS ms = true → ms.Nodup → (∀ z, z ∈ ms ↔ z ∈ zs) → ms.length ≤ zs.length → k (.lst (ms.map D.str))
  | none => False
theorem rp_strs {K : PySem.W.Frag} {G : Hp} : ∀ l : List Str, RpIs K G (l.map D.str) (l.map V.str)
  | [] => rfl
  | m :: r => ⟨_, _, rfl, rfl, rp_strs r⟩
theorem cad_SST : CaD X.K (fun vs H Q => rSetT X.K X.prog X.w vs H fun v H2 => rSortT X.prog X.w [v] H2 Q) fSST := by
  intro H ds vs k Q r h q
  obtain ⟨d, xs, rfl, ed, g⟩ := onS_of h
  obtain ⟨v, rfl, rv⟩ := r.one
  obtain ⟨p, us, rfl, s, ru⟩ := rv.seq ed
  split at g
  case h_2 => exact g.elim
  rename_i zs e
  have e2 := strsD_ok ru e
  subst e2
  refine ⟨p, zs, rfl, s, g.1, fun p2 n2 => ⟨p2, zs, rfl, upd_same, g.1, fun ms p3 h1 h2 h3 h4 n3 => ?_⟩⟩
  have x1 : Ext H (upd H p2 (tsO X.prog X.w p2 zs)) := .new n2
  refine q (.lst (ms.map D.str)) _ _ (g.2 ms h1 h2 h3 h4) (fun b o e => (Ext.new n3) b o (x1 b o e)) ⟨p3, ms.map V.str, rfl, upd_same, rp_strs ms⟩ fun _ b e => ?_
  cases e
  cases hp : H p3 with
  | none => rfl
  | some o => rw [x1 _ _ hp] at n3; cases n3
theorem e_ssetT {p p2 : Pos} (hc : X.calm = true) (hm : X.mg "sorted" = none) (hm2 : X.mg "set" = none) (ha : DE X np He a wa) (hg : Gl X "sorted" := by rfl) (hg2 : Gl X "set" := by rfl) (he2 : starEach [a] X.env = (false, eval a X.env) :: starEach [] X.env := by rfl)
    (he : starEach [Expr.Call (.Name "set" p2) [a] [] pos2] X.env = (false, eval (Expr.Call (.Name "set" p2) [a] [] pos2) X.env) :: starEach [] X.env := by rfl) :
    DE X np He (.Call (.Name "sorted" p) [.Call (.Name "set" p2) [a] [] pos2] [] pos) (cBi fSST (cCons wa cNil)) :=
  PE.weak (pe_callB (cr_sortT hc) hg hm PyProof.Rows.boot_sorted (pa_cons (pe_callTy (cr_setT hc) hg2 hm2 PyProof.Rows.boot_set (a_cons ha a_nil he2) (he := he2)) pa_nil he) (he := he)) (bi_core cad_SST)
end
end DL

namespace DL
open PySem PySem.Spec PyProof.Rows L2
/-! ### enumerate of a list or a tuple -/
section
variable {X : Cx} {np : Nat} {He : Hp} {a : Expr} {wa : W} {pos : Pos}
end
end DL

namespace DL
open PySem PySem.Spec PyProof.Rows L2 PySem.Calls
/-! ### sorted of a tuple of texts -/
section
variable {P : Program} {w : World} {A : Around} {E : Value → Shared → Prop} {s : Shared}
end
section
variable {X : Cx}
end
section
variable {X : Cx} {np : Nat} {He : Hp} {a : Expr} {wa : W} {pos : Pos}
end
end DL

namespace DL
open PySem PySem.Spec PyProof.Rows L2 PySem.Calls
/-! ### extend by a tuple -/
section
variable {X : Cx}
end
section
variable {X : Cx} {np : Nat} {He : Hp} {a : Expr} {wa : W} {pos : Pos}
/-! ### name += int -/
/-! ### a list as a test -/
end
end DL

namespace DL
open PySem PySem.Spec PyProof.Rows L2
/-! ### match statements -/
abbrev Pm := D → (Option (List D) → Prop) → Prop
abbrev Pms := List D → (Option (List D) → Prop) → Prop
def pC : Pm := fun d k => k (some [d])
def pW : Pm := fun _ k => k (some [])
def isTu : D → Bool
  | .tup _ => true
  | .tpd _ => true
  | _ => false
def isSc : D → Bool
  | .str _ => true
  | .int _ => true
  | _ => false
def pV (c : D) : Pm := fun d k => match eqS d c with
  | some b => ifb (.bl b) (k (some [])) (k none)
  | none => isTu d = true ∧ SeqAt.shaped (toP d) = true ∧ k none
def psN : Pms := fun ds k => match ds with
  | [] => k (some [])
  | _ => False
def psC (p : Pm) (ps : Pms) : Pms := fun ds k => match ds with
  | d :: r => p d fun o => match o with
    | none => k none
    | some bs => ps r fun o2 => match o2 with
      | none => k none
      | some more => k (some (bs ++ more))
  | [] => False
def pS (n : Nat) (ps : Pms) : Pm := fun d k => match d with
  | .tup ds => ifb (.bl (decide (ds.length = n))) (ds.length ≤ 1000000 ∧ ps ds k) (ds.length ≤ 1000000 ∧ k none)
  | .tpd ds => ifb (.bl (decide (ds.length = n))) (ds.length ≤ 1000000 ∧ ps ds k) (ds.length ≤ 1000000 ∧ k none)
  | .str _ => k none
  | .int _ => k none
  | .bl _ => k none
  | .non => k none
  | _ => False
def PRes (K : PySem.W.Frag) (H : Hp) (nm : List Str) : Option (List D) → Option (List (Str × Value)) → Prop
  | none, none => True
  | some ds, some bs => bs.map (·.1) = nm ∧ ∃ vs, RpIs K H ds vs ∧ Vals vs (bs.map (·.2))
  | _, _ => False
structure DPt (X : Cx) (p : Pattern) (nm : List Str) (w : Pm) : Prop where
  run : ∀ (pins : List (Addr × Obj)) (s : Shared) (σ : L2.St) (H : Hp) (d : D) (v : V) (u : Value) (k : Option (List D) → Prop), Inv X pins σ H s → RpI X.K H d v → RelV v u → w d k →
    wpAny (model X.prog X.w) X.A (matchPattern p X.env u) (fun o s' => Inv X pins σ H s' ∧ ∃ o0, k o0 ∧ PRes X.K H nm o0 o) X.xe s
structure DPs (X : Cx) (ps : List Pattern) (nm : List Str) (w : Pms) : Prop where
  run : ∀ (pins : List (Addr × Obj)) (s : Shared) (σ : L2.St) (H : Hp) (ds : List D) (vs : List V) (us : List Value) (k : Option (List D) → Prop), Inv X pins σ H s → RpIs X.K H ds vs → Vals vs us → w ds k →
    wpAny (model X.prog X.w) X.A (matchEach ps X.env us) (fun o s' => Inv X pins σ H s' ∧ ∃ o0, k o0 ∧ PRes X.K H nm o0 o) X.xe s
section
variable {X : Cx} {np : Nat} {He : Hp} {pr : List Nat} {pos : Pos}
theorem p_cap {x : Str} : DPt X (.MatchAs none (some x) pos) [x] pC :=
  ⟨fun pins s σ H d v u k I r ru w => wpAny_matchPattern_Capture ⟨I, _, w, rfl, [v], by simp only [RpIs]; exact ⟨v, [], rfl, r, rfl⟩, .cons ru .nil⟩⟩
theorem p_wild : DPt X (.MatchAs none none pos) [] pW :=
  ⟨fun pins s σ H d v u k I r ru w => wpAny_matchPattern_Capture ⟨I, _, w, rfl, [], by simp only [RpIs], .nil⟩⟩
theorem eqv_ts {c d : D} (h1 : isTu d = true) (h2 : isSc c = true) : PyData.eqv (toP d) (toP c) = false := by
  cases d <;> first | (simp [isTu] at h1; done) | skip
  all_goals (cases c <;> first | (simp [isSc] at h2; done) | (simp [toP, PyData.eqv]))
theorem pv_core {c : D} {y : V} {e : Expr} (hu : X.A.units + 64 < cLine) (rc : ∀ H, RpI X.K H c y) (h2 : isSc c = true) (h3 : SeqAt.shaped (toP c) = true) (he : PE X e (tC y)) : DPt X (.MatchValue e pos) [] (pV c) := by
  refine ⟨fun pins s σ H d v u k I r ru w => ?_⟩
  refine wpAny_matchPattern_Value ?_
  refine thn (he.run pins s σ H (fun z H1 => z = y ∧ H1 = H) I ⟨rfl, rfl⟩) fun x s1 ⟨z, H1, I1, rz, e1, e2⟩ => ?_
  subst e1
  subst e2
  have fin : ∀ (b : Bool), (if b = true then k (some []) else k none) → ∀ (o : Value) (s2 : Shared), EP X pins σ (fun z H3 => z = .bl b ∧ H3 = H1) o s2 → wpAny (model X.prog X.w) X.A (truthy o) (fun b s₃ => if b then (Inv X pins σ H1 s₃ ∧ ∃ o0, k o0 ∧ PRes X.K H1 [] o0 (some [])) else (Inv X pins σ H1 s₃ ∧ ∃ o0, k o0 ∧ PRes X.K H1 [] o0 none)) X.xe s2 := fun b hk o s2 ⟨z, H3, I3, rz, e1, e2⟩ => by
    subst e1
    subst e2
    cases rz
    refine wpAny_truthy_bool ?_
    cases b
    · exact ⟨I3, none, hk, trivial⟩
    · exact ⟨I3, some [], hk, rfl, [], by simp only [RpIs], .nil⟩
  have fin2 : ∀ (b : Bool), (if b = true then k (some []) else k none) → ∀ (o : Value) (s2 : Shared), EP X pins σ (fun z H3 => z = .bl b ∧ H3 = H1) o s2 → wpAny (model X.prog X.w) X.A (truthy o) (fun b s₃ => if b then (fun o s' => Inv X pins σ H1 s' ∧ ∃ o0, k o0 ∧ PRes X.K H1 [] o0 o) (some []) s₃ else (fun o s' => Inv X pins σ H1 s' ∧ ∃ o0, k o0 ∧ PRes X.K H1 [] o0 o) none s₃) X.xe s2 := fin
  unfold pV at w
  split at w
  · rename_i b e
    obtain ⟨g1, g2⟩ := eqS_ok (K := X.K) (H := H1) (.of r) (.of (rc H1)) e
    refine thn (op_eq pins s1 σ H1 v z u x (fun z H3 => z = .bl b ∧ H3 = H1) I1 ru rz ⟨g1, by rw [g2], rfl⟩) (fin2 b ?_)
    rcases ifb_of w with ⟨e, w'⟩ | ⟨e, w'⟩
    · cases e; exact w'
    · cases e; exact w'
  · obtain ⟨h1, h4, hk⟩ := w
    refine thn (op_eqD hu pins s1 σ H1 v z u x (fun z H3 => z = .bl false ∧ H3 = H1) I1 ru rz ⟨_, _, RpV.dp (.of r) (lay_of h4), RpV.dp (.of (rc H1)) (lay_of h3), h4, h3, by rw [eqv_ts h1 h2], rfl⟩) (fin2 false hk)
theorem p_str {z : Str} {j : Nat} {p1 : Pos} (hu : X.A.units + 64 < cLine) (hz : SeqAt.shaped (toP (.str z)) = true := by decide +kernel) : DPt X (.MatchValue (.Constant (.str z) j p1) pos) [] (pV (.str z)) := pv_core hu (fun _ => rfl) rfl hz pe_str
theorem p_int {z : Int} {j : Nat} {p1 : Pos} (hu : X.A.units + 64 < cLine) (hz : SeqAt.shaped (toP (.int z)) = true := by decide +kernel) : DPt X (.MatchValue (.Constant (.int z) j p1) pos) [] (pV (.int z)) := pv_core hu (fun _ => rfl) rfl hz pe_int
theorem ps_nil : DPs X [] [] psN := by
  refine ⟨fun pins s σ H ds vs us k I r ru w => ?_⟩
  cases ds with
  | cons d ds => exact w.elim
  | nil =>
    simp only [RpIs] at r
    subst r
    cases ru
    exact wpAny_matchEach_nil ⟨I, _, w, rfl, [], by simp only [RpIs], .nil⟩
theorem ps_cns {p : Pattern} {ps : List Pattern} {n1 n2 : List Str} {w1 : Pm} {w2 : Pms} (h1 : DPt X p n1 w1) (h2 : DPs X ps n2 w2) (hp : p.isStar = false := by rfl) : DPs X (p :: ps) (n1 ++ n2) (psC w1 w2) := by
  refine ⟨fun pins s σ H ds vs us k I r ru w => ?_⟩
  cases ds with
  | nil => exact w.elim
  | cons d ds =>
    simp only [RpIs] at r
    obtain ⟨v, vr, rfl, r1, r2⟩ := r
    cases ru with
    | cons q1 q2 =>
      refine wpAny_matchEach_cons ?_ hp
      refine thn (h1.run pins s σ H d v _ _ I r1 q1 w) fun o s1 ⟨I1, o0, hk, hr⟩ => ?_
      cases o with
      | none =>
        cases o0 with
        | some _ => exact hr.elim
        | none => exact ⟨I1, none, hk, trivial⟩
      | some bs =>
        cases o0 with
        | none => exact hr.elim
        | some ds1 =>
          obtain ⟨e1, vs1, rv1, rb1⟩ := hr
          refine thn (h2.run pins s1 σ H ds vr _ _ I1 r2 q2 hk) fun o s2 ⟨I2, o0, hk, hr⟩ => ?_
          cases o with
          | none =>
            cases o0 with
            | some _ => exact hr.elim
            | none => exact ⟨I2, none, hk, trivial⟩
          | some more =>
            cases o0 with
            | none => exact hr.elim
            | some ds2 =>
              obtain ⟨e2, vs2, rv2, rb2⟩ := hr
              exact ⟨I2, some (ds1 ++ ds2), hk, by rw [List.map_append, e1, e2], vs1 ++ vs2, rv1.append rv2, by rw [List.map_append]; exact rb1.append rb2⟩
theorem p_seq {ps : List Pattern} {nm : List Str} {n : Nat} {w : Pms} (hc : X.calm = true) (h : DPs X ps nm w) (hn : ps.length = n := by rfl) (hstar : ps.findIdx? (·.isStar) = none := by rfl)
    (hwild : (ps.all fun p => p.isWildcard || (p.isStar && p.names.isEmpty)) = false := by rfl) : DPt X (.MatchSequence ps pos) nm (pS n w) := by
  subst hn
  refine ⟨fun pins s σ H d v u k I r ru w => ?_⟩
  have tupc : ∀ {ds : List D} {a : Addr} {vs : List V}, v = .ref a → SqT X.K H a vs → RpIs X.K H ds vs → ifb (.bl (decide (ds.length = ps.length))) (ds.length ≤ 1000000 ∧ (‹Pms› : Pms) ds k) (ds.length ≤ 1000000 ∧ k none) →
      wpAny (model X.prog X.w) X.A (matchPattern (.MatchSequence ps pos) X.env u) (fun o s' => Inv X pins σ H s' ∧ ∃ o0, k o0 ∧ PRes X.K H nm o0 o) X.xe s := fun {ds a vs} ev sq rv w => by
    subst ev
    cases ru
    obtain ⟨its, rr, ht, hz⟩ := I.tuple sq
    have hl : its.toArray.size = ds.length := by rw [rv.length, rr.length]; simp
    have fit : ds.length ≤ 1000000 → ((its.toArray.size : Int) < 2 ^ 63) := fun h => by rw [hl]; omega
    rcases ifb_of w with ⟨e, w⟩ | ⟨e, w⟩
    · have e' : ds.length = ps.length := by simpa using e
      refine matchSeq_tuple_hit ht (fit w.1) (hl.trans e') ?_ hstar hwild
      have I1 : Inv X pins σ H { s with toks := s.toks + 1 + 1 } := I.tok _
      rw [← hl.trans e']
      refine unpackItems_tuple (I.ok.hd hc) ht fun h' hx => ?_
      have I2 : Inv X pins σ H { s with heap := h', toks := s.toks + 1 + 1 } := I1.kept (t' := s.toks + 1 + 1) fun b o e => hx b o (Nat.ne_of_lt (Heap.lt_size e)) e
      exact h.run pins _ σ H ds vs _ k I2 rv (by simpa using rr) w.2
    · have e' : ds.length ≠ ps.length := by simpa using e
      refine matchSeq_tuple_miss ht (fit w.1) (fun z => e' (hl.symm.trans z)) ?_ hstar hwild
      exact ⟨I.tok _, none, w.2, trivial⟩
  have flat : ∀ {T : String}, s.TypeIs u T → flagOfType true (.type T) = pure false → k none → wpAny (model X.prog X.w) X.A (matchPattern (.MatchSequence ps pos) X.env u) (fun o s' => Inv X pins σ H s' ∧ ∃ o0, k o0 ∧ PRes X.K H nm o0 o) X.xe s := fun {T} hT hf hk =>
    wpAny_matchPattern_Sequence (wpAny_collectionFlag hT hf ⟨I, none, hk, trivial⟩) hstar hwild
  cases d with
  | tup ds =>
    simp only [RpI] at r
    obtain ⟨a, vs, e, q, rv⟩ := r
    exact tupc e (.of q) rv w
  | tpd ds =>
    simp only [RpI] at r
    obtain ⟨a, vs, e, q, rv⟩ := r
    exact tupc e q.t rv w
  | str x => cases r; obtain ⟨t, rfl⟩ := ru; exact flat (T := "str") rfl flag_seq_str w
  | int x => cases r; obtain ⟨t, rfl⟩ := ru; exact flat (T := "int") rfl flag_seq_int w
  | bl x => cases r; cases ru; exact flat (T := "bool") rfl flag_seq_bool w
  | non => cases r; cases ru; exact flat (T := "NoneType") rfl flag_seq_None w
  | _ => exact w.elim
/-! cases -/
abbrev CS := D → DEnv → Kt → Prop
def putAll (np : Nat) (pr : List Nat) : List Nat → List D → DEnv → (DEnv → Prop) → Prop
  | [], [], env, k => k env
  | i :: is, d :: ds, env, k => put1 np pr i d env fun e => putAll np pr is ds e k
  | _, _, _, _ => False
def ccN : CS := fun _ env K => K.nx env
def ccC (np : Nat) (pr : List Nat) (wp : Pm) (isl : List Nat) (wb : WS) (wc : CS) : CS := fun d env K => wp d fun o => match o with
  | none => wc d env K
  | some bs => putAll np pr isl bs env fun e => wb e K
def ccG (np : Nat) (pr : List Nat) (wp : Pm) (isl : List Nat) (wg : W) (wb : WS) (wc : CS) : CS := fun d env K => wp d fun o => match o with
  | none => wc d env K
  | some bs => putAll np pr isl bs env fun e => wg e fun r e2 => rs e2 r fun b => ifb b (wb e2 K) (wc d e2 K)
def BindsN (X : Cx) : List Str → List Nat → Prop
  | [], [] => True
  | x :: xs, i :: is => (X.N[i]? = some x ∧ Loc X.env.scope x ∧ (X.fn x = true ∨ X.env.scope.names.lookup x = some .local)) ∧ BindsN X xs is
  | _, _ => False
structure DCs (X : Cx) (np : Nat) (He : Hp) (pr : List Nat) (cs : List MatchCase) (w : CS) : Prop where
  run : ∀ (pins : List (Addr × Obj)) (s : Shared) (σ : L2.St) (H : Hp) (T : Ends) (d : D) (v : V) (u : Value) (env : DEnv) (K0 : Kt) (first : Bool), Inv X pins σ H s → Rep X.K np He σ H env → isL d = false → RpI X.K H d v → RelV v u → w d env K0 → Goes X.K np He pr σ H env K0 T →
    wpAny (model X.prog X.w) X.A (matchCases cs X.env u first) (SP X pins T) X.xe s
theorem bind_all (hN : X.N.Nodup) {pins : List (Addr × Obj)} {H : Hp} {Q : Unit → Shared → Prop} {k : DEnv → Prop} : ∀ (nm : List Str) (isl : List Nat) (bs : List (Str × Value)) (ds : List D) (vs : List V) (σ : L2.St) (env : DEnv) (s : Shared), BindsN X nm isl → bs.map (·.1) = nm → Vals vs (bs.map (·.2)) → RpIs X.K H ds vs →
    Inv X pins σ H s → Rep X.K np He σ H env → putAll np pr isl ds env k → (∀ σ' s' env', k env' → Inv X pins σ' H s' → SS X.K np He pr σ H env σ' H env' → Q () s') →
    wpAny (model X.prog X.w) X.A (assignInOrder (bs.map fun (n, _) => bindName X.env n) (bs.map (·.2))) Q X.xe s
  | [], [], bs, ds, vs, σ, env, s, _, e, rb, rv, I, R, w, q => by
    have e0 : bs = [] := by simpa using e
    subst e0
    cases rb
    cases ds with
    | cons d ds => exact w.elim
    | nil => exact wpAny_assignInOrder_none (q σ s env w I (.refl R))
  | x :: xs, i :: is, bs, ds, vs, σ, env, s, hb, e, rb, rv, I, R, w, q => by
    cases bs with
    | nil => simp at e
    | cons b bs =>
      obtain ⟨bn, bv⟩ := b
      simp only [List.map_cons, List.cons.injEq] at e
      obtain ⟨rfl, e⟩ := e
      cases ds with
      | nil => exact w.elim
      | cons d ds =>
        simp only [RpIs] at rv
        obtain ⟨v, vr, rfl, r1, r2⟩ := rv
        cases rb with
        | cons q1 q2 =>
          obtain ⟨hi, ht⟩ := hb
          obtain ⟨nl, ok, w⟩ := w
          refine wpAny_assignInOrder_more (wpAny_bindName (store_ok I hN hi.1 hi.2.1 q1 (fun s' I' => ?_) hi.2.2))
          have s1 : SS X.K np He pr σ H env (σ.set i (some v)) H (env.set i (some d)) := .put R (.refl R) ok (.of r1) fun n => by rw [nl] at n; cases n
          exact bind_all hN xs is bs ds vr _ _ s' ht e q2 r2 I' s1.rep w fun σ' s' env' hk I' ss => q σ' s' env' hk I' (s1.trans ss)
  | [], _ :: _, _, _, _, _, _, _, h, _, _, _, _, _, _, _ => h.elim
  | _ :: _, [], _, _, _, _, _, _, h, _, _, _, _, _, _, _ => h.elim
theorem c_nil : DCs X np He pr [] ccN := ⟨fun pins s σ H T d v u env K0 first I R nl r ru w g => wpAny_matchCases_nil ⟨σ, H, I, g.nx env σ H w (.refl R)⟩⟩
theorem c_case (isl : List Nat) {p : Pattern} {nm : List Str} {wp : Pm} {body : List Stmt} {wb : WS} {rest : List MatchCase} {wc : CS} (hN : X.N.Nodup) (hp : DPt X p nm wp) (hb : BindsN X nm isl) (h : DSs X np He pr body wb) (hr : DCs X np He pr rest wc) :
    DCs X np He pr (⟨p, none, body⟩ :: rest) (ccC np pr wp isl wb wc) := by
  refine ⟨fun pins s σ H T d v u env K0 first I R nl r ru w g => ?_⟩
  refine wpAny_matchCases_cons (thn (hp.run pins s σ H d v u _ I r ru w) fun o s1 ⟨I1, o0, hk, hres⟩ => ?_)
  cases o with
  | none =>
    cases o0 with
    | some _ => exact hres.elim
    | none => exact hr.run pins s1 σ H T d v u env K0 false I1 R nl r ru hk g
  | some bs =>
    cases o0 with
    | none => exact hres.elim
    | some ds =>
      obtain ⟨e, vs, rv, rb⟩ := hres
      exact bind_all hN nm isl bs ds vs σ env s1 hb e rb rv I1 R hk fun σ' s' env' hk I' ss => h.run pins s' σ' H T I' ⟨env', K0, ss.rep, hk, g.from ss⟩
theorem c_guard (isl : List Nat) {p : Pattern} {nm : List Str} {wp : Pm} {ge : Expr} {wg : W} {body : List Stmt} {wb : WS} {rest : List MatchCase} {wc : CS} (hN : X.N.Nodup) (hp : DPt X p nm wp) (hb : BindsN X nm isl) (hg : DT X np He ge wg) (h : DSs X np He pr body wb) (hr : DCs X np He pr rest wc) :
    DCs X np He pr (⟨p, some ge, body⟩ :: rest) (ccG np pr wp isl wg wb wc) := by
  refine ⟨fun pins s σ H T d v u env K0 first I R nl r ru w g => ?_⟩
  refine wpAny_matchCases_cons (thn (hp.run pins s σ H d v u _ I r ru w) fun o s1 ⟨I1, o0, hk, hres⟩ => ?_)
  cases o with
  | none =>
    cases o0 with
    | some _ => exact hres.elim
    | none => exact hr.run pins s1 σ H T d v u env K0 false I1 R nl r ru hk g
  | some bs =>
    cases o0 with
    | none => exact hres.elim
    | some ds =>
      obtain ⟨e, vs, rv, rb⟩ := hres
      refine bind_all hN nm isl bs ds vs σ env s1 hb e rb rv I1 R hk fun σ' s' env' hk I' ss => ?_
      have R' := ss.rep
      refine thn (hg.run pins s' σ' H (fun b H2 => ∃ e2, SE X.K np He σ' H env' H2 e2 ∧ (if b = true then wb e2 K0 else wc d e2 K0)) I' ⟨env', _, R', hk, fun rb e2 v2 H2 w2 s2 r2 => ?_⟩) fun b s2 ⟨H2, I2, e2, se, hw⟩ => ?_
      · obtain ⟨b, hb, w2⟩ := r2.rs s2.rep w2
        rcases ifb_of w2 with ⟨rfl, w3⟩ | ⟨rfl, w3⟩
        · exact ⟨true, hb, e2, s2, w3⟩
        · exact ⟨false, hb, e2, s2, w3⟩
      · have g2 := g.from (ss.trans (se.ss R'))
        cases b
        · exact hr.run pins s2 σ' H2 T d v u e2 K0 false I2 se.rep nl (RpI.kp (SE.kp R' se) _ _ r) ru hw g2
        · exact h.run pins s2 σ' H2 T I2 ⟨e2, K0, se.rep, hw, g2⟩
def cMatch (we : W) (wc : CS) : WS := fun env K => we env fun r e => match r with
  | .val d => isL d = false ∧ wc d e K
  | .ref _ => False
theorem s_match {e : Expr} {we : W} {cs : List MatchCase} {wc : CS} (he : DE X np He e we) (hc : DCs X np He pr cs wc) : DS X np He pr (.Match e cs pos) (cMatch we wc) := by
  refine ⟨fun pins s σ H T I ⟨env, K0, R, w, g⟩ => ?_⟩
  refine wpAny_Match (thn (he.run pins s σ H (fun v H1 => ∃ d e1, isL d = false ∧ RpI X.K H1 d v ∧ SE X.K np He σ H env H1 e1 ∧ wc d e1 K0) I ⟨env, _, R, w, fun r e1 v1 H1 w1 s1 r1 => ?_⟩) fun u s1 ⟨v, H1, I1, rv, d, e1, nl, r, se, hw⟩ => ?_)
  · cases r with
    | ref j => exact w1.elim
    | val d => exact ⟨d, e1, w1.1, r1.1.imm w1.1, s1, w1.2⟩
  · exact hc.run pins s1 σ H1 T d v u e1 K0 true I1 se.rep nl r rv hw (g.from (se.ss R))
end
end DL

namespace DL
open PySem PySem.Spec PyProof.Rows L2
/-! ### spans, lines, tables as data -/
abbrev Sp2 := List (Int × Int)
abbrev Ln := Int × Sp2
def SpOk (c : Int) : Int → Sp2 → Prop
  | _, [] => True
  | lo, (a, b) :: r => lo ≤ a ∧ a < b ∧ b ≤ c ∧ SpOk c (b + 1) r
def LsOk (c : Int) : Int → List Ln → Prop
  | _, [] => True
  | p, (s, sp) :: r => p < s ∧ SpOk c 0 sp ∧ LsOk c s r
def TbOk (c : Int) (ls : List Ln) : Prop := (1 ≤ c ∧ c ≤ 60) ∧ ∃ sp r, ls = (0, sp) :: r ∧ SpOk c 0 sp ∧ LsOk c 0 r
/-! ### draws -/
def sp_law_take : FSpec where
  pre := fun ds => match ds with
    | [.lst xs, .int m] => IsInts xs ∧ 0 < m
    | _ => False
  post := fun ds r ds' => match ds with
    | [.lst _, .int m] => ∃ ns v, r = .int v ∧ ds' = [.lst (List.map D.int ns), .int m] ∧ 0 ≤ v ∧ v < m
    | _ => False
/-- slots: 0 draws, 1 many -/
def w_law_take : WS :=
    (cSeq (cIte (cOp fEqS (cBi fLen (cCons (cVar 0) cNil)) (cC (.int 0)))
      (cRet 2 (cC (.int 0)))
      cNilS)
    (cRet 2 (cOp fMod (cBi fInt (cCons (cMeth 0 fPop cNil) cNil)) (cVar 1))))
theorem of_take {ds : List D} (h : sp_law_take.pre ds) : ∃ (ns : List Int) (m : Int), ds = [.lst (ns.map D.int), .int m] ∧ 0 < m := by
  unfold sp_law_take at h
  dsimp only at h
  split at h
  · obtain ⟨⟨ns, rfl⟩, h⟩ := h
    exact ⟨ns, _, rfl, h⟩
  · exact h.elim
local macro_rules | `(tactic| walk_at "Ddl") => `(tactic| ((conv => whnf); (repeat ((first | refine And.intro rfl ?_ | refine And.intro trivial ?_ | refine And.intro ⟨rfl, trivial⟩ ?_ | refine And.intro ⟨rfl, rfl, trivial⟩ ?_ | refine ifb_t ?_ | refine ifb_f ?_ | refine ifb_nr ?_ | refine ifb_er ?_ | refine And.intro (by first | decide | omega | (unfold CMul; omega) | (unfold CDiv; omega) | (unfold CPow; decide) | (exact cpow1 (by omega) (by omega)) | (exact cpow1 (by dsimp only; omega) (by dsimp only; omega)) | (simp only [rngD_len, List.length_replicate, List.length_map, List.length_append, List.length_cons, List.length_nil, List.length_set] at *; omega)) ?_); conv => whnf))))
theorem pure_law_take : ∀ ds, ds.length = 2 → sp_law_take.pre ds → w_law_take (env0 ds 0) { nx := fun e => sp_law_take.post ds .non (outs e 2), rt := fun d e => sp_law_take.post ds d (outs e 2) } := by
  intro ds _ h
  obtain ⟨ns, m, rfl, hm⟩ := of_take h
  walk_at "Ddl"
  refine ifb_dec (fun e => ?_) (fun e => ?_)
  · walk_at "Ddl"
    exact ⟨ns, 0, rfl, rfl, Int.le_refl _, hm⟩
  · have hne : ns ≠ [] := fun z => by subst z; exact e rfl
    obtain ⟨xs, x, rfl⟩ : ∃ xs x, ns = xs ++ [x] := ⟨_, _, (List.dropLast_concat_getLast hne).symm⟩
    have el : (List.map D.int (xs ++ [x])).getLast? = some (D.int x) := by simp
    have ed : (List.map D.int (xs ++ [x])).dropLast = xs.map D.int := by simp
    walk_at "Ddl"
    rw [el, ed]
    walk_at "Ddl"
    exact ⟨xs, x % m, rfl, rfl, Int.emod_nonneg _ (by omega), Int.emod_lt_of_pos _ hm⟩
def sp_law_size : FSpec where
  pre := fun ds => match ds with
    | [.lst xs, .rol ys] => IsInts xs ∧ IsInts ys
    | _ => False
  post := fun ds r ds' => match ds with
    | [_, .rol ys] => ∃ ns v, r = .int v ∧ ds' = [.lst (List.map D.int ns), .rol ys] ∧ 0 ≤ v
    | _ => False
/-- slots: 0 draws, 1 script, 2 kind, 3 number, 4 k -/
def w_law_size : WS :=
    (cSeq (cAsg 2 [0, 1] 2 (cCallN 2 sp_law_take (cCons (cVar 0) (cCons (cC (.int 8)) cNil))))
    (cSeq (cIte (cOp fLt (cVar 2) (cC (.int 5)))
      (cRet 2 (cCallN 2 sp_law_take (cCons (cVar 0) (cCons (cC (.int 12)) cNil))))
      cNilS)
    (cSeq (cIte (cOp fEqS (cVar 2) (cC (.int 5)))
      (cRet 2 (cCallN 2 sp_law_take (cCons (cVar 0) (cCons (cC (.int 100)) cNil))))
      cNilS)
    (cSeq (cIte (cOr (cOp fEqS (cVar 2) (cC (.int 6))) (cOp fEqS (cBi fLen (cCons (cVar 1) cNil)) (cC (.int 0))))
      (cSeq (cAsg 2 [0, 1] 3 (cC (.int 0)))
        (cSeq (cFor [0, 1] (iR1 (cC (.int 5))) (gN 2 [0, 1] 4)
          (cAsg 2 [0, 1] 3 (cOp fAddG (cOp fMul (cVar 3) (cC (.int 1000))) (cCallN 2 sp_law_take (cCons (cVar 0) (cCons (cC (.int 1000)) cNil))))))
        (cRet 2 (cVar 3))))
      cNilS)
    (cRet 2 (cBi fAbs (cCons (cBi fInt (cCons (cOp fIx (cVar 1) (cCallN 2 sp_law_take (cCons (cVar 0) (cCons (cBi fLen (cCons (cVar 1) cNil)) cNil)))) cNil)) cNil)))))))
theorem pure_law_size : ∀ ds, ds.length = 2 → sp_law_size.pre ds → w_law_size (env0 ds 3) { nx := fun e => sp_law_size.post ds .non (outs e 2), rt := fun d e => sp_law_size.post ds d (outs e 2) } := by
  intro ds _ h
  unfold sp_law_size at h
  dsimp only at h
  split at h
  · obtain ⟨⟨ns, rfl⟩, ms, rfl⟩ := h
    walk_at "Ddl"
    refine ⟨⟨⟨_, rfl⟩, by first | decide | omega⟩, ?_⟩; rintro _ _ ⟨ns1, v, rfl, rfl, h0, h1⟩; walk_at "Ddl"
    refine ifb_dec (fun e => ?_) (fun e => ?_)
    · walk_at "Ddl"
      refine ⟨⟨⟨_, rfl⟩, by first | decide | omega⟩, ?_⟩; rintro _ _ ⟨ns2, v2, rfl, rfl, h2, h3⟩; walk_at "Ddl"
      exact ⟨ns2, v2, rfl, rfl, h2⟩
    · walk_at "Ddl"
      refine ifb_dec (fun e2 => ?_) (fun e2 => ?_)
      · walk_at "Ddl"
        refine ⟨⟨⟨_, rfl⟩, by first | decide | omega⟩, ?_⟩; rintro _ _ ⟨ns2, v2, rfl, rfl, h2, h3⟩; walk_at "Ddl"
        exact ⟨ns2, v2, rfl, rfl, h2⟩
      · walk_at "Ddl"
        have neg : ∀ e, e = [some (D.lst (ns1.map D.int)), some (D.rol (ms.map D.int)), some (D.int v), none, none] → ms ≠ [] → (cRet 2 (cBi fAbs (cCons (cBi fInt (cCons (cOp fIx (cVar 1) (cCallN 2 sp_law_take (cCons (cVar 0) (cCons (cBi fLen (cCons (cVar 1) cNil)) cNil)))) cNil)) cNil))) e { nx := fun e => sp_law_size.post [.lst (ns.map D.int), .rol (ms.map D.int)] .non (outs e 2), rt := fun d e => sp_law_size.post [.lst (ns.map D.int), .rol (ms.map D.int)] d (outs e 2) } := by
          rintro e rfl hms
          walk_at "Ddl"
          have hp : 0 < ((List.map D.int ms).length : Int) := by
            have := List.length_pos_iff.mpr hms
            simpa using this
          refine ⟨⟨⟨_, rfl⟩, hp⟩, ?_⟩
          rintro _ _ ⟨ns2, x, rfl, rfl, hx0, hx1⟩
          walk_at "Ddl"
          have hx2 : x.toNat < ms.length := by
            have : x < (ms.length : Int) := by simpa using hx1
            omega
          have ea : atI (List.map D.int ms) x = some (D.int ms[x.toNat]) := by
            have := atI_nat (xs := List.map D.int ms) (j := x.toNat) (v := D.int ms[x.toNat]) (by simp [hx2])
            rwa [Int.toNat_of_nonneg hx0] at this
          rw [ea]
          walk_at "Ddl"
          refine ⟨ns2, _, rfl, rfl, ?_⟩
          split <;> omega
        have big : ∀ N e, e = [some (D.lst (ns1.map D.int)), some (D.rol (ms.map D.int)), some (D.int v), none, none] → (cSeq (cAsg 2 [0, 1] 3 (cC (.int 0)))
        (cSeq (cFor [0, 1] (iR1 (cC (.int 5))) (gN 2 [0, 1] 4)
          (cAsg 2 [0, 1] 3 (cOp fAddG (cOp fMul (cVar 3) (cC (.int 1000))) (cCallN 2 sp_law_take (cCons (cVar 0) (cCons (cC (.int 1000)) cNil))))))
        (cRet 2 (cVar 3)))) e { nx := N, rt := fun d e => sp_law_size.post [.lst (ns.map D.int), .rol (ms.map D.int)] d (outs e 2) } := by
          rintro N e rfl
          walk_at "Ddl"
          refine loop_rng (fun _ e => ∃ (ks : List Int) (num : Int) (o : Option D), 0 ≤ num ∧ e = [some (D.lst (ks.map D.int)), some (D.rol (ms.map D.int)), some (D.int v), some (D.int num), o]) ⟨ns1, 0, none, Int.le_refl _, rfl⟩ ?_ ?_
          · rintro j env nxt h1 h2 ⟨ks, num, o, hn, rfl⟩ hx
            walk_at "Ddl"
            refine ⟨⟨⟨_, rfl⟩, by first | decide | omega⟩, ?_⟩; rintro _ _ ⟨ks2, d, rfl, rfl, hd0, hd1⟩; walk_at "Ddl"
            exact hx _ ⟨ks2, num * 1000 + d, _, by omega, rfl⟩
          · rintro env ⟨ks, num, o, hn, rfl⟩
            walk_at "Ddl"
            exact ⟨ks, num, rfl, rfl, hn⟩
        refine ifb_dec (fun e6 => ?_) (fun e6 => ?_)
        · (conv => whnf); refine ifb_t ?_
          exact big _ _ rfl
        · walk_at "Ddl"
          refine ifb_dec (fun e7 => ?_) (fun e7 => ?_)
          · exact big _ _ rfl
          · exact neg _ rfl (fun z => by subst z; exact e7 rfl)
  · exact h.elim
theorem cut {u v : WS} {env : DEnv} {K : Kt} (J : DEnv → Prop) (h1 : ∀ nxt, (∀ e, J e → nxt e) → u env { K with nx := nxt }) (h2 : ∀ e, J e → v e K) : cSeq u v env K := h1 _ h2
def sp_law_draws : FSpec where
  pre := fun ds => match ds with
    | [.rol xs, .int m] => IsInts xs ∧ xs.length ≤ 63 ∧ 0 ≤ m ∧ m ≤ 5000
    | _ => False
  post := fun ds r ds' => ds' = ds ∧ ∃ ns : List Int, r = .lst (ns.map D.int)
/-- slots: 0 script, 1 many, 2 cells, 3 rest, 4 draws, 5 k, 6 at, 7 mixed, 8 cell -/
def w_law_draws : WS :=
    (cSeq (cAsg 2 [0, 1] 2 (cLc [8] (iE (cVar 0)) (gN 2 [] 8) tTrue (cBi fInt (cCons (cVar 8) cNil))))
    (cSeq (cIte (cOp fEqS (cBi fLen (cCons (cVar 2) cNil)) (cC (.int 0)))
      (cEx (cMeth 2 fAppend (cCons (cC (.int 0)) cNil)))
      cNilS)
    (cSeq (cAsg 2 [0, 1] 3 (cBi fList (cCons (cVar 2) cNil)))
    (cSeq (cAsg 2 [0, 1] 4 (cLst cNil))
    (cSeq (cFor [0, 1] (iR1 (cVar 1)) (gN 2 [0, 1] 5)
      (cSeq (cAsg 2 [0, 1] 6 (cOp fMod (cVar 5) (cBi fLen (cCons (cVar 2) cNil))))
        (cIte (cOp fGe (cOp fIx (cVar 2) (cVar 6)) (cOp fPow (cC (.int 10)) (cC (.int 18))))
          (cSeq (cEx (cMeth 4 fAppend (cCons (cOp fMod (cBi fInt (cCons (cOp fIx (cVar 3) (cVar 6)) cNil)) (cC (.int 1000))) cNil)))
            (cSet 3 (cOp fFdiv (cOp fIx (cVar 3) (cVar 6)) (cC (.int 1000))) (cVar 6)))
          (cSeq (cAsg 2 [0, 1] 7 (cOp fMod (cBi fInt (cCons (cOp fAddG (cOp fAddG (cOp fMul (cOp fIx (cVar 2) (cVar 6)) (cC (.int 48271))) (cOp fMul (cVar 5) (cC (.int 69621)))) (cC (.int 11))) cNil)) (cC (.int 2147483647))))
            (cEx (cMeth 4 fAppend (cCons (cOp fMod (cBi fInt (cCons (cOp fAddG (cOp fAddG (cOp fMul (cVar 7) (cVar 7)) (cOp fMul (cC (.int 3)) (cVar 7))) (cVar 5)) cNil)) (cC (.int 1000003))) cNil)))))))
    (cSeq (cEx (cMeth 4 fReverse cNil))
    (cRet 2 (cVar 4))))))))
theorem atI_lt {α : Type} {xs : List α} {j : Int} (h0 : 0 ≤ j) (h1 : j < xs.length) : ∃ (h : j.toNat < xs.length), atI xs j = some xs[j.toNat] := by
  have h : j.toNat < xs.length := by omega
  refine ⟨h, ?_⟩
  have := atI_nat (xs := xs) (j := j.toNat) (v := xs[j.toNat]) (List.getElem?_eq_getElem h)
  rwa [Int.toNat_of_nonneg h0] at this
theorem atI_map {α : Type} {f : α → D} {xs : List α} {j : Int} (h0 : 0 ≤ j) (h1 : j < xs.length) : ∃ v, v ∈ xs ∧ atI (xs.map f) j = some (f v) := by
  obtain ⟨h, e⟩ := atI_lt (xs := xs.map f) h0 (by simpa using h1)
  have h' : j.toNat < xs.length := by omega
  exact ⟨xs[j.toNat], List.getElem_mem h', by rw [e]; simp⟩
theorem ixN_lt {n : Nat} {j : Int} (h0 : 0 ≤ j) (h1 : j < n) : ixN n j = some j.toNat := by
  unfold ixN
  rw [if_pos h0, if_pos h1]
theorem pure_law_draws : ∀ ds, ds.length = 2 → sp_law_draws.pre ds → w_law_draws (env0 ds 7) { nx := fun e => sp_law_draws.post ds .non (outs e 2), rt := fun d e => sp_law_draws.post ds d (outs e 2) } := by
  intro ds _ h
  unfold sp_law_draws at h
  dsimp only at h
  split at h
  · obtain ⟨⟨ns, rfl⟩, hlen, hm0, hm1⟩ := h
    rename_i m _
    walk_at "Ddl"
    have hlen : ns.length ≤ 63 := by simpa using hlen
    refine lcGo_map (fun x => x) _ (List.map D.int ns) ?_ ?_
    · rintro x nxt acc hx hn
      obtain ⟨i, _, rfl⟩ := List.mem_map.mp hx
      walk_at "Ddl"
      exact hn
    · refine ⟨trivial, rfl, ?_⟩
      rw [List.map_id']
      dsimp only
      refine cut (fun e => ∃ cs : List Int, cs ≠ [] ∧ cs.length ≤ 63 ∧ e = [some (D.rol (ns.map D.int)), some (D.int m), some (D.lst (cs.map D.int)), none, none, none, none, none, none]) (fun nxt hn => ?_) ?_
      · walk_at "Ddl"
        refine ifb_dec (fun e => ?_) (fun e => ?_)
        · walk_at "Ddl"
          refine hn _ ⟨[0], by simp, by simp, ?_⟩
          have : ns = [] := by
            cases ns with
            | nil => rfl
            | cons a b => simp at e; omega
          subst this
          rfl
        · walk_at "Ddl"
          refine hn _ ⟨ns, fun z => ?_, hlen, rfl⟩
          subst z
          exact e rfl
      · rintro e ⟨cs, hne, hlc, rfl⟩
        have hpos := List.length_pos_iff.mpr hne
        walk_at "Ddl"
        refine loop_rng (fun j e => ∃ (rs : List Int) (dr : List Int) (o5 o6 o7 : Option D), (rs.length = cs.length ∧ (dr.length : Int) = j) ∧ e = [some (D.rol (ns.map D.int)), some (D.int m), some (D.lst (cs.map D.int)), some (D.lst (rs.map D.int)), some (D.lst (dr.map D.int)), o5, o6, o7, none]) ⟨cs, [], none, none, none, ⟨rfl, rfl⟩, rfl⟩ ?_ ?_
        · rintro j env nxt hj0 hj1 ⟨rs, dr, o5, o6, o7, ⟨hrl, hdl⟩, rfl⟩ hx
          have hpi : (0:Int) < cs.length := by omega
          have hm0 := Int.emod_nonneg j (show (cs.length : Int) ≠ 0 by omega)
          have hm1 := Int.emod_lt_of_pos j hpi
          obtain ⟨c, _, ec⟩ := atI_map (f := D.int) (xs := cs) hm0 hm1
          obtain ⟨r, _, er⟩ := atI_map (f := D.int) (xs := rs) hm0 (by omega)
          have ei : ixN (List.map D.int rs).length (j % (cs.length : Int)) = some (j % (cs.length : Int)).toNat := ixN_lt hm0 (by simp; omega)
          walk_at "Ddl"
          simp only [List.length_map]
          walk_at "Ddl"
          rw [ec]
          walk_at "Ddl"
          refine ifb_dec (fun e => ?_) (fun e => ?_)
          · walk_at "Ddl"
            rw [er]
            walk_at "Ddl"
            rw [er]
            walk_at "Ddl"
            rw [ei]
            walk_at "Ddl"
            exact hx _ ⟨rs.set (j % (cs.length : Int)).toNat (r / 1000), dr ++ [r % 1000], _, _, _, ⟨by simpa using hrl, by simp; omega⟩, by (first | rfl | (simp only [List.map_append, List.map_set, List.map_cons, List.map_nil]; done) | (simp only [List.map_append, List.map_set, List.map_cons, List.map_nil]; rfl))⟩
          · walk_at "Ddl"
            rw [ec]
            walk_at "Ddl"
            exact hx _ ⟨rs, dr ++ [_], _, _, _, ⟨hrl, by simp; omega⟩, by (first | rfl | (simp only [List.map_append, List.map_set, List.map_cons, List.map_nil]; done) | (simp only [List.map_append, List.map_set, List.map_cons, List.map_nil]; rfl))⟩
        · rintro env ⟨rs, dr, o5, o6, o7, ⟨hrl, hdl⟩, rfl⟩
          walk_at "Ddl"
          exact ⟨dr.reverse, by simp⟩
  · exact h.elim
end DL

namespace DL
open PySem PySem.Spec PyProof.Rows L2
theorem SpOk.mono {c c' : Int} (h : c ≤ c') : ∀ {lo : Int} {s : Sp2}, SpOk c lo s → SpOk c' lo s
  | _, [], _ => trivial
  | _, (a, b) :: r, ⟨h1, h2, h3, h4⟩ => ⟨h1, h2, by omega, SpOk.mono h h4⟩
theorem SpOk.le {c : Int} : ∀ {lo : Int} {s : Sp2}, SpOk c lo s → ∀ q ∈ s, lo ≤ q.1 ∧ q.1 < q.2 ∧ q.2 ≤ c
  | _, [], _, q, h => by simp at h
  | lo, (a, b) :: r, ⟨h1, h2, h3, h4⟩, q, h => by
    rcases List.mem_cons.mp h with rfl | h
    · exact ⟨h1, h2, h3⟩
    · have := SpOk.le h4 q h
      exact ⟨by omega, this.2⟩
local macro_rules | `(tactic| walk_at "Ddl") => `(tactic| ((conv => whnf); (repeat ((first | refine And.intro rfl ?_ | refine And.intro trivial ?_ | refine And.intro ⟨rfl, trivial⟩ ?_ | refine And.intro ⟨rfl, rfl, trivial⟩ ?_ | refine ifb_t ?_ | refine ifb_f ?_ | refine ifb_nr ?_ | refine ifb_er ?_ | refine And.intro (by first | decide | omega | (unfold CMul; omega) | (unfold CDiv; omega) | (unfold CPow; decide) | (exact cpow1 (by omega) (by omega)) | (exact cpow1 (by dsimp only; omega) (by dsimp only; omega)) | (simp only [rngD_len, List.length_replicate, List.length_map, List.length_append, List.length_cons, List.length_nil, List.length_set] at *; omega)) ?_); conv => whnf))))
end DL

set_option maxHeartbeats 4000000
namespace DL
open PySem PySem.Spec PyProof.Rows L2
def encO : Option Int → D
  | none => .non
  | some i => .int i
theorem encO_inj : ∀ {a b : Option Int}, encO a = encO b → a = b
  | none, none, _ => rfl
  | some _, some _, h => by cases h; rfl
  | none, some _, h => by cases h
  | some _, none, h => by cases h
def sp_law_pick : FSpec where
  pre := fun ds => ∃ (ns : List Int) (s : D) (xs : List D), ds = [.lst (ns.map D.int), s] ∧ seqD s = some xs ∧ 0 < xs.length ∧ xs.length ≤ 1000000000000
  post := fun ds r ds' => ∀ l s xs, ds = [l, s] → seqD s = some xs → ∃ ns : List Int, r ∈ xs ∧ ds' = [.lst (ns.map D.int), s]
/-- slots: 0 draws, 1 row -/
def w_law_pick : WS :=
    (cRet 2 (cOp fIx (cVar 1) (cCallN 2 sp_law_take (cCons (cVar 0) (cCons (cBi fLen (cCons (cVar 1) cNil)) cNil)))))
local macro_rules | `(tactic| walk_at "Ddl") => `(tactic| ((conv => whnf); (repeat ((first | refine And.intro rfl ?_ | refine And.intro trivial ?_ | refine And.intro ⟨rfl, trivial⟩ ?_ | refine And.intro ⟨rfl, rfl, trivial⟩ ?_ | refine ifb_t ?_ | refine ifb_f ?_ | refine ifb_nr ?_ | refine ifb_er ?_ | refine And.intro (by first | decide | omega | (unfold CMul; omega) | (unfold CDiv; omega) | (unfold CPow; decide) | (exact cpow1 (by omega) (by omega)) | (exact cpow1 (by dsimp only; omega) (by dsimp only; omega)) | (simp only [rngD_len, List.length_replicate, List.length_map, List.length_append, List.length_cons, List.length_nil, List.length_set] at *; omega)) ?_); conv => whnf))))
theorem pure_law_pick : ∀ ds, ds.length = 2 → sp_law_pick.pre ds → w_law_pick (env0 ds 0) { nx := fun e => sp_law_pick.post ds .non (outs e 2), rt := fun d e => sp_law_pick.post ds d (outs e 2) } := by
  rintro ds _ ⟨ns, s, xs, rfl, hs, h0, h1⟩
  cases s with
  | lst ys =>
    cases hs
    walk_at "Ddl"
    refine ⟨⟨⟨_, rfl⟩, by omega⟩, ?_⟩
    rintro _ _ ⟨ns1, v, rfl, rfl, h2, h3⟩
    obtain ⟨h, ea⟩ := atI_lt (xs := xs) h2 h3
    walk_at "Ddl"
    rw [ea]
    walk_at "Ddl"
    intro l s xs' e e2
    simp only [List.cons.injEq, and_true] at e
    obtain ⟨_, rfl⟩ := e
    cases e2
    exact ⟨ns1, List.getElem_mem h, rfl⟩
  | tup ys =>
    cases hs
    walk_at "Ddl"
    refine ⟨⟨⟨_, rfl⟩, by omega⟩, ?_⟩
    rintro _ _ ⟨ns1, v, rfl, rfl, h2, h3⟩
    obtain ⟨h, ea⟩ := atI_lt (xs := xs) h2 h3
    walk_at "Ddl"
    rw [ea]
    walk_at "Ddl"
    intro l s xs' e e2
    simp only [List.cons.injEq, and_true] at e
    obtain ⟨_, rfl⟩ := e
    cases e2
    exact ⟨ns1, List.getElem_mem h, rfl⟩
  | tpd ys =>
    cases hs
    walk_at "Ddl"
    refine ⟨⟨⟨_, rfl⟩, by omega⟩, ?_⟩
    rintro _ _ ⟨ns1, v, rfl, rfl, h2, h3⟩
    obtain ⟨h, ea⟩ := atI_lt (xs := xs) h2 h3
    walk_at "Ddl"
    rw [ea]
    walk_at "Ddl"
    intro l s xs' e e2
    simp only [List.cons.injEq, and_true] at e
    obtain ⟨_, rfl⟩ := e
    cases e2
    exact ⟨ns1, List.getElem_mem h, rfl⟩
  | rol ys =>
    cases hs
    walk_at "Ddl"
    refine ⟨⟨⟨_, rfl⟩, by omega⟩, ?_⟩
    rintro _ _ ⟨ns1, v, rfl, rfl, h2, h3⟩
    obtain ⟨h, ea⟩ := atI_lt (xs := xs) h2 h3
    walk_at "Ddl"
    rw [ea]
    walk_at "Ddl"
    intro l s xs' e e2
    simp only [List.cons.injEq, and_true] at e
    obtain ⟨_, rfl⟩ := e
    cases e2
    exact ⟨ns1, List.getElem_mem h, rfl⟩
  | _ => cases hs
end DL

set_option maxHeartbeats 4000000
namespace DL
open PySem PySem.Spec PyProof.Rows L2
/-! ### words -/
def okC (c : Nat) : Bool := decide (97 ≤ c) && decide (c ≤ 122)
/-- a word, at most 100 signs long (the words that are drawn are) -/
def isW (z : Str) : Bool := (!(z.cps.toList.isEmpty) && z.cps.toList.all okC) && decide (z.cps.toList.length ≤ 100)
def alpha : Str := PySem.Str.ofString "abcdefghijklmnopqrstuvwxyz"
theorem alpha_list : alpha.cps.toList = (List.range 26).map (97 + ·) := by decide
theorem mem_alpha (c : Nat) : decide (c ∈ alpha.cps.toList) = okC c := by
  rw [alpha_list]
  unfold okC
  rw [Bool.eq_iff_iff]
  simp only [decide_eq_true_eq, Bool.and_eq_true, List.mem_map, List.mem_range]
  constructor
  · rintro ⟨i, h, rfl⟩
    omega
  · rintro ⟨h1, h2⟩
    exact ⟨c - 97, by omega, by omega⟩
theorem len_list (z : Str) : z.length = z.cps.toList.length := by simp [Str.length]
def sumL (ws : List Str) : Nat := (ws.map (·.length)).sum
theorem text_at {z : Str} {v : Int} (h0 : 0 ≤ v) (h : v < z.length) : ∃ c, L2.atI z.cps.toList v = some c ∧ c ∈ z.cps.toList := by
  obtain ⟨h1, e⟩ := atI_lt (xs := z.cps.toList) (j := v) h0 (by rw [← len_list]; exact h)
  exact ⟨_, e, List.getElem_mem h1⟩
theorem sumL_ones : ∀ cs : List Nat, sumL (cs.map fun c => (⟨#[c]⟩ : Str)) = cs.length
  | [] => rfl
  | c :: r => by
    have := sumL_ones r
    simp only [sumL, List.map_cons, List.sum_cons, List.length_cons] at this ⊢
    rw [this]
    show 1 + _ = _
    omega
theorem join_ones : ∀ cs : List Nat, (Txt.join (PySem.Str.ofString "") (cs.map fun c => (⟨#[c]⟩ : Str))).cps.toList = cs := by
  intro cs
  have e : Txt.join (PySem.Str.ofString "") (cs.map fun c => (⟨#[c]⟩ : Str)) = Str.join (PySem.Str.ofString "") (cs.map fun c => (⟨#[c]⟩ : Str)) := PySem.StrLaws.glued_eq_join _ _
  rw [e]
  have h0 : (PySem.Str.ofString "").cps.toList = [] := by decide
  induction cs with
  | nil => rfl
  | cons c r ih =>
    cases r with
    | nil => rfl
    | cons d r =>
      have := ih (PySem.StrLaws.glued_eq_join _ _)
      show ((⟨#[c]⟩ : Str) ++ PySem.Str.ofString "" ++ Str.join (PySem.Str.ofString "") ((d :: r).map fun c => (⟨#[c]⟩ : Str))).cps.toList = _
      rw [Str.cps_append, Str.cps_append, Array.toList_append, Array.toList_append, h0, this]
      rfl
theorem alpha_ok {v : Int} (h0 : 0 ≤ v) (h : v < 26) : ∃ c, L2.atI alpha.cps.toList v = some c ∧ okC c = true := by
  have hl : alpha.length = 26 := by decide
  obtain ⟨c, e, hc⟩ := text_at (z := alpha) h0 (by rw [hl]; exact h)
  refine ⟨c, e, ?_⟩
  rw [← mem_alpha c]
  exact decide_eq_true hc
theorem ifb_nq {p : Prop} {_ : Decidable p} {A B : Prop} (h : ¬ p) (hb : B) : ifb (.bl (decide p)) A B := by
  rw [decide_eq_false h]; exact ifb_f hb
theorem flatA_str : ∀ ws : List Str, flatA (ws.map D.str) = true
  | [] => rfl
  | _ :: r => flatA_str r
theorem any_str (z : Str) : ∀ ws : List Str, ((ws.map D.str).any fun y => eqF y (D.str z)) = decide (z ∈ ws)
  | [] => rfl
  | w :: r => by
    rw [List.map_cons, List.any_cons, any_str z r]
    show (w == z || decide (z ∈ r)) = _
    by_cases h : w = z
    · subst h; simp
    · rw [beq_false_of_ne h, Bool.false_or]
      have : ¬ z = w := fun q => h q.symm
      simp [this]
/-! ### the order of texts -/
def slt (a b : Str) : Prop := a.cps.toList < b.cps.toList
theorem Str.ext' {a b : Str} (h : a.cps.toList = b.cps.toList) : a = b := by
  obtain ⟨⟨x⟩⟩ := a
  obtain ⟨⟨y⟩⟩ := b
  have : x = y := h
  rw [this]
instance (a b : Str) : Decidable (slt a b) := inferInstanceAs (Decidable (a.cps.toList < b.cps.toList))
theorem slt_trans {a b c : Str} (h : slt a b) (g : slt b c) : slt a c := List.lt_trans h g
theorem slt_irr (a : Str) : ¬ slt a a := List.lt_irrefl _
theorem slt_tri {a b : Str} (h : ¬ slt a b) (g : ¬ slt b a) : a = b := Str.ext' (List.le_antisymm (List.not_lt.mp g) (List.not_lt.mp h))
theorem slt_asymm {a b : Str} (h : slt a b) : ¬ slt b a := fun g => slt_irr a (slt_trans h g)
theorem sle_trans {a b c : Str} (h : ¬ slt b a) (g : ¬ slt c b) : ¬ slt c a := fun q => by
  by_cases e : slt a b
  · exact g (slt_trans q e)
  · rw [slt_tri e h] at q; exact g q
def SC (cs : List Str) : Prop := cs.Pairwise slt
theorem SC.nd {cs : List Str} (h : SC cs) : cs.Nodup := h.imp fun {a b} q e => by subst e; exact slt_irr _ q
theorem SC.sub {cs ds : List Str} (h : SC cs) (s : ds.Sublist cs) : SC ds := List.Pairwise.sublist s h
theorem SC.uniq : ∀ {a b : List Str}, SC a → SC b → (∀ x, x ∈ a ↔ x ∈ b) → a = b
  | [], [], _, _, _ => rfl
  | [], y :: r, _, _, h => by have := (h y).mpr (by simp); simp at this
  | x :: r, [], _, _, h => by have := (h x).mp (by simp); simp at this
  | x :: r, y :: s, ha, hb, h => by
    have ha' := List.pairwise_cons.mp ha
    have hb' := List.pairwise_cons.mp hb
    have e : x = y := by
      have h1 := (h x).mp (by simp)
      have h2 := (h y).mpr (by simp)
      rcases List.mem_cons.mp h1 with e | h1
      · exact e
      rcases List.mem_cons.mp h2 with e | h2
      · exact e.symm
      exact absurd (ha'.1 _ h2) (slt_asymm (hb'.1 _ h1))
    subst e
    rw [SC.uniq ha'.2 hb'.2 fun z => ?_]
    have hz := h z
    simp only [List.mem_cons] at hz
    constructor
    · intro q
      rcases hz.mp (.inr q) with e | g
      · subst e; exact absurd (ha'.1 _ q) (slt_irr _)
      · exact g
    · intro q
      rcases hz.mpr (.inr q) with e | g
      · subst e; exact absurd (hb'.1 _ q) (slt_irr _)
      · exact g
theorem risingS_pw : ∀ {r : List Str} {p : Str}, PyProof.Rows.risingS p r = true → (p :: r).Pairwise fun a b => ¬ slt b a
  | [], p, _ => by simp
  | x :: r, p, h => by
    simp only [PyProof.Rows.risingS, Bool.and_eq_true, Bool.not_eq_true'] at h
    obtain ⟨h1, h2⟩ := h
    have ih := risingS_pw h2
    have h1 : ¬ slt x p := by rw [ltCps_eq, decide_eq_false_iff_not] at h1; exact h1
    refine List.pairwise_cons.mpr ⟨fun y hy => ?_, ih⟩
    rcases List.mem_cons.mp hy with rfl | hy
    · exact h1
    · exact sle_trans h1 ((List.pairwise_cons.mp ih).1 y hy)
theorem sortedS_pw {l : List Str} (h : sortedS l = true) : l.Pairwise fun a b => ¬ slt b a := by
  cases l with
  | nil => exact .nil
  | cons x r => exact risingS_pw h
theorem SC.of_sorted {l : List Str} (h : sortedS l = true) (n : l.Nodup) : SC l := by
  have h1 := sortedS_pw h
  have h2 := h1.and n
  exact h2.imp fun {a b} q => by
    by_cases e : slt a b
    · exact e
    · exact absurd (slt_tri e q.1) q.2
/-- the words in order, each once -/
def insS (x : Str) : List Str → List Str
  | [] => [x]
  | y :: r => if slt x y then x :: y :: r else if slt y x then y :: insS x r else y :: r
def ordS : List Str → List Str
  | [] => []
  | x :: r => insS x (ordS r)
theorem mem_insS {x z : Str} : ∀ {l : List Str}, z ∈ insS x l ↔ z = x ∨ z ∈ l
  | [] => by simp [insS]
  | y :: r => by
    unfold insS
    by_cases h : slt x y
    · rw [if_pos h]; simp
    · rw [if_neg h]
      by_cases g : slt y x
      · rw [if_pos g, List.mem_cons, mem_insS (l := r), List.mem_cons]
        constructor
        · rintro (a | a | a)
          · exact .inr (.inl a)
          · exact .inl a
          · exact .inr (.inr a)
        · rintro (a | a | a)
          · exact .inr (.inl a)
          · exact .inl a
          · exact .inr (.inr a)
      · rw [if_neg g, slt_tri h g]
        simp
theorem mem_ordS {z : Str} : ∀ {l : List Str}, z ∈ ordS l ↔ z ∈ l
  | [] => by simp [ordS]
  | x :: r => by
    show z ∈ insS x (ordS r) ↔ _
    rw [mem_insS, mem_ordS (l := r), List.mem_cons]
theorem SC.ins {x : Str} : ∀ {l : List Str}, SC l → SC (insS x l)
  | [], _ => by simp [insS, SC]
  | y :: r, h => by
    have h' := List.pairwise_cons.mp h
    unfold insS
    by_cases g : slt x y
    · rw [if_pos g]
      refine List.pairwise_cons.mpr ⟨fun z hz => ?_, h⟩
      rcases List.mem_cons.mp hz with rfl | hz
      · exact g
      · exact slt_trans g (h'.1 z hz)
    · rw [if_neg g]
      by_cases k : slt y x
      · rw [if_pos k]
        refine List.pairwise_cons.mpr ⟨fun z hz => ?_, SC.ins h'.2⟩
        rcases mem_insS.mp hz with rfl | hz
        · exact k
        · exact h'.1 z hz
      · rw [if_neg k]; exact h
theorem SC.ord : ∀ l : List Str, SC (ordS l)
  | [] => .nil
  | _ :: r => (SC.ord r).ins
theorem ordS_eq {l cs : List Str} (h : SC cs) (m : ∀ x, x ∈ l ↔ x ∈ cs) : ordS l = cs := SC.uniq (SC.ord l) h fun x => mem_ordS.trans (m x)
theorem ordS_self {cs : List Str} (h : SC cs) : ordS cs = cs := ordS_eq h fun _ => Iff.rfl
end DL

set_option maxHeartbeats 400000
namespace DL
open PySem PySem.Spec PyProof.Rows L2
/-! ### questions -/
inductive Vv where | i (n : Int) | s (w : Str)
inductive Tm where | col (x : Str) | val (v : Vv)
inductive K2 where | both | either | unless | since | sincenot | until | untilnot
inductive K4 where | once | lately | soon | hence
inductive K3 where | sum | least | most
inductive KL where | linked | way
inductive Qn where
  | fact (n : Str) (ts : List Tm)
  | two (k : K2) (p q : Qn)
  | only (cs : List Str) (p : Qn)
  | whr (t : Str) (l r : Tm) (p : Qn)
  | shift (n : Int) (p : Qn)
  | look (k : K4) (w : Option Int) (p : Qn)
  | count (new : Str) (keep : List Str) (p : Qn)
  | total (k : K3) (new col : Str) (keep : List Str) (p : Qn)
  | link (k : KL) (x y : Str) (p : Qn)
def K2.s : K2 → Str
  | .both => PySem.Str.ofString "both" | .either => PySem.Str.ofString "either" | .unless => PySem.Str.ofString "unless" | .since => PySem.Str.ofString "since"
  | .sincenot => PySem.Str.ofString "sincenot" | .until => PySem.Str.ofString "until" | .untilnot => PySem.Str.ofString "untilnot"
def K4.s : K4 → Str
  | .once => PySem.Str.ofString "once" | .lately => PySem.Str.ofString "lately" | .soon => PySem.Str.ofString "soon" | .hence => PySem.Str.ofString "henceforth"
def K3.s : K3 → Str
  | .sum => PySem.Str.ofString "sum" | .least => PySem.Str.ofString "least" | .most => PySem.Str.ofString "most"
def KL.s : KL → Str
  | .linked => PySem.Str.ofString "linked" | .way => PySem.Str.ofString "way"
def encV : Vv → D
  | .i n => .int n
  | .s w => .str w
def encTm : Tm → D
  | .col x => .tup [.str (PySem.Str.ofString "col"), .str x]
  | .val v => .tup [.str (PySem.Str.ofString "value"), encV v]
def encC (cs : List Str) : D := .tup (cs.map D.str)
def encQ : Qn → D
  | .fact n ts => .tup [.str (PySem.Str.ofString "fact"), .str n, .tup (ts.map encTm)]
  | .two k p q => .tup [.str k.s, encQ p, encQ q]
  | .only cs p => .tup [.str (PySem.Str.ofString "only"), encC cs, encQ p]
  | .whr t l r p => .tup [.str (PySem.Str.ofString "where"), .str t, encTm l, encTm r, encQ p]
  | .shift n p => .tup [.str (PySem.Str.ofString "shift"), .int n, encQ p]
  | .look k w p => .tup [.str k.s, encO w, encQ p]
  | .count new keep p => .tup [.str (PySem.Str.ofString "count"), .str new, encC keep, encQ p]
  | .total k new col keep p => .tup [.str k.s, .str new, .str col, encC keep, encQ p]
  | .link k x y p => .tup [.str k.s, .str x, .str y, encQ p]
def kd : Qn → Str
  | .fact .. => PySem.Str.ofString "fact"
  | .two k .. => k.s
  | .only .. => PySem.Str.ofString "only"
  | .whr .. => PySem.Str.ofString "where"
  | .shift .. => PySem.Str.ofString "shift"
  | .look k .. => k.s
  | .count .. => PySem.Str.ofString "count"
  | .total k .. => k.s
  | .link k .. => k.s
def ix : Qn → Nat
  | .fact .. => 0 | .two .. => 1 | .only .. => 2 | .whr .. => 3 | .shift .. => 4 | .look .. => 5 | .count .. => 6 | .total .. => 7 | .link .. => 8
def clS (z : Str) : Nat :=
  if z = PySem.Str.ofString "fact" then 0 else if z ∈ [PySem.Str.ofString "both", PySem.Str.ofString "either", PySem.Str.ofString "unless", PySem.Str.ofString "since", PySem.Str.ofString "sincenot", PySem.Str.ofString "until", PySem.Str.ofString "untilnot"] then 1
  else if z = PySem.Str.ofString "only" then 2 else if z = PySem.Str.ofString "where" then 3 else if z = PySem.Str.ofString "shift" then 4
  else if z ∈ [PySem.Str.ofString "once", PySem.Str.ofString "lately", PySem.Str.ofString "soon", PySem.Str.ofString "henceforth"] then 5
  else if z = PySem.Str.ofString "count" then 6 else if z ∈ [PySem.Str.ofString "sum", PySem.Str.ofString "least", PySem.Str.ofString "most"] then 7 else 8
theorem cl2 (k : K2) : clS k.s = 1 := by cases k <;> decide
theorem cl4 (k : K4) : clS k.s = 5 := by cases k <;> decide
theorem cl3 (k : K3) : clS k.s = 7 := by cases k <;> decide
theorem clL (k : KL) : clS k.s = 8 := by cases k <;> decide
theorem cl_kd (q : Qn) : clS (kd q) = ix q := by
  cases q with
  | two k p q => exact cl2 k
  | look k w p => exact cl4 k
  | total k => exact cl3 k
  | link k => exact clL k
  | fact => exact (by decide : clS (PySem.Str.ofString "fact") = 0)
  | only => exact (by decide : clS (PySem.Str.ofString "only") = 2)
  | whr => exact (by decide : clS (PySem.Str.ofString "where") = 3)
  | shift => exact (by decide : clS (PySem.Str.ofString "shift") = 4)
  | count => exact (by decide : clS (PySem.Str.ofString "count") = 6)
theorem K2.inj {a b : K2} (h : a.s = b.s) : a = b := by cases a <;> cases b <;> first | rfl | exact absurd h (by decide)
theorem K4.inj {a b : K4} (h : a.s = b.s) : a = b := by cases a <;> cases b <;> first | rfl | exact absurd h (by decide)
theorem K3.inj {a b : K3} (h : a.s = b.s) : a = b := by cases a <;> cases b <;> first | rfl | exact absurd h (by decide)
theorem KL.inj {a b : KL} (h : a.s = b.s) : a = b := by cases a <;> cases b <;> first | rfl | exact absurd h (by decide)
theorem encV_inj {a b : Vv} (h : encV a = encV b) : a = b := by
  cases a <;> cases b <;> simp only [encV, D.int.injEq, D.str.injEq, reduceCtorEq] at h
  · rw [h]
  · rw [h]
theorem encTm_inj {a b : Tm} (h : encTm a = encTm b) : a = b := by
  cases a <;> cases b <;> simp only [encTm, D.tup.injEq, List.cons.injEq, D.str.injEq, and_true] at h
  · rw [h.2]
  · exact absurd h.1 (by decide)
  · exact absurd h.1 (by decide)
  · rw [encV_inj h.2]
theorem mapTm_inj {a b : List Tm} (h : a.map encTm = b.map encTm) : a = b := (List.map_inj_right fun _ _ h => encTm_inj h).mp h
theorem mapS_inj {a b : List Str} (h : a.map D.str = b.map D.str) : a = b := (List.map_inj_right fun _ _ h => by simpa using h).mp h
theorem encC_inj {a b : List Str} (h : encC a = encC b) : a = b := by
  simp only [encC, D.tup.injEq] at h
  exact mapS_inj h
theorem encQ_kd (q : Qn) : ∃ r, encQ q = .tup (.str (kd q) :: r) := by cases q <;> exact ⟨_, rfl⟩
theorem encQ_ix {a b : Qn} (h : encQ a = encQ b) : ix a = ix b := by
  obtain ⟨r, e⟩ := encQ_kd a
  obtain ⟨s, f⟩ := encQ_kd b
  rw [e, f] at h
  simp only [D.tup.injEq, List.cons.injEq, D.str.injEq] at h
  rw [← cl_kd, ← cl_kd, h.1]
theorem encQ_inj : ∀ {a b : Qn}, encQ a = encQ b → a = b
  | .fact n ts, b, h => by
    have hi := encQ_ix h
    cases b <;> simp only [ix] at hi <;> first | (exact absurd hi (by decide)) | skip
    simp only [encQ, D.tup.injEq, List.cons.injEq, D.str.injEq, and_true, true_and] at h
    rw [h.1, mapTm_inj h.2]
  | .two k p q, b, h => by
    have hi := encQ_ix h
    cases b <;> simp only [ix] at hi <;> first | (exact absurd hi (by decide)) | skip
    simp only [encQ, D.tup.injEq, List.cons.injEq, D.str.injEq, and_true] at h
    rw [K2.inj h.1, encQ_inj h.2.1, encQ_inj h.2.2]
  | .only cs p, b, h => by
    have hi := encQ_ix h
    cases b <;> simp only [ix] at hi <;> first | (exact absurd hi (by decide)) | skip
    simp only [encQ, D.tup.injEq, List.cons.injEq, D.str.injEq, and_true, true_and] at h
    rw [encC_inj h.1, encQ_inj h.2]
  | .whr t l r p, b, h => by
    have hi := encQ_ix h
    cases b <;> simp only [ix] at hi <;> first | (exact absurd hi (by decide)) | skip
    simp only [encQ, D.tup.injEq, List.cons.injEq, D.str.injEq, and_true, true_and] at h
    rw [h.1, encTm_inj h.2.1, encTm_inj h.2.2.1, encQ_inj h.2.2.2]
  | .shift n p, b, h => by
    have hi := encQ_ix h
    cases b <;> simp only [ix] at hi <;> first | (exact absurd hi (by decide)) | skip
    simp only [encQ, D.tup.injEq, List.cons.injEq, D.str.injEq, D.int.injEq, and_true, true_and] at h
    rw [h.1, encQ_inj h.2]
  | .look k w p, b, h => by
    have hi := encQ_ix h
    cases b <;> simp only [ix] at hi <;> first | (exact absurd hi (by decide)) | skip
    simp only [encQ, D.tup.injEq, List.cons.injEq, D.str.injEq, and_true] at h
    rw [K4.inj h.1, encO_inj h.2.1, encQ_inj h.2.2]
  | .count n ks p, b, h => by
    have hi := encQ_ix h
    cases b <;> simp only [ix] at hi <;> first | (exact absurd hi (by decide)) | skip
    simp only [encQ, D.tup.injEq, List.cons.injEq, D.str.injEq, and_true, true_and] at h
    rw [h.1, encC_inj h.2.1, encQ_inj h.2.2]
  | .total k n c ks p, b, h => by
    have hi := encQ_ix h
    cases b <;> simp only [ix] at hi <;> first | (exact absurd hi (by decide)) | skip
    simp only [encQ, D.tup.injEq, List.cons.injEq, D.str.injEq, and_true] at h
    rw [K3.inj h.1, h.2.1, h.2.2.1, encC_inj h.2.2.2.1, encQ_inj h.2.2.2.2]
  | .link k x y p, b, h => by
    have hi := encQ_ix h
    cases b <;> simp only [ix] at hi <;> first | (exact absurd hi (by decide)) | skip
    simp only [encQ, D.tup.injEq, List.cons.injEq, D.str.injEq, and_true] at h
    rw [KL.inj h.1, h.2.1, h.2.2.1, encQ_inj h.2.2.2]
def partsQ : Qn → List Qn
  | .fact .. => []
  | .two _ p q => [p, q]
  | .only _ p => [p] | .whr _ _ _ p => [p] | .shift _ p => [p] | .look _ _ p => [p] | .count _ _ p => [p] | .total _ _ _ _ p => [p] | .link _ _ _ p => [p]
def dpQ : Qn → Nat
  | .fact .. => 1
  | .two _ p q => max (dpQ p) (dpQ q) + 1
  | .only _ p => dpQ p + 1 | .whr _ _ _ p => dpQ p + 1 | .shift _ p => dpQ p + 1 | .look _ _ p => dpQ p + 1 | .count _ _ p => dpQ p + 1 | .total _ _ _ _ p => dpQ p + 1 | .link _ _ _ p => dpQ p + 1
theorem dpQ_pos (q : Qn) : 1 ≤ dpQ q := by cases q <;> simp [dpQ]
theorem dpQ_part {q p : Qn} (h : p ∈ partsQ q) : dpQ p < dpQ q := by
  cases q <;> simp only [partsQ, List.mem_cons, List.not_mem_nil, or_false] at h <;> simp only [dpQ]
  · rcases h with rfl | rfl <;> omega
  all_goals (subst h; omega)
theorem encQ_nl (q : Qn) : isL (encQ q) = false := by cases q <;> rfl
/-! ### columns and what is valid -/
def colOf : Tm → Option Str
  | .col x => some x
  | _ => none
def folB : K2 → Bool
  | .since => true | .sincenot => true | .until => true | .untilnot => true
  | _ => false
def colsQ : Qn → List Str
  | .fact _ ts => ordS (ts.filterMap colOf)
  | .two k p q => match k with
    | .both => ordS (colsQ p ++ colsQ q)
    | .either => colsQ p
    | .unless => colsQ p
    | _ => colsQ q
  | .only cs _ => cs
  | .whr _ _ _ p => colsQ p
  | .shift _ p => colsQ p
  | .look _ _ p => colsQ p
  | .count new keep _ => ordS (new :: keep)
  | .total _ new _ keep _ => ordS (new :: keep)
  | .link _ _ _ p => colsQ p
def okV : Vv → Prop
  | .i _ => True
  | .s w => isW w = true
def okTm : Tm → Prop
  | .col x => isW x = true
  | .val v => okV v
def fitTm (cs : List Str) : Tm → Prop
  | .col x => x ∈ cs
  | .val v => okV v
def cmps : List Str := [PySem.Str.ofString "same", PySem.Str.ofString "other", PySem.Str.ofString "less"]
/-- the node itself -/
def okN : Qn → Prop
  | .fact n ts => isW n = true ∧ ts.length ≤ 8 ∧ ∀ t ∈ ts, okTm t
  | .two k p q => match k with
    | .both => True
    | .either => colsQ p = colsQ q
    | .unless => ∀ x ∈ colsQ q, x ∈ colsQ p
    | _ => ∀ x ∈ colsQ p, x ∈ colsQ q
  | .only cs p => SC cs ∧ ∀ x ∈ cs, x ∈ colsQ p
  | .whr t l r p => t ∈ cmps ∧ fitTm (colsQ p) l ∧ fitTm (colsQ p) r
  | .shift _ _ => True
  | .look _ w _ => ∀ k, w = some k → 0 ≤ k
  | .count new keep p => isW new = true ∧ new ∉ keep ∧ SC keep ∧ ∀ x ∈ keep, x ∈ colsQ p
  | .total _ new col keep p => isW new = true ∧ new ∉ keep ∧ (SC keep ∧ ∀ x ∈ keep, x ∈ colsQ p) ∧ col ∈ colsQ p
  | .link _ x y p => x ≠ y ∧ ordS [x, y] = colsQ p
def okQ : Qn → Prop
  | q@(.fact ..) => okN q ∧ (colsQ q).length ≤ 8
  | q@(.two _ p r) => (okN q ∧ (colsQ q).length ≤ 8) ∧ okQ p ∧ okQ r
  | q@(.only _ p) => (okN q ∧ (colsQ q).length ≤ 8) ∧ okQ p
  | q@(.whr _ _ _ p) => (okN q ∧ (colsQ q).length ≤ 8) ∧ okQ p
  | q@(.shift _ p) => (okN q ∧ (colsQ q).length ≤ 8) ∧ okQ p
  | q@(.look _ _ p) => (okN q ∧ (colsQ q).length ≤ 8) ∧ okQ p
  | q@(.count _ _ p) => (okN q ∧ (colsQ q).length ≤ 8) ∧ okQ p
  | q@(.total _ _ _ _ p) => (okN q ∧ (colsQ q).length ≤ 8) ∧ okQ p
  | q@(.link _ _ _ p) => (okN q ∧ (colsQ q).length ≤ 8) ∧ okQ p
/-! ### parts -/
abbrev tab_ITEMS : Tbl := [(PySem.Str.ofString "fact", [PySem.Str.ofString "word", PySem.Str.ofString "terms"]), (PySem.Str.ofString "both", [PySem.Str.ofString "question", PySem.Str.ofString "question"]), (PySem.Str.ofString "either", [PySem.Str.ofString "question", PySem.Str.ofString "question"]), (PySem.Str.ofString "unless", [PySem.Str.ofString "question", PySem.Str.ofString "question"]), (PySem.Str.ofString "only", [PySem.Str.ofString "columns", PySem.Str.ofString "question"]), (PySem.Str.ofString "where", [PySem.Str.ofString "word", PySem.Str.ofString "term", PySem.Str.ofString "term", PySem.Str.ofString "question"]), (PySem.Str.ofString "shift", [PySem.Str.ofString "integer", PySem.Str.ofString "question"]), (PySem.Str.ofString "once", [PySem.Str.ofString "within", PySem.Str.ofString "question"]), (PySem.Str.ofString "lately", [PySem.Str.ofString "within", PySem.Str.ofString "question"]), (PySem.Str.ofString "soon", [PySem.Str.ofString "within", PySem.Str.ofString "question"]), (PySem.Str.ofString "henceforth", [PySem.Str.ofString "within", PySem.Str.ofString "question"]), (PySem.Str.ofString "since", [PySem.Str.ofString "question", PySem.Str.ofString "question"]), (PySem.Str.ofString "until", [PySem.Str.ofString "question", PySem.Str.ofString "question"]), (PySem.Str.ofString "sincenot", [PySem.Str.ofString "question", PySem.Str.ofString "question"]), (PySem.Str.ofString "untilnot", [PySem.Str.ofString "question", PySem.Str.ofString "question"]), (PySem.Str.ofString "count", [PySem.Str.ofString "word", PySem.Str.ofString "columns", PySem.Str.ofString "question"]), (PySem.Str.ofString "sum", [PySem.Str.ofString "word", PySem.Str.ofString "word", PySem.Str.ofString "columns", PySem.Str.ofString "question"]), (PySem.Str.ofString "least", [PySem.Str.ofString "word", PySem.Str.ofString "word", PySem.Str.ofString "columns", PySem.Str.ofString "question"]), (PySem.Str.ofString "most", [PySem.Str.ofString "word", PySem.Str.ofString "word", PySem.Str.ofString "columns", PySem.Str.ofString "question"]), (PySem.Str.ofString "linked", [PySem.Str.ofString "word", PySem.Str.ofString "word", PySem.Str.ofString "question"]), (PySem.Str.ofString "way", [PySem.Str.ofString "word", PySem.Str.ofString "word", PySem.Str.ofString "question"])]
def formsQ : Qn → List Str
  | .fact .. => [PySem.Str.ofString "word", PySem.Str.ofString "terms"]
  | .two .. => [PySem.Str.ofString "question", PySem.Str.ofString "question"]
  | .only .. => [PySem.Str.ofString "columns", PySem.Str.ofString "question"]
  | .whr .. => [PySem.Str.ofString "word", PySem.Str.ofString "term", PySem.Str.ofString "term", PySem.Str.ofString "question"]
  | .shift .. => [PySem.Str.ofString "integer", PySem.Str.ofString "question"]
  | .look .. => [PySem.Str.ofString "within", PySem.Str.ofString "question"]
  | .count .. => [PySem.Str.ofString "word", PySem.Str.ofString "columns", PySem.Str.ofString "question"]
  | .total .. => [PySem.Str.ofString "word", PySem.Str.ofString "word", PySem.Str.ofString "columns", PySem.Str.ofString "question"]
  | .link .. => [PySem.Str.ofString "word", PySem.Str.ofString "word", PySem.Str.ofString "question"]
theorem items_of (q : Qn) : (kd q, formsQ q) ∈ tab_ITEMS := by
  cases q with
  | two k p q => cases k <;> simp only [tab_ITEMS, kd, K2.s, formsQ, List.mem_cons, true_or, or_true]
  | look k w p => cases k <;> simp only [tab_ITEMS, kd, K4.s, formsQ, List.mem_cons, true_or, or_true]
  | total k => cases k <;> simp only [tab_ITEMS, kd, K3.s, formsQ, List.mem_cons, true_or, or_true]
  | link k => cases k <;> simp only [tab_ITEMS, kd, KL.s, formsQ, List.mem_cons, true_or, or_true]
  | _ => simp only [tab_ITEMS, kd, formsQ, List.mem_cons, true_or, or_true]
def sp_parts_of : FSpec where
  pre := fun ds => ∃ q : Qn, ds = [encQ q]
  post := fun ds r ds' => ds' = ds ∧ ∀ q : Qn, ds = [encQ q] → r = .tup ((partsQ q).map encQ)
/-- slots: 0 question, 1 forms, 2 form, 3 item -/
def w_parts_of : WS :=
    (cSeq (cAsg 1 [0] 1 (cItm tab_ITEMS (cOp fIx (cVar 0) (cC (.int 0)))))
    (cRet 1 (cBi fTuple (cCons (cLc [2, 3] (iZG (cVar 1) (cSlL (cVar 0) (cC (.int 1)))) (gT 2 (gCons' (gN 1 [] 2) (gCons' (gN 1 [] 3) gNil'))) (cOp fEqS (cVar 2) (cC (.str (PySem.Str.ofString "question")))) (cVar 3)) cNil))))
theorem po_post {q : Qn} {d : D} (h : d = .tup ((partsQ q).map encQ)) : ∀ q' : Qn, [encQ q] = [encQ q'] → d = .tup ((partsQ q').map encQ) := by
  intro q' e
  simp only [List.cons.injEq, and_true] at e
  rw [h, encQ_inj e]
theorem encQ_tup (q : Qn) : ∃ r, encQ q = .tup r := by obtain ⟨r, e⟩ := encQ_kd q; exact ⟨_, e⟩
def itemsQ : Qn → List D
  | .fact n ts => [.str n, .tup (ts.map encTm)]
  | .two _ p q => [encQ p, encQ q]
  | .only cs p => [encC cs, encQ p]
  | .whr t l r p => [.str t, encTm l, encTm r, encQ p]
  | .shift n p => [.int n, encQ p]
  | .look _ w p => [encO w, encQ p]
  | .count new keep p => [.str new, encC keep, encQ p]
  | .total _ new col keep p => [.str new, .str col, encC keep, encQ p]
  | .link _ x y p => [.str x, .str y, encQ p]
theorem encQ_items (q : Qn) : encQ q = .tup (.str (kd q) :: itemsQ q) := by cases q <;> rfl
theorem encO_nl (w : Option Int) : isL (encO w) = false := by cases w <;> rfl
theorem encTm_nl (t : Tm) : isL (encTm t) = false := by cases t <;> rfl
theorem items_nl (q : Qn) : ∀ d ∈ itemsQ q, isL d = false := by
  cases q <;> simp only [itemsQ, List.mem_cons, List.not_mem_nil, or_false, forall_eq_or_imp, forall_eq] <;> (repeat' apply And.intro) <;> first | exact encQ_nl _ | exact encO_nl _ | exact encTm_nl _ | rfl
theorem cut_tail (x : D) (r : List D) : cutD (x :: r) (some 1) none = r := by
  unfold cutD HT.sIx
  simp
theorem zip_form : ∀ {fs : List Str} {is : List D} {d : D}, (∀ x ∈ is, isL x = false) → d ∈ zipD (fs.map D.str) is → ∃ f it, d = .tup [.str f, it] ∧ isL it = false
  | [], is, d, _, h => by simp [zipD] at h
  | f :: fs, [], d, _, h => by simp [zipD] at h
  | f :: fs, x :: is, d, hi, h => by
    have e : zipD ((f :: fs).map D.str) (x :: is) = .tup [.str f, x] :: zipD (fs.map D.str) is := rfl
    rw [e] at h
    rcases List.mem_cons.mp h with rfl | h
    · exact ⟨f, x, rfl, hi x (by simp)⟩
    · exact zip_form (fun y hy => hi y (by simp [hy])) h
def isQ : D → Bool
  | .tup [.str f, _] => decide (f = PySem.Str.ofString "question")
  | _ => false
def itQ : D → D
  | .tup [_, it] => it
  | d => d
theorem parts_zip (q : Qn) : ((zipD ((formsQ q).map D.str) (itemsQ q)).filter isQ).map itQ = (partsQ q).map encQ := by
  cases q <;> rfl
theorem zip_len {q : Qn} : (zipD ((formsQ q).map D.str) (itemsQ q)).length ≤ 1000000 := by
  cases q <;> (exact Nat.le_of_ble_eq_true rfl)
local macro_rules | `(tactic| walk_at "Ddlq") => `(tactic| ((conv => whnf); (repeat ((first | refine And.intro rfl ?_ | refine And.intro trivial ?_ | refine And.intro ⟨rfl, trivial⟩ ?_ | refine And.intro ⟨rfl, rfl, trivial⟩ ?_ | refine ifb_nq (by decide) ?_ | refine ifb_er ?_ | refine ifb_t ?_ | refine ifb_f ?_ | refine ifb_nr ?_ | refine ifb_er ?_ | refine And.intro (by first | decide | omega | (unfold CMul; omega) | (unfold CDiv; omega) | (unfold CPow; decide) | (exact cpow1 (by omega) (by omega)) | (exact cpow1 (by dsimp only; omega) (by dsimp only; omega)) | (simp only [rngD_len, List.length_replicate, List.length_map, List.length_append, List.length_cons, List.length_nil, List.length_set] at *; omega)) ?_); conv => whnf))))
theorem pure_parts_of : ∀ ds, ds.length = 1 → sp_parts_of.pre ds → w_parts_of (env0 ds 3) { nx := fun e => sp_parts_of.post ds .non (outs e 1), rt := fun d e => sp_parts_of.post ds d (outs e 1) } := by
  rintro ds _ ⟨q, rfl⟩
  have post := fun {d : D} h => po_post (q := q) (d := d) h
  have it := items_of q
  have nl := items_nl q
  have pz := parts_zip q
  have zl := zip_len (q := q)
  rw [encQ_items] at post ⊢
  generalize formsQ q = fs at *
  generalize itemsQ q = is at *
  have e0 : atI (D.str (kd q) :: is) 0 = some (.str (kd q)) := atI_nat (j := 0) rfl
  walk_at "Ddlq"
  rw [e0]
  walk_at "Ddlq"
  refine ⟨fs, it, ?_⟩
  walk_at "Ddlq"
  rw [cut_tail]
  refine ⟨zl, ?_⟩
  refine lcGo_filter isQ itQ _ _ ?_ ?_
  · intro d nxt acc hd hnx
    obtain ⟨f, x, rfl, hx⟩ := zip_form nl hd
    have hv : isQ (.tup [.str f, x]) = decide (f = PySem.Str.ofString "question") := rfl
    rw [hv] at hnx
    cases x with
    | lst _ => simp [isL] at hx
    | _ =>
      walk_at "Ddlq"
      refine ifb_dec (fun g => ?_) (fun g => ?_)
      · rw [decide_eq_true g, if_pos rfl] at hnx
        walk_at "Ddlq"
        exact hnx
      · rw [decide_eq_false g, if_neg (by decide), List.append_nil] at hnx
        walk_at "Ddlq"
        exact hnx
  · walk_at "Ddlq"
    rw [pz]
    exact post rfl
/-! ### the law's own parts -/
end DL

namespace DL
open PySem PySem.Spec PyProof.Rows L2
/-! ### a stop ahead of a statement -/
@[irreducible] def Stop (p : Prop) : Prop := p
theorem Stop.mk {p : Prop} (h : p) : Stop p := by unfold Stop; exact h
theorem Stop.eq (p : Prop) : Stop p = p := by unfold Stop; rfl
def cCut (w u : WS) : WS := fun env K => w env { K with nx := fun e => Stop (u e K) }
theorem cCut_eq (w u : WS) : cCut w u = cSeq w u := by
  funext env K
  unfold cCut cSeq
  simp only [Stop.eq]
theorem cutW' {u v : WS} {env : DEnv} {K : Kt} (J : DEnv → Prop) (h1 : ∀ nxt : DEnv → Prop, (∀ e, J e → nxt e) → u env { K with nx := nxt }) (h2 : ∀ e, J e → v e K) : Stop (cCut u v env K) := Stop.mk (h1 _ fun e h => Stop.mk (h2 e h))
theorem stopE {w : WS} {env e : DEnv} {K : Kt} (h : env = e) (g : w e K) : Stop (w env K) := Stop.mk (h ▸ g)
end DL

set_option maxHeartbeats 400000
namespace DL
open PySem PySem.Spec PyProof.Rows L2
/-! ### drawn words, terms and facts -/
theorem cutM_hi {α : Type} (f : α → D) (xs : List α) {hi : Int} (h : 0 ≤ hi) : cutD (xs.map f) none (some hi) = (xs.take hi.toNat).map f := by
  unfold cutD HT.sIx
  dsimp only
  rw [if_neg (by omega), List.map_take]
  simp only [List.length_map, Nat.sub_zero, List.drop_zero]
  rw [← List.map_take, ← List.map_take]
  congr 1
  by_cases hl : hi.toNat ≤ xs.length
  · rw [Nat.min_eq_left hl]
  · rw [Nat.min_eq_right (by omega), List.take_of_length_le (by omega), List.take_of_length_le (by omega)]
structure WsOk (ws : List Str) : Prop where
  pos : 0 < ws.length
  few : ws.length ≤ 40
  isw : ∀ w ∈ ws, isW w = true
  nd : ws.Nodup
structure CsOk (cs : List Str) : Prop where
  sc : SC cs
  few : cs.length ≤ 8
  isw : ∀ w ∈ cs, isW w = true
theorem CsOk.sub {cs es : List Str} (h : CsOk cs) (s : es.Sublist cs) : CsOk es := ⟨h.sc.sub s, Nat.le_trans s.length_le h.few, fun w hw => h.isw w (s.subset hw)⟩
def sp_law_some_columns : FSpec where
  pre := fun ds => ∃ (ns : List Int) (cs : List Str), ds = [.lst (ns.map D.int), encC cs] ∧ cs.length ≤ 1000
  post := fun ds r ds' => ∀ (l : D) (cs : List Str), ds = [l, encC cs] → ∃ (ns : List Int) (es : List Str), r = encC es ∧ ds' = [.lst (ns.map D.int), encC cs] ∧ es.Sublist cs
/-- slots: 0 draws, 1 columns, 2 x -/
def w_law_some_columns : WS :=
    (cRet 2 (cBi fTuple (cCons (cLc [2] (iE (cVar 1)) (gN 2 [] 2) (cOp fGt (cCallN 2 sp_law_take (cCons (cVar 0) (cCons (cC (.int 3)) cNil))) (cC (.int 0))) (cVar 2)) cNil)))
local macro_rules | `(tactic| walk_at "Ddl") => `(tactic| ((conv => whnf); (repeat ((first | refine And.intro rfl ?_ | refine And.intro trivial ?_ | refine And.intro ⟨rfl, trivial⟩ ?_ | refine And.intro ⟨rfl, rfl, trivial⟩ ?_ | refine ifb_t ?_ | refine ifb_f ?_ | refine ifb_nr ?_ | refine ifb_er ?_ | refine And.intro (by first | decide | omega | (unfold CMul; omega) | (unfold CDiv; omega) | (unfold CPow; decide) | (exact cpow1 (by omega) (by omega)) | (exact cpow1 (by dsimp only; omega) (by dsimp only; omega)) | (simp only [rngD_len, List.length_replicate, List.length_map, List.length_append, List.length_cons, List.length_nil, List.length_set] at *; omega)) ?_); conv => whnf))))
theorem pure_law_some_columns : ∀ ds, ds.length = 2 → sp_law_some_columns.pre ds → w_law_some_columns (env0 ds 1) { nx := fun e => sp_law_some_columns.post ds .non (outs e 2), rt := fun d e => sp_law_some_columns.post ds d (outs e 2) } := by
  rintro ds _ ⟨ns, cs, rfl, hl⟩
  walk_at "Ddl"
  refine loop_lc (fun xs acc e => ∃ (ks : List Int) (p q es : List Str), (cs = p ++ q ∧ xs = q.map D.str ∧ acc = es.map D.str ∧ es.Sublist p) ∧ e = [some (.lst (ks.map D.int)), some (encC cs), none]) ⟨ns, [], cs, [], ⟨rfl, rfl, rfl, .slnil⟩, rfl⟩ ?_ ?_
  · rintro x r acc env nxt ⟨ks, p, q, es, ⟨h1, h2, rfl, h4⟩, rfl⟩ hx
    cases q with
    | nil => simp at h2
    | cons c q =>
      simp only [List.map_cons, List.cons.injEq] at h2
      obtain ⟨rfl, rfl⟩ := h2
      walk_at "Ddl"
      refine ⟨⟨⟨_, rfl⟩, by decide⟩, ?_⟩
      rintro _ _ ⟨n1, v, rfl, rfl, v0, v1⟩
      walk_at "Ddl"
      refine ifb_dec (fun g => ?_) (fun g => ?_)
      · walk_at "Ddl"
        exact hx _ _ ⟨n1, p ++ [c], q, es ++ [c], ⟨by rw [h1]; simp, rfl, by rw [List.map_append]; rfl, h4.append (.refl _)⟩, rfl⟩
      · walk_at "Ddl"
        exact hx _ _ ⟨n1, p ++ [c], q, es, ⟨by rw [h1]; simp, rfl, rfl, h4.trans (List.sublist_append_left _ _)⟩, rfl⟩
  · rintro acc env ⟨ks, p, q, es, ⟨h1, h2, rfl, h4⟩, rfl⟩
    have hq : q = [] := by
      cases q with
      | nil => rfl
      | cons _ _ => simp at h2
    subst hq
    rw [List.append_nil] at h1
    subst h1
    walk_at "Ddl"
    intro l cs' e
    simp only [List.cons.injEq, and_true] at e
    obtain ⟨_, e⟩ := e
    cases encC_inj e
    exact ⟨ks, es, rfl, rfl, h4⟩
def zw (c : Nat) : Str := PySem.Str.ofString "zzzz" ++ ⟨#[c]⟩
theorem zw_list (c : Nat) : (zw c).cps.toList = [122, 122, 122, 122, c] := by
  have e : (PySem.Str.ofString "zzzz").cps.toList = [122, 122, 122, 122] := by decide
  unfold zw
  rw [Str.cps_append, Array.toList_append, e]
  rfl
theorem zw_ok {c : Nat} (h : okC c = true) : isW (zw c) = true := by
  unfold isW
  rw [zw_list]
  rw [decide_eq_true (show [122, 122, 122, 122, c].length ≤ 100 by simp)]
  simp only [List.isEmpty_cons, List.all_cons, List.all_nil, h]
  decide
theorem zw_inj {a b : Nat} (h : zw a = zw b) : a = b := by
  have := congrArg (fun z : Str => z.cps.toList) h
  simp only [zw_list, List.cons.injEq, and_true, true_and] at this
  exact this
/-- the j-th letter -/
theorem alpha_nth {j : Int} (h0 : 0 ≤ j) (h : j < 26) : L2.atI alpha.cps.toList j = some (97 + j.toNat) := by
  have hl : alpha.cps.toList.length = 26 := by decide
  obtain ⟨h1, e⟩ := atI_lt (xs := alpha.cps.toList) (j := j) h0 (by rw [hl]; exact h)
  refine e.trans ?_
  congr 1
  have : alpha.cps.toList[j.toNat]? = some (97 + j.toNat) := by
    rw [alpha_list, List.getElem?_map, List.getElem?_range (by omega)]
    rfl
  rw [List.getElem?_eq_getElem h1] at this
  exact Option.some.inj this
def Drawn (j : Int) (w : Str) : Prop := isW w = true ∧ (w.cps.toList.length ≤ 3 ∨ 10 ≤ w.cps.toList.length ∧ w.cps.toList.length ≤ 30 ∨ ∃ i : Int, 0 ≤ i ∧ i < j ∧ w = zw (97 + i.toNat))
def sp_law_words : FSpec where
  pre := fun ds => ∃ (ns : List Int) (m : Int), ds = [.lst (ns.map D.int), .int m] ∧ 0 ≤ m ∧ m ≤ 26
  post := fun ds r ds' => ∀ xs m, ds = [.lst xs, .int m] → ∃ (ns : List Int) (ws : List Str), r = .lst (ws.map D.str) ∧ ds' = [.lst (ns.map D.int), .int m] ∧ (ws.length : Int) = m ∧ (∀ w ∈ ws, isW w = true ∧ w.length ≤ 30) ∧ ws.Nodup
/-- slots: 0 draws, 1 many, 2 words, 3 k, 4 size, 5 word, 6 j -/
def w_law_words : WS :=
    (cSeq (cAsg 2 [0, 1] 2 (cLst cNil))
    (cSeq (cFor [0, 1] (iR1 (cVar 1)) (gN 2 [0, 1] 3)
      (cSeq (cAsg 2 [0, 1] 4 (cOp fAddG (cC (.int 1)) (cCallN 2 sp_law_take (cCons (cVar 0) (cCons (cC (.int 3)) cNil)))))
        (cSeq (cIte (cOp fEqS (cCallN 2 sp_law_take (cCons (cVar 0) (cCons (cC (.int 12)) cNil))) (cC (.int 0)))
          (cAsg 2 [0, 1] 4 (cOp fAddG (cOp fAddG (cVar 4) (cC (.int 9))) (cCallN 2 sp_law_take (cCons (cVar 0) (cCons (cC (.int 12)) cNil)))))
          cNilS)
        (cSeq (cAsg 2 [0, 1] 5 (cUn (fJoin (PySem.Str.ofString "")) (cLc [6] (iR1 (cVar 4)) (gN 2 [] 6) tTrue (cOp fIxS (cC (.str (PySem.Str.ofString "abcdefghijklmnopqrstuvwxyz"))) (cCallN 2 sp_law_take (cCons (cVar 0) (cCons (cC (.int 26)) cNil)))))))
        (cSeq (cIte (cOp (fIn false) (cVar 5) (cVar 2))
          (cAsg 2 [0, 1] 5 (cOp fAddS (cC (.str (PySem.Str.ofString "zzzz"))) (cOp fIxS (cC (.str (PySem.Str.ofString "abcdefghijklmnopqrstuvwxyz"))) (cVar 3))))
          cNilS)
        (cEx (cMeth 2 fAppend (cCons (cVar 5) cNil))))))))
    (cRet 2 (cVar 2))))
def w'_law_words : WS :=
    (cSeq (cAsg 2 [0, 1] 2 (cLst cNil))
    (cSeq (cFor [0, 1] (iR1 (cVar 1)) (gN 2 [0, 1] 3)
      (cCut (cAsg 2 [0, 1] 4 (cOp fAddG (cC (.int 1)) (cCallN 2 sp_law_take (cCons (cVar 0) (cCons (cC (.int 3)) cNil)))))
        (cCut (cIte (cOp fEqS (cCallN 2 sp_law_take (cCons (cVar 0) (cCons (cC (.int 12)) cNil))) (cC (.int 0)))
          (cAsg 2 [0, 1] 4 (cOp fAddG (cOp fAddG (cVar 4) (cC (.int 9))) (cCallN 2 sp_law_take (cCons (cVar 0) (cCons (cC (.int 12)) cNil)))))
          cNilS)
        (cCut (cAsg 2 [0, 1] 5 (cUn (fJoin (PySem.Str.ofString "")) (cLc [6] (iR1 (cVar 4)) (gN 2 [] 6) tTrue (cOp fIxS (cC (.str (PySem.Str.ofString "abcdefghijklmnopqrstuvwxyz"))) (cCallN 2 sp_law_take (cCons (cVar 0) (cCons (cC (.int 26)) cNil)))))))
        (cSeq (cIte (cOp (fIn false) (cVar 5) (cVar 2))
          (cAsg 2 [0, 1] 5 (cOp fAddS (cC (.str (PySem.Str.ofString "zzzz"))) (cOp fIxS (cC (.str (PySem.Str.ofString "abcdefghijklmnopqrstuvwxyz"))) (cVar 3))))
          cNilS)
        (cEx (cMeth 2 fAppend (cCons (cVar 5) cNil))))))))
    (cRet 2 (cVar 2))))
theorem w'_law_words_eq : w_law_words = w'_law_words := by
  unfold w'_law_words
  simp only [cCut_eq]
  rfl
theorem pure_law_words : ∀ ds, ds.length = 2 → sp_law_words.pre ds → w_law_words (env0 ds 5) { nx := fun e => sp_law_words.post ds .non (outs e 2), rt := fun d e => sp_law_words.post ds d (outs e 2) } := by
  rintro ds _ ⟨ns, m, rfl, hm0, hm1⟩
  rw [w'_law_words_eq]
  walk_at "Ddl"
  refine loop_rng (fun j e => ∃ (ks : List Int) (ws : List Str) (o3 o4 o5 : Option D), ((ws.length : Int) = j ∧ (∀ w ∈ ws, Drawn j w) ∧ ws.Nodup) ∧ e = [some (.lst (ks.map D.int)), some (.int m), some (.lst (ws.map D.str)), o3, o4, o5, none]) ⟨ns, [], none, none, none, ⟨rfl, by simp, by simp⟩, rfl⟩ ?_ ?_
  · rintro j env nxt hj0 hj1 ⟨ks, ws, o3, o4, o5, ⟨hw, hd, hn⟩, rfl⟩ hx
    walk_at "Ddl"
    refine ⟨⟨⟨_, rfl⟩, by decide⟩, ?_⟩
    rintro _ _ ⟨ks1, v1, rfl, rfl, h1, h1'⟩
    walk_at "Ddl"
    refine cutW' (fun e => ∃ (ks : List Int) (s : Int), (1 ≤ s ∧ s ≤ 3 ∨ 10 ≤ s ∧ s ≤ 30) ∧ e = [some (.lst (ks.map D.int)), some (.int m), some (.lst (ws.map D.str)), some (.int j), some (.int s), o5, none]) (fun nx hn2 => ?_) ?_
    · walk_at "Ddl"
      refine ⟨⟨⟨_, rfl⟩, by decide⟩, ?_⟩
      rintro _ _ ⟨ks2, v2, rfl, rfl, h2, h2'⟩
      walk_at "Ddl"
      refine ifb_dec (fun g => ?_) (fun g => ?_)
      · walk_at "Ddl"
        refine ⟨⟨⟨_, rfl⟩, by decide⟩, ?_⟩
        rintro _ _ ⟨ks3, v3, rfl, rfl, h3, h3'⟩
        walk_at "Ddl"
        exact hn2 _ ⟨ks3, _, .inr ⟨by omega, by omega⟩, rfl⟩
      · walk_at "Ddl"
        exact hn2 _ ⟨ks2, _, .inl ⟨by omega, by omega⟩, rfl⟩
    rintro _ ⟨ks4, s, hs, rfl⟩
    have wkn : ∀ w ∈ ws, Drawn (j + 1) w := fun w hw' => by
      obtain ⟨a, b⟩ := hd w hw'
      refine ⟨a, ?_⟩
      rcases b with b | b | ⟨i, a1, a2, a3⟩
      · exact .inl b
      · exact .inr (.inl b)
      · exact .inr (.inr ⟨i, a1, by omega, a3⟩)
    have add : ∀ (ks : List Int) (w : Str) (o : Option D), Drawn (j + 1) w → w ∉ ws → nxt [some (.lst (ks.map D.int)), some (.int m), some (.lst (ws.map D.str ++ [.str w])), some (.int j), some (.int s), some (.str w), none] := fun ks w o h1 h2 =>
      hx _ ⟨ks, ws ++ [w], _, _, _, ⟨by simp only [List.length_append, List.length_cons, List.length_nil]; omega, fun x hx' => by
        rcases List.mem_append.mp hx' with q | q
        · exact wkn x q
        · rw [List.mem_singleton.mp q]; exact h1, by
        rw [List.nodup_append]
        refine ⟨hn, by simp, fun a ha b hb => ?_⟩
        rw [List.mem_singleton.mp hb]
        exact fun q => h2 (q ▸ ha)⟩, by rw [List.map_append]; rfl⟩
    walk_at "Ddl"
    refine loop_lc (fun ys acc e => ∃ (ks : List Int) (ls : List Nat) (i : Int) (n : Nat), (ys = rngD i n ∧ acc = (ls.map fun c => (⟨#[c]⟩ : Str)).map D.str ∧ ls.length + n = s.toNat ∧ ls.all okC = true) ∧ e = [some (.lst (ks.map D.int)), some (.int m), some (.lst (ws.map D.str)), some (.int j), some (.int s), o5, none]) ⟨ks4, [], 0, s.toNat, ⟨rfl, rfl, by simp, rfl⟩, rfl⟩ ?_ ?_
    · rintro x r acc env nxt2 ⟨ks, ls, i, n, ⟨h4, rfl, h6, h7⟩, rfl⟩ hx2
      cases n with
      | zero => simp [rngD] at h4
      | succ n =>
        simp only [rngD, List.cons.injEq] at h4
        obtain ⟨rfl, rfl⟩ := h4
        walk_at "Ddl"
        refine ⟨⟨⟨_, rfl⟩, by decide⟩, ?_⟩
        rintro _ _ ⟨ks2, v2, rfl, rfl, h2, h2'⟩
        obtain ⟨c, e, hc⟩ := alpha_ok h2 h2'
        walk_at "Ddl"
        rw [show L2.atI (Str.ofString "abcdefghijklmnopqrstuvwxyz").cps.toList v2 = some c from e]
        walk_at "Ddl"
        exact hx2 _ _ ⟨ks2, ls ++ [c], i + 1, n, ⟨rfl, by rw [List.map_append, List.map_append]; rfl, by simp only [List.length_append, List.length_cons, List.length_nil]; omega, by rw [List.all_append, h7]; simp [hc]⟩, rfl⟩
    rintro acc env ⟨ks5, ls, i, n, ⟨h4, rfl, h6, h7⟩, rfl⟩
    have hn0 : n = 0 := by
      cases n with
      | zero => rfl
      | succ n => simp [rngD] at h4
    subst hn0
    walk_at "Ddl"
    rw [strsD_map]
    have hz : (Str.ofString "").length = 0 := by decide
    refine ⟨by rw [hz, Nat.mul_zero]; have := sumL_ones ls; unfold sumL at this; omega, ?_⟩
    have ej := join_ones ls
    generalize Txt.join (Str.ofString "") (ls.map fun c => (⟨#[c]⟩ : Str)) = wd at *
    have hwd : Drawn (j + 1) wd := by
      refine ⟨?_, ?_⟩
      · unfold isW
        rw [ej, h7, decide_eq_true (show ls.length ≤ 100 by omega)]
        cases ls with
        | nil => simp at h6; omega
        | cons _ _ => rfl
      · rw [ej]
        rcases hs with hs | hs
        · exact .inl (by omega)
        · exact .inr (.inl (by omega))
    walk_at "Ddl"
    refine stopE (e := [some (.lst (ks5.map D.int)), some (.int m), some (.lst (ws.map D.str)), some (.int j), some (.int s), some (.str wd), none]) rfl ?_
    walk_at "Ddl"
    refine ⟨flatA_str ws, ?_⟩
    rw [any_str]
    by_cases g : wd ∈ ws
    · rw [decide_eq_true g]
      walk_at "Ddl"
      have ea := alpha_nth hj0 (by omega)
      rw [show L2.atI (Str.ofString "abcdefghijklmnopqrstuvwxyz").cps.toList j = some (97 + j.toNat) from ea]
      have hz4 : (PySem.Str.ofString "zzzz").length = 4 := by decide
      have hz5 : (PySem.Str.ofString "zzzz").length + (⟨#[97 + j.toNat]⟩ : Str).length ≤ 1000000 := by
        rw [hz4]; show 4 + 1 ≤ _; decide
      walk_at "Ddl"
      have hjc : okC (97 + j.toNat) = true := by
        unfold okC
        rw [decide_eq_true (by omega), decide_eq_true (by omega)]
        rfl
      have hzw : PySem.Str.ofString "zzzz" ++ (⟨#[97 + j.toNat]⟩ : Str) = zw (97 + j.toNat) := rfl
      rw [hzw]
      walk_at "Ddl"
      refine add ks5 (zw (97 + j.toNat)) none ⟨zw_ok hjc, .inr (.inr ⟨j, hj0, by omega, rfl⟩)⟩ fun hm => ?_
      rcases (hd _ hm).2 with b | b | ⟨i, a1, a2, a3⟩
      · rw [zw_list] at b; simp at b
      · rw [zw_list] at b; simp at b
      · have := zw_inj a3; omega
    · rw [decide_eq_false g]
      walk_at "Ddl"
      exact add ks5 wd none hwd g
  · rintro env ⟨ks, ws, o3, o4, o5, ⟨hw, hd, hn⟩, rfl⟩
    walk_at "Ddl"
    intro xs m' e
    simp only [List.cons.injEq, and_true, D.lst.injEq, D.int.injEq] at e
    obtain ⟨_, rfl⟩ := e
    refine ⟨ks, ws, rfl, rfl, by omega, fun w hw' => ?_, hn⟩
    obtain ⟨a, b⟩ := hd w hw'
    refine ⟨a, ?_⟩
    rw [len_list]
    rcases b with b | b | ⟨i, _, _, rfl⟩
    · omega
    · omega
    · rw [zw_list]; simp
theorem words_ok {ws : List Str} {m : Int} (h : (ws.length : Int) = m) (h1 : 1 ≤ m) (h2 : m ≤ 40) (h3 : ∀ w ∈ ws, isW w = true ∧ w.length ≤ 30) (h4 : ws.Nodup) : WsOk ws := ⟨by omega, by omega, fun w hw => (h3 w hw).1, h4⟩
def sp_law_number : FSpec where
  pre := fun ds => ∃ (ns ms : List Int), ds = [.lst (ns.map D.int), .rol (ms.map D.int)]
  post := fun ds r ds' => ∀ (l s : D), ds = [l, s] → ∃ (ns : List Int) (v : Int), r = .int v ∧ ds' = [.lst (ns.map D.int), s]
/-- slots: 0 draws, 1 script -/
def w_law_number : WS :=
    (cRet 2 (cOp fMul (cCallN 2 sp_law_size (cCons (cVar 0) (cCons (cVar 1) cNil))) (cOp fSub (cC (.int 1)) (cOp fMul (cC (.int 2)) (cCallN 2 sp_law_take (cCons (cVar 0) (cCons (cC (.int 2)) cNil)))))))
theorem pure_law_number : ∀ ds, ds.length = 2 → sp_law_number.pre ds → w_law_number (env0 ds 0) { nx := fun e => sp_law_number.post ds .non (outs e 2), rt := fun d e => sp_law_number.post ds d (outs e 2) } := by
  rintro ds _ ⟨ns, ms, rfl⟩
  walk_at "Ddl"
  refine ⟨⟨⟨_, rfl⟩, _, rfl⟩, ?_⟩
  rintro _ _ ⟨n1, v, rfl, rfl, hv⟩
  walk_at "Ddl"
  refine ⟨⟨⟨_, rfl⟩, by decide⟩, ?_⟩
  rintro _ _ ⟨n2, u, rfl, rfl, u0, u1⟩
  walk_at "Ddl"
  intro l s e
  simp only [List.cons.injEq, and_true] at e
  obtain ⟨_, rfl⟩ := e
  exact ⟨n2, _, rfl, rfl⟩
def sp_law_worth : FSpec where
  pre := fun ds => ∃ (ns ms : List Int) (ws : List Str), ds = [.lst (ns.map D.int), .rol (ms.map D.int), .lst (ws.map D.str)] ∧ WsOk ws
  post := fun ds r ds' => ∀ (l s : D) (ws : List Str), ds = [l, s, .lst (ws.map D.str)] → ∃ (ns : List Int) (v : Vv), r = encV v ∧ ds' = [.lst (ns.map D.int), s, .lst (ws.map D.str)] ∧ okV v
/-- slots: 0 draws, 1 script, 2 words -/
def w_law_worth : WS :=
    (cSeq (cIte (cOp fEqS (cCallN 2 sp_law_take (cCons (cVar 0) (cCons (cC (.int 2)) cNil))) (cC (.int 0)))
      (cRet 3 (cCallN 2 sp_law_pick (cCons (cVar 0) (cCons (cVar 2) cNil))))
      cNilS)
    (cRet 3 (cCallN 2 sp_law_number (cCons (cVar 0) (cCons (cVar 1) cNil)))))
theorem pure_law_worth : ∀ ds, ds.length = 3 → sp_law_worth.pre ds → w_law_worth (env0 ds 0) { nx := fun e => sp_law_worth.post ds .non (outs e 3), rt := fun d e => sp_law_worth.post ds d (outs e 3) } := by
  rintro ds _ ⟨ns, ms, ws, rfl, hw⟩
  walk_at "Ddl"
  refine ⟨⟨⟨_, rfl⟩, by decide⟩, ?_⟩
  rintro _ _ ⟨n1, v, rfl, rfl, v0, v1⟩
  walk_at "Ddl"
  refine ifb_dec (fun g => ?_) (fun g => ?_)
  · walk_at "Ddl"
    refine ⟨⟨n1, _, _, rfl, rfl, by simpa using hw.pos, by simp only [List.length_map]; have := hw.few; omega⟩, ?_⟩
    intro r ds' hp
    obtain ⟨n2, hr, rfl⟩ := hp _ _ _ rfl rfl
    obtain ⟨w, hw', rfl⟩ := List.mem_map.mp hr
    walk_at "Ddl"
    intro l s ws' e
    simp only [List.cons.injEq, and_true, D.lst.injEq] at e
    obtain ⟨_, rfl, e⟩ := e
    cases mapS_inj e
    exact ⟨n2, .s w, rfl, rfl, hw.isw w hw'⟩
  · walk_at "Ddl"
    refine ⟨⟨n1, ms, rfl⟩, ?_⟩
    intro r ds' hp
    obtain ⟨n2, u, rfl, rfl⟩ := hp _ _ rfl
    walk_at "Ddl"
    intro l s ws' e
    simp only [List.cons.injEq, and_true, D.lst.injEq] at e
    obtain ⟨_, rfl, e⟩ := e
    cases mapS_inj e
    exact ⟨n2, .i u, rfl, rfl, trivial⟩
/-! ### more columns -/
theorem SC_perm {a b : List Str} (h : sortedS b = true) (p : b.Perm a) (n : a.Nodup) : SC b := SC.of_sorted h (p.nodup_iff.mpr n)
end DL

set_option maxHeartbeats 600000
namespace DL
open PySem PySem.Spec PyProof.Rows L2
/-! ### drawn questions -/
local macro_rules | `(tactic| walk_at "Ddlq") => `(tactic| ((conv => whnf); (repeat ((first | refine And.intro rfl ?_ | refine And.intro trivial ?_ | refine And.intro ⟨rfl, trivial⟩ ?_ | refine And.intro ⟨rfl, rfl, trivial⟩ ?_ | refine ifb_nq (by decide) ?_ | refine ifb_er ?_ | refine ifb_t ?_ | refine ifb_f ?_ | refine ifb_nr ?_ | refine ifb_er ?_ | refine And.intro (by first | decide | omega | (unfold CMul; omega) | (unfold CDiv; omega) | (unfold CPow; decide) | (exact cpow1 (by omega) (by omega)) | (exact cpow1 (by dsimp only; omega) (by dsimp only; omega)) | (simp only [rngD_len, List.length_replicate, List.length_map, List.length_append, List.length_cons, List.length_nil, List.length_set] at *; omega)) ?_); conv => whnf))))
local macro_rules | `(tactic| walk_at "Ddl") => `(tactic| ((conv => whnf); (repeat ((first | refine And.intro rfl ?_ | refine And.intro trivial ?_ | refine And.intro ⟨rfl, trivial⟩ ?_ | refine And.intro ⟨rfl, rfl, trivial⟩ ?_ | refine ifb_t ?_ | refine ifb_f ?_ | refine ifb_nr ?_ | refine ifb_er ?_ | refine And.intro (by first | decide | omega | (unfold CMul; omega) | (unfold CDiv; omega) | (unfold CPow; decide) | (exact cpow1 (by omega) (by omega)) | (exact cpow1 (by dsimp only; omega) (by dsimp only; omega)) | (simp only [rngD_len, List.length_replicate, List.length_map, List.length_append, List.length_cons, List.length_nil, List.length_set] at *; omega)) ?_); conv => whnf))))
end DL

set_option maxHeartbeats 600000
namespace DL
open PySem PySem.Spec PyProof.Rows L2
local macro_rules | `(tactic| walk_at "Ddl") => `(tactic| ((conv => whnf); (repeat ((first | refine And.intro rfl ?_ | refine And.intro trivial ?_ | refine And.intro ⟨rfl, trivial⟩ ?_ | refine And.intro ⟨rfl, rfl, trivial⟩ ?_ | refine ifb_t ?_ | refine ifb_f ?_ | refine ifb_nr ?_ | refine ifb_er ?_ | refine And.intro (by first | decide | omega | (unfold CMul; omega) | (unfold CDiv; omega) | (unfold CPow; decide) | (exact cpow1 (by omega) (by omega)) | (exact cpow1 (by dsimp only; omega) (by dsimp only; omega)) | (simp only [rngD_len, List.length_replicate, List.length_map, List.length_append, List.length_cons, List.length_nil, List.length_set] at *; omega)) ?_); conv => whnf))))
end DL

set_option maxHeartbeats 600000
namespace DL
open PySem PySem.Spec PyProof.Rows L2
theorem nodup_sub {ws es : List Str} (h : WsOk ws) (s : es.Sublist ws) : es.Nodup := List.Pairwise.sublist s h.nd
local macro_rules | `(tactic| walk_at "Ddl") => `(tactic| ((conv => whnf); (repeat ((first | refine And.intro rfl ?_ | refine And.intro trivial ?_ | refine And.intro ⟨rfl, trivial⟩ ?_ | refine And.intro ⟨rfl, rfl, trivial⟩ ?_ | refine ifb_t ?_ | refine ifb_f ?_ | refine ifb_nr ?_ | refine ifb_er ?_ | refine And.intro (by first | decide | omega | (unfold CMul; omega) | (unfold CDiv; omega) | (unfold CPow; decide) | (exact cpow1 (by omega) (by omega)) | (exact cpow1 (by dsimp only; omega) (by dsimp only; omega)) | (simp only [rngD_len, List.length_replicate, List.length_map, List.length_append, List.length_cons, List.length_nil, List.length_set] at *; omega)) ?_); conv => whnf))))
theorem okQ_cols {q : Qn} (h : okQ q) : (colsQ q).length ≤ 8 := by
  cases q
  case fact => exact h.2
  all_goals exact h.1.2
end DL

set_option maxHeartbeats 400000
namespace DL
open PySem PySem.Spec PyProof.Rows L2
/-! ### texts as data -/
theorem lay_word {w : Str} (h : isW w = true) : (PyData.str w).canLay0 = true := by
  unfold isW at h
  simp only [Bool.and_eq_true, List.all_eq_true] at h
  simp only [PyData.canLay0, PyData.strOk]
  rw [← Array.all_toList, List.all_eq_true]
  intro c hc
  have := h.1.2 c hc
  unfold okC at this
  simp only [Bool.and_eq_true, decide_eq_true_eq] at this ⊢
  omega
theorem lay_strs : ∀ ws : List Str, (∀ w ∈ ws, isW w = true) → PyData.canLayAll0 (toPs (ws.map D.str)) = true ∧ PyData.depthAll (toPs (ws.map D.str)) ≤ 1
  | [], _ => ⟨by simp [toPs, PyData.canLayAll0], by simp [toPs, PyData.depthAll]⟩
  | w :: r, h => by
    obtain ⟨h1, h2⟩ := lay_strs r fun x hx => h x (List.mem_cons_of_mem _ hx)
    have h3 := lay_word (h w List.mem_cons_self)
    simp only [List.map_cons, toPs, toP]
    exact ⟨by simp only [PyData.canLayAll0, h1, h3, Bool.and_self], by simp only [PyData.depthAll, PyData.depth]; omega⟩
theorem shaped_C {ws : List Str} (h : ∀ w ∈ ws, isW w = true) : SeqAt.shaped (toP (encC ws)) = true := by
  obtain ⟨h1, h2⟩ := lay_strs ws h
  unfold SeqAt.shaped
  have e1 : (toP (encC ws)).canLay0 = true := by simpa only [encC, toP, PyData.canLay0] using h1
  have e2 : (toP (encC ws)).depth ≤ 64 := by simp only [encC, toP, PyData.depth]; omega
  rw [e1, decide_eq_true e2]
  rfl
/-! ### columns of valid questions -/
theorem len_sub {a b : List Str} (h : SC a) (s : ∀ x ∈ a, x ∈ b) : a.length ≤ b.length := List.Nodup.length_le_of_subset h.nd fun x hx => s x hx
theorem okQ_node {q : Qn} (h : okQ q) : okN q := by
  cases q
  case fact => exact h.1
  all_goals exact h.1.1
theorem okQ_part {q p : Qn} (h : okQ q) (m : p ∈ partsQ q) : okQ p := by
  cases q <;> simp only [partsQ, List.mem_cons, List.not_mem_nil, or_false] at m
  · rcases m with rfl | rfl
    · exact h.2.1
    · exact h.2.2
  all_goals (subst m; exact h.2)
theorem colsQ_ok : ∀ (q : Qn), okQ q → SC (colsQ q) ∧ ∀ x ∈ colsQ q, isW x = true
  | .fact n ts, h => ⟨SC.ord _, fun x hx => by
      obtain ⟨t, ht, e⟩ := List.mem_filterMap.mp (mem_ordS.mp hx)
      cases t with
      | col y => cases e; exact h.1.2.2 _ ht
      | val v => cases e⟩
  | .two k p q, h => by
    obtain ⟨a1, a2⟩ := colsQ_ok p h.2.1
    obtain ⟨b1, b2⟩ := colsQ_ok q h.2.2
    cases k
    case both =>
      refine ⟨SC.ord _, fun x hx => ?_⟩
      rcases List.mem_append.mp (mem_ordS.mp hx) with g | g
      · exact a2 x g
      · exact b2 x g
    case either => exact ⟨a1, a2⟩
    case «unless» => exact ⟨a1, a2⟩
    all_goals exact ⟨b1, b2⟩
  | .only cs p, h => ⟨h.1.1.1, fun x hx => (colsQ_ok p h.2).2 x (h.1.1.2 x hx)⟩
  | .whr t l r p, h => colsQ_ok p h.2
  | .shift n p, h => colsQ_ok p h.2
  | .look k w p, h => colsQ_ok p h.2
  | .count new keep p, h => ⟨SC.ord _, fun x hx => by
      rcases List.mem_cons.mp (mem_ordS.mp hx) with rfl | g
      · exact h.1.1.1
      · exact (colsQ_ok p h.2).2 x (h.1.1.2.2.2 x g)⟩
  | .total k new col keep p, h => ⟨SC.ord _, fun x hx => by
      rcases List.mem_cons.mp (mem_ordS.mp hx) with rfl | g
      · exact h.1.1.1
      · exact (colsQ_ok p h.2).2 x (h.1.1.2.2.1.2 x g)⟩
  | .link k x y p, h => colsQ_ok p h.2
/-! ### ordered -/
def TS2 (ds : List D) (ws : List Str) : Prop := ds = [.lst (ws.map D.str)] ∨ ds = [.tup (ws.map D.str)]
theorem TS2.uniq {ds : List D} {a b : List Str} (h : TS2 ds a) (g : TS2 ds b) : a = b := by
  rcases h with rfl | rfl <;> rcases g with g | g <;> simp only [List.cons.injEq, and_true, D.lst.injEq, D.tup.injEq, reduceCtorEq] at g <;> exact mapS_inj g
def sp_ordered : FSpec where
  pre := fun ds => ∃ ws : List Str, TS2 ds ws ∧ ws.length < 64
  post := fun ds r ds' => ds' = ds ∧ ∀ ws : List Str, TS2 ds ws → r = encC (ordS ws)
theorem ord_post {ds : List D} {ws ms : List Str} (h : TS2 ds ws) (h1 : sortedS ms = true) (h2 : ms.Nodup) (h3 : ∀ z, z ∈ ms ↔ z ∈ ws) : ∀ ws' : List Str, TS2 ds ws' → D.tup (ms.map D.str) = encC (ordS ws') := by
  intro ws' g
  cases h.uniq g
  rw [ordS_eq (SC.of_sorted h1 h2) fun x => (h3 x).symm]
  rfl
/-- slots: 0 words -/
def w_ordered : WS :=
    (cRet 1 (cBi fTuple (cCons (cBi fSST (cCons (cVar 0) cNil)) cNil)))
local macro_rules | `(tactic| walk_at "Ddl") => `(tactic| ((conv => whnf); (repeat ((first | refine And.intro rfl ?_ | refine And.intro trivial ?_ | refine And.intro ⟨rfl, trivial⟩ ?_ | refine And.intro ⟨rfl, rfl, trivial⟩ ?_ | refine ifb_t ?_ | refine ifb_f ?_ | refine ifb_nr ?_ | refine ifb_er ?_ | refine And.intro (by first | decide | omega | (unfold CMul; omega) | (unfold CDiv; omega) | (unfold CPow; decide) | (exact cpow1 (by omega) (by omega)) | (exact cpow1 (by dsimp only; omega) (by dsimp only; omega)) | (simp only [rngD_len, List.length_replicate, List.length_map, List.length_append, List.length_cons, List.length_nil, List.length_set] at *; omega)) ?_); conv => whnf))))
theorem pure_ordered : ∀ ds, ds.length = 1 → sp_ordered.pre ds → w_ordered (env0 ds 0) { nx := fun e => sp_ordered.post ds .non (outs e 1), rt := fun d e => sp_ordered.post ds d (outs e 1) } := by
  rintro ds _ ⟨ws, h, hl⟩
  have post := @ord_post ds ws
  rcases h with rfl | rfl
  · walk_at "Ddl"
    rw [strsD_map]
    refine ⟨hl, fun ms h1 h2 h3 h4 => ?_⟩
    walk_at "Ddl"
    exact post (.inl rfl) h1 h2 h3
  · walk_at "Ddl"
    rw [strsD_map]
    refine ⟨hl, fun ms h1 h2 h3 h4 => ?_⟩
    walk_at "Ddl"
    exact post (.inr rfl) h1 h2 h3
/-! ### words and values -/
end DL

set_option maxHeartbeats 400000
namespace DL
open PySem PySem.Spec PyProof.Rows L2
abbrev tab_TOTALS : List Str := [PySem.Str.ofString "count", PySem.Str.ofString "sum", PySem.Str.ofString "least", PySem.Str.ofString "most"]
abbrev tab_FOLLOWING : List Str := [PySem.Str.ofString "since", PySem.Str.ofString "sincenot", PySem.Str.ofString "until", PySem.Str.ofString "untilnot"]
/-! ### the columns of a node -/
def isCol : D → Bool
  | .tup [.str f, _] => decide (f = PySem.Str.ofString "col")
  | _ => false
theorem cols_zip : ∀ ts : List Tm, ((ts.map encTm).filter isCol).map itQ = (ts.filterMap colOf).map D.str
  | [] => rfl
  | .col x :: r => by
    have ih := cols_zip r
    have e : isCol (encTm (.col x)) = true := rfl
    rw [List.map_cons, List.filter_cons, e, if_pos rfl, List.map_cons, ih]
    rfl
  | .val v :: r => by
    have ih := cols_zip r
    have e : isCol (encTm (.val v)) = false := by cases v <;> rfl
    rw [List.map_cons, List.filter_cons, e, if_neg (by decide), ih]
    rfl
theorem tm_item {t : Tm} : ∃ f it, encTm t = .tup [.str f, it] ∧ isL it = false ∧ isCol (encTm t) = decide (f = PySem.Str.ofString "col") ∧ itQ (encTm t) = it := by
  cases t with
  | col x => exact ⟨_, _, rfl, rfl, rfl, rfl⟩
  | val v => cases v <;> exact ⟨_, _, rfl, rfl, rfl, rfl⟩
def gvn (q : Qn) : D := .lst ((partsQ q).map fun p => encC (colsQ p))
def sp_node_columns : FSpec where
  pre := fun ds => ∃ q : Qn, ds = [encQ q, gvn q] ∧ okQ q
  post := fun ds r ds' => ds' = ds ∧ ∀ (q : Qn) (g : D), ds = [encQ q, g] → r = encC (colsQ q)
theorem nc_post {q : Qn} {g r : D} (h : r = encC (colsQ q)) : ∀ (q' : Qn) (g' : D), [encQ q, g] = [encQ q', g'] → r = encC (colsQ q') := by
  intro q' g' e
  simp only [List.cons.injEq, and_true] at e
  cases encQ_inj e.1
  exact h
theorem ts2_app (a b : List Str) : TS2 [D.tup (a.map D.str ++ b.map D.str)] (a ++ b) := .inr (by rw [List.map_append])
theorem fm_len (ts : List Tm) : (ts.filterMap colOf).length ≤ ts.length := List.length_filterMap_le _ _
/-- slots: 0 question, 1 given, 2 kind, 3 form, 4 item -/
def w_node_columns : WS :=
    (cSeq (cAsg 2 [0, 1] 2 (cOp fIx (cVar 0) (cC (.int 0))))
    (cSeq (cIte (cOp fEqS (cVar 2) (cC (.str (PySem.Str.ofString "fact"))))
      (cRet 2 (cCallN 1 sp_ordered (cCons (cLc [3, 4] (iE (cOp fIx (cVar 0) (cC (.int 2)))) (gT 2 (gCons' (gN 2 [] 3) (gCons' (gN 2 [] 4) gNil'))) (cOp fEqS (cVar 3) (cC (.str (PySem.Str.ofString "col")))) (cVar 4)) cNil)))
      cNilS)
    (cSeq (cIte (cOp fEqS (cVar 2) (cC (.str (PySem.Str.ofString "both"))))
      (cRet 2 (cCallN 1 sp_ordered (cCons (cOp fAddG (cOp fIx (cVar 1) (cC (.int 0))) (cOp fIx (cVar 1) (cC (.int 1)))) cNil)))
      cNilS)
    (cSeq (cIte (cOp fEqS (cVar 2) (cC (.str (PySem.Str.ofString "only"))))
      (cRet 2 (cOp fIx (cVar 0) (cC (.int 1))))
      cNilS)
    (cSeq (cIte (cOp (fIn false) (cVar 2) (cC (.tpd (tab_TOTALS.map D.str))))
      (cRet 2 (cCallN 1 sp_ordered (cCons (cOp fAddG (cTup (cCons (cOp fIx (cVar 0) (cC (.int 1))) cNil)) (cOp fIx (cVar 0) (cUn fNeg (cC (.int 2))))) cNil)))
      cNilS)
    (cRet 2 (cIf (cOp (fIn false) (cVar 2) (cC (.tpd (tab_FOLLOWING.map D.str)))) (cOp fIx (cVar 1) (cC (.int 1))) (cOp fIx (cVar 1) (cC (.int 0))))))))))
local macro_rules | `(tactic| walk_at "Ddlq") => `(tactic| ((conv => whnf); (repeat ((first | refine And.intro rfl ?_ | refine And.intro trivial ?_ | refine And.intro ⟨rfl, trivial⟩ ?_ | refine And.intro ⟨rfl, rfl, trivial⟩ ?_ | refine ifb_nq (by decide) ?_ | refine ifb_er ?_ | refine ifb_t ?_ | refine ifb_f ?_ | refine ifb_nr ?_ | refine ifb_er ?_ | refine And.intro (by first | decide | omega | (unfold CMul; omega) | (unfold CDiv; omega) | (unfold CPow; decide) | (exact cpow1 (by omega) (by omega)) | (exact cpow1 (by dsimp only; omega) (by dsimp only; omega)) | (simp only [rngD_len, List.length_replicate, List.length_map, List.length_append, List.length_cons, List.length_nil, List.length_set] at *; omega)) ?_); conv => whnf))))
theorem pure_node_columns : ∀ ds, ds.length = 2 → sp_node_columns.pre ds → w_node_columns (env0 ds 3) { nx := fun e => sp_node_columns.post ds .non (outs e 2), rt := fun d e => sp_node_columns.post ds d (outs e 2) } := by
  rintro ds _ ⟨q, rfl, hq⟩
  have post := fun {r : D} h => nc_post (q := q) (g := gvn q) (r := r) h
  have hord : ∀ {d : D} {ws : List Str}, TS2 [d] ws → ws.length < 64 → sp_ordered.pre [d] ∧ ∀ r ds', sp_ordered.post [d] r ds' → ds' = [d] ∧ r = encC (ordS ws) := fun h hl => ⟨⟨_, h, hl⟩, fun r ds' hp => ⟨hp.1, hp.2 _ h⟩⟩
  cases q with
  | fact n ts =>
    have hl : ts.length ≤ 8 := hq.1.2.1
    have hz := cols_zip ts
    have hfl := fm_len ts
    walk_at "Ddlq"
    refine lcGo_filter isCol itQ _ _ ?_ ?_
    · intro d nxt acc hd hnx
      obtain ⟨t, _, rfl⟩ := List.mem_map.mp hd
      obtain ⟨f, it, e1, e2, e3, e4⟩ := tm_item (t := t)
      rw [e3, e4] at hnx
      rw [e1]
      cases it with
      | lst _ => simp [isL] at e2
      | _ =>
        walk_at "Ddlq"
        refine ifb_dec (fun g => ?_) (fun g => ?_)
        · rw [decide_eq_true g, if_pos rfl] at hnx
          walk_at "Ddlq"
          exact hnx
        · rw [decide_eq_false g, if_neg (by decide), List.append_nil] at hnx
          walk_at "Ddlq"
          exact hnx
    · rw [hz]
      walk_at "Ddlq"
      obtain ⟨h1, h2⟩ := hord (d := .lst ((ts.filterMap colOf).map D.str)) (.inl rfl) (by omega)
      refine ⟨h1, fun r ds' hp => ?_⟩
      obtain ⟨rfl, rfl⟩ := h2 r ds' hp
      walk_at "Ddlq"
      exact post rfl
  | two k a b =>
    have hla := okQ_cols hq.2.1
    have hlb := okQ_cols hq.2.2
    cases k
    case both =>
      walk_at "Ddlq"
      obtain ⟨h1, h2⟩ := hord (ts2_app (colsQ a) (colsQ b)) (by rw [List.length_append]; omega)
      refine ⟨h1, fun r ds' hp => ?_⟩
      obtain ⟨rfl, rfl⟩ := h2 r ds' hp
      walk_at "Ddlq"
      exact post rfl
    all_goals
      walk_at "Ddlq"
      exact post rfl
  | only cs p =>
    walk_at "Ddlq"
    exact post rfl
  | count new keep p =>
    have hk : keep.length ≤ 8 := Nat.le_trans (len_sub hq.1.1.2.2.1 hq.1.1.2.2.2) (okQ_cols hq.2)
    walk_at "Ddlq"
    obtain ⟨h1, h2⟩ := hord (ts2_app [new] keep) (by rw [List.length_append]; simp only [List.length_cons, List.length_nil]; omega)
    refine ⟨h1, fun r ds' hp => ?_⟩
    obtain ⟨rfl, rfl⟩ := h2 r ds' hp
    walk_at "Ddlq"
    exact post rfl
  | total k new col keep p =>
    have hk : keep.length ≤ 8 := Nat.le_trans (len_sub hq.1.1.2.2.1.1 hq.1.1.2.2.1.2) (okQ_cols hq.2)
    obtain ⟨h1, h2⟩ := hord (ts2_app [new] keep) (by rw [List.length_append]; simp only [List.length_cons, List.length_nil]; omega)
    cases k <;>
    · walk_at "Ddlq"
      refine ⟨h1, fun r ds' hp => ?_⟩
      obtain ⟨rfl, rfl⟩ := h2 r ds' hp
      walk_at "Ddlq"
      exact post rfl
  | look k w p =>
    cases k <;> cases w <;>
    · walk_at "Ddlq"
      exact post rfl
  | link k x y p =>
    cases k <;>
    · walk_at "Ddlq"
      exact post rfl
  | whr t l r p =>
    walk_at "Ddlq"
    exact post rfl
  | shift n p =>
    walk_at "Ddlq"
    exact post rfl
end DL

set_option maxHeartbeats 400000
namespace DL
open PySem PySem.Spec PyProof.Rows L2
abbrev tab_LOOKING : List Str := [PySem.Str.ofString "once", PySem.Str.ofString "lately", PySem.Str.ofString "soon", PySem.Str.ofString "henceforth"]
/-! ### the law's own columns -/
theorem lco_post {q : Qn} {r : D} (h : r = encC (colsQ q)) : ∀ q' : Qn, [encQ q] = [encQ q'] → r = encC (colsQ q') := by
  intro q' e
  simp only [List.cons.injEq, and_true] at e
  cases encQ_inj e
  exact h
local macro_rules | `(tactic| walk_at "Ddlq") => `(tactic| ((conv => whnf); (repeat ((first | refine And.intro rfl ?_ | refine And.intro trivial ?_ | refine And.intro ⟨rfl, trivial⟩ ?_ | refine And.intro ⟨rfl, rfl, trivial⟩ ?_ | refine ifb_nq (by decide) ?_ | refine ifb_er ?_ | refine ifb_t ?_ | refine ifb_f ?_ | refine ifb_nr ?_ | refine ifb_er ?_ | refine And.intro (by first | decide | omega | (unfold CMul; omega) | (unfold CDiv; omega) | (unfold CPow; decide) | (exact cpow1 (by omega) (by omega)) | (exact cpow1 (by dsimp only; omega) (by dsimp only; omega)) | (simp only [rngD_len, List.length_replicate, List.length_map, List.length_append, List.length_cons, List.length_nil, List.length_set] at *; omega)) ?_); conv => whnf))))
end DL

set_option maxHeartbeats 400000
namespace DL
open PySem PySem.Spec PyProof.Rows L2
/-! ### a node that is right -/
local macro_rules | `(tactic| walk_at "Ddlq") => `(tactic| ((conv => whnf); (repeat ((first | refine And.intro rfl ?_ | refine And.intro trivial ?_ | refine And.intro ⟨rfl, trivial⟩ ?_ | refine And.intro ⟨rfl, rfl, trivial⟩ ?_ | refine ifb_nq (by decide) ?_ | refine ifb_er ?_ | refine ifb_t ?_ | refine ifb_f ?_ | refine ifb_nr ?_ | refine ifb_er ?_ | refine And.intro (by first | decide | omega | (unfold CMul; omega) | (unfold CDiv; omega) | (unfold CPow; decide) | (exact cpow1 (by omega) (by omega)) | (exact cpow1 (by dsimp only; omega) (by dsimp only; omega)) | (simp only [rngD_len, List.length_replicate, List.length_map, List.length_append, List.length_cons, List.length_nil, List.length_set] at *; omega)) ?_); conv => whnf))))
end DL

set_option maxHeartbeats 400000
namespace DL
open PySem PySem.Spec PyProof.Rows L2
local macro_rules | `(tactic| walk_at "Ddlq") => `(tactic| ((conv => whnf); (repeat ((first | refine And.intro rfl ?_ | refine And.intro trivial ?_ | refine And.intro ⟨rfl, trivial⟩ ?_ | refine And.intro ⟨rfl, rfl, trivial⟩ ?_ | refine ifb_nq (by decide) ?_ | refine ifb_er ?_ | refine ifb_t ?_ | refine ifb_f ?_ | refine ifb_nr ?_ | refine ifb_er ?_ | refine And.intro (by first | decide | omega | (unfold CMul; omega) | (unfold CDiv; omega) | (unfold CPow; decide) | (exact cpow1 (by omega) (by omega)) | (exact cpow1 (by dsimp only; omega) (by dsimp only; omega)) | (simp only [rngD_len, List.length_replicate, List.length_map, List.length_append, List.length_cons, List.length_nil, List.length_set] at *; omega)) ?_); conv => whnf))))
local macro_rules | `(tactic| walk_at "Ddl") => `(tactic| ((conv => whnf); (repeat ((first | refine And.intro rfl ?_ | refine And.intro trivial ?_ | refine And.intro ⟨rfl, trivial⟩ ?_ | refine And.intro ⟨rfl, rfl, trivial⟩ ?_ | refine ifb_t ?_ | refine ifb_f ?_ | refine ifb_nr ?_ | refine ifb_er ?_ | refine And.intro (by first | decide | omega | (unfold CMul; omega) | (unfold CDiv; omega) | (unfold CPow; decide) | (exact cpow1 (by omega) (by omega)) | (exact cpow1 (by dsimp only; omega) (by dsimp only; omega)) | (simp only [rngD_len, List.length_replicate, List.length_map, List.length_append, List.length_cons, List.length_nil, List.length_set] at *; omega)) ?_); conv => whnf))))
/-! ### check_node -/
/-! ### check_question -/
end DL

set_option maxHeartbeats 400000
namespace DL
open PySem PySem.Spec PyProof.Rows L2
/-! ### paths -/
def pathsQ : Qn → List Int → List (List Int)
  | .fact .., p => [p]
  | .two _ a b, p => p :: (pathsQ a (p ++ [0]) ++ pathsQ b (p ++ [1]))
  | .only _ a, p => p :: pathsQ a (p ++ [0])
  | .whr _ _ _ a, p => p :: pathsQ a (p ++ [0])
  | .shift _ a, p => p :: pathsQ a (p ++ [0])
  | .look _ _ a, p => p :: pathsQ a (p ++ [0])
  | .count _ _ a, p => p :: pathsQ a (p ++ [0])
  | .total _ _ _ _ a, p => p :: pathsQ a (p ++ [0])
  | .link _ _ _ a, p => p :: pathsQ a (p ++ [0])
def pj (p : List Int) : Nat → List Qn → List (List Int)
  | _, [] => []
  | k, a :: r => pathsQ a (p ++ [(k : Int)]) ++ pj p (k + 1) r
local macro_rules | `(tactic| walk_at "Ddl") => `(tactic| ((conv => whnf); (repeat ((first | refine And.intro rfl ?_ | refine And.intro trivial ?_ | refine And.intro ⟨rfl, trivial⟩ ?_ | refine And.intro ⟨rfl, rfl, trivial⟩ ?_ | refine ifb_t ?_ | refine ifb_f ?_ | refine ifb_nr ?_ | refine ifb_er ?_ | refine And.intro (by first | decide | omega | (unfold CMul; omega) | (unfold CDiv; omega) | (unfold CPow; decide) | (exact cpow1 (by omega) (by omega)) | (exact cpow1 (by dsimp only; omega) (by dsimp only; omega)) | (simp only [rngD_len, List.length_replicate, List.length_map, List.length_append, List.length_cons, List.length_nil, List.length_set] at *; omega)) ?_); conv => whnf))))
/-! ### the node at a path -/
end DL

set_option maxHeartbeats 600000
namespace DL
open PySem PySem.Spec PyProof.Rows L2
/-! ### one more node on top -/
theorem Stop.out {p : Prop} (h : Stop p) : p := by rwa [Stop.eq] at h
local macro_rules | `(tactic| walk_at "Ddl") => `(tactic| ((conv => whnf); (repeat ((first | refine And.intro rfl ?_ | refine And.intro trivial ?_ | refine And.intro ⟨rfl, trivial⟩ ?_ | refine And.intro ⟨rfl, rfl, trivial⟩ ?_ | refine ifb_t ?_ | refine ifb_f ?_ | refine ifb_nr ?_ | refine ifb_er ?_ | refine And.intro (by first | decide | omega | (unfold CMul; omega) | (unfold CDiv; omega) | (unfold CPow; decide) | (exact cpow1 (by omega) (by omega)) | (exact cpow1 (by dsimp only; omega) (by dsimp only; omega)) | (simp only [rngD_len, List.length_replicate, List.length_map, List.length_append, List.length_cons, List.length_nil, List.length_set] at *; omega)) ?_); conv => whnf))))
end DL

set_option maxHeartbeats 400000
namespace DL
open PySem PySem.Spec PyProof.Rows L2
/-! ### columns_of -/
def spn_columns_of : Nat → FSpec
  | 0 => ⟨fun _ => False, fun _ _ _ => False⟩
  | n + 1 => ⟨fun ds => ∃ q : Qn, ds = [encQ q] ∧ okQ q ∧ dpQ q ≤ n + 1, fun ds r ds' => ds' = ds ∧ ∀ q : Qn, ds = [encQ q] → r = encC (colsQ q)⟩
abbrev sp_columns_of := spn_columns_of 16
/-- slots: 0 question, 1 part -/
def w_columns_of (n : Nat) : WS :=
    (cRet 1 (cCallN 2 sp_node_columns (cCons (cVar 0) (cCons (cLc [1] (iE (cCallN 1 sp_parts_of (cCons (cVar 0) cNil))) (gN 1 [] 1) tTrue (cCallN 1 (spn_columns_of n) (cCons (cVar 1) cNil))) cNil))))
local macro_rules | `(tactic| walk_at "Ddl") => `(tactic| ((conv => whnf); (repeat ((first | refine And.intro rfl ?_ | refine And.intro trivial ?_ | refine And.intro ⟨rfl, trivial⟩ ?_ | refine And.intro ⟨rfl, rfl, trivial⟩ ?_ | refine ifb_t ?_ | refine ifb_f ?_ | refine ifb_nr ?_ | refine ifb_er ?_ | refine And.intro (by first | decide | omega | (unfold CMul; omega) | (unfold CDiv; omega) | (unfold CPow; decide) | (exact cpow1 (by omega) (by omega)) | (exact cpow1 (by dsimp only; omega) (by dsimp only; omega)) | (simp only [rngD_len, List.length_replicate, List.length_map, List.length_append, List.length_cons, List.length_nil, List.length_set] at *; omega)) ?_); conv => whnf))))
theorem pure_columns_of : ∀ n, ∀ ds, ds.length = 1 → (spn_columns_of (n + 1)).pre ds → w_columns_of n (env0 ds 1) { nx := fun e => (spn_columns_of (n + 1)).post ds .non (outs e 1), rt := fun d e => (spn_columns_of (n + 1)).post ds d (outs e 1) } := by
  rintro n ds _ ⟨q, rfl, hq, hd⟩
  have post := fun {r : D} h => lco_post (q := q) (r := r) h
  have call : ∀ {a : Qn}, a ∈ partsQ q → (spn_columns_of n).pre [encQ a] ∧ ∀ r ds', (spn_columns_of n).post [encQ a] r ds' → ds' = [encQ a] ∧ r = encC (colsQ a) := fun {a} ha => by
    have h1 := dpQ_part ha
    have h2 := dpQ_pos a
    cases n with
    | zero => omega
    | succ n => exact ⟨⟨a, rfl, okQ_part hq ha, by omega⟩, fun r ds' h => ⟨h.1, h.2 a rfl⟩⟩
  have hp2 : (partsQ q).length ≤ 2 := by cases q <;> simp [partsQ]
  obtain ⟨tq, eq⟩ := encQ_tup q
  rw [eq] at post ⊢
  walk_at "Ddl"
  refine ⟨⟨q, by rw [eq]⟩, ?_⟩
  rintro _ _ ⟨rfl, hr⟩
  obtain rfl := hr q (by rw [eq])
  walk_at "Ddl"
  try refine ⟨by rw [List.length_map]; omega, ?_⟩
  refine loop_lc (fun xs acc e => ∃ (u v : List Qn), (partsQ q = u ++ v ∧ xs = v.map encQ ∧ acc = u.map fun a => encC (colsQ a)) ∧ e = [some (.tup tq), none]) ⟨[], partsQ q, ⟨rfl, rfl, rfl⟩, rfl⟩ ?_ ?_
  · rintro x r acc env nxt ⟨u, v, ⟨h1, h2, rfl⟩, rfl⟩ hx
    cases v with
    | nil => simp at h2
    | cons a v =>
      simp only [List.map_cons, List.cons.injEq] at h2
      obtain ⟨rfl, rfl⟩ := h2
      obtain ⟨c1, c2⟩ := call (a := a) (by rw [h1]; simp)
      obtain ⟨ta, ea⟩ := encQ_tup a
      rw [ea] at c1 c2 ⊢
      walk_at "Ddl"
      try refine ⟨c1, ?_⟩
      intro r ds' h
      obtain ⟨rfl, rfl⟩ := c2 r ds' h
      walk_at "Ddl"
      exact hx _ _ ⟨u ++ [a], v, ⟨by rw [h1]; simp, rfl, by simp⟩, rfl⟩
  rintro acc env ⟨u, v, ⟨h1, h2, rfl⟩, rfl⟩
  have hv : v = [] := by
    cases v with
    | nil => rfl
    | cons _ _ => simp at h2
  subst hv
  rw [List.append_nil] at h1
  rw [← h1]
  walk_at "Ddl"
  refine ⟨⟨q, by rw [eq]; rfl, hq⟩, ?_⟩
  rintro _ _ ⟨rfl, hr⟩
  obtain rfl := hr q _ (by rw [eq])
  walk_at "Ddl"
  exact post rfl
/-! ### the number of nodes -/
def cntQ : Qn → Nat
  | .fact .. => 1
  | .two _ a b => cntQ a + cntQ b + 1
  | .only _ a => cntQ a + 1 | .whr _ _ _ a => cntQ a + 1 | .shift _ a => cntQ a + 1 | .look _ _ a => cntQ a + 1 | .count _ _ a => cntQ a + 1 | .total _ _ _ _ a => cntQ a + 1 | .link _ _ _ a => cntQ a + 1
theorem cnt_pos (q : Qn) : 1 ≤ cntQ q := by cases q <;> simp [cntQ]
/-! ### questions with short lists -/
def smQ : Qn → Prop
  | .fact _ ts => ts.length ≤ 1000
  | .two _ a b => smQ a ∧ smQ b
  | .only cs a => cs.length ≤ 1000 ∧ smQ a
  | .whr _ _ _ a => smQ a | .shift _ a => smQ a | .look _ _ a => smQ a
  | .count _ ks a => ks.length ≤ 1000 ∧ smQ a
  | .total _ _ _ ks a => ks.length ≤ 1000 ∧ smQ a
  | .link _ _ _ a => smQ a
theorem okQ_sm : ∀ (q : Qn), okQ q → smQ q
  | .fact n ts, h => Nat.le_trans h.1.2.1 (by decide)
  | .two k a b, h => ⟨okQ_sm a h.2.1, okQ_sm b h.2.2⟩
  | .only cs a, h => ⟨Nat.le_trans (len_sub h.1.1.1 h.1.1.2) (Nat.le_trans (okQ_cols h.2) (by decide)), okQ_sm a h.2⟩
  | .whr _ _ _ a, h | .shift _ a, h | .look _ _ a, h | .link _ _ _ a, h => okQ_sm a h.2
  | .count n ks a, h => ⟨Nat.le_trans (len_sub h.1.1.2.2.1 h.1.1.2.2.2) (Nat.le_trans (okQ_cols h.2) (by decide)), okQ_sm a h.2⟩
  | .total k n c ks a, h => ⟨Nat.le_trans (len_sub h.1.1.2.2.1.1 h.1.1.2.2.1.2) (Nat.le_trans (okQ_cols h.2) (by decide)), okQ_sm a h.2⟩
theorem smQ_part {q p : Qn} (h : smQ q) (m : p ∈ partsQ q) : smQ p := by
  cases q <;> simp only [partsQ, List.mem_cons, List.not_mem_nil, or_false] at m
  · rcases m with rfl | rfl
    · exact h.1
    · exact h.2
  all_goals (subst m; first | exact h | exact h.2)
/-! ### a node put in at a path -/
end DL

set_option maxHeartbeats 1000000
namespace DL
open PySem PySem.Spec PyProof.Rows L2
/-! ### small rules of the walk -/
theorem pick_nl {d : D} {A B : Prop} (h : isL d = false) (hb : B) : pick d A B := by cases d <;> first | exact hb | (simp [isL] at h)
theorem stOk_nl {np : Nat} {pr : List Nat} {env : DEnv} {i : Nat} {d : D} (h : isL d = false) (h2 : stOk np pr env i .non = true) : stOk np pr env i d = true := by
  unfold stOk at h2 ⊢
  split at h2
  · cases h2
  · rw [h]
    exact h2
theorem ifb_pq {p : Prop} {_ : Decidable p} {A B : Prop} (h : p) (hb : A) : ifb (.bl (decide p)) A B := by
  rw [decide_eq_true h]
  exact .t hb
theorem immA_c {d : D} {ds : List D} (h : isL d = false) (h2 : immA ds = true) : immA (d :: ds) = true := by simp only [immA, h, h2]; rfl
theorem encC_nl (cs : List Str) : isL (encC cs) = false := rfl
theorem ifb_eqt {b : Bool} {A B : Prop} (h : b = true) (ha : A) : ifb (.bl b) A B := by subst h; exact .t ha
theorem ifb_eqf {b : Bool} {A B : Prop} (h : b = false) (hb : B) : ifb (.bl b) A B := by subst h; exact .f hb
theorem ifb_eqb {x : Bool} {A B : Prop} {p : Prop} {_ : Decidable p} (h : x = decide p) (h1 : p → A) (h2 : ¬ p → B) : ifb (.bl x) A B := by subst h; exact ifb_dec h1 h2
/-! ### equal trees are the same, and can be compared -/
mutual
def plD : D → Bool
  | .non => true
  | .int _ => true
  | .str _ => true
  | .tup ds => plDs ds
  | _ => false
def plDs : List D → Bool
  | [] => true
  | d :: r => plD d && plDs r
end
mutual
theorem eqv_pl : ∀ (a b : D), plD a = true → plD b = true → (PyData.eqv (toP a) (toP b) = true ↔ a = b)
  | .non, b, _, hb => by cases b <;> first | (simp [plD] at hb; done) | simp [toP, PyData.eqv]
  | .int i, b, _, hb => by cases b <;> first | (simp [plD] at hb; done) | simp [toP, PyData.eqv]
  | .str x, b, _, hb => by cases b <;> first | (simp [plD] at hb; done) | simp [toP, PyData.eqv]
  | .tup xs, b, ha, hb => by
    cases b with
    | tup ys =>
      simp only [toP, PyData.eqv, D.tup.injEq]
      exact eqvs_pl xs ys (by simpa only [plD] using ha) (by simpa only [plD] using hb)
    | _ => first | (simp [plD] at hb; done) | simp [toP, PyData.eqv]
  | .bl _, _, ha, _ => by simp [plD] at ha
  | .lst _, _, ha, _ => by simp [plD] at ha
  | .rol _, _, ha, _ => by simp [plD] at ha
  | .tpd _, _, ha, _ => by simp [plD] at ha
  | .rod _ _, _, ha, _ => by simp [plD] at ha
theorem eqvs_pl : ∀ (xs ys : List D), plDs xs = true → plDs ys = true → (PyData.eqvAll (toPs xs) (toPs ys) = true ↔ xs = ys)
  | [], [], _, _ => by simp [toPs, PyData.eqvAll]
  | [], _ :: _, _, _ => by simp [toPs, PyData.eqvAll]
  | _ :: _, [], _, _ => by simp [toPs, PyData.eqvAll]
  | x :: xs, y :: ys, ha, hb => by
    simp only [plDs, Bool.and_eq_true] at ha hb
    simp only [toPs, PyData.eqvAll, Bool.and_eq_true, List.cons.injEq]
    rw [eqv_pl x y ha.1 hb.1, eqvs_pl xs ys ha.2 hb.2]
end
theorem plDs_map {α : Type} {f : α → D} : ∀ {l : List α}, (∀ x ∈ l, plD (f x) = true) → plDs (l.map f) = true
  | [], _ => by simp [plDs]
  | a :: l, h => by
    simp only [List.map_cons, plDs, Bool.and_eq_true]
    exact ⟨h a (by simp), plDs_map fun x hx => h x (by simp [hx])⟩
theorem pl_tm (t : Tm) : plD (encTm t) = true := by
  cases t with
  | col x => simp [encTm, plD, plDs]
  | val v => cases v <;> simp [encTm, encV, plD, plDs]
theorem pl_C (cs : List Str) : plD (encC cs) = true := by
  simp only [encC, plD]
  exact plDs_map fun x _ => by simp [plD]
theorem pl_O (w : Option Int) : plD (encO w) = true := by cases w <;> simp [encO, plD]
theorem pl_Q : ∀ q : Qn, plD (encQ q) = true
  | .fact n ts => by simp only [encQ, plD, plDs, Bool.and_true, Bool.true_and]; exact plDs_map fun t _ => pl_tm t
  | .two k p q => by simp only [encQ, plD, plDs, Bool.and_true, Bool.true_and, pl_Q p, pl_Q q]
  | .only cs p => by simp only [encQ, plD, plDs, Bool.and_true, Bool.true_and, pl_C cs, pl_Q p]
  | .whr t l r p => by simp only [encQ, plD, plDs, Bool.and_true, Bool.true_and, pl_tm, pl_Q p]
  | .shift n p => by simp only [encQ, plD, plDs, Bool.and_true, Bool.true_and, pl_Q p]
  | .look k w p => by simp only [encQ, plD, plDs, Bool.and_true, Bool.true_and, pl_O, pl_Q p]
  | .count n ks p => by simp only [encQ, plD, plDs, Bool.and_true, Bool.true_and, pl_C, pl_Q p]
  | .total k n c ks p => by simp only [encQ, plD, plDs, Bool.and_true, Bool.true_and, pl_C, pl_Q p]
  | .link k x y p => by simp only [encQ, plD, plDs, Bool.and_true, Bool.true_and, pl_Q p]
theorem eqv_CC (a b : List Str) : PyData.eqv (toP (encC a)) (toP (encC b)) = true ↔ a = b := by
  rw [eqv_pl _ _ (pl_C a) (pl_C b)]
  exact ⟨encC_inj, fun h => by rw [h]⟩
theorem lay_map {α : Type} {f : α → D} : ∀ {l : List α}, (∀ x ∈ l, (toP (f x)).canLay0 = true) → PyData.canLayAll0 (toPs (l.map f)) = true
  | [], _ => by simp [toPs, PyData.canLayAll0]
  | a :: l, h => by
    simp only [List.map_cons, toPs, PyData.canLayAll0, Bool.and_eq_true]
    exact ⟨h a (by simp), lay_map fun x hx => h x (by simp [hx])⟩
theorem dep_map {α : Type} {f : α → D} {n : Nat} : ∀ {l : List α}, (∀ x ∈ l, (toP (f x)).depth ≤ n) → PyData.depthAll (toPs (l.map f)) ≤ n
  | [], _ => by simp [toPs, PyData.depthAll]
  | a :: l, h => by
    simp only [List.map_cons, toPs, PyData.depthAll]
    exact Nat.max_le.mpr ⟨h a (by simp), dep_map fun x hx => h x (by simp [hx])⟩
theorem lay_tm {t : Tm} (h : okTm t) : (toP (encTm t)).canLay0 = true ∧ (toP (encTm t)).depth ≤ 1 := by
  have hc := lay_word (w := PySem.Str.ofString "col") (by decide)
  have hv := lay_word (w := PySem.Str.ofString "value") (by decide)
  cases t with
  | col x =>
    have := lay_word h
    simp only [encTm, toP, toPs, PyData.canLay0, PyData.canLayAll0, PyData.depth, PyData.depthAll] at *
    simp [hc, this]
  | val v =>
    cases v with
    | i n => simp only [encTm, encV, toP, toPs, PyData.canLay0, PyData.canLayAll0, PyData.depth, PyData.depthAll] at *; simp [hv]
    | s w =>
      have := lay_word (show isW w = true from h)
      simp only [encTm, encV, toP, toPs, PyData.canLay0, PyData.canLayAll0, PyData.depth, PyData.depthAll] at *
      simp [hv, this]
theorem okTm_fit {cs : List Str} {t : Tm} (hc : ∀ x ∈ cs, isW x = true) (h : fitTm cs t) : okTm t := by
  cases t with
  | col x => exact hc x h
  | val v => exact h
theorem lay_CC {ws : List Str} (h : ∀ w ∈ ws, isW w = true) : (toP (encC ws)).canLay0 = true ∧ (toP (encC ws)).depth ≤ 1 := by
  simp only [encC, toP, PyData.canLay0, PyData.depth]
  refine ⟨lay_map fun x hx => ?_, ?_⟩
  · simpa only [toP] using lay_word (h x hx)
  · have := dep_map (f := D.str) (l := ws) (n := 0) fun x hx => by simp [toP, PyData.depth]
    omega
theorem w_K2 (k : K2) : isW k.s = true := by cases k <;> decide
theorem w_K4 (k : K4) : isW k.s = true := by cases k <;> decide
theorem w_K3 (k : K3) : isW k.s = true := by cases k <;> decide
theorem w_KL (k : KL) : isW k.s = true := by cases k <;> decide
theorem lay_kd (q : Qn) : (PyData.str (kd q)).canLay0 = true := by
  refine lay_word ?_
  cases q with
  | two k => exact w_K2 k
  | look k => exact w_K4 k
  | total k => exact w_K3 k
  | link k => exact w_KL k
  | fact => exact (by decide : isW (PySem.Str.ofString "fact") = true)
  | only => exact (by decide : isW (PySem.Str.ofString "only") = true)
  | whr => exact (by decide : isW (PySem.Str.ofString "where") = true)
  | shift => exact (by decide : isW (PySem.Str.ofString "shift") = true)
  | count => exact (by decide : isW (PySem.Str.ofString "count") = true)
theorem lay_cmps {t : Str} (h : t ∈ cmps) : (PyData.str t).canLay0 = true := by
  simp only [cmps, List.mem_cons, List.not_mem_nil, or_false] at h
  rcases h with rfl | rfl | rfl <;> exact lay_word (by decide)
theorem lay_O (w : Option Int) : (toP (encO w)).canLay0 = true ∧ (toP (encO w)).depth = 0 := by cases w <;> simp [encO, toP, PyData.canLay0, PyData.depth]
theorem lay_Q : ∀ q : Qn, okQ q → (toP (encQ q)).canLay0 = true ∧ (toP (encQ q)).depth ≤ dpQ q + 2
  | .fact n ts, h => by
    have hk := lay_kd (.fact n ts)
    have h1 := lay_word h.1.1
    have h2 := lay_map (f := encTm) (l := ts) fun t ht => (lay_tm (h.1.2.2 t ht)).1
    have h3 := dep_map (f := encTm) (l := ts) (n := 1) fun t ht => (lay_tm (h.1.2.2 t ht)).2
    simp only [kd] at hk
    simp only [encQ, toP, toPs, PyData.canLay0, PyData.canLayAll0, PyData.depth, PyData.depthAll, dpQ, Bool.and_eq_true] at *
    exact ⟨⟨hk, h1, h2, trivial⟩, by omega⟩
  | .two k p q, h => by
    have hk := lay_kd (.two k p q)
    obtain ⟨p1, p2⟩ := lay_Q p h.2.1
    obtain ⟨q1, q2⟩ := lay_Q q h.2.2
    simp only [kd] at hk
    simp only [encQ, toP, toPs, PyData.canLay0, PyData.canLayAll0, PyData.depth, PyData.depthAll, dpQ, Bool.and_eq_true] at *
    exact ⟨⟨hk, p1, q1, trivial⟩, by omega⟩
  | .only cs p, h => by
    have hk := lay_kd (.only cs p)
    obtain ⟨p1, p2⟩ := lay_Q p h.2
    obtain ⟨c1, c2⟩ := lay_CC (ws := cs) fun w hw => (colsQ_ok p h.2).2 w (h.1.1.2 w hw)
    simp only [kd] at hk
    simp only [encQ, toP, toPs, PyData.canLay0, PyData.canLayAll0, PyData.depth, PyData.depthAll, dpQ, Bool.and_eq_true] at *
    exact ⟨⟨hk, c1, p1, trivial⟩, by omega⟩
  | .whr t l r p, h => by
    have hk := lay_kd (.whr t l r p)
    obtain ⟨p1, p2⟩ := lay_Q p h.2
    have ht := lay_cmps h.1.1.1
    obtain ⟨l1, l2⟩ := lay_tm (okTm_fit (colsQ_ok p h.2).2 h.1.1.2.1)
    obtain ⟨r1, r2⟩ := lay_tm (okTm_fit (colsQ_ok p h.2).2 h.1.1.2.2)
    simp only [kd] at hk
    simp only [encQ, toP, toPs, PyData.canLay0, PyData.canLayAll0, PyData.depth, PyData.depthAll, dpQ, Bool.and_eq_true] at *
    exact ⟨⟨hk, ht, l1, r1, p1, trivial⟩, by omega⟩
  | .shift n p, h => by
    have hk := lay_kd (.shift n p)
    obtain ⟨p1, p2⟩ := lay_Q p h.2
    simp only [kd] at hk
    simp only [encQ, toP, toPs, PyData.canLay0, PyData.canLayAll0, PyData.depth, PyData.depthAll, dpQ, Bool.and_eq_true] at *
    exact ⟨⟨hk, trivial, p1, trivial⟩, by omega⟩
  | .look k w p, h => by
    have hk := lay_kd (.look k w p)
    obtain ⟨p1, p2⟩ := lay_Q p h.2
    obtain ⟨w1, w2⟩ := lay_O w
    simp only [kd] at hk
    simp only [encQ, toP, toPs, PyData.canLay0, PyData.canLayAll0, PyData.depth, PyData.depthAll, dpQ, Bool.and_eq_true] at *
    exact ⟨⟨hk, w1, p1, trivial⟩, by omega⟩
  | .count n ks p, h => by
    have hk := lay_kd (.count n ks p)
    obtain ⟨p1, p2⟩ := lay_Q p h.2
    have h1 := lay_word h.1.1.1
    obtain ⟨c1, c2⟩ := lay_CC (ws := ks) fun w hw => (colsQ_ok p h.2).2 w (h.1.1.2.2.2 w hw)
    simp only [kd] at hk
    simp only [encQ, toP, toPs, PyData.canLay0, PyData.canLayAll0, PyData.depth, PyData.depthAll, dpQ, Bool.and_eq_true] at *
    exact ⟨⟨hk, h1, c1, p1, trivial⟩, by omega⟩
  | .total k n c ks p, h => by
    have hk := lay_kd (.total k n c ks p)
    obtain ⟨p1, p2⟩ := lay_Q p h.2
    have h1 := lay_word h.1.1.1
    have h2 := lay_word ((colsQ_ok p h.2).2 c h.1.1.2.2.2)
    obtain ⟨c1, c2⟩ := lay_CC (ws := ks) fun w hw => (colsQ_ok p h.2).2 w (h.1.1.2.2.1.2 w hw)
    simp only [kd] at hk
    simp only [encQ, toP, toPs, PyData.canLay0, PyData.canLayAll0, PyData.depth, PyData.depthAll, dpQ, Bool.and_eq_true] at *
    exact ⟨⟨hk, h1, h2, c1, p1, trivial⟩, by omega⟩
  | .link k x y p, h => by
    have hk := lay_kd (.link k x y p)
    obtain ⟨p1, p2⟩ := lay_Q p h.2
    have hx : ∀ z ∈ [x, y], isW z = true := fun z hz => (colsQ_ok p h.2).2 z (by rw [← h.1.1.2]; exact mem_ordS.mpr hz)
    have h1 := lay_word (hx x (by simp))
    have h2 := lay_word (hx y (by simp))
    simp only [kd] at hk
    simp only [encQ, toP, toPs, PyData.canLay0, PyData.canLayAll0, PyData.depth, PyData.depthAll, dpQ, Bool.and_eq_true] at *
    exact ⟨⟨hk, h1, h2, p1, trivial⟩, by omega⟩
theorem shaped_Q {q : Qn} (h : okQ q) (hd : dpQ q ≤ 40) : SeqAt.shaped (toP (encQ q)) = true := by
  obtain ⟨h1, h2⟩ := lay_Q q h
  unfold SeqAt.shaped
  rw [h1, decide_eq_true (by omega)]
  rfl
end DL

set_option maxHeartbeats 1000000
namespace DL
open PySem PySem.Spec PyProof.Rows L2
/-! ### the twelve rules -/
def sameK : K2 → Bool
  | .both => true | .either => true | .since => true | .until => true
  | _ => false
def shK : K2 → Bool
  | .both => true | .either => true | .unless => true
  | _ => false
def someK : K4 → Bool
  | .once => true | .soon => true
  | _ => false
def isLinked : Qn → Bool
  | .link .linked _ _ _ => true
  | _ => false
def jb : Option Int → Option Int → Option Int
  | some a, some b => some (a + b)
  | _, _ => none
instance decK2 : DecidableEq K2 := fun a b => by cases a <;> cases b <;> first | exact isTrue rfl | exact isFalse (fun h => nomatch h)
instance decK4 : DecidableEq K4 := fun a b => by cases a <;> cases b <;> first | exact isTrue rfl | exact isFalse (fun h => nomatch h)
open Classical in
noncomputable def rul : Qn → Option Qn
  | .shift n p => if n = 0 then some p else match p with
    | .shift m r => if 0 ≤ n ∨ m ≤ 0 then some (.shift (n + m) r) else none
    | _ => none
  | .look k w p => if w = some 0 then some p else match p with
    | .look k' w' r => if k = k' then some (.look k (jb w w') r) else none
    | _ => none
  | .only cs p => if cs = colsQ p then some p else match p with
    | .only _ r => some (.only cs r)
    | _ => none
  | .link .linked _ _ p => if isLinked p = true then some p else none
  | .two k p q => if sameK k = true ∧ p = q then some p else match p, q with
    | .shift a p', .shift b q' => if shK k = true ∧ a = b then some (.shift a (.two k p' q')) else none
    | .look k1 a p', .look k2 b q' => if (k = .either ∧ someK k1 = true ∨ k = .both ∧ someK k1 = false) ∧ k1 = k2 ∧ a = b then some (.look k1 a (.two k p' q')) else none
    | .two k1 p' q', .two k2 s r => if k = .either ∧ folB k1 = true ∧ k1 = k2 ∧ p' = s then some (.two k1 p' (.two .either q' r)) else none
    | _, _ => none
  | _ => none
def mp (f : Qn → Qn) : Qn → Qn
  | .fact n ts => .fact n ts
  | .two k p q => .two k (f p) (f q)
  | .only cs p => .only cs (f p)
  | .whr t l r p => .whr t l r (f p)
  | .shift n p => .shift n (f p)
  | .look k w p => .look k w (f p)
  | .count n ks p => .count n ks (f p)
  | .total k n c ks p => .total k n c ks (f p)
  | .link k x y p => .link k x y (f p)
theorem mp_parts (f : Qn → Qn) (q : Qn) : partsQ (mp f q) = (partsQ q).map f := by cases q <;> rfl
theorem mp_congr {f g : Qn → Qn} {q : Qn} (h : ∀ p ∈ partsQ q, f p = g p) : mp f q = mp g q := by
  cases q <;> simp only [partsQ, List.mem_cons, List.not_mem_nil, or_false, forall_eq_or_imp, forall_eq] at h <;> simp [mp, h]
theorem mp_id {f : Qn → Qn} {q : Qn} (h : ∀ p ∈ partsQ q, f p = p) : mp f q = q := by
  cases q <;> simp only [partsQ, List.mem_cons, List.not_mem_nil, or_false, forall_eq_or_imp, forall_eq] at h <;> simp [mp, h]
theorem cnt_mp {f : Qn → Qn} {q : Qn} (h : ∀ p ∈ partsQ q, cntQ (f p) ≤ cntQ p) : cntQ (mp f q) ≤ cntQ q := by
  cases q <;> simp only [partsQ, List.mem_cons, List.not_mem_nil, or_false, forall_eq_or_imp, forall_eq] at h <;> simp only [mp, cntQ] <;> omega
theorem cnt_part {q p : Qn} (h : p ∈ partsQ q) : cntQ p < cntQ q := by
  cases q <;> simp only [partsQ, List.mem_cons, List.not_mem_nil, or_false] at h <;> simp only [cntQ]
  · rcases h with rfl | rfl <;> omega
  all_goals (subst h; omega)
theorem dp_mp {f : Qn → Qn} {q : Qn} (h : ∀ p ∈ partsQ q, dpQ (f p) ≤ dpQ p) : dpQ (mp f q) ≤ dpQ q := by
  cases q <;> simp only [partsQ, List.mem_cons, List.not_mem_nil, or_false, forall_eq_or_imp, forall_eq] at h <;> simp only [mp, dpQ] <;> omega
/-- what a rule does to the sizes -/
theorem rul_sz {q c : Qn} (h : rul q = some c) : cntQ c < cntQ q ∧ dpQ c ≤ dpQ q := by
  unfold rul at h
  cases q with
  | fact => cases h
  | whr => cases h
  | count => cases h
  | total => cases h
  | shift n p =>
    dsimp only at h
    split at h
    · cases h; simp only [cntQ, dpQ]; omega
    · split at h
      · split at h
        · cases h; simp only [cntQ, dpQ]; omega
        · cases h
      · cases h
  | look k w p =>
    dsimp only at h
    split at h
    · cases h; simp only [cntQ, dpQ]; omega
    · split at h
      · split at h
        · cases h; simp only [cntQ, dpQ]; omega
        · cases h
      · cases h
  | only cs p =>
    dsimp only at h
    split at h
    · cases h; simp only [cntQ, dpQ]; omega
    · split at h
      · cases h; simp only [cntQ, dpQ]; omega
      · cases h
  | link k x y p =>
    cases k
    · dsimp only at h
      split at h
      · cases h; simp only [cntQ, dpQ]; omega
      · cases h
    · cases h
  | two k p q =>
    dsimp only at h
    split at h
    · cases h; simp only [cntQ, dpQ]; omega
    · split at h
      all_goals first
        | (split at h
           · cases h; simp only [cntQ, dpQ]; omega
           · cases h)
        | cases h
/-! ### what is valid stays valid -/
theorem okQ_mk {q : Qn} (h1 : okN q) (h2 : (colsQ q).length ≤ 8) (h3 : ∀ p ∈ partsQ q, okQ p) : okQ q := by
  cases q <;> simp only [partsQ, List.mem_cons, List.not_mem_nil, or_false, forall_eq_or_imp, forall_eq] at h3
  case fact => exact ⟨h1, h2⟩
  case two => exact ⟨⟨h1, h2⟩, h3.1, h3.2⟩
  all_goals exact ⟨⟨h1, h2⟩, h3⟩
theorem cols_mp {f : Qn → Qn} {q : Qn} (h : ∀ p ∈ partsQ q, colsQ (f p) = colsQ p) : colsQ (mp f q) = colsQ q := by
  cases q <;> simp only [partsQ, List.mem_cons, List.not_mem_nil, or_false, forall_eq_or_imp, forall_eq] at h <;> simp only [mp, colsQ, h]
theorem okN_mp {f : Qn → Qn} {q : Qn} (h : ∀ p ∈ partsQ q, colsQ (f p) = colsQ p) (ok : okN q) : okN (mp f q) := by
  cases q <;> simp only [partsQ, List.mem_cons, List.not_mem_nil, or_false, forall_eq_or_imp, forall_eq] at h
  case two k p q => cases k <;> simpa only [mp, okN, h] using ok
  all_goals simpa only [mp, okN, h] using ok
theorem ok_mp {f : Qn → Qn} {q : Qn} (h : ∀ p ∈ partsQ q, okQ (f p) ∧ colsQ (f p) = colsQ p) (ok : okQ q) : okQ (mp f q) ∧ colsQ (mp f q) = colsQ q := by
  have hc := cols_mp fun p hp => (h p hp).2
  refine ⟨okQ_mk (okN_mp (fun p hp => (h p hp).2) (okQ_node ok)) (by rw [hc]; exact okQ_cols ok) fun p hp => ?_, hc⟩
  rw [mp_parts] at hp
  obtain ⟨a, ha, rfl⟩ := List.mem_map.mp hp
  exact (h a ha).1
theorem jb_ok {a b : Option Int} (ha : ∀ k, a = some k → 0 ≤ k) (hb : ∀ k, b = some k → 0 ≤ k) : ∀ k, jb a b = some k → 0 ≤ k := by
  intro k e
  cases a <;> cases b <;> simp only [jb, reduceCtorEq, Option.some.injEq] at e
  have := ha _ rfl
  have := hb _ rfl
  omega
theorem cols_fol {k : K2} (h : folB k = true) {a b : Qn} : colsQ (.two k a b) = colsQ b := by cases k <;> first | rfl | simp [folB] at h
theorem okN_fol {k : K2} (h : folB k = true) {a b : Qn} : okN (.two k a b) ↔ ∀ x ∈ colsQ a, x ∈ colsQ b := by cases k <;> first | rfl | simp [folB] at h
theorem rul_ok {q c : Qn} (ok : okQ q) (h : rul q = some c) : okQ c ∧ colsQ c = colsQ q := by
  have hl := okQ_cols ok
  unfold rul at h
  cases q with
  | fact => cases h
  | whr => cases h
  | count => cases h
  | total => cases h
  | shift n p =>
    have hp := ok.2
    dsimp only at h
    split at h
    · cases h; exact ⟨hp, rfl⟩
    · split at h
      · split at h
        · cases h; exact ⟨⟨⟨trivial, hl⟩, hp.2⟩, rfl⟩
        · cases h
      · cases h
  | look k w p =>
    have hp := ok.2
    dsimp only at h
    split at h
    · cases h; exact ⟨hp, rfl⟩
    · split at h
      · split at h
        · cases h; exact ⟨⟨⟨jb_ok ok.1.1 hp.1.1, hl⟩, hp.2⟩, rfl⟩
        · cases h
      · cases h
  | only cs p =>
    have hp := ok.2
    dsimp only at h
    split at h
    · rename_i e; cases h; exact ⟨hp, e.symm⟩
    · split at h
      · cases h; exact ⟨⟨⟨⟨ok.1.1.1, fun x hx => hp.1.1.2 x (ok.1.1.2 x hx)⟩, hl⟩, hp.2⟩, rfl⟩
      · cases h
  | link k x y p =>
    have hp := ok.2
    cases k
    · dsimp only at h
      split at h
      · cases h; exact ⟨hp, rfl⟩
      · cases h
    · cases h
  | two k p q =>
    obtain ⟨⟨hn, _⟩, hp, hq⟩ := ok
    dsimp only at h
    split at h
    · rename_i e
      cases h
      obtain ⟨e1, rfl⟩ := e
      refine ⟨hp, ?_⟩
      cases k <;> simp only [sameK, Bool.false_eq_true] at e1 <;> simp only [colsQ]
      exact (ordS_eq (l := colsQ _ ++ colsQ _) (colsQ_ok _ hp).1 fun x => by simp).symm
    · split at h
      · rename_i a p' b q' _
        split at h
        · rename_i e
          cases h
          obtain ⟨e1, rfl⟩ := e
          refine ⟨⟨⟨trivial, ?_⟩, ⟨⟨?_, ?_⟩, hp.2, hq.2⟩⟩, ?_⟩ <;> cases k <;> simp only [shK, Bool.false_eq_true] at e1 <;> first | exact hl | exact hn | rfl
        · cases h
      · rename_i k1 a p' k2 b q' _
        split at h
        · rename_i e
          cases h
          obtain ⟨e1, rfl, rfl⟩ := e
          rcases e1 with ⟨rfl, _⟩ | ⟨rfl, _⟩
          · exact ⟨⟨⟨hp.1.1, hl⟩, ⟨⟨hn, hl⟩, hp.2, hq.2⟩⟩, rfl⟩
          · exact ⟨⟨⟨hp.1.1, hl⟩, ⟨⟨hn, hl⟩, hp.2, hq.2⟩⟩, rfl⟩
        · cases h
      · rename_i k1 p' q' k2 s r _
        split at h
        · rename_i e
          cases h
          obtain ⟨rfl, e1, rfl, rfl⟩ := e
          have hn' := show colsQ (.two _ _ _) = colsQ (.two _ _ _) from hn
          have hl' := show (colsQ (.two _ _ _)).length ≤ 8 from hl
          have e0 : ∀ a b, colsQ (.two K2.either a b) = colsQ a := fun _ _ => rfl
          rw [cols_fol e1, cols_fol e1] at hn'
          rw [e0, cols_fol e1] at hl'
          refine ⟨⟨⟨(okN_fol e1).mpr fun x hx => (okN_fol e1).mp hp.1.1 x hx, by rw [cols_fol e1]; exact hl'⟩, hp.2.1, ⟨⟨hn', hl'⟩, hp.2.2, hq.2.2⟩⟩, ?_⟩
          rw [cols_fol e1, e0, e0, cols_fol e1]
        · cases h
      · cases h
/-! ### rules applied as often as they fit, from the leaves up -/
noncomputable def simF : Nat → Qn → Qn
  | 0, q => q
  | n + 1, q => match rul (mp (simF n) q) with
    | none => mp (simF n) q
    | some c => simF n c
theorem simF_cnt : ∀ (n : Nat) (q : Qn), cntQ (simF n q) ≤ cntQ q
  | 0, q => Nat.le_refl _
  | n + 1, q => by
    have h := cnt_mp (f := simF n) (q := q) fun p _ => simF_cnt n p
    unfold simF
    split
    · exact h
    · rename_i c e
      have := (rul_sz e).1
      have := simF_cnt n c
      omega
theorem simF_dp : ∀ (n : Nat) (q : Qn), dpQ (simF n q) ≤ dpQ q
  | 0, q => Nat.le_refl _
  | n + 1, q => by
    have h := dp_mp (f := simF n) (q := q) fun p _ => simF_dp n p
    unfold simF
    split
    · exact h
    · rename_i c e
      have := (rul_sz e).2
      have := simF_dp n c
      omega
theorem simF_ok : ∀ (n : Nat) (q : Qn), okQ q → okQ (simF n q) ∧ colsQ (simF n q) = colsQ q
  | 0, q, h => ⟨h, rfl⟩
  | n + 1, q, h => by
    obtain ⟨h1, h2⟩ := ok_mp (f := simF n) (q := q) (fun p hp => simF_ok n p (okQ_part h hp)) h
    unfold simF
    split
    · exact ⟨h1, h2⟩
    · rename_i c e
      obtain ⟨h3, h4⟩ := rul_ok h1 e
      obtain ⟨h5, h6⟩ := simF_ok n c h3
      exact ⟨h5, by rw [h6, h4, h2]⟩
theorem simF_eq : ∀ (n m : Nat) (q : Qn), cntQ q ≤ n → cntQ q ≤ m → simF n q = simF m q
  | 0, m, q, h, _ => by have := cnt_pos q; omega
  | n + 1, 0, q, _, h => by have := cnt_pos q; omega
  | n + 1, m + 1, q, h1, h2 => by
    have e : mp (simF n) q = mp (simF m) q := mp_congr fun p hp => by
      have := cnt_part hp
      exact simF_eq n m p (by omega) (by omega)
    have h := cnt_mp (f := simF n) (q := q) fun p _ => simF_cnt n p
    unfold simF
    rw [← e]
    split
    · rfl
    · rename_i c ec
      have := (rul_sz ec).1
      exact simF_eq n m c (by omega) (by omega)
noncomputable def simQ (q : Qn) : Qn := simF (cntQ q) q
theorem simQ_eq (q : Qn) : simQ q = match rul (mp simQ q) with
    | none => mp simQ q
    | some c => simQ c := by
  have hc := cnt_pos q
  obtain ⟨n, hn⟩ : ∃ n, cntQ q = n + 1 := ⟨cntQ q - 1, by omega⟩
  have e : mp (simF n) q = mp simQ q := mp_congr fun p hp => by
    have := cnt_part hp
    exact simF_eq n _ p (by omega) (Nat.le_refl _)
  have h := cnt_mp (f := simF n) (q := q) fun p _ => simF_cnt n p
  rw [show simQ q = simF (n + 1) q by unfold simQ; rw [hn]]
  unfold simF
  rw [e]
  split
  · rfl
  · rename_i c ec
    have := (rul_sz ec).1
    rw [← e] at ec
    have h2 := (rul_sz ec).1
    exact simF_eq n _ c (by omega) (Nat.le_refl _)
theorem simQ_cnt (q : Qn) : cntQ (simQ q) ≤ cntQ q := simF_cnt _ q
theorem simQ_dp (q : Qn) : dpQ (simQ q) ≤ dpQ q := simF_dp _ q
theorem simQ_ok {q : Qn} (h : okQ q) : okQ (simQ q) ∧ colsQ (simQ q) = colsQ q := simF_ok _ q h
theorem mps_ok {q : Qn} (h : okQ q) : okQ (mp simQ q) ∧ colsQ (mp simQ q) = colsQ q := ok_mp (fun p hp => simQ_ok (okQ_part h hp)) h
theorem mps_dp (q : Qn) : dpQ (mp simQ q) ≤ dpQ q := dp_mp fun p _ => simQ_dp p
theorem mps_cnt (q : Qn) : cntQ (mp simQ q) ≤ cntQ q := cnt_mp fun p _ => simQ_cnt p
/-! ### where no rule fits any more -/
def stl : Qn → Prop
  | q@(.fact ..) => rul q = none
  | q@(.two _ a b) => rul q = none ∧ stl a ∧ stl b
  | q@(.only _ a) => rul q = none ∧ stl a
  | q@(.whr _ _ _ a) => rul q = none ∧ stl a
  | q@(.shift _ a) => rul q = none ∧ stl a
  | q@(.look _ _ a) => rul q = none ∧ stl a
  | q@(.count _ _ a) => rul q = none ∧ stl a
  | q@(.total _ _ _ _ a) => rul q = none ∧ stl a
  | q@(.link _ _ _ a) => rul q = none ∧ stl a
theorem stl_iff (q : Qn) : stl q ↔ rul q = none ∧ ∀ p ∈ partsQ q, stl p := by
  cases q <;> simp [stl, partsQ]
theorem simF_stl : ∀ (n : Nat) (q : Qn), cntQ q ≤ n → stl (simF n q)
  | 0, q, h => by have := cnt_pos q; omega
  | n + 1, q, hn => by
    have h := cnt_mp (f := simF n) (q := q) fun p _ => simF_cnt n p
    unfold simF
    split
    · rename_i e
      refine (stl_iff _).mpr ⟨e, fun p hp => ?_⟩
      rw [mp_parts] at hp
      obtain ⟨a, ha, rfl⟩ := List.mem_map.mp hp
      have := cnt_part ha
      exact simF_stl n a (by omega)
    · rename_i c e
      have := (rul_sz e).1
      exact simF_stl n c (by omega)
theorem simQ_stl (q : Qn) : stl (simQ q) := simF_stl _ q (Nat.le_refl _)
theorem simF_fix : ∀ (n : Nat) (q : Qn), stl q → simF n q = q
  | 0, q, _ => rfl
  | n + 1, q, h => by
    obtain ⟨h1, h2⟩ := (stl_iff q).mp h
    have e : mp (simF n) q = q := mp_id fun p hp => simF_fix n p (h2 p hp)
    unfold simF
    rw [e, h1]
theorem simQ_fix {q : Qn} (h : stl q) : simQ q = q := simF_fix _ q h
end DL

set_option maxHeartbeats 1000000
namespace DL
open PySem PySem.Spec PyProof.Rows L2
abbrev tab_SOME_MOMENT : List Str := [PySem.Str.ofString "once", PySem.Str.ofString "soon"]
abbrev tab_EVERY_MOMENT : List Str := [PySem.Str.ofString "lately", PySem.Str.ofString "henceforth"]
abbrev tab_SAME_TWICE : List Str := [PySem.Str.ofString "both", PySem.Str.ofString "either", PySem.Str.ofString "since", PySem.Str.ofString "until"]
abbrev tab_SHIFTED_TOGETHER : List Str := [PySem.Str.ofString "both", PySem.Str.ofString "either", PySem.Str.ofString "unless"]
/-! ### the program's rules -/
def encR : Option Qn → D
  | none => .non
  | some q => encQ q
def sp_joined_bound : FSpec where
  pre := fun ds => ∃ a b : Option Int, ds = [encO a, encO b]
  post := fun ds r ds' => ds' = ds ∧ ∀ a b : Option Int, ds = [encO a, encO b] → r = encO (jb a b)
/-- slots: 0 one, 1 other -/
def w_joined_bound : WS :=
    (cSeq (cIte (cOr (cUn (fIsN false) (cVar 0)) (cUn (fIsN false) (cVar 1)))
      (cRet 2 (cC .non))
      cNilS)
    (cRet 2 (cOp fAddG (cVar 0) (cVar 1))))
theorem jb_post {a b : Option Int} {r : D} (h : r = encO (jb a b)) : ∀ a' b' : Option Int, [encO a, encO b] = [encO a', encO b'] → r = encO (jb a' b') := by
  intro a' b' e
  simp only [List.cons.injEq, and_true] at e
  cases encO_inj e.1
  cases encO_inj e.2
  exact h
local macro_rules | `(tactic| walk_at "Ddlx") => `(tactic| ((conv => whnf); (repeat ((first | ((with_reducible refine And.intro (stOk_nl ?_ ?_) ?_); (focus (with_reducible first | assumption | exact encQ_nl _ | exact encO_nl _ | exact encC_nl _)); (focus exact rfl)) | ((refine pick_nl ?_ ?_); (focus (with_reducible first | assumption | exact encQ_nl _ | exact encO_nl _ | exact encC_nl _))) | ((with_reducible refine And.intro ?_ ?_); (focus (with_reducible first | assumption | exact encQ_nl _ | exact encO_nl _ | exact encC_nl _))) | ((with_reducible refine And.intro (immA_c ?_ ?_) ?_); (focus (first | (with_reducible first | assumption | exact encQ_nl _ | exact encO_nl _ | exact encC_nl _) | exact rfl)); (focus ((repeat ((with_reducible refine immA_c ?_ ?_); (focus (first | (with_reducible first | assumption | exact encQ_nl _ | exact encO_nl _ | exact encC_nl _) | exact rfl)))); exact rfl))) | refine And.intro rfl ?_ | refine And.intro trivial ?_ | refine And.intro ⟨rfl, trivial⟩ ?_ | refine And.intro ⟨rfl, rfl, trivial⟩ ?_ | refine ifb_nq (by first | assumption | decide) ?_ | refine ifb_pq (by assumption) ?_ | refine ifb_er ?_ | refine ifb_t ?_ | refine ifb_f ?_ | refine ifb_nr ?_ | refine ifb_er ?_ | ((with_reducible refine And.intro (?_ : (_ : Nat) ≤ _) ?_); (focus (first | decide | omega | (unfold CMul; omega) | (unfold CDiv; omega) | (unfold CPow; decide) | (exact cpow1 (by omega) (by omega)) | (simp only [rngD_len, List.length_replicate, List.length_map, List.length_append, List.length_cons, List.length_nil, List.length_set] at *; omega)))) | ((with_reducible refine And.intro (?_ : (_ : Int) ≤ _) ?_); (focus (first | decide | omega | (unfold CMul; omega) | (unfold CDiv; omega) | (unfold CPow; decide) | (exact cpow1 (by omega) (by omega)) | (simp only [rngD_len, List.length_replicate, List.length_map, List.length_append, List.length_cons, List.length_nil, List.length_set] at *; omega)))) | ((with_reducible refine And.intro (?_ : (_ : Nat) < _) ?_); (focus (first | decide | omega | (unfold CMul; omega) | (unfold CDiv; omega) | (unfold CPow; decide) | (exact cpow1 (by omega) (by omega)) | (simp only [rngD_len, List.length_replicate, List.length_map, List.length_append, List.length_cons, List.length_nil, List.length_set] at *; omega)))) | ((with_reducible refine And.intro (?_ : (_ : Int) < _) ?_); (focus (first | decide | omega | (unfold CMul; omega) | (unfold CDiv; omega) | (unfold CPow; decide) | (exact cpow1 (by omega) (by omega)) | (simp only [rngD_len, List.length_replicate, List.length_map, List.length_append, List.length_cons, List.length_nil, List.length_set] at *; omega)))) | ((with_reducible refine And.intro (?_ : CMul _ _) ?_); (focus (first | decide | omega | (unfold CMul; omega) | (unfold CDiv; omega) | (unfold CPow; decide) | (exact cpow1 (by omega) (by omega)) | (simp only [rngD_len, List.length_replicate, List.length_map, List.length_append, List.length_cons, List.length_nil, List.length_set] at *; omega)))) | ((with_reducible refine And.intro (?_ : CDiv _ _) ?_); (focus (first | decide | omega | (unfold CMul; omega) | (unfold CDiv; omega) | (unfold CPow; decide) | (exact cpow1 (by omega) (by omega)) | (simp only [rngD_len, List.length_replicate, List.length_map, List.length_append, List.length_cons, List.length_nil, List.length_set] at *; omega)))) | ((with_reducible refine And.intro (?_ : CPow _ _) ?_); (focus (first | decide | omega | (unfold CMul; omega) | (unfold CDiv; omega) | (unfold CPow; decide) | (exact cpow1 (by omega) (by omega)) | (simp only [rngD_len, List.length_replicate, List.length_map, List.length_append, List.length_cons, List.length_nil, List.length_set] at *; omega)))) | ((with_reducible refine And.intro (?_ : (_ : Nat) = _) ?_); (focus (first | decide | omega | (unfold CMul; omega) | (unfold CDiv; omega) | (unfold CPow; decide) | (exact cpow1 (by omega) (by omega)) | (simp only [rngD_len, List.length_replicate, List.length_map, List.length_append, List.length_cons, List.length_nil, List.length_set] at *; omega))))); conv => whnf)); (try dsimp only [List.set_cons_zero, List.set_cons_succ, upA])))
local macro_rules | `(tactic| walk_at "Ddl") => `(tactic| ((conv => whnf); (repeat ((first | refine And.intro rfl ?_ | refine And.intro trivial ?_ | refine And.intro ⟨rfl, trivial⟩ ?_ | refine And.intro ⟨rfl, rfl, trivial⟩ ?_ | refine ifb_t ?_ | refine ifb_f ?_ | refine ifb_nr ?_ | refine ifb_er ?_ | refine And.intro (by first | decide | omega | (unfold CMul; omega) | (unfold CDiv; omega) | (unfold CPow; decide) | (exact cpow1 (by omega) (by omega)) | (exact cpow1 (by dsimp only; omega) (by dsimp only; omega)) | (simp only [rngD_len, List.length_replicate, List.length_map, List.length_append, List.length_cons, List.length_nil, List.length_set] at *; omega)) ?_); conv => whnf))))
theorem pure_joined_bound : ∀ ds, ds.length = 2 → sp_joined_bound.pre ds → w_joined_bound (env0 ds 0) { nx := fun e => sp_joined_bound.post ds .non (outs e 2), rt := fun d e => sp_joined_bound.post ds d (outs e 2) } := by
  rintro ds _ ⟨a, b, rfl⟩
  have post := fun {r : D} h => jb_post (a := a) (b := b) (r := r) h
  cases a <;> cases b <;> (walk_at "Ddl"; exact post rfl)
noncomputable def sp_changed_only : FSpec where
  pre := fun ds => ∃ (cs : List Str) (p : Qn), ds = [encC cs, encQ p] ∧ okQ p ∧ dpQ p ≤ 16 ∧ ∀ x ∈ cs, isW x = true
  post := fun ds r ds' => ds' = ds ∧ ∀ (cs : List Str) (p : Qn), ds = [encC cs, encQ p] → r = encR (rul (.only cs p))
/-- slots: 0 columns, 1 part -/
def w_changed_only : WS :=
    (cSeq (cIte (cOp fEqD (cVar 0) (cCallN 1 sp_columns_of (cCons (cVar 1) cNil)))
      (cRet 2 (cVar 1))
      cNilS)
    (cSeq (cIte (cOp fEqS (cOp fIx (cVar 1) (cC (.int 0))) (cC (.str (PySem.Str.ofString "only"))))
      (cRet 2 (cTup (cCons (cC (.str (PySem.Str.ofString "only"))) (cCons (cVar 0) (cCons (cOp fIx (cVar 1) (cC (.int 2))) cNil)))))
      cNilS)
    (cRet 2 (cC .non))))
theorem co_post {cs : List Str} {p : Qn} {r : D} (h : r = encR (rul (.only cs p))) : ∀ (cs' : List Str) (p' : Qn), [encC cs, encQ p] = [encC cs', encQ p'] → r = encR (rul (.only cs' p')) := by
  intro a' b' e
  simp only [List.cons.injEq, and_true] at e
  cases encC_inj e.1
  cases encQ_inj e.2
  exact h
theorem pure_changed_only : ∀ ds, ds.length = 2 → sp_changed_only.pre ds → w_changed_only (env0 ds 0) { nx := fun e => sp_changed_only.post ds .non (outs e 2), rt := fun d e => sp_changed_only.post ds d (outs e 2) } := by
  rintro ds _ ⟨cs, p, rfl, hp, hd, hw⟩
  have post := fun {r : D} h => co_post (cs := cs) (p := p) (r := r) h
  have call : sp_columns_of.pre [encQ p] ∧ ∀ r ds', sp_columns_of.post [encQ p] r ds' → ds' = [encQ p] ∧ r = encC (colsQ p) := ⟨⟨p, rfl, hp, hd⟩, fun r ds' h => ⟨h.1, h.2 p rfl⟩⟩
  have s1 := shaped_C hw
  have s2 := shaped_C (colsQ_ok p hp).2
  have ev := eqv_CC cs (colsQ p)
  have e0 : atI (D.str (kd p) :: itemsQ p) 0 = some (.str (kd p)) := atI_nat (j := 0) rfl
  have hk : ¬ kd p = PySem.Str.ofString "only" → rul (.only cs p) = if cs = colsQ p then some p else none := fun h => by
    cases p with
    | only => exact absurd rfl h
    | _ => simp only [rul]
  have ho : ∀ cs' r, p = .only cs' r → rul (.only cs p) = if cs = colsQ p then some p else some (.only cs r) := fun cs' r h => by subst h; simp only [rul]
  have hx : kd p = PySem.Str.ofString "only" → ∃ cs' r, p = .only cs' r := fun h => by
    have hi : ix p = 2 := by rw [← cl_kd, h]; decide
    cases p <;> simp only [ix] at hi <;> first | exact absurd hi (by decide) | exact ⟨_, _, rfl⟩
  have it : ∀ cs' r, p = .only cs' r → itemsQ p = [encC cs', encQ r] := fun cs' r h => by subst h; rfl
  have eP := encQ_items p
  rw [eP] at post call ⊢
  walk_at "Ddl"
  refine ⟨call.1, fun r ds' hq => ?_⟩
  obtain ⟨rfl, rfl⟩ := call.2 r ds' hq
  walk_at "Ddl"
  try refine ⟨s1, s2, ?_⟩
  by_cases e : cs = colsQ p
  · rw [ev.mpr e]
    walk_at "Ddl"
    refine post ?_
    by_cases h : kd p = PySem.Str.ofString "only"
    · obtain ⟨cs', r, h⟩ := hx h
      rw [ho cs' r h, if_pos e]
      exact eP.symm
    · rw [hk h, if_pos e]
      exact eP.symm
  · have e' : PyData.eqv (toP (encC cs)) (toP (encC (colsQ p))) = false := by
      cases h : PyData.eqv (toP (encC cs)) (toP (encC (colsQ p)))
      · rfl
      · exact absurd (ev.mp h) e
    rw [e']
    walk_at "Ddl"
    rw [e0]
    walk_at "Ddl"
    refine ifb_dec (fun h => ?_) (fun h => ?_)
    · obtain ⟨cs', r, h⟩ := hx h
      have i2 := it cs' r h
      rw [i2] at post ⊢
      obtain ⟨tr, er⟩ := encQ_tup r
      rw [er] at post ⊢
      walk_at "Ddl"
      refine post ?_
      rw [ho cs' r h, if_neg e]
      simp only [encR, encQ, er]
    · walk_at "Ddl"
      refine post ?_
      rw [hk h, if_neg e]
      rfl

theorem pS_shift {p : Qn} {k : Option (List D) → Prop} (h1 : ∀ b r, p = .shift b r → k (some [.int b, encQ r])) (h2 : (∀ b r, p ≠ .shift b r) → k none) : pS 3 (psC (pV (.str (PySem.Str.ofString "shift"))) (psC pC (psC pC psN))) (encQ p) k := by
  cases p with
  | shift b r =>
    have := h1 b r rfl
    walk_at "Ddlx"
    exact this
  | fact n ts =>
    have := h2 (fun _ _ => nofun)
    walk_at "Ddlx"
    exact this
  | two k p q =>
    have := h2 (fun _ _ => nofun)
    cases k <;>
    · walk_at "Ddlx"
      exact this
  | look k w q =>
    have := h2 (fun _ _ => nofun)
    cases k <;>
    · walk_at "Ddlx"
      exact this
  | only cs q =>
    have := h2 (fun _ _ => nofun)
    walk_at "Ddlx"
    exact this
  | whr t l r q =>
    have := h2 (fun _ _ => nofun)
    walk_at "Ddlx"
    exact this
  | count n ks q =>
    have := h2 (fun _ _ => nofun)
    walk_at "Ddlx"
    exact this
  | total k n c ks q =>
    have := h2 (fun _ _ => nofun)
    walk_at "Ddlx"
    exact this
  | link k x y q =>
    have := h2 (fun _ _ => nofun)
    walk_at "Ddlx"
    exact this
/-- three items: the kind, and two more -/
def tri (p : Qn) (a b : D) : Prop := encQ p = .tup [.str (kd p), a, b] ∧ isL a = false ∧ isL b = false
theorem pS_any {p : Qn} {k : Option (List D) → Prop} (h1 : ∀ a b, tri p a b → isL a = false → isL b = false → k (some [.str (kd p), a, b])) (h2 : (∀ a b, ¬ tri p a b) → k none) : pS 3 (psC pC (psC pC (psC pC psN))) (encQ p) k := by
  cases p with
  | shift b r =>
    have := h1 (.int b) (encQ r) ⟨rfl, rfl, encQ_nl r⟩ rfl (encQ_nl r)
    walk_at "Ddlx"
    exact this
  | fact n ts =>
    have := h1 (.str n) (.tup (ts.map encTm)) ⟨rfl, rfl, rfl⟩ rfl rfl
    walk_at "Ddlx"
    exact this
  | two k p q =>
    have := h1 (encQ p) (encQ q) ⟨rfl, encQ_nl p, encQ_nl q⟩ (encQ_nl p) (encQ_nl q)
    walk_at "Ddlx"
    exact this
  | look k w q =>
    have := h1 (encO w) (encQ q) ⟨rfl, encO_nl w, encQ_nl q⟩ (encO_nl w) (encQ_nl q)
    walk_at "Ddlx"
    exact this
  | only cs q =>
    have := h1 (encC cs) (encQ q) ⟨rfl, rfl, encQ_nl q⟩ rfl (encQ_nl q)
    walk_at "Ddlx"
    exact this
  | whr t l r q =>
    have := h2 (fun a b h => by have := h.1; simp [encQ] at this)
    walk_at "Ddlx"
    exact this
  | count n ks q =>
    have := h2 (fun a b h => by have := h.1; simp [encQ] at this)
    walk_at "Ddlx"
    exact this
  | total k n c ks q =>
    have := h2 (fun a b h => by have := h.1; simp [encQ] at this)
    walk_at "Ddlx"
    exact this
  | link k x y q =>
    have := h2 (fun a b h => by have := h.1; simp [encQ] at this)
    walk_at "Ddlx"
    exact this
end DL

set_option maxHeartbeats 1000000
namespace DL
open PySem PySem.Spec PyProof.Rows L2
noncomputable def sp_changed_with_one_part : FSpec where
  pre := fun ds => ∃ q : Qn, ds = [encQ q] ∧ okQ q ∧ dpQ q ≤ 16 ∧ (partsQ q).length = 1
  post := fun ds r ds' => ds' = ds ∧ ∀ q : Qn, ds = [encQ q] → r = encR (rul q)
/-- slots: 0 question, 1 part, 2 a, 3 b, 4 kind, 5 same, 6 columns -/
def w_changed_with_one_part : WS :=
    (cSeq (cMatch (cVar 0)
      (ccC 1 [0] (pS 3 (psC (pV (.str (PySem.Str.ofString "shift"))) (psC (pV (.int 0)) (psC pC psN)))) [1] (cRet 1 (cVar 1))
      (ccG 1 [0] (pS 3 (psC (pV (.str (PySem.Str.ofString "shift"))) (psC pC (psC (pS 3 (psC (pV (.str (PySem.Str.ofString "shift"))) (psC pC (psC pC psN)))) psN)))) [2, 3, 1] (cOr (cOp fGe (cVar 2) (cC (.int 0))) (cOp fLe (cVar 3) (cC (.int 0)))) (cRet 1 (cTup (cCons (cC (.str (PySem.Str.ofString "shift"))) (cCons (cOp fAddG (cVar 2) (cVar 3)) (cCons (cVar 1) cNil)))))
      (ccG 1 [0] (pS 3 (psC pC (psC (pV (.int 0)) (psC pC psN)))) [4, 1] (cOp (fIn false) (cVar 4) (cC (.tpd (tab_LOOKING.map D.str)))) (cRet 1 (cVar 1))
      (ccG 1 [0] (pS 3 (psC pC (psC pC (psC (pS 3 (psC pC (psC pC (psC pC psN)))) psN)))) [4, 2, 5, 3, 1] (cAnd (cOp (fIn false) (cVar 4) (cC (.tpd (tab_LOOKING.map D.str)))) (cOp fEqS (cVar 4) (cVar 5))) (cRet 1 (cTup (cCons (cVar 4) (cCons (cCallN 2 sp_joined_bound (cCons (cVar 2) (cCons (cVar 3) cNil))) (cCons (cVar 1) cNil)))))
      (ccC 1 [0] (pS 3 (psC (pV (.str (PySem.Str.ofString "only"))) (psC pC (psC pC psN)))) [6, 1] (cRet 1 (cCallN 2 sp_changed_only (cCons (cVar 6) (cCons (cVar 1) cNil))))
      (ccG 1 [0] (pS 4 (psC (pV (.str (PySem.Str.ofString "linked"))) (psC pW (psC pW (psC pC psN))))) [1] (cOp fEqS (cOp fIx (cVar 1) (cC (.int 0))) (cC (.str (PySem.Str.ofString "linked")))) (cRet 1 (cVar 1))
      ccN)))))))
    (cRet 1 (cC .non)))
theorem ch_post {q : Qn} {r : D} (h : r = encR (rul q)) : ∀ q' : Qn, [encQ q] = [encQ q'] → r = encR (rul q') := by
  intro b' e
  simp only [List.cons.injEq, and_true] at e
  cases encQ_inj e
  exact h
abbrev G1 (q : Qn) : Prop := w_changed_with_one_part (env0 [encQ q] 6) { nx := fun e => sp_changed_with_one_part.post [encQ q] .non (outs e 1), rt := fun d e => sp_changed_with_one_part.post [encQ q] d (outs e 1) }
local macro_rules | `(tactic| walk_at "Ddlx") => `(tactic| ((conv => whnf); (repeat ((first | ((with_reducible refine And.intro (stOk_nl ?_ ?_) ?_); (focus (with_reducible first | assumption | exact encQ_nl _ | exact encO_nl _ | exact encC_nl _)); (focus exact rfl)) | ((refine pick_nl ?_ ?_); (focus (with_reducible first | assumption | exact encQ_nl _ | exact encO_nl _ | exact encC_nl _))) | ((with_reducible refine And.intro ?_ ?_); (focus (with_reducible first | assumption | exact encQ_nl _ | exact encO_nl _ | exact encC_nl _))) | ((with_reducible refine And.intro (immA_c ?_ ?_) ?_); (focus (first | (with_reducible first | assumption | exact encQ_nl _ | exact encO_nl _ | exact encC_nl _) | exact rfl)); (focus ((repeat ((with_reducible refine immA_c ?_ ?_); (focus (first | (with_reducible first | assumption | exact encQ_nl _ | exact encO_nl _ | exact encC_nl _) | exact rfl)))); exact rfl))) | refine And.intro rfl ?_ | refine And.intro trivial ?_ | refine And.intro ⟨rfl, trivial⟩ ?_ | refine And.intro ⟨rfl, rfl, trivial⟩ ?_ | refine ifb_nq (by first | assumption | decide) ?_ | refine ifb_pq (by assumption) ?_ | refine ifb_er ?_ | refine ifb_t ?_ | refine ifb_f ?_ | refine ifb_nr ?_ | refine ifb_er ?_ | ((with_reducible refine And.intro (?_ : (_ : Nat) ≤ _) ?_); (focus (first | decide | omega | (unfold CMul; omega) | (unfold CDiv; omega) | (unfold CPow; decide) | (exact cpow1 (by omega) (by omega)) | (simp only [rngD_len, List.length_replicate, List.length_map, List.length_append, List.length_cons, List.length_nil, List.length_set] at *; omega)))) | ((with_reducible refine And.intro (?_ : (_ : Int) ≤ _) ?_); (focus (first | decide | omega | (unfold CMul; omega) | (unfold CDiv; omega) | (unfold CPow; decide) | (exact cpow1 (by omega) (by omega)) | (simp only [rngD_len, List.length_replicate, List.length_map, List.length_append, List.length_cons, List.length_nil, List.length_set] at *; omega)))) | ((with_reducible refine And.intro (?_ : (_ : Nat) < _) ?_); (focus (first | decide | omega | (unfold CMul; omega) | (unfold CDiv; omega) | (unfold CPow; decide) | (exact cpow1 (by omega) (by omega)) | (simp only [rngD_len, List.length_replicate, List.length_map, List.length_append, List.length_cons, List.length_nil, List.length_set] at *; omega)))) | ((with_reducible refine And.intro (?_ : (_ : Int) < _) ?_); (focus (first | decide | omega | (unfold CMul; omega) | (unfold CDiv; omega) | (unfold CPow; decide) | (exact cpow1 (by omega) (by omega)) | (simp only [rngD_len, List.length_replicate, List.length_map, List.length_append, List.length_cons, List.length_nil, List.length_set] at *; omega)))) | ((with_reducible refine And.intro (?_ : CMul _ _) ?_); (focus (first | decide | omega | (unfold CMul; omega) | (unfold CDiv; omega) | (unfold CPow; decide) | (exact cpow1 (by omega) (by omega)) | (simp only [rngD_len, List.length_replicate, List.length_map, List.length_append, List.length_cons, List.length_nil, List.length_set] at *; omega)))) | ((with_reducible refine And.intro (?_ : CDiv _ _) ?_); (focus (first | decide | omega | (unfold CMul; omega) | (unfold CDiv; omega) | (unfold CPow; decide) | (exact cpow1 (by omega) (by omega)) | (simp only [rngD_len, List.length_replicate, List.length_map, List.length_append, List.length_cons, List.length_nil, List.length_set] at *; omega)))) | ((with_reducible refine And.intro (?_ : CPow _ _) ?_); (focus (first | decide | omega | (unfold CMul; omega) | (unfold CDiv; omega) | (unfold CPow; decide) | (exact cpow1 (by omega) (by omega)) | (simp only [rngD_len, List.length_replicate, List.length_map, List.length_append, List.length_cons, List.length_nil, List.length_set] at *; omega)))) | ((with_reducible refine And.intro (?_ : (_ : Nat) = _) ?_); (focus (first | decide | omega | (unfold CMul; omega) | (unfold CDiv; omega) | (unfold CPow; decide) | (exact cpow1 (by omega) (by omega)) | (simp only [rngD_len, List.length_replicate, List.length_map, List.length_append, List.length_cons, List.length_nil, List.length_set] at *; omega))))); conv => whnf)); (try dsimp only [List.set_cons_zero, List.set_cons_succ, upA])))
theorem c1_shift (n : Int) (p : Qn) : G1 (.shift n p) := by
  have post := fun {r : D} h => ch_post (q := .shift n p) (r := r) h
  simp only [encQ, G1] at post ⊢
  walk_at "Ddlx"
  refine ifb_dec (fun e => ?_) (fun e => ?_)
  · subst e
    walk_at "Ddlx"
    refine post ?_
    simp only [rul, if_pos, encR]
  · walk_at "Ddlx"
    refine pS_shift (fun b r hp => ?_) (fun hp => ?_)
    · subst hp
      walk_at "Ddlx"
      refine ifb_dec (fun e2 => ?_) (fun e2 => ?_)
      · walk_at "Ddlx"
        refine post ?_
        simp only [rul, if_neg e, if_pos (Or.inl e2), encR, encQ]
      · walk_at "Ddlx"
        refine ifb_dec (fun e3 => ?_) (fun e3 => ?_)
        · walk_at "Ddlx"
          refine post ?_
          simp only [rul, if_neg e, if_pos (Or.inr e3), encR, encQ]
        · walk_at "Ddlx"
          refine post ?_
          have : ¬ (0 ≤ n ∨ b ≤ 0) := by omega
          simp only [rul, if_neg e, if_neg this, encR]
    · walk_at "Ddlx"
      refine pS_any (fun a b ht ha hb => ?_) (fun _ => ?_)
      all_goals
        walk_at "Ddlx"
        refine post ?_
        cases p <;> first | (exact absurd rfl (hp _ _)) | simp only [rul, if_neg e, encR]
theorem c1_whr (t : Str) (l r : Tm) (p : Qn) : G1 (.whr t l r p) := by
  have post := fun {d : D} h => ch_post (q := .whr t l r p) (r := d) h
  simp only [encQ, G1] at post ⊢
  walk_at "Ddlx"
  refine post ?_
  simp only [rul, encR]
theorem c1_count (nw : Str) (ks : List Str) (p : Qn) : G1 (.count nw ks p) := by
  have post := fun {d : D} h => ch_post (q := .count nw ks p) (r := d) h
  simp only [encQ, G1] at post ⊢
  walk_at "Ddlx"
  refine post ?_
  simp only [rul, encR]
theorem c1_total (k : K3) (nw c : Str) (ks : List Str) (p : Qn) : G1 (.total k nw c ks p) := by
  have post := fun {d : D} h => ch_post (q := .total k nw c ks p) (r := d) h
  simp only [encQ, G1] at post ⊢
  cases k <;>
  · walk_at "Ddlx"
    refine post ?_
    simp only [rul, encR]
theorem c1_only (cs : List Str) (p : Qn) (hq : okQ (.only cs p)) (hd : dpQ (.only cs p) ≤ 16) : G1 (.only cs p) := by
  have post := fun {d : D} h => ch_post (q := .only cs p) (r := d) h
  have hw : ∀ x ∈ cs, isW x = true := fun x hx => (colsQ_ok p hq.2).2 x (hq.1.1.2 x hx)
  have hs := shaped_C hw
  have call : sp_changed_only.pre [encC cs, encQ p] ∧ ∀ r ds', sp_changed_only.post [encC cs, encQ p] r ds' → ds' = [encC cs, encQ p] ∧ r = encR (rul (.only cs p)) := ⟨⟨cs, p, rfl, hq.2, by simp only [dpQ] at hd; omega, hw⟩, fun r ds' h => ⟨h.1, h.2 cs p rfl⟩⟩
  simp only [encQ, G1] at post ⊢
  walk_at "Ddlx"
  refine pS_any (fun a b ht ha hb => ?_) (fun hp => ?_)
  all_goals
    walk_at "Ddlx"
    refine ⟨call.1, fun r ds' hq => ?_⟩
    obtain ⟨rfl, rfl⟩ := call.2 r ds' hq
    walk_at "Ddlx"
    exact post rfl
theorem c1_link (k : KL) (x y : Str) (p : Qn) : G1 (.link k x y p) := by
  have post := fun {d : D} h => ch_post (q := .link k x y p) (r := d) h
  have e0 : atI (D.str (kd p) :: itemsQ p) 0 = some (.str (kd p)) := atI_nat (j := 0) rfl
  have eP := encQ_items p
  have h1 : kd p = PySem.Str.ofString "linked" → isLinked p = true := fun h => by
    have hi : ix p = 8 := by rw [← cl_kd, h]; decide
    cases p <;> simp only [ix] at hi <;> first | (exact absurd hi (by decide)) | skip
    rename_i k _ _ _
    cases k
    · rfl
    · exact absurd (show KL.way.s = PySem.Str.ofString "linked" from h) (by decide)
  have h2 : ¬ kd p = PySem.Str.ofString "linked" → isLinked p = false := fun h => by
    cases p <;> first | rfl | skip
    rename_i k _ _ _
    cases k
    · exact absurd rfl h
    · rfl
  simp only [encQ, G1] at post ⊢
  cases k
  · rw [eP] at post ⊢
    walk_at "Ddlx"
    rw [e0]
    walk_at "Ddlx"
    refine ifb_dec (fun e => ?_) (fun e => ?_)
    · walk_at "Ddlx"
      refine post ?_
      simp only [rul, if_pos (h1 e), encR]
      exact eP.symm
    · walk_at "Ddlx"
      refine post ?_
      simp only [rul, h2 e, encR]
      rfl
  · walk_at "Ddlx"
    refine post ?_
    simp only [rul, encR]
theorem tri_look {p : Qn} {a b : D} {k : K4} (h : tri p a b) (e : k.s = kd p) : ∃ w r, p = .look k w r ∧ a = encO w ∧ b = encQ r := by
  have hi : ix p = 5 := by rw [← cl_kd, ← e]; exact cl4 k
  cases p <;> simp only [ix] at hi <;> first | (exact absurd hi (by decide)) | skip
  rename_i k' w r
  obtain rfl := K4.inj (show k.s = k'.s from e)
  have := h.1
  simp only [encQ, kd, D.tup.injEq, List.cons.injEq, and_true, true_and] at this
  exact ⟨w, r, rfl, this.1.symm, this.2.symm⟩
theorem rul_look (k : K4) (w : Option Int) (p : Qn) (h : ¬ w = some 0) (g : ∀ w' r, p ≠ .look k w' r) : rul (.look k w p) = none := by
  unfold rul
  dsimp only
  rw [if_neg h]
  split
  · rename_i k' w' r
    rw [if_neg fun e => g w' r (by rw [e])]
  · rfl
theorem c1_look (k : K4) (w : Option Int) (p : Qn) : G1 (.look k w p) := by
  have post := fun {d : D} h => ch_post (q := .look k w p) (r := d) h
  have tl := fun {a b : D} (h : tri p a b) (e : k.s = kd p) => tri_look h e
  have call : ∀ w', sp_joined_bound.pre [encO w, encO w'] ∧ ∀ r ds', sp_joined_bound.post [encO w, encO w'] r ds' → ds' = [encO w, encO w'] ∧ r = encO (jb w w') := fun w' => ⟨⟨w, w', rfl⟩, fun r ds' h => ⟨h.1, h.2 w w' rfl⟩⟩
  by_cases hw : w = some 0
  · subst hw
    simp only [encQ, G1] at post ⊢
    cases k <;>
    · walk_at "Ddlx"
      refine post ?_
      simp only [rul, if_pos, encR]
  · have rn := rul_look k w p hw
    have go : ∀ (x : D), encO w = x → isL x = false → (∀ i, x = .int i → ¬ i = 0) → (x = .non ∨ ∃ i, x = .int i) → G1 (.look k w p) := fun x ex hx hn hc => by
      simp only [encQ, G1] at post ⊢
      rw [ex] at post ⊢
      have calls : ∀ w', sp_joined_bound.pre [x, encO w'] ∧ ∀ r ds', sp_joined_bound.post [x, encO w'] r ds' → ds' = [x, encO w'] ∧ r = encO (jb w w') := fun w' => by rw [← ex]; exact call w'
      clear call
      rcases hc with rfl | ⟨i, rfl⟩
      · cases k <;>
        · walk_at "Ddlx"
          refine pS_any (fun a b ht ha hb => ?_) (fun hp => ?_)
          · walk_at "Ddlx"
            refine ifb_dec (fun e => ?_) (fun e => ?_)
            · obtain ⟨w', r, rfl, rfl, rfl⟩ := tl ht e
              walk_at "Ddlx"
              refine ⟨(calls w').1, fun r ds' hq => ?_⟩
              obtain ⟨rfl, rfl⟩ := (calls w').2 r ds' hq
              walk_at "Ddlx"
              refine post ?_
              simp only [rul, if_neg hw, if_pos, encR, encQ]
            · walk_at "Ddlx"
              refine post ?_
              rw [rn fun w' r h => e (by rw [h]; rfl)]
              rfl
          · walk_at "Ddlx"
            refine post ?_
            rw [rn fun w' r h => hp (encO w') (encQ r) (by subst h; exact ⟨rfl, encO_nl _, encQ_nl _⟩)]
            rfl
      · have hi := hn i rfl
        cases k <;>
        · walk_at "Ddlx"
          refine pS_any (fun a b ht ha hb => ?_) (fun hp => ?_)
          · walk_at "Ddlx"
            refine ifb_dec (fun e => ?_) (fun e => ?_)
            · obtain ⟨w', r, rfl, rfl, rfl⟩ := tl ht e
              walk_at "Ddlx"
              refine ⟨(calls w').1, fun r ds' hq => ?_⟩
              obtain ⟨rfl, rfl⟩ := (calls w').2 r ds' hq
              walk_at "Ddlx"
              refine post ?_
              simp only [rul, if_neg hw, if_pos, encR, encQ]
            · walk_at "Ddlx"
              refine post ?_
              rw [rn fun w' r h => e (by rw [h]; rfl)]
              rfl
          · walk_at "Ddlx"
            refine post ?_
            rw [rn fun w' r h => hp (encO w') (encQ r) (by subst h; exact ⟨rfl, encO_nl _, encQ_nl _⟩)]
            rfl
    cases w with
    | none => exact go .non rfl rfl (fun i h => by cases h) (.inl rfl)
    | some v => exact go (.int v) rfl rfl (fun i h => by cases h; exact fun z => hw (by rw [z])) (.inr ⟨v, rfl⟩)
theorem pure_changed_with_one_part : ∀ ds, ds.length = 1 → sp_changed_with_one_part.pre ds → w_changed_with_one_part (env0 ds 6) { nx := fun e => sp_changed_with_one_part.post ds .non (outs e 1), rt := fun d e => sp_changed_with_one_part.post ds d (outs e 1) } := by
  rintro ds _ ⟨q, rfl, hq, hd, hl⟩
  cases q with
  | fact => simp [partsQ] at hl
  | two => simp [partsQ] at hl
  | shift n p => exact c1_shift n p
  | whr t l r p => exact c1_whr t l r p
  | count a b p => exact c1_count a b p
  | total k a b c p => exact c1_total k a b c p
  | only cs p => exact c1_only cs p hq hd
  | link k x y p => exact c1_link k x y p
  | look k w p => exact c1_look k w p
end DL

set_option maxHeartbeats 1000000
namespace DL
open PySem PySem.Spec PyProof.Rows L2
noncomputable def sp_changed_with_two_parts : FSpec where
  pre := fun ds => ∃ q : Qn, ds = [encQ q] ∧ okQ q ∧ dpQ q ≤ 16 ∧ (partsQ q).length ≠ 1
  post := fun ds r ds' => ds' = ds ∧ ∀ q : Qn, ds = [encQ q] → r = encR (rul q)
/-- slots: 0 question, 1 kind, 2 p, 3 q, 4 a, 5 b, 6 same, 7 s, 8 r -/
def w_changed_with_two_parts : WS :=
    (cSeq (cMatch (cVar 0)
      (ccG 1 [0] (pS 3 (psC pC (psC pC (psC pC psN)))) [1, 2, 3] (cAnd (cOp (fIn false) (cVar 1) (cC (.tpd (tab_SAME_TWICE.map D.str)))) (cOp fEqD (cVar 2) (cVar 3))) (cRet 1 (cVar 2))
      (ccG 1 [0] (pS 3 (psC pC (psC (pS 3 (psC (pV (.str (PySem.Str.ofString "shift"))) (psC pC (psC pC psN)))) (psC (pS 3 (psC (pV (.str (PySem.Str.ofString "shift"))) (psC pC (psC pC psN)))) psN)))) [1, 4, 2, 5, 3] (cAnd (cOp (fIn false) (cVar 1) (cC (.tpd (tab_SHIFTED_TOGETHER.map D.str)))) (cOp fEqS (cVar 4) (cVar 5))) (cRet 1 (cTup (cCons (cC (.str (PySem.Str.ofString "shift"))) (cCons (cVar 4) (cCons (cTup (cCons (cVar 1) (cCons (cVar 2) (cCons (cVar 3) cNil)))) cNil)))))
      (ccG 1 [0] (pS 3 (psC (pV (.str (PySem.Str.ofString "either"))) (psC (pS 3 (psC pC (psC pC (psC pC psN)))) (psC (pS 3 (psC pC (psC pC (psC pC psN)))) psN)))) [1, 4, 2, 6, 5, 3] (cAnd (cOp (fIn false) (cVar 1) (cC (.tpd (tab_SOME_MOMENT.map D.str)))) (cOp fEqD (cTup (cCons (cVar 1) (cCons (cVar 4) cNil))) (cTup (cCons (cVar 6) (cCons (cVar 5) cNil))))) (cRet 1 (cTup (cCons (cVar 1) (cCons (cVar 4) (cCons (cTup (cCons (cC (.str (PySem.Str.ofString "either"))) (cCons (cVar 2) (cCons (cVar 3) cNil)))) cNil)))))
      (ccG 1 [0] (pS 3 (psC (pV (.str (PySem.Str.ofString "both"))) (psC (pS 3 (psC pC (psC pC (psC pC psN)))) (psC (pS 3 (psC pC (psC pC (psC pC psN)))) psN)))) [1, 4, 2, 6, 5, 3] (cAnd (cOp (fIn false) (cVar 1) (cC (.tpd (tab_EVERY_MOMENT.map D.str)))) (cOp fEqD (cTup (cCons (cVar 1) (cCons (cVar 4) cNil))) (cTup (cCons (cVar 6) (cCons (cVar 5) cNil))))) (cRet 1 (cTup (cCons (cVar 1) (cCons (cVar 4) (cCons (cTup (cCons (cC (.str (PySem.Str.ofString "both"))) (cCons (cVar 2) (cCons (cVar 3) cNil)))) cNil)))))
      (ccG 1 [0] (pS 3 (psC (pV (.str (PySem.Str.ofString "either"))) (psC (pS 3 (psC pC (psC pC (psC pC psN)))) (psC (pS 3 (psC pC (psC pC (psC pC psN)))) psN)))) [1, 2, 3, 6, 7, 8] (cAnd (cOp (fIn false) (cVar 1) (cC (.tpd (tab_FOLLOWING.map D.str)))) (cOp fEqD (cTup (cCons (cVar 1) (cCons (cVar 2) cNil))) (cTup (cCons (cVar 6) (cCons (cVar 7) cNil))))) (cRet 1 (cTup (cCons (cVar 1) (cCons (cVar 2) (cCons (cTup (cCons (cC (.str (PySem.Str.ofString "either"))) (cCons (cVar 3) (cCons (cVar 8) cNil)))) cNil)))))
      ccN))))))
    (cRet 1 (cC .non)))
abbrev G2 (q : Qn) : Prop := w_changed_with_two_parts (env0 [encQ q] 8) { nx := fun e => sp_changed_with_two_parts.post [encQ q] .non (outs e 1), rt := fun d e => sp_changed_with_two_parts.post [encQ q] d (outs e 1) }
theorem eqv_ne {a b : D} (ha : plD a = true) (hb : plD b = true) (h : a ≠ b) : PyData.eqv (toP a) (toP b) = false := by
  cases e : PyData.eqv (toP a) (toP b)
  · rfl
  · exact absurd ((eqv_pl a b ha hb).mp e) h
theorem eqv_rf {a b : D} (ha : plD a = true) (hb : plD b = true) (h : a = b) : PyData.eqv (toP a) (toP b) = true := (eqv_pl a b ha hb).mpr h
theorem rul_two_none (k : K2) (p q : Qn) (h1 : ¬ (sameK k = true ∧ p = q)) (h2 : ∀ a p' b q', p = .shift a p' → q = .shift b q' → shK k = true → ¬ a = b)
    (h3 : ∀ k1 a p' q', p = .look k1 a p' → q = .look k1 a q' → ¬ (k = .either ∧ someK k1 = true ∨ k = .both ∧ someK k1 = false))
    (h4 : ∀ k1 p' q' r, p = .two k1 p' q' → q = .two k1 p' r → folB k1 = true → ¬ k = .either) : rul (.two k p q) = none := by
  unfold rul
  dsimp only
  rw [if_neg h1]
  split
  · rename_i a p' b q' _
    exact if_neg fun ⟨e1, e2⟩ => h2 _ _ _ _ rfl rfl e1 e2
  · rename_i k1 a p' k2 b q' _
    refine if_neg fun ⟨e1, e2, e3⟩ => ?_
    subst e2 e3
    exact h3 _ _ _ _ rfl rfl e1
  · rename_i k1 p' q' k2 s r _
    refine if_neg fun ⟨e1, e2, e3, e4⟩ => ?_
    subst e3 e4
    exact h4 _ _ _ _ rfl rfl e2 e1
  · rfl
theorem rul_two_shift {k : K2} {a : Int} {p q : Qn} (h1 : ¬ (sameK k = true ∧ Qn.shift a p = .shift a q)) (h2 : shK k = true) : rul (.two k (.shift a p) (.shift a q)) = some (.shift a (.two k p q)) := by
  unfold rul
  dsimp only
  rw [if_neg h1, if_pos ⟨h2, rfl⟩]
theorem rul_two_look {k : K2} {k1 : K4} {a : Option Int} {p q : Qn} (h1 : ¬ (sameK k = true ∧ Qn.look k1 a p = .look k1 a q)) (h2 : k = .either ∧ someK k1 = true ∨ k = .both ∧ someK k1 = false) : rul (.two k (.look k1 a p) (.look k1 a q)) = some (.look k1 a (.two k p q)) := by
  unfold rul
  dsimp only
  rw [if_neg h1, if_pos ⟨h2, rfl, rfl⟩]
theorem rul_two_fol {k1 : K2} {a p q : Qn} (h1 : ¬ Qn.two k1 a p = .two k1 a q) (h2 : folB k1 = true) : rul (.two .either (.two k1 a p) (.two k1 a q)) = some (.two k1 a (.two .either p q)) := by
  unfold rul
  dsimp only
  rw [if_neg fun h => h1 h.2, if_pos ⟨rfl, h2, rfl, rfl⟩]
theorem rul_two_same {k : K2} {p : Qn} (h : sameK k = true) : rul (.two k p p) = some p := by
  unfold rul
  dsimp only
  rw [if_pos ⟨h, rfl⟩]
local macro_rules | `(tactic| walk_at "Ddlx") => `(tactic| ((conv => whnf); (repeat ((first | ((with_reducible refine And.intro (stOk_nl ?_ ?_) ?_); (focus (with_reducible first | assumption | exact encQ_nl _ | exact encO_nl _ | exact encC_nl _)); (focus exact rfl)) | ((refine pick_nl ?_ ?_); (focus (with_reducible first | assumption | exact encQ_nl _ | exact encO_nl _ | exact encC_nl _))) | ((with_reducible refine And.intro ?_ ?_); (focus (with_reducible first | assumption | exact encQ_nl _ | exact encO_nl _ | exact encC_nl _))) | ((with_reducible refine And.intro (immA_c ?_ ?_) ?_); (focus (first | (with_reducible first | assumption | exact encQ_nl _ | exact encO_nl _ | exact encC_nl _) | exact rfl)); (focus ((repeat ((with_reducible refine immA_c ?_ ?_); (focus (first | (with_reducible first | assumption | exact encQ_nl _ | exact encO_nl _ | exact encC_nl _) | exact rfl)))); exact rfl))) | refine And.intro rfl ?_ | refine And.intro trivial ?_ | refine And.intro ⟨rfl, trivial⟩ ?_ | refine And.intro ⟨rfl, rfl, trivial⟩ ?_ | refine ifb_nq (by first | assumption | decide) ?_ | refine ifb_pq (by assumption) ?_ | refine ifb_er ?_ | refine ifb_t ?_ | refine ifb_f ?_ | refine ifb_nr ?_ | refine ifb_er ?_ | ((with_reducible refine And.intro (?_ : (_ : Nat) ≤ _) ?_); (focus (first | decide | omega | (unfold CMul; omega) | (unfold CDiv; omega) | (unfold CPow; decide) | (exact cpow1 (by omega) (by omega)) | (simp only [rngD_len, List.length_replicate, List.length_map, List.length_append, List.length_cons, List.length_nil, List.length_set] at *; omega)))) | ((with_reducible refine And.intro (?_ : (_ : Int) ≤ _) ?_); (focus (first | decide | omega | (unfold CMul; omega) | (unfold CDiv; omega) | (unfold CPow; decide) | (exact cpow1 (by omega) (by omega)) | (simp only [rngD_len, List.length_replicate, List.length_map, List.length_append, List.length_cons, List.length_nil, List.length_set] at *; omega)))) | ((with_reducible refine And.intro (?_ : (_ : Nat) < _) ?_); (focus (first | decide | omega | (unfold CMul; omega) | (unfold CDiv; omega) | (unfold CPow; decide) | (exact cpow1 (by omega) (by omega)) | (simp only [rngD_len, List.length_replicate, List.length_map, List.length_append, List.length_cons, List.length_nil, List.length_set] at *; omega)))) | ((with_reducible refine And.intro (?_ : (_ : Int) < _) ?_); (focus (first | decide | omega | (unfold CMul; omega) | (unfold CDiv; omega) | (unfold CPow; decide) | (exact cpow1 (by omega) (by omega)) | (simp only [rngD_len, List.length_replicate, List.length_map, List.length_append, List.length_cons, List.length_nil, List.length_set] at *; omega)))) | ((with_reducible refine And.intro (?_ : CMul _ _) ?_); (focus (first | decide | omega | (unfold CMul; omega) | (unfold CDiv; omega) | (unfold CPow; decide) | (exact cpow1 (by omega) (by omega)) | (simp only [rngD_len, List.length_replicate, List.length_map, List.length_append, List.length_cons, List.length_nil, List.length_set] at *; omega)))) | ((with_reducible refine And.intro (?_ : CDiv _ _) ?_); (focus (first | decide | omega | (unfold CMul; omega) | (unfold CDiv; omega) | (unfold CPow; decide) | (exact cpow1 (by omega) (by omega)) | (simp only [rngD_len, List.length_replicate, List.length_map, List.length_append, List.length_cons, List.length_nil, List.length_set] at *; omega)))) | ((with_reducible refine And.intro (?_ : CPow _ _) ?_); (focus (first | decide | omega | (unfold CMul; omega) | (unfold CDiv; omega) | (unfold CPow; decide) | (exact cpow1 (by omega) (by omega)) | (simp only [rngD_len, List.length_replicate, List.length_map, List.length_append, List.length_cons, List.length_nil, List.length_set] at *; omega)))) | ((with_reducible refine And.intro (?_ : (_ : Nat) = _) ?_); (focus (first | decide | omega | (unfold CMul; omega) | (unfold CDiv; omega) | (unfold CPow; decide) | (exact cpow1 (by omega) (by omega)) | (simp only [rngD_len, List.length_replicate, List.length_map, List.length_append, List.length_cons, List.length_nil, List.length_set] at *; omega))))); conv => whnf)); (try dsimp only [List.set_cons_zero, List.set_cons_succ, upA])))
theorem c2_fact (n : Str) (ts : List Tm) : G2 (.fact n ts) := by
  have post := fun {d : D} h => ch_post (q := .fact n ts) (r := d) h
  have rn : rul (.fact n ts) = none := rfl
  rw [rn] at post
  simp only [encQ, G2] at post ⊢
  walk_at "Ddlx"
  exact post rfl
theorem c2_not (k : K2) (p q : Qn) (hk : k = .sincenot ∨ k = .untilnot) : G2 (.two k p q) := by
  have post := fun {d : D} h => ch_post (q := .two k p q) (r := d) h
  have rn : rul (.two k p q) = none := by
    refine rul_two_none k p q ?_ ?_ ?_ ?_ <;> rcases hk with rfl | rfl <;> simp [sameK, shK]
  rw [rn] at post
  simp only [encQ, G2] at post ⊢
  rcases hk with rfl | rfl <;>
  · walk_at "Ddlx"
    refine pS_shift (fun a p' hp => ?_) (fun hp => ?_)
    · walk_at "Ddlx"
      refine pS_shift (fun b q' hq => ?_) (fun hq => ?_)
      · walk_at "Ddlx"
        exact post rfl
      · walk_at "Ddlx"
        exact post rfl
    · walk_at "Ddlx"
      exact post rfl
theorem c2_since (k : K2) (p q : Qn) (hk : k = .since ∨ k = .until) (hs1 : SeqAt.shaped (toP (encQ p)) = true) (hs2 : SeqAt.shaped (toP (encQ q)) = true) : G2 (.two k p q) := by
  have post := fun {d : D} h => ch_post (q := .two k p q) (r := d) h
  by_cases e : p = q
  · have rn : rul (.two k p q) = some p := by rw [← e]; exact rul_two_same (by rcases hk with rfl | rfl <;> rfl)
    have ev := eqv_rf (pl_Q p) (pl_Q q) (by rw [e])
    rw [rn] at post
    simp only [encQ, G2] at post ⊢
    rcases hk with rfl | rfl <;>
    · walk_at "Ddlx"
      refine ifb_eqt ev ?_
      walk_at "Ddlx"
      exact post rfl
  · have rn : rul (.two k p q) = none := by
      refine rul_two_none k p q (fun h => e h.2) ?_ ?_ ?_ <;> rcases hk with rfl | rfl <;> simp [sameK, shK]
    have ev := eqv_ne (pl_Q p) (pl_Q q) (fun h => e (encQ_inj h))
    rw [rn] at post
    simp only [encQ, G2] at post ⊢
    rcases hk with rfl | rfl <;>
    · walk_at "Ddlx"
      refine ifb_eqf ev ?_
      walk_at "Ddlx"
      refine pS_shift (fun a p' hp => ?_) (fun hp => ?_)
      · walk_at "Ddlx"
        refine pS_shift (fun b q' hq => ?_) (fun hq => ?_)
        · walk_at "Ddlx"
          exact post rfl
        · walk_at "Ddlx"
          exact post rfl
      · walk_at "Ddlx"
        exact post rfl
theorem c2_unless (p q : Qn) : G2 (.two .unless p q) := by
  have post := fun {d : D} h => ch_post (q := .two .unless p q) (r := d) h
  have ns : ¬ (sameK .unless = true ∧ p = q) := fun h => by simp [sameK] at h
  have rn := rul_two_none .unless p q ns
  simp only [encQ, G2] at post ⊢
  walk_at "Ddlx"
  refine pS_shift (fun a p' hp => ?_) (fun hp => ?_)
  · subst hp
    walk_at "Ddlx"
    refine pS_shift (fun b q' hq => ?_) (fun hq => ?_)
    · subst hq
      walk_at "Ddlx"
      refine ifb_dec (fun e => ?_) (fun e => ?_)
      · subst e
        walk_at "Ddlx"
        refine post ?_
        rw [rul_two_shift ns rfl]
        simp only [encR, encQ]
      · walk_at "Ddlx"
        refine post ?_
        rw [rn (fun a1 p1 b1 q1 h1 h2 _ => by cases h1; cases h2; exact e) (by intros; simp) (by intros; simp)]
        rfl
    · walk_at "Ddlx"
      refine post ?_
      rw [rn (fun a1 p1 b1 q1 h1 h2 _ => absurd h2 (hq _ _)) (by intros; simp) (by intros; simp)]
      rfl
  · walk_at "Ddlx"
    refine post ?_
    rw [rn (fun a1 p1 b1 q1 h1 h2 _ => absurd h1 (hp _ _)) (by intros; simp) (by intros; simp)]
    rfl
end DL

set_option maxHeartbeats 1000000
namespace DL
open PySem PySem.Spec PyProof.Rows L2
theorem look_every {p : Qn} (h : ((tab_EVERY_MOMENT.map D.str).any fun y => eqF y (.str (kd p))) = true) : ∃ k w r, p = .look k w r ∧ someK k = false := by
  rw [any_str] at h
  have h := of_decide_eq_true h
  simp only [tab_EVERY_MOMENT, List.mem_cons, List.not_mem_nil, or_false] at h
  have hi : ix p = 5 := by rw [← cl_kd]; rcases h with h | h <;> rw [h] <;> decide
  cases p <;> simp only [ix] at hi <;> first | (exact absurd hi (by decide)) | skip
  rename_i k w r _
  refine ⟨k, w, r, rfl, ?_⟩
  have h : k.s = _ ∨ k.s = _ := h
  cases k <;> first | rfl | (rcases h with h | h <;> exact absurd h (by decide))
theorem look_some {p : Qn} (h : ((tab_SOME_MOMENT.map D.str).any fun y => eqF y (.str (kd p))) = true) : ∃ k w r, p = .look k w r ∧ someK k = true := by
  rw [any_str] at h
  have h := of_decide_eq_true h
  simp only [tab_SOME_MOMENT, List.mem_cons, List.not_mem_nil, or_false] at h
  have hi : ix p = 5 := by rw [← cl_kd]; rcases h with h | h <;> rw [h] <;> decide
  cases p <;> simp only [ix] at hi <;> first | (exact absurd hi (by decide)) | skip
  rename_i k w r _
  refine ⟨k, w, r, rfl, ?_⟩
  have h : k.s = _ ∨ k.s = _ := h
  cases k <;> first | rfl | (rcases h with h | h <;> exact absurd h (by decide))
theorem two_fol {p : Qn} (h : ((tab_FOLLOWING.map D.str).any fun y => eqF y (.str (kd p))) = true) : ∃ k a b, p = .two k a b ∧ folB k = true := by
  rw [any_str] at h
  have h := of_decide_eq_true h
  simp only [tab_FOLLOWING, List.mem_cons, List.not_mem_nil, or_false] at h
  have hi : ix p = 1 := by rw [← cl_kd]; rcases h with h | h | h | h <;> rw [h] <;> decide
  cases p <;> simp only [ix] at hi <;> first | (exact absurd hi (by decide)) | skip
  rename_i k w r _
  refine ⟨k, w, r, rfl, ?_⟩
  have h : k.s = _ ∨ k.s = _ ∨ k.s = _ ∨ k.s = _ := h
  cases k <;> first | rfl | (rcases h with h | h | h | h <;> exact absurd h (by decide))
theorem every_look {k : K4} {w : Option Int} {r : Qn} (h : someK k = false) : ((tab_EVERY_MOMENT.map D.str).any fun y => eqF y (.str (kd (.look k w r)))) = true := by
  rw [any_str]
  show decide (k.s ∈ tab_EVERY_MOMENT) = true
  cases k <;> first | (cases h; done) | decide
theorem some_look {k : K4} {w : Option Int} {r : Qn} (h : someK k = true) : ((tab_SOME_MOMENT.map D.str).any fun y => eqF y (.str (kd (.look k w r)))) = true := by
  rw [any_str]
  show decide (k.s ∈ tab_SOME_MOMENT) = true
  cases k <;> first | (cases h; done) | decide
theorem fol_two {k : K2} {a b : Qn} (h : folB k = true) : ((tab_FOLLOWING.map D.str).any fun y => eqF y (.str (kd (.two k a b)))) = true := by
  rw [any_str]
  show decide (k.s ∈ tab_FOLLOWING) = true
  cases k <;> first | (cases h; done) | decide
theorem sh_tri {p : Qn} {a b : D} (ok : okQ p) (hd : dpQ p ≤ 40) (h : tri p a b) : SeqAt.shaped (toP (.tup [.str (kd p), a])) = true ∧ plD (.tup [.str (kd p), a]) = true := by
  obtain ⟨h1, h2⟩ := lay_Q p ok
  have h3 := pl_Q p
  rw [h.1] at h1 h2 h3
  simp only [toP, toPs, PyData.canLay0, PyData.canLayAll0, PyData.depth, PyData.depthAll, Bool.and_eq_true] at h1 h2
  simp only [plD, plDs, Bool.and_eq_true] at h3
  refine ⟨?_, by simp only [plD, plDs, h3, Bool.and_self]⟩
  unfold SeqAt.shaped
  simp only [toP, toPs, PyData.canLay0, PyData.canLayAll0, PyData.depth, PyData.depthAll, Bool.and_eq_true, decide_eq_true_eq]
  exact ⟨⟨h1.1, h1.2.1, trivial⟩, by omega⟩
theorem tri_eq {p q : Qn} {a b c d : D} {k : K4} {w : Option Int} {r : Qn} (hp : p = .look k w r) (ht : tri p a b) (hq : tri q c d) (e : D.tup [.str (kd p), a] = .tup [.str (kd q), c]) : ∃ r2, q = .look k w r2 := by
  subst hp
  simp only [D.tup.injEq, List.cons.injEq, D.str.injEq, and_true] at e
  obtain ⟨w2, r2, rfl, rfl, _⟩ := tri_look hq (show k.s = kd q from e.1)
  have h := ht.1
  simp only [encQ, D.tup.injEq, List.cons.injEq, and_true] at h
  rw [← h.2.1] at e
  obtain rfl := encO_inj e.2
  exact ⟨r2, rfl⟩
theorem tri_eq2 {p q : Qn} {a b c d : D} {k : K2} {s r : Qn} (hp : p = .two k s r) (ht : tri p a b) (hq : tri q c d) (e : D.tup [.str (kd p), a] = .tup [.str (kd q), c]) : ∃ r2, q = .two k s r2 := by
  subst hp
  simp only [D.tup.injEq, List.cons.injEq, D.str.injEq, and_true] at e
  have hi : ix q = 1 := by rw [← cl_kd, ← e.1]; exact cl2 k
  cases q <;> simp only [ix] at hi <;> first | (exact absurd hi (by decide)) | skip
  rename_i k' s' r'
  obtain rfl := K2.inj (show k.s = k'.s from e.1)
  have h := ht.1
  have h' := hq.1
  simp only [encQ, kd, D.tup.injEq, List.cons.injEq, and_true, true_and] at h h'
  have e2 : encQ s = encQ s' := by rw [h.1, h'.1]; exact e.2
  exact ⟨r', by rw [encQ_inj e2]⟩
theorem tri_two {k : K2} {p q : Qn} {a b : D} (h : tri (.two k p q) a b) : a = encQ p ∧ b = encQ q := by
  have h := h.1
  simp only [encQ, kd, D.tup.injEq, List.cons.injEq, and_true, true_and] at h
  exact ⟨h.1.symm, h.2.symm⟩
theorem tri_lk {k : K4} {w : Option Int} {q : Qn} {a b : D} (h : tri (.look k w q) a b) : a = encO w ∧ b = encQ q := by
  have h := h.1
  simp only [encQ, kd, D.tup.injEq, List.cons.injEq, and_true, true_and] at h
  exact ⟨h.1.symm, h.2.symm⟩
local macro_rules | `(tactic| walk_at "Ddlx") => `(tactic| ((conv => whnf); (repeat ((first | ((with_reducible refine And.intro (stOk_nl ?_ ?_) ?_); (focus (with_reducible first | assumption | exact encQ_nl _ | exact encO_nl _ | exact encC_nl _)); (focus exact rfl)) | ((refine pick_nl ?_ ?_); (focus (with_reducible first | assumption | exact encQ_nl _ | exact encO_nl _ | exact encC_nl _))) | ((with_reducible refine And.intro ?_ ?_); (focus (with_reducible first | assumption | exact encQ_nl _ | exact encO_nl _ | exact encC_nl _))) | ((with_reducible refine And.intro (immA_c ?_ ?_) ?_); (focus (first | (with_reducible first | assumption | exact encQ_nl _ | exact encO_nl _ | exact encC_nl _) | exact rfl)); (focus ((repeat ((with_reducible refine immA_c ?_ ?_); (focus (first | (with_reducible first | assumption | exact encQ_nl _ | exact encO_nl _ | exact encC_nl _) | exact rfl)))); exact rfl))) | refine And.intro rfl ?_ | refine And.intro trivial ?_ | refine And.intro ⟨rfl, trivial⟩ ?_ | refine And.intro ⟨rfl, rfl, trivial⟩ ?_ | refine ifb_nq (by first | assumption | decide) ?_ | refine ifb_pq (by assumption) ?_ | refine ifb_er ?_ | refine ifb_t ?_ | refine ifb_f ?_ | refine ifb_nr ?_ | refine ifb_er ?_ | ((with_reducible refine And.intro (?_ : (_ : Nat) ≤ _) ?_); (focus (first | decide | omega | (unfold CMul; omega) | (unfold CDiv; omega) | (unfold CPow; decide) | (exact cpow1 (by omega) (by omega)) | (simp only [rngD_len, List.length_replicate, List.length_map, List.length_append, List.length_cons, List.length_nil, List.length_set] at *; omega)))) | ((with_reducible refine And.intro (?_ : (_ : Int) ≤ _) ?_); (focus (first | decide | omega | (unfold CMul; omega) | (unfold CDiv; omega) | (unfold CPow; decide) | (exact cpow1 (by omega) (by omega)) | (simp only [rngD_len, List.length_replicate, List.length_map, List.length_append, List.length_cons, List.length_nil, List.length_set] at *; omega)))) | ((with_reducible refine And.intro (?_ : (_ : Nat) < _) ?_); (focus (first | decide | omega | (unfold CMul; omega) | (unfold CDiv; omega) | (unfold CPow; decide) | (exact cpow1 (by omega) (by omega)) | (simp only [rngD_len, List.length_replicate, List.length_map, List.length_append, List.length_cons, List.length_nil, List.length_set] at *; omega)))) | ((with_reducible refine And.intro (?_ : (_ : Int) < _) ?_); (focus (first | decide | omega | (unfold CMul; omega) | (unfold CDiv; omega) | (unfold CPow; decide) | (exact cpow1 (by omega) (by omega)) | (simp only [rngD_len, List.length_replicate, List.length_map, List.length_append, List.length_cons, List.length_nil, List.length_set] at *; omega)))) | ((with_reducible refine And.intro (?_ : CMul _ _) ?_); (focus (first | decide | omega | (unfold CMul; omega) | (unfold CDiv; omega) | (unfold CPow; decide) | (exact cpow1 (by omega) (by omega)) | (simp only [rngD_len, List.length_replicate, List.length_map, List.length_append, List.length_cons, List.length_nil, List.length_set] at *; omega)))) | ((with_reducible refine And.intro (?_ : CDiv _ _) ?_); (focus (first | decide | omega | (unfold CMul; omega) | (unfold CDiv; omega) | (unfold CPow; decide) | (exact cpow1 (by omega) (by omega)) | (simp only [rngD_len, List.length_replicate, List.length_map, List.length_append, List.length_cons, List.length_nil, List.length_set] at *; omega)))) | ((with_reducible refine And.intro (?_ : CPow _ _) ?_); (focus (first | decide | omega | (unfold CMul; omega) | (unfold CDiv; omega) | (unfold CPow; decide) | (exact cpow1 (by omega) (by omega)) | (simp only [rngD_len, List.length_replicate, List.length_map, List.length_append, List.length_cons, List.length_nil, List.length_set] at *; omega)))) | ((with_reducible refine And.intro (?_ : (_ : Nat) = _) ?_); (focus (first | decide | omega | (unfold CMul; omega) | (unfold CDiv; omega) | (unfold CPow; decide) | (exact cpow1 (by omega) (by omega)) | (simp only [rngD_len, List.length_replicate, List.length_map, List.length_append, List.length_cons, List.length_nil, List.length_set] at *; omega))))); conv => whnf)); (try dsimp only [List.set_cons_zero, List.set_cons_succ, upA])))
theorem c2_both (p q : Qn) (op : okQ p) (oq : okQ q) (dp : dpQ p ≤ 40) (dq : dpQ q ≤ 40) : G2 (.two .both p q) := by
  have post := fun {d : D} h => ch_post (q := .two .both p q) (r := d) h
  have hs1 := shaped_Q op dp
  have hs2 := shaped_Q oq dq
  by_cases e : p = q
  · have rn : rul (.two .both p q) = some p := by rw [← e]; exact rul_two_same rfl
    have ev := eqv_rf (pl_Q p) (pl_Q q) (by rw [e])
    rw [rn] at post
    simp only [encQ, G2] at post ⊢
    walk_at "Ddlx"
    refine ifb_eqt ev ?_
    walk_at "Ddlx"
    exact post rfl
  · have rn := rul_two_none .both p q (fun h => e h.2)
    have ev := eqv_ne (pl_Q p) (pl_Q q) (fun h => e (encQ_inj h))
    simp only [encQ, G2] at post ⊢
    walk_at "Ddlx"
    refine ifb_eqf ev ?_
    walk_at "Ddlx"
    refine pS_shift (fun a p' hp => ?_) (fun hp => ?_)
    · subst hp
      walk_at "Ddlx"
      refine pS_shift (fun b q' hq => ?_) (fun hq => ?_)
      · subst hq
        walk_at "Ddlx"
        refine ifb_dec (fun e2 => ?_) (fun e2 => ?_)
        · subst e2
          walk_at "Ddlx"
          refine post ?_
          rw [rul_two_shift (fun h => e h.2) rfl]
          simp only [encR, encQ]
        · walk_at "Ddlx"
          refine post ?_
          rw [rn (fun a1 p1 b1 q1 h1 h2 _ => by cases h1; cases h2; exact e2) (by intro _ _ _ _ h; cases h) (by intro _ _ _ _ h; cases h)]
          rfl
      · walk_at "Ddlx"
        refine pS_any (fun a b ht ha hb => ?_) (fun hq2 => ?_)
        all_goals
          walk_at "Ddlx"
          refine post ?_
          rw [rn (fun a1 p1 b1 q1 h1 h2 _ => absurd h2 (hq _ _)) (by intro _ _ _ _ h; cases h) (by intro _ _ _ _ h; cases h)]
          rfl
    · walk_at "Ddlx"
      refine pS_any (fun a b ht ha hb => ?_) (fun hp2 => ?_)
      · walk_at "Ddlx"
        refine pS_any (fun c d hu hc hd => ?_) (fun hq2 => ?_)
        · walk_at "Ddlx"
          cases hE : ((tab_EVERY_MOMENT.map D.str).any fun y => eqF y (.str (kd p)))
          · walk_at "Ddlx"
            refine post ?_
            rw [rn (fun a1 p1 b1 q1 h1 h2 _ => absurd h1 (hp _ _)) (fun k1 a1 p1 q1 h1 h2 h3 => ?_) (by intro k1 p1 q1 r1 h1 h2 h3; simp)]
            · rfl
            · rcases h3 with ⟨h3, _⟩ | ⟨_, h3⟩
              · cases h3
              · subst h1
                rw [every_look h3] at hE
                cases hE
          · walk_at "Ddlx"
            obtain ⟨k1, w, r, hl, hk⟩ := look_every hE
            obtain ⟨s1, l1⟩ := sh_tri op dp ht
            obtain ⟨s2, l2⟩ := sh_tri oq dq hu
            walk_at "Ddlx"
            by_cases e3 : D.tup [.str (kd p), a] = .tup [.str (kd q), c]
            · refine ifb_eqt (eqv_rf l1 l2 e3) ?_
              obtain ⟨r2, hl2⟩ := tri_eq hl ht hu e3
              subst hl hl2
              obtain ⟨rfl, rfl⟩ := tri_lk ht
              obtain ⟨rfl, rfl⟩ := tri_lk hu
              walk_at "Ddlx"
              refine post ?_
              rw [rul_two_look (fun h => e h.2) (.inr ⟨rfl, hk⟩)]
              simp only [encR, encQ]
              rfl
            · refine ifb_eqf (eqv_ne l1 l2 e3) ?_
              walk_at "Ddlx"
              refine post ?_
              rw [rn (fun a1 p1 b1 q1 h1 h2 _ => absurd h1 (hp _ _)) (fun k1 a1 p1 q1 h1 h2 h3 => ?_) (by intro k1 p1 q1 r1 h1 h2 h3; simp)]
              · rfl
              · subst h1 h2
                obtain ⟨rfl, rfl⟩ := tri_lk ht
                obtain ⟨rfl, rfl⟩ := tri_lk hu
                exact e3 rfl
        · walk_at "Ddlx"
          refine post ?_
          rw [rn (fun a1 p1 b1 q1 h1 h2 _ => absurd h1 (hp _ _)) (fun k1 a1 p1 q1 h1 h2 h3 => ?_) (by intro k1 p1 q1 r1 h1 h2 h3; simp)]
          · rfl
          · subst h2
            exact absurd ⟨rfl, encO_nl _, encQ_nl _⟩ (hq2 (encO a1) (encQ q1))
      · walk_at "Ddlx"
        refine post ?_
        rw [rn (fun a1 p1 b1 q1 h1 h2 _ => absurd h1 (hp _ _)) (fun k1 a1 p1 q1 h1 h2 h3 => ?_) (by intro k1 p1 q1 r1 h1 h2 h3; simp)]
        · rfl
        · subst h1
          exact absurd ⟨rfl, encO_nl _, encQ_nl _⟩ (hp2 (encO a1) (encQ p1))
end DL

set_option maxHeartbeats 2000000
namespace DL
open PySem PySem.Spec PyProof.Rows L2
@[irreducible] def cs5 : CS := (ccG 1 [0] (pS 3 (psC (pV (.str (PySem.Str.ofString "either"))) (psC (pS 3 (psC pC (psC pC (psC pC psN)))) (psC (pS 3 (psC pC (psC pC (psC pC psN)))) psN)))) [1, 2, 3, 6, 7, 8] (cAnd (cOp (fIn false) (cVar 1) (cC (.tpd (tab_FOLLOWING.map D.str)))) (cOp fEqD (cTup (cCons (cVar 1) (cCons (cVar 2) cNil))) (cTup (cCons (cVar 6) (cCons (cVar 7) cNil))))) (cRet 1 (cTup (cCons (cVar 1) (cCons (cVar 2) (cCons (cTup (cCons (cC (.str (PySem.Str.ofString "either"))) (cCons (cVar 3) (cCons (cVar 8) cNil)))) cNil)))))
      ccN)
@[irreducible] def cs4 : CS := (ccG 1 [0] (pS 3 (psC (pV (.str (PySem.Str.ofString "both"))) (psC (pS 3 (psC pC (psC pC (psC pC psN)))) (psC (pS 3 (psC pC (psC pC (psC pC psN)))) psN)))) [1, 4, 2, 6, 5, 3] (cAnd (cOp (fIn false) (cVar 1) (cC (.tpd (tab_EVERY_MOMENT.map D.str)))) (cOp fEqD (cTup (cCons (cVar 1) (cCons (cVar 4) cNil))) (cTup (cCons (cVar 6) (cCons (cVar 5) cNil))))) (cRet 1 (cTup (cCons (cVar 1) (cCons (cVar 4) (cCons (cTup (cCons (cC (.str (PySem.Str.ofString "both"))) (cCons (cVar 2) (cCons (cVar 3) cNil)))) cNil)))))
      cs5)
@[irreducible] def cs3 : CS := (ccG 1 [0] (pS 3 (psC (pV (.str (PySem.Str.ofString "either"))) (psC (pS 3 (psC pC (psC pC (psC pC psN)))) (psC (pS 3 (psC pC (psC pC (psC pC psN)))) psN)))) [1, 4, 2, 6, 5, 3] (cAnd (cOp (fIn false) (cVar 1) (cC (.tpd (tab_SOME_MOMENT.map D.str)))) (cOp fEqD (cTup (cCons (cVar 1) (cCons (cVar 4) cNil))) (cTup (cCons (cVar 6) (cCons (cVar 5) cNil))))) (cRet 1 (cTup (cCons (cVar 1) (cCons (cVar 4) (cCons (cTup (cCons (cC (.str (PySem.Str.ofString "either"))) (cCons (cVar 2) (cCons (cVar 3) cNil)))) cNil)))))
      cs4)
def w'_two : WS :=
    (cSeq (cMatch (cVar 0)
      (ccG 1 [0] (pS 3 (psC pC (psC pC (psC pC psN)))) [1, 2, 3] (cAnd (cOp (fIn false) (cVar 1) (cC (.tpd (tab_SAME_TWICE.map D.str)))) (cOp fEqD (cVar 2) (cVar 3))) (cRet 1 (cVar 2))
      (ccG 1 [0] (pS 3 (psC pC (psC (pS 3 (psC (pV (.str (PySem.Str.ofString "shift"))) (psC pC (psC pC psN)))) (psC (pS 3 (psC (pV (.str (PySem.Str.ofString "shift"))) (psC pC (psC pC psN)))) psN)))) [1, 4, 2, 5, 3] (cAnd (cOp (fIn false) (cVar 1) (cC (.tpd (tab_SHIFTED_TOGETHER.map D.str)))) (cOp fEqS (cVar 4) (cVar 5))) (cRet 1 (cTup (cCons (cC (.str (PySem.Str.ofString "shift"))) (cCons (cVar 4) (cCons (cTup (cCons (cVar 1) (cCons (cVar 2) (cCons (cVar 3) cNil)))) cNil)))))
      cs3)))
    (cRet 1 (cC .non)))
theorem w'_two_eq : w_changed_with_two_parts = w'_two := by
  unfold w'_two cs3 cs4 cs5
  rfl

noncomputable abbrev KE2 (q : Qn) : Kt := { nx := fun e => sp_changed_with_two_parts.post [encQ q] .non (outs e 1), rt := fun d e => sp_changed_with_two_parts.post [encQ q] d (outs e 1) }
noncomputable abbrev KK (q : Qn) : Kt := { KE2 q with nx := fun e => cRet 1 (cC .non) e (KE2 q) }
local macro_rules | `(tactic| walk_at "Ddlx") => `(tactic| ((conv => whnf); (repeat ((first | ((with_reducible refine And.intro (stOk_nl ?_ ?_) ?_); (focus (with_reducible first | assumption | exact encQ_nl _ | exact encO_nl _ | exact encC_nl _)); (focus exact rfl)) | ((refine pick_nl ?_ ?_); (focus (with_reducible first | assumption | exact encQ_nl _ | exact encO_nl _ | exact encC_nl _))) | ((with_reducible refine And.intro ?_ ?_); (focus (with_reducible first | assumption | exact encQ_nl _ | exact encO_nl _ | exact encC_nl _))) | ((with_reducible refine And.intro (immA_c ?_ ?_) ?_); (focus (first | (with_reducible first | assumption | exact encQ_nl _ | exact encO_nl _ | exact encC_nl _) | exact rfl)); (focus ((repeat ((with_reducible refine immA_c ?_ ?_); (focus (first | (with_reducible first | assumption | exact encQ_nl _ | exact encO_nl _ | exact encC_nl _) | exact rfl)))); exact rfl))) | refine And.intro rfl ?_ | refine And.intro trivial ?_ | refine And.intro ⟨rfl, trivial⟩ ?_ | refine And.intro ⟨rfl, rfl, trivial⟩ ?_ | refine ifb_nq (by first | assumption | decide) ?_ | refine ifb_pq (by assumption) ?_ | refine ifb_er ?_ | refine ifb_t ?_ | refine ifb_f ?_ | refine ifb_nr ?_ | refine ifb_er ?_ | ((with_reducible refine And.intro (?_ : (_ : Nat) ≤ _) ?_); (focus (first | decide | omega | (unfold CMul; omega) | (unfold CDiv; omega) | (unfold CPow; decide) | (exact cpow1 (by omega) (by omega)) | (simp only [rngD_len, List.length_replicate, List.length_map, List.length_append, List.length_cons, List.length_nil, List.length_set] at *; omega)))) | ((with_reducible refine And.intro (?_ : (_ : Int) ≤ _) ?_); (focus (first | decide | omega | (unfold CMul; omega) | (unfold CDiv; omega) | (unfold CPow; decide) | (exact cpow1 (by omega) (by omega)) | (simp only [rngD_len, List.length_replicate, List.length_map, List.length_append, List.length_cons, List.length_nil, List.length_set] at *; omega)))) | ((with_reducible refine And.intro (?_ : (_ : Nat) < _) ?_); (focus (first | decide | omega | (unfold CMul; omega) | (unfold CDiv; omega) | (unfold CPow; decide) | (exact cpow1 (by omega) (by omega)) | (simp only [rngD_len, List.length_replicate, List.length_map, List.length_append, List.length_cons, List.length_nil, List.length_set] at *; omega)))) | ((with_reducible refine And.intro (?_ : (_ : Int) < _) ?_); (focus (first | decide | omega | (unfold CMul; omega) | (unfold CDiv; omega) | (unfold CPow; decide) | (exact cpow1 (by omega) (by omega)) | (simp only [rngD_len, List.length_replicate, List.length_map, List.length_append, List.length_cons, List.length_nil, List.length_set] at *; omega)))) | ((with_reducible refine And.intro (?_ : CMul _ _) ?_); (focus (first | decide | omega | (unfold CMul; omega) | (unfold CDiv; omega) | (unfold CPow; decide) | (exact cpow1 (by omega) (by omega)) | (simp only [rngD_len, List.length_replicate, List.length_map, List.length_append, List.length_cons, List.length_nil, List.length_set] at *; omega)))) | ((with_reducible refine And.intro (?_ : CDiv _ _) ?_); (focus (first | decide | omega | (unfold CMul; omega) | (unfold CDiv; omega) | (unfold CPow; decide) | (exact cpow1 (by omega) (by omega)) | (simp only [rngD_len, List.length_replicate, List.length_map, List.length_append, List.length_cons, List.length_nil, List.length_set] at *; omega)))) | ((with_reducible refine And.intro (?_ : CPow _ _) ?_); (focus (first | decide | omega | (unfold CMul; omega) | (unfold CDiv; omega) | (unfold CPow; decide) | (exact cpow1 (by omega) (by omega)) | (simp only [rngD_len, List.length_replicate, List.length_map, List.length_append, List.length_cons, List.length_nil, List.length_set] at *; omega)))) | ((with_reducible refine And.intro (?_ : (_ : Nat) = _) ?_); (focus (first | decide | omega | (unfold CMul; omega) | (unfold CDiv; omega) | (unfold CPow; decide) | (exact cpow1 (by omega) (by omega)) | (simp only [rngD_len, List.length_replicate, List.length_map, List.length_append, List.length_cons, List.length_nil, List.length_set] at *; omega))))); conv => whnf)); (try dsimp only [List.set_cons_zero, List.set_cons_succ, upA])))
local macro_rules | `(tactic| walk_at "Ddl") => `(tactic| ((conv => whnf); (repeat ((first | refine And.intro rfl ?_ | refine And.intro trivial ?_ | refine And.intro ⟨rfl, trivial⟩ ?_ | refine And.intro ⟨rfl, rfl, trivial⟩ ?_ | refine ifb_t ?_ | refine ifb_f ?_ | refine ifb_nr ?_ | refine ifb_er ?_ | refine And.intro (by first | decide | omega | (unfold CMul; omega) | (unfold CDiv; omega) | (unfold CPow; decide) | (exact cpow1 (by omega) (by omega)) | (exact cpow1 (by dsimp only; omega) (by dsimp only; omega)) | (simp only [rngD_len, List.length_replicate, List.length_map, List.length_append, List.length_cons, List.length_nil, List.length_set] at *; omega)) ?_); conv => whnf))))
theorem s5 (p q : Qn) (op : okQ p) (oq : okQ q) (dp : dpQ p ≤ 40) (dq : dpQ q ≤ 40) (e : ¬ p = q)
    (h2 : ∀ a p' b q', p = .shift a p' → q = .shift b q' → shK .either = true → ¬ a = b)
    (h3 : ∀ k1 a p' q', p = .look k1 a p' → q = .look k1 a q' → ¬ (K2.either = .either ∧ someK k1 = true ∨ K2.either = .both ∧ someK k1 = false))
    (o1 o2 o3 o4 o5 o6 o7 o8 : Option D) : cs5 (encQ (.two .either p q)) [some (encQ (.two .either p q)), o1, o2, o3, o4, o5, o6, o7, o8] (KK (.two .either p q)) := by
  have post := fun {d : D} h => ch_post (q := .two .either p q) (r := d) h
  have rn := rul_two_none .either p q (fun h => e h.2)
  simp only [encQ, KK] at post ⊢
  unfold cs5
  walk_at "Ddlx"
  refine pS_any (fun a5 b5 ht5 ha5 hb5 => ?_) (fun hp5 => ?_)
  · walk_at "Ddlx"
    refine pS_any (fun c5 d5 hu5 hc5 hd5 => ?_) (fun hq5 => ?_)
    · walk_at "Ddlx"
      cases hF : ((tab_FOLLOWING.map D.str).any fun y => eqF y (.str (kd p)))
      · walk_at "Ddlx"
        refine post ?_
        rw [rn h2 h3 (fun k1 p1 q1 r1 g1 g2 g3 => ?_)]
        · rfl
        · subst g1
          rw [fol_two g3] at hF
          cases hF
      · obtain ⟨k1, s, r, hl, hk⟩ := two_fol hF
        obtain ⟨s1, l1⟩ := sh_tri op dp ht5
        obtain ⟨s2, l2⟩ := sh_tri oq dq hu5
        walk_at "Ddlx"
        by_cases e3 : D.tup [.str (kd p), a5] = .tup [.str (kd q), c5]
        · refine ifb_eqt (eqv_rf l1 l2 e3) ?_
          obtain ⟨r2, hl2⟩ := tri_eq2 hl ht5 hu5 e3
          subst hl hl2
          obtain ⟨rfl, rfl⟩ := tri_two ht5
          obtain ⟨rfl, rfl⟩ := tri_two hu5
          walk_at "Ddlx"
          refine post ?_
          rw [rul_two_fol e hk]
          simp only [encR, encQ]
          rfl
        · refine ifb_eqf (eqv_ne l1 l2 e3) ?_
          walk_at "Ddlx"
          refine post ?_
          rw [rn h2 h3 (fun k1 p1 q1 r1 g1 g2 g3 => ?_)]
          · rfl
          · subst g1 g2
            obtain ⟨rfl, rfl⟩ := tri_two ht5
            obtain ⟨rfl, rfl⟩ := tri_two hu5
            exact absurd rfl e3
    · walk_at "Ddlx"
      refine post ?_
      rw [rn h2 h3 (fun k1 p1 q1 r1 g1 g2 g3 => ?_)]
      · rfl
      · subst g2
        exact absurd ⟨rfl, encQ_nl _, encQ_nl _⟩ (hq5 (encQ p1) (encQ r1))
  · walk_at "Ddlx"
    refine post ?_
    rw [rn h2 h3 (fun k1 p1 q1 r1 g1 g2 g3 => ?_)]
    · rfl
    · subst g1
      exact absurd ⟨rfl, encQ_nl _, encQ_nl _⟩ (hp5 (encQ p1) (encQ q1))
theorem s3 (p q : Qn) (op : okQ p) (oq : okQ q) (dp : dpQ p ≤ 40) (dq : dpQ q ≤ 40) (e : ¬ p = q)
    (h2 : ∀ a p' b q', p = .shift a p' → q = .shift b q' → shK .either = true → ¬ a = b)
    (o1 o2 o3 o4 o5 o6 o7 o8 : Option D) : cs3 (encQ (.two .either p q)) [some (encQ (.two .either p q)), o1, o2, o3, o4, o5, o6, o7, o8] (KK (.two .either p q)) := by
  have post := fun {d : D} h => ch_post (q := .two .either p q) (r := d) h
  have rn := rul_two_none .either p q (fun h => e h.2)
  have S5 := s5 p q op oq dp dq e h2
  simp only [encQ, KK] at post S5 ⊢
  unfold cs3 cs4
  walk_at "Ddlx"
  refine pS_any (fun a b ht ha hb => ?_) (fun hp2 => ?_)
  · walk_at "Ddlx"
    refine pS_any (fun c d hu hc hd => ?_) (fun hq2 => ?_)
    · walk_at "Ddlx"
      cases hS : ((tab_SOME_MOMENT.map D.str).any fun y => eqF y (.str (kd p)))
      · walk_at "Ddlx"
        refine S5 (fun k1 a1 p1 q1 g1 g2 g3 => ?_) _ _ _ _ _ _ _ _
        rcases g3 with ⟨_, g3⟩ | ⟨g3, _⟩
        · subst g1
          rw [some_look g3] at hS
          cases hS
        · cases g3
      · obtain ⟨k1, w, r, hl, hk⟩ := look_some hS
        obtain ⟨s1, l1⟩ := sh_tri op dp ht
        obtain ⟨s2, l2⟩ := sh_tri oq dq hu
        walk_at "Ddlx"
        by_cases e3 : D.tup [.str (kd p), a] = .tup [.str (kd q), c]
        · refine ifb_eqt (eqv_rf l1 l2 e3) ?_
          obtain ⟨r2, hl2⟩ := tri_eq hl ht hu e3
          subst hl hl2
          obtain ⟨rfl, rfl⟩ := tri_lk ht
          obtain ⟨rfl, rfl⟩ := tri_lk hu
          walk_at "Ddlx"
          refine post ?_
          rw [rul_two_look (fun h => e h.2) (.inl ⟨rfl, hk⟩)]
          simp only [encR, encQ]
          rfl
        · refine ifb_eqf (eqv_ne l1 l2 e3) ?_
          walk_at "Ddlx"
          refine S5 (fun k1 a1 p1 q1 g1 g2 g3 => ?_) _ _ _ _ _ _ _ _
          subst g1 g2
          obtain ⟨rfl, rfl⟩ := tri_lk ht
          obtain ⟨rfl, rfl⟩ := tri_lk hu
          exact e3 rfl
    · walk_at "Ddlx"
      refine S5 (fun k1 a1 p1 q1 g1 g2 g3 => ?_) _ _ _ _ _ _ _ _
      subst g2
      exact absurd ⟨rfl, encO_nl _, encQ_nl _⟩ (hq2 (encO a1) (encQ q1))
  · walk_at "Ddlx"
    refine S5 (fun k1 a1 p1 q1 g1 g2 g3 => ?_) _ _ _ _ _ _ _ _
    subst g1
    exact absurd ⟨rfl, encO_nl _, encQ_nl _⟩ (hp2 (encO a1) (encQ p1))
theorem c2_either (p q : Qn) (op : okQ p) (oq : okQ q) (dp : dpQ p ≤ 40) (dq : dpQ q ≤ 40) : G2 (.two .either p q) := by
  have post := fun {d : D} h => ch_post (q := .two .either p q) (r := d) h
  have hs1 := shaped_Q op dp
  have hs2 := shaped_Q oq dq
  have S3 := s3 p q op oq dp dq
  show w_changed_with_two_parts _ _
  rw [w'_two_eq]
  by_cases e : p = q
  · have rn : rul (.two .either p q) = some p := by rw [← e]; exact rul_two_same rfl
    have ev := eqv_rf (pl_Q p) (pl_Q q) (by rw [e])
    rw [rn] at post
    clear S3
    simp only [encQ] at post ⊢
    walk_at "Ddlx"
    refine ifb_eqt ev ?_
    walk_at "Ddlx"
    exact post rfl
  · have ev := eqv_ne (pl_Q p) (pl_Q q) (fun h => e (encQ_inj h))
    have S3 := S3 e
    simp only [encQ, KK] at post S3 ⊢
    walk_at "Ddlx"
    refine ifb_eqf ev ?_
    walk_at "Ddlx"
    refine pS_shift (fun a p' hp => ?_) (fun hp => ?_)
    · subst hp
      walk_at "Ddlx"
      refine pS_shift (fun b q' hq => ?_) (fun hq => ?_)
      · subst hq
        walk_at "Ddlx"
        refine ifb_dec (fun e2 => ?_) (fun e2 => ?_)
        · subst e2
          walk_at "Ddlx"
          refine post ?_
          rw [rul_two_shift (fun h => e h.2) rfl]
          simp only [encR, encQ]
        · walk_at "Ddlx"
          exact S3 (fun a1 p1 b1 q1 h1 h2 _ => by cases h1; cases h2; exact e2) _ _ _ _ _ _ _ _
      · walk_at "Ddlx"
        exact S3 (fun a1 p1 b1 q1 h1 h2 _ => absurd h2 (hq _ _)) _ _ _ _ _ _ _ _
    · walk_at "Ddlx"
      exact S3 (fun a1 p1 b1 q1 h1 h2 _ => absurd h1 (hp _ _)) _ _ _ _ _ _ _ _
theorem pure_changed_with_two_parts : ∀ ds, ds.length = 1 → sp_changed_with_two_parts.pre ds → w_changed_with_two_parts (env0 ds 8) { nx := fun e => sp_changed_with_two_parts.post ds .non (outs e 1), rt := fun d e => sp_changed_with_two_parts.post ds d (outs e 1) } := by
  rintro ds _ ⟨q, rfl, hq, hd, hl⟩
  cases q with
  | fact n ts => exact c2_fact n ts
  | two k p q =>
    simp only [dpQ] at hd
    have dp : dpQ p ≤ 40 := by omega
    have dq : dpQ q ≤ 40 := by omega
    cases k
    · exact c2_both p q hq.2.1 hq.2.2 dp dq
    · exact c2_either p q hq.2.1 hq.2.2 dp dq
    · exact c2_unless p q
    · exact c2_since .since p q (.inl rfl) (shaped_Q hq.2.1 dp) (shaped_Q hq.2.2 dq)
    · exact c2_not .sincenot p q (.inl rfl)
    · exact c2_since .until p q (.inr rfl) (shaped_Q hq.2.1 dp) (shaped_Q hq.2.2 dq)
    · exact c2_not .untilnot p q (.inr rfl)
  | _ => simp [partsQ] at hl
/-! ### rules as often as they fit -/
noncomputable def sp_changed_by_rule : FSpec where
  pre := fun ds => ∃ q : Qn, ds = [encQ q] ∧ okQ q ∧ dpQ q ≤ 16
  post := fun ds r ds' => ds' = ds ∧ ∀ q : Qn, ds = [encQ q] → r = encR (rul q)
/-- slots: 0 question -/
def w_changed_by_rule : WS :=
    (cSeq (cIte (cOp fEqS (cBi fLen (cCons (cCallN 1 sp_parts_of (cCons (cVar 0) cNil)) cNil)) (cC (.int 1)))
      (cRet 1 (cCallN 1 sp_changed_with_one_part (cCons (cVar 0) cNil)))
      cNilS)
    (cRet 1 (cCallN 1 sp_changed_with_two_parts (cCons (cVar 0) cNil))))
theorem pure_changed_by_rule : ∀ ds, ds.length = 1 → sp_changed_by_rule.pre ds → w_changed_by_rule (env0 ds 0) { nx := fun e => sp_changed_by_rule.post ds .non (outs e 1), rt := fun d e => sp_changed_by_rule.post ds d (outs e 1) } := by
  rintro ds _ ⟨q, rfl, hq, hd⟩
  have post := fun {d : D} h => ch_post (q := q) (r := d) h
  have c1 : (partsQ q).length = 1 → sp_changed_with_one_part.pre [encQ q] ∧ ∀ r ds', sp_changed_with_one_part.post [encQ q] r ds' → ds' = [encQ q] ∧ r = encR (rul q) := fun h => ⟨⟨q, rfl, hq, hd, h⟩, fun r ds' h => ⟨h.1, h.2 q rfl⟩⟩
  have c2 : ¬ (partsQ q).length = 1 → sp_changed_with_two_parts.pre [encQ q] ∧ ∀ r ds', sp_changed_with_two_parts.post [encQ q] r ds' → ds' = [encQ q] ∧ r = encR (rul q) := fun h => ⟨⟨q, rfl, hq, hd, h⟩, fun r ds' h => ⟨h.1, h.2 q rfl⟩⟩
  have cp : sp_parts_of.pre [encQ q] ∧ ∀ r ds', sp_parts_of.post [encQ q] r ds' → ds' = [encQ q] ∧ r = .tup ((partsQ q).map encQ) := ⟨⟨q, rfl⟩, fun r ds' h => ⟨h.1, h.2 q rfl⟩⟩
  have nl : isL (encR (rul q)) = false := by cases rul q <;> first | rfl | exact encQ_nl _
  obtain ⟨tq, eq⟩ := encQ_tup q
  rw [eq] at post c1 c2 cp ⊢
  walk_at "Ddl"
  refine ⟨cp.1, fun r ds' hq => ?_⟩
  obtain ⟨rfl, rfl⟩ := cp.2 r ds' hq
  walk_at "Ddl"
  have el : ((partsQ q).map encQ).length = (partsQ q).length := List.length_map ..
  rw [el]
  by_cases h : (partsQ q).length = 1
  · rw [h]
    walk_at "Ddl"
    refine ⟨(c1 h).1, fun r ds' hq => ?_⟩
    obtain ⟨rfl, rfl⟩ := (c1 h).2 r ds' hq
    walk_at "Ddl"
    exact post rfl
  · have h' : ¬ ((partsQ q).length : Int) = 1 := by omega
    refine ifb_nq h' ?_
    walk_at "Ddl"
    refine ⟨(c2 h).1, fun r ds' hq => ?_⟩
    obtain ⟨rfl, rfl⟩ := (c2 h).2 r ds' hq
    walk_at "Ddl"
    exact post rfl
end DL

set_option maxHeartbeats 1000000
namespace DL
open PySem PySem.Spec PyProof.Rows L2
/-! ### simplified questions -/
noncomputable def spn_simplified : Nat → FSpec
  | 0 => ⟨fun _ => False, fun _ _ _ => False⟩
  | n + 1 => ⟨fun ds => ∃ q : Qn, ds = [encQ q] ∧ okQ q ∧ 2 * dpQ q ≤ n + 1 ∧ dpQ q ≤ 16, fun ds r ds' => ds' = ds ∧ ∀ q : Qn, ds = [encQ q] → r = encQ (simQ q)⟩
noncomputable abbrev sp_simplified := spn_simplified 32
noncomputable def spn_with_simple_parts : Nat → FSpec
  | 0 => ⟨fun _ => False, fun _ _ _ => False⟩
  | n + 1 => ⟨fun ds => ∃ q : Qn, ds = [encQ q] ∧ okQ q ∧ 2 * dpQ q ≤ n + 2 ∧ dpQ q ≤ 16, fun ds r ds' => ds' = ds ∧ ∀ q : Qn, ds = [encQ q] → r = encQ (mp simQ q)⟩
theorem si_post {q : Qn} {r : D} (h : r = encQ (simQ q)) : ∀ q' : Qn, [encQ q] = [encQ q'] → r = encQ (simQ q') := by
  intro b' e
  simp only [List.cons.injEq, and_true] at e
  cases encQ_inj e
  exact h
theorem ws_post {q : Qn} {r : D} (h : r = encQ (mp simQ q)) : ∀ q' : Qn, [encQ q] = [encQ q'] → r = encQ (mp simQ q') := by
  intro b' e
  simp only [List.cons.injEq, and_true] at e
  cases encQ_inj e
  exact h
/-- slots: 0 question, 1 parts, 2 part -/
def w_with_simple_parts (n : Nat) : WS :=
    (cSeq (cAsg 1 [0] 1 (cCallN 1 sp_parts_of (cCons (cVar 0) cNil)))
    (cRet 1 (cOp fAddG (cSlH (cVar 0) (cOp fSub (cBi fLen (cCons (cVar 0) cNil)) (cBi fLen (cCons (cVar 1) cNil)))) (cBi fTuple (cCons (cLc [2] (iE (cVar 1)) (gN 1 [] 2) tTrue (cCallN 1 (spn_simplified n) (cCons (cVar 2) cNil))) cNil)))))
theorem encMp (f : Qn → Qn) (q : Qn) : ∃ hd, encQ q = .tup (hd ++ (partsQ q).map encQ) ∧ encQ (mp f q) = .tup (hd ++ (partsQ q).map fun p => encQ (f p)) ∧ hd.length ≤ 5 := by
  cases q with
  | fact n ts => exact ⟨[.str (PySem.Str.ofString "fact"), .str n, .tup (ts.map encTm)], rfl, rfl, by simp⟩
  | two k p q => exact ⟨[.str k.s], rfl, rfl, by simp⟩
  | only cs p => exact ⟨[.str (PySem.Str.ofString "only"), encC cs], rfl, rfl, by simp⟩
  | whr t l r p => exact ⟨[.str (PySem.Str.ofString "where"), .str t, encTm l, encTm r], rfl, rfl, by simp⟩
  | shift n p => exact ⟨[.str (PySem.Str.ofString "shift"), .int n], rfl, rfl, by simp⟩
  | look k w p => exact ⟨[.str k.s, encO w], rfl, rfl, by simp⟩
  | count a b p => exact ⟨[.str (PySem.Str.ofString "count"), .str a, encC b], rfl, rfl, by simp⟩
  | total k a b c p => exact ⟨[.str k.s, .str a, .str b, encC c], rfl, rfl, by simp⟩
  | link k x y p => exact ⟨[.str k.s, .str x, .str y], rfl, rfl, by simp⟩
theorem cut_head (hd ps : List D) : cutD (hd ++ ps) none (some (((hd ++ ps).length : Int) - (ps.length : Int))) = hd := by
  have e : (((hd ++ ps).length : Int) - (ps.length : Int)) = (hd.length : Int) := by rw [List.length_append]; omega
  rw [e]
  unfold cutD HT.sIx
  have : ¬ ((hd.length : Int) < 0) := by omega
  simp [this]
local macro_rules | `(tactic| walk_at "Ddlx") => `(tactic| ((conv => whnf); (repeat ((first | ((with_reducible refine And.intro (stOk_nl ?_ ?_) ?_); (focus (with_reducible first | assumption | exact encQ_nl _ | exact encO_nl _ | exact encC_nl _)); (focus exact rfl)) | ((refine pick_nl ?_ ?_); (focus (with_reducible first | assumption | exact encQ_nl _ | exact encO_nl _ | exact encC_nl _))) | ((with_reducible refine And.intro ?_ ?_); (focus (with_reducible first | assumption | exact encQ_nl _ | exact encO_nl _ | exact encC_nl _))) | ((with_reducible refine And.intro (immA_c ?_ ?_) ?_); (focus (first | (with_reducible first | assumption | exact encQ_nl _ | exact encO_nl _ | exact encC_nl _) | exact rfl)); (focus ((repeat ((with_reducible refine immA_c ?_ ?_); (focus (first | (with_reducible first | assumption | exact encQ_nl _ | exact encO_nl _ | exact encC_nl _) | exact rfl)))); exact rfl))) | refine And.intro rfl ?_ | refine And.intro trivial ?_ | refine And.intro ⟨rfl, trivial⟩ ?_ | refine And.intro ⟨rfl, rfl, trivial⟩ ?_ | refine ifb_nq (by first | assumption | decide) ?_ | refine ifb_pq (by assumption) ?_ | refine ifb_er ?_ | refine ifb_t ?_ | refine ifb_f ?_ | refine ifb_nr ?_ | refine ifb_er ?_ | ((with_reducible refine And.intro (?_ : (_ : Nat) ≤ _) ?_); (focus (first | decide | omega | (unfold CMul; omega) | (unfold CDiv; omega) | (unfold CPow; decide) | (exact cpow1 (by omega) (by omega)) | (simp only [rngD_len, List.length_replicate, List.length_map, List.length_append, List.length_cons, List.length_nil, List.length_set] at *; omega)))) | ((with_reducible refine And.intro (?_ : (_ : Int) ≤ _) ?_); (focus (first | decide | omega | (unfold CMul; omega) | (unfold CDiv; omega) | (unfold CPow; decide) | (exact cpow1 (by omega) (by omega)) | (simp only [rngD_len, List.length_replicate, List.length_map, List.length_append, List.length_cons, List.length_nil, List.length_set] at *; omega)))) | ((with_reducible refine And.intro (?_ : (_ : Nat) < _) ?_); (focus (first | decide | omega | (unfold CMul; omega) | (unfold CDiv; omega) | (unfold CPow; decide) | (exact cpow1 (by omega) (by omega)) | (simp only [rngD_len, List.length_replicate, List.length_map, List.length_append, List.length_cons, List.length_nil, List.length_set] at *; omega)))) | ((with_reducible refine And.intro (?_ : (_ : Int) < _) ?_); (focus (first | decide | omega | (unfold CMul; omega) | (unfold CDiv; omega) | (unfold CPow; decide) | (exact cpow1 (by omega) (by omega)) | (simp only [rngD_len, List.length_replicate, List.length_map, List.length_append, List.length_cons, List.length_nil, List.length_set] at *; omega)))) | ((with_reducible refine And.intro (?_ : CMul _ _) ?_); (focus (first | decide | omega | (unfold CMul; omega) | (unfold CDiv; omega) | (unfold CPow; decide) | (exact cpow1 (by omega) (by omega)) | (simp only [rngD_len, List.length_replicate, List.length_map, List.length_append, List.length_cons, List.length_nil, List.length_set] at *; omega)))) | ((with_reducible refine And.intro (?_ : CDiv _ _) ?_); (focus (first | decide | omega | (unfold CMul; omega) | (unfold CDiv; omega) | (unfold CPow; decide) | (exact cpow1 (by omega) (by omega)) | (simp only [rngD_len, List.length_replicate, List.length_map, List.length_append, List.length_cons, List.length_nil, List.length_set] at *; omega)))) | ((with_reducible refine And.intro (?_ : CPow _ _) ?_); (focus (first | decide | omega | (unfold CMul; omega) | (unfold CDiv; omega) | (unfold CPow; decide) | (exact cpow1 (by omega) (by omega)) | (simp only [rngD_len, List.length_replicate, List.length_map, List.length_append, List.length_cons, List.length_nil, List.length_set] at *; omega)))) | ((with_reducible refine And.intro (?_ : (_ : Nat) = _) ?_); (focus (first | decide | omega | (unfold CMul; omega) | (unfold CDiv; omega) | (unfold CPow; decide) | (exact cpow1 (by omega) (by omega)) | (simp only [rngD_len, List.length_replicate, List.length_map, List.length_append, List.length_cons, List.length_nil, List.length_set] at *; omega))))); conv => whnf)); (try dsimp only [List.set_cons_zero, List.set_cons_succ, upA])))
local macro_rules | `(tactic| walk_at "Ddl") => `(tactic| ((conv => whnf); (repeat ((first | refine And.intro rfl ?_ | refine And.intro trivial ?_ | refine And.intro ⟨rfl, trivial⟩ ?_ | refine And.intro ⟨rfl, rfl, trivial⟩ ?_ | refine ifb_t ?_ | refine ifb_f ?_ | refine ifb_nr ?_ | refine ifb_er ?_ | refine And.intro (by first | decide | omega | (unfold CMul; omega) | (unfold CDiv; omega) | (unfold CPow; decide) | (exact cpow1 (by omega) (by omega)) | (exact cpow1 (by dsimp only; omega) (by dsimp only; omega)) | (simp only [rngD_len, List.length_replicate, List.length_map, List.length_append, List.length_cons, List.length_nil, List.length_set] at *; omega)) ?_); conv => whnf))))
theorem pure_with_simple_parts : ∀ n, ∀ ds, ds.length = 1 → (spn_with_simple_parts (n + 1)).pre ds → w_with_simple_parts n (env0 ds 2) { nx := fun e => (spn_with_simple_parts (n + 1)).post ds .non (outs e 1), rt := fun d e => (spn_with_simple_parts (n + 1)).post ds d (outs e 1) } := by
  rintro n ds _ ⟨q, rfl, hq, hd, hd2⟩
  have post := fun {d : D} h => ws_post (q := q) (r := d) h
  have cp : sp_parts_of.pre [encQ q] ∧ ∀ r ds', sp_parts_of.post [encQ q] r ds' → ds' = [encQ q] ∧ r = .tup ((partsQ q).map encQ) := ⟨⟨q, rfl⟩, fun r ds' h => ⟨h.1, h.2 q rfl⟩⟩
  have call : ∀ {a : Qn}, a ∈ partsQ q → (spn_simplified n).pre [encQ a] ∧ ∀ r ds', (spn_simplified n).post [encQ a] r ds' → ds' = [encQ a] ∧ r = encQ (simQ a) := fun {a} ha => by
    have h1 := dpQ_part ha
    have h2 := dpQ_pos a
    cases n with
    | zero => omega
    | succ n => exact ⟨⟨a, rfl, okQ_part hq ha, by omega, by omega⟩, fun r ds' h => ⟨h.1, h.2 a rfl⟩⟩
  have hp2 : (partsQ q).length ≤ 2 := by cases q <;> simp [partsQ]
  obtain ⟨h0, e1, e2, hl⟩ := encMp simQ q
  have post2 := post e2.symm
  have ch := cut_head h0 ((partsQ q).map encQ)
  rw [e1] at post2 cp ⊢
  have le : (h0 ++ (partsQ q).map encQ).length ≤ 1000000 := by rw [List.length_append, List.length_map]; omega
  generalize h0 ++ (partsQ q).map encQ = tq at *
  walk_at "Ddl"
  refine ⟨cp.1, fun r ds' hq => ?_⟩
  obtain ⟨rfl, rfl⟩ := cp.2 r ds' hq
  walk_at "Ddl"
  refine loop_lc (fun xs acc e => ∃ (u v : List Qn), (partsQ q = u ++ v ∧ xs = v.map encQ ∧ acc = u.map fun a => encQ (simQ a)) ∧ e = [some (.tup tq), some (.tup ((partsQ q).map encQ)), none]) ⟨[], partsQ q, ⟨rfl, rfl, rfl⟩, rfl⟩ ?_ ?_
  · rintro x r acc env nxt ⟨u, v, ⟨h1, h2, rfl⟩, rfl⟩ hx
    cases v with
    | nil => simp at h2
    | cons a v =>
      simp only [List.map_cons, List.cons.injEq] at h2
      obtain ⟨rfl, rfl⟩ := h2
      obtain ⟨c1, c2⟩ := call (a := a) (by rw [h1]; simp)
      obtain ⟨ta, ea⟩ := encQ_tup a
      have nl := encQ_nl (simQ a)
      rw [ea] at c1 c2 ⊢
      walk_at "Ddl"
      try refine ⟨c1, ?_⟩
      intro r ds' h
      obtain ⟨rfl, rfl⟩ := c2 r ds' h
      walk_at "Ddl"
      try refine ⟨nl, ?_⟩
      exact hx _ _ ⟨u ++ [a], v, ⟨by rw [h1]; simp, rfl, by simp⟩, rfl⟩
  rintro acc env ⟨u, v, ⟨h1, h2, rfl⟩, rfl⟩
  have hv : v = [] := by
    cases v with
    | nil => rfl
    | cons _ _ => simp at h2
  subst hv
  rw [List.append_nil] at h1
  rw [← h1]
  walk_at "Ddl"
  rw [ch]
  walk_at "Ddl"
  exact post2
noncomputable def encD (d : D) : Nat := open Classical in if h : ∃ q, d = encQ q then cntQ h.choose else 0
theorem encD_enc (q : Qn) : encD (encQ q) = cntQ q := by
  unfold encD
  have h : ∃ q', encQ q = encQ q' := ⟨q, rfl⟩
  rw [dif_pos h]
  rw [← encQ_inj h.choose_spec]
noncomputable def msr : DEnv → Nat
  | _ :: some d :: _ => encD d
  | _ => 0
theorem sim_of {q f : Qn} (h : f = mp simQ q) : simQ q = match rul f with
    | none => f
    | some c => simQ c := by subst h; exact simQ_eq q
/-- slots: 0 question, 1 found, 2 changed -/
def w_simplified (n : Nat) : WS :=
    (cSeq (cAsg 1 [0] 1 (cCallN 1 (spn_with_simple_parts n) (cCons (cVar 0) cNil)))
    (cSeq (cAsg 1 [0] 2 (cCallN 1 sp_changed_by_rule (cCons (cVar 1) cNil)))
    (cSeq (cWhile (cUn (fIsN true) (cVar 2))
      (cSeq (cAsg 1 [0] 1 (cCallN 1 (spn_with_simple_parts n) (cCons (cVar 2) cNil)))
        (cAsg 1 [0] 2 (cCallN 1 sp_changed_by_rule (cCons (cVar 1) cNil)))))
    (cRet 1 (cVar 1)))))
theorem pure_simplified : ∀ n, ∀ ds, ds.length = 1 → (spn_simplified (n + 1)).pre ds → w_simplified n (env0 ds 2) { nx := fun e => (spn_simplified (n + 1)).post ds .non (outs e 1), rt := fun d e => (spn_simplified (n + 1)).post ds d (outs e 1) } := by
  rintro n ds _ ⟨q, rfl, hq, hd, hd2⟩
  have hq0 := hq
  have post := fun {d : D} h => si_post (q := q) (r := d) h
  have c1 : ∀ a, okQ a → dpQ a ≤ dpQ q → (spn_with_simple_parts n).pre [encQ a] ∧ ∀ r ds', (spn_with_simple_parts n).post [encQ a] r ds' → ds' = [encQ a] ∧ r = encQ (mp simQ a) := fun a ha hda => by
    have h2 := dpQ_pos q
    cases n with
    | zero => omega
    | succ n => exact ⟨⟨a, rfl, ha, by omega, by omega⟩, fun r ds' h => ⟨h.1, h.2 a rfl⟩⟩
  have c2 : ∀ f, okQ f → dpQ f ≤ 16 → sp_changed_by_rule.pre [encQ f] ∧ ∀ r ds', sp_changed_by_rule.post [encQ f] r ds' → ds' = [encQ f] ∧ r = encR (rul f) := fun f hf hdf => ⟨⟨f, rfl, hf, hdf⟩, fun r ds' h => ⟨h.1, h.2 f rfl⟩⟩
  have ff : ∀ a, okQ a → dpQ a ≤ dpQ q → okQ (mp simQ a) ∧ dpQ (mp simQ a) ≤ dpQ q := fun a ha hda => ⟨(mps_ok ha).1, Nat.le_trans (mps_dp a) hda⟩
  obtain ⟨tq, eq⟩ := encQ_tup q
  have c1q := c1 q hq (Nat.le_refl _)
  have fq := ff q hq (Nat.le_refl _)
  have c2q := c2 _ fq.1 (by omega)
  rw [eq] at post c1q ⊢
  obtain ⟨tf, ef⟩ := encQ_tup (mp simQ q)
  rw [ef] at c2q
  walk_at "Ddlx"
  refine ⟨c1q.1, fun r ds' hq => ?_⟩
  obtain ⟨rfl, rfl⟩ := c1q.2 r ds' hq
  rw [ef]
  walk_at "Ddlx"
  refine ⟨c2q.1, fun r ds' hq => ?_⟩
  obtain ⟨rfl, rfl⟩ := c2q.2 r ds' hq
  have nl : isL (encR (rul (mp simQ q))) = false := by cases rul (mp simQ q) <;> first | rfl | exact encQ_nl _
  walk_at "Ddlx"
  refine ⟨fun e => ∃ x, (okQ x ∧ dpQ x ≤ dpQ q ∧ simQ q = simQ x) ∧ e = [some (.tup tq), some (encQ (mp simQ x)), some (encR (rul (mp simQ x)))], msr, ⟨q, ⟨hq0, Nat.le_refl _, rfl⟩, by rw [ef]; rfl⟩, ?_⟩
  rintro _ ⟨x, ⟨hx, hdx, es⟩, rfl⟩
  have es2 := sim_of (q := x) rfl
  have fx := ff x hx hdx
  cases er : rul (mp simQ x) with
  | none =>
    rw [er] at es2
    simp only [encR]
    walk_at "Ddlx"
    exact post (by rw [es, es2])
  | some c =>
    rw [er] at es2
    have hc := (rul_ok fx.1 er).1
    have hdc := (rul_sz er).2
    have hcc := (rul_sz er).1
    have c1c := c1 c hc (by omega)
    have fc := ff c hc (by omega)
    have c2c := c2 _ fc.1 (by omega)
    have hm : msr [some (.tup tq), some (encQ (mp simQ c)), some (encR (rul (mp simQ c)))] < msr [some (.tup tq), some (encQ (mp simQ x)), some (encR (some c))] := by
      show encD _ < encD _
      rw [encD_enc, encD_enc]
      have := mps_cnt c
      omega
    have inv : ∃ x, (okQ x ∧ dpQ x ≤ dpQ q ∧ simQ q = simQ x) ∧ [some (.tup tq), some (encQ (mp simQ c)), some (encR (rul (mp simQ c)))] = [some (.tup tq), some (encQ (mp simQ x)), some (encR (rul (mp simQ x)))] := ⟨c, ⟨hc, by omega, by rw [es, es2]⟩, rfl⟩
    simp only [encR] at hm ⊢
    obtain ⟨tc, ec⟩ := encQ_tup c
    obtain ⟨tg, eg⟩ := encQ_tup (mp simQ c)
    have nl : isL (encR (rul (mp simQ c))) = false := by cases rul (mp simQ c) <;> first | rfl | exact encQ_nl _
    rw [ec] at c1c hm ⊢
    rw [eg] at c2c hm inv
    walk_at "Ddlx"
    refine ⟨c1c.1, fun r ds' hq => ?_⟩
    obtain ⟨rfl, rfl⟩ := c1c.2 r ds' hq
    rw [eg]
    walk_at "Ddlx"
    refine ⟨c2c.1, fun r ds' hq => ?_⟩
    obtain ⟨rfl, rfl⟩ := c2c.2 r ds' hq
    walk_at "Ddlx"
    exact ⟨inv, hm⟩
end DL

set_option maxHeartbeats 1000000
namespace DL
open PySem PySem.Spec PyProof.Rows L2
instance decKL : DecidableEq KL := fun a b => by cases a <;> cases b <;> first | exact isTrue rfl | exact isFalse (fun h => nomatch h)
/-! ### what the rules do to questions with settled parts -/
theorem mp_st {q : Qn} (h : ∀ p ∈ partsQ q, stl p) : mp simQ q = q := mp_id fun p hp => simQ_fix (h p hp)
theorem sim_st {q : Qn} (h : ∀ p ∈ partsQ q, stl p) : simQ q = match rul q with
    | none => q
    | some c => simQ c := by
  rw [simQ_eq, mp_st h]
  try (cases rul q <;> rfl)
/-- the parts may be simplified first -/
theorem sim_mp (q : Qn) : simQ q = simQ (mp simQ q) := by
  rw [simQ_eq q, sim_st (q := mp simQ q) fun p hp => by
    rw [mp_parts] at hp
    obtain ⟨a, _, rfl⟩ := List.mem_map.mp hp
    exact simQ_stl a]
  try (cases rul (mp simQ q) <;> rfl)
/-- settled, and none of the kinds that rules fold -/
structure Pl (p : Qn) : Prop where
  st : stl p
  ns : ∀ n r, p ≠ .shift n r
  nl : ∀ k w r, p ≠ .look k w r
  no : ∀ cs r, p ≠ .only cs r
  nk : isLinked p = false
def shf (n : Int) (p : Qn) : Qn := if n = 0 then p else .shift n p
def nb (k : K4) (w : Option Int) (p : Qn) : Qn := if w = some 0 then p else .look k w p
theorem rul_shift_pl {n : Int} {p : Qn} (h : ∀ n r, p ≠ .shift n r) (hn : ¬ n = 0) : rul (.shift n p) = none := by
  unfold rul
  dsimp only
  rw [if_neg hn]
  split
  · exact absurd rfl (h _ _)
  · rfl
theorem rul_shift0 (p : Qn) : rul (.shift 0 p) = some p := by simp only [rul, if_pos]
theorem rul_look0 (k : K4) (p : Qn) : rul (.look k (some 0) p) = some p := by simp only [rul, if_pos]
theorem sim_shift {n : Int} {p : Qn} (h : Pl p) : simQ (.shift n p) = shf n p := by
  rw [sim_st fun a ha => by simp only [partsQ, List.mem_singleton] at ha; subst ha; exact h.st]
  unfold shf
  by_cases e : n = 0
  · subst e
    rw [rul_shift0, if_pos rfl]
    exact simQ_fix h.st
  · rw [rul_shift_pl h.ns e, if_neg e]
theorem stl_shift {n : Int} {p : Qn} (h : Pl p) (e : ¬ n = 0) : stl (.shift n p) := ⟨rul_shift_pl h.ns e, h.st⟩
theorem stl_shf {n : Int} {p : Qn} (h : Pl p) : stl (shf n p) := by
  unfold shf
  split
  · exact h.st
  · rename_i e; exact stl_shift h e
theorem sim_shift2 {a b : Int} {p : Qn} (h : Pl p) (hab : 0 ≤ a ∨ b ≤ 0) : simQ (.shift a (.shift b p)) = shf (a + b) p := by
  rw [sim_mp]
  simp only [mp]
  rw [sim_shift h]
  unfold shf
  by_cases e : b = 0
  · subst e
    rw [if_pos rfl, Int.add_zero]
    exact sim_shift h
  · rw [if_neg e]
    have hs := stl_shift h e
    rw [sim_st fun c hc => by simp only [partsQ, List.mem_singleton] at hc; subst hc; exact hs]
    by_cases e2 : a = 0
    · subst e2
      rw [rul_shift0, Int.zero_add, if_neg e]
      exact simQ_fix hs
    · have : rul (.shift a (.shift b p)) = some (.shift (a + b) p) := by simp only [rul, if_neg e2, if_pos hab]
      rw [this]
      exact sim_shift h
theorem sim_shift3 {a b : Int} {p : Qn} (h : Pl p) (hab : ¬ (0 ≤ a ∨ b ≤ 0)) : simQ (.shift a (.shift b p)) = .shift a (.shift b p) := by
  have e : ¬ b = 0 := by omega
  have e2 : ¬ a = 0 := by omega
  refine simQ_fix ⟨?_, stl_shift h e⟩
  simp only [rul, if_neg e2, if_neg hab]
theorem sim_look {k : K4} {w : Option Int} {p : Qn} (h : Pl p) : simQ (.look k w p) = nb k w p := by
  rw [sim_st fun a ha => by simp only [partsQ, List.mem_singleton] at ha; subst ha; exact h.st]
  unfold nb
  by_cases e : w = some 0
  · subst e
    rw [rul_look0, if_pos rfl]
    exact simQ_fix h.st
  · rw [rul_look k w p e fun _ _ => h.nl _ _ _, if_neg e]
theorem stl_look {k : K4} {w : Option Int} {p : Qn} (h : Pl p) (e : ¬ w = some 0) : stl (.look k w p) := ⟨rul_look k w p e fun _ _ => h.nl _ _ _, h.st⟩
theorem stl_nb {k : K4} {w : Option Int} {p : Qn} (h : Pl p) : stl (nb k w p) := by
  unfold nb
  split
  · exact h.st
  · rename_i e; exact stl_look h e
theorem sim_look2 {k k' : K4} {a b : Option Int} {p : Qn} (h : Pl p) (hk : ¬ k = k') : simQ (.look k a (.look k' b p)) = nb k a (nb k' b p) := by
  rw [sim_mp]
  simp only [mp]
  rw [sim_look h]
  have hs := stl_nb (k := k') (w := b) h
  rw [sim_st fun c hc => by simp only [partsQ, List.mem_singleton] at hc; subst hc; exact hs]
  by_cases e : a = some 0
  · subst e
    rw [rul_look0]
    show simQ _ = if _ then _ else _
    rw [if_pos rfl]
    exact simQ_fix hs
  · rw [rul_look k a _ e fun w' r hw => by
      unfold nb at hw
      split at hw
      · exact h.nl _ _ _ hw
      · injection hw with h1; exact hk h1.symm]
    show _ = if _ then _ else _
    rw [if_neg e]
theorem sim_look3 {k : K4} {a b : Option Int} {p : Qn} (h : Pl p) : simQ (.look k a (.look k b p)) = (match a, b with
    | some x, some y => nb k (some (x + y)) p
    | _, _ => .look k none p) := by
  rw [sim_mp]
  simp only [mp]
  rw [sim_look h]
  have hn : stl (.look k none p) := stl_look h (by simp)
  by_cases eb : b = some 0
  · subst eb
    rw [show nb k (some 0) p = p from if_pos rfl, sim_look h]
    cases a with
    | none => rfl
    | some x => simp only [Int.add_zero]
  · rw [show nb k b p = .look k b p from if_neg eb]
    have hs := stl_look (k := k) h eb
    rw [sim_st fun c hc => by simp only [partsQ, List.mem_singleton] at hc; subst hc; exact hs]
    by_cases ea : a = some 0
    · subst ea
      rw [rul_look0]
      dsimp only
      rw [simQ_fix hs]
      cases b with
      | none => rfl
      | some y =>
        dsimp only
        rw [Int.zero_add]
        exact (if_neg eb).symm
    · have : rul (.look k a (.look k b p)) = some (.look k (jb a b) p) := by simp only [rul, if_neg ea, if_pos]
      rw [this]
      dsimp only
      rw [sim_look h]
      cases a <;> cases b <;> first | rfl | exact if_neg (by simp)
theorem rul_only {cs : List Str} {p : Qn} (h : ∀ cs r, p ≠ .only cs r) : rul (.only cs p) = if cs = colsQ p then some p else none := by
  unfold rul
  dsimp only
  split
  · rfl
  · split
    · exact absurd rfl (h _ _)
    · rfl
open Classical in
theorem sim_only {cs : List Str} {p : Qn} (h : Pl p) : simQ (.only cs p) = if cs = colsQ p then p else .only cs p := by
  rw [sim_st fun a ha => by simp only [partsQ, List.mem_singleton] at ha; subst ha; exact h.st, rul_only h.no]
  by_cases e : cs = colsQ p
  · rw [if_pos e, if_pos e]
    exact simQ_fix h.st
  · rw [if_neg e, if_neg e]
open Classical in
theorem sim_only2 {cs ds : List Str} {p : Qn} (h : Pl p) (hs : ds = colsQ p ∨ ¬ cs = colsQ p) : simQ (.only cs (.only ds p)) = if cs = colsQ p then p else .only cs p := by
  rw [sim_mp]
  simp only [mp]
  rw [sim_only h]
  by_cases e : ds = colsQ p
  · rw [if_pos e]
    exact sim_only h
  · rw [if_neg e]
    have hc : ¬ cs = colsQ p := hs.resolve_left e
    have st : stl (.only ds p) := ⟨by rw [rul_only h.no, if_neg e], h.st⟩
    rw [sim_st fun a ha => by simp only [partsQ, List.mem_singleton] at ha; subst ha; exact st, if_neg hc]
    by_cases e2 : cs = ds
    · subst e2
      have : rul (.only cs (.only cs p)) = some (.only cs p) := by simp only [rul, colsQ, if_pos]
      rw [this]
      exact simQ_fix st
    · have : rul (.only cs (.only ds p)) = some (.only cs p) := by
        unfold rul
        exact if_neg (show ¬ cs = colsQ (.only ds p) from e2)
      rw [this]
      dsimp only
      rw [sim_only h, if_neg hc]
theorem sim_link {k k' : KL} {x y u v : Str} {p : Qn} (h : Pl p) : simQ (.link k x y (.link k' u v p)) = if k = .linked ∧ k' = .linked then .link k' u v p else .link k x y (.link k' u v p) := by
  have st : stl (.link k' u v p) := by
    refine ⟨?_, h.st⟩
    cases k'
    · simp only [rul, h.nk, Bool.false_eq_true, if_false]
    · rfl
  rw [sim_st fun a ha => by simp only [partsQ, List.mem_singleton] at ha; subst ha; exact st]
  cases k <;> cases k'
  · have : rul (.link .linked x y (.link .linked u v p)) = some (.link .linked u v p) := by simp only [rul, isLinked, if_pos]
    rw [this]
    exact simQ_fix st
  · rfl
  · rfl
  · rfl
end DL

set_option maxHeartbeats 1000000
namespace DL
open PySem PySem.Spec PyProof.Rows L2
/-! ### questions to which no rule can be applied, two of them together -/
def stF (nm : Str) (cs : List Str) (v : Vv) : Qn := .fact nm (cs.map Tm.col ++ [.val v])
inductive Still (nm : Str) (cs : List Str) : Qn → Prop where
  | f (v : Vv) (h : okV v) : Still nm cs (stF nm cs v)
  | w (v : Vv) (h : okV v) (z : Str) (n : Int) (hz : isW z = true) : Still nm cs (.whr (PySem.Str.ofString "other") (.val (.s z)) (.val (.i n)) (stF nm cs v))
  | s (v : Vv) (h : okV v) : Still nm cs (.two .sincenot (.fact nm []) (stF nm cs v))
  | l (v : Vv) (h : okV v) (a b : Str) (hc : cs = [a, b]) : Still nm cs (.link .way b a (stF nm cs v))
theorem stF_cols {nm : Str} {cs : List Str} {v : Vv} (hs : SC cs) : colsQ (stF nm cs v) = cs := by
  simp only [stF, colsQ]
  refine ordS_eq hs fun x => ?_
  simp only [List.mem_filterMap, List.mem_append, List.mem_map, List.mem_singleton]
  constructor
  · rintro ⟨t, ht | ht, e⟩
    · obtain ⟨y, hy, rfl⟩ := ht
      cases e
      exact hy
    · subst ht; cases e
  · intro hx
    exact ⟨_, .inl ⟨x, hx, rfl⟩, rfl⟩
theorem stF_ok {nm : Str} {cs : List Str} {v : Vv} (hn : isW nm = true) (hc : CsOk cs) (hl : cs.length ≤ 2) (hv : okV v) : okQ (stF nm cs v) := by
  refine okQ_mk ⟨hn, ?_, ?_⟩ (by rw [stF_cols hc.sc]; exact hc.few) (by simp [stF, partsQ])
  · simp only [List.length_append, List.length_map, List.length_singleton]; omega
  · intro t ht
    simp only [List.mem_append, List.mem_map, List.mem_singleton] at ht
    rcases ht with ⟨x, hx, rfl⟩ | rfl
    · exact hc.isw x hx
    · exact hv
structure StOk (cs : List Str) (p : Qn) : Prop where
  ok : okQ p
  cols : colsQ p = cs
  dp : dpQ p ≤ 2
  pl : Pl p
theorem Still.so {nm : Str} {cs : List Str} {p : Qn} (h : Still nm cs p) (hn : isW nm = true) (hc : CsOk cs) (hl : cs.length ≤ 2) : StOk cs p := by
  cases h with
  | f v hv => exact ⟨stF_ok hn hc hl hv, stF_cols hc.sc, by simp [stF, dpQ], ⟨rfl, nofun, nofun, nofun, rfl⟩⟩
  | w v hv z n hz =>
    have e := stF_cols (nm := nm) (v := v) hc.sc
    refine ⟨okQ_mk ⟨by decide, hz, trivial⟩ (by rw [show colsQ (.whr _ _ _ (stF nm cs v)) = _ from e]; exact hc.few) ?_, e, by simp [stF, dpQ], ⟨⟨rfl, rfl⟩, nofun, nofun, nofun, rfl⟩⟩
    intro p hp
    simp only [partsQ, List.mem_singleton] at hp
    subst hp
    exact stF_ok hn hc hl hv
  | s v hv =>
    have e := stF_cols (nm := nm) (v := v) hc.sc
    have e2 : colsQ (.fact nm []) = [] := rfl
    refine ⟨okQ_mk (fun x hx => by rw [e2] at hx; cases hx) (by rw [show colsQ (.two .sincenot _ (stF nm cs v)) = _ from e]; exact hc.few) ?_, e, by simp [stF, dpQ], ⟨⟨?_, rfl, rfl⟩, nofun, nofun, nofun, rfl⟩⟩
    · intro p hp
      simp only [partsQ, List.mem_cons, List.not_mem_nil, or_false] at hp
      rcases hp with rfl | rfl
      · exact okQ_mk ⟨hn, by simp, by simp⟩ (by rw [e2]; simp) (by simp [partsQ])
      · exact stF_ok hn hc hl hv
    · refine rul_two_none _ _ _ (fun h => by simp [sameK] at h) ?_ ?_ ?_ <;> intros <;> simp_all [stF]
  | l v hv a b hcs =>
    have e := stF_cols (nm := nm) (v := v) hc.sc
    have hab : ordS [b, a] = cs := by
      refine ordS_eq hc.sc fun x => ?_
      rw [hcs]
      simp only [List.mem_cons, List.not_mem_nil, or_false]
      exact Or.comm
    have hne : b ≠ a := by
      have := hc.sc.nd
      rw [hcs] at this
      simp only [List.nodup_cons, List.mem_singleton] at this
      exact fun z => this.1 z.symm
    refine ⟨okQ_mk ⟨hne, by rw [hab, e]⟩ (by rw [show colsQ (.link _ _ _ (stF nm cs v)) = _ from e]; exact hc.few) ?_, e, by simp [stF, dpQ], ⟨⟨rfl, rfl⟩, nofun, nofun, nofun, rfl⟩⟩
    intro p hp
    simp only [partsQ, List.mem_singleton] at hp
    subst hp
    exact stF_ok hn hc hl hv
theorem stF_ne {n1 n2 : Str} {c1 c2 : List Str} {v1 v2 : Vv} (h : n1 ≠ n2) : stF n1 c1 v1 ≠ stF n2 c2 v2 := fun e => by
  simp only [stF, Qn.fact.injEq] at e
  exact h e.1
theorem Still.ne {n1 n2 : Str} {c1 c2 : List Str} {p q : Qn} (hp : Still n1 c1 p) (hq : Still n2 c2 q) (h : n1 ≠ n2) : p ≠ q := by
  intro e
  cases hp <;> cases hq <;> first
    | (exact absurd e (stF_ne h))
    | (simp only [stF, reduceCtorEq] at e; done)
    | (injection e with _ _ _ e; exact absurd e (stF_ne h))
    | (injection e with _ _ e; exact absurd e (stF_ne h))
/-- no rule for two of them -/
theorem Still.two {n1 n2 : Str} {c1 c2 : List Str} {p q : Qn} (hp : Still n1 c1 p) (hq : Still n2 c2 q) (h : n1 ≠ n2) (k : K2) : rul (.two k p q) = none := by
  refine rul_two_none k p q (fun e => hp.ne hq h e.2) ?_ ?_ ?_
  · intro a p' b q' e
    cases hp <;> simp [stF] at e
  · intro k1 a p' q' e
    cases hp <;> simp [stF] at e
  · intro k1 p' q' r e1 e2 _ _
    cases hp <;> simp only [stF, reduceCtorEq, Qn.two.injEq] at e1
    cases hq <;> simp only [stF, reduceCtorEq, Qn.two.injEq] at e2
    rw [← e1.2.1] at e2
    have := e2.2.1
    simp only [Qn.fact.injEq, and_true] at this
    exact h this.symm
theorem Still.pl {nm : Str} {cs : List Str} {p : Qn} (h : Still nm cs p) : Pl p := by
  cases h with
  | f v hv => exact ⟨rfl, nofun, nofun, nofun, rfl⟩
  | w v hv z n hz => exact ⟨⟨rfl, rfl⟩, nofun, nofun, nofun, rfl⟩
  | s v hv =>
    refine ⟨⟨?_, rfl, rfl⟩, nofun, nofun, nofun, rfl⟩
    refine rul_two_none _ _ _ (fun h => by simp [sameK] at h) ?_ ?_ ?_ <;> intros <;> simp_all [stF]
  | l v hv a b hcs => exact ⟨⟨rfl, rfl⟩, nofun, nofun, nofun, rfl⟩
theorem two_st {n1 n2 : Str} {c1 c2 : List Str} {p q : Qn} (hp : Still n1 c1 p) (hq : Still n2 c2 q) (h : n1 ≠ n2) (k : K2) : stl (.two k p q) := ⟨hp.two hq h k, hp.pl.st, hq.pl.st⟩
theorem two_pl {n1 n2 : Str} {c1 c2 : List Str} {p q : Qn} (hp : Still n1 c1 p) (hq : Still n2 c2 q) (h : n1 ≠ n2) (k : K2) : Pl (.two k p q) := ⟨two_st hp hq h k, nofun, nofun, nofun, rfl⟩
theorem sim_two {k : K2} {p q : Qn} : simQ (.two k p q) = simQ (.two k (simQ p) (simQ q)) := by rw [sim_mp]; rfl
theorem sim_two_none {k : K2} {p q : Qn} (hp : stl p) (hq : stl q) (h : rul (.two k p q) = none) : simQ (.two k p q) = .two k p q := simQ_fix ⟨h, hp, hq⟩
theorem sim_two_some {k : K2} {p q c : Qn} (hp : stl p) (hq : stl q) (h : rul (.two k p q) = some c) : simQ (.two k p q) = simQ c := by
  rw [sim_st fun a ha => by
    simp only [partsQ, List.mem_cons, List.not_mem_nil, or_false] at ha
    rcases ha with rfl | rfl
    · exact hp
    · exact hq, h]
theorem sim_same {k : K2} {p : Qn} (h : Pl p) : simQ (.two k p p) = if sameK k = true then p else .two k p p := by
  by_cases e : sameK k = true
  · rw [if_pos e, sim_two_some h.st h.st (rul_two_same e)]
    exact simQ_fix h.st
  · rw [if_neg e]
    refine sim_two_none h.st h.st (rul_two_none k p p (fun z => e z.1) ?_ ?_ ?_)
    · intro a p' b q' h1
      exact absurd h1 (h.ns _ _)
    · intro a p' b q' h1
      exact absurd h1 (h.nl _ _ _)
    · intro k1 p' q' r _ _ _ hk
      subst hk
      exact e rfl
section
variable {n1 n2 n3 : Str} {cs : List Str} {p q r : Qn} (hp : Still n1 cs p) (hq : Still n2 cs q) (h12 : n1 ≠ n2)
include hp hq h12
theorem sim_two_shift1 {k : K2} {a : Int} (hk : shK k = true) : simQ (.two k (.shift a p) (.shift a q)) = shf a (.two k p q) := by
  have hn := hp.ne hq h12
  rw [sim_two, sim_shift hp.pl, sim_shift hq.pl]
  unfold shf
  by_cases e : a = 0
  · rw [if_pos e, if_pos e, if_pos e]
    exact simQ_fix (two_st hp hq h12 k)
  · rw [if_neg e, if_neg e, if_neg e, sim_two_some (stl_shift hp.pl e) (stl_shift hq.pl e) (rul_two_shift (fun z => hn (by have := z.2; injection this)) hk), sim_shift (two_pl hp hq h12 k)]
    exact if_neg e
theorem sim_two_shift2 {k : K2} {a b : Int} (hk : ¬ (a = b ∧ shK k = true)) : simQ (.two k (.shift a p) (.shift b q)) = .two k (shf a p) (shf b q) := by
  have hn := hp.ne hq h12
  rw [sim_two, sim_shift hp.pl, sim_shift hq.pl]
  refine sim_two_none (stl_shf hp.pl) (stl_shf hq.pl) ?_
  by_cases ea : a = 0
  · by_cases eb : b = 0
    · rw [show shf a p = p from if_pos ea, show shf b q = q from if_pos eb]
      exact hp.two hq h12 k
    · rw [show shf a p = p from if_pos ea, show shf b q = .shift b q from if_neg eb]
      refine rul_two_none _ _ _ (fun z => hp.pl.ns _ _ z.2) (fun _ _ _ _ z => absurd z (hp.pl.ns _ _)) (fun _ _ _ _ z => absurd z (hp.pl.nl _ _ _)) (fun _ _ _ _ _ z => by cases z)
  · rw [show shf a p = .shift a p from if_neg ea]
    refine rul_two_none _ _ _ (fun z => ?_) (fun a1 p1 b1 q1 z1 z2 z3 z4 => ?_) (fun _ _ _ _ z => by cases z) (fun _ _ _ _ z => by cases z)
    · have z := z.2
      unfold shf at z
      split at z
      · exact hq.pl.ns _ _ z.symm
      · injection z with _ z; exact hn z
    · injection z1 with z1 _
      unfold shf at z2
      split at z2
      · exact hq.pl.ns _ _ z2
      · injection z2 with z2 _
        exact hk ⟨by omega, z3⟩
theorem sim_two_look1 {k : K2} {k1 : K4} {a : Option Int} (hk : k = .either ∧ someK k1 = true ∨ k = .both ∧ someK k1 = false) : simQ (.two k (.look k1 a p) (.look k1 a q)) = nb k1 a (.two k p q) := by
  have hn := hp.ne hq h12
  rw [sim_two, sim_look hp.pl, sim_look hq.pl]
  unfold nb
  by_cases e : a = some 0
  · rw [if_pos e, if_pos e, if_pos e]
    exact simQ_fix (two_st hp hq h12 k)
  · rw [if_neg e, if_neg e, if_neg e, sim_two_some (stl_look hp.pl e) (stl_look hq.pl e) (rul_two_look (fun z => hn (by have := z.2; injection this)) hk), sim_look (two_pl hp hq h12 k)]
    exact if_neg e
theorem sim_two_look2 {k : K2} {k1 k2 : K4} {a b : Option Int} (hk : ¬ ((k = .either ∧ someK k1 = true ∨ k = .both ∧ someK k1 = false) ∧ k1 = k2 ∧ a = b)) : simQ (.two k (.look k1 a p) (.look k2 b q)) = .two k (nb k1 a p) (nb k2 b q) := by
  have hn := hp.ne hq h12
  rw [sim_two, sim_look hp.pl, sim_look hq.pl]
  refine sim_two_none (stl_nb hp.pl) (stl_nb hq.pl) ?_
  by_cases ea : a = some 0
  · by_cases eb : b = some 0
    · rw [show nb k1 a p = p from if_pos ea, show nb k2 b q = q from if_pos eb]
      exact hp.two hq h12 k
    · rw [show nb k1 a p = p from if_pos ea, show nb k2 b q = .look k2 b q from if_neg eb]
      refine rul_two_none _ _ _ (fun z => hp.pl.nl _ _ _ z.2) (fun _ _ _ _ z => absurd z (hp.pl.ns _ _)) (fun _ _ _ _ z => absurd z (hp.pl.nl _ _ _)) (fun _ _ _ _ _ z => by cases z)
  · rw [show nb k1 a p = .look k1 a p from if_neg ea]
    refine rul_two_none _ _ _ (fun z => ?_) (fun _ _ _ _ z => by cases z) (fun k3 a1 p1 q1 z1 z2 z3 => ?_) (fun _ _ _ _ z => by cases z)
    · have z := z.2
      unfold nb at z
      split at z
      · exact hq.pl.nl _ _ _ z.symm
      · injection z with _ _ z; exact hn z
    · injection z1 with z1 z4 _
      unfold nb at z2
      split at z2
      · exact hq.pl.nl _ _ _ z2
      · injection z2 with z2 z5 _
        subst z1 z4
        exact hk ⟨z3, z2.symm, z5.symm⟩
theorem sim_two_fol1 (hr : Still n3 cs r) (h13 : n1 ≠ n3) (h23 : n2 ≠ n3) {k1 : K2} (hk : folB k1 = true) : simQ (.two .either (.two k1 r p) (.two k1 r q)) = .two k1 r (.two .either p q) := by
  have hn := hp.ne hq h12
  have s1 : stl (.two k1 r p) := two_st hr hp h13.symm k1
  have s2 : stl (.two k1 r q) := two_st hr hq h23.symm k1
  have hs := two_st hp hq h12 .either
  rw [sim_two_some s1 s2 (rul_two_fol (fun z => hn (by injection z)) hk)]
  refine simQ_fix ⟨rul_two_none _ _ _ (fun z => ?_) (fun _ _ _ _ z => absurd z (hr.pl.ns _ _)) (fun _ _ _ _ z => absurd z (hr.pl.nl _ _ _)) (fun _ _ _ _ _ _ _ z => by subst z; simp [folB] at hk), hr.pl.st, hs⟩
  have z := z.2
  cases hr <;> first | (simp [stF] at z; done) | skip
theorem sim_two_fol2 (hr : Still n3 cs r) (h13 : n1 ≠ n3) (h23 : n2 ≠ n3) {k k1 k2 : K2} {l : Qn} (hl : l = r ∨ l = p) (hk : ¬ (k = .either ∧ k1 = k2 ∧ l = r)) : simQ (.two k (.two k1 r p) (.two k2 l q)) = .two k (.two k1 r p) (.two k2 l q) := by
  have hn := hp.ne hq h12
  have s1 : stl (.two k1 r p) := two_st hr hp h13.symm k1
  have s2 : stl (.two k2 l q) := by
    rcases hl with rfl | rfl
    · exact two_st hr hq h23.symm k2
    · exact two_st hp hq h12 k2
  refine simQ_fix ⟨rul_two_none _ _ _ (fun z => hn (by have := z.2; injection this)) (fun _ _ _ _ z => by cases z) (fun _ _ _ _ z => by cases z) (fun k3 p3 q3 r3 z1 z2 _ z3 => ?_), s1, s2⟩
  injection z1 with a1 a2 _
  injection z2 with b1 b2 _
  exact hk ⟨z3, a1.trans b1.symm, b2.trans a2.symm⟩
end
/-! ### the law's questions -/
theorem shf_enc (n : Int) (p : Qn) : encQ (shf n p) = if n = 0 then encQ p else .tup [.str (PySem.Str.ofString "shift"), .int n, encQ p] := by
  unfold shf
  split <;> rfl
def sp_law_shifted : FSpec where
  pre := fun ds => ∃ (n : Int) (p : Qn), ds = [.int n, encQ p]
  post := fun ds r ds' => ds' = ds ∧ ∀ (n : Int) (p : Qn), ds = [.int n, encQ p] → r = encQ (shf n p)
/-- slots: 0 number, 1 p -/
def w_law_shifted : WS :=
    (cSeq (cIte (cOp fEqS (cVar 0) (cC (.int 0)))
      (cRet 2 (cVar 1))
      cNilS)
    (cRet 2 (cTup (cCons (cC (.str (PySem.Str.ofString "shift"))) (cCons (cVar 0) (cCons (cVar 1) cNil))))))
local macro_rules | `(tactic| walk_at "Ddlx") => `(tactic| ((conv => whnf); (repeat ((first | ((with_reducible refine And.intro (stOk_nl ?_ ?_) ?_); (focus (with_reducible first | assumption | exact encQ_nl _ | exact encO_nl _ | exact encC_nl _)); (focus exact rfl)) | ((refine pick_nl ?_ ?_); (focus (with_reducible first | assumption | exact encQ_nl _ | exact encO_nl _ | exact encC_nl _))) | ((with_reducible refine And.intro ?_ ?_); (focus (with_reducible first | assumption | exact encQ_nl _ | exact encO_nl _ | exact encC_nl _))) | ((with_reducible refine And.intro (immA_c ?_ ?_) ?_); (focus (first | (with_reducible first | assumption | exact encQ_nl _ | exact encO_nl _ | exact encC_nl _) | exact rfl)); (focus ((repeat ((with_reducible refine immA_c ?_ ?_); (focus (first | (with_reducible first | assumption | exact encQ_nl _ | exact encO_nl _ | exact encC_nl _) | exact rfl)))); exact rfl))) | refine And.intro rfl ?_ | refine And.intro trivial ?_ | refine And.intro ⟨rfl, trivial⟩ ?_ | refine And.intro ⟨rfl, rfl, trivial⟩ ?_ | refine ifb_nq (by first | assumption | decide) ?_ | refine ifb_pq (by assumption) ?_ | refine ifb_er ?_ | refine ifb_t ?_ | refine ifb_f ?_ | refine ifb_nr ?_ | refine ifb_er ?_ | ((with_reducible refine And.intro (?_ : (_ : Nat) ≤ _) ?_); (focus (first | decide | omega | (unfold CMul; omega) | (unfold CDiv; omega) | (unfold CPow; decide) | (exact cpow1 (by omega) (by omega)) | (simp only [rngD_len, List.length_replicate, List.length_map, List.length_append, List.length_cons, List.length_nil, List.length_set] at *; omega)))) | ((with_reducible refine And.intro (?_ : (_ : Int) ≤ _) ?_); (focus (first | decide | omega | (unfold CMul; omega) | (unfold CDiv; omega) | (unfold CPow; decide) | (exact cpow1 (by omega) (by omega)) | (simp only [rngD_len, List.length_replicate, List.length_map, List.length_append, List.length_cons, List.length_nil, List.length_set] at *; omega)))) | ((with_reducible refine And.intro (?_ : (_ : Nat) < _) ?_); (focus (first | decide | omega | (unfold CMul; omega) | (unfold CDiv; omega) | (unfold CPow; decide) | (exact cpow1 (by omega) (by omega)) | (simp only [rngD_len, List.length_replicate, List.length_map, List.length_append, List.length_cons, List.length_nil, List.length_set] at *; omega)))) | ((with_reducible refine And.intro (?_ : (_ : Int) < _) ?_); (focus (first | decide | omega | (unfold CMul; omega) | (unfold CDiv; omega) | (unfold CPow; decide) | (exact cpow1 (by omega) (by omega)) | (simp only [rngD_len, List.length_replicate, List.length_map, List.length_append, List.length_cons, List.length_nil, List.length_set] at *; omega)))) | ((with_reducible refine And.intro (?_ : CMul _ _) ?_); (focus (first | decide | omega | (unfold CMul; omega) | (unfold CDiv; omega) | (unfold CPow; decide) | (exact cpow1 (by omega) (by omega)) | (simp only [rngD_len, List.length_replicate, List.length_map, List.length_append, List.length_cons, List.length_nil, List.length_set] at *; omega)))) | ((with_reducible refine And.intro (?_ : CDiv _ _) ?_); (focus (first | decide | omega | (unfold CMul; omega) | (unfold CDiv; omega) | (unfold CPow; decide) | (exact cpow1 (by omega) (by omega)) | (simp only [rngD_len, List.length_replicate, List.length_map, List.length_append, List.length_cons, List.length_nil, List.length_set] at *; omega)))) | ((with_reducible refine And.intro (?_ : CPow _ _) ?_); (focus (first | decide | omega | (unfold CMul; omega) | (unfold CDiv; omega) | (unfold CPow; decide) | (exact cpow1 (by omega) (by omega)) | (simp only [rngD_len, List.length_replicate, List.length_map, List.length_append, List.length_cons, List.length_nil, List.length_set] at *; omega)))) | ((with_reducible refine And.intro (?_ : (_ : Nat) = _) ?_); (focus (first | decide | omega | (unfold CMul; omega) | (unfold CDiv; omega) | (unfold CPow; decide) | (exact cpow1 (by omega) (by omega)) | (simp only [rngD_len, List.length_replicate, List.length_map, List.length_append, List.length_cons, List.length_nil, List.length_set] at *; omega))))); conv => whnf)); (try dsimp only [List.set_cons_zero, List.set_cons_succ, upA])))
local macro_rules | `(tactic| walk_at "Ddl") => `(tactic| ((conv => whnf); (repeat ((first | refine And.intro rfl ?_ | refine And.intro trivial ?_ | refine And.intro ⟨rfl, trivial⟩ ?_ | refine And.intro ⟨rfl, rfl, trivial⟩ ?_ | refine ifb_t ?_ | refine ifb_f ?_ | refine ifb_nr ?_ | refine ifb_er ?_ | refine And.intro (by first | decide | omega | (unfold CMul; omega) | (unfold CDiv; omega) | (unfold CPow; decide) | (exact cpow1 (by omega) (by omega)) | (exact cpow1 (by dsimp only; omega) (by dsimp only; omega)) | (simp only [rngD_len, List.length_replicate, List.length_map, List.length_append, List.length_cons, List.length_nil, List.length_set] at *; omega)) ?_); conv => whnf))))
theorem pure_law_shifted : ∀ ds, ds.length = 2 → sp_law_shifted.pre ds → w_law_shifted (env0 ds 0) { nx := fun e => sp_law_shifted.post ds .non (outs e 2), rt := fun d e => sp_law_shifted.post ds d (outs e 2) } := by
  rintro ds _ ⟨n, p, rfl⟩
  have post : ∀ {r : D}, r = encQ (shf n p) → ∀ (n' : Int) (p' : Qn), [D.int n, encQ p] = [.int n', encQ p'] → r = encQ (shf n' p') := by
    intro r h n' p' e
    simp only [List.cons.injEq, and_true, D.int.injEq] at e
    obtain ⟨rfl, e⟩ := e
    cases encQ_inj e
    exact h
  rw [shf_enc] at post
  walk_at "Ddlx"
  refine ifb_dec (fun e => ?_) (fun e => ?_)
  · rw [if_pos e] at post
    walk_at "Ddlx"
    exact post rfl
  · rw [if_neg e] at post
    walk_at "Ddlx"
    exact post rfl
theorem nb_enc (k : K4) (w : Option Int) (p : Qn) : encQ (nb k w p) = if w = some 0 then encQ p else .tup [.str k.s, encO w, encQ p] := by
  unfold nb
  split <;> rfl
def sp_law_nearby : FSpec where
  pre := fun ds => ∃ (k : K4) (w : Option Int) (p : Qn), ds = [.str k.s, encO w, encQ p]
  post := fun ds r ds' => ds' = ds ∧ ∀ (k : K4) (w : Option Int) (p : Qn), ds = [.str k.s, encO w, encQ p] → r = encQ (nb k w p)
/-- slots: 0 kind, 1 within, 2 p -/
def w_law_nearby : WS :=
    (cSeq (cIte (cOp fEqS (cVar 1) (cC (.int 0)))
      (cRet 3 (cVar 2))
      cNilS)
    (cRet 3 (cTup (cCons (cVar 0) (cCons (cVar 1) (cCons (cVar 2) cNil))))))
theorem pure_law_nearby : ∀ ds, ds.length = 3 → sp_law_nearby.pre ds → w_law_nearby (env0 ds 0) { nx := fun e => sp_law_nearby.post ds .non (outs e 3), rt := fun d e => sp_law_nearby.post ds d (outs e 3) } := by
  rintro ds _ ⟨k, w, p, rfl⟩
  have post : ∀ {r : D}, r = encQ (nb k w p) → ∀ (k' : K4) (w' : Option Int) (p' : Qn), [D.str k.s, encO w, encQ p] = [.str k'.s, encO w', encQ p'] → r = encQ (nb k' w' p') := by
    intro r h k' w' p' e
    simp only [List.cons.injEq, and_true, D.str.injEq] at e
    obtain ⟨e1, e2, e3⟩ := e
    cases K4.inj e1
    cases encO_inj e2
    cases encQ_inj e3
    exact h
  rw [nb_enc] at post
  cases w with
  | none =>
    simp only [encO, reduceCtorEq, if_false] at post ⊢
    walk_at "Ddlx"
    exact post rfl
  | some v =>
    simp only [encO, Option.some.injEq] at post ⊢
    walk_at "Ddlx"
    refine ifb_dec (fun e => ?_) (fun e => ?_)
    · rw [if_pos e] at post
      walk_at "Ddlx"
      exact post rfl
    · rw [if_neg e] at post
      walk_at "Ddlx"
      exact post rfl
/-- what is drawn: a question, and what it is simplified to -/
def Pr (cs : List Str) (q : Bool) (d : D) : Prop := ∃ x y : Qn, d = .tup [encQ x, encQ y] ∧ okQ x ∧ dpQ x ≤ 6 ∧ simQ x = y ∧ (q = true → colsQ x = cs)
def sp_law_still : FSpec where
  pre := fun ds => ∃ (ns ms : List Int) (ws : List Str) (nm : Str) (cs : List Str), ds = [.lst (ns.map D.int), .rol (ms.map D.int), .lst (ws.map D.str), .str nm, encC cs] ∧ WsOk ws ∧ 6 ≤ ws.length ∧ cs.length ≤ 2
  post := fun ds r ds' => ∀ (l s w : D) (nm : Str) (cs : List Str), ds = [l, s, w, .str nm, encC cs] → ∃ (ns : List Int) (p : Qn), r = encQ p ∧ ds' = [.lst (ns.map D.int), s, w, .str nm, encC cs] ∧ Still nm cs p
/-- slots: 0 draws, 1 script, 2 words, 3 name, 4 columns, 5 fact, 6 kind, 7 x -/
def w_law_still : WS :=
    (cSeq (cAsg 5 [0, 1, 2, 3, 4] 5 (cTup (cCons (cC (.str (PySem.Str.ofString "fact"))) (cCons (cVar 3) (cCons (cBi fTuple (cCons (cOp fAddG (cLc [7] (iE (cVar 4)) (gN 5 [] 7) tTrue (cTup (cCons (cC (.str (PySem.Str.ofString "col"))) (cCons (cVar 7) cNil)))) (cLst (cCons (cTup (cCons (cC (.str (PySem.Str.ofString "value"))) (cCons (cCallN 3 sp_law_worth (cCons (cVar 0) (cCons (cVar 1) (cCons (cVar 2) cNil)))) cNil))) cNil))) cNil)) cNil)))))
    (cSeq (cAsg 5 [0, 1, 2, 3, 4] 6 (cCallN 2 sp_law_take (cCons (cVar 0) (cCons (cC (.int 4)) cNil))))
    (cSeq (cIte (cOp fEqS (cVar 6) (cC (.int 0)))
      (cRet 5 (cTup (cCons (cC (.str (PySem.Str.ofString "where"))) (cCons (cC (.str (PySem.Str.ofString "other"))) (cCons (cTup (cCons (cC (.str (PySem.Str.ofString "value"))) (cCons (cOp fIx (cVar 2) (cC (.int 5))) cNil))) (cCons (cTup (cCons (cC (.str (PySem.Str.ofString "value"))) (cCons (cCallN 2 sp_law_number (cCons (cVar 0) (cCons (cVar 1) cNil))) cNil))) (cCons (cVar 5) cNil)))))))
      cNilS)
    (cSeq (cIte (cOp fEqS (cVar 6) (cC (.int 1)))
      (cRet 5 (cTup (cCons (cC (.str (PySem.Str.ofString "sincenot"))) (cCons (cTup (cCons (cC (.str (PySem.Str.ofString "fact"))) (cCons (cVar 3) (cCons (cTup cNil) cNil)))) (cCons (cVar 5) cNil)))))
      cNilS)
    (cSeq (cIte (cAnd (cOp fEqS (cVar 6) (cC (.int 2))) (cOp fEqS (cBi fLen (cCons (cVar 4) cNil)) (cC (.int 2))))
      (cRet 5 (cTup (cCons (cC (.str (PySem.Str.ofString "way"))) (cCons (cOp fIx (cVar 4) (cC (.int 1))) (cCons (cOp fIx (cVar 4) (cC (.int 0))) (cCons (cVar 5) cNil))))))
      cNilS)
    (cRet 5 (cVar 5)))))))
theorem pure_law_still : ∀ ds, ds.length = 5 → sp_law_still.pre ds → w_law_still (env0 ds 3) { nx := fun e => sp_law_still.post ds .non (outs e 5), rt := fun d e => sp_law_still.post ds d (outs e 5) } := by
  rintro ds _ ⟨ns, ms, ws, nm, cs, rfl, hw, h6, hl⟩
  have post : ∀ {ks : List Int} {r : D} {p : Qn}, r = encQ p → Still nm cs p → ∀ (l s w : D) (nm' : Str) (cs' : List Str), [D.lst (ns.map D.int), .rol (ms.map D.int), .lst (ws.map D.str), .str nm, encC cs] = [l, s, w, .str nm', encC cs'] → ∃ (ns : List Int) (p : Qn), r = encQ p ∧ [.lst (ks.map D.int), .rol (ms.map D.int), .lst (ws.map D.str), .str nm, encC cs] = [.lst (ns.map D.int), s, w, .str nm', encC cs'] ∧ Still nm' cs' p := by
    intro ks r p h1 h2 l s w nm' cs' e
    simp only [List.cons.injEq, and_true, D.str.injEq] at e
    obtain ⟨_, rfl, rfl, rfl, e⟩ := e
    cases encC_inj e
    exact ⟨ks, p, h1, rfl, h2⟩
  obtain ⟨w5, hw5, ew5⟩ : ∃ w, w ∈ ws ∧ ws[5]? = some w := ⟨_, List.getElem_mem (h := by omega), List.getElem?_eq_getElem (by omega)⟩
  have a5 : atI (ws.map D.str) 5 = some (.str w5) := atI_nat (j := 5) (by rw [List.getElem?_map, ew5]; rfl)
  walk_at "Ddl"
  refine lcGo_map (fun d => .tup [.str (PySem.Str.ofString "col"), d]) _ _ ?_ ?_
  · intro d nxt acc hd hnx
    obtain ⟨c, _, rfl⟩ := List.mem_map.mp hd
    walk_at "Ddl"
    exact hnx
  have e1 : (cs.map D.str).map (fun d => D.tup [.str (PySem.Str.ofString "col"), d]) = (cs.map Tm.col).map encTm := by
    rw [List.map_map, List.map_map]; rfl
  dsimp only
  rw [e1]
  walk_at "Ddl"
  refine ⟨⟨ns, ms, ws, rfl, hw⟩, ?_⟩
  intro r ds' hp
  obtain ⟨n1, v, rfl, rfl, hv⟩ := hp _ _ _ rfl
  have nlv : isL (encV v) = false := by cases v <;> rfl
  have ef : (cs.map Tm.col).map encTm ++ [.tup [.str (PySem.Str.ofString "value"), encV v]] = (cs.map Tm.col ++ [Tm.val v]).map encTm := by rw [List.map_append]; rfl
  have l9 : ((cs.map Tm.col).map encTm ++ [D.tup [.str (PySem.Str.ofString "value"), encV v]]).length ≤ 1000000 := by simp only [List.length_append, List.length_map, List.length_singleton]; omega
  have ef2 : encQ (stF nm cs v) = .tup [.str (PySem.Str.ofString "fact"), .str nm, .tup ((cs.map Tm.col).map encTm ++ [.tup [.str (PySem.Str.ofString "value"), encV v]])] := by rw [ef]; rfl
  walk_at "Ddlx"
  refine ⟨⟨⟨_, rfl⟩, by decide⟩, ?_⟩
  rintro _ _ ⟨n2, k, rfl, rfl, k0, k1⟩
  walk_at "Ddlx"
  refine ifb_dec (fun g0 => ?_) (fun g0 => ?_)
  · walk_at "Ddlx"
    rw [a5]
    walk_at "Ddlx"
    refine ⟨⟨n2, ms, rfl⟩, ?_⟩
    intro r ds' hp
    obtain ⟨n3, z, rfl, rfl⟩ := hp _ _ rfl
    walk_at "Ddlx"
    exact post (p := .whr (PySem.Str.ofString "other") (.val (.s w5)) (.val (.i z)) (stF nm cs v)) (by simp only [encQ, ef2]; rfl) (.w v hv w5 z (hw.isw w5 hw5))
  · walk_at "Ddlx"
    refine ifb_dec (fun g1 => ?_) (fun g1 => ?_)
    · walk_at "Ddlx"
      exact post (p := .two .sincenot (.fact nm []) (stF nm cs v)) (by simp only [encQ, ef2]; rfl) (.s v hv)
    · walk_at "Ddlx"
      refine ifb_dec (fun g2 => ?_) (fun g2 => ?_)
      · walk_at "Ddlx"
        refine ifb_dec (fun g3 => ?_) (fun g3 => ?_)
        · have g4 : cs.length = 2 := by
            have : ((cs.map D.str).length : Int) = 2 := g3
            rw [List.length_map] at this
            omega
          obtain ⟨a, b, rfl⟩ : ∃ a b, cs = [a, b] := by
            match cs, g4 with
            | [a, b], _ => exact ⟨a, b, rfl⟩
          walk_at "Ddlx"
          exact post (p := .link .way b a (stF nm [a, b] v)) (by simp only [encQ, ef2]; rfl) (.l v hv a b rfl)
        · walk_at "Ddlx"
          exact post (p := stF nm cs v) ef2.symm (.f v hv)
      · walk_at "Ddlx"
        exact post (p := stF nm cs v) ef2.symm (.f v hv)
end DL

set_option maxHeartbeats 1000000
namespace DL
open PySem PySem.Spec PyProof.Rows L2
/-! ### two questions: drawn, and simplified -/
theorem pr_mk {cs : List Str} {q : Bool} {d : D} (x y : Qn) (hd : d = .tup [encQ x, encQ y]) (ok : okQ x) (dp : dpQ x ≤ 6) (h : simQ x = y) (hc : q = true → colsQ x = cs) : Pr cs q d := ⟨x, y, hd, ok, dp, h, hc⟩
theorem ok_shift {n : Int} {p : Qn} (h : okQ p) : okQ (.shift n p) := ⟨⟨trivial, (okQ_cols h : (colsQ p).length ≤ 8)⟩, h⟩
theorem ok_look {k : K4} {w : Option Int} {p : Qn} (h : okQ p) (hw : ∀ v, w = some v → 0 ≤ v) : okQ (.look k w p) := ⟨⟨hw, (okQ_cols h : (colsQ p).length ≤ 8)⟩, h⟩
theorem ok_only {cs : List Str} {p : Qn} (h : okQ p) (hs : SC cs) (hm : ∀ x ∈ cs, x ∈ colsQ p) : okQ (.only cs p) := ⟨⟨⟨hs, hm⟩, Nat.le_trans (len_sub hs hm) (okQ_cols h)⟩, h⟩
theorem ok_link {k : KL} {x y : Str} {p : Qn} (h : okQ p) (hn : x ≠ y) (he : ordS [x, y] = colsQ p) : okQ (.link k x y p) := ⟨⟨⟨hn, he⟩, (okQ_cols h : (colsQ p).length ≤ 8)⟩, h⟩
theorem ok_two {k : K2} {p q : Qn} (hp : okQ p) (hq : okQ q) (e : colsQ p = colsQ q) : okQ (.two k p q) := by
  have hl := okQ_cols hp
  have hb : (ordS (colsQ p ++ colsQ q)) = colsQ p := ordS_eq (colsQ_ok p hp).1 fun x => by rw [← e]; simp
  refine ⟨⟨?_, ?_⟩, hp, hq⟩
  · cases k <;> first | trivial | exact e | (intro x hx; rw [e]; exact hx) | (intro x hx; rw [← e]; exact hx)
  · cases k <;> simp only [colsQ] <;> first | (rw [hb]; exact hl) | exact hl | (rw [← e]; exact hl)
theorem cols_two {k : K2} {p q : Qn} (hp : okQ p) (e : colsQ p = colsQ q) : colsQ (.two k p q) = colsQ p := by
  have hb : (ordS (colsQ p ++ colsQ q)) = colsQ p := ordS_eq (colsQ_ok p hp).1 fun x => by rw [← e]; simp
  cases k <;> simp only [colsQ] <;> first | exact hb | rfl | exact e.symm
theorem look_names {d : D} (h : d ∈ [D.str (PySem.Str.ofString "once"), .str (PySem.Str.ofString "lately"), .str (PySem.Str.ofString "soon"), .str (PySem.Str.ofString "henceforth")]) : ∃ k : K4, d = .str k.s := by
  simp only [List.mem_cons, List.not_mem_nil, or_false] at h
  rcases h with rfl | rfl | rfl | rfl
  · exact ⟨.once, rfl⟩
  · exact ⟨.lately, rfl⟩
  · exact ⟨.soon, rfl⟩
  · exact ⟨.hence, rfl⟩
theorem bound_of {u v : Int} (hu : 0 ≤ u) (hv : 0 ≤ v) {d : D} (h : d ∈ [D.non, .int 0, .int 1, .int u, .int v]) : ∃ a : Option Int, d = encO a ∧ ∀ x, a = some x → 0 ≤ x := by
  simp only [List.mem_cons, List.not_mem_nil, or_false] at h
  rcases h with rfl | rfl | rfl | rfl | rfl
  · exact ⟨none, rfl, nofun⟩
  · exact ⟨some 0, rfl, fun x e => by cases e; omega⟩
  · exact ⟨some 1, rfl, fun x e => by cases e; omega⟩
  · exact ⟨some _, rfl, fun x e => by cases e; omega⟩
  · exact ⟨some _, rfl, fun x e => by cases e; omega⟩
abbrev kNM : List D := [.str (PySem.Str.ofString "once"), .str (PySem.Str.ofString "lately"), .str (PySem.Str.ofString "soon"), .str (PySem.Str.ofString "henceforth")]
def sp_law_one : FSpec where
  pre := fun ds => ∃ (ns ms : List Int) (nm : Str) (cs : List Str) (p : Qn) (k : Int), ds = [.lst (ns.map D.int), .rol (ms.map D.int), encQ p, encC cs, .int k] ∧ isW nm = true ∧ CsOk cs ∧ cs.length ≤ 2 ∧ (k = 7 → cs.length = 2) ∧ (0 ≤ k ∧ k < 12 ∧ k ≠ 4 ∧ k ≠ 8 ∧ k ≠ 9 ∧ k ≠ 10 ∧ k ≠ 11) ∧ Still nm cs p
  post := fun ds r ds' => ∀ (l s : D) (p : Qn) (cs : List Str) (k : Int), ds = [l, s, encQ p, encC cs, .int k] → ∃ (ns : List Int), Pr cs (!(decide (k = 5) || decide (k = 6))) r ∧ ds' = [.lst (ns.map D.int), s, encQ p, encC cs, .int k]
theorem lo_post {l s r : D} {cs : List Str} {p : Qn} {k : Int} {ks : List Int} (h : Pr cs (!(decide (k = 5) || decide (k = 6))) r) : ∀ (l' s' : D) (p' : Qn) (cs' : List Str) (k' : Int), [l, s, encQ p, encC cs, .int k] = [l', s', encQ p', encC cs', .int k'] → ∃ (ns : List Int), Pr cs' (!(decide (k' = 5) || decide (k' = 6))) r ∧ [.lst (ks.map D.int), s, encQ p, encC cs, .int k] = [.lst (ns.map D.int), s', encQ p', encC cs', .int k'] := by
  intro l' s' p' cs' k' e
  simp only [List.cons.injEq, and_true, D.int.injEq] at e
  obtain ⟨_, rfl, e1, e2, rfl⟩ := e
  cases encQ_inj e1
  cases encC_inj e2
  exact ⟨ks, h, rfl⟩
/-- slots: 0 draws, 1 script, 2 p, 3 columns, 4 rule, 5 names, 6 a, 7 b, 8 kind, 9 other, 10 some, 11 due, 12 wider, 13 one, 14 inner, 15 outer, 16 x -/
def w_law_one : WS :=
    (cSeq (cAsg 5 [0, 1, 2, 3, 4] 5 (cLst (cCons (cC (.str (PySem.Str.ofString "once"))) (cCons (cC (.str (PySem.Str.ofString "lately"))) (cCons (cC (.str (PySem.Str.ofString "soon"))) (cCons (cC (.str (PySem.Str.ofString "henceforth"))) cNil))))))
    (cSeq (cIte (cOp fLt (cVar 4) (cC (.int 2)))
      (cSeq (cAsg 5 [0, 1, 2, 3, 4] 6 (cCallN 2 sp_law_number (cCons (cVar 0) (cCons (cVar 1) cNil))))
        (cSeq (cAsg 5 [0, 1, 2, 3, 4] 7 (cCallN 2 sp_law_pick (cCons (cVar 0) (cCons (cLst (cCons (cCallN 2 sp_law_number (cCons (cVar 0) (cCons (cVar 1) cNil))) (cCons (cUn fNeg (cVar 6)) (cCons (cC (.int 0)) cNil)))) cNil))))
        (cSeq (cIte (cOp fEqS (cVar 4) (cC (.int 0)))
          (cRet 5 (cTup (cCons (cTup (cCons (cC (.str (PySem.Str.ofString "shift"))) (cCons (cC (.int 0)) (cCons (cVar 2) cNil)))) (cCons (cVar 2) cNil))))
          cNilS)
        (cSeq (cIte (cOr (cOp fGe (cVar 6) (cC (.int 0))) (cOp fLe (cVar 7) (cC (.int 0))))
          (cRet 5 (cTup (cCons (cTup (cCons (cC (.str (PySem.Str.ofString "shift"))) (cCons (cVar 6) (cCons (cTup (cCons (cC (.str (PySem.Str.ofString "shift"))) (cCons (cVar 7) (cCons (cVar 2) cNil)))) cNil)))) (cCons (cCallN 2 sp_law_shifted (cCons (cOp fAddG (cVar 6) (cVar 7)) (cCons (cVar 2) cNil))) cNil))))
          cNilS)
        (cRet 5 (cTup (cCons (cTup (cCons (cC (.str (PySem.Str.ofString "shift"))) (cCons (cVar 6) (cCons (cTup (cCons (cC (.str (PySem.Str.ofString "shift"))) (cCons (cVar 7) (cCons (cVar 2) cNil)))) cNil)))) (cCons (cTup (cCons (cC (.str (PySem.Str.ofString "shift"))) (cCons (cVar 6) (cCons (cTup (cCons (cC (.str (PySem.Str.ofString "shift"))) (cCons (cVar 7) (cCons (cVar 2) cNil)))) cNil)))) cNil))))))))
      cNilS)
    (cSeq (cAsg 5 [0, 1, 2, 3, 4] 8 (cCallN 2 sp_law_pick (cCons (cVar 0) (cCons (cVar 5) cNil))))
    (cSeq (cIte (cOp fEqS (cVar 4) (cC (.int 2)))
      (cRet 5 (cTup (cCons (cTup (cCons (cVar 8) (cCons (cC (.int 0)) (cCons (cVar 2) cNil)))) (cCons (cVar 2) cNil))))
      cNilS)
    (cSeq (cIte (cOp fEqS (cVar 4) (cC (.int 3)))
      (cSeq (cAsg 5 [0, 1, 2, 3, 4] 6 (cCallN 2 sp_law_pick (cCons (cVar 0) (cCons (cLst (cCons (cC .non) (cCons (cC (.int 0)) (cCons (cC (.int 1)) (cCons (cCallN 2 sp_law_size (cCons (cVar 0) (cCons (cVar 1) cNil))) (cCons (cCallN 2 sp_law_size (cCons (cVar 0) (cCons (cVar 1) cNil))) cNil)))))) cNil))))
        (cSeq (cAsg 5 [0, 1, 2, 3, 4] 7 (cCallN 2 sp_law_pick (cCons (cVar 0) (cCons (cLst (cCons (cC .non) (cCons (cC (.int 0)) (cCons (cC (.int 1)) (cCons (cCallN 2 sp_law_size (cCons (cVar 0) (cCons (cVar 1) cNil))) (cCons (cCallN 2 sp_law_size (cCons (cVar 0) (cCons (cVar 1) cNil))) cNil)))))) cNil))))
        (cSeq (cAsg 5 [0, 1, 2, 3, 4] 9 (cCallN 2 sp_law_pick (cCons (cVar 0) (cCons (cLst (cCons (cVar 8) (cCons (cVar 8) (cCons (cCallN 2 sp_law_pick (cCons (cVar 0) (cCons (cVar 5) cNil))) cNil)))) cNil))))
        (cSeq (cIte (cOp fNeS (cVar 8) (cVar 9))
          (cRet 5 (cTup (cCons (cTup (cCons (cVar 8) (cCons (cVar 6) (cCons (cTup (cCons (cVar 9) (cCons (cVar 7) (cCons (cVar 2) cNil)))) cNil)))) (cCons (cCallN 3 sp_law_nearby (cCons (cVar 8) (cCons (cVar 6) (cCons (cCallN 3 sp_law_nearby (cCons (cVar 9) (cCons (cVar 7) (cCons (cVar 2) cNil)))) cNil)))) cNil))))
          cNilS)
        (cSeq (cIte (cOr (cUn (fIsN false) (cVar 6)) (cUn (fIsN false) (cVar 7)))
          (cRet 5 (cTup (cCons (cTup (cCons (cVar 8) (cCons (cVar 6) (cCons (cTup (cCons (cVar 8) (cCons (cVar 7) (cCons (cVar 2) cNil)))) cNil)))) (cCons (cTup (cCons (cVar 8) (cCons (cC .non) (cCons (cVar 2) cNil)))) cNil))))
          cNilS)
        (cRet 5 (cTup (cCons (cTup (cCons (cVar 8) (cCons (cVar 6) (cCons (cTup (cCons (cVar 8) (cCons (cVar 7) (cCons (cVar 2) cNil)))) cNil)))) (cCons (cCallN 3 sp_law_nearby (cCons (cVar 8) (cCons (cOp fAddG (cVar 6) (cVar 7)) (cCons (cVar 2) cNil)))) cNil)))))))))
      cNilS)
    (cSeq (cAsg 5 [0, 1, 2, 3, 4] 10 (cCallN 2 sp_law_some_columns (cCons (cVar 0) (cCons (cVar 3) cNil))))
    (cSeq (cAsg 5 [0, 1, 2, 3, 4] 11 (cTup (cCons (cC (.str (PySem.Str.ofString "only"))) (cCons (cVar 10) (cCons (cVar 2) cNil)))))
    (cSeq (cIte (cOp fEqD (cVar 10) (cVar 3))
      (cAsg 5 [0, 1, 2, 3, 4] 11 (cVar 2))
      cNilS)
    (cSeq (cIte (cOp fEqS (cVar 4) (cC (.int 5)))
      (cRet 5 (cTup (cCons (cTup (cCons (cC (.str (PySem.Str.ofString "only"))) (cCons (cVar 10) (cCons (cVar 2) cNil)))) (cCons (cVar 11) cNil))))
      cNilS)
    (cSeq (cIte (cOp fEqS (cVar 4) (cC (.int 6)))
      (cSeq (cAsg 5 [0, 1, 2, 3, 4] 12 (cBi fTuple (cCons (cLc [16] (iE (cVar 3)) (gN 5 [] 16) (cOr (cOp (fIn false) (cVar 16) (cVar 10)) (cOp fEqS (cCallN 2 sp_law_take (cCons (cVar 0) (cCons (cC (.int 2)) cNil))) (cC (.int 0)))) (cVar 16)) cNil)))
        (cRet 5 (cTup (cCons (cTup (cCons (cC (.str (PySem.Str.ofString "only"))) (cCons (cVar 10) (cCons (cTup (cCons (cC (.str (PySem.Str.ofString "only"))) (cCons (cVar 12) (cCons (cVar 2) cNil)))) cNil)))) (cCons (cVar 11) cNil)))))
      cNilS)
    (cSeq (cAsg 5 [0, 1, 2, 3, 4] 13 (cCallN 2 sp_law_pick (cCons (cVar 0) (cCons (cLst (cCons (cC (.str (PySem.Str.ofString "linked"))) (cCons (cC (.str (PySem.Str.ofString "way"))) cNil))) cNil))))
    (cSeq (cAsg 5 [0, 1, 2, 3, 4] 9 (cCallN 2 sp_law_pick (cCons (cVar 0) (cCons (cLst (cCons (cC (.str (PySem.Str.ofString "linked"))) (cCons (cC (.str (PySem.Str.ofString "way"))) cNil))) cNil))))
    (cSeq (cAsg 5 [0, 1, 2, 3, 4] 14 (cTup (cCons (cVar 9) (cCons (cOp fIx (cVar 3) (cC (.int 1))) (cCons (cOp fIx (cVar 3) (cC (.int 0))) (cCons (cVar 2) cNil))))))
    (cSeq (cAsg 5 [0, 1, 2, 3, 4] 15 (cTup (cCons (cVar 13) (cCons (cOp fIx (cVar 3) (cC (.int 0))) (cCons (cOp fIx (cVar 3) (cC (.int 1))) (cCons (cVar 14) cNil))))))
    (cSeq (cIte (cAnd (cOp fEqS (cVar 13) (cC (.str (PySem.Str.ofString "linked")))) (cOp fEqS (cVar 9) (cC (.str (PySem.Str.ofString "linked")))))
      (cRet 5 (cTup (cCons (cVar 15) (cCons (cVar 14) cNil))))
      cNilS)
    (cRet 5 (cTup (cCons (cVar 15) (cCons (cVar 15) cNil)))))))))))))))))))
def wc_law_one_6 : WS :=
    (cSeq (cAsg 5 [0, 1, 2, 3, 4] 13 (cCallN 2 sp_law_pick (cCons (cVar 0) (cCons (cLst (cCons (cC (.str (PySem.Str.ofString "linked"))) (cCons (cC (.str (PySem.Str.ofString "way"))) cNil))) cNil))))
    (cSeq (cAsg 5 [0, 1, 2, 3, 4] 9 (cCallN 2 sp_law_pick (cCons (cVar 0) (cCons (cLst (cCons (cC (.str (PySem.Str.ofString "linked"))) (cCons (cC (.str (PySem.Str.ofString "way"))) cNil))) cNil))))
    (cSeq (cAsg 5 [0, 1, 2, 3, 4] 14 (cTup (cCons (cVar 9) (cCons (cOp fIx (cVar 3) (cC (.int 1))) (cCons (cOp fIx (cVar 3) (cC (.int 0))) (cCons (cVar 2) cNil))))))
    (cSeq (cAsg 5 [0, 1, 2, 3, 4] 15 (cTup (cCons (cVar 13) (cCons (cOp fIx (cVar 3) (cC (.int 0))) (cCons (cOp fIx (cVar 3) (cC (.int 1))) (cCons (cVar 14) cNil))))))
    (cSeq (cIte (cAnd (cOp fEqS (cVar 13) (cC (.str (PySem.Str.ofString "linked")))) (cOp fEqS (cVar 9) (cC (.str (PySem.Str.ofString "linked")))))
      (cRet 5 (cTup (cCons (cVar 15) (cCons (cVar 14) cNil))))
      cNilS)
    (cRet 5 (cTup (cCons (cVar 15) (cCons (cVar 15) cNil)))))))))
def wc_law_one_5 : WS :=
    (cCut (cIte (cOp fEqS (cVar 4) (cC (.int 6)))
      (cSeq (cAsg 5 [0, 1, 2, 3, 4] 12 (cBi fTuple (cCons (cLc [16] (iE (cVar 3)) (gN 5 [] 16) (cOr (cOp (fIn false) (cVar 16) (cVar 10)) (cOp fEqS (cCallN 2 sp_law_take (cCons (cVar 0) (cCons (cC (.int 2)) cNil))) (cC (.int 0)))) (cVar 16)) cNil)))
        (cRet 5 (cTup (cCons (cTup (cCons (cC (.str (PySem.Str.ofString "only"))) (cCons (cVar 10) (cCons (cTup (cCons (cC (.str (PySem.Str.ofString "only"))) (cCons (cVar 12) (cCons (cVar 2) cNil)))) cNil)))) (cCons (cVar 11) cNil)))))
      cNilS) (wc_law_one_6))
def wc_law_one_4 : WS :=
    (cCut (cIte (cOp fEqS (cVar 4) (cC (.int 5)))
      (cRet 5 (cTup (cCons (cTup (cCons (cC (.str (PySem.Str.ofString "only"))) (cCons (cVar 10) (cCons (cVar 2) cNil)))) (cCons (cVar 11) cNil))))
      cNilS) (wc_law_one_5))
def wc_law_one_3 : WS :=
    (cSeq (cAsg 5 [0, 1, 2, 3, 4] 10 (cCallN 2 sp_law_some_columns (cCons (cVar 0) (cCons (cVar 3) cNil))))
    (cSeq (cAsg 5 [0, 1, 2, 3, 4] 11 (cTup (cCons (cC (.str (PySem.Str.ofString "only"))) (cCons (cVar 10) (cCons (cVar 2) cNil)))))
    (cCut (cIte (cOp fEqD (cVar 10) (cVar 3))
      (cAsg 5 [0, 1, 2, 3, 4] 11 (cVar 2))
      cNilS) (wc_law_one_4))))
def wc_law_one_2 : WS :=
    (cCut (cIte (cOp fEqS (cVar 4) (cC (.int 3)))
      (cSeq (cAsg 5 [0, 1, 2, 3, 4] 6 (cCallN 2 sp_law_pick (cCons (cVar 0) (cCons (cLst (cCons (cC .non) (cCons (cC (.int 0)) (cCons (cC (.int 1)) (cCons (cCallN 2 sp_law_size (cCons (cVar 0) (cCons (cVar 1) cNil))) (cCons (cCallN 2 sp_law_size (cCons (cVar 0) (cCons (cVar 1) cNil))) cNil)))))) cNil))))
        (cSeq (cAsg 5 [0, 1, 2, 3, 4] 7 (cCallN 2 sp_law_pick (cCons (cVar 0) (cCons (cLst (cCons (cC .non) (cCons (cC (.int 0)) (cCons (cC (.int 1)) (cCons (cCallN 2 sp_law_size (cCons (cVar 0) (cCons (cVar 1) cNil))) (cCons (cCallN 2 sp_law_size (cCons (cVar 0) (cCons (cVar 1) cNil))) cNil)))))) cNil))))
        (cSeq (cAsg 5 [0, 1, 2, 3, 4] 9 (cCallN 2 sp_law_pick (cCons (cVar 0) (cCons (cLst (cCons (cVar 8) (cCons (cVar 8) (cCons (cCallN 2 sp_law_pick (cCons (cVar 0) (cCons (cVar 5) cNil))) cNil)))) cNil))))
        (cSeq (cIte (cOp fNeS (cVar 8) (cVar 9))
          (cRet 5 (cTup (cCons (cTup (cCons (cVar 8) (cCons (cVar 6) (cCons (cTup (cCons (cVar 9) (cCons (cVar 7) (cCons (cVar 2) cNil)))) cNil)))) (cCons (cCallN 3 sp_law_nearby (cCons (cVar 8) (cCons (cVar 6) (cCons (cCallN 3 sp_law_nearby (cCons (cVar 9) (cCons (cVar 7) (cCons (cVar 2) cNil)))) cNil)))) cNil))))
          cNilS)
        (cSeq (cIte (cOr (cUn (fIsN false) (cVar 6)) (cUn (fIsN false) (cVar 7)))
          (cRet 5 (cTup (cCons (cTup (cCons (cVar 8) (cCons (cVar 6) (cCons (cTup (cCons (cVar 8) (cCons (cVar 7) (cCons (cVar 2) cNil)))) cNil)))) (cCons (cTup (cCons (cVar 8) (cCons (cC .non) (cCons (cVar 2) cNil)))) cNil))))
          cNilS)
        (cRet 5 (cTup (cCons (cTup (cCons (cVar 8) (cCons (cVar 6) (cCons (cTup (cCons (cVar 8) (cCons (cVar 7) (cCons (cVar 2) cNil)))) cNil)))) (cCons (cCallN 3 sp_law_nearby (cCons (cVar 8) (cCons (cOp fAddG (cVar 6) (cVar 7)) (cCons (cVar 2) cNil)))) cNil)))))))))
      cNilS) (wc_law_one_3))
def wc_law_one_1 : WS :=
    (cSeq (cAsg 5 [0, 1, 2, 3, 4] 8 (cCallN 2 sp_law_pick (cCons (cVar 0) (cCons (cVar 5) cNil))))
    (cCut (cIte (cOp fEqS (cVar 4) (cC (.int 2)))
      (cRet 5 (cTup (cCons (cTup (cCons (cVar 8) (cCons (cC (.int 0)) (cCons (cVar 2) cNil)))) (cCons (cVar 2) cNil))))
      cNilS) (wc_law_one_2)))
def wc_law_one_0 : WS :=
    (cSeq (cAsg 5 [0, 1, 2, 3, 4] 5 (cLst (cCons (cC (.str (PySem.Str.ofString "once"))) (cCons (cC (.str (PySem.Str.ofString "lately"))) (cCons (cC (.str (PySem.Str.ofString "soon"))) (cCons (cC (.str (PySem.Str.ofString "henceforth"))) cNil))))))
    (cCut (cIte (cOp fLt (cVar 4) (cC (.int 2)))
      (cSeq (cAsg 5 [0, 1, 2, 3, 4] 6 (cCallN 2 sp_law_number (cCons (cVar 0) (cCons (cVar 1) cNil))))
        (cSeq (cAsg 5 [0, 1, 2, 3, 4] 7 (cCallN 2 sp_law_pick (cCons (cVar 0) (cCons (cLst (cCons (cCallN 2 sp_law_number (cCons (cVar 0) (cCons (cVar 1) cNil))) (cCons (cUn fNeg (cVar 6)) (cCons (cC (.int 0)) cNil)))) cNil))))
        (cSeq (cIte (cOp fEqS (cVar 4) (cC (.int 0)))
          (cRet 5 (cTup (cCons (cTup (cCons (cC (.str (PySem.Str.ofString "shift"))) (cCons (cC (.int 0)) (cCons (cVar 2) cNil)))) (cCons (cVar 2) cNil))))
          cNilS)
        (cSeq (cIte (cOr (cOp fGe (cVar 6) (cC (.int 0))) (cOp fLe (cVar 7) (cC (.int 0))))
          (cRet 5 (cTup (cCons (cTup (cCons (cC (.str (PySem.Str.ofString "shift"))) (cCons (cVar 6) (cCons (cTup (cCons (cC (.str (PySem.Str.ofString "shift"))) (cCons (cVar 7) (cCons (cVar 2) cNil)))) cNil)))) (cCons (cCallN 2 sp_law_shifted (cCons (cOp fAddG (cVar 6) (cVar 7)) (cCons (cVar 2) cNil))) cNil))))
          cNilS)
        (cRet 5 (cTup (cCons (cTup (cCons (cC (.str (PySem.Str.ofString "shift"))) (cCons (cVar 6) (cCons (cTup (cCons (cC (.str (PySem.Str.ofString "shift"))) (cCons (cVar 7) (cCons (cVar 2) cNil)))) cNil)))) (cCons (cTup (cCons (cC (.str (PySem.Str.ofString "shift"))) (cCons (cVar 6) (cCons (cTup (cCons (cC (.str (PySem.Str.ofString "shift"))) (cCons (cVar 7) (cCons (cVar 2) cNil)))) cNil)))) cNil))))))))
      cNilS) (wc_law_one_1)))
theorem wc_law_one_eq : w_law_one = wc_law_one_0 := by
  unfold wc_law_one_0 wc_law_one_1 wc_law_one_2 wc_law_one_3 wc_law_one_4 wc_law_one_5 wc_law_one_6
  simp only [cCut_eq]
  rfl
abbrev kt_law_one (ds : List D) : Kt := { nx := fun e => sp_law_one.post ds .non (outs e 5), rt := fun d e => sp_law_one.post ds d (outs e 5) }
local macro_rules | `(tactic| walk_at "Ddlx") => `(tactic| ((conv => whnf); (repeat ((first | ((with_reducible refine And.intro (stOk_nl ?_ ?_) ?_); (focus (with_reducible first | assumption | exact encQ_nl _ | exact encO_nl _ | exact encC_nl _)); (focus exact rfl)) | ((refine pick_nl ?_ ?_); (focus (with_reducible first | assumption | exact encQ_nl _ | exact encO_nl _ | exact encC_nl _))) | ((with_reducible refine And.intro ?_ ?_); (focus (with_reducible first | assumption | exact encQ_nl _ | exact encO_nl _ | exact encC_nl _))) | ((with_reducible refine And.intro (immA_c ?_ ?_) ?_); (focus (first | (with_reducible first | assumption | exact encQ_nl _ | exact encO_nl _ | exact encC_nl _) | exact rfl)); (focus ((repeat ((with_reducible refine immA_c ?_ ?_); (focus (first | (with_reducible first | assumption | exact encQ_nl _ | exact encO_nl _ | exact encC_nl _) | exact rfl)))); exact rfl))) | refine And.intro rfl ?_ | refine And.intro trivial ?_ | refine And.intro ⟨rfl, trivial⟩ ?_ | refine And.intro ⟨rfl, rfl, trivial⟩ ?_ | refine ifb_nq (by first | assumption | decide) ?_ | refine ifb_pq (by assumption) ?_ | refine ifb_er ?_ | refine ifb_t ?_ | refine ifb_f ?_ | refine ifb_nr ?_ | refine ifb_er ?_ | ((with_reducible refine And.intro (?_ : (_ : Nat) ≤ _) ?_); (focus (first | decide | omega | (unfold CMul; omega) | (unfold CDiv; omega) | (unfold CPow; decide) | (exact cpow1 (by omega) (by omega)) | (simp only [rngD_len, List.length_replicate, List.length_map, List.length_append, List.length_cons, List.length_nil, List.length_set] at *; omega)))) | ((with_reducible refine And.intro (?_ : (_ : Int) ≤ _) ?_); (focus (first | decide | omega | (unfold CMul; omega) | (unfold CDiv; omega) | (unfold CPow; decide) | (exact cpow1 (by omega) (by omega)) | (simp only [rngD_len, List.length_replicate, List.length_map, List.length_append, List.length_cons, List.length_nil, List.length_set] at *; omega)))) | ((with_reducible refine And.intro (?_ : (_ : Nat) < _) ?_); (focus (first | decide | omega | (unfold CMul; omega) | (unfold CDiv; omega) | (unfold CPow; decide) | (exact cpow1 (by omega) (by omega)) | (simp only [rngD_len, List.length_replicate, List.length_map, List.length_append, List.length_cons, List.length_nil, List.length_set] at *; omega)))) | ((with_reducible refine And.intro (?_ : (_ : Int) < _) ?_); (focus (first | decide | omega | (unfold CMul; omega) | (unfold CDiv; omega) | (unfold CPow; decide) | (exact cpow1 (by omega) (by omega)) | (simp only [rngD_len, List.length_replicate, List.length_map, List.length_append, List.length_cons, List.length_nil, List.length_set] at *; omega)))) | ((with_reducible refine And.intro (?_ : CMul _ _) ?_); (focus (first | decide | omega | (unfold CMul; omega) | (unfold CDiv; omega) | (unfold CPow; decide) | (exact cpow1 (by omega) (by omega)) | (simp only [rngD_len, List.length_replicate, List.length_map, List.length_append, List.length_cons, List.length_nil, List.length_set] at *; omega)))) | ((with_reducible refine And.intro (?_ : CDiv _ _) ?_); (focus (first | decide | omega | (unfold CMul; omega) | (unfold CDiv; omega) | (unfold CPow; decide) | (exact cpow1 (by omega) (by omega)) | (simp only [rngD_len, List.length_replicate, List.length_map, List.length_append, List.length_cons, List.length_nil, List.length_set] at *; omega)))) | ((with_reducible refine And.intro (?_ : CPow _ _) ?_); (focus (first | decide | omega | (unfold CMul; omega) | (unfold CDiv; omega) | (unfold CPow; decide) | (exact cpow1 (by omega) (by omega)) | (simp only [rngD_len, List.length_replicate, List.length_map, List.length_append, List.length_cons, List.length_nil, List.length_set] at *; omega)))) | ((with_reducible refine And.intro (?_ : (_ : Nat) = _) ?_); (focus (first | decide | omega | (unfold CMul; omega) | (unfold CDiv; omega) | (unfold CPow; decide) | (exact cpow1 (by omega) (by omega)) | (simp only [rngD_len, List.length_replicate, List.length_map, List.length_append, List.length_cons, List.length_nil, List.length_set] at *; omega))))); conv => whnf)); (try dsimp only [List.set_cons_zero, List.set_cons_succ, upA])))
section
variable {ns ms : List Int} {nm : Str} {cs : List Str} {p : Qn} {k : Int} (hnm : isW nm = true) (hcs : CsOk cs) (hl : cs.length ≤ 2) (h7 : k = 7 → cs.length = 2) (hp : Still nm cs p)
abbrev EE1 (ns ms : List Int) (p : Qn) (cs : List Str) (k : Int) (r : List (Option D)) : DEnv := some (.lst (ns.map D.int)) :: some (.rol (ms.map D.int)) :: some (encQ p) :: some (encC cs) :: some (.int k) :: r
abbrev KK1 (ns ms : List Int) (p : Qn) (cs : List Str) (k : Int) : Kt := kt_law_one [.lst (ns.map D.int), .rol (ms.map D.int), encQ p, encC cs, .int k]
open Classical in
noncomputable def du (es : List Str) (p : Qn) : Qn := if es = colsQ p then p else .only es p
include hnm hcs hl h7 hp in
theorem one9 (n0 n1 : List Int) (kk : K4) (es : List Str) (h56 : ¬ k = 5 ∧ ¬ k = 6) (hk : k = 7) : wc_law_one_6 (EE1 n1 ms p cs k (some (.lst kNM) :: none :: none :: some (.str kk.s) :: none :: some (encC es) :: some (encQ (du es p)) :: List.replicate 5 none)) (KK1 n0 ms p cs k) := by
  have so := hp.so hnm hcs hl
  have pl := so.pl
  have post := fun {l s r : D} {ks : List Int} h => lo_post (l := l) (s := s) (r := r) (cs := cs) (p := p) (k := k) (ks := ks) h
  have nl := encQ_nl p
  obtain ⟨a, b, rfl⟩ : ∃ a b, cs = [a, b] := by
    match cs, h7 hk with
    | [a, b], _ => exact ⟨a, b, rfl⟩
  have hne : a ≠ b := by
    have := hcs.sc.nd
    simp only [List.nodup_cons, List.mem_singleton] at this
    exact this.1
  have hab : ordS [a, b] = colsQ p := by rw [so.cols]; exact ordS_self hcs.sc
  have hba : ordS [b, a] = colsQ p := by
    rw [so.cols]
    exact ordS_eq hcs.sc fun x => by simp only [List.mem_cons, List.not_mem_nil, or_false]; exact Or.comm
  walk_at "Ddlx"
  refine ⟨⟨n1, _, _, rfl, rfl, by decide, by decide⟩, ?_⟩
  intro r ds' hp2
  obtain ⟨n2, hr, rfl⟩ := hp2 _ _ _ rfl rfl
  obtain ⟨k1, rfl⟩ : ∃ k : KL, r = .str k.s := by
    simp only [List.mem_cons, List.not_mem_nil, or_false] at hr
    rcases hr with rfl | rfl
    · exact ⟨.linked, rfl⟩
    · exact ⟨.way, rfl⟩
  clear hr
  walk_at "Ddlx"
  refine ⟨⟨n2, _, _, rfl, rfl, by decide, by decide⟩, ?_⟩
  intro r ds' hp2
  obtain ⟨n3, hr, rfl⟩ := hp2 _ _ _ rfl rfl
  obtain ⟨k2, rfl⟩ : ∃ k : KL, r = .str k.s := by
    simp only [List.mem_cons, List.not_mem_nil, or_false] at hr
    rcases hr with rfl | rfl
    · exact ⟨.linked, rfl⟩
    · exact ⟨.way, rfl⟩
  clear hr
  have fin := sim_link (k := k1) (k' := k2) (x := a) (y := b) (u := b) (v := a) pl
  have prx : ∀ y : Qn, simQ (.link k1 a b (.link k2 b a p)) = y → Pr [a, b] (!(decide (k = 5) || decide (k = 6))) (.tup [.tup [.str k1.s, .str a, .str b, .tup [.str k2.s, .str b, .str a, encQ p]], encQ y]) := fun y h =>
    pr_mk _ y rfl (ok_link (ok_link so.ok hne.symm hba) hne hab) (by have := so.dp; simp only [dpQ]; omega) h fun _ => so.cols
  cases k1 <;> cases k2 <;>
  · walk_at "Ddlx"
    exact post (prx _ fin)
include hnm hcs hl h7 hp in
theorem one8 (n0 n1 : List Int) (kk : K4) (es : List Str) (hes : es.Sublist cs) (hk : k = 6 ∨ k = 7) : wc_law_one_5 (EE1 n1 ms p cs k (some (.lst kNM) :: none :: none :: some (.str kk.s) :: none :: some (encC es) :: some (encQ (du es p)) :: List.replicate 5 none)) (KK1 n0 ms p cs k) := by
  have so := hp.so hnm hcs hl
  have pl := so.pl
  have post := fun {l s r : D} {ks : List Int} h => lo_post (l := l) (s := s) (r := r) (cs := cs) (p := p) (k := k) (ks := ks) h
  have nl := encQ_nl p
  have ces := hcs.sub hes
  have nld := encQ_nl (du es p)
  walk_at "Ddlx"
  refine ifb_dec (fun g6 => ?_) (fun g6 => ?_)
  · walk_at "Ddlx"
    refine loop_lc (fun xs acc e => ∃ (ks : List Int) (u v w : List Str), (cs = u ++ v ∧ xs = v.map D.str ∧ acc = w.map D.str ∧ w.Sublist u ∧ ∀ x ∈ u, x ∈ es → x ∈ w) ∧ e = EE1 ks ms p cs k (some (.lst kNM) :: none :: none :: some (.str kk.s) :: none :: some (encC es) :: some (encQ (du es p)) :: List.replicate 5 none)) ⟨n1, [], cs, [], ⟨rfl, rfl, rfl, .refl _, nofun⟩, rfl⟩ ?_ ?_
    · rintro x r acc env nxt ⟨ks, u, v, w, ⟨h1, h2, rfl, h4, h5⟩, rfl⟩ hx
      cases v with
      | nil => simp at h2
      | cons c v =>
        simp only [List.map_cons, List.cons.injEq] at h2
        obtain ⟨rfl, rfl⟩ := h2
        have key := any_str c es
        walk_at "Ddlx"
        refine ⟨flatA_str es, ?_⟩
        walk_at "Ddlx"
        refine ifb_eqb key (fun hm => ?_) (fun hm => ?_)
        · walk_at "Ddlx"
          refine hx _ _ ⟨ks, u ++ [c], v, w ++ [c], ⟨by rw [h1]; simp, rfl, by rw [List.map_append]; rfl, h4.append (.refl _), fun y hy hy2 => ?_⟩, rfl⟩
          rcases List.mem_append.mp hy with h | h
          · exact List.mem_append_left _ (h5 y h hy2)
          · exact List.mem_append_right _ h
        · walk_at "Ddlx"
          refine ⟨⟨⟨_, rfl⟩, by decide⟩, ?_⟩
          rintro _ _ ⟨n3, z, rfl, rfl, z0, z1⟩
          walk_at "Ddlx"
          refine ifb_dec (fun gz => ?_) (fun gz => ?_)
          · walk_at "Ddlx"
            refine hx _ _ ⟨n3, u ++ [c], v, w ++ [c], ⟨by rw [h1]; simp, rfl, by rw [List.map_append]; rfl, h4.append (.refl _), fun y hy hy2 => ?_⟩, rfl⟩
            rcases List.mem_append.mp hy with h | h
            · exact List.mem_append_left _ (h5 y h hy2)
            · exact List.mem_append_right _ h
          · walk_at "Ddlx"
            refine hx _ _ ⟨n3, u ++ [c], v, w, ⟨by rw [h1]; simp, rfl, rfl, h4.trans (List.sublist_append_left _ _), fun y hy hy2 => ?_⟩, rfl⟩
            rcases List.mem_append.mp hy with h | h
            · exact h5 y h hy2
            · rw [List.mem_singleton.mp h] at hy2
              exact absurd hy2 hm
    · rintro acc env ⟨ks, u, v, w, ⟨h1, h2, rfl, h4, h5⟩, rfl⟩
      have hv : v = [] := by
        cases v with
        | nil => rfl
        | cons _ _ => simp at h2
      subst hv
      rw [List.append_nil] at h1
      subst h1
      have okw : okQ (.only w p) := ok_only so.ok (hcs.sub h4).sc fun x hx => by rw [so.cols]; exact h4.subset hx
      have okx : okQ (.only es (.only w p)) := ok_only okw ces.sc fun x hx => h5 x (hes.subset hx) hx
      have key : simQ (.only es (.only w p)) = du es p := by
        refine sim_only2 pl ?_
        by_cases e : es = colsQ p
        · left
          refine SC.uniq (hcs.sub h4).sc (colsQ_ok p so.ok).1 fun x => ?_
          rw [so.cols] at e ⊢
          exact ⟨fun hx => h4.subset hx, fun hx => h5 x hx (by rw [e]; exact hx)⟩
        · exact .inr e
      walk_at "Ddlx"
      refine post (pr_mk (.only es (.only w p)) (du es p) rfl okx (by have := so.dp; simp only [dpQ]; omega) key fun h => ?_)
      rw [decide_eq_true g6, Bool.or_true] at h
      cases h
  · walk_at "Ddlx"
    refine stopE (e := EE1 n1 ms p cs k (some (.lst kNM) :: none :: none :: some (.str kk.s) :: none :: some (encC es) :: some (encQ (du es p)) :: List.replicate 5 none)) rfl ?_
    exact one9 hnm hcs hl h7 hp n0 n1 kk es (by omega) (by omega)
include hnm hcs hl h7 hp in
theorem one7 (n0 n1 : List Int) (kk : K4) (es : List Str) (hes : es.Sublist cs) (hk : k = 5 ∨ k = 6 ∨ k = 7) : wc_law_one_4 (EE1 n1 ms p cs k (some (.lst kNM) :: none :: none :: some (.str kk.s) :: none :: some (encC es) :: some (encQ (du es p)) :: List.replicate 5 none)) (KK1 n0 ms p cs k) := by
  have so := hp.so hnm hcs hl
  have pl := so.pl
  have post := fun {l s r : D} {ks : List Int} h => lo_post (l := l) (s := s) (r := r) (cs := cs) (p := p) (k := k) (ks := ks) h
  have nl := encQ_nl p
  have ces := hcs.sub hes
  have okx : okQ (.only es p) := ok_only so.ok ces.sc fun x hx => by rw [so.cols]; exact hes.subset hx
  have nld := encQ_nl (du es p)
  walk_at "Ddlx"
  refine ifb_dec (fun g5 => ?_) (fun g5 => ?_)
  · walk_at "Ddlx"
    refine post (pr_mk (.only es p) (du es p) rfl okx (by have := so.dp; simp only [dpQ]; omega) (sim_only pl) fun h => ?_)
    rw [decide_eq_true g5] at h
    cases h
  · walk_at "Ddlx"
    refine stopE (e := EE1 n1 ms p cs k (some (.lst kNM) :: none :: none :: some (.str kk.s) :: none :: some (encC es) :: some (encQ (du es p)) :: List.replicate 5 none)) rfl ?_
    exact one8 hnm hcs hl h7 hp n0 n1 kk es hes (by omega)
include hnm hcs hl h7 hp in
theorem one4 (n0 n1 : List Int) (kk : K4) (hk : k = 5 ∨ k = 6 ∨ k = 7) : wc_law_one_3 (EE1 n1 ms p cs k (some (.lst kNM) :: none :: none :: some (.str kk.s) :: List.replicate 8 none)) (KK1 n0 ms p cs k) := by
  have so := hp.so hnm hcs hl
  have pl := so.pl
  have post := fun {l s r : D} {ks : List Int} h => lo_post (l := l) (s := s) (r := r) (cs := cs) (p := p) (k := k) (ks := ks) h
  have nl := encQ_nl p
  walk_at "Ddlx"
  refine ⟨⟨n1, cs, rfl, by omega⟩, ?_⟩
  intro r ds' hp2
  obtain ⟨n2, es, rfl, rfl, hes⟩ := hp2 _ _ rfl
  have ces := hcs.sub hes
  have s1 := shaped_C ces.isw
  have s2 := shaped_C hcs.isw
  have ev := eqv_CC es cs
  walk_at "Ddlx"
  by_cases e : es = cs
  · have ed : encQ p = encQ (du es p) := by
      unfold du
      rw [if_pos (e.trans so.cols.symm)]
    refine ifb_eqt (ev.mpr e) ?_
    walk_at "Ddlx"
    rw [ed]
    have nld := encQ_nl (du es p)
    refine stopE (e := EE1 n2 ms p cs k (some (.lst kNM) :: none :: none :: some (.str kk.s) :: none :: some (encC es) :: some (encQ (du es p)) :: List.replicate 5 none)) (by rw [← ed]; rfl) ?_
    exact one7 hnm hcs hl h7 hp n0 n2 kk es hes hk
  · have ed : encQ (du es p) = .tup [.str (PySem.Str.ofString "only"), encC es, encQ p] := by
      unfold du
      rw [if_neg fun z => e (z.trans so.cols)]
      rfl
    refine ifb_eqf (by cases h : PyData.eqv (toP (encC es)) (toP (encC cs)) <;> first | rfl | exact absurd (ev.mp h) e) ?_
    walk_at "Ddlx"
    refine stopE (e := EE1 n2 ms p cs k (some (.lst kNM) :: none :: none :: some (.str kk.s) :: none :: some (encC es) :: some (encQ (du es p)) :: List.replicate 5 none)) (by rw [ed]; rfl) ?_
    exact one7 hnm hcs hl h7 hp n0 n2 kk es hes hk
include hnm hcs hl h7 hp in
theorem one3 (n0 n1 : List Int) (kk : K4) (hk : k = 3 ∨ k = 5 ∨ k = 6 ∨ k = 7) : wc_law_one_2 (EE1 n1 ms p cs k (some (.lst kNM) :: none :: none :: some (.str kk.s) :: List.replicate 8 none)) (KK1 n0 ms p cs k) := by
  have so := hp.so hnm hcs hl
  have pl := so.pl
  have post := fun {l s r : D} {ks : List Int} h => lo_post (l := l) (s := s) (r := r) (cs := cs) (p := p) (k := k) (ks := ks) h
  have nl := encQ_nl p
  walk_at "Ddlx"
  refine ifb_dec (fun g3 => ?_) (fun g3 => ?_)
  · walk_at "Ddlx"
    refine ⟨⟨⟨_, rfl⟩, ⟨_, rfl⟩⟩, ?_⟩
    rintro _ _ ⟨m1, u1, rfl, rfl, u10⟩
    walk_at "Ddlx"
    refine ⟨⟨⟨_, rfl⟩, ⟨_, rfl⟩⟩, ?_⟩
    rintro _ _ ⟨m2, u2, rfl, rfl, u20⟩
    walk_at "Ddlx"
    refine ⟨⟨m2, _, _, rfl, rfl, by simp, by simp⟩, ?_⟩
    intro r ds' hp
    obtain ⟨n2, hr, rfl⟩ := hp _ _ _ rfl rfl
    obtain ⟨a, rfl, a0⟩ := bound_of u10 u20 hr
    clear hr
    walk_at "Ddlx"
    refine ⟨⟨⟨_, rfl⟩, ⟨_, rfl⟩⟩, ?_⟩
    rintro _ _ ⟨m3, u3, rfl, rfl, u30⟩
    walk_at "Ddlx"
    refine ⟨⟨⟨_, rfl⟩, ⟨_, rfl⟩⟩, ?_⟩
    rintro _ _ ⟨m4, u4, rfl, rfl, u40⟩
    walk_at "Ddlx"
    refine ⟨⟨m4, _, _, rfl, rfl, by simp, by simp⟩, ?_⟩
    intro r ds' hp
    obtain ⟨n3, hr, rfl⟩ := hp _ _ _ rfl rfl
    obtain ⟨b, rfl, b0⟩ := bound_of u30 u40 hr
    clear hr
    walk_at "Ddlx"
    refine ⟨⟨n3, _, _, rfl, rfl, by simp, by simp⟩, ?_⟩
    intro r ds' hp
    obtain ⟨n4, hr, rfl⟩ := hp _ _ _ rfl rfl
    obtain ⟨k2, rfl⟩ := look_names hr
    clear hr
    walk_at "Ddlx"
    refine ⟨⟨n4, _, _, rfl, rfl, by simp, by simp⟩, ?_⟩
    intro r ds' hp
    obtain ⟨n5, hr, rfl⟩ := hp _ _ _ rfl rfl
    obtain ⟨k3, rfl⟩ : ∃ k3 : K4, r = .str k3.s := by
      simp only [List.mem_cons, List.not_mem_nil, or_false] at hr
      rcases hr with rfl | rfl | rfl <;> exact ⟨_, rfl⟩
    clear hr
    have okx : okQ (.look kk a (.look k3 b p)) := ok_look (ok_look so.ok b0) a0
    have dpx : dpQ (.look kk a (.look k3 b p)) ≤ 6 := by have := so.dp; simp only [dpQ]; omega
    have prx : ∀ y : Qn, simQ (.look kk a (.look k3 b p)) = y → Pr cs (!(decide (k = 5) || decide (k = 6))) (.tup [.tup [.str kk.s, encO a, .tup [.str k3.s, encO b, encQ p]], encQ y]) := fun y h => pr_mk _ y rfl okx dpx h fun _ => so.cols
    have hn : ∀ (k : K4) (w : Option Int) (p : Qn), sp_law_nearby.pre [.str k.s, encO w, encQ p] ∧ ∀ r ds', sp_law_nearby.post [.str k.s, encO w, encQ p] r ds' → ds' = [.str k.s, encO w, encQ p] ∧ r = encQ (nb k w p) := fun k w p => ⟨⟨k, w, p, rfl⟩, fun r ds' h => ⟨h.1, h.2 _ _ _ rfl⟩⟩
    walk_at "Ddlx"
    refine ifb_ndec (fun gn => ?_) (fun gn => ?_)
    · have hk : ¬ kk = k3 := fun z => gn (by rw [z])
      have nl2 := encQ_nl (nb k3 b p)
      have nl3 := encQ_nl (nb kk a (nb k3 b p))
      walk_at "Ddlx"
      refine ⟨(hn k3 b p).1, fun r ds' hq => ?_⟩
      obtain ⟨rfl, rfl⟩ := (hn k3 b p).2 r ds' hq
      walk_at "Ddlx"
      refine ⟨(hn kk a _).1, fun r ds' hq => ?_⟩
      obtain ⟨rfl, rfl⟩ := (hn kk a _).2 r ds' hq
      walk_at "Ddlx"
      exact post (prx _ (sim_look2 pl hk))
    · obtain rfl : kk = k3 := K4.inj gn
      have h3 := sim_look3 (k := kk) (a := a) (b := b) pl
      cases a with
      | none =>
        walk_at "Ddlx"
        exact post (prx (.look kk none p) (h3.trans (by cases b <;> rfl)))
      | some x =>
        cases b with
        | none =>
          walk_at "Ddlx"
          exact post (prx _ h3)
        | some y =>
          have h4 := hn kk (some (x + y)) p
          have nl2 := encQ_nl (nb kk (some (x + y)) p)
          walk_at "Ddlx"
          refine ⟨h4.1, fun r ds' hq => ?_⟩
          obtain ⟨rfl, rfl⟩ := h4.2 r ds' hq
          walk_at "Ddlx"
          exact post (prx _ h3)
  · walk_at "Ddlx"
    refine stopE (e := EE1 n1 ms p cs k (some (.lst kNM) :: none :: none :: some (.str kk.s) :: List.replicate 8 none)) rfl ?_
    exact one4 hnm hcs hl h7 hp n0 n1 kk (by omega)
include hnm hcs hl h7 hp in
theorem one2 (n0 : List Int) (hk : k = 2 ∨ k = 3 ∨ k = 5 ∨ k = 6 ∨ k = 7) : wc_law_one_1 (EE1 ns ms p cs k (some (.lst kNM) :: List.replicate 11 none)) (KK1 n0 ms p cs k) := by
  have so := hp.so hnm hcs hl
  have pl := so.pl
  have post := fun {l s r : D} {ks : List Int} h => lo_post (l := l) (s := s) (r := r) (cs := cs) (p := p) (k := k) (ks := ks) h
  have nl := encQ_nl p
  walk_at "Ddlx"
  refine ⟨⟨ns, _, _, rfl, rfl, by decide, by decide⟩, ?_⟩
  intro r ds' hp2
  obtain ⟨n1, hr, rfl⟩ := hp2 _ _ _ rfl rfl
  obtain ⟨kk, rfl⟩ := look_names hr
  clear hr
  walk_at "Ddlx"
  refine ifb_dec (fun g2 => ?_) (fun g2 => ?_)
  · walk_at "Ddlx"
    refine post (pr_mk (.look kk (some 0) p) p rfl (ok_look so.ok fun v h => by cases h; exact Int.le_refl _) (by have := so.dp; simp only [dpQ]; omega) ?_ fun _ => so.cols)
    rw [sim_look pl]
    rfl
  · walk_at "Ddlx"
    refine stopE (e := EE1 n1 ms p cs k (some (.lst kNM) :: none :: none :: some (.str kk.s) :: List.replicate 8 none)) rfl ?_
    exact one3 hnm hcs hl h7 hp n0 n1 kk (by omega)
end
theorem pure_law_one : ∀ ds, ds.length = 5 → sp_law_one.pre ds → w_law_one (env0 ds 12) { nx := fun e => sp_law_one.post ds .non (outs e 5), rt := fun d e => sp_law_one.post ds d (outs e 5) } := by
  rintro ds _ ⟨ns, ms, nm, cs, p, k, rfl, hnm, hcs, hl, h7, hk0, hp⟩
  rw [wc_law_one_eq]
  have so := hp.so hnm hcs hl
  have pl := so.pl
  have post := fun {l s r : D} {ks : List Int} h => lo_post (l := l) (s := s) (r := r) (cs := cs) (p := p) (k := k) (ks := ks) h
  have nl := encQ_nl p
  walk_at "Ddlx"
  refine ifb_dec (fun gk => ?_) (fun gk => ?_)
  · walk_at "Ddlx"
    refine ⟨⟨ns, ms, rfl⟩, ?_⟩
    intro r ds' hp
    obtain ⟨n1, a, rfl, rfl⟩ := hp _ _ rfl
    walk_at "Ddlx"
    refine ⟨⟨n1, ms, rfl⟩, ?_⟩
    intro r ds' hp
    obtain ⟨n2, a2, rfl, rfl⟩ := hp _ _ rfl
    walk_at "Ddlx"
    refine ⟨⟨n2, _, _, rfl, rfl, by simp, by simp⟩, ?_⟩
    intro r ds' hp
    obtain ⟨n3, hr, rfl⟩ := hp _ _ _ rfl rfl
    obtain ⟨b, rfl⟩ : ∃ b, r = .int b := by
      simp only [List.mem_cons, List.not_mem_nil, or_false] at hr
      rcases hr with rfl | rfl | rfl <;> exact ⟨_, rfl⟩
    clear hr
    walk_at "Ddlx"
    refine ifb_dec (fun g0 => ?_) (fun g0 => ?_)
    · walk_at "Ddlx"
      refine post (pr_mk (.shift 0 p) p rfl (ok_shift so.ok) (by have := so.dp; simp only [dpQ]; omega) ?_ fun _ => so.cols)
      rw [sim_shift pl]
      rfl
    · walk_at "Ddlx"
      have hs2 : sp_law_shifted.pre [.int (a + b), encQ p] ∧ ∀ r ds', sp_law_shifted.post [.int (a + b), encQ p] r ds' → ds' = [.int (a + b), encQ p] ∧ r = encQ (shf (a + b) p) := ⟨⟨_, _, rfl⟩, fun r ds' h => ⟨h.1, h.2 _ _ rfl⟩⟩
      have nl2 := encQ_nl (shf (a + b) p)
      have fin1 : 0 ≤ a ∨ b ≤ 0 → Pr cs (!(decide (k = 5) || decide (k = 6))) (.tup [.tup [.str (PySem.Str.ofString "shift"), .int a, .tup [.str (PySem.Str.ofString "shift"), .int b, encQ p]], encQ (shf (a + b) p)]) := fun h =>
        pr_mk (.shift a (.shift b p)) (shf (a + b) p) rfl (ok_shift (ok_shift so.ok)) (by have := so.dp; simp only [dpQ]; omega) (sim_shift2 pl h) fun _ => so.cols
      have fin2 : ¬ (0 ≤ a ∨ b ≤ 0) → Pr cs (!(decide (k = 5) || decide (k = 6))) (.tup [.tup [.str (PySem.Str.ofString "shift"), .int a, .tup [.str (PySem.Str.ofString "shift"), .int b, encQ p]], .tup [.str (PySem.Str.ofString "shift"), .int a, .tup [.str (PySem.Str.ofString "shift"), .int b, encQ p]]]) := fun h =>
        pr_mk (.shift a (.shift b p)) (.shift a (.shift b p)) rfl (ok_shift (ok_shift so.ok)) (by have := so.dp; simp only [dpQ]; omega) (sim_shift3 pl h) fun _ => so.cols
      refine ifb_dec (fun g1 => ?_) (fun g1 => ?_)
      · walk_at "Ddlx"
        refine ⟨hs2.1, fun r ds' hq => ?_⟩
        obtain ⟨rfl, rfl⟩ := hs2.2 r ds' hq
        walk_at "Ddlx"
        exact post (fin1 (.inl g1))
      · walk_at "Ddlx"
        refine ifb_dec (fun g2 => ?_) (fun g2 => ?_)
        · walk_at "Ddlx"
          refine ⟨hs2.1, fun r ds' hq => ?_⟩
          obtain ⟨rfl, rfl⟩ := hs2.2 r ds' hq
          walk_at "Ddlx"
          exact post (fin1 (.inr g2))
        · walk_at "Ddlx"
          exact post (fin2 (by omega))
  · walk_at "Ddlx"
    refine stopE (e := EE1 ns ms p cs k (some (.lst kNM) :: List.replicate 11 none)) rfl ?_
    exact one2 hnm hcs hl h7 hp ns (by omega)
end DL

set_option maxHeartbeats 1000000
namespace DL
open PySem PySem.Spec PyProof.Rows L2
abbrev kN2 : List D := [.str (PySem.Str.ofString "both"), .str (PySem.Str.ofString "either"), .str (PySem.Str.ofString "unless"), .str (PySem.Str.ofString "since"), .str (PySem.Str.ofString "until"), .str (PySem.Str.ofString "sincenot"), .str (PySem.Str.ofString "untilnot")]
def sp_law_two : FSpec where
  pre := fun ds => ∃ (ns ms : List Int) (n1 n2 n3 : Str) (cs : List Str) (p q r : Qn) (k : Int), ds = [.lst (ns.map D.int), .rol (ms.map D.int), .lst [encQ p, encQ q, encQ r], .int k] ∧ (isW n1 = true ∧ isW n2 = true ∧ isW n3 = true ∧ CsOk cs ∧ cs.length ≤ 2) ∧ (n1 ≠ n2 ∧ n1 ≠ n3 ∧ n2 ≠ n3) ∧ (k = 4 ∨ k = 8 ∨ k = 9 ∨ k = 10 ∨ k = 11) ∧ Still n1 cs p ∧ Still n2 cs q ∧ Still n3 cs r
  post := fun ds r ds' => ∀ (l s : D) (p q r' : Qn) (k : Int), ds = [l, s, .lst [encQ p, encQ q, encQ r'], .int k] → ∃ (ns : List Int), Pr (colsQ p) true r ∧ ds' = [.lst (ns.map D.int), s, .lst [encQ p, encQ q, encQ r'], .int k]
theorem lt_post {l s d : D} {p q r : Qn} {k : Int} {ks : List Int} (h : Pr (colsQ p) true d) : ∀ (l' s' : D) (p' q' r' : Qn) (k' : Int), [l, s, .lst [encQ p, encQ q, encQ r], .int k] = [l', s', .lst [encQ p', encQ q', encQ r'], .int k'] → ∃ (ns : List Int), Pr (colsQ p') true d ∧ [.lst (ks.map D.int), s, .lst [encQ p, encQ q, encQ r], .int k] = [.lst (ns.map D.int), s', .lst [encQ p', encQ q', encQ r'], .int k'] := by
  intro l' s' p' q' r' k' e
  simp only [List.cons.injEq, and_true, D.int.injEq, D.lst.injEq] at e
  obtain ⟨_, rfl, ⟨e1, e2, e3⟩, rfl⟩ := e
  cases encQ_inj e1
  cases encQ_inj e2
  cases encQ_inj e3
  exact ⟨ks, h, rfl⟩
/-- slots: 0 draws, 1 script, 2 parts, 3 rule, 4 p, 5 q, 6 kinds, 7 kind, 8 a, 9 b, 10 question, 11 name, 12 other, 13 lead, 14 fits -/
def w_law_two : WS :=
    (cSeq (cAsg 4 [0, 1, 2, 3] 4 (cOp fIx (cVar 2) (cC (.int 0))))
    (cSeq (cAsg 4 [0, 1, 2, 3] 5 (cOp fIx (cVar 2) (cC (.int 1))))
    (cSeq (cAsg 4 [0, 1, 2, 3] 6 (cLst (cCons (cC (.str (PySem.Str.ofString "both"))) (cCons (cC (.str (PySem.Str.ofString "either"))) (cCons (cC (.str (PySem.Str.ofString "unless"))) (cCons (cC (.str (PySem.Str.ofString "since"))) (cCons (cC (.str (PySem.Str.ofString "until"))) (cCons (cC (.str (PySem.Str.ofString "sincenot"))) (cCons (cC (.str (PySem.Str.ofString "untilnot"))) cNil)))))))))
    (cSeq (cIte (cOp fEqS (cVar 3) (cC (.int 4)))
      (cSeq (cAsg 4 [0, 1, 2, 3] 7 (cCallN 2 sp_law_pick (cCons (cVar 0) (cCons (cVar 6) cNil))))
        (cSeq (cIte (cOp (fIn false) (cVar 7) (cLst (cCons (cC (.str (PySem.Str.ofString "both"))) (cCons (cC (.str (PySem.Str.ofString "either"))) (cCons (cC (.str (PySem.Str.ofString "since"))) (cCons (cC (.str (PySem.Str.ofString "until"))) cNil))))))
          (cRet 4 (cTup (cCons (cTup (cCons (cVar 7) (cCons (cVar 4) (cCons (cVar 4) cNil)))) (cCons (cVar 4) cNil))))
          cNilS)
        (cRet 4 (cTup (cCons (cTup (cCons (cVar 7) (cCons (cVar 4) (cCons (cVar 4) cNil)))) (cCons (cTup (cCons (cVar 7) (cCons (cVar 4) (cCons (cVar 4) cNil)))) cNil))))))
      cNilS)
    (cSeq (cIte (cOp fEqS (cVar 3) (cC (.int 8)))
      (cSeq (cAsg 4 [0, 1, 2, 3] 7 (cCallN 2 sp_law_pick (cCons (cVar 0) (cCons (cSlH (cVar 6) (cC (.int 4))) cNil))))
        (cSeq (cAsg 4 [0, 1, 2, 3] 8 (cCallN 2 sp_law_number (cCons (cVar 0) (cCons (cVar 1) cNil))))
        (cSeq (cAsg 4 [0, 1, 2, 3] 9 (cCallN 2 sp_law_pick (cCons (cVar 0) (cCons (cLst (cCons (cVar 8) (cCons (cVar 8) (cCons (cOp fAddG (cVar 8) (cC (.int 1))) (cCons (cUn fNeg (cVar 8)) cNil))))) cNil))))
        (cSeq (cAsg 4 [0, 1, 2, 3] 10 (cTup (cCons (cVar 7) (cCons (cTup (cCons (cC (.str (PySem.Str.ofString "shift"))) (cCons (cVar 8) (cCons (cVar 4) cNil)))) (cCons (cTup (cCons (cC (.str (PySem.Str.ofString "shift"))) (cCons (cVar 9) (cCons (cVar 5) cNil)))) cNil)))))
        (cSeq (cIte (cAnd (cOp fEqS (cVar 8) (cVar 9)) (cOp fNeS (cVar 7) (cC (.str (PySem.Str.ofString "since")))))
          (cRet 4 (cTup (cCons (cVar 10) (cCons (cCallN 2 sp_law_shifted (cCons (cVar 8) (cCons (cTup (cCons (cVar 7) (cCons (cVar 4) (cCons (cVar 5) cNil)))) cNil))) cNil))))
          cNilS)
        (cRet 4 (cTup (cCons (cVar 10) (cCons (cTup (cCons (cVar 7) (cCons (cCallN 2 sp_law_shifted (cCons (cVar 8) (cCons (cVar 4) cNil))) (cCons (cCallN 2 sp_law_shifted (cCons (cVar 9) (cCons (cVar 5) cNil))) cNil)))) cNil)))))))))
      cNilS)
    (cSeq (cAsg 4 [0, 1, 2, 3] 7 (cCallN 2 sp_law_pick (cCons (cVar 0) (cCons (cLst (cCons (cC (.str (PySem.Str.ofString "both"))) (cCons (cC (.str (PySem.Str.ofString "either"))) (cCons (cC (.str (PySem.Str.ofString "either"))) (cCons (cC (.str (PySem.Str.ofString "unless"))) cNil))))) cNil))))
    (cSeq (cIte (cOp fEqS (cVar 3) (cC (.int 11)))
      (cSeq (cAsg 4 [0, 1, 2, 3] 11 (cCallN 2 sp_law_pick (cCons (cVar 0) (cCons (cSlL (cVar 6) (cC (.int 3))) cNil))))
        (cSeq (cAsg 4 [0, 1, 2, 3] 12 (cCallN 2 sp_law_pick (cCons (cVar 0) (cCons (cLst (cCons (cVar 11) (cCons (cVar 11) (cCons (cCallN 2 sp_law_pick (cCons (cVar 0) (cCons (cSlL (cVar 6) (cC (.int 3))) cNil))) cNil)))) cNil))))
        (cSeq (cAsg 4 [0, 1, 2, 3] 13 (cCallN 2 sp_law_pick (cCons (cVar 0) (cCons (cLst (cCons (cOp fIx (cVar 2) (cC (.int 2))) (cCons (cOp fIx (cVar 2) (cC (.int 2))) (cCons (cVar 4) cNil)))) cNil))))
        (cSeq (cAsg 4 [0, 1, 2, 3] 10 (cTup (cCons (cVar 7) (cCons (cTup (cCons (cVar 11) (cCons (cOp fIx (cVar 2) (cC (.int 2))) (cCons (cVar 4) cNil)))) (cCons (cTup (cCons (cVar 12) (cCons (cVar 13) (cCons (cVar 5) cNil)))) cNil)))))
        (cSeq (cIte (cAnd (cOp fEqS (cVar 7) (cC (.str (PySem.Str.ofString "either")))) (cAnd (cOp fEqS (cVar 11) (cVar 12)) (cOp fNeD (cVar 13) (cVar 4))))
          (cRet 4 (cTup (cCons (cVar 10) (cCons (cTup (cCons (cVar 11) (cCons (cOp fIx (cVar 2) (cC (.int 2))) (cCons (cTup (cCons (cC (.str (PySem.Str.ofString "either"))) (cCons (cVar 4) (cCons (cVar 5) cNil)))) cNil)))) cNil))))
          cNilS)
        (cRet 4 (cTup (cCons (cVar 10) (cCons (cVar 10) cNil)))))))))
      cNilS)
    (cSeq (cAsg 4 [0, 1, 2, 3] 11 (cCallN 2 sp_law_pick (cCons (cVar 0) (cCons (cLst (cCons (cC (.str (PySem.Str.ofString "once"))) (cCons (cC (.str (PySem.Str.ofString "lately"))) (cCons (cC (.str (PySem.Str.ofString "soon"))) (cCons (cC (.str (PySem.Str.ofString "henceforth"))) cNil))))) cNil))))
    (cSeq (cAsg 4 [0, 1, 2, 3] 12 (cCallN 2 sp_law_pick (cCons (cVar 0) (cCons (cLst (cCons (cVar 11) (cCons (cVar 11) (cCons (cCallN 2 sp_law_pick (cCons (cVar 0) (cCons (cLst (cCons (cC (.str (PySem.Str.ofString "once"))) (cCons (cC (.str (PySem.Str.ofString "lately"))) (cCons (cC (.str (PySem.Str.ofString "soon"))) (cCons (cC (.str (PySem.Str.ofString "henceforth"))) cNil))))) cNil))) cNil)))) cNil))))
    (cSeq (cAsg 4 [0, 1, 2, 3] 8 (cCallN 2 sp_law_pick (cCons (cVar 0) (cCons (cLst (cCons (cC .non) (cCons (cC (.int 0)) (cCons (cCallN 2 sp_law_size (cCons (cVar 0) (cCons (cVar 1) cNil))) cNil)))) cNil))))
    (cSeq (cAsg 4 [0, 1, 2, 3] 9 (cCallN 2 sp_law_pick (cCons (cVar 0) (cCons (cLst (cCons (cVar 8) (cCons (cVar 8) (cCons (cC (.int 1)) cNil)))) cNil))))
    (cSeq (cAsg 4 [0, 1, 2, 3] 10 (cTup (cCons (cVar 7) (cCons (cTup (cCons (cVar 11) (cCons (cVar 8) (cCons (cVar 4) cNil)))) (cCons (cTup (cCons (cVar 12) (cCons (cVar 9) (cCons (cVar 5) cNil)))) cNil)))))
    (cSeq (cAsg 4 [0, 1, 2, 3] 14 (cOr (cAnd (cOp fEqS (cVar 7) (cC (.str (PySem.Str.ofString "either")))) (cOp (fIn false) (cVar 11) (cLst (cCons (cC (.str (PySem.Str.ofString "once"))) (cCons (cC (.str (PySem.Str.ofString "soon"))) cNil))))) (cAnd (cOp fEqS (cVar 7) (cC (.str (PySem.Str.ofString "both")))) (cOp (fIn false) (cVar 11) (cLst (cCons (cC (.str (PySem.Str.ofString "lately"))) (cCons (cC (.str (PySem.Str.ofString "henceforth"))) cNil)))))))
    (cSeq (cIte (cAnd (cVar 14) (cAnd (cOp fEqS (cVar 11) (cVar 12)) (cOp fEqS (cVar 8) (cVar 9))))
      (cRet 4 (cTup (cCons (cVar 10) (cCons (cCallN 3 sp_law_nearby (cCons (cVar 11) (cCons (cVar 8) (cCons (cTup (cCons (cVar 7) (cCons (cVar 4) (cCons (cVar 5) cNil)))) cNil)))) cNil))))
      cNilS)
    (cRet 4 (cTup (cCons (cVar 10) (cCons (cTup (cCons (cVar 7) (cCons (cCallN 3 sp_law_nearby (cCons (cVar 11) (cCons (cVar 8) (cCons (cVar 4) cNil)))) (cCons (cCallN 3 sp_law_nearby (cCons (cVar 12) (cCons (cVar 9) (cCons (cVar 5) cNil)))) cNil)))) cNil))))))))))))))))))
def wc_law_two_5 : WS :=
    (cSeq (cAsg 4 [0, 1, 2, 3] 11 (cCallN 2 sp_law_pick (cCons (cVar 0) (cCons (cLst (cCons (cC (.str (PySem.Str.ofString "once"))) (cCons (cC (.str (PySem.Str.ofString "lately"))) (cCons (cC (.str (PySem.Str.ofString "soon"))) (cCons (cC (.str (PySem.Str.ofString "henceforth"))) cNil))))) cNil))))
    (cSeq (cAsg 4 [0, 1, 2, 3] 12 (cCallN 2 sp_law_pick (cCons (cVar 0) (cCons (cLst (cCons (cVar 11) (cCons (cVar 11) (cCons (cCallN 2 sp_law_pick (cCons (cVar 0) (cCons (cLst (cCons (cC (.str (PySem.Str.ofString "once"))) (cCons (cC (.str (PySem.Str.ofString "lately"))) (cCons (cC (.str (PySem.Str.ofString "soon"))) (cCons (cC (.str (PySem.Str.ofString "henceforth"))) cNil))))) cNil))) cNil)))) cNil))))
    (cSeq (cAsg 4 [0, 1, 2, 3] 8 (cCallN 2 sp_law_pick (cCons (cVar 0) (cCons (cLst (cCons (cC .non) (cCons (cC (.int 0)) (cCons (cCallN 2 sp_law_size (cCons (cVar 0) (cCons (cVar 1) cNil))) cNil)))) cNil))))
    (cSeq (cAsg 4 [0, 1, 2, 3] 9 (cCallN 2 sp_law_pick (cCons (cVar 0) (cCons (cLst (cCons (cVar 8) (cCons (cVar 8) (cCons (cC (.int 1)) cNil)))) cNil))))
    (cSeq (cAsg 4 [0, 1, 2, 3] 10 (cTup (cCons (cVar 7) (cCons (cTup (cCons (cVar 11) (cCons (cVar 8) (cCons (cVar 4) cNil)))) (cCons (cTup (cCons (cVar 12) (cCons (cVar 9) (cCons (cVar 5) cNil)))) cNil)))))
    (cSeq (cAsg 4 [0, 1, 2, 3] 14 (cOr (cAnd (cOp fEqS (cVar 7) (cC (.str (PySem.Str.ofString "either")))) (cOp (fIn false) (cVar 11) (cLst (cCons (cC (.str (PySem.Str.ofString "once"))) (cCons (cC (.str (PySem.Str.ofString "soon"))) cNil))))) (cAnd (cOp fEqS (cVar 7) (cC (.str (PySem.Str.ofString "both")))) (cOp (fIn false) (cVar 11) (cLst (cCons (cC (.str (PySem.Str.ofString "lately"))) (cCons (cC (.str (PySem.Str.ofString "henceforth"))) cNil)))))))
    (cSeq (cIte (cAnd (cVar 14) (cAnd (cOp fEqS (cVar 11) (cVar 12)) (cOp fEqS (cVar 8) (cVar 9))))
      (cRet 4 (cTup (cCons (cVar 10) (cCons (cCallN 3 sp_law_nearby (cCons (cVar 11) (cCons (cVar 8) (cCons (cTup (cCons (cVar 7) (cCons (cVar 4) (cCons (cVar 5) cNil)))) cNil)))) cNil))))
      cNilS)
    (cRet 4 (cTup (cCons (cVar 10) (cCons (cTup (cCons (cVar 7) (cCons (cCallN 3 sp_law_nearby (cCons (cVar 11) (cCons (cVar 8) (cCons (cVar 4) cNil)))) (cCons (cCallN 3 sp_law_nearby (cCons (cVar 12) (cCons (cVar 9) (cCons (cVar 5) cNil)))) cNil)))) cNil)))))))))))
def wc_law_two_4 : WS :=
    (cCut (cIte (cOp fEqS (cVar 3) (cC (.int 11)))
      (cSeq (cAsg 4 [0, 1, 2, 3] 11 (cCallN 2 sp_law_pick (cCons (cVar 0) (cCons (cSlL (cVar 6) (cC (.int 3))) cNil))))
        (cSeq (cAsg 4 [0, 1, 2, 3] 12 (cCallN 2 sp_law_pick (cCons (cVar 0) (cCons (cLst (cCons (cVar 11) (cCons (cVar 11) (cCons (cCallN 2 sp_law_pick (cCons (cVar 0) (cCons (cSlL (cVar 6) (cC (.int 3))) cNil))) cNil)))) cNil))))
        (cSeq (cAsg 4 [0, 1, 2, 3] 13 (cCallN 2 sp_law_pick (cCons (cVar 0) (cCons (cLst (cCons (cOp fIx (cVar 2) (cC (.int 2))) (cCons (cOp fIx (cVar 2) (cC (.int 2))) (cCons (cVar 4) cNil)))) cNil))))
        (cSeq (cAsg 4 [0, 1, 2, 3] 10 (cTup (cCons (cVar 7) (cCons (cTup (cCons (cVar 11) (cCons (cOp fIx (cVar 2) (cC (.int 2))) (cCons (cVar 4) cNil)))) (cCons (cTup (cCons (cVar 12) (cCons (cVar 13) (cCons (cVar 5) cNil)))) cNil)))))
        (cSeq (cIte (cAnd (cOp fEqS (cVar 7) (cC (.str (PySem.Str.ofString "either")))) (cAnd (cOp fEqS (cVar 11) (cVar 12)) (cOp fNeD (cVar 13) (cVar 4))))
          (cRet 4 (cTup (cCons (cVar 10) (cCons (cTup (cCons (cVar 11) (cCons (cOp fIx (cVar 2) (cC (.int 2))) (cCons (cTup (cCons (cC (.str (PySem.Str.ofString "either"))) (cCons (cVar 4) (cCons (cVar 5) cNil)))) cNil)))) cNil))))
          cNilS)
        (cRet 4 (cTup (cCons (cVar 10) (cCons (cVar 10) cNil)))))))))
      cNilS) (wc_law_two_5))
def wc_law_two_3 : WS :=
    (cCut (cAsg 4 [0, 1, 2, 3] 7 (cCallN 2 sp_law_pick (cCons (cVar 0) (cCons (cLst (cCons (cC (.str (PySem.Str.ofString "both"))) (cCons (cC (.str (PySem.Str.ofString "either"))) (cCons (cC (.str (PySem.Str.ofString "either"))) (cCons (cC (.str (PySem.Str.ofString "unless"))) cNil))))) cNil)))) (wc_law_two_4))
def wc_law_two_2 : WS :=
    (cCut (cIte (cOp fEqS (cVar 3) (cC (.int 8)))
      (cSeq (cAsg 4 [0, 1, 2, 3] 7 (cCallN 2 sp_law_pick (cCons (cVar 0) (cCons (cSlH (cVar 6) (cC (.int 4))) cNil))))
        (cSeq (cAsg 4 [0, 1, 2, 3] 8 (cCallN 2 sp_law_number (cCons (cVar 0) (cCons (cVar 1) cNil))))
        (cSeq (cAsg 4 [0, 1, 2, 3] 9 (cCallN 2 sp_law_pick (cCons (cVar 0) (cCons (cLst (cCons (cVar 8) (cCons (cVar 8) (cCons (cOp fAddG (cVar 8) (cC (.int 1))) (cCons (cUn fNeg (cVar 8)) cNil))))) cNil))))
        (cSeq (cAsg 4 [0, 1, 2, 3] 10 (cTup (cCons (cVar 7) (cCons (cTup (cCons (cC (.str (PySem.Str.ofString "shift"))) (cCons (cVar 8) (cCons (cVar 4) cNil)))) (cCons (cTup (cCons (cC (.str (PySem.Str.ofString "shift"))) (cCons (cVar 9) (cCons (cVar 5) cNil)))) cNil)))))
        (cSeq (cIte (cAnd (cOp fEqS (cVar 8) (cVar 9)) (cOp fNeS (cVar 7) (cC (.str (PySem.Str.ofString "since")))))
          (cRet 4 (cTup (cCons (cVar 10) (cCons (cCallN 2 sp_law_shifted (cCons (cVar 8) (cCons (cTup (cCons (cVar 7) (cCons (cVar 4) (cCons (cVar 5) cNil)))) cNil))) cNil))))
          cNilS)
        (cRet 4 (cTup (cCons (cVar 10) (cCons (cTup (cCons (cVar 7) (cCons (cCallN 2 sp_law_shifted (cCons (cVar 8) (cCons (cVar 4) cNil))) (cCons (cCallN 2 sp_law_shifted (cCons (cVar 9) (cCons (cVar 5) cNil))) cNil)))) cNil)))))))))
      cNilS) (wc_law_two_3))
def wc_law_two_1 : WS :=
    (cCut (cIte (cOp fEqS (cVar 3) (cC (.int 4)))
      (cSeq (cAsg 4 [0, 1, 2, 3] 7 (cCallN 2 sp_law_pick (cCons (cVar 0) (cCons (cVar 6) cNil))))
        (cSeq (cIte (cOp (fIn false) (cVar 7) (cLst (cCons (cC (.str (PySem.Str.ofString "both"))) (cCons (cC (.str (PySem.Str.ofString "either"))) (cCons (cC (.str (PySem.Str.ofString "since"))) (cCons (cC (.str (PySem.Str.ofString "until"))) cNil))))))
          (cRet 4 (cTup (cCons (cTup (cCons (cVar 7) (cCons (cVar 4) (cCons (cVar 4) cNil)))) (cCons (cVar 4) cNil))))
          cNilS)
        (cRet 4 (cTup (cCons (cTup (cCons (cVar 7) (cCons (cVar 4) (cCons (cVar 4) cNil)))) (cCons (cTup (cCons (cVar 7) (cCons (cVar 4) (cCons (cVar 4) cNil)))) cNil))))))
      cNilS) (wc_law_two_2))
def wc_law_two_0 : WS :=
    (cSeq (cAsg 4 [0, 1, 2, 3] 4 (cOp fIx (cVar 2) (cC (.int 0))))
    (cSeq (cAsg 4 [0, 1, 2, 3] 5 (cOp fIx (cVar 2) (cC (.int 1))))
    (cCut (cAsg 4 [0, 1, 2, 3] 6 (cLst (cCons (cC (.str (PySem.Str.ofString "both"))) (cCons (cC (.str (PySem.Str.ofString "either"))) (cCons (cC (.str (PySem.Str.ofString "unless"))) (cCons (cC (.str (PySem.Str.ofString "since"))) (cCons (cC (.str (PySem.Str.ofString "until"))) (cCons (cC (.str (PySem.Str.ofString "sincenot"))) (cCons (cC (.str (PySem.Str.ofString "untilnot"))) cNil))))))))) (wc_law_two_1))))
theorem wc_law_two_eq : w_law_two = wc_law_two_0 := by
  unfold wc_law_two_0 wc_law_two_1 wc_law_two_2 wc_law_two_3 wc_law_two_4 wc_law_two_5
  simp only [cCut_eq]
  rfl
abbrev kt_law_two (ds : List D) : Kt := { nx := fun e => sp_law_two.post ds .non (outs e 4), rt := fun d e => sp_law_two.post ds d (outs e 4) }
abbrev EE2 (ns ms : List Int) (p q r : Qn) (k : Int) (t : List (Option D)) : DEnv := some (.lst (ns.map D.int)) :: some (.rol (ms.map D.int)) :: some (.lst [encQ p, encQ q, encQ r]) :: some (.int k) :: some (encQ p) :: some (encQ q) :: some (.lst kN2) :: t
abbrev KK2 (ns ms : List Int) (p q r : Qn) (k : Int) : Kt := kt_law_two [.lst (ns.map D.int), .rol (ms.map D.int), .lst [encQ p, encQ q, encQ r], .int k]
local macro_rules | `(tactic| walk_at "Ddlx") => `(tactic| ((conv => whnf); (repeat ((first | ((with_reducible refine And.intro (stOk_nl ?_ ?_) ?_); (focus (with_reducible first | assumption | exact encQ_nl _ | exact encO_nl _ | exact encC_nl _)); (focus exact rfl)) | ((refine pick_nl ?_ ?_); (focus (with_reducible first | assumption | exact encQ_nl _ | exact encO_nl _ | exact encC_nl _))) | ((with_reducible refine And.intro ?_ ?_); (focus (with_reducible first | assumption | exact encQ_nl _ | exact encO_nl _ | exact encC_nl _))) | ((with_reducible refine And.intro (immA_c ?_ ?_) ?_); (focus (first | (with_reducible first | assumption | exact encQ_nl _ | exact encO_nl _ | exact encC_nl _) | exact rfl)); (focus ((repeat ((with_reducible refine immA_c ?_ ?_); (focus (first | (with_reducible first | assumption | exact encQ_nl _ | exact encO_nl _ | exact encC_nl _) | exact rfl)))); exact rfl))) | refine And.intro rfl ?_ | refine And.intro trivial ?_ | refine And.intro ⟨rfl, trivial⟩ ?_ | refine And.intro ⟨rfl, rfl, trivial⟩ ?_ | refine ifb_nq (by first | assumption | decide) ?_ | refine ifb_pq (by assumption) ?_ | refine ifb_er ?_ | refine ifb_t ?_ | refine ifb_f ?_ | refine ifb_nr ?_ | refine ifb_er ?_ | ((with_reducible refine And.intro (?_ : (_ : Nat) ≤ _) ?_); (focus (first | decide | omega | (unfold CMul; omega) | (unfold CDiv; omega) | (unfold CPow; decide) | (exact cpow1 (by omega) (by omega)) | (simp only [rngD_len, List.length_replicate, List.length_map, List.length_append, List.length_cons, List.length_nil, List.length_set] at *; omega)))) | ((with_reducible refine And.intro (?_ : (_ : Int) ≤ _) ?_); (focus (first | decide | omega | (unfold CMul; omega) | (unfold CDiv; omega) | (unfold CPow; decide) | (exact cpow1 (by omega) (by omega)) | (simp only [rngD_len, List.length_replicate, List.length_map, List.length_append, List.length_cons, List.length_nil, List.length_set] at *; omega)))) | ((with_reducible refine And.intro (?_ : (_ : Nat) < _) ?_); (focus (first | decide | omega | (unfold CMul; omega) | (unfold CDiv; omega) | (unfold CPow; decide) | (exact cpow1 (by omega) (by omega)) | (simp only [rngD_len, List.length_replicate, List.length_map, List.length_append, List.length_cons, List.length_nil, List.length_set] at *; omega)))) | ((with_reducible refine And.intro (?_ : (_ : Int) < _) ?_); (focus (first | decide | omega | (unfold CMul; omega) | (unfold CDiv; omega) | (unfold CPow; decide) | (exact cpow1 (by omega) (by omega)) | (simp only [rngD_len, List.length_replicate, List.length_map, List.length_append, List.length_cons, List.length_nil, List.length_set] at *; omega)))) | ((with_reducible refine And.intro (?_ : CMul _ _) ?_); (focus (first | decide | omega | (unfold CMul; omega) | (unfold CDiv; omega) | (unfold CPow; decide) | (exact cpow1 (by omega) (by omega)) | (simp only [rngD_len, List.length_replicate, List.length_map, List.length_append, List.length_cons, List.length_nil, List.length_set] at *; omega)))) | ((with_reducible refine And.intro (?_ : CDiv _ _) ?_); (focus (first | decide | omega | (unfold CMul; omega) | (unfold CDiv; omega) | (unfold CPow; decide) | (exact cpow1 (by omega) (by omega)) | (simp only [rngD_len, List.length_replicate, List.length_map, List.length_append, List.length_cons, List.length_nil, List.length_set] at *; omega)))) | ((with_reducible refine And.intro (?_ : CPow _ _) ?_); (focus (first | decide | omega | (unfold CMul; omega) | (unfold CDiv; omega) | (unfold CPow; decide) | (exact cpow1 (by omega) (by omega)) | (simp only [rngD_len, List.length_replicate, List.length_map, List.length_append, List.length_cons, List.length_nil, List.length_set] at *; omega)))) | ((with_reducible refine And.intro (?_ : (_ : Nat) = _) ?_); (focus (first | decide | omega | (unfold CMul; omega) | (unfold CDiv; omega) | (unfold CPow; decide) | (exact cpow1 (by omega) (by omega)) | (simp only [rngD_len, List.length_replicate, List.length_map, List.length_append, List.length_cons, List.length_nil, List.length_set] at *; omega))))); conv => whnf)); (try dsimp only [List.set_cons_zero, List.set_cons_succ, upA])))
section
variable {ns ms : List Int} {n1 n2 n3 : Str} {cs : List Str} {p q r : Qn} {k : Int} (w1 : isW n1 = true) (w2 : isW n2 = true) (w3 : isW n3 = true) (hcs : CsOk cs) (hl : cs.length ≤ 2) (h12 : n1 ≠ n2) (h13 : n1 ≠ n3) (h23 : n2 ≠ n3) (hp : Still n1 cs p) (hq : Still n2 cs q) (hr : Still n3 cs r)
theorem cut_kN2a : cutD kN2 none (some 4) = [.str (PySem.Str.ofString "both"), .str (PySem.Str.ofString "either"), .str (PySem.Str.ofString "unless"), .str (PySem.Str.ofString "since")] := rfl
theorem cut_kN2b : cutD kN2 (some 3) none = [.str (PySem.Str.ofString "since"), .str (PySem.Str.ofString "until"), .str (PySem.Str.ofString "sincenot"), .str (PySem.Str.ofString "untilnot")] := rfl
theorem sh_call (n : Int) (p : Qn) : sp_law_shifted.pre [.int n, encQ p] ∧ ∀ r ds', sp_law_shifted.post [.int n, encQ p] r ds' → ds' = [.int n, encQ p] ∧ r = encQ (shf n p) := ⟨⟨n, p, rfl⟩, fun r ds' h => ⟨h.1, h.2 _ _ rfl⟩⟩
theorem nb_call (k : K4) (w : Option Int) (p : Qn) : sp_law_nearby.pre [.str k.s, encO w, encQ p] ∧ ∀ r ds', sp_law_nearby.post [.str k.s, encO w, encQ p] r ds' → ds' = [.str k.s, encO w, encQ p] ∧ r = encQ (nb k w p) := ⟨⟨k, w, p, rfl⟩, fun r ds' h => ⟨h.1, h.2 _ _ _ rfl⟩⟩
include w1 w2 w3 hcs hl h12 h13 h23 hp hq hr in
theorem two9 (n0 : List Int) (k2 : K2) (hk2 : k2 = .both ∨ k2 = .either ∨ k2 = .unless) : wc_law_two_5 (EE2 ns ms p q r k (some (.str k2.s) :: List.replicate 7 none)) (KK2 n0 ms p q r k) := by
  have sp := hp.so w1 hcs hl
  have sq := hq.so w2 hcs hl
  have sr := hr.so w3 hcs hl
  have ecq := sp.cols.trans sq.cols.symm
  have ecr := sr.cols.trans sp.cols.symm
  have ecr2 := sr.cols.trans sq.cols.symm
  have post := fun {l s d : D} {ks : List Int} h => lt_post (l := l) (s := s) (d := d) (p := p) (q := q) (r := r) (k := k) (ks := ks) h
  have nl := encQ_nl p
  have nlq := encQ_nl q
  have nlr := encQ_nl r
  have dp := sp.dp
  have dq := sq.dp
  have dr := sr.dp
  walk_at "Ddlx"
  refine ⟨⟨ns, _, _, rfl, rfl, by simp, by simp⟩, ?_⟩
  intro r0 ds' hp2
  obtain ⟨m1, hr0, rfl⟩ := hp2 _ _ _ rfl rfl
  obtain ⟨k3, rfl⟩ := look_names hr0
  clear hr0
  walk_at "Ddlx"
  refine ⟨⟨m1, _, _, rfl, rfl, by simp, by simp⟩, ?_⟩
  intro r0 ds' hp2
  obtain ⟨m2, hr0, rfl⟩ := hp2 _ _ _ rfl rfl
  obtain ⟨k4, rfl⟩ := look_names hr0
  clear hr0
  walk_at "Ddlx"
  refine ⟨⟨m2, _, _, rfl, rfl, by simp, by simp⟩, ?_⟩
  intro r0 ds' hp2
  obtain ⟨m3, hr0, rfl⟩ := hp2 _ _ _ rfl rfl
  obtain ⟨k5, rfl⟩ : ∃ k5 : K4, r0 = .str k5.s := by
    simp only [List.mem_cons, List.not_mem_nil, or_false] at hr0
    rcases hr0 with rfl | rfl | rfl <;> exact ⟨_, rfl⟩
  clear hr0
  walk_at "Ddlx"
  refine ⟨⟨⟨_, rfl⟩, ⟨_, rfl⟩⟩, ?_⟩
  rintro _ _ ⟨m4, u, rfl, rfl, u0⟩
  walk_at "Ddlx"
  refine ⟨⟨m4, _, _, rfl, rfl, by simp, by simp⟩, ?_⟩
  intro r0 ds' hp2
  obtain ⟨m5, hr0, rfl⟩ := hp2 _ _ _ rfl rfl
  obtain ⟨a, rfl, a0⟩ : ∃ a : Option Int, r0 = encO a ∧ ∀ x, a = some x → 0 ≤ x := by
    simp only [List.mem_cons, List.not_mem_nil, or_false] at hr0
    rcases hr0 with rfl | rfl | rfl
    · exact ⟨none, rfl, nofun⟩
    · exact ⟨some 0, rfl, fun x e => by cases e; omega⟩
    · exact ⟨some _, rfl, fun x e => by cases e; omega⟩
  clear hr0
  walk_at "Ddlx"
  refine ⟨⟨m5, _, _, rfl, rfl, by simp, by simp⟩, ?_⟩
  intro r0 ds' hp2
  obtain ⟨m6, hr0, rfl⟩ := hp2 _ _ _ rfl rfl
  obtain ⟨b, rfl, b0⟩ : ∃ b : Option Int, r0 = encO b ∧ ∀ x, b = some x → 0 ≤ x := by
    simp only [List.mem_cons, List.not_mem_nil, or_false] at hr0
    rcases hr0 with rfl | rfl | rfl
    · exact ⟨a, rfl, a0⟩
    · exact ⟨a, rfl, a0⟩
    · exact ⟨some 1, rfl, fun x e => by cases e; omega⟩
  clear hr0
  have ok1 : okQ (.look k3 a p) := ok_look sp.ok a0
  have ok2 : okQ (.look k5 b q) := ok_look sq.ok b0
  have prx : ∀ y : Qn, simQ (.two k2 (.look k3 a p) (.look k5 b q)) = y → Pr (colsQ p) true (.tup [.tup [.str k2.s, .tup [.str k3.s, encO a, encQ p], .tup [.str k5.s, encO b, encQ q]], encQ y]) := fun y h =>
    pr_mk _ y rfl (ok_two ok1 ok2 ecq) (by simp only [dpQ]; omega) h fun _ => cols_two (p := .look k3 a p) (q := .look k5 b q) ok1 ecq
  have nl1 := encQ_nl (nb k3 a p)
  have nl2 := encQ_nl (nb k5 b q)
  have fin2 : ¬ ((k2 = .either ∧ someK k3 = true ∨ k2 = .both ∧ someK k3 = false) ∧ k3 = k5 ∧ a = b) → Pr (colsQ p) true (.tup [.tup [.str k2.s, .tup [.str k3.s, encO a, encQ p], .tup [.str k5.s, encO b, encQ q]], .tup [.str k2.s, encQ (nb k3 a p), encQ (nb k5 b q)]]) := fun h => prx _ (sim_two_look2 hp hq h12 h)
  have els : ¬ ((k2 = .either ∧ someK k3 = true ∨ k2 = .both ∧ someK k3 = false) ∧ k3 = k5 ∧ a = b) → True := fun _ => trivial
  rcases hk2 with rfl | rfl | rfl
  · cases k3 with
    | once =>
      walk_at "Ddlx"
      refine ⟨(nb_call .once a p).1, fun r0 ds' hq0 => ?_⟩
      obtain ⟨rfl, rfl⟩ := (nb_call .once a p).2 r0 ds' hq0
      walk_at "Ddlx"
      refine ⟨(nb_call k5 b q).1, fun r0 ds' hq0 => ?_⟩
      obtain ⟨rfl, rfl⟩ := (nb_call k5 b q).2 r0 ds' hq0
      walk_at "Ddlx"
      exact post (fin2 (by simp [someK]))
    | lately =>
      walk_at "Ddlx"
      refine ifb_dec (fun g => ?_) (fun g => ?_)
      · obtain rfl := K4.inj (a := .lately) g
        cases a with
        | none =>
          cases b with
          | none =>
            walk_at "Ddlx"
            have nl3 := encQ_nl (nb .lately (none) (.two .both p q))
            refine ⟨(nb_call .lately (none) (.two .both p q)).1, fun r0 ds' hq0 => ?_⟩
            obtain ⟨rfl, rfl⟩ := (nb_call .lately (none) (.two .both p q)).2 r0 ds' hq0
            walk_at "Ddlx"
            exact post (prx _ (sim_two_look1 hp hq h12 (by simp [someK])))
          | some y =>
            walk_at "Ddlx"
            refine ⟨(nb_call .lately (none) p).1, fun r0 ds' hq0 => ?_⟩
            obtain ⟨rfl, rfl⟩ := (nb_call .lately (none) p).2 r0 ds' hq0
            walk_at "Ddlx"
            refine ⟨(nb_call .lately (some y) q).1, fun r0 ds' hq0 => ?_⟩
            obtain ⟨rfl, rfl⟩ := (nb_call .lately (some y) q).2 r0 ds' hq0
            walk_at "Ddlx"
            exact post (fin2 (by simp))
        | some x =>
          cases b with
          | none =>
            walk_at "Ddlx"
            refine ⟨(nb_call .lately (some x) p).1, fun r0 ds' hq0 => ?_⟩
            obtain ⟨rfl, rfl⟩ := (nb_call .lately (some x) p).2 r0 ds' hq0
            walk_at "Ddlx"
            refine ⟨(nb_call .lately (none) q).1, fun r0 ds' hq0 => ?_⟩
            obtain ⟨rfl, rfl⟩ := (nb_call .lately (none) q).2 r0 ds' hq0
            walk_at "Ddlx"
            exact post (fin2 (by simp))
          | some y =>
            walk_at "Ddlx"
            refine ifb_dec (fun g2 => ?_) (fun g2 => ?_)
            · subst g2
              walk_at "Ddlx"
              have nl3 := encQ_nl (nb .lately (some x) (.two .both p q))
              refine ⟨(nb_call .lately (some x) (.two .both p q)).1, fun r0 ds' hq0 => ?_⟩
              obtain ⟨rfl, rfl⟩ := (nb_call .lately (some x) (.two .both p q)).2 r0 ds' hq0
              walk_at "Ddlx"
              exact post (prx _ (sim_two_look1 hp hq h12 (by simp [someK])))
            · walk_at "Ddlx"
              refine ⟨(nb_call .lately (some x) p).1, fun r0 ds' hq0 => ?_⟩
              obtain ⟨rfl, rfl⟩ := (nb_call .lately (some x) p).2 r0 ds' hq0
              walk_at "Ddlx"
              refine ⟨(nb_call .lately (some y) q).1, fun r0 ds' hq0 => ?_⟩
              obtain ⟨rfl, rfl⟩ := (nb_call .lately (some y) q).2 r0 ds' hq0
              walk_at "Ddlx"
              exact post (fin2 (fun z => g2 (by injection z.2.2)))
      · walk_at "Ddlx"
        refine ⟨(nb_call .lately a p).1, fun r0 ds' hq0 => ?_⟩
        obtain ⟨rfl, rfl⟩ := (nb_call .lately a p).2 r0 ds' hq0
        walk_at "Ddlx"
        refine ⟨(nb_call k5 b q).1, fun r0 ds' hq0 => ?_⟩
        obtain ⟨rfl, rfl⟩ := (nb_call k5 b q).2 r0 ds' hq0
        walk_at "Ddlx"
        exact post (fin2 fun z => g (by rw [← z.2.1]))
    | soon =>
      walk_at "Ddlx"
      refine ⟨(nb_call .soon a p).1, fun r0 ds' hq0 => ?_⟩
      obtain ⟨rfl, rfl⟩ := (nb_call .soon a p).2 r0 ds' hq0
      walk_at "Ddlx"
      refine ⟨(nb_call k5 b q).1, fun r0 ds' hq0 => ?_⟩
      obtain ⟨rfl, rfl⟩ := (nb_call k5 b q).2 r0 ds' hq0
      walk_at "Ddlx"
      exact post (fin2 (by simp [someK]))
    | hence =>
      walk_at "Ddlx"
      refine ifb_dec (fun g => ?_) (fun g => ?_)
      · obtain rfl := K4.inj (a := .hence) g
        cases a with
        | none =>
          cases b with
          | none =>
            walk_at "Ddlx"
            have nl3 := encQ_nl (nb .hence (none) (.two .both p q))
            refine ⟨(nb_call .hence (none) (.two .both p q)).1, fun r0 ds' hq0 => ?_⟩
            obtain ⟨rfl, rfl⟩ := (nb_call .hence (none) (.two .both p q)).2 r0 ds' hq0
            walk_at "Ddlx"
            exact post (prx _ (sim_two_look1 hp hq h12 (by simp [someK])))
          | some y =>
            walk_at "Ddlx"
            refine ⟨(nb_call .hence (none) p).1, fun r0 ds' hq0 => ?_⟩
            obtain ⟨rfl, rfl⟩ := (nb_call .hence (none) p).2 r0 ds' hq0
            walk_at "Ddlx"
            refine ⟨(nb_call .hence (some y) q).1, fun r0 ds' hq0 => ?_⟩
            obtain ⟨rfl, rfl⟩ := (nb_call .hence (some y) q).2 r0 ds' hq0
            walk_at "Ddlx"
            exact post (fin2 (by simp))
        | some x =>
          cases b with
          | none =>
            walk_at "Ddlx"
            refine ⟨(nb_call .hence (some x) p).1, fun r0 ds' hq0 => ?_⟩
            obtain ⟨rfl, rfl⟩ := (nb_call .hence (some x) p).2 r0 ds' hq0
            walk_at "Ddlx"
            refine ⟨(nb_call .hence (none) q).1, fun r0 ds' hq0 => ?_⟩
            obtain ⟨rfl, rfl⟩ := (nb_call .hence (none) q).2 r0 ds' hq0
            walk_at "Ddlx"
            exact post (fin2 (by simp))
          | some y =>
            walk_at "Ddlx"
            refine ifb_dec (fun g2 => ?_) (fun g2 => ?_)
            · subst g2
              walk_at "Ddlx"
              have nl3 := encQ_nl (nb .hence (some x) (.two .both p q))
              refine ⟨(nb_call .hence (some x) (.two .both p q)).1, fun r0 ds' hq0 => ?_⟩
              obtain ⟨rfl, rfl⟩ := (nb_call .hence (some x) (.two .both p q)).2 r0 ds' hq0
              walk_at "Ddlx"
              exact post (prx _ (sim_two_look1 hp hq h12 (by simp [someK])))
            · walk_at "Ddlx"
              refine ⟨(nb_call .hence (some x) p).1, fun r0 ds' hq0 => ?_⟩
              obtain ⟨rfl, rfl⟩ := (nb_call .hence (some x) p).2 r0 ds' hq0
              walk_at "Ddlx"
              refine ⟨(nb_call .hence (some y) q).1, fun r0 ds' hq0 => ?_⟩
              obtain ⟨rfl, rfl⟩ := (nb_call .hence (some y) q).2 r0 ds' hq0
              walk_at "Ddlx"
              exact post (fin2 (fun z => g2 (by injection z.2.2)))
      · walk_at "Ddlx"
        refine ⟨(nb_call .hence a p).1, fun r0 ds' hq0 => ?_⟩
        obtain ⟨rfl, rfl⟩ := (nb_call .hence a p).2 r0 ds' hq0
        walk_at "Ddlx"
        refine ⟨(nb_call k5 b q).1, fun r0 ds' hq0 => ?_⟩
        obtain ⟨rfl, rfl⟩ := (nb_call k5 b q).2 r0 ds' hq0
        walk_at "Ddlx"
        exact post (fin2 fun z => g (by rw [← z.2.1]))
  · cases k3 with
    | once =>
      walk_at "Ddlx"
      refine ifb_dec (fun g => ?_) (fun g => ?_)
      · obtain rfl := K4.inj (a := .once) g
        cases a with
        | none =>
          cases b with
          | none =>
            walk_at "Ddlx"
            have nl3 := encQ_nl (nb .once (none) (.two .either p q))
            refine ⟨(nb_call .once (none) (.two .either p q)).1, fun r0 ds' hq0 => ?_⟩
            obtain ⟨rfl, rfl⟩ := (nb_call .once (none) (.two .either p q)).2 r0 ds' hq0
            walk_at "Ddlx"
            exact post (prx _ (sim_two_look1 hp hq h12 (by simp [someK])))
          | some y =>
            walk_at "Ddlx"
            refine ⟨(nb_call .once (none) p).1, fun r0 ds' hq0 => ?_⟩
            obtain ⟨rfl, rfl⟩ := (nb_call .once (none) p).2 r0 ds' hq0
            walk_at "Ddlx"
            refine ⟨(nb_call .once (some y) q).1, fun r0 ds' hq0 => ?_⟩
            obtain ⟨rfl, rfl⟩ := (nb_call .once (some y) q).2 r0 ds' hq0
            walk_at "Ddlx"
            exact post (fin2 (by simp))
        | some x =>
          cases b with
          | none =>
            walk_at "Ddlx"
            refine ⟨(nb_call .once (some x) p).1, fun r0 ds' hq0 => ?_⟩
            obtain ⟨rfl, rfl⟩ := (nb_call .once (some x) p).2 r0 ds' hq0
            walk_at "Ddlx"
            refine ⟨(nb_call .once (none) q).1, fun r0 ds' hq0 => ?_⟩
            obtain ⟨rfl, rfl⟩ := (nb_call .once (none) q).2 r0 ds' hq0
            walk_at "Ddlx"
            exact post (fin2 (by simp))
          | some y =>
            walk_at "Ddlx"
            refine ifb_dec (fun g2 => ?_) (fun g2 => ?_)
            · subst g2
              walk_at "Ddlx"
              have nl3 := encQ_nl (nb .once (some x) (.two .either p q))
              refine ⟨(nb_call .once (some x) (.two .either p q)).1, fun r0 ds' hq0 => ?_⟩
              obtain ⟨rfl, rfl⟩ := (nb_call .once (some x) (.two .either p q)).2 r0 ds' hq0
              walk_at "Ddlx"
              exact post (prx _ (sim_two_look1 hp hq h12 (by simp [someK])))
            · walk_at "Ddlx"
              refine ⟨(nb_call .once (some x) p).1, fun r0 ds' hq0 => ?_⟩
              obtain ⟨rfl, rfl⟩ := (nb_call .once (some x) p).2 r0 ds' hq0
              walk_at "Ddlx"
              refine ⟨(nb_call .once (some y) q).1, fun r0 ds' hq0 => ?_⟩
              obtain ⟨rfl, rfl⟩ := (nb_call .once (some y) q).2 r0 ds' hq0
              walk_at "Ddlx"
              exact post (fin2 (fun z => g2 (by injection z.2.2)))
      · walk_at "Ddlx"
        refine ⟨(nb_call .once a p).1, fun r0 ds' hq0 => ?_⟩
        obtain ⟨rfl, rfl⟩ := (nb_call .once a p).2 r0 ds' hq0
        walk_at "Ddlx"
        refine ⟨(nb_call k5 b q).1, fun r0 ds' hq0 => ?_⟩
        obtain ⟨rfl, rfl⟩ := (nb_call k5 b q).2 r0 ds' hq0
        walk_at "Ddlx"
        exact post (fin2 fun z => g (by rw [← z.2.1]))
    | lately =>
      walk_at "Ddlx"
      refine ⟨(nb_call .lately a p).1, fun r0 ds' hq0 => ?_⟩
      obtain ⟨rfl, rfl⟩ := (nb_call .lately a p).2 r0 ds' hq0
      walk_at "Ddlx"
      refine ⟨(nb_call k5 b q).1, fun r0 ds' hq0 => ?_⟩
      obtain ⟨rfl, rfl⟩ := (nb_call k5 b q).2 r0 ds' hq0
      walk_at "Ddlx"
      exact post (fin2 (by simp [someK]))
    | soon =>
      walk_at "Ddlx"
      refine ifb_dec (fun g => ?_) (fun g => ?_)
      · obtain rfl := K4.inj (a := .soon) g
        cases a with
        | none =>
          cases b with
          | none =>
            walk_at "Ddlx"
            have nl3 := encQ_nl (nb .soon (none) (.two .either p q))
            refine ⟨(nb_call .soon (none) (.two .either p q)).1, fun r0 ds' hq0 => ?_⟩
            obtain ⟨rfl, rfl⟩ := (nb_call .soon (none) (.two .either p q)).2 r0 ds' hq0
            walk_at "Ddlx"
            exact post (prx _ (sim_two_look1 hp hq h12 (by simp [someK])))
          | some y =>
            walk_at "Ddlx"
            refine ⟨(nb_call .soon (none) p).1, fun r0 ds' hq0 => ?_⟩
            obtain ⟨rfl, rfl⟩ := (nb_call .soon (none) p).2 r0 ds' hq0
            walk_at "Ddlx"
            refine ⟨(nb_call .soon (some y) q).1, fun r0 ds' hq0 => ?_⟩
            obtain ⟨rfl, rfl⟩ := (nb_call .soon (some y) q).2 r0 ds' hq0
            walk_at "Ddlx"
            exact post (fin2 (by simp))
        | some x =>
          cases b with
          | none =>
            walk_at "Ddlx"
            refine ⟨(nb_call .soon (some x) p).1, fun r0 ds' hq0 => ?_⟩
            obtain ⟨rfl, rfl⟩ := (nb_call .soon (some x) p).2 r0 ds' hq0
            walk_at "Ddlx"
            refine ⟨(nb_call .soon (none) q).1, fun r0 ds' hq0 => ?_⟩
            obtain ⟨rfl, rfl⟩ := (nb_call .soon (none) q).2 r0 ds' hq0
            walk_at "Ddlx"
            exact post (fin2 (by simp))
          | some y =>
            walk_at "Ddlx"
            refine ifb_dec (fun g2 => ?_) (fun g2 => ?_)
            · subst g2
              walk_at "Ddlx"
              have nl3 := encQ_nl (nb .soon (some x) (.two .either p q))
              refine ⟨(nb_call .soon (some x) (.two .either p q)).1, fun r0 ds' hq0 => ?_⟩
              obtain ⟨rfl, rfl⟩ := (nb_call .soon (some x) (.two .either p q)).2 r0 ds' hq0
              walk_at "Ddlx"
              exact post (prx _ (sim_two_look1 hp hq h12 (by simp [someK])))
            · walk_at "Ddlx"
              refine ⟨(nb_call .soon (some x) p).1, fun r0 ds' hq0 => ?_⟩
              obtain ⟨rfl, rfl⟩ := (nb_call .soon (some x) p).2 r0 ds' hq0
              walk_at "Ddlx"
              refine ⟨(nb_call .soon (some y) q).1, fun r0 ds' hq0 => ?_⟩
              obtain ⟨rfl, rfl⟩ := (nb_call .soon (some y) q).2 r0 ds' hq0
              walk_at "Ddlx"
              exact post (fin2 (fun z => g2 (by injection z.2.2)))
      · walk_at "Ddlx"
        refine ⟨(nb_call .soon a p).1, fun r0 ds' hq0 => ?_⟩
        obtain ⟨rfl, rfl⟩ := (nb_call .soon a p).2 r0 ds' hq0
        walk_at "Ddlx"
        refine ⟨(nb_call k5 b q).1, fun r0 ds' hq0 => ?_⟩
        obtain ⟨rfl, rfl⟩ := (nb_call k5 b q).2 r0 ds' hq0
        walk_at "Ddlx"
        exact post (fin2 fun z => g (by rw [← z.2.1]))
    | hence =>
      walk_at "Ddlx"
      refine ⟨(nb_call .hence a p).1, fun r0 ds' hq0 => ?_⟩
      obtain ⟨rfl, rfl⟩ := (nb_call .hence a p).2 r0 ds' hq0
      walk_at "Ddlx"
      refine ⟨(nb_call k5 b q).1, fun r0 ds' hq0 => ?_⟩
      obtain ⟨rfl, rfl⟩ := (nb_call k5 b q).2 r0 ds' hq0
      walk_at "Ddlx"
      exact post (fin2 (by simp [someK]))
  · cases k3 with
    | once =>
      walk_at "Ddlx"
      refine ⟨(nb_call .once a p).1, fun r0 ds' hq0 => ?_⟩
      obtain ⟨rfl, rfl⟩ := (nb_call .once a p).2 r0 ds' hq0
      walk_at "Ddlx"
      refine ⟨(nb_call k5 b q).1, fun r0 ds' hq0 => ?_⟩
      obtain ⟨rfl, rfl⟩ := (nb_call k5 b q).2 r0 ds' hq0
      walk_at "Ddlx"
      exact post (fin2 (by simp [someK]))
    | lately =>
      walk_at "Ddlx"
      refine ⟨(nb_call .lately a p).1, fun r0 ds' hq0 => ?_⟩
      obtain ⟨rfl, rfl⟩ := (nb_call .lately a p).2 r0 ds' hq0
      walk_at "Ddlx"
      refine ⟨(nb_call k5 b q).1, fun r0 ds' hq0 => ?_⟩
      obtain ⟨rfl, rfl⟩ := (nb_call k5 b q).2 r0 ds' hq0
      walk_at "Ddlx"
      exact post (fin2 (by simp [someK]))
    | soon =>
      walk_at "Ddlx"
      refine ⟨(nb_call .soon a p).1, fun r0 ds' hq0 => ?_⟩
      obtain ⟨rfl, rfl⟩ := (nb_call .soon a p).2 r0 ds' hq0
      walk_at "Ddlx"
      refine ⟨(nb_call k5 b q).1, fun r0 ds' hq0 => ?_⟩
      obtain ⟨rfl, rfl⟩ := (nb_call k5 b q).2 r0 ds' hq0
      walk_at "Ddlx"
      exact post (fin2 (by simp [someK]))
    | hence =>
      walk_at "Ddlx"
      refine ⟨(nb_call .hence a p).1, fun r0 ds' hq0 => ?_⟩
      obtain ⟨rfl, rfl⟩ := (nb_call .hence a p).2 r0 ds' hq0
      walk_at "Ddlx"
      refine ⟨(nb_call k5 b q).1, fun r0 ds' hq0 => ?_⟩
      obtain ⟨rfl, rfl⟩ := (nb_call k5 b q).2 r0 ds' hq0
      walk_at "Ddlx"
      exact post (fin2 (by simp [someK]))
include w1 w2 w3 hcs hl h12 h13 h23 hp hq hr in
theorem two11 (n0 : List Int) (k2 : K2) (hk2 : k2 = .both ∨ k2 = .either ∨ k2 = .unless) (hk : k = 11) : wc_law_two_4 (EE2 ns ms p q r k (some (.str k2.s) :: List.replicate 7 none)) (KK2 n0 ms p q r k) := by
  have sp := hp.so w1 hcs hl
  have sq := hq.so w2 hcs hl
  have sr := hr.so w3 hcs hl
  have ecq := sp.cols.trans sq.cols.symm
  have ecr := sr.cols.trans sp.cols.symm
  have ecr2 := sr.cols.trans sq.cols.symm
  have post := fun {l s d : D} {ks : List Int} h => lt_post (l := l) (s := s) (d := d) (p := p) (q := q) (r := r) (k := k) (ks := ks) h
  have nl := encQ_nl p
  have nlq := encQ_nl q
  have nlr := encQ_nl r
  have dp := sp.dp
  have dq := sq.dp
  have dr := sr.dp
  subst hk
  have hpr : p ≠ r := hp.ne hr h13
  have shp := shaped_Q sp.ok (by omega)
  have shr := shaped_Q sr.ok (by omega)
  have evr := eqv_ne (pl_Q r) (pl_Q p) fun z => hpr (encQ_inj z).symm
  have evp := eqv_rf (pl_Q p) (pl_Q p) rfl
  walk_at "Ddlx"
  rw [cut_kN2b]
  walk_at "Ddlx"
  refine ⟨⟨ns, _, _, rfl, rfl, by simp, by simp⟩, ?_⟩
  intro r0 ds' hp2
  obtain ⟨m1, hr0, rfl⟩ := hp2 _ _ _ rfl rfl
  obtain ⟨k3, rfl, hk3⟩ : ∃ k : K2, r0 = .str k.s ∧ (k = .since ∨ k = .until ∨ k = .sincenot ∨ k = .untilnot) := by
    simp only [List.mem_cons, List.not_mem_nil, or_false] at hr0
    rcases hr0 with rfl | rfl | rfl | rfl
    · exact ⟨.since, rfl, by simp⟩
    · exact ⟨.until, rfl, by simp⟩
    · exact ⟨.sincenot, rfl, by simp⟩
    · exact ⟨.untilnot, rfl, by simp⟩
  clear hr0
  have hf3 : folB k3 = true := by rcases hk3 with rfl | rfl | rfl | rfl <;> rfl
  clear hk3
  walk_at "Ddlx"
  rw [cut_kN2b]
  walk_at "Ddlx"
  refine ⟨⟨m1, _, _, rfl, rfl, by simp, by simp⟩, ?_⟩
  intro r0 ds' hp2
  obtain ⟨m2, hr0, rfl⟩ := hp2 _ _ _ rfl rfl
  obtain ⟨k4, rfl, hk4⟩ : ∃ k : K2, r0 = .str k.s ∧ (k = .since ∨ k = .until ∨ k = .sincenot ∨ k = .untilnot) := by
    simp only [List.mem_cons, List.not_mem_nil, or_false] at hr0
    rcases hr0 with rfl | rfl | rfl | rfl
    · exact ⟨.since, rfl, by simp⟩
    · exact ⟨.until, rfl, by simp⟩
    · exact ⟨.sincenot, rfl, by simp⟩
    · exact ⟨.untilnot, rfl, by simp⟩
  clear hr0
  have hf4 : folB k4 = true := by rcases hk4 with rfl | rfl | rfl | rfl <;> rfl
  clear hk4
  walk_at "Ddlx"
  refine ⟨⟨m2, _, _, rfl, rfl, by simp, by simp⟩, ?_⟩
  intro r0 ds' hp2
  obtain ⟨m3, hr0, rfl⟩ := hp2 _ _ _ rfl rfl
  obtain ⟨k5, rfl, hf5⟩ : ∃ k : K2, r0 = .str k.s ∧ folB k = true := by
    simp only [List.mem_cons, List.not_mem_nil, or_false] at hr0
    rcases hr0 with rfl | rfl | rfl
    · exact ⟨k3, rfl, hf3⟩
    · exact ⟨k3, rfl, hf3⟩
    · exact ⟨k4, rfl, hf4⟩
  clear hr0
  walk_at "Ddlx"
  refine ⟨⟨m3, _, _, rfl, rfl, by simp, by simp⟩, ?_⟩
  intro r0 ds' hp2
  obtain ⟨m4, hr0, rfl⟩ := hp2 _ _ _ rfl rfl
  obtain ⟨l, rfl, hl0⟩ : ∃ l : Qn, r0 = encQ l ∧ (l = r ∨ l = p) := by
    simp only [List.mem_cons, List.not_mem_nil, or_false] at hr0
    rcases hr0 with rfl | rfl | rfl
    · exact ⟨r, rfl, .inl rfl⟩
    · exact ⟨r, rfl, .inl rfl⟩
    · exact ⟨p, rfl, .inr rfl⟩
  clear hr0
  have nll := encQ_nl l
  have okl : okQ l ∧ colsQ l = colsQ q ∧ dpQ l ≤ 2 := by
    rcases hl0 with rfl | rfl
    · exact ⟨sr.ok, ecr2, dr⟩
    · exact ⟨sp.ok, ecq, dp⟩
  have ok1 := ok_two (k := k3) sr.ok sp.ok ecr
  have ok2 := ok_two (k := k5) okl.1 sq.ok okl.2.1
  have c1 : colsQ (.two k3 r p) = colsQ p := by rw [cols_fol hf3]
  have c2 : colsQ (.two k5 l q) = colsQ q := by rw [cols_fol hf5]
  have c3 : colsQ (.two k3 r p) = colsQ (.two k5 l q) := by rw [c1, c2, ecq]
  have dl := okl.2.2
  have prx : ∀ y : Qn, simQ (.two k2 (.two k3 r p) (.two k5 l q)) = y → Pr (colsQ p) true (.tup [.tup [.str k2.s, .tup [.str k3.s, encQ r, encQ p], .tup [.str k5.s, encQ l, encQ q]], encQ y]) := fun y h =>
    pr_mk _ y rfl (ok_two ok1 ok2 c3) (by simp only [dpQ]; omega) h fun _ => by rw [cols_two ok1 c3, c1]
  have fin2 : ¬ (k2 = .either ∧ k3 = k5 ∧ l = r) → Pr (colsQ p) true (.tup [.tup [.str k2.s, .tup [.str k3.s, encQ r, encQ p], .tup [.str k5.s, encQ l, encQ q]], .tup [.str k2.s, .tup [.str k3.s, encQ r, encQ p], .tup [.str k5.s, encQ l, encQ q]]]) := fun h => prx _ (sim_two_fol2 hp hq h12 hr h13 h23 hl0 h)
  have shl := shaped_Q okl.1 (by omega)
  rcases hk2 with rfl | rfl | rfl
  · walk_at "Ddlx"
    exact post (fin2 (by simp))
  · walk_at "Ddlx"
    refine ifb_dec (fun g1 => ?_) (fun g1 => ?_)
    · obtain rfl := K2.inj g1
      walk_at "Ddlx"
      rcases hl0 with rfl | rfl
      · refine ifb_eqt (by rw [evr]; rfl) ?_
        walk_at "Ddlx"
        exact post (prx _ (sim_two_fol1 hp hq h12 hr h13 h23 hf3))
      · refine ifb_eqf (by rw [evp]; rfl) ?_
        walk_at "Ddlx"
        exact post (fin2 fun z => hpr z.2.2)
    · walk_at "Ddlx"
      exact post (fin2 fun z => g1 (by rw [z.2.1]))
  · walk_at "Ddlx"
    exact post (fin2 (by simp))
include w1 w2 w3 hcs hl h12 h13 h23 hp hq hr in
theorem two8 (n0 : List Int) (hk : k = 8) : wc_law_two_2 (EE2 ns ms p q r k (List.replicate 8 none)) (KK2 n0 ms p q r k) := by
  have sp := hp.so w1 hcs hl
  have sq := hq.so w2 hcs hl
  have sr := hr.so w3 hcs hl
  have ecq := sp.cols.trans sq.cols.symm
  have ecr := sr.cols.trans sp.cols.symm
  have ecr2 := sr.cols.trans sq.cols.symm
  have post := fun {l s d : D} {ks : List Int} h => lt_post (l := l) (s := s) (d := d) (p := p) (q := q) (r := r) (k := k) (ks := ks) h
  have nl := encQ_nl p
  have nlq := encQ_nl q
  have nlr := encQ_nl r
  have dp := sp.dp
  have dq := sq.dp
  have dr := sr.dp
  subst hk
  walk_at "Ddlx"
  rw [cut_kN2a]
  walk_at "Ddlx"
  refine ⟨⟨ns, _, _, rfl, rfl, by simp, by simp⟩, ?_⟩
  intro r0 ds' hp2
  obtain ⟨m1, hr0, rfl⟩ := hp2 _ _ _ rfl rfl
  obtain ⟨k2, rfl, hk2⟩ : ∃ k : K2, r0 = .str k.s ∧ (k = .both ∨ k = .either ∨ k = .unless ∨ k = .since) := by
    simp only [List.mem_cons, List.not_mem_nil, or_false] at hr0
    rcases hr0 with rfl | rfl | rfl | rfl
    · exact ⟨.both, rfl, by simp⟩
    · exact ⟨.either, rfl, by simp⟩
    · exact ⟨.unless, rfl, by simp⟩
    · exact ⟨.since, rfl, by simp⟩
  clear hr0
  walk_at "Ddlx"
  refine ⟨⟨m1, ms, rfl⟩, ?_⟩
  intro r0 ds' hp2
  obtain ⟨m2, a, rfl, rfl⟩ := hp2 _ _ rfl
  walk_at "Ddlx"
  refine ⟨⟨m2, _, _, rfl, rfl, by simp, by simp⟩, ?_⟩
  intro r0 ds' hp2
  obtain ⟨m3, hr0, rfl⟩ := hp2 _ _ _ rfl rfl
  obtain ⟨b, rfl⟩ : ∃ b, r0 = .int b := by
    simp only [List.mem_cons, List.not_mem_nil, or_false] at hr0
    rcases hr0 with rfl | rfl | rfl | rfl <;> exact ⟨_, rfl⟩
  clear hr0
  have okx : okQ (.two k2 (.shift a p) (.shift b q)) := ok_two (ok_shift sp.ok) (ok_shift sq.ok) ecq
  have prx : ∀ y : Qn, simQ (.two k2 (.shift a p) (.shift b q)) = y → Pr (colsQ p) true (.tup [.tup [.str k2.s, .tup [.str (PySem.Str.ofString "shift"), .int a, encQ p], .tup [.str (PySem.Str.ofString "shift"), .int b, encQ q]], encQ y]) := fun y h =>
    pr_mk _ y rfl okx (by simp only [dpQ]; omega) h fun _ => cols_two (p := .shift a p) (q := .shift b q) (ok_shift sp.ok) ecq
  have fin2 : ¬ (a = b ∧ shK k2 = true) → Pr (colsQ p) true (.tup [.tup [.str k2.s, .tup [.str (PySem.Str.ofString "shift"), .int a, encQ p], .tup [.str (PySem.Str.ofString "shift"), .int b, encQ q]], .tup [.str k2.s, encQ (shf a p), encQ (shf b q)]]) := fun h => prx _ (sim_two_shift2 hp hq h12 h)
  have nl1 := encQ_nl (shf a p)
  have nl2 := encQ_nl (shf b q)
  walk_at "Ddlx"
  refine ifb_dec (fun g1 => ?_) (fun g1 => ?_)
  · subst g1
    have nl3 := encQ_nl (shf a (.two k2 p q))
    rcases hk2 with rfl | rfl | rfl | rfl
    · walk_at "Ddlx"
      refine ⟨(sh_call a (.two .both p q)).1, fun r0 ds' hq0 => ?_⟩
      obtain ⟨rfl, rfl⟩ := (sh_call a (.two .both p q)).2 r0 ds' hq0
      walk_at "Ddlx"
      exact post (prx _ (sim_two_shift1 hp hq h12 rfl))
    · walk_at "Ddlx"
      refine ⟨(sh_call a (.two .either p q)).1, fun r0 ds' hq0 => ?_⟩
      obtain ⟨rfl, rfl⟩ := (sh_call a (.two .either p q)).2 r0 ds' hq0
      walk_at "Ddlx"
      exact post (prx _ (sim_two_shift1 hp hq h12 rfl))
    · walk_at "Ddlx"
      refine ⟨(sh_call a (.two .unless p q)).1, fun r0 ds' hq0 => ?_⟩
      obtain ⟨rfl, rfl⟩ := (sh_call a (.two .unless p q)).2 r0 ds' hq0
      walk_at "Ddlx"
      exact post (prx _ (sim_two_shift1 hp hq h12 rfl))
    · walk_at "Ddlx"
      refine ⟨(sh_call a p).1, fun r0 ds' hq0 => ?_⟩
      obtain ⟨rfl, rfl⟩ := (sh_call a p).2 r0 ds' hq0
      walk_at "Ddlx"
      refine ⟨(sh_call a q).1, fun r0 ds' hq0 => ?_⟩
      obtain ⟨rfl, rfl⟩ := (sh_call a q).2 r0 ds' hq0
      walk_at "Ddlx"
      exact post (fin2 (by simp [shK]))
  · walk_at "Ddlx"
    refine ⟨(sh_call a p).1, fun r0 ds' hq0 => ?_⟩
    obtain ⟨rfl, rfl⟩ := (sh_call a p).2 r0 ds' hq0
    walk_at "Ddlx"
    refine ⟨(sh_call b q).1, fun r0 ds' hq0 => ?_⟩
    obtain ⟨rfl, rfl⟩ := (sh_call b q).2 r0 ds' hq0
    walk_at "Ddlx"
    exact post (fin2 fun z => g1 z.1)
include w1 w2 w3 hcs hl h12 h13 h23 hp hq hr in
theorem two4 (n0 : List Int) (hk : k = 4) : wc_law_two_1 (EE2 ns ms p q r k (List.replicate 8 none)) (KK2 n0 ms p q r k) := by
  have sp := hp.so w1 hcs hl
  have sq := hq.so w2 hcs hl
  have sr := hr.so w3 hcs hl
  have ecq := sp.cols.trans sq.cols.symm
  have ecr := sr.cols.trans sp.cols.symm
  have ecr2 := sr.cols.trans sq.cols.symm
  have post := fun {l s d : D} {ks : List Int} h => lt_post (l := l) (s := s) (d := d) (p := p) (q := q) (r := r) (k := k) (ks := ks) h
  have nl := encQ_nl p
  have nlq := encQ_nl q
  have nlr := encQ_nl r
  have dp := sp.dp
  have dq := sq.dp
  have dr := sr.dp
  subst hk
  walk_at "Ddlx"
  refine ⟨⟨ns, _, _, rfl, rfl, by simp, by simp⟩, ?_⟩
  intro r0 ds' hp2
  obtain ⟨m1, hr0, rfl⟩ := hp2 _ _ _ rfl rfl
  obtain ⟨k2, rfl, hk2⟩ : ∃ k : K2, r0 = .str k.s ∧ (k = .both ∨ k = .either ∨ k = .unless ∨ k = .since ∨ k = .until ∨ k = .sincenot ∨ k = .untilnot) := by
    simp only [List.mem_cons, List.not_mem_nil, or_false] at hr0
    rcases hr0 with rfl | rfl | rfl | rfl | rfl | rfl | rfl
    · exact ⟨.both, rfl, by simp⟩
    · exact ⟨.either, rfl, by simp⟩
    · exact ⟨.unless, rfl, by simp⟩
    · exact ⟨.since, rfl, by simp⟩
    · exact ⟨.until, rfl, by simp⟩
    · exact ⟨.sincenot, rfl, by simp⟩
    · exact ⟨.untilnot, rfl, by simp⟩
  clear hr0
  have okx : okQ (.two k2 p p) := ok_two sp.ok sp.ok rfl
  have prx : ∀ y : Qn, simQ (.two k2 p p) = y → Pr (colsQ p) true (.tup [.tup [.str k2.s, encQ p, encQ p], encQ y]) := fun y h =>
    pr_mk _ y rfl okx (by simp only [dpQ]; omega) h fun _ => cols_two sp.ok rfl
  have key := sim_same (k := k2) sp.pl
  rcases hk2 with rfl | rfl | rfl | rfl | rfl | rfl | rfl <;>
  · walk_at "Ddlx"
    exact post (prx _ key)
end
theorem pure_law_two : ∀ ds, ds.length = 4 → sp_law_two.pre ds → w_law_two (env0 ds 11) { nx := fun e => sp_law_two.post ds .non (outs e 4), rt := fun d e => sp_law_two.post ds d (outs e 4) } := by
  rintro ds _ ⟨ns, ms, n1, n2, n3, cs, p, q, r, k, rfl, ⟨w1, w2, w3, hcs, hl⟩, ⟨h12, h13, h23⟩, hk, hp, hq, hr⟩
  rw [wc_law_two_eq]
  have nl := encQ_nl p
  have nlq := encQ_nl q
  walk_at "Ddlx"
  refine stopE (e := EE2 ns ms p q r k (List.replicate 8 none)) rfl ?_
  by_cases h4 : k = 4
  · exact two4 w1 w2 w3 hcs hl h12 h13 h23 hp hq hr ns h4
  · walk_at "Ddlx"
    refine stopE (e := EE2 ns ms p q r k (List.replicate 8 none)) rfl ?_
    by_cases h8 : k = 8
    · exact two8 w1 w2 w3 hcs hl h12 h13 h23 hp hq hr ns h8
    · walk_at "Ddlx"
      refine stopE (e := EE2 ns ms p q r k (List.replicate 8 none)) rfl ?_
      walk_at "Ddlx"
      refine ⟨⟨ns, _, _, rfl, rfl, by simp, by simp⟩, ?_⟩
      intro r0 ds' hp2
      obtain ⟨m1, hr0, rfl⟩ := hp2 _ _ _ rfl rfl
      obtain ⟨k2, rfl, hk2⟩ : ∃ k : K2, r0 = .str k.s ∧ (k = .both ∨ k = .either ∨ k = .either ∨ k = .unless) := by
        simp only [List.mem_cons, List.not_mem_nil, or_false] at hr0
        rcases hr0 with rfl | rfl | rfl | rfl
        · exact ⟨.both, rfl, by simp⟩
        · exact ⟨.either, rfl, by simp⟩
        · exact ⟨.either, rfl, by simp⟩
        · exact ⟨.unless, rfl, by simp⟩
      clear hr0
      have hk2 : k2 = .both ∨ k2 = .either ∨ k2 = .unless := by rcases hk2 with rfl | rfl | rfl | rfl <;> simp
      walk_at "Ddlx"
      refine stopE (e := EE2 m1 ms p q r k (some (.str k2.s) :: List.replicate 7 none)) rfl ?_
      by_cases h11 : k = 11
      · exact two11 w1 w2 w3 hcs hl h12 h13 h23 hp hq hr ns k2 hk2 h11
      · walk_at "Ddlx"
        refine stopE (e := EE2 m1 ms p q r k (some (.str k2.s) :: List.replicate 7 none)) rfl ?_
        exact two9 w1 w2 w3 hcs hl h12 h13 h23 hp hq hr ns k2 hk2
end DL

namespace DL
open PySem PySem.Spec PyProof.Rows L2
theorem TbOk.one {c : Int} {s : Sp2} (hc : 1 ≤ c ∧ c ≤ 60) (h : SpOk c 0 s) : TbOk c [(0, s)] := ⟨hc, s, [], rfl, h, trivial⟩
local macro_rules | `(tactic| walk_at "Ddl") => `(tactic| ((conv => whnf); (repeat ((first | refine And.intro rfl ?_ | refine And.intro trivial ?_ | refine And.intro ⟨rfl, trivial⟩ ?_ | refine And.intro ⟨rfl, rfl, trivial⟩ ?_ | refine ifb_t ?_ | refine ifb_f ?_ | refine ifb_nr ?_ | refine ifb_er ?_ | refine And.intro (by first | decide | omega | (unfold CMul; omega) | (unfold CDiv; omega) | (unfold CPow; decide) | (exact cpow1 (by omega) (by omega)) | (exact cpow1 (by dsimp only; omega) (by dsimp only; omega)) | (simp only [rngD_len, List.length_replicate, List.length_map, List.length_append, List.length_cons, List.length_nil, List.length_set] at *; omega)) ?_); conv => whnf))))
/-! equal data are the same -/
end DL

set_option maxHeartbeats 4000000
--REN _law_same=law_same4
namespace DL
open PySem PySem.Spec PyProof.Rows L2
/-! ### whether two data are the same -/
def fitE : Nat → D → Bool
  | _, .non => true
  | _, .bl _ => true
  | _, .int _ => true
  | _, .str _ => true
  | 0, _ => false
  | n + 1, .tup xs => decide (xs.length ≤ 900000) && (xs.all (fun d => !isL d && fitE n d))
  | n + 1, .lst xs => decide (xs.length ≤ 900000) && (xs.all (fun d => !isL d && fitE n d))
  | _ + 1, .tpd _ => false
  | _ + 1, .rol _ => false
  | _ + 1, .rod _ _ => false
theorem flatA_bl : ∀ bs : List Bool, flatA (bs.map D.bl) = true
  | [] => rfl
  | b :: r => by rw [List.map_cons]; simp only [flatA, flatD, flatA_bl r]; rfl
theorem any_bl : ∀ bs : List Bool, ((bs.map D.bl).any fun y => eqF y (D.bl false)) = !(bs.all id)
  | [] => rfl
  | b :: r => by rw [List.map_cons, List.any_cons, any_bl r, List.all_cons]; cases b <;> rfl
theorem take_eq_succ {xs ys : List D} {j : Nat} {b : Bool} {t : Bool} (h1 : j < xs.length) (h2 : j < ys.length) (h : t = true ↔ ys.take j = xs.take j) (hb : b = true ↔ ys[j] = xs[j]) : (t && b) = true ↔ ys.take (j + 1) = xs.take (j + 1) := by
  rw [List.take_succ_eq_append_getElem h1, List.take_succ_eq_append_getElem h2, Bool.and_eq_true, h, hb]
  constructor
  · rintro ⟨a, c⟩; rw [a, c]
  · intro e
    have := List.append_inj e (by simp; omega)
    exact ⟨this.1, by simpa using this.2⟩
local macro_rules | `(tactic| walk_at "Ddl") => `(tactic| ((conv => whnf); (repeat ((first | refine And.intro rfl ?_ | refine And.intro trivial ?_ | refine And.intro ⟨rfl, trivial⟩ ?_ | refine And.intro ⟨rfl, rfl, trivial⟩ ?_ | refine ifb_t ?_ | refine ifb_f ?_ | refine ifb_nr ?_ | refine ifb_er ?_ | refine And.intro (by first | decide | omega | (unfold CMul; omega) | (unfold CDiv; omega) | (unfold CPow; decide) | (exact cpow1 (by omega) (by omega)) | (exact cpow1 (by dsimp only; omega) (by dsimp only; omega)) | (simp only [rngD_len, List.length_replicate, List.length_map, List.length_append, List.length_cons, List.length_nil, List.length_set] at *; omega)) ?_); conv => whnf))))
end DL

set_option maxHeartbeats 4000000
--REN _law_same=law_same3
namespace DL
open PySem PySem.Spec PyProof.Rows L2
def spn_law_same3 : Nat → FSpec
  | 0 => ⟨fun _ => False, fun _ _ _ => False⟩
  | n + 1 => ⟨fun ds => ∃ a b, ds = [a, b] ∧ fitE n a = true ∧ fitE n b = true, fun ds r ds' => ds' = ds ∧ ∀ a b, ds = [a, b] → ∃ t, r = .bl t ∧ (t = true ↔ a = b)⟩
abbrev sp_law_same3 : FSpec := spn_law_same3 24
theorem same3_post {a b : D} {t : Bool} (h : t = true ↔ a = b) : ∀ a' b', [a, b] = [a', b'] → ∃ t', D.bl t = .bl t' ∧ (t' = true ↔ a' = b') := by
  intro a' b' e
  simp only [List.cons.injEq, and_true] at e
  obtain ⟨rfl, rfl⟩ := e
  exact ⟨t, rfl, h⟩
/-- slots: 0 actual, 1 due, 2 k -/
def w_law_same3 (n : Nat) : WS :=
    (cSeq (cIte (cIsi2 .tuple .list (cVar 1))
      (cSeq (cIte (cOr (cOp fNeS (cIsi .tuple (cVar 0)) (cIsi .tuple (cVar 1))) (cOp fNeS (cIsi .list (cVar 0)) (cIsi .list (cVar 1))))
          (cRet 2 (cC (.bl false)))
          cNilS)
        (cSeq (cIte (cOp fNeS (cBi fLen (cCons (cVar 0) cNil)) (cBi fLen (cCons (cVar 1) cNil)))
          (cRet 2 (cC (.bl false)))
          cNilS)
        (cRet 2 (cOp (fIn true) (cC (.bl false)) (cLc [2] (iR1 (cBi fLen (cCons (cVar 1) cNil))) (gN 2 [] 2) tTrue (cCallN 2 (spn_law_same3 n) (cCons (cOp fIx (cVar 0) (cVar 2)) (cCons (cOp fIx (cVar 1) (cVar 2)) cNil))))))))
      cNilS)
    (cSeq (cIte (cOr (cOp fNeS (cIsi .bool (cVar 0)) (cIsi .bool (cVar 1))) (cOp fNeS (cIsi .int (cVar 0)) (cIsi .int (cVar 1))))
      (cRet 2 (cC (.bl false)))
      cNilS)
    (cSeq (cIte (cOr (cOp fNeS (cIsi .str (cVar 0)) (cIsi .str (cVar 1))) (cOp fNeS (cUn (fIsN false) (cVar 0)) (cUn (fIsN false) (cVar 1))))
      (cRet 2 (cC (.bl false)))
      cNilS)
    (cRet 2 (cOp fEqS (cVar 0) (cVar 1))))))
local macro_rules | `(tactic| walk_at "Ddl") => `(tactic| ((conv => whnf); (repeat ((first | refine And.intro rfl ?_ | refine And.intro trivial ?_ | refine And.intro ⟨rfl, trivial⟩ ?_ | refine And.intro ⟨rfl, rfl, trivial⟩ ?_ | refine ifb_t ?_ | refine ifb_f ?_ | refine ifb_nr ?_ | refine ifb_er ?_ | refine And.intro (by first | decide | omega | (unfold CMul; omega) | (unfold CDiv; omega) | (unfold CPow; decide) | (exact cpow1 (by omega) (by omega)) | (exact cpow1 (by dsimp only; omega) (by dsimp only; omega)) | (simp only [rngD_len, List.length_replicate, List.length_map, List.length_append, List.length_cons, List.length_nil, List.length_set] at *; omega)) ?_); conv => whnf))))
theorem pure_law_same3 : ∀ n, ∀ ds, ds.length = 2 → (spn_law_same3 (n + 1)).pre ds → w_law_same3 n (env0 ds 1) { nx := fun e => (spn_law_same3 (n + 1)).post ds .non (outs e 2), rt := fun d e => (spn_law_same3 (n + 1)).post ds d (outs e 2) } := by
  rintro n ds _ ⟨a, b, rfl, ha, hb⟩
  cases b with
  | non =>
    cases a <;> (walk_at "Ddl") <;> first | exact same3_post (by simp) | (exfalso; cases n <;> simp [fitE] at ha; done) | skip
  | bl b =>
    cases a <;> (walk_at "Ddl") <;> first | exact same3_post (by simp) | (exfalso; cases n <;> simp [fitE] at ha; done) | skip
  | int i =>
    cases a <;> (walk_at "Ddl") <;> first | exact same3_post (by simp) | (exfalso; cases n <;> simp [fitE] at ha; done) | skip
  | str x =>
    cases a <;> (walk_at "Ddl") <;> first | exact same3_post (by simp) | (exfalso; cases n <;> simp [fitE] at ha; done) | skip
  | tup xs =>
    cases a with
    | tup ys =>
      obtain ⟨n, rfl⟩ : ∃ m, n = m + 1 := by
        cases n with
        | zero => simp [fitE] at hb
        | succ m => exact ⟨m, rfl⟩
      simp only [fitE, Bool.and_eq_true, decide_eq_true_eq, List.all_eq_true] at ha hb
      obtain ⟨la, ha⟩ := ha
      obtain ⟨lb, hb⟩ := hb
      walk_at "Ddl"
      refine ifb_ndec (fun hl => ?_) (fun hl => ?_)
      · walk_at "Ddl"
        exact same3_post ⟨fun z => Bool.noConfusion z, fun z => by cases z; exact absurd rfl hl⟩
      have hl : ys.length = xs.length := by omega
      walk_at "Ddl"
      refine loop_lc (fun q acc e => ∃ (j m : Nat) (bs : List Bool) (o : Option D), (q = rngD j m ∧ acc = bs.map D.bl ∧ j + m = xs.length ∧ (bs.all id = true ↔ ys.take j = xs.take j)) ∧ e = [some (.tup ys), some (.tup xs), o]) ⟨0, xs.length, [], none, ⟨by simp, rfl, by omega, by simp⟩, rfl⟩ ?_ ?_
      · rintro x r acc env nxt ⟨j, m, bs, o, ⟨h4, rfl, h6, h7⟩, rfl⟩ hx
        cases m with
        | zero => simp [rngD] at h4
        | succ m =>
          simp only [rngD, List.cons.injEq] at h4
          obtain ⟨rfl, rfl⟩ := h4
          have jx : j < xs.length := by omega
          have jy : j < ys.length := by omega
          have e1 : atI xs (j : Int) = some xs[j] := atI_nat (List.getElem?_eq_getElem jx)
          have e2 : atI ys (j : Int) = some ys[j] := atI_nat (List.getElem?_eq_getElem jy)
          have g1 := hb _ (List.getElem_mem jx)
          have g2 := ha _ (List.getElem_mem jy)
          have L1 : isL xs[j] = false := by simpa using g1.1
          have L2 : isL ys[j] = false := by simpa using g2.1
          walk_at "Ddl"
          rw [e2]
          walk_at "Ddl"
          rw [e1]
          walk_at "Ddl"
          refine ⟨⟨_, _, rfl, g2.2, g1.2⟩, ?_⟩
          rintro _ _ ⟨rfl, hp⟩
          obtain ⟨t, rfl, ht⟩ := hp _ _ rfl
          walk_at "Ddl"
          refine hx _ _ ⟨j + 1, m, bs ++ [t], _, ⟨by simp, by rw [List.map_append]; rfl, by omega, ?_⟩, rfl⟩
          rw [List.all_append]
          simpa using take_eq_succ jx jy h7 ht
      · rintro acc env ⟨j, m, bs, o, ⟨h4, rfl, h6, h7⟩, rfl⟩
        cases m with
        | succ n => simp [rngD] at h4
        | zero =>
          walk_at "Ddl"
          refine ⟨flatA_bl _, ?_⟩
          rw [if_pos rfl, any_bl]
          walk_at "Ddl"
          refine same3_post ?_
          have hj : j = xs.length := by omega
          rw [hj, List.take_length, ← hl, List.take_length] at h7
          rw [Bool.not_not, h7]
          simp
    | tpd ys => cases n <;> simp [fitE] at ha
    | rol ys => cases n <;> simp [fitE] at ha
    | rod ks ys => cases n <;> simp [fitE] at ha
    | _ =>
      walk_at "Ddl"
      first | exact same3_post (by simp) | skip
  | lst xs =>
    cases a with
    | lst ys =>
      obtain ⟨n, rfl⟩ : ∃ m, n = m + 1 := by
        cases n with
        | zero => simp [fitE] at hb
        | succ m => exact ⟨m, rfl⟩
      simp only [fitE, Bool.and_eq_true, decide_eq_true_eq, List.all_eq_true] at ha hb
      obtain ⟨la, ha⟩ := ha
      obtain ⟨lb, hb⟩ := hb
      walk_at "Ddl"
      refine ifb_ndec (fun hl => ?_) (fun hl => ?_)
      · walk_at "Ddl"
        exact same3_post ⟨fun z => Bool.noConfusion z, fun z => by cases z; exact absurd rfl hl⟩
      have hl : ys.length = xs.length := by omega
      walk_at "Ddl"
      refine loop_lc (fun q acc e => ∃ (j m : Nat) (bs : List Bool) (o : Option D), (q = rngD j m ∧ acc = bs.map D.bl ∧ j + m = xs.length ∧ (bs.all id = true ↔ ys.take j = xs.take j)) ∧ e = [some (.lst ys), some (.lst xs), o]) ⟨0, xs.length, [], none, ⟨by simp, rfl, by omega, by simp⟩, rfl⟩ ?_ ?_
      · rintro x r acc env nxt ⟨j, m, bs, o, ⟨h4, rfl, h6, h7⟩, rfl⟩ hx
        cases m with
        | zero => simp [rngD] at h4
        | succ m =>
          simp only [rngD, List.cons.injEq] at h4
          obtain ⟨rfl, rfl⟩ := h4
          have jx : j < xs.length := by omega
          have jy : j < ys.length := by omega
          have e1 : atI xs (j : Int) = some xs[j] := atI_nat (List.getElem?_eq_getElem jx)
          have e2 : atI ys (j : Int) = some ys[j] := atI_nat (List.getElem?_eq_getElem jy)
          have g1 := hb _ (List.getElem_mem jx)
          have g2 := ha _ (List.getElem_mem jy)
          have L1 : isL xs[j] = false := by simpa using g1.1
          have L2 : isL ys[j] = false := by simpa using g2.1
          walk_at "Ddl"
          rw [e2]
          walk_at "Ddl"
          rw [e1]
          walk_at "Ddl"
          refine ⟨⟨_, _, rfl, g2.2, g1.2⟩, ?_⟩
          rintro _ _ ⟨rfl, hp⟩
          obtain ⟨t, rfl, ht⟩ := hp _ _ rfl
          walk_at "Ddl"
          refine hx _ _ ⟨j + 1, m, bs ++ [t], _, ⟨by simp, by rw [List.map_append]; rfl, by omega, ?_⟩, rfl⟩
          rw [List.all_append]
          simpa using take_eq_succ jx jy h7 ht
      · rintro acc env ⟨j, m, bs, o, ⟨h4, rfl, h6, h7⟩, rfl⟩
        cases m with
        | succ n => simp [rngD] at h4
        | zero =>
          walk_at "Ddl"
          refine ⟨flatA_bl _, ?_⟩
          rw [if_pos rfl, any_bl]
          walk_at "Ddl"
          refine same3_post ?_
          have hj : j = xs.length := by omega
          rw [hj, List.take_length, ← hl, List.take_length] at h7
          rw [Bool.not_not, h7]
          simp
    | tpd ys => cases n <;> simp [fitE] at ha
    | rol ys => cases n <;> simp [fitE] at ha
    | rod ks ys => cases n <;> simp [fitE] at ha
    | _ =>
      walk_at "Ddl"
      first | exact same3_post (by simp) | skip
  | rol xs => cases n <;> simp [fitE] at hb
  | tpd xs => cases n <;> simp [fitE] at hb
  | rod ks xs => cases n <;> simp [fitE] at hb
/-! ### questions fit -/
theorem fitTup {n : Nat} {xs : List D} (hl : xs.length ≤ 900000) (h : ∀ d ∈ xs, isL d = false ∧ fitE n d = true) : fitE (n + 1) (.tup xs) = true := by
  simp only [fitE, Bool.and_eq_true, decide_eq_true_eq, List.all_eq_true]
  exact ⟨hl, fun d hd => ⟨by rw [(h d hd).1]; rfl, (h d hd).2⟩⟩
theorem fitS (n : Nat) (s : Str) : fitE n (.str s) = true := by cases n <;> rfl
theorem fitI (n : Nat) (s : Int) : fitE n (.int s) = true := by cases n <;> rfl
theorem fitN (n : Nat) : fitE n .non = true := by cases n <;> rfl
theorem fitTm1 (n : Nat) (t : Tm) : fitE (n + 1) (encTm t) = true := by
  cases t with
  | col x =>
    refine fitTup (by simp) fun d hd => ?_
    simp only [List.mem_cons, List.not_mem_nil, or_false] at hd
    rcases hd with rfl | rfl <;> exact ⟨rfl, fitS _ _⟩
  | val v =>
    refine fitTup (by simp) fun d hd => ?_
    simp only [List.mem_cons, List.not_mem_nil, or_false] at hd
    rcases hd with rfl | rfl
    · exact ⟨rfl, fitS _ _⟩
    · cases v
      · exact ⟨rfl, fitI _ _⟩
      · exact ⟨rfl, fitS _ _⟩
theorem fitC1 {cs : List Str} (n : Nat) (h : cs.length ≤ 1000) : fitE (n + 1) (encC cs) = true :=
  fitTup (by rw [List.length_map]; omega) fun d hd => by
    obtain ⟨w, _, rfl⟩ := List.mem_map.mp hd
    exact ⟨rfl, fitS _ _⟩
theorem fitO (n : Nat) (w : Option Int) : fitE n (encO w) = true := by
  cases w
  · exact fitN n
  · exact fitI n _
theorem fitItems {q : Qn} {m : Nat} (h : smQ q) (hp : ∀ a ∈ partsQ q, fitE (m + 2) (encQ a) = true) : ∀ d ∈ itemsQ q, fitE (m + 2) d = true := by
  intro d hd
  cases q <;> simp only [itemsQ, List.mem_cons, List.not_mem_nil, or_false] at hd <;> simp only [partsQ, List.mem_cons, List.not_mem_nil, or_false, forall_eq_or_imp, forall_eq] at hp
  case fact nm ts =>
    rcases hd with rfl | rfl
    · exact fitS _ _
    · have hl : ts.length ≤ 1000 := h
      refine fitTup (by rw [List.length_map]; omega) fun d hd => ?_
      obtain ⟨t, _, rfl⟩ := List.mem_map.mp hd
      exact ⟨encTm_nl t, fitTm1 m t⟩
  case two k a b =>
    rcases hd with rfl | rfl
    · exact hp.1
    · exact hp.2
  case only cs a =>
    rcases hd with rfl | rfl
    · exact fitC1 _ h.1
    · exact hp
  case whr t l r a =>
    rcases hd with rfl | rfl | rfl | rfl
    · exact fitS _ _
    · exact fitTm1 _ _
    · exact fitTm1 _ _
    · exact hp
  case shift v a =>
    rcases hd with rfl | rfl
    · exact fitI _ _
    · exact hp
  case look k w a =>
    rcases hd with rfl | rfl
    · exact fitO _ _
    · exact hp
  case count nw ks a =>
    rcases hd with rfl | rfl | rfl
    · exact fitS _ _
    · exact fitC1 _ h.1
    · exact hp
  case total k nw c ks a =>
    rcases hd with rfl | rfl | rfl | rfl
    · exact fitS _ _
    · exact fitS _ _
    · exact fitC1 _ h.1
    · exact hp
  case link k x y a =>
    rcases hd with rfl | rfl | rfl
    · exact fitS _ _
    · exact fitS _ _
    · exact hp
theorem fitQ1 : ∀ (n : Nat) (q : Qn), smQ q → dpQ q + 2 ≤ n → fitE n (encQ q) = true
  | 0, q, _, hn => by omega
  | n + 1, q, h, hn => by
    have h0 := dpQ_pos q
    obtain ⟨m, rfl⟩ : ∃ m, n = m + 2 := ⟨n - 2, by omega⟩
    rw [encQ_items]
    refine fitTup (by cases q <;> simp [itemsQ]) fun d hd => ?_
    rcases List.mem_cons.mp hd with rfl | hd
    · exact ⟨rfl, fitS _ _⟩
    · exact ⟨items_nl q d hd, fitItems h (fun a ha => by
        have := dpQ_part ha
        exact fitQ1 (m + 2) a (smQ_part h ha) (by omega)) d hd⟩
end DL

set_option maxHeartbeats 1000000
--REN _law_same=law_same3
namespace DL
open PySem PySem.Spec PyProof.Rows L2
/-! ### within another question -/
def wrp (ws cs : List Str) (t : Int) (q : Qn) : Qn :=
  if t = 0 then .whr (PySem.Str.ofString "less") (.val (.i 3)) (.val (.s (ws.getD 3 (PySem.Str.ofString "")))) q
  else if t = 1 then .count (ws.getD 6 (PySem.Str.ofString "")) [] q
  else if t = 2 then .two .unless q (.fact (ws.getD 3 (PySem.Str.ofString "")) (cs.map Tm.col))
  else q
def sp_law_within_another : FSpec where
  pre := fun ds => ∃ (ns : List Int) (ws cs : List Str) (t : Int) (q : Qn), ds = [.lst (ns.map D.int), .lst (ws.map D.str), encC cs, .int t, encQ q] ∧ 7 ≤ ws.length ∧ cs.length ≤ 8
  post := fun ds r ds' => ds' = ds ∧ ∀ (l : D) (ws cs : List Str) (t : Int) (q : Qn), ds = [l, .lst (ws.map D.str), encC cs, .int t, encQ q] → r = encQ (wrp ws cs t q)
/-- slots: 0 draws, 1 words, 2 columns, 3 turn, 4 question, 5 x -/
def w_law_within_another : WS :=
    (cSeq (cIte (cOp fEqS (cVar 3) (cC (.int 0)))
      (cRet 5 (cTup (cCons (cC (.str (PySem.Str.ofString "where"))) (cCons (cC (.str (PySem.Str.ofString "less"))) (cCons (cTup (cCons (cC (.str (PySem.Str.ofString "value"))) (cCons (cC (.int 3)) cNil))) (cCons (cTup (cCons (cC (.str (PySem.Str.ofString "value"))) (cCons (cOp fIx (cVar 1) (cC (.int 3))) cNil))) (cCons (cVar 4) cNil)))))))
      cNilS)
    (cSeq (cIte (cOp fEqS (cVar 3) (cC (.int 1)))
      (cRet 5 (cTup (cCons (cC (.str (PySem.Str.ofString "count"))) (cCons (cOp fIx (cVar 1) (cC (.int 6))) (cCons (cTup cNil) (cCons (cVar 4) cNil))))))
      cNilS)
    (cSeq (cIte (cOp fEqS (cVar 3) (cC (.int 2)))
      (cRet 5 (cTup (cCons (cC (.str (PySem.Str.ofString "unless"))) (cCons (cVar 4) (cCons (cTup (cCons (cC (.str (PySem.Str.ofString "fact"))) (cCons (cOp fIx (cVar 1) (cC (.int 3))) (cCons (cBi fTuple (cCons (cLc [5] (iE (cVar 2)) (gN 5 [] 5) tTrue (cTup (cCons (cC (.str (PySem.Str.ofString "col"))) (cCons (cVar 5) cNil)))) cNil)) cNil)))) cNil)))))
      cNilS)
    (cRet 5 (cVar 4)))))
local macro_rules | `(tactic| walk_at "Ddlx") => `(tactic| ((conv => whnf); (repeat ((first | ((with_reducible refine And.intro (stOk_nl ?_ ?_) ?_); (focus (with_reducible first | assumption | exact encQ_nl _ | exact encO_nl _ | exact encC_nl _)); (focus exact rfl)) | ((refine pick_nl ?_ ?_); (focus (with_reducible first | assumption | exact encQ_nl _ | exact encO_nl _ | exact encC_nl _))) | ((with_reducible refine And.intro ?_ ?_); (focus (with_reducible first | assumption | exact encQ_nl _ | exact encO_nl _ | exact encC_nl _))) | ((with_reducible refine And.intro (immA_c ?_ ?_) ?_); (focus (first | (with_reducible first | assumption | exact encQ_nl _ | exact encO_nl _ | exact encC_nl _) | exact rfl)); (focus ((repeat ((with_reducible refine immA_c ?_ ?_); (focus (first | (with_reducible first | assumption | exact encQ_nl _ | exact encO_nl _ | exact encC_nl _) | exact rfl)))); exact rfl))) | refine And.intro rfl ?_ | refine And.intro trivial ?_ | refine And.intro ⟨rfl, trivial⟩ ?_ | refine And.intro ⟨rfl, rfl, trivial⟩ ?_ | refine ifb_nq (by first | assumption | decide) ?_ | refine ifb_pq (by assumption) ?_ | refine ifb_er ?_ | refine ifb_t ?_ | refine ifb_f ?_ | refine ifb_nr ?_ | refine ifb_er ?_ | ((with_reducible refine And.intro (?_ : (_ : Nat) ≤ _) ?_); (focus (first | decide | omega | (unfold CMul; omega) | (unfold CDiv; omega) | (unfold CPow; decide) | (exact cpow1 (by omega) (by omega)) | (simp only [rngD_len, List.length_replicate, List.length_map, List.length_append, List.length_cons, List.length_nil, List.length_set] at *; omega)))) | ((with_reducible refine And.intro (?_ : (_ : Int) ≤ _) ?_); (focus (first | decide | omega | (unfold CMul; omega) | (unfold CDiv; omega) | (unfold CPow; decide) | (exact cpow1 (by omega) (by omega)) | (simp only [rngD_len, List.length_replicate, List.length_map, List.length_append, List.length_cons, List.length_nil, List.length_set] at *; omega)))) | ((with_reducible refine And.intro (?_ : (_ : Nat) < _) ?_); (focus (first | decide | omega | (unfold CMul; omega) | (unfold CDiv; omega) | (unfold CPow; decide) | (exact cpow1 (by omega) (by omega)) | (simp only [rngD_len, List.length_replicate, List.length_map, List.length_append, List.length_cons, List.length_nil, List.length_set] at *; omega)))) | ((with_reducible refine And.intro (?_ : (_ : Int) < _) ?_); (focus (first | decide | omega | (unfold CMul; omega) | (unfold CDiv; omega) | (unfold CPow; decide) | (exact cpow1 (by omega) (by omega)) | (simp only [rngD_len, List.length_replicate, List.length_map, List.length_append, List.length_cons, List.length_nil, List.length_set] at *; omega)))) | ((with_reducible refine And.intro (?_ : CMul _ _) ?_); (focus (first | decide | omega | (unfold CMul; omega) | (unfold CDiv; omega) | (unfold CPow; decide) | (exact cpow1 (by omega) (by omega)) | (simp only [rngD_len, List.length_replicate, List.length_map, List.length_append, List.length_cons, List.length_nil, List.length_set] at *; omega)))) | ((with_reducible refine And.intro (?_ : CDiv _ _) ?_); (focus (first | decide | omega | (unfold CMul; omega) | (unfold CDiv; omega) | (unfold CPow; decide) | (exact cpow1 (by omega) (by omega)) | (simp only [rngD_len, List.length_replicate, List.length_map, List.length_append, List.length_cons, List.length_nil, List.length_set] at *; omega)))) | ((with_reducible refine And.intro (?_ : CPow _ _) ?_); (focus (first | decide | omega | (unfold CMul; omega) | (unfold CDiv; omega) | (unfold CPow; decide) | (exact cpow1 (by omega) (by omega)) | (simp only [rngD_len, List.length_replicate, List.length_map, List.length_append, List.length_cons, List.length_nil, List.length_set] at *; omega)))) | ((with_reducible refine And.intro (?_ : (_ : Nat) = _) ?_); (focus (first | decide | omega | (unfold CMul; omega) | (unfold CDiv; omega) | (unfold CPow; decide) | (exact cpow1 (by omega) (by omega)) | (simp only [rngD_len, List.length_replicate, List.length_map, List.length_append, List.length_cons, List.length_nil, List.length_set] at *; omega))))); conv => whnf)); (try dsimp only [List.set_cons_zero, List.set_cons_succ, upA])))
theorem pure_law_within_another : ∀ ds, ds.length = 5 → sp_law_within_another.pre ds → w_law_within_another (env0 ds 1) { nx := fun e => sp_law_within_another.post ds .non (outs e 5), rt := fun d e => sp_law_within_another.post ds d (outs e 5) } := by
  rintro ds _ ⟨ns, ws, cs, t, q, rfl, h7, h8⟩
  have post : ∀ {r : D}, r = encQ (wrp ws cs t q) → ∀ (l : D) (ws' cs' : List Str) (t' : Int) (q' : Qn), [D.lst (ns.map D.int), .lst (ws.map D.str), encC cs, .int t, encQ q] = [l, .lst (ws'.map D.str), encC cs', .int t', encQ q'] → r = encQ (wrp ws' cs' t' q') := by
    intro r h l ws' cs' t' q' e
    simp only [List.cons.injEq, and_true, D.int.injEq, D.lst.injEq] at e
    obtain ⟨_, e1, e2, rfl, e3⟩ := e
    cases mapS_inj e1
    cases encC_inj e2
    cases encQ_inj e3
    exact h
  have g3 : ws[3]? = some (ws.getD 3 (PySem.Str.ofString "")) := by rw [List.getD_eq_getElem?_getD, List.getElem?_eq_getElem (by omega)]; rfl
  have g6 : ws[6]? = some (ws.getD 6 (PySem.Str.ofString "")) := by rw [List.getD_eq_getElem?_getD, List.getElem?_eq_getElem (by omega)]; rfl
  have a3 : atI (ws.map D.str) 3 = some (.str (ws.getD 3 (PySem.Str.ofString ""))) := atI_nat (j := 3) (by rw [List.getElem?_map, g3]; rfl)
  have a6 : atI (ws.map D.str) 6 = some (.str (ws.getD 6 (PySem.Str.ofString ""))) := atI_nat (j := 6) (by rw [List.getElem?_map, g6]; rfl)
  walk_at "Ddlx"
  refine ifb_dec (fun h0 => ?_) (fun h0 => ?_)
  · walk_at "Ddlx"
    rw [a3]
    walk_at "Ddlx"
    refine post ?_
    rw [show wrp ws cs t q = _ from if_pos h0]
    rfl
  · walk_at "Ddlx"
    refine ifb_dec (fun h1 => ?_) (fun h1 => ?_)
    · walk_at "Ddlx"
      rw [a6]
      walk_at "Ddlx"
      refine post ?_
      rw [show wrp ws cs t q = _ from (if_neg h0).trans (if_pos h1)]
      rfl
    · walk_at "Ddlx"
      refine ifb_dec (fun h2 => ?_) (fun h2 => ?_)
      · walk_at "Ddlx"
        rw [a3]
        walk_at "Ddlx"
        refine lcGo_map (fun d => .tup [.str (PySem.Str.ofString "col"), d]) _ _ ?_ ?_
        · intro d nxt acc hd hnx
          obtain ⟨c, _, rfl⟩ := List.mem_map.mp hd
          walk_at "Ddlx"
          exact hnx
        have e1 : (cs.map D.str).map (fun d => D.tup [.str (PySem.Str.ofString "col"), d]) = (cs.map Tm.col).map encTm := by
          rw [List.map_map, List.map_map]; rfl
        try dsimp only
        rw [e1]
        walk_at "Ddlx"
        refine post ?_
        rw [show wrp ws cs t q = _ from (if_neg h0).trans ((if_neg h1).trans (if_pos h2))]
        rfl
      · walk_at "Ddlx"
        refine post ?_
        rw [show wrp ws cs t q = _ from (if_neg h0).trans ((if_neg h1).trans (if_neg h2))]
theorem sim_wrp (ws cs : List Str) (t : Int) (q : Qn) : simQ (wrp ws cs t q) = wrp ws cs t (simQ q) := by
  unfold wrp
  by_cases h0 : t = 0
  · rw [if_pos h0, if_pos h0, sim_mp]
    exact simQ_fix ⟨rfl, simQ_stl q⟩
  · by_cases h1 : t = 1
    · rw [if_neg h0, if_neg h0, if_pos h1, if_pos h1, sim_mp]
      exact simQ_fix ⟨rfl, simQ_stl q⟩
    · by_cases h2 : t = 2
      · rw [if_neg h0, if_neg h0, if_neg h1, if_neg h1, if_pos h2, if_pos h2, sim_mp]
        refine (simQ_fix ?_ : simQ (.two .unless (simQ q) (simQ (.fact _ _))) = _).trans ?_
        · refine ⟨?_, simQ_stl q, simQ_stl _⟩
          rw [simQ_fix (q := .fact _ _) rfl]
          refine rul_two_none _ _ _ (fun z => by simp [sameK] at z) (fun _ _ _ _ _ z => by cases z) (fun _ _ _ _ _ z => by cases z) (fun _ _ _ _ _ z => by cases z)
        · rw [simQ_fix (q := .fact _ _) rfl]
      · rw [if_neg h0, if_neg h0, if_neg h1, if_neg h1, if_neg h2, if_neg h2]
theorem ok_wrp {ws cs : List Str} {t : Int} {q : Qn} (hq : okQ q) (hd : dpQ q ≤ 8) (hw : WsOk ws) (h7 : 7 ≤ ws.length) (hc : CsOk cs) (hs : ∀ x ∈ cs, x ∈ colsQ q) : okQ (wrp ws cs t q) ∧ dpQ (wrp ws cs t q) ≤ 9 := by
  have m3 : ws.getD 3 (PySem.Str.ofString "") ∈ ws := by
    rw [List.getD_eq_getElem?_getD, List.getElem?_eq_getElem (by omega)]
    exact List.getElem_mem _
  have m6 : ws.getD 6 (PySem.Str.ofString "") ∈ ws := by
    rw [List.getD_eq_getElem?_getD, List.getElem?_eq_getElem (by omega)]
    exact List.getElem_mem _
  have hl := okQ_cols hq
  unfold wrp
  split
  · exact ⟨⟨⟨⟨by decide, trivial, hw.isw _ m3⟩, hl⟩, hq⟩, by simp only [dpQ]; omega⟩
  · split
    · exact ⟨⟨⟨⟨hw.isw _ m6, by simp, .nil, nofun⟩, by simp [colsQ, ordS, insS]⟩, hq⟩, by simp only [dpQ]; omega⟩
    · split
      · have ec : colsQ (.fact (ws.getD 3 (PySem.Str.ofString "")) (cs.map Tm.col)) = cs := by
          simp only [colsQ]
          refine ordS_eq hc.sc fun x => ?_
          simp only [List.mem_filterMap, List.mem_map]
          constructor
          · rintro ⟨t, ⟨y, hy, rfl⟩, e⟩
            cases e
            exact hy
          · intro hx
            exact ⟨_, ⟨x, hx, rfl⟩, rfl⟩
        have okf : okQ (.fact (ws.getD 3 (PySem.Str.ofString "")) (cs.map Tm.col)) := ⟨⟨hw.isw _ m3, by rw [List.length_map]; exact hc.few, fun t ht => by
          obtain ⟨x, hx, rfl⟩ := List.mem_map.mp ht
          exact hc.isw x hx⟩, by rw [ec]; exact hc.few⟩
        refine ⟨⟨⟨fun x hx => hs x (by rw [← ec]; exact hx), hl⟩, hq, okf⟩, by simp only [dpQ]; omega⟩
      · exact ⟨hq, by omega⟩
theorem same_pre {a : D} (h : fitE 23 a = true) : sp_law_same3.pre [a, a] ∧ ∀ r ds', sp_law_same3.post [a, a] r ds' → ds' = [a, a] ∧ r = .bl true :=
  ⟨⟨a, a, rfl, h, h⟩, fun r ds' hp => by
    obtain ⟨h1, h2⟩ := hp
    obtain ⟨t, rfl, ht⟩ := h2 a a rfl
    exact ⟨h1, by rw [ht.mpr rfl]⟩⟩
/-- slots: 0 script, 1 draws, 2 words, 3 rule, 4 columns, 5 parts, 6 pair, 7 turn, 8 some, 9 question, 10 k -/
def w_law : WS :=
    (cSeq (cAsg 1 [0] 1 (cCallN 2 sp_law_draws (cCons (cVar 0) (cCons (cC (.int 120)) cNil))))
    (cSeq (cAsg 1 [0] 2 (cCallN 2 sp_law_words (cCons (cVar 1) (cCons (cC (.int 7)) cNil))))
    (cSeq (cAsg 1 [0] 3 (cCallN 2 sp_law_take (cCons (cVar 1) (cCons (cC (.int 12)) cNil))))
    (cSeq (cAsg 1 [0] 4 (cBi fTuple (cCons (cBi fSortS (cCons (cSlH (cVar 2) (cCallN 2 sp_law_take (cCons (cVar 1) (cCons (cC (.int 3)) cNil)))) cNil)) cNil)))
    (cSeq (cIte (cOp fEqS (cVar 3) (cC (.int 7)))
      (cAsg 1 [0] 4 (cBi fTuple (cCons (cBi fSortS (cCons (cSlH (cVar 2) (cC (.int 2))) cNil)) cNil)))
      cNilS)
    (cSeq (cAsg 1 [0] 5 (cLc [10] (iR1 (cC (.int 3))) (gN 1 [] 10) tTrue (cCallN 5 sp_law_still (cCons (cVar 1) (cCons (cVar 0) (cCons (cVar 2) (cCons (cOp fIx (cVar 2) (cOp fAddG (cVar 10) (cC (.int 3)))) (cCons (cVar 4) cNil))))))))
    (cSeq (cIte (cOp (fIn false) (cVar 3) (cLst (cCons (cC (.int 4)) (cCons (cC (.int 8)) (cCons (cC (.int 9)) (cCons (cC (.int 10)) (cCons (cC (.int 11)) cNil)))))))
      (cAsg 1 [0] 6 (cCallN 4 sp_law_two (cCons (cVar 1) (cCons (cVar 0) (cCons (cVar 5) (cCons (cVar 3) cNil))))))
      (cAsg 1 [0] 6 (cCallN 5 sp_law_one (cCons (cVar 1) (cCons (cVar 0) (cCons (cOp fIx (cVar 5) (cC (.int 0))) (cCons (cVar 4) (cCons (cVar 3) cNil))))))))
    (cSeq (cAsg 1 [0] 7 (cCallN 2 sp_law_take (cCons (cVar 1) (cCons (cC (.int 4)) cNil))))
    (cSeq (cAsg 1 [0] 8 (cCallN 2 sp_law_some_columns (cCons (cVar 1) (cCons (cVar 4) cNil))))
    (cSeq (cIte (cOr (cOp fEqS (cVar 3) (cC (.int 5))) (cOp fEqS (cVar 3) (cC (.int 6))))
      (cAsg 1 [0] 8 (cTup cNil))
      cNilS)
    (cSeq (cAsg 1 [0] 9 (cCallN 5 sp_law_within_another (cCons (cVar 1) (cCons (cVar 2) (cCons (cVar 8) (cCons (cVar 7) (cCons (cOp fIx (cVar 6) (cC (.int 0))) cNil)))))))
    (cRet 1 (cCallN 2 sp_law_same3 (cCons (cCallN 1 sp_simplified (cCons (cVar 9) cNil)) (cCons (cCallN 5 sp_law_within_another (cCons (cVar 1) (cCons (cVar 2) (cCons (cVar 8) (cCons (cVar 7) (cCons (cOp fIx (cVar 6) (cC (.int 1))) cNil)))))) cNil)))))))))))))))
def wc_law_4 : WS :=
    (cSeq (cAsg 1 [0] 7 (cCallN 2 sp_law_take (cCons (cVar 1) (cCons (cC (.int 4)) cNil))))
    (cSeq (cAsg 1 [0] 8 (cCallN 2 sp_law_some_columns (cCons (cVar 1) (cCons (cVar 4) cNil))))
    (cSeq (cIte (cOr (cOp fEqS (cVar 3) (cC (.int 5))) (cOp fEqS (cVar 3) (cC (.int 6))))
      (cAsg 1 [0] 8 (cTup cNil))
      cNilS)
    (cSeq (cAsg 1 [0] 9 (cCallN 5 sp_law_within_another (cCons (cVar 1) (cCons (cVar 2) (cCons (cVar 8) (cCons (cVar 7) (cCons (cOp fIx (cVar 6) (cC (.int 0))) cNil)))))))
    (cRet 1 (cCallN 2 sp_law_same3 (cCons (cCallN 1 sp_simplified (cCons (cVar 9) cNil)) (cCons (cCallN 5 sp_law_within_another (cCons (cVar 1) (cCons (cVar 2) (cCons (cVar 8) (cCons (cVar 7) (cCons (cOp fIx (cVar 6) (cC (.int 1))) cNil)))))) cNil))))))))
def wc_law_3 : WS :=
    (cCut (cIte (cOp (fIn false) (cVar 3) (cLst (cCons (cC (.int 4)) (cCons (cC (.int 8)) (cCons (cC (.int 9)) (cCons (cC (.int 10)) (cCons (cC (.int 11)) cNil)))))))
      (cAsg 1 [0] 6 (cCallN 4 sp_law_two (cCons (cVar 1) (cCons (cVar 0) (cCons (cVar 5) (cCons (cVar 3) cNil))))))
      (cAsg 1 [0] 6 (cCallN 5 sp_law_one (cCons (cVar 1) (cCons (cVar 0) (cCons (cOp fIx (cVar 5) (cC (.int 0))) (cCons (cVar 4) (cCons (cVar 3) cNil)))))))) (wc_law_4))
def wc_law_2 : WS :=
    (cCut (cAsg 1 [0] 5 (cLc [10] (iR1 (cC (.int 3))) (gN 1 [] 10) tTrue (cCallN 5 sp_law_still (cCons (cVar 1) (cCons (cVar 0) (cCons (cVar 2) (cCons (cOp fIx (cVar 2) (cOp fAddG (cVar 10) (cC (.int 3)))) (cCons (cVar 4) cNil)))))))) (wc_law_3))
def wc_law_1 : WS :=
    (cSeq (cAsg 1 [0] 4 (cBi fTuple (cCons (cBi fSortS (cCons (cSlH (cVar 2) (cCallN 2 sp_law_take (cCons (cVar 1) (cCons (cC (.int 3)) cNil)))) cNil)) cNil)))
    (cCut (cIte (cOp fEqS (cVar 3) (cC (.int 7)))
      (cAsg 1 [0] 4 (cBi fTuple (cCons (cBi fSortS (cCons (cSlH (cVar 2) (cC (.int 2))) cNil)) cNil)))
      cNilS) (wc_law_2)))
def wc_law_0 : WS :=
    (cSeq (cAsg 1 [0] 1 (cCallN 2 sp_law_draws (cCons (cVar 0) (cCons (cC (.int 120)) cNil))))
    (cSeq (cAsg 1 [0] 2 (cCallN 2 sp_law_words (cCons (cVar 1) (cCons (cC (.int 7)) cNil))))
    (cCut (cAsg 1 [0] 3 (cCallN 2 sp_law_take (cCons (cVar 1) (cCons (cC (.int 12)) cNil)))) (wc_law_1))))
theorem wc_law_eq : w_law = wc_law_0 := by
  unfold wc_law_0 wc_law_1 wc_law_2 wc_law_3 wc_law_4
  simp only [cCut_eq]
  rfl
abbrev kt_law (ds : List D) : Kt := { nx := fun e => sp_law.post ds .non (outs e 1), rt := fun d e => sp_law.post ds d (outs e 1) }
abbrev KLw (ns : List Int) : Kt := kt_law [.rol (ns.map D.int)]
structure LQ (ws cs : List Str) (k : Int) : Prop where
  hw : WsOk ws
  h7 : ws.length = 7
  hc : CsOk cs
  hl : cs.length ≤ 2
  k7 : k = 7 → cs.length = 2
  k0 : 0 ≤ k
  k1 : k < 12
abbrev LE (ns ms : List Int) (ws cs : List Str) (k : Int) (t : List (Option D)) : DEnv := some (.rol (ns.map D.int)) :: some (.lst (ms.map D.int)) :: some (.lst (ws.map D.str)) :: some (.int k) :: some (encC cs) :: t
theorem law4 {ns ms : List Int} {ws cs : List Str} {k : Int} {o : Option D} {d : D} (L : LQ ws cs k) (h : Pr cs (!(decide (k = 5) || decide (k = 6))) d) : wc_law_4 (LE ns ms ws cs k (o :: some d :: List.replicate 4 none)) (KLw ns) := by
  obtain ⟨x, y, rfl, okx, dx, hxy, hcx⟩ := h
  have hw := L.hw
  have hl7 := L.h7
  have hcl := L.hl
  have nlx := encQ_nl x
  have nly := encQ_nl y
  walk_at "Ddlx"
  refine ⟨⟨⟨_, rfl⟩, by decide⟩, ?_⟩
  rintro _ _ ⟨n2, t, rfl, rfl, t0, t1⟩
  walk_at "Ddlx"
  refine ⟨⟨n2, cs, rfl, by omega⟩, ?_⟩
  intro r ds' hp2
  obtain ⟨n3, es, rfl, rfl, hes⟩ := hp2 _ _ rfl
  have fin : ∀ es : List Str, CsOk es → (∀ c ∈ es, c ∈ colsQ x) → wrp ws es t y = simQ (wrp ws es t x) ∧ okQ (wrp ws es t x) ∧ dpQ (wrp ws es t x) ≤ 9 := fun es he hm => by
    obtain ⟨h1, h2⟩ := ok_wrp (ws := ws) (cs := es) (t := t) okx (by omega) hw (by omega) he hm
    exact ⟨by rw [sim_wrp, hxy], h1, h2⟩
  have go : ∀ es : List Str, CsOk es → (∀ c ∈ es, c ∈ colsQ x) → es.length ≤ 8 → ∀ (K : W) , True := fun _ _ _ _ _ => trivial
  have call : ∀ (es : List Str) (q : Qn), es.length ≤ 8 → sp_law_within_another.pre [.lst (n3.map D.int), .lst (ws.map D.str), encC es, .int t, encQ q] ∧ ∀ r ds', sp_law_within_another.post [.lst (n3.map D.int), .lst (ws.map D.str), encC es, .int t, encQ q] r ds' → ds' = [.lst (n3.map D.int), .lst (ws.map D.str), encC es, .int t, encQ q] ∧ r = encQ (wrp ws es t q) :=
    fun es q he => ⟨⟨n3, ws, es, t, q, rfl, by omega, he⟩, fun r ds' h => ⟨h.1, h.2 _ _ _ _ _ rfl⟩⟩
  have sim : ∀ q : Qn, okQ q → dpQ q ≤ 9 → sp_simplified.pre [encQ q] ∧ ∀ r ds', sp_simplified.post [encQ q] r ds' → ds' = [encQ q] ∧ r = encQ (simQ q) := fun q h1 h2 => ⟨⟨q, rfl, h1, (by show 2 * dpQ q ≤ 31 + 1; omega), by omega⟩, fun r ds' h => ⟨h.1, h.2 _ rfl⟩⟩
  by_cases h56 : k = 5 ∨ k = 6
  · obtain ⟨f1, f2, f3⟩ := fin [] ⟨.nil, by simp, nofun⟩ nofun
    have s1 := sim _ f2 f3
    have fq := same_pre (fitQ1 23 _ (okQ_sm _ (simQ_ok f2).1) (by have := simQ_dp (wrp ws [] t x); omega))
    have nlw := encQ_nl (wrp ws [] t x)
    have nls := encQ_nl (simQ (wrp ws [] t x))
    have cx := call [] x (by simp)
    have cy := call [] y (by simp)
    rw [f1] at cy
    rcases h56 with rfl | rfl <;>
    · walk_at "Ddlx"
      refine ⟨cx.1, fun r0 ds' hq0 => ?_⟩
      obtain ⟨rfl, rfl⟩ := cx.2 r0 ds' hq0
      walk_at "Ddlx"
      refine ⟨s1.1, fun r0 ds' hq0 => ?_⟩
      obtain ⟨rfl, rfl⟩ := s1.2 r0 ds' hq0
      walk_at "Ddlx"
      refine ⟨cy.1, fun r0 ds' hq0 => ?_⟩
      obtain ⟨rfl, rfl⟩ := cy.2 r0 ds' hq0
      walk_at "Ddlx"
      refine ⟨fq.1, fun r0 ds' hq0 => ?_⟩
      obtain ⟨rfl, rfl⟩ := fq.2 r0 ds' hq0
      walk_at "Ddlx"
      try rfl
  · have h5 : ¬ k = 5 := fun h => h56 (.inl h)
    have h6 : ¬ k = 6 := fun h => h56 (.inr h)
    have ecx := hcx (by rw [decide_eq_false h5, decide_eq_false h6]; rfl)
    have he := L.hc.sub hes
    obtain ⟨f1, f2, f3⟩ := fin es he fun c hc => by rw [ecx]; exact hes.subset hc
    have s1 := sim _ f2 f3
    have fq := same_pre (fitQ1 23 _ (okQ_sm _ (simQ_ok f2).1) (by have := simQ_dp (wrp ws es t x); omega))
    have nlw := encQ_nl (wrp ws es t x)
    have nls := encQ_nl (simQ (wrp ws es t x))
    have cx := call es x he.few
    have cy := call es y he.few
    rw [f1] at cy
    walk_at "Ddlx"
    refine ⟨cx.1, fun r0 ds' hq0 => ?_⟩
    obtain ⟨rfl, rfl⟩ := cx.2 r0 ds' hq0
    walk_at "Ddlx"
    refine ⟨s1.1, fun r0 ds' hq0 => ?_⟩
    obtain ⟨rfl, rfl⟩ := s1.2 r0 ds' hq0
    walk_at "Ddlx"
    refine ⟨cy.1, fun r0 ds' hq0 => ?_⟩
    obtain ⟨rfl, rfl⟩ := cy.2 r0 ds' hq0
    walk_at "Ddlx"
    refine ⟨fq.1, fun r0 ds' hq0 => ?_⟩
    obtain ⟨rfl, rfl⟩ := fq.2 r0 ds' hq0
    walk_at "Ddlx"
    try rfl
theorem law3 {ns ms : List Int} {ws cs : List Str} {k : Int} {n1 n2 n3 : Str} {p q r : Qn} (L : LQ ws cs k) (w1 : isW n1 = true) (w2 : isW n2 = true) (w3 : isW n3 = true) (h12 : n1 ≠ n2) (h13 : n1 ≠ n3) (h23 : n2 ≠ n3) (hp : Still n1 cs p) (hq : Still n2 cs q) (hr : Still n3 cs r) :
    wc_law_3 (LE ns ms ws cs k (some (.lst [encQ p, encQ q, encQ r]) :: List.replicate 5 none)) (KLw ns) := by
  have nlp := encQ_nl p
  have nlq := encQ_nl q
  have nlr := encQ_nl r
  have k0 := L.k0
  have k1 := L.k1
  have colp := (hp.so w1 L.hc L.hl).cols
  by_cases h : k = 4 ∨ k = 8 ∨ k = 9 ∨ k = 10 ∨ k = 11
  · have cont := fun (d : D) (ks : List Int) (h : Pr cs (!(decide (k = 5) || decide (k = 6))) d) => law4 (ns := ns) (ms := ks) (o := some (.lst [encQ p, encQ q, encQ r])) L h
    rcases h with rfl | rfl | rfl | rfl | rfl <;>
    · walk_at "Ddlx"
      refine ⟨⟨ms, ns, n1, n2, n3, cs, p, q, r, _, rfl, ⟨w1, w2, w3, L.hc, L.hl⟩, ⟨h12, h13, h23⟩, by simp, hp, hq, hr⟩, ?_⟩
      intro r0 ds' hp2
      obtain ⟨n4, hpr, rfl⟩ := hp2 _ _ _ _ _ _ rfl
      rw [colp] at hpr
      have nl0 : isL r0 = false := by obtain ⟨_, _, rfl, _⟩ := hpr; rfl
      walk_at "Ddlx"
      exact Stop.mk (cont _ _ hpr)
  · have h' : k = 0 ∨ k = 1 ∨ k = 2 ∨ k = 3 ∨ k = 5 ∨ k = 6 ∨ k = 7 := by omega
    have cont := fun (d : D) (ks : List Int) (h : Pr cs (!(decide (k = 5) || decide (k = 6))) d) => law4 (ns := ns) (ms := ks) (o := some (.lst [encQ p, encQ q, encQ r])) L h
    have k7 := L.k7
    clear h
    rcases h' with rfl | rfl | rfl | rfl | rfl | rfl | rfl <;>
    · walk_at "Ddlx"
      refine ⟨⟨ms, ns, n1, cs, p, _, rfl, w1, L.hc, L.hl, k7, by simp, hp⟩, ?_⟩
      intro r0 ds' hp2
      obtain ⟨n4, hpr, rfl⟩ := hp2 _ _ _ _ _ rfl
      have nl0 : isL r0 = false := by obtain ⟨_, _, rfl, _⟩ := hpr; rfl
      walk_at "Ddlx"
      exact Stop.mk (cont _ _ hpr)
theorem nd_inj {ws : List Str} (h : ws.Nodup) {i j : Nat} (hi : i < ws.length) (hj : j < ws.length) (e : ws[i] = ws[j]) : i = j := by
  rcases Nat.lt_trichotomy i j with h1 | h1 | h1
  · exact absurd e (List.pairwise_iff_getElem.mp h i j hi hj h1)
  · exact h1
  · exact absurd e.symm (List.pairwise_iff_getElem.mp h j i hj hi h1)
theorem law2 {ns ms : List Int} {ws cs : List Str} {k : Int} (L : LQ ws cs k) : wc_law_2 (LE ns ms ws cs k (List.replicate 6 none)) (KLw ns) := by
  have hw := L.hw
  have hl7 := L.h7
  have g : ∀ j, j < 7 → ∃ w, ws[j]? = some w ∧ isW w = true := fun j hj => ⟨_, List.getElem?_eq_getElem (by omega), hw.isw _ (List.getElem_mem _)⟩
  obtain ⟨n1, e1, w1⟩ := g 3 (by decide)
  obtain ⟨n2, e2, w2⟩ := g 4 (by decide)
  obtain ⟨n3, e3, w3⟩ := g 5 (by decide)
  have ne : ∀ i j a b, ws[i]? = some a → ws[j]? = some b → i ≠ j → a ≠ b := fun i j a b hi hj hij e => by
    obtain ⟨li, rfl⟩ := List.getElem?_eq_some_iff.mp hi
    obtain ⟨lj, rfl⟩ := List.getElem?_eq_some_iff.mp hj
    exact hij (nd_inj hw.nd li lj e)
  have h12 := ne 3 4 _ _ e1 e2 (by decide)
  have h13 := ne 3 5 _ _ e1 e3 (by decide)
  have h23 := ne 4 5 _ _ e2 e3 (by decide)
  have a3 : atI (ws.map D.str) (0 + 3) = some (.str n1) := atI_nat (j := 3) (by rw [List.getElem?_map, e1]; rfl)
  have a4 : atI (ws.map D.str) (0 + 1 + 3) = some (.str n2) := atI_nat (j := 4) (by rw [List.getElem?_map, e2]; rfl)
  have a5 : atI (ws.map D.str) (0 + 1 + 1 + 3) = some (.str n3) := atI_nat (j := 5) (by rw [List.getElem?_map, e3]; rfl)
  have call : ∀ (ks : List Int) (nm : Str), sp_law_still.pre [.lst (ks.map D.int), .rol (ns.map D.int), .lst (ws.map D.str), .str nm, encC cs] := fun ks nm => ⟨ks, ns, ws, nm, cs, rfl, hw, by omega, L.hl⟩
  walk_at "Ddlx"
  refine Loop.mk ?_
  walk_at "Ddlx"
  rw [a3]
  walk_at "Ddlx"
  refine ⟨call _ _, ?_⟩
  intro r0 ds' hp2
  obtain ⟨m1, p, rfl, rfl, hp⟩ := hp2 _ _ _ _ _ rfl
  have nlp := encQ_nl p
  walk_at "Ddlx"
  rw [a4]
  walk_at "Ddlx"
  refine ⟨call _ _, ?_⟩
  intro r0 ds' hp2
  obtain ⟨m2, q, rfl, rfl, hq⟩ := hp2 _ _ _ _ _ rfl
  have nlq := encQ_nl q
  walk_at "Ddlx"
  rw [a5]
  walk_at "Ddlx"
  refine ⟨call _ _, ?_⟩
  intro r0 ds' hp2
  obtain ⟨m3, r, rfl, rfl, hr⟩ := hp2 _ _ _ _ _ rfl
  have nlr := encQ_nl r
  walk_at "Ddlx"
  exact Stop.mk (law3 (ms := m3) L w1 w2 w3 h12 h13 h23 hp hq hr)
theorem sort_ok {ws ys : List Str} {m : Nat} (hw : WsOk ws) (hm : m ≤ 2) (hp : ys.Perm (ws.take m)) (hs : sortedS ys = true) : CsOk ys ∧ ys.length ≤ 2 ∧ (7 ≤ ws.length → ys.length = m) := by
  have hsub : (ws.take m).Sublist ws := List.take_sublist _ _
  have hl : (ws.take m).length ≤ m := by rw [List.length_take]; omega
  refine ⟨⟨SC_perm hs hp (nodup_sub hw hsub), by rw [hp.length_eq]; omega, fun w h => hw.isw w (hsub.subset (hp.mem_iff.mp h))⟩, by rw [hp.length_eq]; omega, fun h => ?_⟩
  rw [hp.length_eq, List.length_take]
  omega
theorem pure_law : ∀ ds, ds.length = 1 → sp_law.pre ds → w_law (env0 ds 10) { nx := fun e => sp_law.post ds .non (outs e 1), rt := fun d e => sp_law.post ds d (outs e 1) } := by
  rintro ds _ ⟨ns, rfl, hl⟩
  rw [wc_law_eq]
  walk_at "Ddlx"
  refine ⟨⟨⟨ns, rfl⟩, by simpa using hl, by decide, by decide⟩, ?_⟩
  rintro _ _ ⟨rfl, ms, rfl⟩
  walk_at "Ddlx"
  refine ⟨⟨ms, 7, rfl, by decide, by decide⟩, ?_⟩
  intro r ds' hp
  obtain ⟨m1, ws, rfl, rfl, w1, w2, w3⟩ := hp _ _ rfl
  have hw : WsOk ws := words_ok w1 (by decide) (by decide) w2 w3
  have h7 : ws.length = 7 := by omega
  walk_at "Ddlx"
  refine ⟨⟨⟨_, rfl⟩, by decide⟩, ?_⟩
  rintro _ _ ⟨m2, k, rfl, rfl, k0, k1⟩
  walk_at "Ddlx"
  refine stopE (e := [some (.rol (ns.map D.int)), some (.lst (m2.map D.int)), some (.lst (ws.map D.str)), some (.int k), none, none, none, none, none, none, none]) rfl ?_
  walk_at "Ddlx"
  refine ⟨⟨⟨_, rfl⟩, by decide⟩, ?_⟩
  rintro _ _ ⟨m3, t, rfl, rfl, t0, t1⟩
  walk_at "Ddlx"
  rw [cutM_hi D.str ws t0, strsD_map]
  refine ⟨by rw [List.length_take]; omega, fun ys hp hs => ?_⟩
  obtain ⟨c1, c2, c3⟩ := sort_ok hw (by omega) hp hs
  walk_at "Ddlx"
  refine ifb_dec (fun g7 => ?_) (fun g7 => ?_)
  · walk_at "Ddlx"
    rw [cutM_hi D.str ws (by decide), strsD_map]
    refine ⟨by rw [List.length_take]; omega, fun zs hp hs => ?_⟩
    obtain ⟨d1, d2, d3⟩ := sort_ok hw (by decide) hp hs
    walk_at "Ddlx"
    exact Stop.mk (law2 (ms := m3) (cs := zs) ⟨hw, h7, d1, d2, fun _ => d3 (by omega), k0, k1⟩)
  · walk_at "Ddlx"
    exact Stop.mk (law2 (ms := m3) (cs := ys) ⟨hw, h7, c1, c2, fun h => absurd h g7, k0, k1⟩)
end DL

namespace Lw
open PySem PySem.Spec PyProof.Rows L2 DL
def topS (i : Nat) : Stmt := PySem.Challenge.pw_ateverymoment_k44_each_rule_once.main.body.getD i (.Pass ⟨0, 0, 0, 0⟩)
structure Blt (mg : Str → Option Value) : Prop where
  len_ : mg "len" = none
  range_ : mg "range" = none
  int_ : mg "int" = none
  abs_ : mg "abs" = none
  list_ : mg "list" = none
  tuple_ : mg "tuple" = none
  sum_ : mg "sum" = none
  any_ : mg "any" = none
  sorted_ : mg "sorted" = none
  max_ : mg "max" = none
  min_ : mg "min" = none
  divmod_ : mg "divmod" = none
  isinstance_ : mg "isinstance" = none
  zip_ : mg "zip" = none
  reversed_ : mg "reversed" = none
  bool_ : mg "bool" = none
  str_ : mg "str" = none
  set_ : mg "set" = none
  all_ : mg "all" = none
  enumerate_ : mg "enumerate" = none
section
variable {P : Program} {w : World} {K : PySem.W.Frag} {mg : Str → Option Value} {base : Heap}
abbrev s_parts_of : Stmt := topS 7
abbrev N_parts_of : List Str := ["question", "forms", "form", "item"]
theorem sc_parts_of : FnScope ["question", "forms", "form", "item"] ["question"] (defScope s_parts_of) := ⟨rfl, rfl, rfl, by decide +kernel, rfl, by decide +kernel, by decide +kernel⟩
set_option maxHeartbeats 0 in
theorem ok_parts_of {f : Addr} {fd : FuncData} (B : Blt mg) (F : Fun K "parts_of" "parts_of" s_parts_of f fd) (G_ITEMS : DctT w K mg "ITEMS" tab_ITEMS) : FnOk P w K mg base CX0 1 f fd ["question"] (spOf K 1 sp_parts_of) := by
  have nd := (sc_parts_of).nd
  exact fn_ok w_parts_of F sc_parts_of (fun cdv A outer s H E hr =>
    (s_cons (s_asg 1 nd (e_itm G_ITEMS (e_ixs (e_var 0) e_int)))
    (s_one (s_ret (e_tuple B.tuple_ (e_lc rfl nd (i_zipG B.zip_ (e_var 1) (e_slL (e_var 0) e_int)) (blkOk_by (N := N_parts_of) (sc := defScope s_parts_of) (own := [("form", 2), ("item", 3)]) (by decide +kernel)) (fun _ _ _ _ _ => (g_tup rfl (g_cons (g_name 2 nd) (g_cons (g_name 3 nd) g_nil)))) (fun _ _ _ _ _ => (ts_one (t_eqS (e_var 2) e_str))) (fun _ _ _ _ _ => (e_var 3)))))))) pure_parts_of
abbrev s_columns_of : Stmt := topS 8
abbrev N_columns_of : List Str := ["question", "part"]
theorem sc_columns_of : FnScope ["question", "part"] ["question"] (defScope s_columns_of) := ⟨rfl, rfl, rfl, by decide +kernel, rfl, by decide +kernel, by decide +kernel⟩
set_option maxHeartbeats 0 in
theorem okn_columns_of {f : Addr} {fd : FuncData} (B : Blt mg) (F : Fun K "columns_of" "columns_of" s_columns_of f fd) (g : mg "columns_of" = some (.ref f)) (F_node_columns : FnD P w K mg base 2 "node_columns" ["question", "given"] sp_node_columns) (F_parts_of : FnD P w K mg base 1 "parts_of" ["question"] sp_parts_of) : ∀ n : Nat, FnOk P w K mg base CX0 (2 + n) f fd ["question"] (spOf K 1 (spn_columns_of n))
  | 0 => fn_false fun _ h => h
  | n + 1 => by
    have nd := (sc_columns_of).nd
    have F_columns_of : FnD P w K mg base (2 + n) "columns_of" ["question"] (spn_columns_of n) := ⟨f, fd, okn_columns_of B F g F_node_columns F_parts_of n, g, F.kp, F.binds fun _ _ _ _ _ _ us hl => match us, hl with | [_], _ => rfl⟩
    exact fn_ok (w_columns_of n) F sc_columns_of (fun cdv A outer s H E hr =>
    (s_one (s_ret (e_call F_node_columns (hr.mono (j := 2) (Nat.le_trans (by decide : _ ≤ 2) (Nat.le_add_right _ _))) (a_cons (e_var 0) (a_cons (e_lc rfl nd (i_seq (e_call F_parts_of (hr.mono (j := 1) (Nat.le_trans (by decide : _ ≤ 2) (Nat.le_add_right _ _))) (a_cons (e_var 0) a_nil))) (blkOk_by (N := N_columns_of) (sc := defScope s_columns_of) (own := [("part", 1)]) (by decide +kernel)) (fun _ _ _ _ _ => (g_name 1 nd)) (fun _ _ _ _ _ => ts_nil) (fun _ _ _ _ _ => (e_call F_columns_of (hr.mono (j := 2 + n) (Nat.le_refl _)) (a_cons (e_var 1) a_nil)))) a_nil)))))) (pure_columns_of n)
theorem ok_columns_of {f : Addr} {fd : FuncData} (B : Blt mg) (F : Fun K "columns_of" "columns_of" s_columns_of f fd) (g : mg "columns_of" = some (.ref f)) (F_node_columns : FnD P w K mg base 2 "node_columns" ["question", "given"] sp_node_columns) (F_parts_of : FnD P w K mg base 1 "parts_of" ["question"] sp_parts_of) : FnOk P w K mg base CX0 18 f fd ["question"] (spOf K 1 sp_columns_of) :=
  okn_columns_of B F g F_node_columns F_parts_of 16
abbrev s_node_columns : Stmt := topS 9
abbrev N_node_columns : List Str := ["question", "given", "kind", "form", "item"]
theorem sc_node_columns : FnScope ["question", "given", "kind", "form", "item"] ["question", "given"] (defScope s_node_columns) := ⟨rfl, rfl, rfl, by decide +kernel, rfl, by decide +kernel, by decide +kernel⟩
set_option maxHeartbeats 0 in
theorem ok_node_columns {f : Addr} {fd : FuncData} (B : Blt mg) (F : Fun K "node_columns" "node_columns" s_node_columns f fd) (F_ordered : FnD P w K mg base 1 "ordered" ["words"] sp_ordered) (G_TOTALS : GlbT K mg "TOTALS" tab_TOTALS) (G_FOLLOWING : GlbT K mg "FOLLOWING" tab_FOLLOWING) : FnOk P w K mg base CX0 2 f fd ["question", "given"] (spOf K 2 sp_node_columns) := by
  have nd := (sc_node_columns).nd
  exact fn_ok w_node_columns F sc_node_columns (fun cdv A outer s H E hr =>
    (s_cons (s_asg 2 nd (e_ixs (e_var 0) e_int))
    (s_cons (s_if (t_eqS (e_var 2) e_str)
      (s_one (s_ret (e_call F_ordered (hr.mono (j := 1) (by decide)) (a_cons (e_lc rfl nd (i_seq (e_ixs (e_var 0) e_int)) (blkOk_by (N := N_node_columns) (sc := defScope s_node_columns) (own := [("form", 3), ("item", 4)]) (by decide +kernel)) (fun _ _ _ _ _ => (g_tup rfl (g_cons (g_name 3 nd) (g_cons (g_name 4 nd) g_nil)))) (fun _ _ _ _ _ => (ts_one (t_eqS (e_var 3) e_str))) (fun _ _ _ _ _ => (e_var 4))) a_nil))))
      s_nil)
    (s_cons (s_if (t_eqS (e_var 2) e_str)
      (s_one (s_ret (e_call F_ordered (hr.mono (j := 1) (by decide)) (a_cons (e_addG (e_ixs (e_var 1) e_int) (e_ixs (e_var 1) e_int)) a_nil))))
      s_nil)
    (s_cons (s_if (t_eqS (e_var 2) e_str)
      (s_one (s_ret (e_ixs (e_var 0) e_int)))
      s_nil)
    (s_cons (s_if (t_in (e_var 2) (e_gtup G_TOTALS))
      (s_one (s_ret (e_call F_ordered (hr.mono (j := 1) (by decide)) (a_cons (e_addG (e_tup (a_cons (e_ixs (e_var 0) e_int) a_nil)) (e_ixs (e_var 0) (e_neg e_int))) a_nil))))
      s_nil)
    (s_one (s_ret (e_ifx (t_in (e_var 2) (e_gtup G_FOLLOWING)) (e_ixs (e_var 1) e_int) (e_ixs (e_var 1) e_int)))))))))) pure_node_columns
abbrev s_ordered : Stmt := topS 10
theorem sc_ordered : FnScope ["words"] ["words"] (defScope s_ordered) := ⟨rfl, rfl, rfl, by decide +kernel, rfl, by decide +kernel, by decide +kernel⟩
set_option maxHeartbeats 0 in
theorem ok_ordered {f : Addr} {fd : FuncData} (B : Blt mg) (F : Fun K "ordered" "ordered" s_ordered f fd) : FnOk P w K mg base CX0 1 f fd ["words"] (spOf K 1 sp_ordered) := by
  have nd := (sc_ordered).nd
  exact fn_ok w_ordered F sc_ordered (fun cdv A outer s H E hr =>
    (s_one (s_ret (e_tuple B.tuple_ (e_ssetT rfl B.sorted_ B.set_ (e_var 0)))))) pure_ordered
abbrev s_simplified : Stmt := topS 14
theorem sc_simplified : FnScope ["question", "found", "changed"] ["question"] (defScope s_simplified) := ⟨rfl, rfl, rfl, by decide +kernel, rfl, by decide +kernel, by decide +kernel⟩
abbrev s_with_simple_parts : Stmt := topS 15
abbrev N_with_simple_parts : List Str := ["question", "parts", "part"]
theorem sc_with_simple_parts : FnScope ["question", "parts", "part"] ["question"] (defScope s_with_simple_parts) := ⟨rfl, rfl, rfl, by decide +kernel, rfl, by decide +kernel, by decide +kernel⟩
abbrev s_changed_by_rule : Stmt := topS 16
theorem sc_changed_by_rule : FnScope ["question"] ["question"] (defScope s_changed_by_rule) := ⟨rfl, rfl, rfl, by decide +kernel, rfl, by decide +kernel, by decide +kernel⟩
set_option maxHeartbeats 0 in
theorem ok_changed_by_rule {f : Addr} {fd : FuncData} (B : Blt mg) (F : Fun K "changed_by_rule" "changed_by_rule" s_changed_by_rule f fd) (F_parts_of : FnD P w K mg base 1 "parts_of" ["question"] sp_parts_of) (F_changed_with_one_part : FnD P w K mg base 20 "changed_with_one_part" ["question"] sp_changed_with_one_part) (F_changed_with_two_parts : FnD P w K mg base 1 "changed_with_two_parts" ["question"] sp_changed_with_two_parts) : FnOk P w K mg base CX0 21 f fd ["question"] (spOf K 1 sp_changed_by_rule) := by
  have nd := (sc_changed_by_rule).nd
  exact fn_ok w_changed_by_rule F sc_changed_by_rule (fun cdv A outer s H E hr =>
    (s_cons (s_if (t_eqS (e_len B.len_ (e_call F_parts_of (hr.mono (j := 1) (by decide)) (a_cons (e_var 0) a_nil))) e_int)
      (s_one (s_ret (e_call F_changed_with_one_part (hr.mono (j := 20) (by decide)) (a_cons (e_var 0) a_nil))))
      s_nil)
    (s_one (s_ret (e_call F_changed_with_two_parts (hr.mono (j := 1) (by decide)) (a_cons (e_var 0) a_nil)))))) pure_changed_by_rule
abbrev s_changed_with_one_part : Stmt := topS 17
theorem sc_changed_with_one_part : FnScope ["question", "part", "a", "b", "kind", "same", "columns"] ["question"] (defScope s_changed_with_one_part) := ⟨rfl, rfl, rfl, by decide +kernel, rfl, by decide +kernel, by decide +kernel⟩
set_option maxHeartbeats 0 in
theorem ok_changed_with_one_part {f : Addr} {fd : FuncData} (B : Blt mg) (F : Fun K "changed_with_one_part" "changed_with_one_part" s_changed_with_one_part f fd) (F_changed_only : FnD P w K mg base 19 "changed_only" ["columns", "part"] sp_changed_only) (F_joined_bound : FnD P w K mg base 1 "joined_bound" ["one", "other"] sp_joined_bound) (G_LOOKING : GlbT K mg "LOOKING" tab_LOOKING) : FnOk P w K mg base CX0 20 f fd ["question"] (spOf K 1 sp_changed_with_one_part) := by
  have nd := (sc_changed_with_one_part).nd
  exact fn_ok w_changed_with_one_part F sc_changed_with_one_part (fun cdv A outer s H E hr =>
    (s_cons (s_match (e_var 0)
      (c_case [1] nd (p_seq rfl (ps_cns (p_str hr.units) (ps_cns (p_int hr.units) (ps_cns p_cap ps_nil)))) (by repeat' first | exact rfl | exact trivial | exact Or.inl rfl | exact Or.inr rfl | refine And.intro ?_ ?_) (s_one (s_ret (e_var 1)))
      (c_guard [2, 3, 1] nd (p_seq rfl (ps_cns (p_str hr.units) (ps_cns p_cap (ps_cns (p_seq rfl (ps_cns (p_str hr.units) (ps_cns p_cap (ps_cns p_cap ps_nil)))) ps_nil)))) (by repeat' first | exact rfl | exact trivial | exact Or.inl rfl | exact Or.inr rfl | refine And.intro ?_ ?_) (t_bop (w_or (t_ge (e_var 2) e_int) (w_or1 (t_le (e_var 3) e_int)))) (s_one (s_ret (e_tup (a_cons e_str (a_cons (e_addG (e_var 2) (e_var 3)) (a_cons (e_var 1) a_nil))))))
      (c_guard [4, 1] nd (p_seq rfl (ps_cns p_cap (ps_cns (p_int hr.units) (ps_cns p_cap ps_nil)))) (by repeat' first | exact rfl | exact trivial | exact Or.inl rfl | exact Or.inr rfl | refine And.intro ?_ ?_) (t_in (e_var 4) (e_gtup G_LOOKING)) (s_one (s_ret (e_var 1)))
      (c_guard [4, 2, 5, 3, 1] nd (p_seq rfl (ps_cns p_cap (ps_cns p_cap (ps_cns (p_seq rfl (ps_cns p_cap (ps_cns p_cap (ps_cns p_cap ps_nil)))) ps_nil)))) (by repeat' first | exact rfl | exact trivial | exact Or.inl rfl | exact Or.inr rfl | refine And.intro ?_ ?_) (t_bop (w_and (t_in (e_var 4) (e_gtup G_LOOKING)) (w_and1 (t_eqS (e_var 4) (e_var 5))))) (s_one (s_ret (e_tup (a_cons (e_var 4) (a_cons (e_call F_joined_bound (hr.mono (j := 1) (by decide)) (a_cons (e_var 2) (a_cons (e_var 3) a_nil))) (a_cons (e_var 1) a_nil))))))
      (c_case [6, 1] nd (p_seq rfl (ps_cns (p_str hr.units) (ps_cns p_cap (ps_cns p_cap ps_nil)))) (by repeat' first | exact rfl | exact trivial | exact Or.inl rfl | exact Or.inr rfl | refine And.intro ?_ ?_) (s_one (s_ret (e_call F_changed_only (hr.mono (j := 19) (by decide)) (a_cons (e_var 6) (a_cons (e_var 1) a_nil)))))
      (c_guard [1] nd (p_seq rfl (ps_cns (p_str hr.units) (ps_cns p_wild (ps_cns p_wild (ps_cns p_cap ps_nil))))) (by repeat' first | exact rfl | exact trivial | exact Or.inl rfl | exact Or.inr rfl | refine And.intro ?_ ?_) (t_eqS (e_ixs (e_var 1) e_int) e_str) (s_one (s_ret (e_var 1)))
      c_nil)))))))
    (s_one (s_ret e_non)))) pure_changed_with_one_part
abbrev s_joined_bound : Stmt := topS 18
theorem sc_joined_bound : FnScope ["one", "other"] ["one", "other"] (defScope s_joined_bound) := ⟨rfl, rfl, rfl, by decide +kernel, rfl, by decide +kernel, by decide +kernel⟩
set_option maxHeartbeats 0 in
theorem ok_joined_bound {f : Addr} {fd : FuncData} (B : Blt mg) (F : Fun K "joined_bound" "joined_bound" s_joined_bound f fd) : FnOk P w K mg base CX0 1 f fd ["one", "other"] (spOf K 2 sp_joined_bound) := by
  have nd := (sc_joined_bound).nd
  exact fn_ok w_joined_bound F sc_joined_bound (fun cdv A outer s H E hr =>
    (s_cons (s_if (t_bop (w_or (t_isN (e_var 0)) (w_or1 (t_isN (e_var 1)))))
      (s_one (s_ret e_non))
      s_nil)
    (s_one (s_ret (e_addG (e_var 0) (e_var 1)))))) pure_joined_bound
abbrev s_changed_only : Stmt := topS 19
theorem sc_changed_only : FnScope ["columns", "part"] ["columns", "part"] (defScope s_changed_only) := ⟨rfl, rfl, rfl, by decide +kernel, rfl, by decide +kernel, by decide +kernel⟩
set_option maxHeartbeats 0 in
theorem ok_changed_only {f : Addr} {fd : FuncData} (B : Blt mg) (F : Fun K "changed_only" "changed_only" s_changed_only f fd) (F_columns_of : FnD P w K mg base 18 "columns_of" ["question"] sp_columns_of) : FnOk P w K mg base CX0 19 f fd ["columns", "part"] (spOf K 2 sp_changed_only) := by
  have nd := (sc_changed_only).nd
  exact fn_ok w_changed_only F sc_changed_only (fun cdv A outer s H E hr =>
    (s_cons (s_if (t_eqD hr.units (e_var 0) (e_call F_columns_of (hr.mono (j := 18) (by decide)) (a_cons (e_var 1) a_nil)))
      (s_one (s_ret (e_var 1)))
      s_nil)
    (s_cons (s_if (t_eqS (e_ixs (e_var 1) e_int) e_str)
      (s_one (s_ret (e_tup (a_cons e_str (a_cons (e_var 0) (a_cons (e_ixs (e_var 1) e_int) a_nil))))))
      s_nil)
    (s_one (s_ret e_non))))) pure_changed_only
abbrev s_changed_with_two_parts : Stmt := topS 20
theorem sc_changed_with_two_parts : FnScope ["question", "kind", "p", "q", "a", "b", "same", "s", "r"] ["question"] (defScope s_changed_with_two_parts) := ⟨rfl, rfl, rfl, by decide +kernel, rfl, by decide +kernel, by decide +kernel⟩
set_option maxHeartbeats 0 in
theorem ok_changed_with_two_parts {f : Addr} {fd : FuncData} (B : Blt mg) (F : Fun K "changed_with_two_parts" "changed_with_two_parts" s_changed_with_two_parts f fd) (G_FOLLOWING : GlbT K mg "FOLLOWING" tab_FOLLOWING) (G_EVERY_MOMENT : GlbT K mg "EVERY_MOMENT" tab_EVERY_MOMENT) (G_SOME_MOMENT : GlbT K mg "SOME_MOMENT" tab_SOME_MOMENT) (G_SHIFTED_TOGETHER : GlbT K mg "SHIFTED_TOGETHER" tab_SHIFTED_TOGETHER) (G_SAME_TWICE : GlbT K mg "SAME_TWICE" tab_SAME_TWICE) : FnOk P w K mg base CX0 1 f fd ["question"] (spOf K 1 sp_changed_with_two_parts) := by
  have nd := (sc_changed_with_two_parts).nd
  exact fn_ok w_changed_with_two_parts F sc_changed_with_two_parts (fun cdv A outer s H E hr =>
    (s_cons (s_match (e_var 0)
      (c_guard [1, 2, 3] nd (p_seq rfl (ps_cns p_cap (ps_cns p_cap (ps_cns p_cap ps_nil)))) (by repeat' first | exact rfl | exact trivial | exact Or.inl rfl | exact Or.inr rfl | refine And.intro ?_ ?_) (t_bop (w_and (t_in (e_var 1) (e_gtup G_SAME_TWICE)) (w_and1 (t_eqD hr.units (e_var 2) (e_var 3))))) (s_one (s_ret (e_var 2)))
      (c_guard [1, 4, 2, 5, 3] nd (p_seq rfl (ps_cns p_cap (ps_cns (p_seq rfl (ps_cns (p_str hr.units) (ps_cns p_cap (ps_cns p_cap ps_nil)))) (ps_cns (p_seq rfl (ps_cns (p_str hr.units) (ps_cns p_cap (ps_cns p_cap ps_nil)))) ps_nil)))) (by repeat' first | exact rfl | exact trivial | exact Or.inl rfl | exact Or.inr rfl | refine And.intro ?_ ?_) (t_bop (w_and (t_in (e_var 1) (e_gtup G_SHIFTED_TOGETHER)) (w_and1 (t_eqS (e_var 4) (e_var 5))))) (s_one (s_ret (e_tup (a_cons e_str (a_cons (e_var 4) (a_cons (e_tup (a_cons (e_var 1) (a_cons (e_var 2) (a_cons (e_var 3) a_nil)))) a_nil))))))
      (c_guard [1, 4, 2, 6, 5, 3] nd (p_seq rfl (ps_cns (p_str hr.units) (ps_cns (p_seq rfl (ps_cns p_cap (ps_cns p_cap (ps_cns p_cap ps_nil)))) (ps_cns (p_seq rfl (ps_cns p_cap (ps_cns p_cap (ps_cns p_cap ps_nil)))) ps_nil)))) (by repeat' first | exact rfl | exact trivial | exact Or.inl rfl | exact Or.inr rfl | refine And.intro ?_ ?_) (t_bop (w_and (t_in (e_var 1) (e_gtup G_SOME_MOMENT)) (w_and1 (t_eqD hr.units (e_tup (a_cons (e_var 1) (a_cons (e_var 4) a_nil))) (e_tup (a_cons (e_var 6) (a_cons (e_var 5) a_nil))))))) (s_one (s_ret (e_tup (a_cons (e_var 1) (a_cons (e_var 4) (a_cons (e_tup (a_cons e_str (a_cons (e_var 2) (a_cons (e_var 3) a_nil)))) a_nil))))))
      (c_guard [1, 4, 2, 6, 5, 3] nd (p_seq rfl (ps_cns (p_str hr.units) (ps_cns (p_seq rfl (ps_cns p_cap (ps_cns p_cap (ps_cns p_cap ps_nil)))) (ps_cns (p_seq rfl (ps_cns p_cap (ps_cns p_cap (ps_cns p_cap ps_nil)))) ps_nil)))) (by repeat' first | exact rfl | exact trivial | exact Or.inl rfl | exact Or.inr rfl | refine And.intro ?_ ?_) (t_bop (w_and (t_in (e_var 1) (e_gtup G_EVERY_MOMENT)) (w_and1 (t_eqD hr.units (e_tup (a_cons (e_var 1) (a_cons (e_var 4) a_nil))) (e_tup (a_cons (e_var 6) (a_cons (e_var 5) a_nil))))))) (s_one (s_ret (e_tup (a_cons (e_var 1) (a_cons (e_var 4) (a_cons (e_tup (a_cons e_str (a_cons (e_var 2) (a_cons (e_var 3) a_nil)))) a_nil))))))
      (c_guard [1, 2, 3, 6, 7, 8] nd (p_seq rfl (ps_cns (p_str hr.units) (ps_cns (p_seq rfl (ps_cns p_cap (ps_cns p_cap (ps_cns p_cap ps_nil)))) (ps_cns (p_seq rfl (ps_cns p_cap (ps_cns p_cap (ps_cns p_cap ps_nil)))) ps_nil)))) (by repeat' first | exact rfl | exact trivial | exact Or.inl rfl | exact Or.inr rfl | refine And.intro ?_ ?_) (t_bop (w_and (t_in (e_var 1) (e_gtup G_FOLLOWING)) (w_and1 (t_eqD hr.units (e_tup (a_cons (e_var 1) (a_cons (e_var 2) a_nil))) (e_tup (a_cons (e_var 6) (a_cons (e_var 7) a_nil))))))) (s_one (s_ret (e_tup (a_cons (e_var 1) (a_cons (e_var 2) (a_cons (e_tup (a_cons e_str (a_cons (e_var 3) (a_cons (e_var 8) a_nil)))) a_nil))))))
      c_nil))))))
    (s_one (s_ret e_non)))) pure_changed_with_two_parts
abbrev s_law_draws : Stmt := topS 22
abbrev N_law_draws : List Str := ["script", "many", "cells", "rest", "draws", "k", "at", "mixed", "cell"]
theorem sc_law_draws : FnScope ["script", "many", "cells", "rest", "draws", "k", "at", "mixed", "cell"] ["script", "many"] (defScope s_law_draws) := ⟨rfl, rfl, rfl, by decide +kernel, rfl, by decide +kernel, by decide +kernel⟩
set_option maxHeartbeats 0 in
theorem ok_law_draws {f : Addr} {fd : FuncData} (B : Blt mg) (F : Fun K "_law_draws" "_law_draws" s_law_draws f fd) : FnOk P w K mg base CX0 1 f fd ["script", "many"] (spOf K 2 sp_law_draws) := by
  have nd := (sc_law_draws).nd
  exact fn_ok w_law_draws F sc_law_draws (fun cdv A outer s H E hr =>
    (s_cons (s_setLc 2 rfl nd (i_seq (e_var 0)) (blkOk_by (N := N_law_draws) (sc := defScope s_law_draws) (own := [("cell", 8)]) (by decide +kernel)) (fun _ _ _ _ _ => (g_name 8 nd)) (fun _ _ _ _ _ => ts_nil) (fun _ _ _ _ _ => (e_int1 B.int_ (e_var 8))))
    (s_cons (s_if (t_eqS (e_len B.len_ (e_var 2)) e_int)
      (s_one (s_expr (e_append (i := 2) e_int)))
      s_nil)
    (s_cons (s_asg 3 nd (e_list B.list_ (e_var 2)))
    (s_cons (s_asg 4 nd (e_lst a_nil))
    (s_cons (s_for [0, 1] [5] .never rfl (i_rng1 B.range_ (e_var 1)) (g_name 5 nd)
      (s_cons (s_asg 6 nd (e_mod (e_var 5) (e_len B.len_ (e_var 2))))
        (s_one (s_if (t_ge (e_ixs (e_var 2) (e_var 6)) (e_pow e_int e_int))
          (s_cons (s_expr (e_append (i := 4) (e_mod (e_int1 B.int_ (e_ixs (e_var 3) (e_var 6))) e_int)))
            (s_one (s_set 3 (e_fdiv (e_ixs (e_var 3) (e_var 6)) e_int) (e_var 6))))
          (s_cons (s_asg 7 nd (e_mod (e_int1 B.int_ (e_addG (e_addG (e_mul (e_ixs (e_var 2) (e_var 6)) e_int) (e_mul (e_var 5) e_int)) e_int)) e_int))
            (s_one (s_expr (e_append (i := 4) (e_mod (e_int1 B.int_ (e_addG (e_addG (e_mul (e_var 7) (e_var 7)) (e_mul e_int (e_var 7))) (e_var 5))) e_int)))))))))
    (s_cons (s_expr (e_reverse (i := 4)))
    (s_one (s_ret (e_var 4)))))))))) pure_law_draws
abbrev s_law_take : Stmt := topS 23
theorem sc_law_take : FnScope ["draws", "many"] ["draws", "many"] (defScope s_law_take) := ⟨rfl, rfl, rfl, by decide +kernel, rfl, by decide +kernel, by decide +kernel⟩
set_option maxHeartbeats 0 in
theorem ok_law_take {f : Addr} {fd : FuncData} (B : Blt mg) (F : Fun K "_law_take" "_law_take" s_law_take f fd) : FnOk P w K mg base CX0 1 f fd ["draws", "many"] (spOf K 2 sp_law_take) := by
  have nd := (sc_law_take).nd
  exact fn_ok w_law_take F sc_law_take (fun cdv A outer s H E hr =>
    (s_cons (s_if (t_eqS (e_len B.len_ (e_var 0)) e_int)
      (s_one (s_ret e_int))
      s_nil)
    (s_one (s_ret (e_mod (e_int1 B.int_ (e_pop (i := 0))) (e_var 1)))))) pure_law_take
abbrev s_law_pick : Stmt := topS 24
theorem sc_law_pick : FnScope ["draws", "row"] ["draws", "row"] (defScope s_law_pick) := ⟨rfl, rfl, rfl, by decide +kernel, rfl, by decide +kernel, by decide +kernel⟩
set_option maxHeartbeats 0 in
theorem ok_law_pick {f : Addr} {fd : FuncData} (B : Blt mg) (F : Fun K "_law_pick" "_law_pick" s_law_pick f fd) (F_law_take : FnD P w K mg base 1 "_law_take" ["draws", "many"] sp_law_take) : FnOk P w K mg base CX0 2 f fd ["draws", "row"] (spOf K 2 sp_law_pick) := by
  have nd := (sc_law_pick).nd
  exact fn_ok w_law_pick F sc_law_pick (fun cdv A outer s H E hr =>
    (s_one (s_ret (e_ixs (e_var 1) (e_call F_law_take (hr.mono (j := 1) (by decide)) (a_cons (e_var 0) (a_cons (e_len B.len_ (e_var 1)) a_nil))))))) pure_law_pick
abbrev s_law_size : Stmt := topS 25
theorem sc_law_size : FnScope ["draws", "script", "kind", "number", "k"] ["draws", "script"] (defScope s_law_size) := ⟨rfl, rfl, rfl, by decide +kernel, rfl, by decide +kernel, by decide +kernel⟩
set_option maxHeartbeats 0 in
theorem ok_law_size {f : Addr} {fd : FuncData} (B : Blt mg) (F : Fun K "_law_size" "_law_size" s_law_size f fd) (F_law_take : FnD P w K mg base 1 "_law_take" ["draws", "many"] sp_law_take) : FnOk P w K mg base CX0 2 f fd ["draws", "script"] (spOf K 2 sp_law_size) := by
  have nd := (sc_law_size).nd
  exact fn_ok w_law_size F sc_law_size (fun cdv A outer s H E hr =>
    (s_cons (s_asg 2 nd (e_call F_law_take (hr.mono (j := 1) (by decide)) (a_cons (e_var 0) (a_cons e_int a_nil))))
    (s_cons (s_if (t_lt (e_var 2) e_int)
      (s_one (s_ret (e_call F_law_take (hr.mono (j := 1) (by decide)) (a_cons (e_var 0) (a_cons e_int a_nil)))))
      s_nil)
    (s_cons (s_if (t_eqS (e_var 2) e_int)
      (s_one (s_ret (e_call F_law_take (hr.mono (j := 1) (by decide)) (a_cons (e_var 0) (a_cons e_int a_nil)))))
      s_nil)
    (s_cons (s_if (t_bop (w_or (t_eqS (e_var 2) e_int) (w_or1 (t_eqS (e_len B.len_ (e_var 1)) e_int))))
      (s_cons (s_asg 3 nd e_int)
        (s_cons (s_for [0, 1] [4] .never rfl (i_rng1 B.range_ e_int) (g_name 4 nd)
          (s_one (s_asg 3 nd (e_addG (e_mul (e_var 3) e_int) (e_call F_law_take (hr.mono (j := 1) (by decide)) (a_cons (e_var 0) (a_cons e_int a_nil)))))))
        (s_one (s_ret (e_var 3)))))
      s_nil)
    (s_one (s_ret (e_abs B.abs_ (e_int1 B.int_ (e_ixs (e_var 1) (e_call F_law_take (hr.mono (j := 1) (by decide)) (a_cons (e_var 0) (a_cons (e_len B.len_ (e_var 1)) a_nil))))))))))))) pure_law_size
abbrev s_law_same3 : Stmt := topS 26
abbrev N_law_same3 : List Str := ["actual", "due", "k"]
theorem sc_law_same3 : FnScope ["actual", "due", "k"] ["actual", "due"] (defScope s_law_same3) := ⟨rfl, rfl, rfl, by decide +kernel, rfl, by decide +kernel, by decide +kernel⟩
set_option maxHeartbeats 0 in
theorem okn_law_same3 {f : Addr} {fd : FuncData} (B : Blt mg) (F : Fun K "_law_same" "_law_same" s_law_same3 f fd) (g : mg "_law_same" = some (.ref f)) : ∀ n : Nat, FnOk P w K mg base CX0 (0 + n) f fd ["actual", "due"] (spOf K 2 (spn_law_same3 n))
  | 0 => fn_false fun _ h => h
  | n + 1 => by
    have nd := (sc_law_same3).nd
    have F_law_same3 : FnD P w K mg base (0 + n) "_law_same" ["actual", "due"] (spn_law_same3 n) := ⟨f, fd, okn_law_same3 B F g n, g, F.kp, F.binds fun _ _ _ _ _ _ us hl => match us, hl with | [_, _], _ => rfl⟩
    exact fn_ok (w_law_same3 n) F sc_law_same3 (fun cdv A outer s H E hr =>
    (s_cons (s_if (t_val (e_isi2 .tuple .list B.isinstance_ B.tuple_ B.list_ (by decide +kernel) (by decide +kernel) (e_var 1)))
      (s_cons (s_if (t_bop (w_or (t_neS (e_isi .tuple B.isinstance_ B.tuple_ (by decide +kernel) (e_var 0)) (e_isi .tuple B.isinstance_ B.tuple_ (by decide +kernel) (e_var 1))) (w_or1 (t_neS (e_isi .list B.isinstance_ B.list_ (by decide +kernel) (e_var 0)) (e_isi .list B.isinstance_ B.list_ (by decide +kernel) (e_var 1))))))
          (s_one (s_ret e_bl))
          s_nil)
        (s_cons (s_if (t_neS (e_len B.len_ (e_var 0)) (e_len B.len_ (e_var 1)))
          (s_one (s_ret e_bl))
          s_nil)
        (s_one (s_ret (e_notIn e_bl (e_lc rfl nd (i_rng1 B.range_ (e_len B.len_ (e_var 1))) (blkOk_by (N := N_law_same3) (sc := defScope s_law_same3) (own := [("k", 2)]) (by decide +kernel)) (fun _ _ _ _ _ => (g_name 2 nd)) (fun _ _ _ _ _ => ts_nil) (fun _ _ _ _ _ => (e_call F_law_same3 (hr.mono (j := 0 + n) (Nat.le_refl _)) (a_cons (e_ixs (e_var 0) (e_var 2)) (a_cons (e_ixs (e_var 1) (e_var 2)) a_nil))))))))))
      s_nil)
    (s_cons (s_if (t_bop (w_or (t_neS (e_isi .bool B.isinstance_ B.bool_ (by decide +kernel) (e_var 0)) (e_isi .bool B.isinstance_ B.bool_ (by decide +kernel) (e_var 1))) (w_or1 (t_neS (e_isi .int B.isinstance_ B.int_ (by decide +kernel) (e_var 0)) (e_isi .int B.isinstance_ B.int_ (by decide +kernel) (e_var 1))))))
      (s_one (s_ret e_bl))
      s_nil)
    (s_cons (s_if (t_bop (w_or (t_neS (e_isi .str B.isinstance_ B.str_ (by decide +kernel) (e_var 0)) (e_isi .str B.isinstance_ B.str_ (by decide +kernel) (e_var 1))) (w_or1 (t_neS (e_isN (e_var 0)) (e_isN (e_var 1))))))
      (s_one (s_ret e_bl))
      s_nil)
    (s_one (s_ret (e_eqS (e_var 0) (e_var 1)))))))) (pure_law_same3 n)
theorem ok_law_same3 {f : Addr} {fd : FuncData} (B : Blt mg) (F : Fun K "_law_same" "_law_same" s_law_same3 f fd) (g : mg "_law_same" = some (.ref f)) : FnOk P w K mg base CX0 24 f fd ["actual", "due"] (spOf K 2 sp_law_same3) :=
  okn_law_same3 B F g 24
abbrev s_law_some_columns : Stmt := topS 27
abbrev N_law_some_columns : List Str := ["draws", "columns", "x"]
theorem sc_law_some_columns : FnScope ["draws", "columns", "x"] ["draws", "columns"] (defScope s_law_some_columns) := ⟨rfl, rfl, rfl, by decide +kernel, rfl, by decide +kernel, by decide +kernel⟩
set_option maxHeartbeats 0 in
theorem ok_law_some_columns {f : Addr} {fd : FuncData} (B : Blt mg) (F : Fun K "_law_some_columns" "_law_some_columns" s_law_some_columns f fd) (F_law_take : FnD P w K mg base 1 "_law_take" ["draws", "many"] sp_law_take) : FnOk P w K mg base CX0 2 f fd ["draws", "columns"] (spOf K 2 sp_law_some_columns) := by
  have nd := (sc_law_some_columns).nd
  exact fn_ok w_law_some_columns F sc_law_some_columns (fun cdv A outer s H E hr =>
    (s_one (s_ret (e_tuple B.tuple_ (e_lc rfl nd (i_seq (e_var 1)) (blkOk_by (N := N_law_some_columns) (sc := defScope s_law_some_columns) (own := [("x", 2)]) (by decide +kernel)) (fun _ _ _ _ _ => (g_name 2 nd)) (fun _ _ _ _ _ => (ts_one (t_gt (e_call F_law_take (hr.mono (j := 1) (by decide)) (a_cons (e_var 0) (a_cons e_int a_nil))) e_int))) (fun _ _ _ _ _ => (e_var 2))))))) pure_law_some_columns
abbrev s_law_words : Stmt := topS 28
abbrev N_law_words : List Str := ["draws", "many", "words", "k", "size", "word", "j"]
theorem sc_law_words : FnScope ["draws", "many", "words", "k", "size", "word", "j"] ["draws", "many"] (defScope s_law_words) := ⟨rfl, rfl, rfl, by decide +kernel, rfl, by decide +kernel, by decide +kernel⟩
set_option maxHeartbeats 0 in
theorem ok_law_words {f : Addr} {fd : FuncData} (B : Blt mg) (F : Fun K "_law_words" "_law_words" s_law_words f fd) (F_law_take : FnD P w K mg base 1 "_law_take" ["draws", "many"] sp_law_take) : FnOk P w K mg base CX0 2 f fd ["draws", "many"] (spOf K 2 sp_law_words) := by
  have nd := (sc_law_words).nd
  exact fn_ok w_law_words F sc_law_words (fun cdv A outer s H E hr =>
    (s_cons (s_asg 2 nd (e_lst a_nil))
    (s_cons (s_for [0, 1] [3] .never rfl (i_rng1 B.range_ (e_var 1)) (g_name 3 nd)
      (s_cons (s_asg 4 nd (e_addG e_int (e_call F_law_take (hr.mono (j := 1) (by decide)) (a_cons (e_var 0) (a_cons e_int a_nil)))))
        (s_cons (s_if (t_eqS (e_call F_law_take (hr.mono (j := 1) (by decide)) (a_cons (e_var 0) (a_cons e_int a_nil))) e_int)
          (s_one (s_asg 4 nd (e_addG (e_addG (e_var 4) e_int) (e_call F_law_take (hr.mono (j := 1) (by decide)) (a_cons (e_var 0) (a_cons e_int a_nil))))))
          s_nil)
        (s_cons (s_asg 5 nd (e_join (e_lc rfl nd (i_rng1 B.range_ (e_var 4)) (blkOk_by (N := N_law_words) (sc := defScope s_law_words) (own := [("j", 6)]) (by decide +kernel)) (fun _ _ _ _ _ => (g_name 6 nd)) (fun _ _ _ _ _ => ts_nil) (fun _ _ _ _ _ => (e_ixStr e_str (e_call F_law_take (hr.mono (j := 1) (by decide)) (a_cons (e_var 0) (a_cons e_int a_nil))))))))
        (s_cons (s_if (t_in (e_var 5) (e_var 2))
          (s_one (s_asg 5 nd (e_addS e_str (e_ixStr e_str (e_var 3)))))
          s_nil)
        (s_one (s_expr (e_append (i := 2) (e_var 5)))))))))
    (s_one (s_ret (e_var 2)))))) pure_law_words
abbrev s_law_number : Stmt := topS 29
theorem sc_law_number : FnScope ["draws", "script"] ["draws", "script"] (defScope s_law_number) := ⟨rfl, rfl, rfl, by decide +kernel, rfl, by decide +kernel, by decide +kernel⟩
set_option maxHeartbeats 0 in
theorem ok_law_number {f : Addr} {fd : FuncData} (B : Blt mg) (F : Fun K "_law_number" "_law_number" s_law_number f fd) (F_law_size : FnD P w K mg base 2 "_law_size" ["draws", "script"] sp_law_size) (F_law_take : FnD P w K mg base 1 "_law_take" ["draws", "many"] sp_law_take) : FnOk P w K mg base CX0 3 f fd ["draws", "script"] (spOf K 2 sp_law_number) := by
  have nd := (sc_law_number).nd
  exact fn_ok w_law_number F sc_law_number (fun cdv A outer s H E hr =>
    (s_one (s_ret (e_mul (e_call F_law_size (hr.mono (j := 2) (by decide)) (a_cons (e_var 0) (a_cons (e_var 1) a_nil))) (e_sub e_int (e_mul e_int (e_call F_law_take (hr.mono (j := 1) (by decide)) (a_cons (e_var 0) (a_cons e_int a_nil))))))))) pure_law_number
abbrev s_law_worth : Stmt := topS 30
theorem sc_law_worth : FnScope ["draws", "script", "words"] ["draws", "script", "words"] (defScope s_law_worth) := ⟨rfl, rfl, rfl, by decide +kernel, rfl, by decide +kernel, by decide +kernel⟩
set_option maxHeartbeats 0 in
theorem ok_law_worth {f : Addr} {fd : FuncData} (B : Blt mg) (F : Fun K "_law_worth" "_law_worth" s_law_worth f fd) (F_law_take : FnD P w K mg base 1 "_law_take" ["draws", "many"] sp_law_take) (F_law_pick : FnD P w K mg base 2 "_law_pick" ["draws", "row"] sp_law_pick) (F_law_number : FnD P w K mg base 3 "_law_number" ["draws", "script"] sp_law_number) : FnOk P w K mg base CX0 4 f fd ["draws", "script", "words"] (spOf K 3 sp_law_worth) := by
  have nd := (sc_law_worth).nd
  exact fn_ok w_law_worth F sc_law_worth (fun cdv A outer s H E hr =>
    (s_cons (s_if (t_eqS (e_call F_law_take (hr.mono (j := 1) (by decide)) (a_cons (e_var 0) (a_cons e_int a_nil))) e_int)
      (s_one (s_ret (e_call F_law_pick (hr.mono (j := 2) (by decide)) (a_cons (e_var 0) (a_cons (e_var 2) a_nil)))))
      s_nil)
    (s_one (s_ret (e_call F_law_number (hr.mono (j := 3) (by decide)) (a_cons (e_var 0) (a_cons (e_var 1) a_nil))))))) pure_law_worth
abbrev s_law_shifted : Stmt := topS 31
theorem sc_law_shifted : FnScope ["number", "p"] ["number", "p"] (defScope s_law_shifted) := ⟨rfl, rfl, rfl, by decide +kernel, rfl, by decide +kernel, by decide +kernel⟩
set_option maxHeartbeats 0 in
theorem ok_law_shifted {f : Addr} {fd : FuncData} (B : Blt mg) (F : Fun K "_law_shifted" "_law_shifted" s_law_shifted f fd) : FnOk P w K mg base CX0 1 f fd ["number", "p"] (spOf K 2 sp_law_shifted) := by
  have nd := (sc_law_shifted).nd
  exact fn_ok w_law_shifted F sc_law_shifted (fun cdv A outer s H E hr =>
    (s_cons (s_if (t_eqS (e_var 0) e_int)
      (s_one (s_ret (e_var 1)))
      s_nil)
    (s_one (s_ret (e_tup (a_cons e_str (a_cons (e_var 0) (a_cons (e_var 1) a_nil)))))))) pure_law_shifted
abbrev s_law_nearby : Stmt := topS 32
theorem sc_law_nearby : FnScope ["kind", "within", "p"] ["kind", "within", "p"] (defScope s_law_nearby) := ⟨rfl, rfl, rfl, by decide +kernel, rfl, by decide +kernel, by decide +kernel⟩
set_option maxHeartbeats 0 in
theorem ok_law_nearby {f : Addr} {fd : FuncData} (B : Blt mg) (F : Fun K "_law_nearby" "_law_nearby" s_law_nearby f fd) : FnOk P w K mg base CX0 1 f fd ["kind", "within", "p"] (spOf K 3 sp_law_nearby) := by
  have nd := (sc_law_nearby).nd
  exact fn_ok w_law_nearby F sc_law_nearby (fun cdv A outer s H E hr =>
    (s_cons (s_if (t_eqS (e_var 1) e_int)
      (s_one (s_ret (e_var 2)))
      s_nil)
    (s_one (s_ret (e_tup (a_cons (e_var 0) (a_cons (e_var 1) (a_cons (e_var 2) a_nil)))))))) pure_law_nearby
abbrev s_law_still : Stmt := topS 33
abbrev N_law_still : List Str := ["draws", "script", "words", "name", "columns", "fact", "kind", "x"]
theorem sc_law_still : FnScope ["draws", "script", "words", "name", "columns", "fact", "kind", "x"] ["draws", "script", "words", "name", "columns"] (defScope s_law_still) := ⟨rfl, rfl, rfl, by decide +kernel, rfl, by decide +kernel, by decide +kernel⟩
set_option maxHeartbeats 0 in
theorem ok_law_still {f : Addr} {fd : FuncData} (B : Blt mg) (F : Fun K "_law_still" "_law_still" s_law_still f fd) (F_law_worth : FnD P w K mg base 4 "_law_worth" ["draws", "script", "words"] sp_law_worth) (F_law_take : FnD P w K mg base 1 "_law_take" ["draws", "many"] sp_law_take) (F_law_number : FnD P w K mg base 3 "_law_number" ["draws", "script"] sp_law_number) : FnOk P w K mg base CX0 5 f fd ["draws", "script", "words", "name", "columns"] (spOf K 5 sp_law_still) := by
  have nd := (sc_law_still).nd
  exact fn_ok w_law_still F sc_law_still (fun cdv A outer s H E hr =>
    (s_cons (s_asg 5 nd (e_tup (a_cons e_str (a_cons (e_var 3) (a_cons (e_tuple B.tuple_ (e_addG (e_lc rfl nd (i_seq (e_var 4)) (blkOk_by (N := N_law_still) (sc := defScope s_law_still) (own := [("x", 7)]) (by decide +kernel)) (fun _ _ _ _ _ => (g_name 7 nd)) (fun _ _ _ _ _ => ts_nil) (fun _ _ _ _ _ => (e_tup (a_cons e_str (a_cons (e_var 7) a_nil))))) (e_lst (a_cons (e_tup (a_cons e_str (a_cons (e_call F_law_worth (hr.mono (j := 4) (by decide)) (a_cons (e_var 0) (a_cons (e_var 1) (a_cons (e_var 2) a_nil)))) a_nil))) a_nil)))) a_nil)))))
    (s_cons (s_asg 6 nd (e_call F_law_take (hr.mono (j := 1) (by decide)) (a_cons (e_var 0) (a_cons e_int a_nil))))
    (s_cons (s_if (t_eqS (e_var 6) e_int)
      (s_one (s_ret (e_tup (a_cons e_str (a_cons e_str (a_cons (e_tup (a_cons e_str (a_cons (e_ixs (e_var 2) e_int) a_nil))) (a_cons (e_tup (a_cons e_str (a_cons (e_call F_law_number (hr.mono (j := 3) (by decide)) (a_cons (e_var 0) (a_cons (e_var 1) a_nil))) a_nil))) (a_cons (e_var 5) a_nil))))))))
      s_nil)
    (s_cons (s_if (t_eqS (e_var 6) e_int)
      (s_one (s_ret (e_tup (a_cons e_str (a_cons (e_tup (a_cons e_str (a_cons (e_var 3) (a_cons (e_tup a_nil) a_nil)))) (a_cons (e_var 5) a_nil))))))
      s_nil)
    (s_cons (s_if (t_bop (w_and (t_eqS (e_var 6) e_int) (w_and1 (t_eqS (e_len B.len_ (e_var 4)) e_int))))
      (s_one (s_ret (e_tup (a_cons e_str (a_cons (e_ixs (e_var 4) e_int) (a_cons (e_ixs (e_var 4) e_int) (a_cons (e_var 5) a_nil)))))))
      s_nil)
    (s_one (s_ret (e_var 5))))))))) pure_law_still
abbrev s_law_one : Stmt := topS 34
abbrev N_law_one : List Str := ["draws", "script", "p", "columns", "rule", "names", "a", "b", "kind", "other", "some", "due", "wider", "one", "inner", "outer", "x"]
theorem sc_law_one : FnScope ["draws", "script", "p", "columns", "rule", "names", "a", "b", "kind", "other", "some", "due", "wider", "one", "inner", "outer", "x"] ["draws", "script", "p", "columns", "rule"] (defScope s_law_one) := ⟨rfl, rfl, rfl, by decide +kernel, rfl, by decide +kernel, by decide +kernel⟩
set_option maxHeartbeats 0 in
theorem ok_law_one {f : Addr} {fd : FuncData} (B : Blt mg) (F : Fun K "_law_one" "_law_one" s_law_one f fd) (F_law_number : FnD P w K mg base 3 "_law_number" ["draws", "script"] sp_law_number) (F_law_pick : FnD P w K mg base 2 "_law_pick" ["draws", "row"] sp_law_pick) (F_law_shifted : FnD P w K mg base 1 "_law_shifted" ["number", "p"] sp_law_shifted) (F_law_size : FnD P w K mg base 2 "_law_size" ["draws", "script"] sp_law_size) (F_law_nearby : FnD P w K mg base 1 "_law_nearby" ["kind", "within", "p"] sp_law_nearby) (F_law_some_columns : FnD P w K mg base 2 "_law_some_columns" ["draws", "columns"] sp_law_some_columns) (F_law_take : FnD P w K mg base 1 "_law_take" ["draws", "many"] sp_law_take) : FnOk P w K mg base CX0 4 f fd ["draws", "script", "p", "columns", "rule"] (spOf K 5 sp_law_one) := by
  have nd := (sc_law_one).nd
  exact fn_ok w_law_one F sc_law_one (fun cdv A outer s H E hr =>
    (s_cons (s_asg 5 nd (e_lst (a_cons e_str (a_cons e_str (a_cons e_str (a_cons e_str a_nil))))))
    (s_cons (s_if (t_lt (e_var 4) e_int)
      (s_cons (s_asg 6 nd (e_call F_law_number (hr.mono (j := 3) (by decide)) (a_cons (e_var 0) (a_cons (e_var 1) a_nil))))
        (s_cons (s_asg 7 nd (e_call F_law_pick (hr.mono (j := 2) (by decide)) (a_cons (e_var 0) (a_cons (e_lst (a_cons (e_call F_law_number (hr.mono (j := 3) (by decide)) (a_cons (e_var 0) (a_cons (e_var 1) a_nil))) (a_cons (e_neg (e_var 6)) (a_cons e_int a_nil)))) a_nil))))
        (s_cons (s_if (t_eqS (e_var 4) e_int)
          (s_one (s_ret (e_tup (a_cons (e_tup (a_cons e_str (a_cons e_int (a_cons (e_var 2) a_nil)))) (a_cons (e_var 2) a_nil)))))
          s_nil)
        (s_cons (s_if (t_bop (w_or (t_ge (e_var 6) e_int) (w_or1 (t_le (e_var 7) e_int))))
          (s_one (s_ret (e_tup (a_cons (e_tup (a_cons e_str (a_cons (e_var 6) (a_cons (e_tup (a_cons e_str (a_cons (e_var 7) (a_cons (e_var 2) a_nil)))) a_nil)))) (a_cons (e_call F_law_shifted (hr.mono (j := 1) (by decide)) (a_cons (e_addG (e_var 6) (e_var 7)) (a_cons (e_var 2) a_nil))) a_nil)))))
          s_nil)
        (s_one (s_ret (e_tup (a_cons (e_tup (a_cons e_str (a_cons (e_var 6) (a_cons (e_tup (a_cons e_str (a_cons (e_var 7) (a_cons (e_var 2) a_nil)))) a_nil)))) (a_cons (e_tup (a_cons e_str (a_cons (e_var 6) (a_cons (e_tup (a_cons e_str (a_cons (e_var 7) (a_cons (e_var 2) a_nil)))) a_nil)))) a_nil)))))))))
      s_nil)
    (s_cons (s_asg 8 nd (e_call F_law_pick (hr.mono (j := 2) (by decide)) (a_cons (e_var 0) (a_cons (e_var 5) a_nil))))
    (s_cons (s_if (t_eqS (e_var 4) e_int)
      (s_one (s_ret (e_tup (a_cons (e_tup (a_cons (e_var 8) (a_cons e_int (a_cons (e_var 2) a_nil)))) (a_cons (e_var 2) a_nil)))))
      s_nil)
    (s_cons (s_if (t_eqS (e_var 4) e_int)
      (s_cons (s_asg 6 nd (e_call F_law_pick (hr.mono (j := 2) (by decide)) (a_cons (e_var 0) (a_cons (e_lst (a_cons e_non (a_cons e_int (a_cons e_int (a_cons (e_call F_law_size (hr.mono (j := 2) (by decide)) (a_cons (e_var 0) (a_cons (e_var 1) a_nil))) (a_cons (e_call F_law_size (hr.mono (j := 2) (by decide)) (a_cons (e_var 0) (a_cons (e_var 1) a_nil))) a_nil)))))) a_nil))))
        (s_cons (s_asg 7 nd (e_call F_law_pick (hr.mono (j := 2) (by decide)) (a_cons (e_var 0) (a_cons (e_lst (a_cons e_non (a_cons e_int (a_cons e_int (a_cons (e_call F_law_size (hr.mono (j := 2) (by decide)) (a_cons (e_var 0) (a_cons (e_var 1) a_nil))) (a_cons (e_call F_law_size (hr.mono (j := 2) (by decide)) (a_cons (e_var 0) (a_cons (e_var 1) a_nil))) a_nil)))))) a_nil))))
        (s_cons (s_asg 9 nd (e_call F_law_pick (hr.mono (j := 2) (by decide)) (a_cons (e_var 0) (a_cons (e_lst (a_cons (e_var 8) (a_cons (e_var 8) (a_cons (e_call F_law_pick (hr.mono (j := 2) (by decide)) (a_cons (e_var 0) (a_cons (e_var 5) a_nil))) a_nil)))) a_nil))))
        (s_cons (s_if (t_neS (e_var 8) (e_var 9))
          (s_one (s_ret (e_tup (a_cons (e_tup (a_cons (e_var 8) (a_cons (e_var 6) (a_cons (e_tup (a_cons (e_var 9) (a_cons (e_var 7) (a_cons (e_var 2) a_nil)))) a_nil)))) (a_cons (e_call F_law_nearby (hr.mono (j := 1) (by decide)) (a_cons (e_var 8) (a_cons (e_var 6) (a_cons (e_call F_law_nearby (hr.mono (j := 1) (by decide)) (a_cons (e_var 9) (a_cons (e_var 7) (a_cons (e_var 2) a_nil)))) a_nil)))) a_nil)))))
          s_nil)
        (s_cons (s_if (t_bop (w_or (t_isN (e_var 6)) (w_or1 (t_isN (e_var 7)))))
          (s_one (s_ret (e_tup (a_cons (e_tup (a_cons (e_var 8) (a_cons (e_var 6) (a_cons (e_tup (a_cons (e_var 8) (a_cons (e_var 7) (a_cons (e_var 2) a_nil)))) a_nil)))) (a_cons (e_tup (a_cons (e_var 8) (a_cons e_non (a_cons (e_var 2) a_nil)))) a_nil)))))
          s_nil)
        (s_one (s_ret (e_tup (a_cons (e_tup (a_cons (e_var 8) (a_cons (e_var 6) (a_cons (e_tup (a_cons (e_var 8) (a_cons (e_var 7) (a_cons (e_var 2) a_nil)))) a_nil)))) (a_cons (e_call F_law_nearby (hr.mono (j := 1) (by decide)) (a_cons (e_var 8) (a_cons (e_addG (e_var 6) (e_var 7)) (a_cons (e_var 2) a_nil)))) a_nil))))))))))
      s_nil)
    (s_cons (s_asg 10 nd (e_call F_law_some_columns (hr.mono (j := 2) (by decide)) (a_cons (e_var 0) (a_cons (e_var 3) a_nil))))
    (s_cons (s_asg 11 nd (e_tup (a_cons e_str (a_cons (e_var 10) (a_cons (e_var 2) a_nil)))))
    (s_cons (s_if (t_eqD hr.units (e_var 10) (e_var 3))
      (s_one (s_asg 11 nd (e_var 2)))
      s_nil)
    (s_cons (s_if (t_eqS (e_var 4) e_int)
      (s_one (s_ret (e_tup (a_cons (e_tup (a_cons e_str (a_cons (e_var 10) (a_cons (e_var 2) a_nil)))) (a_cons (e_var 11) a_nil)))))
      s_nil)
    (s_cons (s_if (t_eqS (e_var 4) e_int)
      (s_cons (s_asg 12 nd (e_tuple B.tuple_ (e_lc rfl nd (i_seq (e_var 3)) (blkOk_by (N := N_law_one) (sc := defScope s_law_one) (own := [("x", 16)]) (by decide +kernel)) (fun _ _ _ _ _ => (g_name 16 nd)) (fun _ _ _ _ _ => (ts_one (t_bop (w_or (t_in (e_var 16) (e_var 10)) (w_or1 (t_eqS (e_call F_law_take (hr.mono (j := 1) (by decide)) (a_cons (e_var 0) (a_cons e_int a_nil))) e_int)))))) (fun _ _ _ _ _ => (e_var 16)))))
        (s_one (s_ret (e_tup (a_cons (e_tup (a_cons e_str (a_cons (e_var 10) (a_cons (e_tup (a_cons e_str (a_cons (e_var 12) (a_cons (e_var 2) a_nil)))) a_nil)))) (a_cons (e_var 11) a_nil))))))
      s_nil)
    (s_cons (s_asg 13 nd (e_call F_law_pick (hr.mono (j := 2) (by decide)) (a_cons (e_var 0) (a_cons (e_lst (a_cons e_str (a_cons e_str a_nil))) a_nil))))
    (s_cons (s_asg 9 nd (e_call F_law_pick (hr.mono (j := 2) (by decide)) (a_cons (e_var 0) (a_cons (e_lst (a_cons e_str (a_cons e_str a_nil))) a_nil))))
    (s_cons (s_asg 14 nd (e_tup (a_cons (e_var 9) (a_cons (e_ixs (e_var 3) e_int) (a_cons (e_ixs (e_var 3) e_int) (a_cons (e_var 2) a_nil))))))
    (s_cons (s_asg 15 nd (e_tup (a_cons (e_var 13) (a_cons (e_ixs (e_var 3) e_int) (a_cons (e_ixs (e_var 3) e_int) (a_cons (e_var 14) a_nil))))))
    (s_cons (s_if (t_bop (w_and (t_eqS (e_var 13) e_str) (w_and1 (t_eqS (e_var 9) e_str))))
      (s_one (s_ret (e_tup (a_cons (e_var 15) (a_cons (e_var 14) a_nil)))))
      s_nil)
    (s_one (s_ret (e_tup (a_cons (e_var 15) (a_cons (e_var 15) a_nil))))))))))))))))))))) pure_law_one
abbrev s_law_two : Stmt := topS 35
theorem sc_law_two : FnScope ["draws", "script", "parts", "rule", "p", "q", "kinds", "kind", "a", "b", "question", "name", "other", "lead", "fits"] ["draws", "script", "parts", "rule"] (defScope s_law_two) := ⟨rfl, rfl, rfl, by decide +kernel, rfl, by decide +kernel, by decide +kernel⟩
set_option maxHeartbeats 0 in
theorem ok_law_two {f : Addr} {fd : FuncData} (B : Blt mg) (F : Fun K "_law_two" "_law_two" s_law_two f fd) (F_law_pick : FnD P w K mg base 2 "_law_pick" ["draws", "row"] sp_law_pick) (F_law_number : FnD P w K mg base 3 "_law_number" ["draws", "script"] sp_law_number) (F_law_shifted : FnD P w K mg base 1 "_law_shifted" ["number", "p"] sp_law_shifted) (F_law_size : FnD P w K mg base 2 "_law_size" ["draws", "script"] sp_law_size) (F_law_nearby : FnD P w K mg base 1 "_law_nearby" ["kind", "within", "p"] sp_law_nearby) : FnOk P w K mg base CX0 4 f fd ["draws", "script", "parts", "rule"] (spOf K 4 sp_law_two) := by
  have nd := (sc_law_two).nd
  exact fn_ok w_law_two F sc_law_two (fun cdv A outer s H E hr =>
    (s_cons (s_asg 4 nd (e_ixs (e_var 2) e_int))
    (s_cons (s_asg 5 nd (e_ixs (e_var 2) e_int))
    (s_cons (s_asg 6 nd (e_lst (a_cons e_str (a_cons e_str (a_cons e_str (a_cons e_str (a_cons e_str (a_cons e_str (a_cons e_str a_nil)))))))))
    (s_cons (s_if (t_eqS (e_var 3) e_int)
      (s_cons (s_asg 7 nd (e_call F_law_pick (hr.mono (j := 2) (by decide)) (a_cons (e_var 0) (a_cons (e_var 6) a_nil))))
        (s_cons (s_if (t_in (e_var 7) (e_lst (a_cons e_str (a_cons e_str (a_cons e_str (a_cons e_str a_nil))))))
          (s_one (s_ret (e_tup (a_cons (e_tup (a_cons (e_var 7) (a_cons (e_var 4) (a_cons (e_var 4) a_nil)))) (a_cons (e_var 4) a_nil)))))
          s_nil)
        (s_one (s_ret (e_tup (a_cons (e_tup (a_cons (e_var 7) (a_cons (e_var 4) (a_cons (e_var 4) a_nil)))) (a_cons (e_tup (a_cons (e_var 7) (a_cons (e_var 4) (a_cons (e_var 4) a_nil)))) a_nil)))))))
      s_nil)
    (s_cons (s_if (t_eqS (e_var 3) e_int)
      (s_cons (s_asg 7 nd (e_call F_law_pick (hr.mono (j := 2) (by decide)) (a_cons (e_var 0) (a_cons (e_slH (e_var 6) e_int) a_nil))))
        (s_cons (s_asg 8 nd (e_call F_law_number (hr.mono (j := 3) (by decide)) (a_cons (e_var 0) (a_cons (e_var 1) a_nil))))
        (s_cons (s_asg 9 nd (e_call F_law_pick (hr.mono (j := 2) (by decide)) (a_cons (e_var 0) (a_cons (e_lst (a_cons (e_var 8) (a_cons (e_var 8) (a_cons (e_addG (e_var 8) e_int) (a_cons (e_neg (e_var 8)) a_nil))))) a_nil))))
        (s_cons (s_asg 10 nd (e_tup (a_cons (e_var 7) (a_cons (e_tup (a_cons e_str (a_cons (e_var 8) (a_cons (e_var 4) a_nil)))) (a_cons (e_tup (a_cons e_str (a_cons (e_var 9) (a_cons (e_var 5) a_nil)))) a_nil)))))
        (s_cons (s_if (t_bop (w_and (t_eqS (e_var 8) (e_var 9)) (w_and1 (t_neS (e_var 7) e_str))))
          (s_one (s_ret (e_tup (a_cons (e_var 10) (a_cons (e_call F_law_shifted (hr.mono (j := 1) (by decide)) (a_cons (e_var 8) (a_cons (e_tup (a_cons (e_var 7) (a_cons (e_var 4) (a_cons (e_var 5) a_nil)))) a_nil))) a_nil)))))
          s_nil)
        (s_one (s_ret (e_tup (a_cons (e_var 10) (a_cons (e_tup (a_cons (e_var 7) (a_cons (e_call F_law_shifted (hr.mono (j := 1) (by decide)) (a_cons (e_var 8) (a_cons (e_var 4) a_nil))) (a_cons (e_call F_law_shifted (hr.mono (j := 1) (by decide)) (a_cons (e_var 9) (a_cons (e_var 5) a_nil))) a_nil)))) a_nil))))))))))
      s_nil)
    (s_cons (s_asg 7 nd (e_call F_law_pick (hr.mono (j := 2) (by decide)) (a_cons (e_var 0) (a_cons (e_lst (a_cons e_str (a_cons e_str (a_cons e_str (a_cons e_str a_nil))))) a_nil))))
    (s_cons (s_if (t_eqS (e_var 3) e_int)
      (s_cons (s_asg 11 nd (e_call F_law_pick (hr.mono (j := 2) (by decide)) (a_cons (e_var 0) (a_cons (e_slL (e_var 6) e_int) a_nil))))
        (s_cons (s_asg 12 nd (e_call F_law_pick (hr.mono (j := 2) (by decide)) (a_cons (e_var 0) (a_cons (e_lst (a_cons (e_var 11) (a_cons (e_var 11) (a_cons (e_call F_law_pick (hr.mono (j := 2) (by decide)) (a_cons (e_var 0) (a_cons (e_slL (e_var 6) e_int) a_nil))) a_nil)))) a_nil))))
        (s_cons (s_asg 13 nd (e_call F_law_pick (hr.mono (j := 2) (by decide)) (a_cons (e_var 0) (a_cons (e_lst (a_cons (e_ixs (e_var 2) e_int) (a_cons (e_ixs (e_var 2) e_int) (a_cons (e_var 4) a_nil)))) a_nil))))
        (s_cons (s_asg 10 nd (e_tup (a_cons (e_var 7) (a_cons (e_tup (a_cons (e_var 11) (a_cons (e_ixs (e_var 2) e_int) (a_cons (e_var 4) a_nil)))) (a_cons (e_tup (a_cons (e_var 12) (a_cons (e_var 13) (a_cons (e_var 5) a_nil)))) a_nil)))))
        (s_cons (s_if (t_bop (w_and (t_eqS (e_var 7) e_str) (w_and (t_eqS (e_var 11) (e_var 12)) (w_and1 (t_neD hr.units (e_var 13) (e_var 4))))))
          (s_one (s_ret (e_tup (a_cons (e_var 10) (a_cons (e_tup (a_cons (e_var 11) (a_cons (e_ixs (e_var 2) e_int) (a_cons (e_tup (a_cons e_str (a_cons (e_var 4) (a_cons (e_var 5) a_nil)))) a_nil)))) a_nil)))))
          s_nil)
        (s_one (s_ret (e_tup (a_cons (e_var 10) (a_cons (e_var 10) a_nil))))))))))
      s_nil)
    (s_cons (s_asg 11 nd (e_call F_law_pick (hr.mono (j := 2) (by decide)) (a_cons (e_var 0) (a_cons (e_lst (a_cons e_str (a_cons e_str (a_cons e_str (a_cons e_str a_nil))))) a_nil))))
    (s_cons (s_asg 12 nd (e_call F_law_pick (hr.mono (j := 2) (by decide)) (a_cons (e_var 0) (a_cons (e_lst (a_cons (e_var 11) (a_cons (e_var 11) (a_cons (e_call F_law_pick (hr.mono (j := 2) (by decide)) (a_cons (e_var 0) (a_cons (e_lst (a_cons e_str (a_cons e_str (a_cons e_str (a_cons e_str a_nil))))) a_nil))) a_nil)))) a_nil))))
    (s_cons (s_asg 8 nd (e_call F_law_pick (hr.mono (j := 2) (by decide)) (a_cons (e_var 0) (a_cons (e_lst (a_cons e_non (a_cons e_int (a_cons (e_call F_law_size (hr.mono (j := 2) (by decide)) (a_cons (e_var 0) (a_cons (e_var 1) a_nil))) a_nil)))) a_nil))))
    (s_cons (s_asg 9 nd (e_call F_law_pick (hr.mono (j := 2) (by decide)) (a_cons (e_var 0) (a_cons (e_lst (a_cons (e_var 8) (a_cons (e_var 8) (a_cons e_int a_nil)))) a_nil))))
    (s_cons (s_asg 10 nd (e_tup (a_cons (e_var 7) (a_cons (e_tup (a_cons (e_var 11) (a_cons (e_var 8) (a_cons (e_var 4) a_nil)))) (a_cons (e_tup (a_cons (e_var 12) (a_cons (e_var 9) (a_cons (e_var 5) a_nil)))) a_nil)))))
    (s_cons (s_asg 14 nd (e_or' (e_and' (e_eqS (e_var 7) e_str) (e_one (e_in (e_var 11) (e_lst (a_cons e_str (a_cons e_str a_nil)))))) (e_one (e_and' (e_eqS (e_var 7) e_str) (e_one (e_in (e_var 11) (e_lst (a_cons e_str (a_cons e_str a_nil)))))))))
    (s_cons (s_if (t_bop (w_and (t_val (e_var 14)) (w_and (t_eqS (e_var 11) (e_var 12)) (w_and1 (t_eqS (e_var 8) (e_var 9))))))
      (s_one (s_ret (e_tup (a_cons (e_var 10) (a_cons (e_call F_law_nearby (hr.mono (j := 1) (by decide)) (a_cons (e_var 11) (a_cons (e_var 8) (a_cons (e_tup (a_cons (e_var 7) (a_cons (e_var 4) (a_cons (e_var 5) a_nil)))) a_nil)))) a_nil)))))
      s_nil)
    (s_one (s_ret (e_tup (a_cons (e_var 10) (a_cons (e_tup (a_cons (e_var 7) (a_cons (e_call F_law_nearby (hr.mono (j := 1) (by decide)) (a_cons (e_var 11) (a_cons (e_var 8) (a_cons (e_var 4) a_nil)))) (a_cons (e_call F_law_nearby (hr.mono (j := 1) (by decide)) (a_cons (e_var 12) (a_cons (e_var 9) (a_cons (e_var 5) a_nil)))) a_nil)))) a_nil)))))))))))))))))))) pure_law_two
abbrev s_law_within_another : Stmt := topS 36
abbrev N_law_within_another : List Str := ["draws", "words", "columns", "turn", "question", "x"]
theorem sc_law_within_another : FnScope ["draws", "words", "columns", "turn", "question", "x"] ["draws", "words", "columns", "turn", "question"] (defScope s_law_within_another) := ⟨rfl, rfl, rfl, by decide +kernel, rfl, by decide +kernel, by decide +kernel⟩
set_option maxHeartbeats 0 in
theorem ok_law_within_another {f : Addr} {fd : FuncData} (B : Blt mg) (F : Fun K "_law_within_another" "_law_within_another" s_law_within_another f fd) : FnOk P w K mg base CX0 1 f fd ["draws", "words", "columns", "turn", "question"] (spOf K 5 sp_law_within_another) := by
  have nd := (sc_law_within_another).nd
  exact fn_ok w_law_within_another F sc_law_within_another (fun cdv A outer s H E hr =>
    (s_cons (s_if (t_eqS (e_var 3) e_int)
      (s_one (s_ret (e_tup (a_cons e_str (a_cons e_str (a_cons (e_tup (a_cons e_str (a_cons e_int a_nil))) (a_cons (e_tup (a_cons e_str (a_cons (e_ixs (e_var 1) e_int) a_nil))) (a_cons (e_var 4) a_nil))))))))
      s_nil)
    (s_cons (s_if (t_eqS (e_var 3) e_int)
      (s_one (s_ret (e_tup (a_cons e_str (a_cons (e_ixs (e_var 1) e_int) (a_cons (e_tup a_nil) (a_cons (e_var 4) a_nil)))))))
      s_nil)
    (s_cons (s_if (t_eqS (e_var 3) e_int)
      (s_one (s_ret (e_tup (a_cons e_str (a_cons (e_var 4) (a_cons (e_tup (a_cons e_str (a_cons (e_ixs (e_var 1) e_int) (a_cons (e_tuple B.tuple_ (e_lc rfl nd (i_seq (e_var 2)) (blkOk_by (N := N_law_within_another) (sc := defScope s_law_within_another) (own := [("x", 5)]) (by decide +kernel)) (fun _ _ _ _ _ => (g_name 5 nd)) (fun _ _ _ _ _ => ts_nil) (fun _ _ _ _ _ => (e_tup (a_cons e_str (a_cons (e_var 5) a_nil)))))) a_nil)))) a_nil))))))
      s_nil)
    (s_one (s_ret (e_var 4))))))) pure_law_within_another
abbrev s_law : Stmt := topS 37
abbrev N_law : List Str := ["script", "draws", "words", "rule", "columns", "parts", "pair", "turn", "some", "question", "k"]
theorem sc_law : FnScope ["script", "draws", "words", "rule", "columns", "parts", "pair", "turn", "some", "question", "k"] ["script"] (defScope s_law) := ⟨rfl, rfl, rfl, by decide +kernel, rfl, by decide +kernel, by decide +kernel⟩
set_option maxHeartbeats 0 in
theorem ok_law {f : Addr} {fd : FuncData} (B : Blt mg) (F : Fun K "law" "law" s_law f fd) (F_law_draws : FnD P w K mg base 1 "_law_draws" ["script", "many"] sp_law_draws) (F_law_words : FnD P w K mg base 2 "_law_words" ["draws", "many"] sp_law_words) (F_law_take : FnD P w K mg base 1 "_law_take" ["draws", "many"] sp_law_take) (F_law_still : FnD P w K mg base 5 "_law_still" ["draws", "script", "words", "name", "columns"] sp_law_still) (F_law_two : FnD P w K mg base 4 "_law_two" ["draws", "script", "parts", "rule"] sp_law_two) (F_law_one : FnD P w K mg base 4 "_law_one" ["draws", "script", "p", "columns", "rule"] sp_law_one) (F_law_some_columns : FnD P w K mg base 2 "_law_some_columns" ["draws", "columns"] sp_law_some_columns) (F_law_within_another : FnD P w K mg base 1 "_law_within_another" ["draws", "words", "columns", "turn", "question"] sp_law_within_another) (F_law_same3 : FnD P w K mg base 24 "_law_same" ["actual", "due"] sp_law_same3) (F_simplified : FnD P w K mg base 53 "simplified" ["question"] sp_simplified) : FnOk P w K mg base CX0 54 f fd ["script"] (spOf K 1 sp_law) := by
  have nd := (sc_law).nd
  exact fn_ok w_law F sc_law (fun cdv A outer s H E hr =>
    (s_cons (s_asg 1 nd (e_call F_law_draws (hr.mono (j := 1) (by decide)) (a_cons (e_var 0) (a_cons e_int a_nil))))
    (s_cons (s_asg 2 nd (e_call F_law_words (hr.mono (j := 2) (by decide)) (a_cons (e_var 1) (a_cons e_int a_nil))))
    (s_cons (s_asg 3 nd (e_call F_law_take (hr.mono (j := 1) (by decide)) (a_cons (e_var 1) (a_cons e_int a_nil))))
    (s_cons (s_asg 4 nd (e_tuple B.tuple_ (e_sortedS rfl B.sorted_ (e_slH (e_var 2) (e_call F_law_take (hr.mono (j := 1) (by decide)) (a_cons (e_var 1) (a_cons e_int a_nil)))))))
    (s_cons (s_if (t_eqS (e_var 3) e_int)
      (s_one (s_asg 4 nd (e_tuple B.tuple_ (e_sortedS rfl B.sorted_ (e_slH (e_var 2) e_int)))))
      s_nil)
    (s_cons (s_setLc 5 rfl nd (i_rng1 B.range_ e_int) (blkOk_by (N := N_law) (sc := defScope s_law) (own := [("k", 10)]) (by decide +kernel)) (fun _ _ _ _ _ => (g_name 10 nd)) (fun _ _ _ _ _ => ts_nil) (fun _ _ _ _ _ => (e_call F_law_still (hr.mono (j := 5) (by decide)) (a_cons (e_var 1) (a_cons (e_var 0) (a_cons (e_var 2) (a_cons (e_ixs (e_var 2) (e_addG (e_var 10) e_int)) (a_cons (e_var 4) a_nil))))))))
    (s_cons (s_if (t_in (e_var 3) (e_lst (a_cons e_int (a_cons e_int (a_cons e_int (a_cons e_int (a_cons e_int a_nil)))))))
      (s_one (s_asg 6 nd (e_call F_law_two (hr.mono (j := 4) (by decide)) (a_cons (e_var 1) (a_cons (e_var 0) (a_cons (e_var 5) (a_cons (e_var 3) a_nil)))))))
      (s_one (s_asg 6 nd (e_call F_law_one (hr.mono (j := 4) (by decide)) (a_cons (e_var 1) (a_cons (e_var 0) (a_cons (e_ixs (e_var 5) e_int) (a_cons (e_var 4) (a_cons (e_var 3) a_nil)))))))))
    (s_cons (s_asg 7 nd (e_call F_law_take (hr.mono (j := 1) (by decide)) (a_cons (e_var 1) (a_cons e_int a_nil))))
    (s_cons (s_asg 8 nd (e_call F_law_some_columns (hr.mono (j := 2) (by decide)) (a_cons (e_var 1) (a_cons (e_var 4) a_nil))))
    (s_cons (s_if (t_bop (w_or (t_eqS (e_var 3) e_int) (w_or1 (t_eqS (e_var 3) e_int))))
      (s_one (s_asg 8 nd (e_tup a_nil)))
      s_nil)
    (s_cons (s_asg 9 nd (e_call F_law_within_another (hr.mono (j := 1) (by decide)) (a_cons (e_var 1) (a_cons (e_var 2) (a_cons (e_var 8) (a_cons (e_var 7) (a_cons (e_ixs (e_var 6) e_int) a_nil)))))))
    (s_one (s_ret (e_call F_law_same3 (hr.mono (j := 24) (by decide)) (a_cons (e_call F_simplified (hr.mono (j := 53) (by decide)) (a_cons (e_var 9) a_nil)) (a_cons (e_call F_law_within_another (hr.mono (j := 1) (by decide)) (a_cons (e_var 1) (a_cons (e_var 2) (a_cons (e_var 8) (a_cons (e_var 7) (a_cons (e_ixs (e_var 6) e_int) a_nil)))))) a_nil))))))))))))))))) pure_law
set_option maxHeartbeats 0 in
theorem okg_simplified (B : Blt mg) {f_simplified : Addr} {fd_simplified : FuncData} (U_simplified : Fun K "simplified" "simplified" s_simplified f_simplified fd_simplified) (g_simplified : mg "simplified" = some (.ref f_simplified)) {f_with_simple_parts : Addr} {fd_with_simple_parts : FuncData} (U_with_simple_parts : Fun K "with_simple_parts" "with_simple_parts" s_with_simple_parts f_with_simple_parts fd_with_simple_parts) (g_with_simple_parts : mg "with_simple_parts" = some (.ref f_with_simple_parts)) (F_changed_by_rule : FnD P w K mg base 21 "changed_by_rule" ["question"] sp_changed_by_rule) (F_parts_of : FnD P w K mg base 1 "parts_of" ["question"] sp_parts_of) : ∀ n : Nat, FnOk P w K mg base CX0 (21 + n) f_simplified fd_simplified ["question"] (spOf K 1 (spn_simplified n)) ∧ FnOk P w K mg base CX0 (21 + n) f_with_simple_parts fd_with_simple_parts ["question"] (spOf K 1 (spn_with_simple_parts n))
  | 0 => ⟨fn_false fun _ h => h, fn_false fun _ h => h⟩
  | n + 1 => by
    have Gr := okg_simplified B U_simplified g_simplified U_with_simple_parts g_with_simple_parts F_changed_by_rule F_parts_of n
    have F_simplified : FnD P w K mg base (21 + n) "simplified" ["question"] (spn_simplified n) := ⟨f_simplified, fd_simplified, Gr.1, g_simplified, U_simplified.kp, U_simplified.binds fun _ _ _ _ _ _ us hl => match us, hl with | [_], _ => rfl⟩
    have F_with_simple_parts : FnD P w K mg base (21 + n) "with_simple_parts" ["question"] (spn_with_simple_parts n) := ⟨f_with_simple_parts, fd_with_simple_parts, Gr.2, g_with_simple_parts, U_with_simple_parts.kp, U_with_simple_parts.binds fun _ _ _ _ _ _ us hl => match us, hl with | [_], _ => rfl⟩
    refine ⟨?_, ?_⟩
    · have nd := (sc_simplified).nd
      exact fn_ok (w_simplified n) U_simplified sc_simplified (fun cdv A outer s H E hr =>
    (s_cons (s_asg 1 nd (e_call F_with_simple_parts (hr.mono (j := 21 + n) (Nat.le_refl _)) (a_cons (e_var 0) a_nil)))
    (s_cons (s_asg 2 nd (e_call F_changed_by_rule (hr.mono (j := 21) (Nat.le_trans (by decide : _ ≤ 21) (Nat.le_add_right _ _))) (a_cons (e_var 1) a_nil)))
    (s_cons (s_while .never (t_notN (e_var 2))
      (s_cons (s_asg 1 nd (e_call F_with_simple_parts (hr.mono (j := 21 + n) (Nat.le_refl _)) (a_cons (e_var 2) a_nil)))
        (s_one (s_asg 2 nd (e_call F_changed_by_rule (hr.mono (j := 21) (Nat.le_trans (by decide : _ ≤ 21) (Nat.le_add_right _ _))) (a_cons (e_var 1) a_nil))))))
    (s_one (s_ret (e_var 1))))))) (pure_simplified n)
    · have nd := (sc_with_simple_parts).nd
      exact fn_ok (w_with_simple_parts n) U_with_simple_parts sc_with_simple_parts (fun cdv A outer s H E hr =>
    (s_cons (s_asg 1 nd (e_call F_parts_of (hr.mono (j := 1) (Nat.le_trans (by decide : _ ≤ 21) (Nat.le_add_right _ _))) (a_cons (e_var 0) a_nil)))
    (s_one (s_ret (e_addG (e_slH (e_var 0) (e_sub (e_len B.len_ (e_var 0)) (e_len B.len_ (e_var 1)))) (e_tuple B.tuple_ (e_lc rfl nd (i_seq (e_var 1)) (blkOk_by (N := N_with_simple_parts) (sc := defScope s_with_simple_parts) (own := [("part", 2)]) (by decide +kernel)) (fun _ _ _ _ _ => (g_name 2 nd)) (fun _ _ _ _ _ => ts_nil) (fun _ _ _ _ _ => (e_call F_simplified (hr.mono (j := 21 + n) (Nat.le_refl _)) (a_cons (e_var 2) a_nil)))))))))) (pure_with_simple_parts n)
end
set_option maxHeartbeats 0 in
theorem all_mk {l : PySem.W.OpenLaw} {w : World} {K : PySem.W.Frag} {h : Heap} {mg : Str → Option Value} {fa f0 f1 f2 f3 f4 f5 f6 f7 f8 f9 f10 f11 f12 f13 f14 f15 f16 f17 f18 f19 f20 f21 f22 f23 f24 f25 f26 : Addr} (X : K.In h) (G : h.Ns mainGlobals mg) (hfa : mg "law" = some (.ref fa))
    {od0 an0 od1 an1 od2 an2 od3 an3 od4 an4 od5 an5 od6 an6 od7 an7 od8 an8 od9 an9 od10 an10 od11 an11 od12 an12 od13 an13 od14 an14 od15 an15 od16 an16 od17 an17 od18 an18 od19 an19 od20 an20 od21 an21 od22 an22 od23 an23 od24 an24 od25 an25 od26 an26 : Option Addr} {sl0 sl1 sl2 sl3 sl4 sl5 sl6 sl7 sl8 sl9 sl10 sl11 sl12 sl13 sl14 sl15 sl16 sl17 sl18 sl19 sl20 sl21 sl22 sl23 sl24 sl25 sl26 : Array (Option Value)} {oc0 kV0 dc0 pm0 cd0 ct0 oc1 kV1 dc1 pm1 cd1 ct1 oc2 kV2 dc2 pm2 cd2 ct2 oc3 kV3 dc3 pm3 cd3 ct3 oc4 kV4 dc4 pm4 cd4 ct4 oc5 kV5 dc5 pm5 cd5 ct5 oc6 kV6 dc6 pm6 cd6 ct6 oc7 kV7 dc7 pm7 cd7 ct7 oc8 kV8 dc8 pm8 cd8 ct8 oc9 kV9 dc9 pm9 cd9 ct9 oc10 kV10 dc10 pm10 cd10 ct10 oc11 kV11 dc11 pm11 cd11 ct11 oc12 kV12 dc12 pm12 cd12 ct12 oc13 kV13 dc13 pm13 cd13 ct13 oc14 kV14 dc14 pm14 cd14 ct14 oc15 kV15 dc15 pm15 cd15 ct15 oc16 kV16 dc16 pm16 cd16 ct16 oc17 kV17 dc17 pm17 cd17 ct17 oc18 kV18 dc18 pm18 cd18 ct18 oc19 kV19 dc19 pm19 cd19 ct19 oc20 kV20 dc20 pm20 cd20 ct20 oc21 kV21 dc21 pm21 cd21 ct21 oc22 kV22 dc22 pm22 cd22 ct22 oc23 kV23 dc23 pm23 cd23 ct23 oc24 kV24 dc24 pm24 cd24 ct24 oc25 kV25 dc25 pm25 cd25 ct25 oc26 kV26 dc26 pm26 cd26 ct26 : Value}
    (a0 : PySem.W.nsIn K mainGlobals "parts_of" = some (some (.ref f0))) (l0 : K.lookup f0 = some ⟨oc0, od0, .func (PySem.W.fnOf "parts_of" "parts_of" (defArgs s_parts_of) (defBody s_parts_of) (defScope s_parts_of) .none kV0 dc0 pm0 an0 cd0 ct0), sl0⟩) (c0 : PySem.W.codeIn K cd0 "parts_of" = true) (k0 : PySem.W.keepIn K (.ref f0) = true)
    (a1 : PySem.W.nsIn K mainGlobals "columns_of" = some (some (.ref f1))) (l1 : K.lookup f1 = some ⟨oc1, od1, .func (PySem.W.fnOf "columns_of" "columns_of" (defArgs s_columns_of) (defBody s_columns_of) (defScope s_columns_of) .none kV1 dc1 pm1 an1 cd1 ct1), sl1⟩) (c1 : PySem.W.codeIn K cd1 "columns_of" = true) (k1 : PySem.W.keepIn K (.ref f1) = true)
    (a2 : PySem.W.nsIn K mainGlobals "node_columns" = some (some (.ref f2))) (l2 : K.lookup f2 = some ⟨oc2, od2, .func (PySem.W.fnOf "node_columns" "node_columns" (defArgs s_node_columns) (defBody s_node_columns) (defScope s_node_columns) .none kV2 dc2 pm2 an2 cd2 ct2), sl2⟩) (c2 : PySem.W.codeIn K cd2 "node_columns" = true) (k2 : PySem.W.keepIn K (.ref f2) = true)
    (a3 : PySem.W.nsIn K mainGlobals "ordered" = some (some (.ref f3))) (l3 : K.lookup f3 = some ⟨oc3, od3, .func (PySem.W.fnOf "ordered" "ordered" (defArgs s_ordered) (defBody s_ordered) (defScope s_ordered) .none kV3 dc3 pm3 an3 cd3 ct3), sl3⟩) (c3 : PySem.W.codeIn K cd3 "ordered" = true) (k3 : PySem.W.keepIn K (.ref f3) = true)
    (a4 : PySem.W.nsIn K mainGlobals "simplified" = some (some (.ref f4))) (l4 : K.lookup f4 = some ⟨oc4, od4, .func (PySem.W.fnOf "simplified" "simplified" (defArgs s_simplified) (defBody s_simplified) (defScope s_simplified) .none kV4 dc4 pm4 an4 cd4 ct4), sl4⟩) (c4 : PySem.W.codeIn K cd4 "simplified" = true) (k4 : PySem.W.keepIn K (.ref f4) = true)
    (a5 : PySem.W.nsIn K mainGlobals "with_simple_parts" = some (some (.ref f5))) (l5 : K.lookup f5 = some ⟨oc5, od5, .func (PySem.W.fnOf "with_simple_parts" "with_simple_parts" (defArgs s_with_simple_parts) (defBody s_with_simple_parts) (defScope s_with_simple_parts) .none kV5 dc5 pm5 an5 cd5 ct5), sl5⟩) (c5 : PySem.W.codeIn K cd5 "with_simple_parts" = true) (k5 : PySem.W.keepIn K (.ref f5) = true)
    (a6 : PySem.W.nsIn K mainGlobals "changed_by_rule" = some (some (.ref f6))) (l6 : K.lookup f6 = some ⟨oc6, od6, .func (PySem.W.fnOf "changed_by_rule" "changed_by_rule" (defArgs s_changed_by_rule) (defBody s_changed_by_rule) (defScope s_changed_by_rule) .none kV6 dc6 pm6 an6 cd6 ct6), sl6⟩) (c6 : PySem.W.codeIn K cd6 "changed_by_rule" = true) (k6 : PySem.W.keepIn K (.ref f6) = true)
    (a7 : PySem.W.nsIn K mainGlobals "changed_with_one_part" = some (some (.ref f7))) (l7 : K.lookup f7 = some ⟨oc7, od7, .func (PySem.W.fnOf "changed_with_one_part" "changed_with_one_part" (defArgs s_changed_with_one_part) (defBody s_changed_with_one_part) (defScope s_changed_with_one_part) .none kV7 dc7 pm7 an7 cd7 ct7), sl7⟩) (c7 : PySem.W.codeIn K cd7 "changed_with_one_part" = true) (k7 : PySem.W.keepIn K (.ref f7) = true)
    (a8 : PySem.W.nsIn K mainGlobals "joined_bound" = some (some (.ref f8))) (l8 : K.lookup f8 = some ⟨oc8, od8, .func (PySem.W.fnOf "joined_bound" "joined_bound" (defArgs s_joined_bound) (defBody s_joined_bound) (defScope s_joined_bound) .none kV8 dc8 pm8 an8 cd8 ct8), sl8⟩) (c8 : PySem.W.codeIn K cd8 "joined_bound" = true) (k8 : PySem.W.keepIn K (.ref f8) = true)
    (a9 : PySem.W.nsIn K mainGlobals "changed_only" = some (some (.ref f9))) (l9 : K.lookup f9 = some ⟨oc9, od9, .func (PySem.W.fnOf "changed_only" "changed_only" (defArgs s_changed_only) (defBody s_changed_only) (defScope s_changed_only) .none kV9 dc9 pm9 an9 cd9 ct9), sl9⟩) (c9 : PySem.W.codeIn K cd9 "changed_only" = true) (k9 : PySem.W.keepIn K (.ref f9) = true)
    (a10 : PySem.W.nsIn K mainGlobals "changed_with_two_parts" = some (some (.ref f10))) (l10 : K.lookup f10 = some ⟨oc10, od10, .func (PySem.W.fnOf "changed_with_two_parts" "changed_with_two_parts" (defArgs s_changed_with_two_parts) (defBody s_changed_with_two_parts) (defScope s_changed_with_two_parts) .none kV10 dc10 pm10 an10 cd10 ct10), sl10⟩) (c10 : PySem.W.codeIn K cd10 "changed_with_two_parts" = true) (k10 : PySem.W.keepIn K (.ref f10) = true)
    (a11 : PySem.W.nsIn K mainGlobals "_law_draws" = some (some (.ref f11))) (l11 : K.lookup f11 = some ⟨oc11, od11, .func (PySem.W.fnOf "_law_draws" "_law_draws" (defArgs s_law_draws) (defBody s_law_draws) (defScope s_law_draws) .none kV11 dc11 pm11 an11 cd11 ct11), sl11⟩) (c11 : PySem.W.codeIn K cd11 "_law_draws" = true) (k11 : PySem.W.keepIn K (.ref f11) = true)
    (a12 : PySem.W.nsIn K mainGlobals "_law_take" = some (some (.ref f12))) (l12 : K.lookup f12 = some ⟨oc12, od12, .func (PySem.W.fnOf "_law_take" "_law_take" (defArgs s_law_take) (defBody s_law_take) (defScope s_law_take) .none kV12 dc12 pm12 an12 cd12 ct12), sl12⟩) (c12 : PySem.W.codeIn K cd12 "_law_take" = true) (k12 : PySem.W.keepIn K (.ref f12) = true)
    (a13 : PySem.W.nsIn K mainGlobals "_law_pick" = some (some (.ref f13))) (l13 : K.lookup f13 = some ⟨oc13, od13, .func (PySem.W.fnOf "_law_pick" "_law_pick" (defArgs s_law_pick) (defBody s_law_pick) (defScope s_law_pick) .none kV13 dc13 pm13 an13 cd13 ct13), sl13⟩) (c13 : PySem.W.codeIn K cd13 "_law_pick" = true) (k13 : PySem.W.keepIn K (.ref f13) = true)
    (a14 : PySem.W.nsIn K mainGlobals "_law_size" = some (some (.ref f14))) (l14 : K.lookup f14 = some ⟨oc14, od14, .func (PySem.W.fnOf "_law_size" "_law_size" (defArgs s_law_size) (defBody s_law_size) (defScope s_law_size) .none kV14 dc14 pm14 an14 cd14 ct14), sl14⟩) (c14 : PySem.W.codeIn K cd14 "_law_size" = true) (k14 : PySem.W.keepIn K (.ref f14) = true)
    (a15 : PySem.W.nsIn K mainGlobals "_law_same" = some (some (.ref f15))) (l15 : K.lookup f15 = some ⟨oc15, od15, .func (PySem.W.fnOf "_law_same" "_law_same" (defArgs s_law_same3) (defBody s_law_same3) (defScope s_law_same3) .none kV15 dc15 pm15 an15 cd15 ct15), sl15⟩) (c15 : PySem.W.codeIn K cd15 "_law_same" = true) (k15 : PySem.W.keepIn K (.ref f15) = true)
    (a16 : PySem.W.nsIn K mainGlobals "_law_some_columns" = some (some (.ref f16))) (l16 : K.lookup f16 = some ⟨oc16, od16, .func (PySem.W.fnOf "_law_some_columns" "_law_some_columns" (defArgs s_law_some_columns) (defBody s_law_some_columns) (defScope s_law_some_columns) .none kV16 dc16 pm16 an16 cd16 ct16), sl16⟩) (c16 : PySem.W.codeIn K cd16 "_law_some_columns" = true) (k16 : PySem.W.keepIn K (.ref f16) = true)
    (a17 : PySem.W.nsIn K mainGlobals "_law_words" = some (some (.ref f17))) (l17 : K.lookup f17 = some ⟨oc17, od17, .func (PySem.W.fnOf "_law_words" "_law_words" (defArgs s_law_words) (defBody s_law_words) (defScope s_law_words) .none kV17 dc17 pm17 an17 cd17 ct17), sl17⟩) (c17 : PySem.W.codeIn K cd17 "_law_words" = true) (k17 : PySem.W.keepIn K (.ref f17) = true)
    (a18 : PySem.W.nsIn K mainGlobals "_law_number" = some (some (.ref f18))) (l18 : K.lookup f18 = some ⟨oc18, od18, .func (PySem.W.fnOf "_law_number" "_law_number" (defArgs s_law_number) (defBody s_law_number) (defScope s_law_number) .none kV18 dc18 pm18 an18 cd18 ct18), sl18⟩) (c18 : PySem.W.codeIn K cd18 "_law_number" = true) (k18 : PySem.W.keepIn K (.ref f18) = true)
    (a19 : PySem.W.nsIn K mainGlobals "_law_worth" = some (some (.ref f19))) (l19 : K.lookup f19 = some ⟨oc19, od19, .func (PySem.W.fnOf "_law_worth" "_law_worth" (defArgs s_law_worth) (defBody s_law_worth) (defScope s_law_worth) .none kV19 dc19 pm19 an19 cd19 ct19), sl19⟩) (c19 : PySem.W.codeIn K cd19 "_law_worth" = true) (k19 : PySem.W.keepIn K (.ref f19) = true)
    (a20 : PySem.W.nsIn K mainGlobals "_law_shifted" = some (some (.ref f20))) (l20 : K.lookup f20 = some ⟨oc20, od20, .func (PySem.W.fnOf "_law_shifted" "_law_shifted" (defArgs s_law_shifted) (defBody s_law_shifted) (defScope s_law_shifted) .none kV20 dc20 pm20 an20 cd20 ct20), sl20⟩) (c20 : PySem.W.codeIn K cd20 "_law_shifted" = true) (k20 : PySem.W.keepIn K (.ref f20) = true)
    (a21 : PySem.W.nsIn K mainGlobals "_law_nearby" = some (some (.ref f21))) (l21 : K.lookup f21 = some ⟨oc21, od21, .func (PySem.W.fnOf "_law_nearby" "_law_nearby" (defArgs s_law_nearby) (defBody s_law_nearby) (defScope s_law_nearby) .none kV21 dc21 pm21 an21 cd21 ct21), sl21⟩) (c21 : PySem.W.codeIn K cd21 "_law_nearby" = true) (k21 : PySem.W.keepIn K (.ref f21) = true)
    (a22 : PySem.W.nsIn K mainGlobals "_law_still" = some (some (.ref f22))) (l22 : K.lookup f22 = some ⟨oc22, od22, .func (PySem.W.fnOf "_law_still" "_law_still" (defArgs s_law_still) (defBody s_law_still) (defScope s_law_still) .none kV22 dc22 pm22 an22 cd22 ct22), sl22⟩) (c22 : PySem.W.codeIn K cd22 "_law_still" = true) (k22 : PySem.W.keepIn K (.ref f22) = true)
    (a23 : PySem.W.nsIn K mainGlobals "_law_one" = some (some (.ref f23))) (l23 : K.lookup f23 = some ⟨oc23, od23, .func (PySem.W.fnOf "_law_one" "_law_one" (defArgs s_law_one) (defBody s_law_one) (defScope s_law_one) .none kV23 dc23 pm23 an23 cd23 ct23), sl23⟩) (c23 : PySem.W.codeIn K cd23 "_law_one" = true) (k23 : PySem.W.keepIn K (.ref f23) = true)
    (a24 : PySem.W.nsIn K mainGlobals "_law_two" = some (some (.ref f24))) (l24 : K.lookup f24 = some ⟨oc24, od24, .func (PySem.W.fnOf "_law_two" "_law_two" (defArgs s_law_two) (defBody s_law_two) (defScope s_law_two) .none kV24 dc24 pm24 an24 cd24 ct24), sl24⟩) (c24 : PySem.W.codeIn K cd24 "_law_two" = true) (k24 : PySem.W.keepIn K (.ref f24) = true)
    (a25 : PySem.W.nsIn K mainGlobals "_law_within_another" = some (some (.ref f25))) (l25 : K.lookup f25 = some ⟨oc25, od25, .func (PySem.W.fnOf "_law_within_another" "_law_within_another" (defArgs s_law_within_another) (defBody s_law_within_another) (defScope s_law_within_another) .none kV25 dc25 pm25 an25 cd25 ct25), sl25⟩) (c25 : PySem.W.codeIn K cd25 "_law_within_another" = true) (k25 : PySem.W.keepIn K (.ref f25) = true)
    (a26 : PySem.W.nsIn K mainGlobals "law" = some (some (.ref f26))) (l26 : K.lookup f26 = some ⟨oc26, od26, .func (PySem.W.fnOf "law" "law" (defArgs s_law) (defBody s_law) (defScope s_law) .none kV26 dc26 pm26 an26 cd26 ct26), sl26⟩) (c26 : PySem.W.codeIn K cd26 "law" = true) (k26 : PySem.W.keepIn K (.ref f26) = true)
    (z0 : PySem.W.nsIn K mainGlobals "len" = some none) (z1 : PySem.W.nsIn K mainGlobals "range" = some none) (z2 : PySem.W.nsIn K mainGlobals "int" = some none) (z3 : PySem.W.nsIn K mainGlobals "abs" = some none) (z4 : PySem.W.nsIn K mainGlobals "list" = some none) (z5 : PySem.W.nsIn K mainGlobals "tuple" = some none) (z6 : PySem.W.nsIn K mainGlobals "sum" = some none) (z7 : PySem.W.nsIn K mainGlobals "any" = some none) (z8 : PySem.W.nsIn K mainGlobals "sorted" = some none) (z9 : PySem.W.nsIn K mainGlobals "max" = some none) (z10 : PySem.W.nsIn K mainGlobals "min" = some none) (z11 : PySem.W.nsIn K mainGlobals "divmod" = some none) (z12 : PySem.W.nsIn K mainGlobals "isinstance" = some none) (z13 : PySem.W.nsIn K mainGlobals "zip" = some none) (z14 : PySem.W.nsIn K mainGlobals "reversed" = some none) (z15 : PySem.W.nsIn K mainGlobals "bool" = some none) (z16 : PySem.W.nsIn K mainGlobals "str" = some none) (z17 : PySem.W.nsIn K mainGlobals "set" = some none) (z18 : PySem.W.nsIn K mainGlobals "all" = some none) (z19 : PySem.W.nsIn K mainGlobals "enumerate" = some none)  (G_EVERY_MOMENT : GlbT K mg "EVERY_MOMENT" tab_EVERY_MOMENT) (G_FOLLOWING : GlbT K mg "FOLLOWING" tab_FOLLOWING) (G_ITEMS : DctT w K mg "ITEMS" tab_ITEMS) (G_LOOKING : GlbT K mg "LOOKING" tab_LOOKING) (G_SAME_TWICE : GlbT K mg "SAME_TWICE" tab_SAME_TWICE) (G_SHIFTED_TOGETHER : GlbT K mg "SHIFTED_TOGETHER" tab_SHIFTED_TOGETHER) (G_SOME_MOMENT : GlbT K mg "SOME_MOMENT" tab_SOME_MOMENT) (G_TOTALS : GlbT K mg "TOTALS" tab_TOTALS) :
    ∃ fd : FuncData, (∀ (s : Shared) (v : Value), BindsTo s fd ⟨[v], []⟩ [("script", v)]) ∧ ∀ base : Heap, K.In base → base.Ns mainGlobals mg → FnOk l.prog w K mg base CX0 54 fa fd ["script"] (spOf K 1 sp_law) := by
  have e := hfa.symm.trans (PySem.W.mg_of X G a26)
  cases e
  have U0 := fun_mk (st := s_parts_of) l0 c0 k0
  have U1 := fun_mk (st := s_columns_of) l1 c1 k1
  have U2 := fun_mk (st := s_node_columns) l2 c2 k2
  have U3 := fun_mk (st := s_ordered) l3 c3 k3
  have U4 := fun_mk (st := s_simplified) l4 c4 k4
  have U5 := fun_mk (st := s_with_simple_parts) l5 c5 k5
  have U6 := fun_mk (st := s_changed_by_rule) l6 c6 k6
  have U7 := fun_mk (st := s_changed_with_one_part) l7 c7 k7
  have U8 := fun_mk (st := s_joined_bound) l8 c8 k8
  have U9 := fun_mk (st := s_changed_only) l9 c9 k9
  have U10 := fun_mk (st := s_changed_with_two_parts) l10 c10 k10
  have U11 := fun_mk (st := s_law_draws) l11 c11 k11
  have U12 := fun_mk (st := s_law_take) l12 c12 k12
  have U13 := fun_mk (st := s_law_pick) l13 c13 k13
  have U14 := fun_mk (st := s_law_size) l14 c14 k14
  have U15 := fun_mk (st := s_law_same3) l15 c15 k15
  have U16 := fun_mk (st := s_law_some_columns) l16 c16 k16
  have U17 := fun_mk (st := s_law_words) l17 c17 k17
  have U18 := fun_mk (st := s_law_number) l18 c18 k18
  have U19 := fun_mk (st := s_law_worth) l19 c19 k19
  have U20 := fun_mk (st := s_law_shifted) l20 c20 k20
  have U21 := fun_mk (st := s_law_nearby) l21 c21 k21
  have U22 := fun_mk (st := s_law_still) l22 c22 k22
  have U23 := fun_mk (st := s_law_one) l23 c23 k23
  have U24 := fun_mk (st := s_law_two) l24 c24 k24
  have U25 := fun_mk (st := s_law_within_another) l25 c25 k25
  have U26 := fun_mk (st := s_law) l26 c26 k26
  refine ⟨PySem.W.fnOf "law" "law" (defArgs s_law) (defBody s_law) (defScope s_law) .none kV26 dc26 pm26 an26 cd26 ct26, fun s v => .of_eq rfl, fun base _ _ => ?_⟩
  have B : Blt mg := ⟨PySem.W.mg_none_of X G z0, PySem.W.mg_none_of X G z1, PySem.W.mg_none_of X G z2, PySem.W.mg_none_of X G z3, PySem.W.mg_none_of X G z4, PySem.W.mg_none_of X G z5, PySem.W.mg_none_of X G z6, PySem.W.mg_none_of X G z7, PySem.W.mg_none_of X G z8, PySem.W.mg_none_of X G z9, PySem.W.mg_none_of X G z10, PySem.W.mg_none_of X G z11, PySem.W.mg_none_of X G z12, PySem.W.mg_none_of X G z13, PySem.W.mg_none_of X G z14, PySem.W.mg_none_of X G z15, PySem.W.mg_none_of X G z16, PySem.W.mg_none_of X G z17, PySem.W.mg_none_of X G z18, PySem.W.mg_none_of X G z19⟩
  have F_law_draws : FnD l.prog w K mg base 1 "_law_draws" ["script", "many"] sp_law_draws := ⟨_, _, ok_law_draws B U11, PySem.W.mg_of X G a11, (U11).kp, (U11).binds fun _ _ _ _ _ _ us hl => match us, hl with | [_, _], _ => rfl⟩
  have F_law_take : FnD l.prog w K mg base 1 "_law_take" ["draws", "many"] sp_law_take := ⟨_, _, ok_law_take B U12, PySem.W.mg_of X G a12, (U12).kp, (U12).binds fun _ _ _ _ _ _ us hl => match us, hl with | [_, _], _ => rfl⟩
  have F_law_words : FnD l.prog w K mg base 2 "_law_words" ["draws", "many"] sp_law_words := ⟨_, _, ok_law_words B U17 F_law_take, PySem.W.mg_of X G a17, (U17).kp, (U17).binds fun _ _ _ _ _ _ us hl => match us, hl with | [_, _], _ => rfl⟩
  have F_law_pick : FnD l.prog w K mg base 2 "_law_pick" ["draws", "row"] sp_law_pick := ⟨_, _, ok_law_pick B U13 F_law_take, PySem.W.mg_of X G a13, (U13).kp, (U13).binds fun _ _ _ _ _ _ us hl => match us, hl with | [_, _], _ => rfl⟩
  have F_law_size : FnD l.prog w K mg base 2 "_law_size" ["draws", "script"] sp_law_size := ⟨_, _, ok_law_size B U14 F_law_take, PySem.W.mg_of X G a14, (U14).kp, (U14).binds fun _ _ _ _ _ _ us hl => match us, hl with | [_, _], _ => rfl⟩
  have F_law_number : FnD l.prog w K mg base 3 "_law_number" ["draws", "script"] sp_law_number := ⟨_, _, ok_law_number B U18 F_law_size F_law_take, PySem.W.mg_of X G a18, (U18).kp, (U18).binds fun _ _ _ _ _ _ us hl => match us, hl with | [_, _], _ => rfl⟩
  have F_law_worth : FnD l.prog w K mg base 4 "_law_worth" ["draws", "script", "words"] sp_law_worth := ⟨_, _, ok_law_worth B U19 F_law_take F_law_pick F_law_number, PySem.W.mg_of X G a19, (U19).kp, (U19).binds fun _ _ _ _ _ _ us hl => match us, hl with | [_, _, _], _ => rfl⟩
  have F_law_still : FnD l.prog w K mg base 5 "_law_still" ["draws", "script", "words", "name", "columns"] sp_law_still := ⟨_, _, ok_law_still B U22 F_law_worth F_law_take F_law_number, PySem.W.mg_of X G a22, (U22).kp, (U22).binds fun _ _ _ _ _ _ us hl => match us, hl with | [_, _, _, _, _], _ => rfl⟩
  have F_law_shifted : FnD l.prog w K mg base 1 "_law_shifted" ["number", "p"] sp_law_shifted := ⟨_, _, ok_law_shifted B U20, PySem.W.mg_of X G a20, (U20).kp, (U20).binds fun _ _ _ _ _ _ us hl => match us, hl with | [_, _], _ => rfl⟩
  have F_law_nearby : FnD l.prog w K mg base 1 "_law_nearby" ["kind", "within", "p"] sp_law_nearby := ⟨_, _, ok_law_nearby B U21, PySem.W.mg_of X G a21, (U21).kp, (U21).binds fun _ _ _ _ _ _ us hl => match us, hl with | [_, _, _], _ => rfl⟩
  have F_law_two : FnD l.prog w K mg base 4 "_law_two" ["draws", "script", "parts", "rule"] sp_law_two := ⟨_, _, ok_law_two B U24 F_law_pick F_law_number F_law_shifted F_law_size F_law_nearby, PySem.W.mg_of X G a24, (U24).kp, (U24).binds fun _ _ _ _ _ _ us hl => match us, hl with | [_, _, _, _], _ => rfl⟩
  have F_law_some_columns : FnD l.prog w K mg base 2 "_law_some_columns" ["draws", "columns"] sp_law_some_columns := ⟨_, _, ok_law_some_columns B U16 F_law_take, PySem.W.mg_of X G a16, (U16).kp, (U16).binds fun _ _ _ _ _ _ us hl => match us, hl with | [_, _], _ => rfl⟩
  have F_law_one : FnD l.prog w K mg base 4 "_law_one" ["draws", "script", "p", "columns", "rule"] sp_law_one := ⟨_, _, ok_law_one B U23 F_law_number F_law_pick F_law_shifted F_law_size F_law_nearby F_law_some_columns F_law_take, PySem.W.mg_of X G a23, (U23).kp, (U23).binds fun _ _ _ _ _ _ us hl => match us, hl with | [_, _, _, _, _], _ => rfl⟩
  have F_law_within_another : FnD l.prog w K mg base 1 "_law_within_another" ["draws", "words", "columns", "turn", "question"] sp_law_within_another := ⟨_, _, ok_law_within_another B U25, PySem.W.mg_of X G a25, (U25).kp, (U25).binds fun _ _ _ _ _ _ us hl => match us, hl with | [_, _, _, _, _], _ => rfl⟩
  have F_law_same3 : FnD l.prog w K mg base 24 "_law_same" ["actual", "due"] sp_law_same3 := ⟨_, _, ok_law_same3 B U15 (PySem.W.mg_of X G a15), PySem.W.mg_of X G a15, (U15).kp, (U15).binds fun _ _ _ _ _ _ us hl => match us, hl with | [_, _], _ => rfl⟩
  have F_parts_of : FnD l.prog w K mg base 1 "parts_of" ["question"] sp_parts_of := ⟨_, _, ok_parts_of B U0 G_ITEMS, PySem.W.mg_of X G a0, (U0).kp, (U0).binds fun _ _ _ _ _ _ us hl => match us, hl with | [_], _ => rfl⟩
  have F_ordered : FnD l.prog w K mg base 1 "ordered" ["words"] sp_ordered := ⟨_, _, ok_ordered B U3, PySem.W.mg_of X G a3, (U3).kp, (U3).binds fun _ _ _ _ _ _ us hl => match us, hl with | [_], _ => rfl⟩
  have F_node_columns : FnD l.prog w K mg base 2 "node_columns" ["question", "given"] sp_node_columns := ⟨_, _, ok_node_columns B U2 F_ordered G_TOTALS G_FOLLOWING, PySem.W.mg_of X G a2, (U2).kp, (U2).binds fun _ _ _ _ _ _ us hl => match us, hl with | [_, _], _ => rfl⟩
  have F_columns_of : FnD l.prog w K mg base 18 "columns_of" ["question"] sp_columns_of := ⟨_, _, ok_columns_of B U1 (PySem.W.mg_of X G a1) F_node_columns F_parts_of, PySem.W.mg_of X G a1, (U1).kp, (U1).binds fun _ _ _ _ _ _ us hl => match us, hl with | [_], _ => rfl⟩
  have F_changed_only : FnD l.prog w K mg base 19 "changed_only" ["columns", "part"] sp_changed_only := ⟨_, _, ok_changed_only B U9 F_columns_of, PySem.W.mg_of X G a9, (U9).kp, (U9).binds fun _ _ _ _ _ _ us hl => match us, hl with | [_, _], _ => rfl⟩
  have F_joined_bound : FnD l.prog w K mg base 1 "joined_bound" ["one", "other"] sp_joined_bound := ⟨_, _, ok_joined_bound B U8, PySem.W.mg_of X G a8, (U8).kp, (U8).binds fun _ _ _ _ _ _ us hl => match us, hl with | [_, _], _ => rfl⟩
  have F_changed_with_one_part : FnD l.prog w K mg base 20 "changed_with_one_part" ["question"] sp_changed_with_one_part := ⟨_, _, ok_changed_with_one_part B U7 F_changed_only F_joined_bound G_LOOKING, PySem.W.mg_of X G a7, (U7).kp, (U7).binds fun _ _ _ _ _ _ us hl => match us, hl with | [_], _ => rfl⟩
  have F_changed_with_two_parts : FnD l.prog w K mg base 1 "changed_with_two_parts" ["question"] sp_changed_with_two_parts := ⟨_, _, ok_changed_with_two_parts B U10 G_FOLLOWING G_EVERY_MOMENT G_SOME_MOMENT G_SHIFTED_TOGETHER G_SAME_TWICE, PySem.W.mg_of X G a10, (U10).kp, (U10).binds fun _ _ _ _ _ _ us hl => match us, hl with | [_], _ => rfl⟩
  have F_changed_by_rule : FnD l.prog w K mg base 21 "changed_by_rule" ["question"] sp_changed_by_rule := ⟨_, _, ok_changed_by_rule B U6 F_parts_of F_changed_with_one_part F_changed_with_two_parts, PySem.W.mg_of X G a6, (U6).kp, (U6).binds fun _ _ _ _ _ _ us hl => match us, hl with | [_], _ => rfl⟩
  have Gr_simplified := okg_simplified (P := l.prog) (w := w) (base := base) B U4 (PySem.W.mg_of X G a4) U5 (PySem.W.mg_of X G a5) F_changed_by_rule F_parts_of 32
  have F_simplified : FnD l.prog w K mg base 53 "simplified" ["question"] (spn_simplified 32) := ⟨_, _, Gr_simplified.1, PySem.W.mg_of X G a4, (U4).kp, (U4).binds fun _ _ _ _ _ _ us hl => match us, hl with | [_], _ => rfl⟩
  have F_with_simple_parts : FnD l.prog w K mg base 53 "with_simple_parts" ["question"] (spn_with_simple_parts 32) := ⟨_, _, Gr_simplified.2, PySem.W.mg_of X G a5, (U5).kp, (U5).binds fun _ _ _ _ _ _ us hl => match us, hl with | [_], _ => rfl⟩
  have Gr_simplified := okg_simplified (P := l.prog) (w := w) (base := base) B U4 (PySem.W.mg_of X G a4) U5 (PySem.W.mg_of X G a5) F_changed_by_rule F_parts_of 32
  have F_simplified : FnD l.prog w K mg base 53 "simplified" ["question"] (spn_simplified 32) := ⟨_, _, Gr_simplified.1, PySem.W.mg_of X G a4, (U4).kp, (U4).binds fun _ _ _ _ _ _ us hl => match us, hl with | [_], _ => rfl⟩
  have F_with_simple_parts : FnD l.prog w K mg base 53 "with_simple_parts" ["question"] (spn_with_simple_parts 32) := ⟨_, _, Gr_simplified.2, PySem.W.mg_of X G a5, (U5).kp, (U5).binds fun _ _ _ _ _ _ us hl => match us, hl with | [_], _ => rfl⟩
  exact ok_law (P := l.prog) (w := w) (base := base) B U26 F_law_draws F_law_words F_law_take F_law_still F_law_two F_law_one F_law_some_columns F_law_within_another F_law_same3 F_simplified
end Lw
open PySem PySem.W PyProof.Rows
set_option maxHeartbeats 0 in
theorem PySem.Challenge.cw_ateverymoment_k44_each_rule_once_holds : PySem.Challenge.rw_ateverymoment_k44_each_rule_once.Holds := by
  w_on; o_law; k_head; (case hw => w_witness2)
  k_fill
  refine L2.walk_of (l := PySem.Challenge.rw_ateverymoment_k44_each_rule_once) (n := 63) (k := 54) (x := "script") (CX := fun _ => L2.CX0) (sp := fun w => DL.spOf _ 1 DL.sp_law) rfl (by decide) rfl ⟨rfl, by decide, by decide⟩ (fun w h Y => PySem.W.kIn_of Y) ?F (fun _ H a ns hl hO hS => DL.law_start hl hO hS) (fun _ _ _ _ _ h => h)
  case F =>
    intro w mg fa h KX G hmg
    refine' Lw.all_mk KX G hmg ?a0 ?l0 ?c0 ?k0 ?a1 ?l1 ?c1 ?k1 ?a2 ?l2 ?c2 ?k2 ?a3 ?l3 ?c3 ?k3 ?a4 ?l4 ?c4 ?k4 ?a5 ?l5 ?c5 ?k5 ?a6 ?l6 ?c6 ?k6 ?a7 ?l7 ?c7 ?k7 ?a8 ?l8 ?c8 ?k8 ?a9 ?l9 ?c9 ?k9 ?a10 ?l10 ?c10 ?k10 ?a11 ?l11 ?c11 ?k11 ?a12 ?l12 ?c12 ?k12 ?a13 ?l13 ?c13 ?k13 ?a14 ?l14 ?c14 ?k14 ?a15 ?l15 ?c15 ?k15 ?a16 ?l16 ?c16 ?k16 ?a17 ?l17 ?c17 ?k17 ?a18 ?l18 ?c18 ?k18 ?a19 ?l19 ?c19 ?k19 ?a20 ?l20 ?c20 ?k20 ?a21 ?l21 ?c21 ?k21 ?a22 ?l22 ?c22 ?k22 ?a23 ?l23 ?c23 ?k23 ?a24 ?l24 ?c24 ?k24 ?a25 ?l25 ?c25 ?k25 ?a26 ?l26 ?c26 ?k26 ?z0 ?z1 ?z2 ?z3 ?z4 ?z5 ?z6 ?z7 ?z8 ?z9 ?z10 ?z11 ?z12 ?z13 ?z14 ?z15 ?z16 ?z17 ?z18 ?z19 ?G_EVERY_MOMENT ?G_FOLLOWING ?G_ITEMS ?G_LOOKING ?G_SAME_TWICE ?G_SHIFTED_TOGETHER ?G_SOME_MOMENT ?G_TOTALS
    (case a0 => k_is); (case l0 => k_is); (case c0 => k_is); (case k0 => k_is); (case a1 => k_is); (case l1 => k_is); (case c1 => k_is); (case k1 => k_is); (case a2 => k_is); (case l2 => k_is); (case c2 => k_is); (case k2 => k_is); (case a3 => k_is); (case l3 => k_is); (case c3 => k_is); (case k3 => k_is); (case a4 => k_is); (case l4 => k_is); (case c4 => k_is); (case k4 => k_is); (case a5 => k_is); (case l5 => k_is); (case c5 => k_is); (case k5 => k_is); (case a6 => k_is); (case l6 => k_is); (case c6 => k_is); (case k6 => k_is); (case a7 => k_is); (case l7 => k_is); (case c7 => k_is); (case k7 => k_is); (case a8 => k_is); (case l8 => k_is); (case c8 => k_is); (case k8 => k_is); (case a9 => k_is); (case l9 => k_is); (case c9 => k_is); (case k9 => k_is); (case a10 => k_is); (case l10 => k_is); (case c10 => k_is); (case k10 => k_is); (case a11 => k_is); (case l11 => k_is); (case c11 => k_is); (case k11 => k_is); (case a12 => k_is); (case l12 => k_is); (case c12 => k_is); (case k12 => k_is); (case a13 => k_is); (case l13 => k_is); (case c13 => k_is); (case k13 => k_is); (case a14 => k_is); (case l14 => k_is); (case c14 => k_is); (case k14 => k_is); (case a15 => k_is); (case l15 => k_is); (case c15 => k_is); (case k15 => k_is); (case a16 => k_is); (case l16 => k_is); (case c16 => k_is); (case k16 => k_is); (case a17 => k_is); (case l17 => k_is); (case c17 => k_is); (case k17 => k_is); (case a18 => k_is); (case l18 => k_is); (case c18 => k_is); (case k18 => k_is); (case a19 => k_is); (case l19 => k_is); (case c19 => k_is); (case k19 => k_is); (case a20 => k_is); (case l20 => k_is); (case c20 => k_is); (case k20 => k_is); (case a21 => k_is); (case l21 => k_is); (case c21 => k_is); (case k21 => k_is); (case a22 => k_is); (case l22 => k_is); (case c22 => k_is); (case k22 => k_is); (case a23 => k_is); (case l23 => k_is); (case c23 => k_is); (case k23 => k_is); (case a24 => k_is); (case l24 => k_is); (case c24 => k_is); (case k24 => k_is); (case a25 => k_is); (case l25 => k_is); (case c25 => k_is); (case k25 => k_is); (case a26 => k_is); (case l26 => k_is); (case c26 => k_is); (case k26 => k_is); (case z0 => k_is); (case z1 => k_is); (case z2 => k_is); (case z3 => k_is); (case z4 => k_is); (case z5 => k_is); (case z6 => k_is); (case z7 => k_is); (case z8 => k_is); (case z9 => k_is); (case z10 => k_is); (case z11 => k_is); (case z12 => k_is); (case z13 => k_is); (case z14 => k_is); (case z15 => k_is); (case z16 => k_is); (case z17 => k_is); (case z18 => k_is); (case z19 => k_is); (case G_EVERY_MOMENT => (refine' DL.GlbT.mk' (PySem.W.mg_of KX G ?y) ?e; (case y => k_is); (case e => (refine' DL.TupT.mk' ?lk ?oc ?on ?od ?sz ?vs; (case lk => k_is); (case oc => rfl); (case on => rfl); (case od => rfl); (case sz => decide); (case vs => exact ⟨rfl, rfl, True.intro⟩))))); (case G_FOLLOWING => (refine' DL.GlbT.mk' (PySem.W.mg_of KX G ?y) ?e; (case y => k_is); (case e => (refine' DL.TupT.mk' ?lk ?oc ?on ?od ?sz ?vs; (case lk => k_is); (case oc => rfl); (case on => rfl); (case od => rfl); (case sz => decide); (case vs => exact ⟨rfl, rfl, rfl, rfl, True.intro⟩))))); (case G_ITEMS => (refine' DL.DctT.mk' (PySem.W.mg_of KX G ?y) ?l ?k ?al; (case y => k_is); (case l => k_is); (case k => k_keys); (case al => ((refine' DL.AllT.cons' ?i0 ?e0 ?r0; (case i0 => k_is); (case e0 => (refine' DL.TupT.mk' ?lk ?oc ?on ?od ?sz ?vs; (case lk => k_is); (case oc => rfl); (case on => rfl); (case od => rfl); (case sz => decide); (case vs => exact ⟨rfl, rfl, True.intro⟩)))); (refine' DL.AllT.cons' ?i1 ?e1 ?r1; (case i1 => k_is); (case e1 => (refine' DL.TupT.mk' ?lk ?oc ?on ?od ?sz ?vs; (case lk => k_is); (case oc => rfl); (case on => rfl); (case od => rfl); (case sz => decide); (case vs => exact ⟨rfl, rfl, True.intro⟩)))); (refine' DL.AllT.cons' ?i2 ?e2 ?r2; (case i2 => k_is); (case e2 => (refine' DL.TupT.mk' ?lk ?oc ?on ?od ?sz ?vs; (case lk => k_is); (case oc => rfl); (case on => rfl); (case od => rfl); (case sz => decide); (case vs => exact ⟨rfl, rfl, True.intro⟩)))); (refine' DL.AllT.cons' ?i3 ?e3 ?r3; (case i3 => k_is); (case e3 => (refine' DL.TupT.mk' ?lk ?oc ?on ?od ?sz ?vs; (case lk => k_is); (case oc => rfl); (case on => rfl); (case od => rfl); (case sz => decide); (case vs => exact ⟨rfl, rfl, True.intro⟩)))); (refine' DL.AllT.cons' ?i4 ?e4 ?r4; (case i4 => k_is); (case e4 => (refine' DL.TupT.mk' ?lk ?oc ?on ?od ?sz ?vs; (case lk => k_is); (case oc => rfl); (case on => rfl); (case od => rfl); (case sz => decide); (case vs => exact ⟨rfl, rfl, True.intro⟩)))); (refine' DL.AllT.cons' ?i5 ?e5 ?r5; (case i5 => k_is); (case e5 => (refine' DL.TupT.mk' ?lk ?oc ?on ?od ?sz ?vs; (case lk => k_is); (case oc => rfl); (case on => rfl); (case od => rfl); (case sz => decide); (case vs => exact ⟨rfl, rfl, rfl, rfl, True.intro⟩)))); (refine' DL.AllT.cons' ?i6 ?e6 ?r6; (case i6 => k_is); (case e6 => (refine' DL.TupT.mk' ?lk ?oc ?on ?od ?sz ?vs; (case lk => k_is); (case oc => rfl); (case on => rfl); (case od => rfl); (case sz => decide); (case vs => exact ⟨rfl, rfl, True.intro⟩)))); (refine' DL.AllT.cons' ?i7 ?e7 ?r7; (case i7 => k_is); (case e7 => (refine' DL.TupT.mk' ?lk ?oc ?on ?od ?sz ?vs; (case lk => k_is); (case oc => rfl); (case on => rfl); (case od => rfl); (case sz => decide); (case vs => exact ⟨rfl, rfl, True.intro⟩)))); (refine' DL.AllT.cons' ?i8 ?e8 ?r8; (case i8 => k_is); (case e8 => (refine' DL.TupT.mk' ?lk ?oc ?on ?od ?sz ?vs; (case lk => k_is); (case oc => rfl); (case on => rfl); (case od => rfl); (case sz => decide); (case vs => exact ⟨rfl, rfl, True.intro⟩)))); (refine' DL.AllT.cons' ?i9 ?e9 ?r9; (case i9 => k_is); (case e9 => (refine' DL.TupT.mk' ?lk ?oc ?on ?od ?sz ?vs; (case lk => k_is); (case oc => rfl); (case on => rfl); (case od => rfl); (case sz => decide); (case vs => exact ⟨rfl, rfl, True.intro⟩)))); (refine' DL.AllT.cons' ?i10 ?e10 ?r10; (case i10 => k_is); (case e10 => (refine' DL.TupT.mk' ?lk ?oc ?on ?od ?sz ?vs; (case lk => k_is); (case oc => rfl); (case on => rfl); (case od => rfl); (case sz => decide); (case vs => exact ⟨rfl, rfl, True.intro⟩)))); (refine' DL.AllT.cons' ?i11 ?e11 ?r11; (case i11 => k_is); (case e11 => (refine' DL.TupT.mk' ?lk ?oc ?on ?od ?sz ?vs; (case lk => k_is); (case oc => rfl); (case on => rfl); (case od => rfl); (case sz => decide); (case vs => exact ⟨rfl, rfl, True.intro⟩)))); (refine' DL.AllT.cons' ?i12 ?e12 ?r12; (case i12 => k_is); (case e12 => (refine' DL.TupT.mk' ?lk ?oc ?on ?od ?sz ?vs; (case lk => k_is); (case oc => rfl); (case on => rfl); (case od => rfl); (case sz => decide); (case vs => exact ⟨rfl, rfl, True.intro⟩)))); (refine' DL.AllT.cons' ?i13 ?e13 ?r13; (case i13 => k_is); (case e13 => (refine' DL.TupT.mk' ?lk ?oc ?on ?od ?sz ?vs; (case lk => k_is); (case oc => rfl); (case on => rfl); (case od => rfl); (case sz => decide); (case vs => exact ⟨rfl, rfl, True.intro⟩)))); (refine' DL.AllT.cons' ?i14 ?e14 ?r14; (case i14 => k_is); (case e14 => (refine' DL.TupT.mk' ?lk ?oc ?on ?od ?sz ?vs; (case lk => k_is); (case oc => rfl); (case on => rfl); (case od => rfl); (case sz => decide); (case vs => exact ⟨rfl, rfl, True.intro⟩)))); (refine' DL.AllT.cons' ?i15 ?e15 ?r15; (case i15 => k_is); (case e15 => (refine' DL.TupT.mk' ?lk ?oc ?on ?od ?sz ?vs; (case lk => k_is); (case oc => rfl); (case on => rfl); (case od => rfl); (case sz => decide); (case vs => exact ⟨rfl, rfl, rfl, True.intro⟩)))); (refine' DL.AllT.cons' ?i16 ?e16 ?r16; (case i16 => k_is); (case e16 => (refine' DL.TupT.mk' ?lk ?oc ?on ?od ?sz ?vs; (case lk => k_is); (case oc => rfl); (case on => rfl); (case od => rfl); (case sz => decide); (case vs => exact ⟨rfl, rfl, rfl, rfl, True.intro⟩)))); (refine' DL.AllT.cons' ?i17 ?e17 ?r17; (case i17 => k_is); (case e17 => (refine' DL.TupT.mk' ?lk ?oc ?on ?od ?sz ?vs; (case lk => k_is); (case oc => rfl); (case on => rfl); (case od => rfl); (case sz => decide); (case vs => exact ⟨rfl, rfl, rfl, rfl, True.intro⟩)))); (refine' DL.AllT.cons' ?i18 ?e18 ?r18; (case i18 => k_is); (case e18 => (refine' DL.TupT.mk' ?lk ?oc ?on ?od ?sz ?vs; (case lk => k_is); (case oc => rfl); (case on => rfl); (case od => rfl); (case sz => decide); (case vs => exact ⟨rfl, rfl, rfl, rfl, True.intro⟩)))); (refine' DL.AllT.cons' ?i19 ?e19 ?r19; (case i19 => k_is); (case e19 => (refine' DL.TupT.mk' ?lk ?oc ?on ?od ?sz ?vs; (case lk => k_is); (case oc => rfl); (case on => rfl); (case od => rfl); (case sz => decide); (case vs => exact ⟨rfl, rfl, rfl, True.intro⟩)))); (refine' DL.AllT.cons' ?i20 ?e20 ?r20; (case i20 => k_is); (case e20 => (refine' DL.TupT.mk' ?lk ?oc ?on ?od ?sz ?vs; (case lk => k_is); (case oc => rfl); (case on => rfl); (case od => rfl); (case sz => decide); (case vs => exact ⟨rfl, rfl, rfl, True.intro⟩)))); exact True.intro)))); (case G_LOOKING => (refine' DL.GlbT.mk' (PySem.W.mg_of KX G ?y) ?e; (case y => k_is); (case e => (refine' DL.TupT.mk' ?lk ?oc ?on ?od ?sz ?vs; (case lk => k_is); (case oc => rfl); (case on => rfl); (case od => rfl); (case sz => decide); (case vs => exact ⟨rfl, rfl, rfl, rfl, True.intro⟩))))); (case G_SAME_TWICE => (refine' DL.GlbT.mk' (PySem.W.mg_of KX G ?y) ?e; (case y => k_is); (case e => (refine' DL.TupT.mk' ?lk ?oc ?on ?od ?sz ?vs; (case lk => k_is); (case oc => rfl); (case on => rfl); (case od => rfl); (case sz => decide); (case vs => exact ⟨rfl, rfl, rfl, rfl, True.intro⟩))))); (case G_SHIFTED_TOGETHER => (refine' DL.GlbT.mk' (PySem.W.mg_of KX G ?y) ?e; (case y => k_is); (case e => (refine' DL.TupT.mk' ?lk ?oc ?on ?od ?sz ?vs; (case lk => k_is); (case oc => rfl); (case on => rfl); (case od => rfl); (case sz => decide); (case vs => exact ⟨rfl, rfl, rfl, True.intro⟩))))); (case G_SOME_MOMENT => (refine' DL.GlbT.mk' (PySem.W.mg_of KX G ?y) ?e; (case y => k_is); (case e => (refine' DL.TupT.mk' ?lk ?oc ?on ?od ?sz ?vs; (case lk => k_is); (case oc => rfl); (case on => rfl); (case od => rfl); (case sz => decide); (case vs => exact ⟨rfl, rfl, True.intro⟩))))); (case G_TOTALS => (refine' DL.GlbT.mk' (PySem.W.mg_of KX G ?y) ?e; (case y => k_is); (case e => (refine' DL.TupT.mk' ?lk ?oc ?on ?od ?sz ?vs; (case lk => k_is); (case oc => rfl); (case on => rfl); (case od => rfl); (case sz => decide); (case vs => exact ⟨rfl, rfl, rfl, rfl, True.intro⟩)))))