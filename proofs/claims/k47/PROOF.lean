import PyProof.Rows.All
import HandS.ForMost
import HandS.IsInst
import HandS.Walk
import HandS.Flow
import HandS.Style
import HandS.WideBits
import HandS.Zip
import HandS.Rev
import HandS.RevRange
import HandS.RevTup
import HandS.TupAny
import HandS.More
import HandS.Conv
import KE.KDictZip
import KE.KRevSl
import KE.GoesMore
import HandS.SortRule
import HandS.Defaults
import HandS.FStr
import PyProof.Rows.StrIntSpec
import PyProof.StrLawsOcc
import PyProof.Rows.FactsT3
import HandS.SetFor
import HandS.Strs
import HandS.Text
import KE.GoesEnum
import HandS.SortKw
import KE.DatumOrd
import OpenK.AllK
import KE.KDictWalk
import KE.KDictCopyH
import HandS.DictComp
import HandS.Replace
import HandS.Text
import KE.DataFind
import KE.SortKeyHeap
import HandS.Keys
import HandS.Strs
import HandS.Deep
import HandS.RaiseMore
import PySem.Challenge.RW_ateverymoment_k47_written_form
set_option Elab.async false
set_option linter.all false
set_option maxRecDepth 100000

namespace DL
open PySem PySem.Spec PyProof.Rows L2

/-! ### data -/
/-- values: whole numbers and words -/
inductive Vl where
  | int (n : Int) | str (x : Str)
deriving DecidableEq
inductive D where
  | non | bl (b : Bool) | int (i : Int) | str (x : Str) | tup (ds : List D) | lst (ds : List D) | rol (ds : List D) | tpd (ds : List D) | rod (ks : List (List Vl)) (vs : List D) | obj (n : Nat) (ds : List D) | rdk (ks : List Vl) (vs : List D)

def isL : D → Bool
  | .lst _ => true
  | _ => false

def SqR (K : PySem.W.Frag) (H : Hp) (a : Addr) (xs : List V) : Prop :=
  (∃ o, H a = some (.frz o (.lst xs))) ∨
    ∃ (o : Obj) (its : Array Value) (n : Nat), K.lookup a = some o ∧ o.cls = .type "list" ∧ o.dict = none ∧ o.data = .seq its n ∧ its.size ≤ sizeLine ∧ Vals xs its.toList
theorem SqR.seq {K : PySem.W.Frag} {H : Hp} {a : Addr} {xs : List V} (h : SqR K H a xs) : SqL K H a xs := by
  rcases h with ⟨o, h⟩ | h
  · exact .inl (.inr ⟨o, h⟩)
  · exact .inr h

/-- a tuple that is known to have no dict -/
def TpK (K : PySem.W.Frag) (H : Hp) (a : Addr) (xs : List V) : Prop := (∃ o : Obj, H a = some (.frz o (.tup xs)) ∧ o.dict = none) ∨
    ∃ (o : Obj) (its : Array Value) (n : Nat), K.lookup a = some o ∧ o.cls = .type "tuple" ∧ o.dict = none ∧ o.data = .seq its n ∧ its.size ≤ sizeLine ∧ Vals xs its.toList
theorem TpK.t {K : PySem.W.Frag} {H : Hp} {a : Addr} {xs : List V} (h : TpK K H a xs) : SqT K H a xs := by
  rcases h with ⟨o, h, _⟩ | ⟨o, its, n, h1, h2, _, h3⟩
  · exact .inl (.inr ⟨o, h⟩)
  · exact .inr ⟨o, its, n, h1, h2, h3⟩
def Vl.key : Vl → L2.Key
  | .int n => .inl n
  | .str x => .inr x
/-- own classes and what their instances bear -/
def cNm : Nat → Str
  | 0 => "Times"
  | _ => "Reader"
def cAt : Nat → List Str
  | 0 => ["table"]
  | _ => ["text", "at"]
mutual
def RpI (K : PySem.W.Frag) (H : Hp) : D → V → Prop
  | .non, v => v = .non
  | .bl b, v => v = .bl b
  | .int i, v => v = .int i
  | .str x, v => v = .str x
  | .tup ds, v => ∃ a vs, v = .ref a ∧ H a = some (.tup vs) ∧ RpIs K H ds vs
  | .tpd ds, v => ∃ a vs, v = .ref a ∧ TpK K H a vs ∧ RpIs K H ds vs
  | .rod ks ds, v => ∃ (a : Addr) (kvs : List (List L2.Key × V)), v = .ref a ∧ (∃ o : Obj, H a = some (.frz o (.dT kvs))) ∧ kvs.map (·.1) = ks.map (·.map Vl.key) ∧ RpIs K H ds (kvs.map (·.2))
  | .rdk ks ds, v => ∃ (a : Addr) (kvs : List (L2.Key × V)), v = .ref a ∧ (∃ o : Obj, H a = some (.frz o (.dK kvs))) ∧ kvs.map (·.1) = ks.map Vl.key ∧ RpIs K H ds (kvs.map (·.2))
  | .rol ds, v => ∃ a vs, v = .ref a ∧ SqR K H a vs ∧ RpIs K H ds vs
  | .obj n ds, v => ∃ (a C dx : Addr) (kvs : List (Str × V)), v = .ref a ∧ PySem.W.nsIn K mainGlobals (cNm n) = some (some (.ref C)) ∧ H a = some (.ins C dx kvs) ∧ kvs.map (·.1) = cAt n ∧ RpIs K H ds (kvs.map (·.2))
  | .lst _, _ => False
def RpIs (K : PySem.W.Frag) (H : Hp) : List D → List V → Prop
  | [], vs => vs = []
  | d :: ds, vs => ∃ v r, vs = v :: r ∧ RpI K H d v ∧ RpIs K H ds r
end
def RpV (K : PySem.W.Frag) (H : Hp) : D → V → Prop
  | .lst ds, v => ∃ a vs, v = .ref a ∧ H a = some (.lst vs) ∧ RpIs K H ds vs
  | d, v => RpI K H d v

/-- all that is no list is kept -/
def Kp (H H' : Hp) : Prop := ∀ b o, H b = some o → (∀ xs, o ≠ .lst xs) → H' b = some o
theorem Kp.refl (H : Hp) : Kp H H := fun _ _ h _ => h
theorem Kp.trans {H H1 H2 : Hp} (a : Kp H H1) (b : Kp H1 H2) : Kp H H2 := fun c o h n => b c o (a c o h n) n
theorem Kp.tup {K : PySem.W.Frag} {H H' : Hp} (k : Kp H H') {a : Addr} {vs : List V} (h : SqT K H a vs) : SqT K H' a vs := by
  rcases h with (h | ⟨o, h⟩) | h
  · exact .inl (.inl (k _ _ h (fun _ e => nomatch e)))
  · exact .inl (.inr ⟨o, k _ _ h (fun _ e => nomatch e)⟩)
  · exact .inr h
theorem Kp.rol {K : PySem.W.Frag} {H H' : Hp} (k : Kp H H') {a : Addr} {vs : List V} (h : SqR K H a vs) : SqR K H' a vs := by
  rcases h with ⟨o, h⟩ | h
  · exact .inl ⟨o, k _ _ h (fun _ e => nomatch e)⟩
  · exact .inr h
mutual
theorem RpI.kp {K : PySem.W.Frag} {H H' : Hp} (k : Kp H H') : ∀ (d : D) (v : V), RpI K H d v → RpI K H' d v
  | .non, v, h => h
  | .bl _, v, h => h
  | .int _, v, h => h
  | .str _, v, h => h
  | .tup ds, v, h => by
    simp only [RpI] at h ⊢
    obtain ⟨a, vs, e, s, r⟩ := h
    exact ⟨a, vs, e, k _ _ s (fun _ z => nomatch z), RpIs.kp k ds vs r⟩
  | .tpd ds, v, h => by
    simp only [RpI] at h ⊢
    obtain ⟨a, vs, e, s, r⟩ := h
    refine ⟨a, vs, e, ?_, RpIs.kp k ds vs r⟩
    rcases s with ⟨o, s, d⟩ | s
    · exact .inl ⟨o, k _ _ s (fun _ z => nomatch z), d⟩
    · exact .inr s
  | .rod ks ds, v, h => by
    simp only [RpI] at h ⊢
    obtain ⟨a, kvs, e, s, m, r⟩ := h
    obtain ⟨o, s⟩ := s
    exact ⟨a, kvs, e, ⟨o, k _ _ s (fun _ z => nomatch z)⟩, m, RpIs.kp k ds _ r⟩
  | .rdk ks ds, v, h => by
    simp only [RpI] at h ⊢
    obtain ⟨a, kvs, e, s, m, r⟩ := h
    obtain ⟨o, s⟩ := s
    exact ⟨a, kvs, e, ⟨o, k _ _ s (fun _ z => nomatch z)⟩, m, RpIs.kp k ds _ r⟩
  | .rol ds, v, h => by
    simp only [RpI] at h ⊢
    obtain ⟨a, vs, e, s, r⟩ := h
    exact ⟨a, vs, e, k.rol s, RpIs.kp k ds vs r⟩
  | .obj n ds, v, h => by
    simp only [RpI] at h ⊢
    obtain ⟨a, C, dx, kvs, e, c, s, m, r⟩ := h
    exact ⟨a, C, dx, kvs, e, c, k _ _ s (fun _ z => nomatch z), m, RpIs.kp k ds _ r⟩
  | .lst _, v, h => by simp only [RpI] at h
theorem RpIs.kp {K : PySem.W.Frag} {H H' : Hp} (k : Kp H H') : ∀ (ds : List D) (vs : List V), RpIs K H ds vs → RpIs K H' ds vs
  | [], vs, h => by simp only [RpIs] at h ⊢; exact h
  | d :: ds, vs, h => by
    simp only [RpIs] at h ⊢
    obtain ⟨v, r, e, h1, h2⟩ := h
    exact ⟨v, r, e, RpI.kp k d v h1, RpIs.kp k ds r h2⟩
end
theorem RpV.of {K : PySem.W.Frag} {H : Hp} {d : D} {v : V} (h : RpI K H d v) : RpV K H d v := by
  cases d <;> first | exact h | (simp only [RpI] at h)
theorem RpV.imm {K : PySem.W.Frag} {H : Hp} {d : D} {v : V} (h : RpV K H d v) (n : isL d = false) : RpI K H d v := by
  cases d <;> first | exact h | (exact absurd n (by simp [isL]))
theorem RpV.kp {K : PySem.W.Frag} {H H' : Hp} {d : D} {v : V} (k : Kp H H') (h : RpV K H d v) (n : isL d = false) : RpV K H' d v := .of (RpI.kp k d v (h.imm n))
theorem RpV.kpl {K : PySem.W.Frag} {H H' : Hp} {ds : List D} {v : V} (k : Kp H H') (h : RpV K H (.lst ds) v) (e : ∀ a o, v = .ref a → H a = some o → H' a = some o) : RpV K H' (.lst ds) v := by
  obtain ⟨a, vs, e1, e2, r⟩ := h
  exact ⟨a, vs, e1, e a _ e1 e2, RpIs.kp k ds vs r⟩

theorem RpIs.length {K : PySem.W.Frag} {H : Hp} : ∀ {ds : List D} {vs : List V}, RpIs K H ds vs → ds.length = vs.length
  | [], vs, h => by simp only [RpIs] at h; subst h; rfl
  | d :: ds, vs, h => by
    simp only [RpIs] at h
    obtain ⟨v, r, rfl, _, h2⟩ := h
    simp only [List.length_cons, RpIs.length h2]
theorem RpIs.get {K : PySem.W.Frag} {H : Hp} : ∀ {ds : List D} {vs : List V} {i : Nat} {d : D}, RpIs K H ds vs → ds[i]? = some d → ∃ v, vs[i]? = some v ∧ RpI K H d v
  | [], vs, i, d, h, e => by simp at e
  | d0 :: ds, vs, 0, d, h, e => by
    simp only [RpIs] at h
    obtain ⟨v, r, rfl, h1, _⟩ := h
    simp at e; subst e
    exact ⟨v, rfl, h1⟩
  | d0 :: ds, vs, i + 1, d, h, e => by
    simp only [RpIs] at h
    obtain ⟨v, r, rfl, _, h2⟩ := h
    obtain ⟨u, e1, e2⟩ := RpIs.get h2 (by simpa using e)
    exact ⟨u, by simpa using e1, e2⟩
theorem RpIs.get' {K : PySem.W.Frag} {H : Hp} : ∀ {ds : List D} {vs : List V} {i : Nat} {v : V}, RpIs K H ds vs → vs[i]? = some v → ∃ d, ds[i]? = some d ∧ RpI K H d v := by
  intro ds vs i v h e
  have hl := h.length
  have hi : i < ds.length := by rw [hl]; exact (List.getElem?_eq_some_iff.mp e).1
  obtain ⟨u, e1, e2⟩ := h.get (List.getElem?_eq_getElem hi)
  rw [e] at e1; cases e1
  exact ⟨_, List.getElem?_eq_getElem hi, e2⟩
theorem RpIs.append {K : PySem.W.Frag} {H : Hp} : ∀ {ds es : List D} {vs us : List V}, RpIs K H ds vs → RpIs K H es us → RpIs K H (ds ++ es) (vs ++ us)
  | [], es, vs, us, h, g => by simp only [RpIs] at h; subst h; exact g
  | d :: ds, es, vs, us, h, g => by
    simp only [RpIs] at h
    obtain ⟨v, r, rfl, h1, h2⟩ := h
    show RpIs K H (d :: (ds ++ es)) (v :: (r ++ us))
    simp only [RpIs]
    exact ⟨v, _, rfl, h1, RpIs.append h2 g⟩
theorem RpIs.set {K : PySem.W.Frag} {H : Hp} {d : D} {v : V} (hv : RpI K H d v) : ∀ {ds : List D} {vs : List V} (i : Nat), RpIs K H ds vs → RpIs K H (ds.set i d) (vs.set i v)
  | [], vs, i, h => by simp only [RpIs] at h; subst h; simp [RpIs]
  | d0 :: ds, vs, 0, h => by
    simp only [RpIs] at h
    obtain ⟨w, r, rfl, _, h2⟩ := h
    simp only [List.set_cons_zero, RpIs]
    exact ⟨v, r, rfl, hv, h2⟩
  | d0 :: ds, vs, i + 1, h => by
    simp only [RpIs] at h
    obtain ⟨w, r, rfl, h1, h2⟩ := h
    simp only [List.set_cons_succ, RpIs]
    exact ⟨w, _, rfl, h1, RpIs.set hv i h2⟩
theorem RpIs.take {K : PySem.W.Frag} {H : Hp} : ∀ {ds : List D} {vs : List V} (n : Nat), RpIs K H ds vs → RpIs K H (ds.take n) (vs.take n)
  | ds, vs, 0, h => by simp [RpIs]
  | [], vs, n + 1, h => by simp only [RpIs] at h; subst h; simp [RpIs]
  | d0 :: ds, vs, n + 1, h => by
    simp only [RpIs] at h
    obtain ⟨w, r, rfl, h1, h2⟩ := h
    simp only [List.take_succ_cons, RpIs]
    exact ⟨w, _, rfl, h1, RpIs.take n h2⟩
theorem RpIs.drop {K : PySem.W.Frag} {H : Hp} : ∀ {ds : List D} {vs : List V} (n : Nat), RpIs K H ds vs → RpIs K H (ds.drop n) (vs.drop n)
  | ds, vs, 0, h => h
  | [], vs, n + 1, h => by simp only [RpIs] at h; subst h; simp [RpIs]
  | d0 :: ds, vs, n + 1, h => by
    simp only [RpIs] at h
    obtain ⟨w, r, rfl, h1, h2⟩ := h
    exact RpIs.drop n h2
theorem RpIs.reverse {K : PySem.W.Frag} {H : Hp} : ∀ {ds : List D} {vs : List V}, RpIs K H ds vs → RpIs K H ds.reverse vs.reverse
  | [], vs, h => by simp only [RpIs] at h; subst h; simp [RpIs]
  | d0 :: ds, vs, h => by
    simp only [RpIs] at h
    obtain ⟨w, r, rfl, h1, h2⟩ := h
    rw [List.reverse_cons, List.reverse_cons]
    refine RpIs.append (RpIs.reverse h2) ?_
    simp only [RpIs]
    exact ⟨w, [], rfl, h1, rfl⟩
theorem RpIs.dropLast {K : PySem.W.Frag} {H : Hp} {ds : List D} {vs : List V} (h : RpIs K H ds vs) : RpIs K H ds.dropLast vs.dropLast := by
  rw [List.dropLast_eq_take, List.dropLast_eq_take, h.length]
  exact RpIs.take _ h

/-! ### what a frame's slots hold -/
abbrev DEnv := List (Option D)
def LA (σ : L2.St) (env : DEnv) (b : Addr) : Prop := ∃ (i : Nat) (xs : List D), env[i]? = some (some (D.lst xs)) ∧ σ[i]? = some (some (V.ref b))
structure Rep (K : PySem.W.Frag) (np : Nat) (He : Hp) (σ : L2.St) (H : Hp) (env : DEnv) : Prop where
  len : σ.length = env.length
  val : ∀ (i : Nat) (d : D), env[i]? = some (some d) → ∃ v, σ[i]? = some (some v) ∧ RpV K H d v
  apart : ∀ (i j : Nat) (xs ys : List D) (a : Addr), env[i]? = some (some (D.lst xs)) → env[j]? = some (some (D.lst ys)) → σ[i]? = some (some (V.ref a)) → σ[j]? = some (some (V.ref a)) → i = j
  own : ∀ (i : Nat) (xs : List D) (a : Addr), np ≤ i → env[i]? = some (some (D.lst xs)) → σ[i]? = some (some (V.ref a)) → He a = none
  dom : ∀ b, H b = none → He b = none
section
variable {K : PySem.W.Frag} {np : Nat} {He : Hp} {σ σ' σ'' : L2.St} {H H' H'' : Hp} {env env' env'' : DEnv}
theorem Rep.la (R : Rep K np He σ H env) {b : Addr} (h : LA σ env b) : ∃ vs, H b = some (.lst vs) := by
  obtain ⟨i, xs, e, e2⟩ := h
  obtain ⟨v, e3, a, vs, rfl, e5, _⟩ := R.val i _ e
  rw [e2] at e3
  have e4 : b = a := by simpa using e3
  subst e4
  exact ⟨vs, e5⟩

structure SE (K : PySem.W.Frag) (np : Nat) (He : Hp) (σ : L2.St) (H : Hp) (env : DEnv) (H' : Hp) (env' : DEnv) : Prop where
  rep : Rep K np He σ H' env'
  shape : ∀ (i : Nat), env'[i]? = env[i]? ∨ ∃ (xs ys : List D), env[i]? = some (some (D.lst xs)) ∧ env'[i]? = some (some (D.lst ys))
  keep : ∀ b o, H b = some o → ¬ LA σ env b → H' b = some o
  dom : ∀ b, H' b = none → H b = none
theorem SE.refl (R : Rep K np He σ H env) : SE K np He σ H env H env := ⟨R, fun _ => .inl rfl, fun _ _ h _ => h, fun _ h => h⟩
theorem SE.la (s : SE K np He σ H env H' env') {b : Addr} : LA σ env' b ↔ LA σ env b := by
  constructor
  · rintro ⟨i, xs, e, e2⟩
    rcases s.shape i with h | ⟨ys, zs, h1, h2⟩
    · exact ⟨i, xs, h ▸ e, e2⟩
    · exact ⟨i, ys, h1, e2⟩
  · rintro ⟨i, xs, e, e2⟩
    rcases s.shape i with h | ⟨ys, zs, h1, h2⟩
    · exact ⟨i, xs, h.trans e, e2⟩
    · exact ⟨i, zs, h2, e2⟩
theorem SE.trans (a : SE K np He σ H env H' env') (b : SE K np He σ H' env' H'' env'') : SE K np He σ H env H'' env'' where
  rep := b.rep
  shape := fun i => by
    rcases b.shape i with h | ⟨ys, zs, h1, h2⟩
    · rcases a.shape i with g | ⟨us, ws, g1, g2⟩
      · exact .inl (h.trans g)
      · exact .inr ⟨us, ws, g1, h.trans g2⟩
    · rcases a.shape i with g | ⟨us, ws, g1, g2⟩
      · exact .inr ⟨ys, zs, g ▸ h1, h2⟩
      · exact .inr ⟨us, zs, g1, h2⟩
  keep := fun c o h n => b.keep c o (a.keep c o h n) fun z => n (a.la.mp z)
  dom := fun c h => a.dom c (b.dom c h)
theorem SE.kp (R : Rep K np He σ H env) (s : SE K np He σ H env H' env') : Kp H H' := fun b o h n => s.keep b o h fun z => by
  obtain ⟨vs, e⟩ := R.la z
  rw [h] at e
  exact n vs (Option.some.inj e)

/-! ### an expression's result: a value, or a list that stands in a slot -/
inductive RV where
  | val (d : D) | ref (i : Nat)
def RpR (K : PySem.W.Frag) (σ : L2.St) (H H' : Hp) (env' : DEnv) (v : V) : RV → Prop
  | .val d => RpV K H' d v ∧ (isL d = true → ∀ a, v = .ref a → H a = none)
  | .ref i => σ[i]? = some (some v) ∧ ∃ xs, env'[i]? = some (some (D.lst xs))
def getv (env : DEnv) (i : Nat) (k : D → Prop) : Prop :=
  match env[i]? with
  | some (some d) => k d
  | _ => False
theorem getv_of {i : Nat} {k : D → Prop} (h : getv env i k) : ∃ d, env[i]? = some (some d) ∧ k d := by
  unfold getv at h
  split at h
  · exact ⟨_, by assumption, h⟩
  · exact h.elim
def rs (env : DEnv) : RV → (D → Prop) → Prop
  | .val d, k => k d
  | .ref i, k => getv env i k
/-- behind further steps -/
theorem RpR.keep {v : V} {r : RV} (R : Rep K np He σ H env) (a : SE K np He σ H env H' env') (b : SE K np He σ H' env' H'' env'') (h : RpR K σ H H' env' v r) : RpR K σ H H'' env'' v r := by
  cases r with
  | ref i =>
    obtain ⟨e, xs, e2⟩ := h
    refine ⟨e, ?_⟩
    rcases b.shape i with g | ⟨us, ws, g1, g2⟩
    · exact ⟨xs, g.trans e2⟩
    · exact ⟨ws, g2⟩
  | val d =>
    obtain ⟨h1, h2⟩ := h
    refine ⟨?_, h2⟩
    by_cases hd : isL d = true
    · cases d with
      | lst ds =>
        refine h1.kpl (SE.kp a.rep b) fun c o e1 e2 => b.keep c o e2 fun z => ?_
        have z' := a.la.mp z
        obtain ⟨vs, e3⟩ := R.la z'
        rw [h2 rfl c e1] at e3
        cases e3
      | _ => simp [isL] at hd
    · exact h1.kp (SE.kp a.rep b) (by simpa using hd)
/-- what it stands for now -/
theorem RpR.rs {v : V} {r : RV} {k : D → Prop} (R : Rep K np He σ H' env') (h : RpR K σ H H' env' v r) (g : rs env' r k) : ∃ d, RpV K H' d v ∧ k d := by
  cases r with
  | val d => exact ⟨d, h.1, g⟩
  | ref i =>
    obtain ⟨d, e, q⟩ := getv_of g
    obtain ⟨u, e2, r⟩ := R.val i d e
    rw [h.1] at e2
    have e3 : v = u := by simpa using e2
    subst e3
    exact ⟨d, r, q⟩
end
end DL

namespace DL
open PySem PySem.Spec PyProof.Rows L2

abbrev W := DEnv → (RV → DEnv → Prop) → Prop
abbrev WA := DEnv → (List RV → DEnv → Prop) → Prop
def rE (K : PySem.W.Frag) (np : Nat) (He : Hp) (w : W) : TE := fun σ H Q => ∃ env Q0, Rep K np He σ H env ∧ w env Q0 ∧
  ∀ r env' v H', Q0 r env' → SE K np He σ H env H' env' → RpR K σ H H' env' v r → Q v H'
def TN (v : V) (r : RV) (vs : List V) (rl : List RV) : Prop := ∀ d, r = .val d → isL d = true → ∀ (j : Nat) (ys : List D), rl[j]? = some (.val (.lst ys)) → vs[j]? ≠ some v
def RpRs (K : PySem.W.Frag) (σ : L2.St) (H H' : Hp) (env' : DEnv) : List V → List RV → Prop
  | [], rl => rl = []
  | v :: vs, rl => ∃ r rest, rl = r :: rest ∧ RpR K σ H H' env' v r ∧ RpRs K σ H H' env' vs rest ∧ TN v r vs rest
def rA (K : PySem.W.Frag) (np : Nat) (He : Hp) (w : WA) : TA := fun σ H Q => ∃ env Q0, Rep K np He σ H env ∧ w env Q0 ∧
  ∀ rl env' vs H', Q0 rl env' → SE K np He σ H env H' env' → RpRs K σ H H' env' vs rl → Q vs H'
abbrev DE (X : Cx) (np : Nat) (He : Hp) (e : Expr) (w : W) : Prop := PE X e (rE X.K np He w)
abbrev DT (X : Cx) (np : Nat) (He : Hp) (e : Expr) (w : W) : Prop := PT X e (tB (rE X.K np He w))
abbrev DA (X : Cx) (np : Nat) (He : Hp) (es : List Expr) (w : WA) : Prop := PA X es (rA X.K np He w)

theorem PE.weak {X : Cx} {e : Expr} {t t' : TE} (h : PE X e t) (i : ∀ σ H Q, t' σ H Q → t σ H Q) : PE X e t' := ⟨fun pins s σ H Q I q => h.run pins s σ H Q I (i σ H Q q)⟩
theorem PT.weak {X : Cx} {e : Expr} {t t' : TT} (h : PT X e t) (i : ∀ σ H Q, t' σ H Q → t σ H Q) : PT X e t' := ⟨fun pins s σ H Q I q => h.run pins s σ H Q I (i σ H Q q)⟩
theorem PA.weak {X : Cx} {e : List Expr} {t t' : TA} (h : PA X e t) (i : ∀ σ H Q, t' σ H Q → t σ H Q) : PA X e t' := ⟨fun pos pins s σ H Q I q => h.run pos pins s σ H Q I (i σ H Q q)⟩

section
variable {K : PySem.W.Frag} {np : Nat} {He : Hp} {σ σ' σ'' : L2.St} {H H' H'' : Hp} {env env' env'' : DEnv}
/-- the heap grows -/
def Ext (H H' : Hp) : Prop := ∀ b o, H b = some o → H' b = some o
theorem Ext.refl (H : Hp) : Ext H H := fun _ _ h => h
theorem Ext.new {p : Addr} {o : HO} (h : H p = none) : Ext H (upd H p o) := fun b u e => by rw [upd_ne (ne_of_none e h)]; exact e
theorem Ext.kp (h : Ext H H') : Kp H H' := fun b o e _ => h b o e
theorem Ext.dom (h : Ext H H') : ∀ b, H' b = none → H b = none := fun b n => by
  cases q : H b with
  | none => rfl
  | some o => rw [h b o q] at n; cases n
theorem RpV.ext {d : D} {v : V} (x : Ext H H') (h : RpV K H d v) : RpV K H' d v := by
  cases d with
  | lst ds => exact h.kpl x.kp fun a o _ e => x a o e
  | _ => exact h.kp x.kp rfl
theorem SE.ext (R : Rep K np He σ H env) (x : Ext H H') : SE K np He σ H env H' env where
  rep := ⟨R.len, fun i d e => let ⟨v, e1, r⟩ := R.val i d e; ⟨v, e1, r.ext x⟩, R.apart, R.own, fun b n => R.dom b (x.dom b n)⟩
  shape := fun _ => .inl rfl
  keep := fun b o h _ => x b o h
  dom := x.dom

theorem RpRs.keep (R : Rep K np He σ H env) (a : SE K np He σ H env H' env') (b : SE K np He σ H' env' H'' env'') : ∀ {vs : List V} {rl : List RV}, RpRs K σ H H' env' vs rl → RpRs K σ H H'' env'' vs rl
  | [], rl, h => h
  | v :: vs, rl, h => by
    obtain ⟨r, rest, e, h1, h2, tn⟩ := h
    exact ⟨r, rest, e, h1.keep R a b, RpRs.keep R a b h2, tn⟩
/-- a later start -/
theorem RpR.start {v : V} {r : RV} (a : SE K np He σ H env H' env') (h : RpR K σ H' H'' env'' v r) : RpR K σ H H'' env'' v r := by
  cases r with
  | ref i => exact h
  | val d => exact ⟨h.1, fun n c e => a.dom c (h.2 n c e)⟩
theorem RpRs.start (a : SE K np He σ H env H' env') : ∀ {vs : List V} {rl : List RV}, RpRs K σ H' H'' env'' vs rl → RpRs K σ H H'' env'' vs rl
  | [], rl, h => h
  | v :: vs, rl, h => by
    obtain ⟨r, rest, e, h1, h2, tn⟩ := h
    exact ⟨r, rest, e, h1.start a, RpRs.start a h2, tn⟩
theorem RpRs.at : ∀ {vs : List V} {rl : List RV} {j : Nat} {v : V} {r : RV}, RpRs K σ H H' env' vs rl → vs[j]? = some v → rl[j]? = some r → RpR K σ H H' env' v r
  | [], rl, j, v, r, _, e, _ => by simp at e
  | u :: vs, rl, 0, v, r, h, e, e2 => by
    obtain ⟨r', rest, rfl, h1, h2, tn⟩ := h
    simp at e e2
    subst e e2
    exact h1
  | u :: vs, rl, j + 1, v, r, h, e, e2 => by
    obtain ⟨r', rest, rfl, h1, h2, tn⟩ := h
    exact RpRs.at h2 (by simpa using e) (by simpa using e2)
theorem TN.of {σ2 : L2.St} {v : V} {r : RV} {vs : List V} {rl : List RV} (h1 : RpR K σ H H' env' v r) (h2 : RpRs K σ2 H' H'' env'' vs rl) : TN v r vs rl := by
  intro d e il j ys e1 e2
  subst e
  cases d with
  | lst xs =>
    obtain ⟨a, us, rfl, h, _⟩ := h1.1
    have := (RpRs.at h2 e2 e1).2 rfl a rfl
    rw [this] at h
    cases h
  | _ => simp [isL] at il
def RpVs (K : PySem.W.Frag) (H : Hp) : List D → List V → Prop
  | [], vs => vs = []
  | d :: ds, vs => ∃ v r, vs = v :: r ∧ RpV K H d v ∧ RpVs K H ds r
def rsl (env : DEnv) : List RV → (List D → Prop) → Prop
  | [], k => k []
  | r :: rest, k => rs env r fun d => rsl env rest fun ds => k (d :: ds)
theorem RpRs.rs (R : Rep K np He σ H' env') : ∀ {vs : List V} {rl : List RV} {k : List D → Prop}, RpRs K σ H H' env' vs rl → rsl env' rl k → ∃ ds, RpVs K H' ds vs ∧ k ds
  | [], rl, k, h, g => by
    have e : rl = [] := h
    subst e
    exact ⟨[], rfl, g⟩
  | v :: vs, rl, k, h, g => by
    obtain ⟨r, rest, e, h1, h2, tn⟩ := h
    subst e
    obtain ⟨d, hd, g1⟩ := h1.rs R g
    obtain ⟨ds, hds, g2⟩ := RpRs.rs R h2 g1
    exact ⟨d :: ds, ⟨v, vs, rfl, hd, hds⟩, g2⟩
/-- no list among them -/
def immA : List D → Bool
  | [] => true
  | d :: ds => !isL d && immA ds
theorem RpVs.imm : ∀ {ds : List D} {vs : List V}, RpVs K H ds vs → immA ds = true → RpIs K H ds vs
  | [], vs, h, _ => by simp only [RpIs]; exact h
  | d :: ds, vs, h, n => by
    obtain ⟨v, r, e, h1, h2⟩ := h
    simp only [immA, Bool.and_eq_true, Bool.not_eq_true'] at n
    simp only [RpIs]
    exact ⟨v, r, e, h1.imm n.1, RpVs.imm h2 n.2⟩
theorem RpVs.length : ∀ {ds : List D} {vs : List V}, RpVs K H ds vs → ds.length = vs.length
  | [], vs, h => by cases (show vs = [] from h); rfl
  | d :: ds, vs, h => by
    obtain ⟨v, r, rfl, _, h2⟩ := h
    simp only [List.length_cons, RpVs.length h2]
end

section
variable {X : Cx} {np : Nat} {He : Hp} {a b c e : Expr} {es : List Expr} {wa wb wc : W} {ws : WA} {pos : Pos}

/-! ### names, constants -/
def pick (d : D) (a b : Prop) : Prop := match d with
  | .lst _ => a
  | _ => b
def cVar (i : Nat) : W := fun env Q => getv env i fun d => pick d (Q (.ref i) env) (Q (.val d) env)
theorem e_var (i : Nat) {x : Str} (hN : X.N[i]? = some x := by rfl) (hv : Vis X.env.scope x := by first | exact Or.inl rfl | exact Or.inr (Or.inl rfl) | exact Or.inr (Or.inr rfl)) (hd : (x == ("__debug__" : Str)) = false := by decide)
    (hcd : (x == ("__classdict__" : Str)) = false := by decide) : DE X np He (.Name x pos) (cVar i) := by
  refine PE.weak (pe_var hN hv hd hcd) fun σ H Q ⟨env, Q0, R, w, q⟩ => ?_
  obtain ⟨d, e, w⟩ := getv_of w
  obtain ⟨v, e1, r⟩ := R.val i d e
  refine ⟨v, e1, ?_⟩
  cases d with
  | lst ds => exact q (.ref i) env v H w (.refl R) ⟨e1, ds, e⟩
  | _ => exact q (.val _) env v H w (.refl R) ⟨r, fun n => by simp [isL] at n⟩
def cC (d : D) : W := fun env Q => Q (.val d) env
theorem e_int {i : Int} {j : Nat} : DE X np He (.Constant (.int i) j pos) (cC (.int i)) := PE.weak pe_int fun σ H Q ⟨env, Q0, R, w, q⟩ => q _ env _ H w (.refl R) ⟨rfl, fun n => by simp [isL] at n⟩
theorem e_bl {i : Bool} {j : Nat} : DE X np He (.Constant (.bool i) j pos) (cC (.bl i)) := PE.weak pe_bl fun σ H Q ⟨env, Q0, R, w, q⟩ => q _ env _ H w (.refl R) ⟨rfl, fun n => by simp [isL] at n⟩
theorem e_non {j : Nat} : DE X np He (.Constant .none j pos) (cC .non) := PE.weak pe_non fun σ H Q ⟨env, Q0, R, w, q⟩ => q _ env _ H w (.refl R) ⟨rfl, fun n => by simp [isL] at n⟩
theorem e_str {i : Str} {j : Nat} : DE X np He (.Constant (.str i) j pos) (cC (.str i)) := PE.weak pe_str fun σ H Q ⟨env, Q0, R, w, q⟩ => q _ env _ H w (.refl R) ⟨rfl, fun n => by simp [isL] at n⟩
/-! ### two operands -/
abbrev F2 := D → D → (D → Prop) → Prop
def cOp (f : F2) (wa wb : W) : W := fun env Q => wa env fun ra e1 => wb e1 fun rb e2 => rs e2 ra fun x => rs e2 rb fun y => f x y fun z => Q (.val z) e2
def OpD (K : PySem.W.Frag) (r : R2) (f : F2) : Prop := ∀ (H : Hp) (x y : D) (v w : V) (k : D → Prop) (Q : VK), RpV K H x v → RpV K H y w → f x y k →
  (∀ z u H', k z → Ext H H' → RpV K H' z u → (isL z = true → ∀ a, u = .ref a → H a = none) → Q u H') → r v w H Q
theorem two {ta tb : TE} {r : R2} {f : F2} (h : OpD X.K r f) : ∀ σ H Q, rE X.K np He (cOp f wa wb) σ H Q → tOp r (rE X.K np He wa) (rE X.K np He wb) σ H Q := by
  intro σ H Q ⟨env, Q0, R, w, q⟩
  refine ⟨env, _, R, w, fun ra e1 v1 H1 w1 s1 r1 => ⟨e1, _, s1.rep, w1, fun rb e2 v2 H2 w2 s2 r2 => ?_⟩⟩
  have r1' := r1.keep R s1 s2
  have s12 := s1.trans s2
  obtain ⟨x, hx, w2⟩ := r1'.rs s2.rep w2
  obtain ⟨y, hy, w2⟩ := r2.rs s2.rep w2
  refine h H2 x y v1 v2 _ Q hx hy w2 fun z u H' k ex rz fz => ?_
  exact q _ e2 u H' k (s12.trans (.ext s2.rep ex)) ⟨rz, fun n c e => s12.dom c (fz n c e)⟩
theorem e_op {op : Operator} {r : R2} {f : F2} (ho : OpR X (binaryOp op) r) (h : OpD X.K r f) (ha : DE X np He a wa) (hb : DE X np He b wb) : DE X np He (.BinOp a op b pos) (cOp f wa wb) :=
  PE.weak (pe_op ho ha hb) (two (ta := rE X.K np He wa) (tb := rE X.K np He wb) h)
theorem e_cmp {op : CmpOp} {r : R2} {f : F2} (ho : OpR X (compareOp op) r) (h : OpD X.K r f) (ha : DE X np He a wa) (hb : DE X np He b wb) (hm : behindInMarks op b = false) : DE X np He (.Compare a [op] [b] pos) (cOp f wa wb) :=
  PE.weak (pe_cmpR ho ha hb hm) (two (ta := rE X.K np He wa) (tb := rE X.K np He wb) h)
theorem t_cmp {op : CmpOp} {r : R2} {f : F2} (ho : OpR X (compareOp op) r) (h : OpD X.K r f) (ha : DE X np He a wa) (hb : DE X np He b wb) (hm : behindInMarks op b = false) : DT X np He (.Compare a [op] [b] pos) (cOp f wa wb) :=
  PT.weak (pt_cmpR ho ha hb hm) fun σ H Q h' => two (ta := rE X.K np He wa) (tb := rE X.K np He wb) h σ H _ h'
theorem e_ix {r : R2} {f : F2} (hr : IxR X r) (h : OpD X.K r f) (ha : DE X np He a wa) (hb : DE X np He b wb) (hs : PlainIx b := by exact fun _ _ => rfl) : DE X np He (.Subscript a b pos) (cOp f wa wb) :=
  PE.weak (pe_ix hr ha hb hs) (two (ta := rE X.K np He wa) (tb := rE X.K np He wb) h)

/-! ### two ints -/
def fI (g : Int → Int → (D → Prop) → Prop) : F2 := fun x y k => match x, y with
  | .int i, .int j => g i j k
  | _, _ => False
theorem fI_of {g : Int → Int → (D → Prop) → Prop} {x y : D} {k : D → Prop} (h : fI g x y k) : ∃ i j, x = .int i ∧ y = .int j ∧ g i j k := by
  unfold fI at h
  split at h
  · exact ⟨_, _, rfl, rfl, h⟩
  · exact h.elim
theorem opd_I {C : Int → Int → Prop} {g : Int → Int → Int} : OpD X.K (rI C fun i j => .int (g i j)) (fI fun i j k => C i j ∧ k (.int (g i j))) := by
  intro H x y v w k Q rx ry h q
  obtain ⟨i, j, rfl, rfl, hc, h⟩ := fI_of h
  exact ⟨i, j, rx, ry, hc, q _ _ H h (.refl H) rfl (fun n => by simp [isL] at n)⟩
theorem opd_I0 {g : Int → Int → Int} : OpD X.K (rI0 fun i j => .int (g i j)) (fI fun i j k => k (.int (g i j))) := by
  intro H x y v w k Q rx ry h q
  obtain ⟨i, j, rfl, rfl, h⟩ := fI_of h
  exact ⟨i, j, rx, ry, q _ _ H h (.refl H) rfl (fun n => by simp [isL] at n)⟩
theorem opd_B0 {g : Int → Int → Bool} : OpD X.K (rI0 fun i j => .bl (g i j)) (fI fun i j k => k (.bl (g i j))) := by
  intro H x y v w k Q rx ry h q
  obtain ⟨i, j, rfl, rfl, h⟩ := fI_of h
  exact ⟨i, j, rx, ry, q _ _ H h (.refl H) rfl (fun n => by simp [isL] at n)⟩
abbrev fSub : F2 := fI fun i j k => k (.int (i - j))
abbrev fMul : F2 := fI fun i j k => CMul i j ∧ k (.int (i * j))
abbrev fFdiv : F2 := fI fun i j k => CDiv i j ∧ k (.int (i / j))
abbrev fMod : F2 := fI fun i j k => 0 < j ∧ k (.int (i % j))
abbrev fPow : F2 := fI fun i j k => CPow i j ∧ k (.int (i ^ j.toNat))
abbrev fLt : F2 := fI fun i j k => k (.bl (decide (i < j)))
abbrev fGt : F2 := fI fun i j k => k (.bl (decide (j < i)))
abbrev fGe : F2 := fI fun i j k => k (.bl (decide (j ≤ i)))
section
variable (ha : DE X np He a wa) (hb : DE X np He b wb)
include ha hb
theorem e_sub : DE X np He (.BinOp a .Sub b pos) (cOp fSub wa wb) := e_op op_sub opd_I0 ha hb
theorem e_mul : DE X np He (.BinOp a .Mult b pos) (cOp fMul wa wb) := e_op op_mul opd_I ha hb
theorem e_fdiv : DE X np He (.BinOp a .FloorDiv b pos) (cOp fFdiv wa wb) := e_op op_fdiv opd_I ha hb
theorem e_mod : DE X np He (.BinOp a .Mod b pos) (cOp fMod wa wb) := e_op op_mod opd_I ha hb
theorem e_pow : DE X np He (.BinOp a .Pow b pos) (cOp fPow wa wb) := e_op op_pow opd_I ha hb
theorem t_lt : DT X np He (.Compare a [.Lt] [b] pos) (cOp fLt wa wb) := t_cmp op_lt opd_B0 ha hb (nomark _)
theorem t_gt : DT X np He (.Compare a [.Gt] [b] pos) (cOp fGt wa wb) := t_cmp op_gt opd_B0 ha hb (nomark _)
theorem t_ge : DT X np He (.Compare a [.GtE] [b] pos) (cOp fGe wa wb) := t_cmp op_ge opd_B0 ha hb (nomark _)
end
/-! ### == of scalars -/
def eqS : D → D → Option Bool
  | .non, .non => some true | .non, .int _ => some false | .int _, .non => some false | .non, .bl _ => some false | .bl _, .non => some false | .non, .str _ => some false | .str _, .non => some false
  | .int i, .int j => some (decide (i = j)) | .bl i, .bl j => some (decide (i = j)) | .str i, .str j => some (decide (i = j))
  | .int _, .str _ => some false | .str _, .int _ => some false | .bl _, .str _ => some false | .str _, .bl _ => some false
  | _, _ => none
def fEqS : F2 := fun x y k => match eqS x y with
  | some c => k (.bl c)
  | none => False
def fNeS : F2 := fun x y k => match eqS x y with
  | some c => k (.bl (!c))
  | none => False
theorem eqS_ok {K : PySem.W.Frag} {H : Hp} {x y : D} {v w : V} {c : Bool} (rx : RpV K H x v) (ry : RpV K H y w) (h : eqS x y = some c) : scal v w = true ∧ decide (v = w) = c := by
  cases x <;> cases y <;> first
    | (simp [eqS] at h; done)
    | (cases rx; cases ry; simp only [eqS, Option.some.injEq] at h; subst h; refine ⟨rfl, ?_⟩; simp)
theorem opd_eqS : OpD X.K rEq fEqS := by
  intro H x y v w k Q rx ry h q
  unfold fEqS at h
  split at h
  · rename_i c e
    obtain ⟨h1, h2⟩ := eqS_ok rx ry e
    refine ⟨h1, ?_⟩
    rw [h2]
    exact q _ _ H h (.refl H) rfl (fun n => by simp [isL] at n)
  · exact h.elim
theorem opd_neS : OpD X.K rNe fNeS := by
  intro H x y v w k Q rx ry h q
  unfold fNeS at h
  split at h
  · rename_i c e
    obtain ⟨h1, h2⟩ := eqS_ok rx ry e
    refine ⟨h1, ?_⟩
    rw [h2]
    exact q _ _ H h (.refl H) rfl (fun n => by simp [isL] at n)
  · exact h.elim
theorem e_eqS (ha : DE X np He a wa) (hb : DE X np He b wb) : DE X np He (.Compare a [.Eq] [b] pos) (cOp fEqS wa wb) := e_cmp op_eq opd_eqS ha hb (nomark _)
theorem t_eqS (ha : DE X np He a wa) (hb : DE X np He b wb) : DT X np He (.Compare a [.Eq] [b] pos) (cOp fEqS wa wb) := t_cmp op_eq opd_eqS ha hb (nomark _)
theorem t_neS (ha : DE X np He a wa) (hb : DE X np He b wb) : DT X np He (.Compare a [.NotEq] [b] pos) (cOp fNeS wa wb) := t_cmp op_ne opd_neS ha hb (nomark _)

/-! ### subscripts -/
def seqD : D → Option (List D)
  | .tup ds => some ds
  | .lst ds => some ds
  | .rol ds => some ds
  | .tpd ds => some ds
  | _ => none
theorem RpV.seq {K : PySem.W.Frag} {H : Hp} {d : D} {v : V} {ds : List D} (h : RpV K H d v) (e : seqD d = some ds) : ∃ a vs, v = .ref a ∧ (SqL K H a vs ∨ SqT K H a vs) ∧ RpIs K H ds vs := by
  cases d with
  | tup es =>
    simp only [seqD, Option.some.injEq] at e
    subst e
    obtain ⟨a, vs, e1, s, r⟩ := (show ∃ a vs, v = .ref a ∧ H a = some (.tup vs) ∧ RpIs K H es vs by simpa only [RpV, RpI] using h)
    exact ⟨a, vs, e1, .inr (.of s), r⟩
  | tpd es =>
    simp only [seqD, Option.some.injEq] at e
    subst e
    obtain ⟨a, vs, e1, s, r⟩ := (show ∃ a vs, v = .ref a ∧ TpK K H a vs ∧ RpIs K H es vs by simpa only [RpV, RpI] using h)
    exact ⟨a, vs, e1, .inr s.t, r⟩
  | rol es =>
    simp only [seqD, Option.some.injEq] at e
    subst e
    obtain ⟨a, vs, e1, s, r⟩ := (show ∃ a vs, v = .ref a ∧ SqR K H a vs ∧ RpIs K H es vs by simpa only [RpV, RpI] using h)
    exact ⟨a, vs, e1, .inl s.seq, r⟩
  | lst es =>
    simp only [seqD, Option.some.injEq] at e
    subst e
    obtain ⟨a, vs, e1, s, r⟩ := h
    exact ⟨a, vs, e1, .inl (.of s), r⟩
  | _ => simp [seqD] at e
def fIx : F2 := fun x y k => match seqD x, y with
  | some ds, .int i => (match atI ds i with
    | some d => k d
    | none => False)
  | _, _ => False
theorem atI_rp {K : PySem.W.Frag} {H : Hp} {ds : List D} {vs : List V} {i : Int} {d : D} (r : RpIs K H ds vs) (h : atI ds i = some d) : ∃ v, atI vs i = some v ∧ RpI K H d v := by
  unfold atI at h ⊢
  rw [← r.length]
  cases q : ixN ds.length i with
  | none => rw [q] at h; cases h
  | some j =>
    rw [q] at h
    exact r.get h
theorem opd_ix : OpD X.K (rIx X.K) fIx := by
  intro H x y v w k Q rx ry h q
  unfold fIx at h
  split at h
  · rename_i ds i e1
    split at h
    · rename_i d e2
      obtain ⟨a, vs, rfl, s, r⟩ := rx.seq e1
      obtain ⟨u, e3, ru⟩ := atI_rp r e2
      have hi : isL d = false := by
        cases d <;> first | rfl | (simp only [RpI] at ru)
      rcases s with s | s
      · exact .inl ⟨a, vs, i, u, rfl, ry, s, e3, q d u H h (.refl H) (.of ru) (fun n => by rw [hi] at n; cases n)⟩
      · exact .inr (.inl ⟨a, vs, i, u, rfl, ry, s, e3, q d u H h (.refl H) (.of ru) (fun n => by rw [hi] at n; cases n)⟩)
    · exact h.elim
  · exact h.elim
theorem e_ixs (ha : DE X np He a wa) (hb : DE X np He b wb) (hs : PlainIx b := by exact fun _ _ => rfl) : DE X np He (.Subscript a b pos) (cOp fIx wa wb) := e_ix ix_seq opd_ix ha hb hs

/-! ### one operand -/
abbrev F1 := D → (D → Prop) → Prop
def cUn (f : F1) (wa : W) : W := fun env Q => wa env fun ra e1 => rs e1 ra fun x => f x fun z => Q (.val z) e1
def fNeg : F1 := fun x k => match x with
  | .int i => k (.int (-i))
  | _ => False
def isN : D → Bool
  | .non => true
  | _ => false
def fIsN (neg : Bool) : F1 := fun x k => k (.bl (if neg = true then !isN x else isN x))
theorem e_neg (ha : DE X np He a wa) : DE X np He (.UnaryOp .USub a pos) (cUn fNeg wa) := by
  refine PE.weak (pe_un un_neg ha) fun σ H Q ⟨env, Q0, R, w, q⟩ => ⟨env, _, R, w, fun ra e1 v1 H1 w1 s1 r1 => ?_⟩
  obtain ⟨x, hx, w1⟩ := r1.rs s1.rep w1
  cases x <;> first | exact False.elim w1 | skip
  exact ⟨_, hx, q _ e1 _ H1 w1 s1 ⟨rfl, fun n => by simp [isL] at n⟩⟩
theorem RpV.non_iff {K : PySem.W.Frag} {H : Hp} {d : D} {v : V} (h : RpV K H d v) : decide (v = .non) = isN d := by
  cases d with
  | non => cases h; rfl
  | bl _ => cases h; rfl
  | int _ => cases h; rfl
  | str _ => cases h; rfl
  | tup _ => simp only [RpV, RpI] at h; obtain ⟨a, _, rfl, _⟩ := h; rfl
  | rol _ => simp only [RpV, RpI] at h; obtain ⟨a, _, rfl, _⟩ := h; rfl
  | tpd _ => simp only [RpV, RpI] at h; obtain ⟨a, _, rfl, _⟩ := h; rfl
  | rod _ _ => simp only [RpV, RpI] at h; obtain ⟨a, _, rfl, _⟩ := h; rfl
  | rdk _ _ => simp only [RpV, RpI] at h; obtain ⟨a, _, rfl, _⟩ := h; rfl
  | obj _ _ => simp only [RpV, RpI] at h; obtain ⟨a, _, _, _, rfl, _⟩ := h; rfl
  | lst _ => obtain ⟨a, _, rfl, _⟩ := h; rfl
theorem isN_core (neg : Bool) : ∀ σ H Q, rE X.K np He (cUn (fIsN neg) wa) σ H Q → rE X.K np He wa σ H fun x H1 => Q (.bl (if neg = true then !decide (x = .non) else decide (x = .non))) H1 := by
  intro σ H Q ⟨env, Q0, R, w, q⟩
  refine ⟨env, _, R, w, fun ra e1 v1 H1 w1 s1 r1 => ?_⟩
  obtain ⟨x, hx, w1⟩ := r1.rs s1.rep w1
  rw [hx.non_iff]
  exact q (.val (.bl (if neg = true then !isN x else isN x))) e1 _ H1 w1 s1 ⟨rfl, fun n => by simp [isL] at n⟩
theorem e_isN {j : Nat} {pos' : Pos} (ha : DE X np He a wa) : DE X np He (.Compare a [.Is] [.Constant .none j pos'] pos) (cUn (fIsN false) wa) :=
  PE.weak (pe_cmp (pc_isN ha)) fun σ H Q h => isN_core false σ H _ h
theorem t_isN {j : Nat} {pos' : Pos} (ha : DE X np He a wa) : DT X np He (.Compare a [.Is] [.Constant .none j pos'] pos) (cUn (fIsN false) wa) :=
  PT.weak (pt_cmp (pc_isN ha)) fun σ H Q h => isN_core false σ H _ h
/-- any value that is a bool, as a test -/
theorem t_val (h : DE X np He e wa) (he : ∀ whole, isTrue e X.env whole = (do let v ← whole; standAt e.pos; holding [v] (truthy v)) := by intro _; rfl) : DT X np He e wa := pt_val h he

/-! ### and, or, if -/
inductive ifb : D → Prop → Prop → Prop where
  | t {a b : Prop} (h : a) : ifb (.bl true) a b
  | f {a b : Prop} (h : b) : ifb (.bl false) a b
def cAnd (wa wb : W) : W := fun env Q => wa env fun ra e1 => rs e1 ra fun x => ifb x (wb e1 Q) (Q (.val (.bl false)) e1)
def cOr (wa wb : W) : W := fun env Q => wa env fun ra e1 => rs e1 ra fun x => ifb x (Q (.val (.bl true)) e1) (wb e1 Q)
def cIf (wc wa wb : W) : W := fun env Q => wc env fun rc e1 => rs e1 rc fun x => ifb x (wa e1 Q) (wb e1 Q)
theorem ifb_of {d : D} {A B : Prop} (h : ifb d A B) : (d = .bl true ∧ A) ∨ (d = .bl false ∧ B) := by
  cases h with
  | t h => exact .inl ⟨rfl, h⟩
  | f h => exact .inr ⟨rfl, h⟩
theorem rE.next {σ : L2.St} {H H1 : Hp} {env e1 : DEnv} {Q : VK} {Q0 : RV → DEnv → Prop} (s1 : SE X.K np He σ H env H1 e1) (w : wb e1 Q0)
    (q : ∀ r env' v H', Q0 r env' → SE X.K np He σ H env H' env' → RpR X.K σ H H' env' v r → Q v H') : rE X.K np He wb σ H1 Q :=
  ⟨e1, Q0, s1.rep, w, fun r env' v H' g s2 r2 => q r env' v H' g (s1.trans s2) (r2.start s1)⟩
abbrev DW (X : Cx) (np : Nat) (He : Hp) (e : Expr) (w : W) : Prop := PW X e (tB (rE X.K np He w))
theorem w_and1 (ha : DT X np He a wa) : DW X np He (.BoolOp .And [a] pos) wa := pw_and1 ha
theorem w_or1 (ha : DT X np He a wa) : DW X np He (.BoolOp .Or [a] pos) wa := pw_or1 ha
theorem PW.weak {e : Expr} {t t' : TT} (h : PW X e t) (i : ∀ σ H Q, t' σ H Q → t σ H Q) : PW X e t' := ⟨fun wh pins s σ H Q I q => h.run wh pins s σ H Q I (i σ H Q q)⟩
theorem w_and {rest : List Expr} (ha : DT X np He a wa) (hb : DW X np He (.BoolOp .And (b :: rest) pos) wb) : DW X np He (.BoolOp .And (a :: b :: rest) pos) (cAnd wa wb) := by
  refine DL.PW.weak (pw_and ha hb) fun σ H Q ⟨env, Q0, R, w, q⟩ => ⟨env, _, R, w, fun ra e1 v1 H1 w1 s1 r1 => ?_⟩
  obtain ⟨x, hx, w1⟩ := r1.rs s1.rep w1
  have w1z := ifb_of w1; clear w1; rcases w1z with ⟨rfl, w1⟩ | ⟨rfl, w1⟩
  · exact ⟨true, hx, rE.next s1 w1 q⟩
  · refine ⟨false, hx, ?_⟩
    obtain ⟨c, e, q'⟩ := q _ e1 (.bl false) H1 w1 s1 ⟨rfl, fun n => by simp [isL] at n⟩
    cases e
    exact q'
theorem w_or {rest : List Expr} (ha : DT X np He a wa) (hb : DW X np He (.BoolOp .Or (b :: rest) pos) wb) : DW X np He (.BoolOp .Or (a :: b :: rest) pos) (cOr wa wb) := by
  refine DL.PW.weak (pw_or ha hb) fun σ H Q ⟨env, Q0, R, w, q⟩ => ⟨env, _, R, w, fun ra e1 v1 H1 w1 s1 r1 => ?_⟩
  obtain ⟨x, hx, w1⟩ := r1.rs s1.rep w1
  have w1z := ifb_of w1; clear w1; rcases w1z with ⟨rfl, w1⟩ | ⟨rfl, w1⟩
  · refine ⟨true, hx, ?_⟩
    obtain ⟨c, e, q'⟩ := q _ e1 (.bl true) H1 w1 s1 ⟨rfl, fun n => by simp [isL] at n⟩
    cases e
    exact q'
  · exact ⟨false, hx, rE.next s1 w1 q⟩
theorem t_bop (h : DW X np He e wa) : DT X np He e wa := h.pt
theorem e_ifx (hc : DT X np He c wc) (ha : DE X np He a wa) (hb : DE X np He b wb) : DE X np He (.IfExp c a b pos) (cIf wc wa wb) := by
  refine PE.weak (pe_ifExp hc ha hb) fun σ H Q ⟨env, Q0, R, w, q⟩ => ⟨env, _, R, w, fun ra e1 v1 H1 w1 s1 r1 => ?_⟩
  obtain ⟨x, hx, w1⟩ := r1.rs s1.rep w1
  have w1z := ifb_of w1; clear w1; rcases w1z with ⟨rfl, w1⟩ | ⟨rfl, w1⟩
  · exact ⟨true, hx, rE.next s1 w1 q⟩
  · exact ⟨false, hx, rE.next s1 w1 q⟩
/-! ### arguments, displays -/
def cNil : WA := fun env Q => Q [] env
def cCons (wa : W) (ws : WA) : WA := fun env Q => wa env fun r e1 => ws e1 fun rl e2 => Q (r :: rl) e2
theorem a_nil : DA X np He [] cNil := PA.weak pa_nil fun σ H Q ⟨env, Q0, R, w, q⟩ => q [] env [] H w (.refl R) rfl
theorem a_cons (ha : DE X np He a wa) (hr : DA X np He es ws) (hs : starEach (a :: es) X.env = (false, eval a X.env) :: starEach es X.env := by rfl) : DA X np He (a :: es) (cCons wa ws) := by
  refine PA.weak (pa_cons ha hr hs) fun σ H Q ⟨env, Q0, R, w, q⟩ => ⟨env, _, R, w, fun r e1 v1 H1 w1 s1 r1 => ⟨e1, _, s1.rep, w1, fun rl e2 vs H2 w2 s2 r2 => ?_⟩⟩
  exact q (r :: rl) e2 (v1 :: vs) H2 w2 (s1.trans s2) ⟨r, rl, rfl, r1.keep R s1 s2, r2.start s1, .of r1 r2⟩
theorem line_of {n : Nat} (h : n ≤ 1000000) : n ≤ sizeLine := Nat.le_trans h (by rw [sizeLine_eq]; decide)
def cTup (ws : WA) : W := fun env Q => ws env fun rl e1 => rsl e1 rl fun ds => immA ds = true ∧ ds.length ≤ 1000000 ∧ Q (.val (.tup ds)) e1
def cLst (ws : WA) : W := fun env Q => ws env fun rl e1 => rsl e1 rl fun ds => immA ds = true ∧ ds.length ≤ 1000000 ∧ Q (.val (.lst ds)) e1
theorem e_tup {k : Nat} (h : DA X np He es ws) : DE X np He (.Tuple es k pos) (cTup ws) := by
  refine PE.weak (pe_tup h) fun σ H Q ⟨env, Q0, R, w, q⟩ => ⟨env, _, R, w, fun rl e1 vs H1 w1 s1 r1 => ?_⟩
  obtain ⟨ds, hd, im, sz, w1⟩ := r1.rs s1.rep w1
  refine ⟨by rw [← hd.length]; exact line_of sz, fun p np' => ?_⟩
  have ex : Ext H1 (upd H1 p (.tup vs)) := .new np'
  refine q _ e1 _ _ w1 (s1.trans (.ext s1.rep ex)) ⟨?_, fun n => by simp [isL] at n⟩
  show RpI _ _ _ _
  simp only [RpI]
  exact ⟨p, vs, rfl, upd_same, RpIs.kp ex.kp ds vs (hd.imm im)⟩
theorem e_lst (h : DA X np He es ws) : DE X np He (.List es pos) (cLst ws) := by
  refine PE.weak (pe_lst h) fun σ H Q ⟨env, Q0, R, w, q⟩ => ⟨env, _, R, w, fun rl e1 vs H1 w1 s1 r1 => ?_⟩
  obtain ⟨ds, hd, im, sz, w1⟩ := r1.rs s1.rep w1
  refine ⟨by rw [← hd.length]; exact line_of sz, fun p np' => ?_⟩
  have ex : Ext H1 (upd H1 p (.lst vs)) := .new np'
  refine q _ e1 _ _ w1 (s1.trans (.ext s1.rep ex)) ⟨⟨p, vs, rfl, upd_same, RpIs.kp ex.kp ds vs (hd.imm im)⟩, fun _ c e => ?_⟩
  cases e
  exact s1.dom p np'

/-! ### calls of what is built in -/
abbrev FA := List D → (D → Prop) → Prop
def CaD (K : PySem.W.Frag) (r : List V → Hp → VK → Prop) (f : FA) : Prop := ∀ (H : Hp) (ds : List D) (vs : List V) (k : D → Prop) (Q : VK), RpVs K H ds vs → f ds k →
  (∀ z u H', k z → Ext H H' → RpV K H' z u → (isL z = true → ∀ a, u = .ref a → H a = none) → Q u H') → r vs H Q
def cBi (f : FA) (ws : WA) : W := fun env Q => ws env fun rl e1 => rsl e1 rl fun ds => f ds fun z => Q (.val z) e1
theorem bi_core {r : List V → Hp → VK → Prop} {f : FA} (h : CaD X.K r f) : ∀ σ H Q, rE X.K np He (cBi f ws) σ H Q → tCB r (rA X.K np He ws) σ H Q := by
  intro σ H Q ⟨env, Q0, R, w, q⟩
  refine ⟨env, _, R, w, fun rl e1 vs H1 w1 s1 r1 => ?_⟩
  obtain ⟨ds, hd, w1⟩ := r1.rs s1.rep w1
  refine h H1 ds vs _ Q hd w1 fun z u H' k ex rz fz => ?_
  exact q _ e1 u H' k (s1.trans (.ext s1.rep ex)) ⟨rz, fun n c e => s1.dom c (fz n c e)⟩
theorem e_bi {id : String} {r : List V → Hp → VK → Prop} {f : FA} {x : Str} {p : Pos} (hc : CallR X (.builtin id) r) (h : CaD X.K r f) (hm : X.mg x = none) (hv : bootBuiltins x = some (.builtin id)) (ha : DA X np He (a :: es) ws) (hg : Gl X x := by rfl)
    (hn : x ≠ "__name__" := by decide) (hdb : (x == ("__debug__" : Str)) = false := by decide) (he : starEach (a :: es) X.env = (false, eval a X.env) :: starEach es X.env := by rfl) (hpl : (backTo pos (starEach es X.env)).any (·.1) = false := by rfl) :
    DE X np He (.Call (.Name x p) (a :: es) [] pos) (cBi f ws) := PE.weak (pe_callB hc hg hm hv ha hn hdb he hpl) (bi_core h)
theorem e_ty {T : String} {r : List V → Hp → VK → Prop} {f : FA} {x : Str} {p : Pos} (hc : CallR X (.type T) r) (h : CaD X.K r f) (hm : X.mg x = none) (hv : bootBuiltins x = some (.type T)) (ha : DA X np He (a :: es) ws) (hg : Gl X x := by rfl)
    (hn : x ≠ "__name__" := by decide) (hdb : (x == ("__debug__" : Str)) = false := by decide) (he : starEach (a :: es) X.env = (false, eval a X.env) :: starEach es X.env := by rfl) (hpl : (backTo pos (starEach es X.env)).any (·.1) = false := by rfl) :
    DE X np He (.Call (.Name x p) (a :: es) [] pos) (cBi f ws) := PE.weak (pe_callTy hc hg hm hv ha hn hdb he hpl) (bi_core h)
theorem RpVs.one {K : PySem.W.Frag} {H : Hp} {d : D} {vs : List V} (h : RpVs K H [d] vs) : ∃ v, vs = [v] ∧ RpV K H d v := by
  obtain ⟨v, r, rfl, h1, h2⟩ := h
  cases (show r = [] from h2)
  exact ⟨v, rfl, h1⟩
theorem RpVs.two {K : PySem.W.Frag} {H : Hp} {d e : D} {vs : List V} (h : RpVs K H [d, e] vs) : ∃ v w, vs = [v, w] ∧ RpV K H d v ∧ RpV K H e w := by
  obtain ⟨v, r, rfl, h1, h2⟩ := h
  obtain ⟨w, rfl, h3⟩ := RpVs.one h2
  exact ⟨v, w, rfl, h1, h3⟩
end
end DL

namespace DL
open PySem PySem.Spec PyProof.Rows L2
section
variable {X : Cx} {np : Nat} {He : Hp} {a b c e : Expr} {es : List Expr} {wa wb wc : W} {ws : WA} {pos : Pos}

/-! ### built-ins -/
def on1 (f : D → (D → Prop) → Prop) : FA := fun ds k => match ds with
  | [d] => f d k
  | _ => False
theorem on1_of {f : D → (D → Prop) → Prop} {ds : List D} {k : D → Prop} (h : on1 f ds k) : ∃ d, ds = [d] ∧ f d k := by
  unfold on1 at h
  split at h
  · exact ⟨_, rfl, h⟩
  · exact h.elim
def onS (f : List D → (D → Prop) → Prop) : FA := on1 fun d k => match seqD d with
  | some xs => f xs k
  | none => False
theorem onS_of {f : List D → (D → Prop) → Prop} {ds : List D} {k : D → Prop} (h : onS f ds k) : ∃ d xs, ds = [d] ∧ seqD d = some xs ∧ f xs k := by
  obtain ⟨d, e, g⟩ := on1_of h
  split at g
  · exact ⟨d, _, e, by assumption, g⟩
  · exact g.elim
def on2I (f : Int → Int → (D → Prop) → Prop) : FA := fun ds k => match ds with
  | [.int i, .int j] => f i j k
  | _ => False
theorem on2I_of {f : Int → Int → (D → Prop) → Prop} {ds : List D} {k : D → Prop} (h : on2I f ds k) : ∃ i j, ds = [.int i, .int j] ∧ f i j k := by
  unfold on2I at h
  split at h
  · exact ⟨_, _, rfl, h⟩
  · exact h.elim
def fLen : FA := onS fun xs k => k (.int xs.length)
theorem cad_len : CaD X.K (fun xs H Q => ∃ p ys, xs = [.ref p] ∧ (SqL X.K H p ys ∨ SqT X.K H p ys) ∧ Q (.int ys.length) H) fLen := by
  intro H ds vs k Q r h q
  obtain ⟨d, xs, rfl, e, h⟩ := onS_of h
  obtain ⟨v, rfl, rv⟩ := r.one
  obtain ⟨p, us, rfl, s, ru⟩ := rv.seq e
  exact ⟨p, us, rfl, s, by rw [← ru.length]; exact q _ _ H h (.refl H) rfl (fun n => by simp [isL] at n)⟩
theorem e_len {p : Pos} (hm : X.mg "len" = none) (ha : DE X np He a wa) (hg : Gl X "len" := by rfl) (he : starEach [a] X.env = (false, eval a X.env) :: starEach [] X.env := by rfl) :
    DE X np He (.Call (.Name "len" p) [a] [] pos) (cBi fLen (cCons wa cNil)) := e_bi call_len_seq cad_len hm PySem.boot_len (a_cons ha a_nil he) hg (he := he)
def fInt : FA := on1 fun d k => match d with
  | .int i => k (.int i)
  | .bl c => k (.int (if c then 1 else 0))
  | _ => False
theorem e_int1 {p : Pos} (hm : X.mg "int" = none) (ha : DE X np He a wa) (hg : Gl X "int" := by rfl) (he : starEach [a] X.env = (false, eval a X.env) :: starEach [] X.env := by rfl) :
    DE X np He (.Call (.Name "int" p) [a] [] pos) (cBi fInt (cCons wa cNil)) := by
  refine e_ty call_int1 ?_ hm (by decide +kernel) (a_cons ha a_nil he) hg (he := he)
  intro H ds vs k Q r h q
  obtain ⟨d, rfl, h⟩ := on1_of h
  obtain ⟨v, rfl, rv⟩ := r.one
  cases d <;> first | exact h.elim | skip
  · cases rv
    exact .inr ⟨_, rfl, q _ _ H h (.refl H) rfl (fun n => by simp [isL] at n)⟩
  · cases rv
    exact .inl ⟨_, rfl, q _ _ H h (.refl H) rfl (fun n => by simp [isL] at n)⟩
def fAbs : FA := on1 fun d k => match d with
  | .int i => k (.int (if i < 0 then -i else i))
  | _ => False
theorem e_abs {p : Pos} (hm : X.mg "abs" = none) (ha : DE X np He a wa) (hg : Gl X "abs" := by rfl) (he : starEach [a] X.env = (false, eval a X.env) :: starEach [] X.env := by rfl) :
    DE X np He (.Call (.Name "abs" p) [a] [] pos) (cBi fAbs (cCons wa cNil)) := by
  refine e_bi call_abs ?_ hm (by decide +kernel) (a_cons ha a_nil he) hg (he := he)
  intro H ds vs k Q r h q
  obtain ⟨d, rfl, h⟩ := on1_of h
  obtain ⟨v, rfl, rv⟩ := r.one
  cases d <;> first | exact h.elim | skip
  cases rv
  exact ⟨_, rfl, q _ _ H h (.refl H) rfl (fun n => by simp [isL] at n)⟩
def fMin : FA := on2I fun i j k => k (.int (if j < i then j else i))
theorem e_min {p : Pos} (hc : X.calm = true) (hm : X.mg "min" = none) (ha : DE X np He a wa) (hb : DE X np He b wb) (hg : Gl X "min" := by rfl) (he : starEach [a, b] X.env = (false, eval a X.env) :: starEach [b] X.env := by rfl) (he2 : starEach [b] X.env = (false, eval b X.env) :: starEach [] X.env := by rfl) (hpl : (backTo pos (starEach [b] X.env)).any (·.1) = false := by rfl) :
    DE X np He (.Call (.Name "min" p) [a, b] [] pos) (cBi fMin (cCons wa (cCons wb cNil))) := by
  refine e_bi (call_min2 hc) ?_ hm (by decide +kernel) (a_cons ha (a_cons hb a_nil he2) he) hg (he := he) (hpl := hpl)
  intro H ds vs k Q r h q
  obtain ⟨i, j, rfl, h⟩ := on2I_of h
  obtain ⟨v, w, rfl, rv, rw'⟩ := r.two
  cases rv; cases rw'
  exact ⟨i, j, rfl, q _ _ H h (.refl H) rfl (fun n => by simp [isL] at n)⟩
def fList : FA := onS fun xs k => k (.lst xs)
def fTuple : FA := on1 fun d k => match d with
  | .tpd xs => k (.tpd xs)
  | .tup xs => k (.tup xs)
  | .lst xs => k (.tup xs)
  | .rol xs => k (.tup xs)
  | _ => False
theorem e_list {p : Pos} (hm : X.mg "list" = none) (ha : DE X np He a wa) (hg : Gl X "list" := by rfl) (he : starEach [a] X.env = (false, eval a X.env) :: starEach [] X.env := by rfl) :
    DE X np He (.Call (.Name "list" p) [a] [] pos) (cBi fList (cCons wa cNil)) := by
  refine e_ty call_list_of ?_ hm (by decide +kernel) (a_cons ha a_nil he) hg (he := he)
  intro H ds vs k Q r h q
  obtain ⟨d, xs, rfl, e, h⟩ := onS_of h
  obtain ⟨v, rfl, rv⟩ := r.one
  obtain ⟨p, us, rfl, s, ru⟩ := rv.seq e
  refine ⟨p, us, rfl, s, fun l nl => q _ _ _ h (.new nl) ⟨l, us, rfl, upd_same, RpIs.kp (Ext.new nl).kp xs us ru⟩ (fun _ a e => ?_)⟩
  cases e
  exact nl
theorem e_tuple {p : Pos} (hm : X.mg "tuple" = none) (ha : DE X np He a wa) (hg : Gl X "tuple" := by rfl) (he : starEach [a] X.env = (false, eval a X.env) :: starEach [] X.env := by rfl) :
    DE X np He (.Call (.Name "tuple" p) [a] [] pos) (cBi fTuple (cCons wa cNil)) := by
  refine e_ty call_tuple_of ?_ hm (by decide +kernel) (a_cons ha a_nil he) hg (he := he)
  intro H ds vs k Q r h q
  obtain ⟨d, rfl, h⟩ := on1_of h
  obtain ⟨v, rfl, rv⟩ := r.one
  have lst : ∀ {p : Addr} {us : List V} {xs : List D}, SqL X.K H p us → RpIs X.K H xs us → k (.tup xs) → ∃ (p' : Addr) (us' : List V), [V.ref p] = [.ref p'] ∧ ((SqL X.K H p' us' ∧ ∀ l, H l = none → Q (.ref l) (upd H l (.tup us'))) ∨ (SqT X.K H p' us' ∧ Q (.ref p') H)) := by
    intro p us xs s ru h
    refine ⟨p, us, rfl, .inl ⟨s, fun l nl => q _ _ _ h (.new nl) ?_ (fun n => by simp [isL] at n)⟩⟩
    show RpI _ _ _ _
    simp only [RpI]
    exact ⟨l, us, rfl, upd_same, RpIs.kp (Ext.new nl).kp xs us ru⟩
  cases d with
  | lst xs =>
    obtain ⟨p, us, rfl, s, ru⟩ := rv
    exact lst (.of s) ru h
  | rol xs =>
    obtain ⟨p, us, rfl, s, ru⟩ := (show ∃ a vs, v = .ref a ∧ SqR X.K H a vs ∧ RpIs X.K H xs vs by simpa only [RpV, RpI] using rv)
    exact lst s.seq ru h
  | tup xs =>
    obtain ⟨p, us, rfl, s, ru⟩ := (show ∃ a vs, v = .ref a ∧ H a = some (.tup vs) ∧ RpIs X.K H xs vs by simpa only [RpV, RpI] using rv)
    exact ⟨p, us, rfl, .inr ⟨.of s, q _ _ H h (.refl H) rv (fun n => by simp [isL] at n)⟩⟩
  | tpd xs =>
    obtain ⟨p, us, rfl, s, ru⟩ := (show ∃ a vs, v = .ref a ∧ TpK X.K H a vs ∧ RpIs X.K H xs vs by simpa only [RpV, RpI] using rv)
    exact ⟨p, us, rfl, .inr ⟨s.t, q _ _ H h (.refl H) rv (fun n => by simp [isL] at n)⟩⟩
  | _ => exact h.elim
/-- the ints, the bools of a list -/
def intsD : List D → Option (List Int)
  | [] => some []
  | .int i :: r => (intsD r).map (i :: ·)
  | _ => none
theorem intsD_ok {K : PySem.W.Frag} {H : Hp} : ∀ {ds : List D} {vs : List V} {ns : List Int}, RpIs K H ds vs → intsD ds = some ns → vs = ns.map V.int
  | [], vs, ns, r, h => by
    simp only [RpIs] at r
    simp only [intsD, Option.some.injEq] at h
    subst r h
    rfl
  | d :: ds, vs, ns, r, h => by
    cases d <;> first | (simp only [intsD] at h; cases h; done) | skip
    simp only [RpIs, RpI] at r
    obtain ⟨v, r', rfl, rfl, h2⟩ := r
    simp only [intsD, Option.map_eq_some_iff] at h
    obtain ⟨ms, e, rfl⟩ := h
    rw [List.map_cons, intsD_ok h2 e]
theorem intsD_map (ns : List Int) : intsD (ns.map D.int) = some ns := by
  induction ns with
  | nil => rfl
  | cons n r ih => simp [intsD, ih]
/-- a list only -/
def onL (f : List D → (D → Prop) → Prop) : FA := on1 fun d k => match d with
  | .lst xs => f xs k
  | _ => False
theorem onL_of {f : List D → (D → Prop) → Prop} {ds : List D} {k : D → Prop} (h : onL f ds k) : ∃ xs, ds = [.lst xs] ∧ f xs k := by
  obtain ⟨d, e, g⟩ := on1_of h
  split at g
  · exact ⟨_, e, g⟩
  · exact g.elim
/-! ### isinstance -/
def tyN : D → String
  | .non => "NoneType" | .bl _ => "bool" | .int _ => "int" | .str _ => "str" | .tup _ => "tuple" | .lst _ => "list" | .rol _ => "list" | .tpd _ => "tuple" | .rod _ _ => "dict" | .rdk _ _ => "dict" | .obj _ _ => "object"
def isRod : D → Bool
  | .rod _ _ => true
  | .rdk _ _ => true
  | .obj _ _ => true
  | _ => false
theorem tyN_ok {K : PySem.W.Frag} {H : Hp} {d : D} {v : V} (h : RpV K H d v) (nr : isRod d = false) : TyX K H v (.type (tyN d)) := by
  cases d with
  | non => cases h; exact .base .non
  | bl b => cases h; exact .base (.bl b)
  | int b => cases h; exact .base (.int b)
  | str b => cases h; exact .base (.str b)
  | lst ds => obtain ⟨a, vs, rfl, e, _⟩ := h; exact .base (.lst e)
  | rol ds =>
    obtain ⟨a, vs, rfl, s, _⟩ := (show ∃ a vs, v = .ref a ∧ SqR K H a vs ∧ RpIs K H ds vs by simpa only [RpV, RpI] using h)
    rcases s with ⟨o, s⟩ | ⟨o, its, n, s, c, _⟩
    · exact .base (.frz s)
    · exact .kList s c
  | tup ds =>
    obtain ⟨a, vs, rfl, s, _⟩ := (show ∃ a vs, v = .ref a ∧ H a = some (.tup vs) ∧ RpIs K H ds vs by simpa only [RpV, RpI] using h)
    exact .base (.tup s)
  | tpd ds =>
    obtain ⟨a, vs, rfl, s, _⟩ := (show ∃ a vs, v = .ref a ∧ TpK K H a vs ∧ RpIs K H ds vs by simpa only [RpV, RpI] using h)
    rcases s with ⟨o, s, _⟩ | ⟨o, its, n, s, c, _⟩
    · exact .fTuple s
    · exact .kTuple s c
  | rod ks ds => simp [isRod] at nr
  | rdk ks ds => simp [isRod] at nr
  | obj n ds => simp [isRod] at nr
inductive Ty5 where
  | tuple | list | bool | int | str
def Ty5.nm : Ty5 → String
  | .tuple => "tuple" | .list => "list" | .bool => "bool" | .int => "int" | .str => "str"
def isT : D → Ty5 → Bool
  | .tup _, .tuple => true
  | .tpd _, .tuple => true
  | .lst _, .list => true
  | .rol _, .list => true
  | .bl _, .bool => true
  | .bl _, .int => true
  | .int _, .int => true
  | .str _, .str => true
  | _, _ => false
theorem kit_all (d : D) (T : Ty5) : kitB (tyN d) T.nm = some (isT d T) := by
  cases d <;> cases T <;> (simp only [tyN, Ty5.nm, isT]; decide +kernel)
/-- it is no dict -/
def nrd (d : D) (A : Prop) : Prop := match d with
  | .rod _ _ => False
  | .rdk _ _ => False
  | .obj _ _ => False
  | _ => A
theorem nrd_of {d : D} {A : Prop} (h : nrd d A) : isRod d = false ∧ A := by
  cases d <;> first | exact h.elim | exact ⟨rfl, h⟩
def cIsi (T : Ty5) (wa : W) : W := fun env Q => wa env fun ra e1 => rs e1 ra fun x => nrd x (Q (.val (.bl (isT x T))) e1)
theorem e_isi (T : Ty5) {x : Str} {p p2 : Pos} (hm : X.mg "isinstance" = none) (hx : X.mg x = none) (hv : bootBuiltins x = some (.type T.nm)) (ha : DE X np He a wa) (hg : Gl X "isinstance" := by rfl) (hg2 : Gl X x := by rfl) (hn : x ≠ "__name__" := by decide)
    (hd : (x == ("__debug__" : Str)) = false := by decide) (he : starEach [a, .Name x p2] X.env = (false, eval a X.env) :: starEach [.Name x p2] X.env := by rfl) (hpl : (backTo pos (starEach [.Name x p2] X.env)).any (·.1) = false := by rfl) :
    DE X np He (.Call (.Name "isinstance" p) [a, .Name x p2] [] pos) (cIsi T wa) := by
  refine PE.weak (pe_callB call_isi hg hm (by decide +kernel) (pa_cons ha (pa_cons (pe_bltn (v := .ty T.nm) hg2 hx hv rfl hn hd) pa_nil) he) (he := he) (hpl := hpl)) fun σ H Q ⟨env, Q0, R, w, q⟩ => ⟨env, _, R, w, fun ra e1 v1 H1 w1 s1 r1 => ?_⟩
  obtain ⟨d, hd, w1⟩ := r1.rs s1.rep w1
  obtain ⟨nr, w1⟩ := nrd_of w1
  exact ⟨v1, .ty T.nm, .type (tyN d), .type T.nm, isT d T, rfl, .ty T.nm, tyN_ok hd nr, kit_ty (kit_all d T), q _ e1 _ H1 w1 s1 ⟨rfl, fun n => by simp [isL] at n⟩⟩
theorem kit2 {K : PySem.W.Frag} {d : D} {T U : Ty5} : PySem.W.kitAny K (.type (tyN d)) [.type T.nm, .type U.nm] = some (isT d T || isT d U) := by
  refine kitAny_cons (kit_ty (kit_all d T)) (fun h => ?_) (fun h => by rw [h]; rfl)
  refine kitAny_cons (kit_ty (kit_all d U)) (fun h' => ?_) (fun h' => by rw [h, h']; rfl)
  rw [h, h']
  rfl
def cIsi2 (T U : Ty5) (wa : W) : W := fun env Q => wa env fun ra e1 => rs e1 ra fun x => nrd x (Q (.val (.bl (isT x T || isT x U))) e1)
theorem e_isi2 (T U : Ty5) {x y : Str} {k : Nat} {p p2 p3 p4 : Pos} (hm : X.mg "isinstance" = none) (hx : X.mg x = none) (hy : X.mg y = none) (hv : bootBuiltins x = some (.type T.nm)) (hw : bootBuiltins y = some (.type U.nm)) (ha : DE X np He a wa)
    (hg : Gl X "isinstance" := by rfl) (hg2 : Gl X x := by rfl) (hg3 : Gl X y := by rfl) (hn : x ≠ "__name__" := by decide) (hn2 : y ≠ "__name__" := by decide)
    (hd : (x == ("__debug__" : Str)) = false := by decide) (hd2 : (y == ("__debug__" : Str)) = false := by decide) (he : starEach [a, .Tuple [.Name x p2, .Name y p3] k p4] X.env = (false, eval a X.env) :: starEach [.Tuple [.Name x p2, .Name y p3] k p4] X.env := by rfl) (hpl : (backTo pos (starEach [.Tuple [.Name x p2, .Name y p3] k p4] X.env)).any (·.1) = false := by rfl) :
    DE X np He (.Call (.Name "isinstance" p) [a, .Tuple [.Name x p2, .Name y p3] k p4] [] pos) (cIsi2 T U wa) := by
  refine PE.weak (pe_callB call_isiT hg hm (by decide +kernel) (pa_cons ha (pa_cons (pe_tup (pa_cons (pe_bltn (v := .ty T.nm) hg2 hx hv rfl hn hd) (pa_cons (pe_bltn (v := .ty U.nm) hg3 hy hw rfl hn2 hd2) pa_nil))) pa_nil) he) (he := he) (hpl := hpl)) fun σ H Q ⟨env, Q0, R, w, q⟩ => ⟨env, _, R, w, fun ra e1 v1 H1 w1 s1 r1 => ?_⟩
  refine ⟨by rw [sizeLine_eq]; show 2 ≤ 16777216; decide, fun p np' => ?_⟩
  have ex : Ext H1 (upd H1 p (.tup [.ty T.nm, .ty U.nm])) := .new np'
  have s2 := s1.trans (.ext s1.rep ex)
  have r2 := r1.keep R s1 (.ext s1.rep ex)
  obtain ⟨d, hd, w1⟩ := r2.rs s2.rep w1
  obtain ⟨nr, w1⟩ := nrd_of w1
  exact ⟨v1, p, _, .type (tyN d), [.type T.nm, .type U.nm], isT d T || isT d U, rfl, upd_same, .cons (.ty T.nm) (.cons (.ty U.nm) .nil), tyN_ok hd nr, kit2, q _ e1 _ _ w1 s2 ⟨rfl, fun n => by simp [isL] at n⟩⟩

/-! ### lists: +, * , in -/
def fAddG : F2 := fun x y k => match x, y with
  | .int i, .int j => k (.int (i + j))
  | .lst xs, .lst ys => xs.length + ys.length ≤ 1000000 ∧ k (.lst (xs ++ ys))
  | .tup xs, .tup ys => xs.length + ys.length ≤ 1000000 ∧ k (.tup (xs ++ ys))
  | .tpd xs, .tpd ys => xs.length + ys.length ≤ 1000000 ∧ k (.tup (xs ++ ys)) ∧ k (.tpd (xs ++ ys))
  | .tup xs, .tpd ys => xs.length + ys.length ≤ 1000000 ∧ k (.tup (xs ++ ys)) ∧ k (.tpd (xs ++ ys))
  | .tpd xs, .tup ys => xs.length + ys.length ≤ 1000000 ∧ k (.tup (xs ++ ys)) ∧ k (.tpd (xs ++ ys))
  | _, _ => False
theorem opd_addG : OpD X.K (fun x y H Q => rI0 (fun i j => V.int (i + j)) x y H Q ∨ rCat x y H Q ∨ rCatA X.K x y H Q) fAddG := by
  intro H x y v w k Q rx ry h q
  unfold fAddG at h
  split at h
  · cases rx; cases ry
    exact .inl ⟨_, _, rfl, rfl, q _ _ H h (.refl H) rfl (fun n => by simp [isL] at n)⟩
  · obtain ⟨a1, vs, rfl, e1, r1⟩ := rx
    obtain ⟨a2, us, rfl, e2, r2⟩ := ry
    refine .inr (.inl ⟨a1, a2, vs, us, rfl, rfl, e1, e2, by rw [← r1.length, ← r2.length]; exact line_of h.1, fun p np' => ?_⟩)
    have ex : Ext H (upd H p (.lst (vs ++ us))) := .new np'
    refine q _ _ _ h.2 ex ⟨p, _, rfl, upd_same, RpIs.kp ex.kp _ _ (r1.append r2)⟩ (fun _ c e => ?_)
    cases e
    exact np'
  · obtain ⟨a1, vs, rfl, e1, r1⟩ := rx
    obtain ⟨a2, us, rfl, e2, r2⟩ := ry
    refine .inr (.inr ⟨a1, a2, vs, us, rfl, rfl, .of e1, .of e2, by rw [← r1.length, ← r2.length]; exact line_of h.1, fun n1 => ?_, fun _ n2 => ?_, fun _ _ p np' => ?_⟩)
    · subst n1
      have hxs := List.eq_nil_of_length_eq_zero (r1.length.trans rfl)
      subst hxs
      exact q _ _ H h.2 (.refl H) ⟨a2, us, rfl, e2, r2⟩ (fun n => by simp [isL] at n)
    · subst n2
      have hys := List.eq_nil_of_length_eq_zero (r2.length.trans rfl)
      subst hys
      exact q _ _ H h.2 (.refl H) ⟨a1, vs, rfl, e1, by rw [List.append_nil]; exact r1⟩ (fun n => by simp [isL] at n)
    · have ex : Ext H (upd H p (.tup (vs ++ us))) := .new np'
      exact q _ _ _ h.2 ex ⟨p, _, rfl, upd_same, RpIs.kp ex.kp _ _ (r1.append r2)⟩ (fun n => by simp [isL] at n)
  · obtain ⟨a1, vs, rfl, e1, r1⟩ := rx
    obtain ⟨a2, us, rfl, e2, r2⟩ := ry
    refine .inr (.inr ⟨a1, a2, vs, us, rfl, rfl, e1.t, e2.t, by rw [← r1.length, ← r2.length]; exact line_of h.1, fun n1 => ?_, fun _ n2 => ?_, fun _ _ p np' => ?_⟩)
    · subst n1
      have hxs := List.eq_nil_of_length_eq_zero (r1.length.trans rfl)
      subst hxs
      exact q _ _ H h.2.2 (.refl H) ⟨a2, us, rfl, e2, r2⟩ (fun n => by simp [isL] at n)
    · subst n2
      have hys := List.eq_nil_of_length_eq_zero (r2.length.trans rfl)
      subst hys
      exact q _ _ H h.2.2 (.refl H) ⟨a1, vs, rfl, e1, by rw [List.append_nil]; exact r1⟩ (fun n => by simp [isL] at n)
    · have ex : Ext H (upd H p (.tup (vs ++ us))) := .new np'
      exact q _ _ _ h.2.1 ex ⟨p, _, rfl, upd_same, RpIs.kp ex.kp _ _ (r1.append r2)⟩ (fun n => by simp [isL] at n)
  · obtain ⟨a1, vs, rfl, e1, r1⟩ := rx
    obtain ⟨a2, us, rfl, e2, r2⟩ := ry
    refine .inr (.inr ⟨a1, a2, vs, us, rfl, rfl, .of e1, e2.t, by rw [← r1.length, ← r2.length]; exact line_of h.1, fun n1 => ?_, fun _ n2 => ?_, fun _ _ p np' => ?_⟩)
    · subst n1
      have hxs := List.eq_nil_of_length_eq_zero (r1.length.trans rfl)
      subst hxs
      exact q _ _ H h.2.2 (.refl H) ⟨a2, us, rfl, e2, r2⟩ (fun n => by simp [isL] at n)
    · subst n2
      have hys := List.eq_nil_of_length_eq_zero (r2.length.trans rfl)
      subst hys
      exact q _ _ H h.2.1 (.refl H) ⟨a1, vs, rfl, e1, by rw [List.append_nil]; exact r1⟩ (fun n => by simp [isL] at n)
    · have ex : Ext H (upd H p (.tup (vs ++ us))) := .new np'
      exact q _ _ _ h.2.1 ex ⟨p, _, rfl, upd_same, RpIs.kp ex.kp _ _ (r1.append r2)⟩ (fun n => by simp [isL] at n)
  · obtain ⟨a1, vs, rfl, e1, r1⟩ := rx
    obtain ⟨a2, us, rfl, e2, r2⟩ := ry
    refine .inr (.inr ⟨a1, a2, vs, us, rfl, rfl, e1.t, .of e2, by rw [← r1.length, ← r2.length]; exact line_of h.1, fun n1 => ?_, fun _ n2 => ?_, fun _ _ p np' => ?_⟩)
    · subst n1
      have hxs := List.eq_nil_of_length_eq_zero (r1.length.trans rfl)
      subst hxs
      exact q _ _ H h.2.1 (.refl H) ⟨a2, us, rfl, e2, r2⟩ (fun n => by simp [isL] at n)
    · subst n2
      have hys := List.eq_nil_of_length_eq_zero (r2.length.trans rfl)
      subst hys
      exact q _ _ H h.2.2 (.refl H) ⟨a1, vs, rfl, e1, by rw [List.append_nil]; exact r1⟩ (fun n => by simp [isL] at n)
    · have ex : Ext H (upd H p (.tup (vs ++ us))) := .new np'
      exact q _ _ _ h.2.1 ex ⟨p, _, rfl, upd_same, RpIs.kp ex.kp _ _ (r1.append r2)⟩ (fun n => by simp [isL] at n)
  · exact h.elim
theorem e_addG (ha : DE X np He a wa) (hb : DE X np He b wb) : DE X np He (.BinOp a .Add b pos) (cOp fAddG wa wb) := e_op (op_add.or (op_cat.or op_catA)) opd_addG ha hb
theorem RpIs.rep {K : PySem.W.Frag} {H : Hp} {ds : List D} {vs : List V} (h : RpIs K H ds vs) : ∀ n : Nat, RpIs K H (List.replicate n ds).flatten (List.replicate n vs).flatten
  | 0 => by simp [RpIs]
  | n + 1 => by
    rw [List.replicate_succ, List.replicate_succ, List.flatten_cons, List.flatten_cons]
    exact h.append (RpIs.rep h n)
/-- a flat value within a flat list -/
def flatD : D → Bool
  | .non => true | .bl _ => true | .int _ => true | .str _ => true
  | _ => false
def eqF : D → D → Bool
  | .non, .non => true
  | .bl a, .bl b => a == b
  | .bl a, .int b => (if a then 1 else 0) == b
  | .int a, .bl b => a == (if b then 1 else 0)
  | .int a, .int b => a == b
  | .str a, .str b => a == b
  | _, _ => false
def flatA : List D → Bool
  | [] => true
  | d :: r => flatD d && flatA r
def fIn (neg : Bool) : F2 := fun x y k => match seqD y with
  | some ys => flatD x = true ∧ flatA ys = true ∧ k (.bl (if neg then !(ys.any fun y => eqF y x) else ys.any fun y => eqF y x))
  | none => False
theorem flat_ok {K : PySem.W.Frag} {H : Hp} {d : D} {v : V} (h : RpV K H d v) (f : flatD d = true) : flatV v = true := by
  cases d <;> first | (cases h; rfl) | (simp [flatD] at f)
theorem eqF_ok {K : PySem.W.Frag} {H : Hp} {d e : D} {v w : V} (h : RpV K H d v) (g : RpV K H e w) (f : flatD d = true) (f' : flatD e = true) : eqV v w = eqF d e := by
  cases d <;> first | (simp [flatD] at f; done) | skip
  all_goals cases e <;> first | (simp [flatD] at f'; done) | (cases h; cases g; rfl)
theorem flatA_ok {K : PySem.W.Frag} {H : Hp} {d : D} {v : V} (hd : RpV K H d v) (fd : flatD d = true) : ∀ {ys : List D} {us : List V}, RpIs K H ys us → flatA ys = true → us.all flatV = true ∧ inV v us = ys.any fun y => eqF y d
  | [], us, r, _ => by
    simp only [RpIs] at r
    subst r
    exact ⟨rfl, rfl⟩
  | y :: ys, us, r, f => by
    simp only [RpIs] at r
    obtain ⟨u, r', rfl, h1, h2⟩ := r
    simp only [flatA, Bool.and_eq_true] at f
    obtain ⟨i1, i2⟩ := flatA_ok hd fd h2 f.2
    have h1' : RpV K H y u := .of h1
    refine ⟨by rw [List.all_cons, flat_ok h1' f.1, i1]; rfl, ?_⟩
    unfold inV at i2 ⊢
    rw [List.any_cons, List.any_cons, i2, eqF_ok h1' hd f.1 fd]
theorem opd_in {neg : Bool} : OpD X.K (rIn X.K neg) (fIn neg) := by
  intro H x y v w k Q rx ry h q
  unfold fIn at h
  split at h
  · rename_i ys e
    obtain ⟨f1, f2, h⟩ := h
    obtain ⟨p, us, rfl, s, ru⟩ := ry.seq e
    obtain ⟨i1, i2⟩ := flatA_ok rx f1 ru f2
    refine ⟨p, us, rfl, s, flat_ok rx f1, i1, ?_⟩
    rw [i2]
    exact q _ _ H h (.refl H) rfl (fun n => by simp [isL] at n)
  · exact h.elim
theorem e_notIn (ha : DE X np He a wa) (hb : DE X np He b wb) (hm : behindInMarks .NotIn b = false := by with_unfolding_all rfl) : DE X np He (.Compare a [.NotIn] [b] pos) (cOp (fIn true) wa wb) := e_cmp op_notIn_seq opd_in ha hb hm
theorem t_notIn (ha : DE X np He a wa) (hb : DE X np He b wb) (hm : behindInMarks .NotIn b = false := by with_unfolding_all rfl) : DT X np He (.Compare a [.NotIn] [b] pos) (cOp (fIn true) wa wb) := t_cmp op_notIn_seq opd_in ha hb hm
theorem e_in (ha : DE X np He a wa) (hb : DE X np He b wb) (hm : behindInMarks .In b = false := by with_unfolding_all rfl) : DE X np He (.Compare a [.In] [b] pos) (cOp (fIn false) wa wb) := e_cmp op_in_seq opd_in ha hb hm
theorem t_in (ha : DE X np He a wa) (hb : DE X np He b wb) (hm : behindInMarks .In b = false := by with_unfolding_all rfl) : DT X np He (.Compare a [.In] [b] pos) (cOp (fIn false) wa wb) := t_cmp op_in_seq opd_in ha hb hm

/-! ### slices -/
def cutD (xs : List D) (lo hi : Option Int) : List D := (xs.drop (HT.sIx xs.length 0 lo)).take (HT.sIx xs.length xs.length hi - HT.sIx xs.length 0 lo)
theorem cut_ok {K : PySem.W.Frag} {H : Hp} {ds : List D} {vs : List V} (r : RpIs K H ds vs) (lo hi : Option Int) : RpIs K H (cutD ds lo hi) (cutV vs lo hi) := by
  unfold cutD cutV
  rw [r.length]
  exact RpIs.take _ (RpIs.drop _ r)
def slD (x : D) (lo hi : Option Int) (k : D → Prop) : Prop := match x with
  | .lst xs => k (.lst (cutD xs lo hi))
  | .rol xs => k (.lst (cutD xs lo hi))
  | .tup xs => k (.tup (cutD xs lo hi))
  | .tpd xs => k (.tup (cutD xs lo hi)) ∧ k (.tpd (cutD xs lo hi))
  | _ => False
theorem whole_cut {xs : List V} {lo hi : Option Int} (h : HT.sIx xs.length 0 lo = 0 ∧ HT.sIx xs.length xs.length hi = xs.length) : cutV xs lo hi = xs := by
  unfold cutV
  rw [h.1, h.2]
  simp
theorem slr : SlR X (fun x lo hi H Q => rSlL X.K x lo hi H Q ∨ rSlA X.K x lo hi H Q) := sl_list.or sl_tupA
theorem sl_ok {H : Hp} {x : D} {v : V} {lo hi : Option Int} {k : D → Prop} {Q : VK} (rx : RpV X.K H x v) (h : slD x lo hi k)
    (q : ∀ z u H', k z → Ext H H' → RpV X.K H' z u → (isL z = true → ∀ a, u = .ref a → H a = none) → Q u H') : rSlL X.K v lo hi H Q ∨ rSlA X.K v lo hi H Q := by
  have lst : ∀ {xs : List D} {a : Addr} {vs : List V}, SqL X.K H a vs → RpIs X.K H xs vs → k (.lst (cutD xs lo hi)) → rSlL X.K (.ref a) lo hi H Q := fun {xs a vs} s r h => by
    refine ⟨a, vs, rfl, s, fun p np' => ?_⟩
    have ex : Ext H (upd H p (.lst (cutV vs lo hi))) := .new np'
    refine q _ _ _ h ex ⟨p, _, rfl, upd_same, RpIs.kp ex.kp _ _ (cut_ok r lo hi)⟩ (fun _ c e => ?_)
    cases e
    exact np'
  cases x with
  | lst xs => obtain ⟨a, vs, rfl, s, r⟩ := rx; exact .inl (lst (.of s) r h)
  | rol xs =>
    obtain ⟨a, vs, rfl, s, r⟩ := (show ∃ a vs, v = .ref a ∧ SqR X.K H a vs ∧ RpIs X.K H xs vs by simpa only [RpV, RpI] using rx)
    exact .inl (lst s.seq r h)
  | tup xs =>
    obtain ⟨a, vs, rfl, s, r⟩ := (show ∃ a vs, v = .ref a ∧ H a = some (.tup vs) ∧ RpIs X.K H xs vs by simpa only [RpV, RpI] using rx)
    refine .inr ⟨a, vs, rfl, .of s, fun hw => ?_, fun _ p np' => ?_⟩
    · refine q _ _ H h (.refl H) ?_ (fun n => by simp [isL] at n)
      show RpI _ _ _ _
      simp only [RpI]
      refine ⟨a, vs, rfl, s, ?_⟩
      have := cut_ok r lo hi
      rw [whole_cut hw] at this
      exact this
    · have ex : Ext H (upd H p (.tup (cutV vs lo hi))) := .new np'
      refine q _ _ _ h ex ?_ (fun n => by simp [isL] at n)
      show RpI _ _ _ _
      simp only [RpI]
      exact ⟨p, _, rfl, upd_same, RpIs.kp ex.kp _ _ (cut_ok r lo hi)⟩
  | tpd xs =>
    obtain ⟨a, vs, rfl, s, r⟩ := (show ∃ a vs, v = .ref a ∧ TpK X.K H a vs ∧ RpIs X.K H xs vs by simpa only [RpV, RpI] using rx)
    refine .inr ⟨a, vs, rfl, s.t, fun hw => ?_, fun _ p np' => ?_⟩
    · refine q _ _ H h.2 (.refl H) ?_ (fun n => by simp [isL] at n)
      show RpI _ _ _ _
      simp only [RpI]
      refine ⟨a, vs, rfl, s, ?_⟩
      have := cut_ok r lo hi
      rw [whole_cut hw] at this
      exact this
    · have ex : Ext H (upd H p (.tup (cutV vs lo hi))) := .new np'
      refine q _ _ _ h.1 ex ?_ (fun n => by simp [isL] at n)
      show RpI _ _ _ _
      simp only [RpI]
      exact ⟨p, _, rfl, upd_same, RpIs.kp ex.kp _ _ (cut_ok r lo hi)⟩
  | _ => exact False.elim h
def isI (d : D) (k : Int → Prop) : Prop := match d with
  | .int i => k i
  | _ => False
theorem isI_of {d : D} {k : Int → Prop} (h : isI d k) : ∃ i, d = .int i ∧ k i := by
  unfold isI at h
  split at h
  · exact ⟨_, rfl, h⟩
  · exact h.elim
def cSlL (wa wb : W) : W := fun env Q => wa env fun ra e1 => wb e1 fun rb e2 => rs e2 rb fun y => isI y fun lo => rs e2 ra fun x => slD x (some lo) none fun z => Q (.val z) e2
def cSlH (wa wb : W) : W := fun env Q => wa env fun ra e1 => wb e1 fun rb e2 => rs e2 rb fun y => isI y fun hi => rs e2 ra fun x => slD x none (some hi) fun z => Q (.val z) e2
theorem e_slL {p2 : Pos} (ha : DE X np He a wa) (hb : DE X np He b wb) : DE X np He (.Subscript a (.Slice (some b) none none p2) pos) (cSlL wa wb) := by
  refine PE.weak (pe_slice slr ha (po_some hb) po_none) fun σ H Q ⟨env, Q0, R, w, q⟩ => ⟨env, _, R, w, fun ra e1 v1 H1 w1 s1 r1 => ⟨e1, _, s1.rep, w1, fun rb e2 v2 H2 w2 s2 r2 => ?_⟩⟩
  obtain ⟨y, hy, w2⟩ := r2.rs s2.rep w2
  obtain ⟨i, rfl, w2⟩ := isI_of w2
  have s12 := s1.trans s2
  obtain ⟨x, hx, w2⟩ := (r1.keep R s1 s2).rs s2.rep w2
  exact ⟨i, hy, sl_ok hx w2 fun z u H' k ex rz fz => q _ e2 u H' k (s12.trans (.ext s2.rep ex)) ⟨rz, fun n c e => s12.dom c (fz n c e)⟩⟩
theorem e_slH {p2 : Pos} (ha : DE X np He a wa) (hb : DE X np He b wb) : DE X np He (.Subscript a (.Slice none (some b) none p2) pos) (cSlH wa wb) := by
  refine PE.weak (pe_slice slr ha po_none (po_some hb)) fun σ H Q ⟨env, Q0, R, w, q⟩ => ⟨env, _, R, w, fun ra e1 v1 H1 w1 s1 r1 => ⟨e1, _, s1.rep, w1, fun rb e2 v2 H2 w2 s2 r2 => ?_⟩⟩
  obtain ⟨y, hy, w2⟩ := r2.rs s2.rep w2
  obtain ⟨i, rfl, w2⟩ := isI_of w2
  have s12 := s1.trans s2
  obtain ⟨x, hx, w2⟩ := (r1.keep R s1 s2).rs s2.rep w2
  exact ⟨i, hy, sl_ok hx w2 fun z u H' k ex rz fz => q _ e2 u H' k (s12.trans (.ext s2.rep ex)) ⟨rz, fun n c e => s12.dom c (fz n c e)⟩⟩
def fRev : F1 := fun x k => match x with
  | .lst xs => k (.lst xs.reverse)
  | .rol xs => k (.lst xs.reverse)
  | _ => False
theorem e_rev {k : Nat} {p1 p2 p3 : Pos} (ha : DE X np He a wa) : DE X np He (.Subscript a (.Slice none none (some (.UnaryOp .USub (.Constant (.int 1) k p1) p2)) p3) pos) (cUn fRev wa) := by
  refine PE.weak (pe_revL ha) fun σ H Q ⟨env, Q0, R, w, q⟩ => ⟨env, _, R, w, fun ra e1 v1 H1 w1 s1 r1 => ?_⟩
  obtain ⟨x, hx, w1⟩ := r1.rs s1.rep w1
  have fin : ∀ {xs : List D} {a : Addr} {vs : List V}, SqL X.K H1 a vs → RpIs X.K H1 xs vs → Q0 (.val (.lst xs.reverse)) e1 → ∃ a' xs', V.ref a = .ref a' ∧ SqL X.K H1 a' xs' ∧ ∀ p, H1 p = none → Q (.ref p) (upd H1 p (.lst xs'.reverse)) := fun {xs a vs} s r h => by
    refine ⟨a, vs, rfl, s, fun p np' => ?_⟩
    have ex : Ext H1 (upd H1 p (.lst vs.reverse)) := .new np'
    refine q _ e1 _ _ h (s1.trans (.ext s1.rep ex)) ⟨⟨p, _, rfl, upd_same, RpIs.kp ex.kp _ _ r.reverse⟩, fun _ c e => ?_⟩
    cases e
    exact s1.dom p np'
  cases x with
  | lst xs => obtain ⟨a, vs, rfl, s, r⟩ := hx; exact fin (.of s) r w1
  | rol xs =>
    obtain ⟨a, vs, rfl, s, r⟩ := (show ∃ a vs, v1 = .ref a ∧ SqR X.K H1 a vs ∧ RpIs X.K H1 xs vs by simpa only [RpV, RpI] using hx)
    exact fin s.seq r w1
  | _ => exact False.elim w1
end
end DL

namespace DL
open PySem PySem.Spec PyProof.Rows L2
section
variable {K : PySem.W.Frag} {np : Nat} {He : Hp} {σ σ' σ'' : L2.St} {H H' H'' : Hp} {env env' env'' : DEnv}

/-! ### a list in a slot is written -/
theorem kp_store {a : Addr} {us ws : List V} (h : H a = some (.lst us)) : Kp H (upd H a (.lst ws)) := fun b o e n => by
  have hb : b ≠ a := fun z => by
    subst z
    rw [h] at e
    exact n us (Option.some.inj e).symm
  rw [upd_ne hb]
  exact e
theorem SE.store {i : Nat} {xs ys : List D} {a : Addr} {us ws : List V} (R : Rep K np He σ H env) (h : env[i]? = some (some (D.lst xs))) (hs : σ[i]? = some (some (V.ref a))) (ha : H a = some (.lst us)) (r : RpIs K H ys ws) :
    SE K np He σ H env (upd H a (.lst ws)) (env.set i (some (D.lst ys))) := by
  have hi : i < env.length := (List.getElem?_eq_some_iff.mp h).1
  have kp : Kp H (upd H a (.lst ws)) := kp_store ha
  have isl : ∀ (j : Nat) (zs : List D), (env.set i (some (D.lst ys)))[j]? = some (some (D.lst zs)) → ∃ zs', env[j]? = some (some (D.lst zs')) := fun j zs e => by
    by_cases hj : i = j
    · subst hj; exact ⟨xs, h⟩
    · rw [List.getElem?_set_ne hj] at e; exact ⟨zs, e⟩
  refine ⟨⟨by rw [List.length_set]; exact R.len, fun j d e => ?_, fun j l zs zs' c e1 e2 s1 s2 => ?_, fun j zs c hj e s => ?_, fun b n => ?_⟩, fun j => ?_, fun b o e n => ?_, fun b n => ?_⟩
  · by_cases hj : i = j
    · subst hj
      rw [List.getElem?_set_self hi] at e
      cases e
      exact ⟨_, hs, a, ws, rfl, upd_same, RpIs.kp kp ys ws r⟩
    · rw [List.getElem?_set_ne hj] at e
      obtain ⟨v, e1, rv⟩ := R.val j d e
      refine ⟨v, e1, ?_⟩
      cases d with
      | lst zs =>
        refine rv.kpl kp fun c o ec eo => ?_
        subst ec
        have : c ≠ a := fun z => by
          subst z
          exact hj (R.apart i j xs zs c h e hs e1)
        rw [upd_ne this]
        exact eo
      | _ => exact rv.kp kp rfl
  · obtain ⟨w1, q1⟩ := isl j zs e1
    obtain ⟨w2, q2⟩ := isl l zs' e2
    exact R.apart j l w1 w2 c q1 q2 s1 s2
  · obtain ⟨w1, q1⟩ := isl j zs e
    exact R.own j w1 c hj q1 s
  · by_cases hb : b = a
    · subst hb; rw [upd_same] at n; cases n
    · rw [upd_ne hb] at n; exact R.dom b n
  · by_cases hj : i = j
    · subst hj
      exact .inr ⟨xs, ys, h, List.getElem?_set_self hi⟩
    · exact .inl (List.getElem?_set_ne hj)
  · have hb : b ≠ a := fun z => by
      subst z
      exact n ⟨i, xs, h, hs⟩
    rw [upd_ne hb]
    exact e
  · by_cases hb : b = a
    · subst hb; rw [upd_same] at n; cases n
    · rw [upd_ne hb] at n; exact n
def getl (env : DEnv) (i : Nat) (k : List D → Prop) : Prop := match env[i]? with
  | some (some (.lst xs)) => k xs
  | _ => False
theorem getl_of {i : Nat} {k : List D → Prop} (h : getl env i k) : ∃ xs, env[i]? = some (some (D.lst xs)) ∧ k xs := by
  unfold getl at h
  split at h
  · exact ⟨_, by assumption, h⟩
  · exact h.elim
/-- the list of a slot, by its address -/
theorem Rep.lst (R : Rep K np He σ H env) {i : Nat} {xs : List D} (h : env[i]? = some (some (D.lst xs))) : ∃ a us, σ[i]? = some (some (V.ref a)) ∧ H a = some (.lst us) ∧ RpIs K H xs us := by
  obtain ⟨v, e, a, us, rfl, e2, r⟩ := R.val i _ h
  exact ⟨a, us, e, e2, r⟩
end

section
variable {X : Cx} {np : Nat} {He : Hp} {a b c e : Expr} {es : List Expr} {wa wb wc : W} {ws : WA} {pos : Pos}
/-! ### methods of a list in a slot -/
abbrev FM := List D → List D → (D → List D → Prop) → Prop
def MeD (K : PySem.W.Frag) (r : V → List V → Hp → VK → Prop) (f : FM) : Prop := ∀ (H : Hp) (a : Addr) (us : List V) (xs : List D) (vs : List V) (ds : List D) (k : D → List D → Prop) (Q : VK), H a = some (.lst us) → RpIs K H xs us → RpVs K H ds vs → f xs ds k →
  (∀ z u ys ws, k z ys → RpIs K H ys ws → RpI K H z u → Q u (upd H a (.lst ws))) → r (.ref a) vs H Q
def cMeth (i : Nat) (f : FM) (ws : WA) : W := fun env Q => getl env i fun _ => ws env fun rl e1 => rsl e1 rl fun ds => getl e1 i fun xs => f xs ds fun z ys => Q (.val z) (e1.set i (some (.lst ys)))
theorem meth_core {i : Nat} {r : V → List V → Hp → VK → Prop} {f : FM} (h : MeD X.K r f) : ∀ σ H Q, rE X.K np He (cMeth i f ws) σ H Q → tBM X.K "list" r (tVar i) (rA X.K np He ws) σ H Q := by
  intro σ H Q ⟨env, Q0, R, w, q⟩
  obtain ⟨xs0, e0, w⟩ := getl_of w
  obtain ⟨a, us, es, ha, ra⟩ := R.lst e0
  refine ⟨.ref a, es, .inl ⟨rfl, us, .of ha⟩, env, _, R, w, fun rl e1 vs H1 w1 s1 r1 => ?_⟩
  obtain ⟨ds, hd, w1⟩ := r1.rs s1.rep w1
  obtain ⟨xs, e2, w1⟩ := getl_of w1
  obtain ⟨a', us', es', ha', ra'⟩ := s1.rep.lst e2
  rw [es] at es'
  have ea : a = a' := by simpa using es'
  subst ea
  refine h H1 a us' xs vs ds _ Q ha' ra' hd w1 fun z u ys ws' k ry rz => ?_
  have hz : isL z = false := by cases z <;> first | rfl | (simp only [RpI] at rz)
  refine q _ _ u _ k (s1.trans (.store s1.rep e2 es ha' ry)) ⟨.of (RpI.kp (kp_store ha') z u rz), fun n => by rw [hz] at n; cases n⟩
def fAppend : FM := fun xs ds k => match ds with
  | [d] => isL d = false ∧ xs.length < 1000000 ∧ k .non (xs ++ [d])
  | _ => False
theorem e_append {i : Nat} {x : Str} {p apos : Pos} (ha : DE X np He a wa) (hN : X.N[i]? = some x := by rfl) (hv : Vis X.env.scope x := by first | exact Or.inl rfl | exact Or.inr (Or.inl rfl) | exact Or.inr (Or.inr rfl)) (hd : (x == ("__debug__" : Str)) = false := by decide)
    (hcd : (x == ("__classdict__" : Str)) = false := by decide) (hbase : attributeBase (.Name x p) "append" X.env (eval (.Name x p) X.env) = eval (.Name x p) X.env := by rfl)
    (hfew : ((backTo pos (starEach [a] X.env)).all (fun x => !x.1) && (backToKw pos (keywordEach [] X.env)).all (fun x => x.1.isSome)
      && decide ([a].length + ([] : List Keyword).length + (if ([] : List Keyword).isEmpty then 0 else 1) < 30)) = true := by rfl)
    (hline : (apos.endLine == pos.line) = true := by rfl) (hs : starEach [a] X.env = (false, eval a X.env) :: starEach [] X.env := by rfl) :
    DE X np He (.Call (.Attribute (.Name x p) "append" apos) [a] [] pos) (cMeth i fAppend (cCons wa cNil)) := by
  refine PE.weak (pe_bm PySem.F.plainAttrs_list PySem.F.slot_list_append PySem.F.type_list_append mt_append (pv i hN hv hd hcd) (a_cons ha a_nil hs) hbase hfew hline hs) (meth_core ?_)
  intro H a us xs vs ds k Q ha ra rd h q
  unfold fAppend at h
  split at h
  · obtain ⟨h1, h2, h⟩ := h
    obtain ⟨v, rfl, rv⟩ := rd.one
    refine ⟨a, us, v, rfl, rfl, ha, by rw [← ra.length]; exact Nat.lt_of_lt_of_le h2 (line_of (Nat.le_refl _)), q _ _ _ _ h (ra.append ?_) ?_⟩
    · simp only [RpIs]
      exact ⟨v, [], rfl, rv.imm h1, rfl⟩
    · simp only [RpI]
  · exact h.elim
theorem meth0_core {i : Nat} {r : V → List V → Hp → VK → Prop} {f : FM} (h : MeD X.K r f) : ∀ σ H Q, rE X.K np He (cMeth i f cNil) σ H Q → tBM0 X.K "list" r (tVar i) σ H Q := by
  intro σ H Q ⟨env, Q0, R, w, q⟩
  obtain ⟨xs, e0, w⟩ := getl_of w
  obtain ⟨xs', e0', w⟩ := getl_of w
  obtain ⟨a, us, es, ha, ra⟩ := R.lst e0'
  refine ⟨.ref a, es, .inl ⟨rfl, us, .of ha⟩, h H a us xs' [] [] _ Q ha ra rfl w fun z u ys ws' k ry rz => ?_⟩
  have hz : isL z = false := by cases z <;> first | rfl | (simp only [RpI] at rz)
  exact q _ _ u _ k (.store R e0' es ha ry) ⟨.of (RpI.kp (kp_store ha) z u rz), fun n => by rw [hz] at n; cases n⟩
def fPop : FM := fun xs ds k => match ds with
  | [] => (match xs.getLast? with
    | some d => k d xs.dropLast
    | none => False)
  | _ => False
theorem e_pop {i : Nat} {x : Str} {p apos : Pos} (hN : X.N[i]? = some x := by rfl) (hv : Vis X.env.scope x := by first | exact Or.inl rfl | exact Or.inr (Or.inl rfl) | exact Or.inr (Or.inr rfl)) (hd : (x == ("__debug__" : Str)) = false := by decide)
    (hcd : (x == ("__classdict__" : Str)) = false := by decide) (hbase : attributeBase (.Name x p) "pop" X.env (eval (.Name x p) X.env) = eval (.Name x p) X.env := by rfl) (hline : (apos.endLine == pos.line) = true := by rfl) :
    DE X np He (.Call (.Attribute (.Name x p) "pop" apos) [] [] pos) (cMeth i fPop cNil) := by
  refine PE.weak (pe_bm0 PySem.F.plainAttrs_list PySem.F.slot_list_pop PySem.F.type_list_pop mt_pop (pv i hN hv hd hcd) hbase hline) (meth0_core ?_)
  intro H a us xs vs ds k Q ha ra rd h q
  unfold fPop at h
  split at h
  · cases (show vs = [] from rd)
    split at h
    · rename_i d e
      rw [List.getLast?_eq_getElem?] at e
      obtain ⟨u, e1, ru⟩ := ra.get e
      exact ⟨a, us, u, rfl, rfl, ha, by rw [← ra.length]; exact e1, q _ _ _ _ h ra.dropLast ru⟩
    · exact h.elim
  · exact h.elim
def fReverse : FM := fun xs ds k => match ds with
  | [] => k .non xs.reverse
  | _ => False
theorem e_reverse {i : Nat} {x : Str} {p apos : Pos} (hN : X.N[i]? = some x := by rfl) (hv : Vis X.env.scope x := by first | exact Or.inl rfl | exact Or.inr (Or.inl rfl) | exact Or.inr (Or.inr rfl)) (hd : (x == ("__debug__" : Str)) = false := by decide)
    (hcd : (x == ("__classdict__" : Str)) = false := by decide) (hbase : attributeBase (.Name x p) "reverse" X.env (eval (.Name x p) X.env) = eval (.Name x p) X.env := by rfl) (hline : (apos.endLine == pos.line) = true := by rfl) :
    DE X np He (.Call (.Attribute (.Name x p) "reverse" apos) [] [] pos) (cMeth i fReverse cNil) := by
  refine PE.weak (pe_bm0 PySem.F.plainAttrs_list PySem.F.slot_list_reverse PySem.F.type_list_reverse mt_reverse (pv i hN hv hd hcd) hbase hline) (meth0_core ?_)
  intro H a us xs vs ds k Q ha ra rd h q
  unfold fReverse at h
  split at h
  · cases (show vs = [] from rd)
    exact ⟨a, us, rfl, rfl, ha, q _ _ _ _ h ra.reverse rfl⟩
  · exact h.elim

/-! ### calls of own defs -/
structure FSpec where
  pre : List D → Prop
  post : List D → D → List D → Prop
def noRef (i : Nat) : List RV → Bool
  | [] => true
  | .ref j :: r => !(i == j) && noRef i r
  | .val _ :: r => noRef i r
def okR : List RV → Bool
  | [] => true
  | .ref i :: r => noRef i r && okR r
  | .val _ :: r => okR r
def upA : List RV → List D → DEnv → DEnv
  | .ref i :: rl, .lst ys :: ds, e => upA rl ds (e.set i (some (.lst ys)))
  | _ :: rl, _ :: ds, e => upA rl ds e
  | _, _, e => e
/-- what a def does to its list arguments -/
structure After (K : PySem.W.Frag) (H H' : Hp) (ds ds' : List D) (vs : List V) : Prop where
  len : ds'.length = ds.length
  keep : ∀ b o, H b = some o → (∀ (i : Nat) (xs : List D), ds[i]? = some (.lst xs) → vs[i]? ≠ some (.ref b)) → H' b = some o
  dom : ∀ b, H' b = none → H b = none
  lst : ∀ (i : Nat) (xs : List D) (v : V), ds[i]? = some (.lst xs) → vs[i]? = some v → ∃ ys, ds'[i]? = some (.lst ys) ∧ RpV K H' (.lst ys) v
def apA : List D → List V → Prop
  | .lst _ :: ds, v :: vs => (∀ (j : Nat) (xs : List D), ds[j]? = some (.lst xs) → vs[j]? ≠ some v) ∧ apA ds vs
  | _ :: ds, _ :: vs => apA ds vs
  | _, _ => True
def spOf (K : PySem.W.Frag) (n : Nat) (sp : FSpec) : Sp := fun vs H Q _ => ∃ ds, vs.length = n ∧ RpVs K H ds vs ∧ apA ds vs ∧ sp.pre ds ∧
  ∀ r ds' v H', sp.post ds r ds' → After K H H' ds ds' vs → RpV K H' r v → (isL r = true → ∀ a, v = .ref a → H a = none) → Q v H'
structure FnD (P : Program) (w : World) (K : PySem.W.Frag) (mg : Str → Option Value) (base : Heap) (k : Nat) (x : Str) (ps : List Str) (sp : FSpec) : Prop where
  ex : ∃ f fd, FnOk P w K mg base CX0 k f fd ps (spOf K ps.length sp) ∧ mg x = some (.ref f) ∧ PySem.W.keepIn K (.ref f) = true ∧ Binds K fd ps []
/-- results, values and data side by side -/
def Tri (K : PySem.W.Frag) (σ : L2.St) (H H' : Hp) (env : DEnv) : List RV → List V → List D → Prop
  | [], vs, ds => vs = [] ∧ ds = []
  | .val d :: rl, vs, ds => ∃ v vr dr, vs = v :: vr ∧ ds = d :: dr ∧ RpV K H' d v ∧ (isL d = true → (∀ a, v = .ref a → H a = none) ∧ ∀ (j : Nat) (ys : List D), rl[j]? = some (.val (.lst ys)) → vr[j]? ≠ some v) ∧ Tri K σ H H' env rl vr dr
  | .ref i :: rl, vs, ds => ∃ v vr xs dr, vs = v :: vr ∧ ds = .lst xs :: dr ∧ σ[i]? = some (some v) ∧ env[i]? = some (some (D.lst xs)) ∧ Tri K σ H H' env rl vr dr
theorem tri_of {K : PySem.W.Frag} {σ : L2.St} {H H' : Hp} {env : DEnv} (R : Rep K np He σ H' env) : ∀ {rl : List RV} {vs : List V} {k : List D → Prop}, RpRs K σ H H' env vs rl → rsl env rl k → ∃ ds, Tri K σ H H' env rl vs ds ∧ RpVs K H' ds vs ∧ k ds
  | [], vs, k, h, g => by
    cases vs with
    | nil => exact ⟨[], ⟨rfl, rfl⟩, rfl, g⟩
    | cons v vs => obtain ⟨r, rest, e, _⟩ := h; cases e
  | .val d :: rl, vs, k, h, g => by
    cases vs with
    | nil => cases (show (RV.val d :: rl) = [] from h)
    | cons v vs =>
      obtain ⟨r, rest, e, h1, h2, tn⟩ := h
      cases e
      obtain ⟨ds, t, rv, q⟩ := tri_of R h2 g
      exact ⟨d :: ds, ⟨v, vs, ds, rfl, rfl, h1.1, fun n => ⟨h1.2 n, tn d rfl n⟩, t⟩, ⟨v, vs, rfl, h1.1, rv⟩, q⟩
  | .ref i :: rl, vs, k, h, g => by
    cases vs with
    | nil => cases (show (RV.ref i :: rl) = [] from h)
    | cons v vs =>
      obtain ⟨r, rest, e, h1, h2, tn⟩ := h
      cases e
      obtain ⟨d, e1, g⟩ := getv_of g
      obtain ⟨ds, t, rv, q⟩ := tri_of R h2 g
      obtain ⟨hs, xs, e2⟩ := h1
      rw [e1] at e2
      have ed : d = .lst xs := by simpa using e2
      subst ed
      obtain ⟨u, e3, ru⟩ := R.val i _ e1
      rw [hs] at e3
      have eu : v = u := by simpa using e3
      subst eu
      exact ⟨_ :: ds, ⟨v, vs, xs, ds, rfl, rfl, hs, e1, t⟩, ⟨v, vs, rfl, ru, rv⟩, q⟩
section
variable {K : PySem.W.Frag} {σ : L2.St} {H H' : Hp} {env : DEnv}
/-- a list argument is a slot's or a new one -/
theorem Tri.arg : ∀ {rl : List RV} {vs : List V} {ds : List D} {j : Nat} {xs : List D}, Tri K σ H H' env rl vs ds → ds[j]? = some (.lst xs) →
    (∃ i v, rl[j]? = some (.ref i) ∧ vs[j]? = some v ∧ σ[i]? = some (some v) ∧ env[i]? = some (some (D.lst xs))) ∨ (∃ a, rl[j]? = some (.val (.lst xs)) ∧ vs[j]? = some (.ref a) ∧ H a = none)
  | [], vs, ds, j, xs, h, e => by
    obtain ⟨_, rfl⟩ := h
    simp at e
  | .val d :: rl, vs, ds, 0, xs, h, e => by
    obtain ⟨v, vr, dr, rfl, rfl, r, f, _⟩ := h
    simp at e
    subst e
    obtain ⟨a, us, rfl, _⟩ := r
    exact .inr ⟨a, rfl, rfl, (f rfl).1 a rfl⟩
  | .ref i :: rl, vs, ds, 0, xs, h, e => by
    obtain ⟨v, vr, xs', dr, rfl, rfl, s, g, _⟩ := h
    simp at e
    subst e
    exact .inl ⟨i, v, rfl, rfl, s, g⟩
  | .val d :: rl, vs, ds, j + 1, xs, h, e => by
    obtain ⟨v, vr, dr, rfl, rfl, _, _, t⟩ := h
    simpa using Tri.arg t (by simpa using e)
  | .ref i :: rl, vs, ds, j + 1, xs, h, e => by
    obtain ⟨v, vr, xs', dr, rfl, rfl, _, _, t⟩ := h
    simpa using Tri.arg t (by simpa using e)
theorem noRef_at {i : Nat} : ∀ {rl : List RV} {j l : Nat}, noRef i rl = true → rl[j]? = some (.ref l) → i ≠ l
  | [], j, l, _, e => by simp at e
  | .ref m :: rl, 0, l, h, e => by
    simp at e
    subst e
    simp only [noRef, Bool.and_eq_true, Bool.not_eq_true', beq_eq_false_iff_ne] at h
    exact h.1
  | .val d :: rl, 0, l, h, e => by simp at e
  | .ref m :: rl, j + 1, l, h, e => by
    simp only [noRef, Bool.and_eq_true] at h
    exact noRef_at h.2 (by simpa using e)
  | .val d :: rl, j + 1, l, h, e => noRef_at (rl := rl) (by simpa only [noRef] using h) (by simpa using e)
theorem Tri.apart (R0 : ∀ b, LA σ env b → H b ≠ none) (R : Rep K np He σ H' env) : ∀ {rl : List RV} {vs : List V} {ds : List D}, Tri K σ H H' env rl vs ds → okR rl = true → apA ds vs
  | [], vs, ds, h, _ => by
    obtain ⟨rfl, rfl⟩ := h
    trivial
  | .val d :: rl, vs, ds, h, ok => by
    obtain ⟨v, vr, dr, rfl, rfl, r, f, t⟩ := h
    have ih := Tri.apart R0 R t (by simpa only [okR] using ok)
    cases d with
    | lst xs =>
      refine ⟨fun j ys e q => ?_, ih⟩
      obtain ⟨a, us, rfl, _⟩ := r
      rcases t.arg e with ⟨i, v, e1, e2, e3, e4⟩ | ⟨a', e1, e2, e3⟩
      · rw [q] at e2
        cases e2
        exact R0 a ⟨i, ys, e4, e3⟩ ((f rfl).1 a rfl)
      · exact (f rfl).2 j ys e1 q
    | _ => exact ih
  | .ref i :: rl, vs, ds, h, ok => by
    obtain ⟨v, vr, xs, dr, rfl, rfl, s, g, t⟩ := h
    simp only [okR, Bool.and_eq_true] at ok
    have ih := Tri.apart R0 R t ok.2
    refine ⟨fun j ys e q => ?_, ih⟩
    obtain ⟨u, e5, a, us, rfl, _⟩ := R.val i _ g
    rw [s] at e5
    have ev : v = .ref a := by simpa using e5
    subst ev
    rcases t.arg e with ⟨l, v, e1, e2, e3, e4⟩ | ⟨a', e1, e2, e3⟩
    · rw [q] at e2
      cases e2
      exact noRef_at ok.1 e1 (R.apart i l xs ys a g e4 s e3)
    · rw [q] at e2
      cases e2
      exact R0 a ⟨i, xs, g, s⟩ e3
theorem upA_at : ∀ {rl : List RV} {vs : List V} {ds : List D} {ds' : List D} {env0 : DEnv} (j : Nat), Tri K σ H H' env rl vs ds → okR rl = true → env0.length = env.length → ds'.length = ds.length →
    (∀ (p : Nat) (xs : List D), ds[p]? = some (D.lst xs) → ∃ ys, ds'[p]? = some (D.lst ys)) →
    (∃ (p : Nat) (ys : List D) (v : V), rl[p]? = some (RV.ref j) ∧ ds'[p]? = some (D.lst ys) ∧ vs[p]? = some v ∧ σ[j]? = some (some v) ∧ (∃ xs, ds[p]? = some (D.lst xs) ∧ env[j]? = some (some (D.lst xs))) ∧ (upA rl ds' env0)[j]? = some (some (D.lst ys))) ∨ ((∀ (p : Nat), rl[p]? ≠ some (RV.ref j)) ∧ (upA rl ds' env0)[j]? = env0[j]?)
  | [], vs, ds, ds', env0, j, h, _, _, _, _ => .inr ⟨fun p => by simp, by unfold upA; rfl⟩
  | .val d :: rl, vs, ds, ds', env0, j, h, ok, hl, hd, hq => by
    obtain ⟨v, vr, dr, rfl, rfl, r, f, t⟩ := h
    cases ds' with
    | nil => simp at hd
    | cons d' ds' =>
      have ih := upA_at (ds' := ds') j t (by simpa only [okR] using ok) hl (by simpa using hd) (fun p xs e => by simpa using hq (p + 1) xs (by simpa using e))
      have eu : upA (.val d :: rl) (d' :: ds') env0 = upA rl ds' env0 := by
        cases d' <;> rfl
      rw [eu]
      rcases ih with ⟨p, ys, v', i1, i2, i3, i4, ⟨xs, i5, i6⟩, i7⟩ | ⟨i1, i2⟩
      · exact .inl ⟨p + 1, ys, v', by simpa using i1, by simpa using i2, by simpa using i3, i4, ⟨xs, by simpa using i5, i6⟩, i7⟩
      · refine .inr ⟨fun p => ?_, i2⟩
        cases p with
        | zero => simp
        | succ p => simpa using i1 p
  | .ref i :: rl, vs, ds, ds', env0, j, h, ok, hl, hd, hq => by
    obtain ⟨v, vr, xs, dr, rfl, rfl, s, g, t⟩ := h
    cases ds' with
    | nil => simp at hd
    | cons d' ds' =>
      obtain ⟨ys0, e0⟩ := hq 0 xs rfl
      simp at e0
      subst e0
      simp only [okR, Bool.and_eq_true] at ok
      have hi : i < env0.length := by rw [hl]; exact (List.getElem?_eq_some_iff.mp g).1
      have ih := upA_at (ds' := ds') (env0 := env0.set i (some (D.lst ys0))) j t ok.2 (by rw [List.length_set]; exact hl) (by simpa using hd) (fun p xs e => by simpa using hq (p + 1) xs (by simpa using e))
      show _ ∨ (_ ∧ (upA rl ds' (env0.set i (some (D.lst ys0))))[j]? = _)
      rcases ih with ⟨p, ys, v', i1, i2, i3, i4, ⟨xs', i5, i6⟩, i7⟩ | ⟨i1, i2⟩
      · exact .inl ⟨p + 1, ys, v', by simpa using i1, by simpa using i2, by simpa using i3, i4, ⟨xs', by simpa using i5, i6⟩, i7⟩
      · by_cases hj : i = j
        · subst hj
          exact .inl ⟨0, ys0, v, rfl, rfl, rfl, s, ⟨xs, rfl, g⟩, by show (upA rl ds' (env0.set i (some (D.lst ys0))))[i]? = _; rw [i2, List.getElem?_set_self hi]⟩
        · refine .inr ⟨fun p => ?_, by rw [i2, List.getElem?_set_ne hj]⟩
          cases p with
          | zero => simpa using fun z => hj z
          | succ p => simpa using i1 p
end
/-- behind a call -/
theorem SE.called {K : PySem.W.Frag} {σ : L2.St} {H H1 H' : Hp} {env e1 : DEnv} {rl : List RV} {vs : List V} {ds ds' : List D} (R : Rep K np He σ H env) (s1 : SE K np He σ H env H1 e1) (t : Tri K σ H H1 e1 rl vs ds) (ok : okR rl = true) (A : After K H1 H' ds ds' vs) :
    SE K np He σ H env H' (upA rl ds' e1) := by
  have la0 : ∀ b, LA σ env b → H b ≠ none := fun b z => by
    obtain ⟨us, e⟩ := R.la z
    rw [e]
    exact fun q => nomatch q
  have la1 : ∀ b, LA σ e1 b → H b ≠ none := fun b z => la0 b (s1.la.mp z)
  have argla : ∀ (i : Nat) (xs : List D) (b : Addr), ds[i]? = some (.lst xs) → vs[i]? = some (.ref b) → LA σ e1 b ∨ H b = none := fun i xs b e q => by
    rcases t.arg e with ⟨l, v, a1, a2, a3, a4⟩ | ⟨a', a1, a2, a3⟩
    · rw [q] at a2
      cases a2
      exact .inl ⟨l, xs, a4, a3⟩
    · rw [q] at a2
      cases a2
      exact .inr a3
  have hq : ∀ (p : Nat) (xs : List D), ds[p]? = some (D.lst xs) → ∃ ys, ds'[p]? = some (D.lst ys) := fun p xs e => by
    rcases t.arg e with ⟨l, v, a1, a2, a3, a4⟩ | ⟨a', a1, a2, a3⟩
    · obtain ⟨ys, q, _⟩ := A.lst p xs v e a2
      exact ⟨ys, q⟩
    · obtain ⟨ys, q, _⟩ := A.lst p xs _ e a2
      exact ⟨ys, q⟩
  have at_ := fun j => upA_at (env0 := e1) (ds' := ds') j t ok rfl A.len hq
  have kp1 : Kp H1 H' := fun b o e n => A.keep b o e fun i xs ed ev => by
    have hv : ∃ us, H1 b = some (.lst us) := by
      rcases t.arg ed with ⟨l, v, a1, a2, a3, a4⟩ | ⟨a', a1, a2, a3⟩
      · rw [ev] at a2
        cases a2
        exact s1.rep.la ⟨l, xs, a4, a3⟩
      · have rp : ∀ {rl : List RV} {vs : List V} {ds : List D} {i : Nat} {d : D} {v : V}, Tri K σ H H1 e1 rl vs ds → rl[i]? = some (.val d) → vs[i]? = some v → RpV K H1 d v := by
          intro rl
          induction rl with
          | nil => intro vs ds i d v _ e _; simp at e
          | cons r rl ih =>
            intro vs ds i d v t e ev
            cases r with
            | val d' =>
              obtain ⟨v', vr, dr, rfl, rfl, r, _, t⟩ := t
              cases i with
              | zero => simp at e ev; subst e ev; exact r
              | succ i => exact ih t (by simpa using e) (by simpa using ev)
            | ref m =>
              obtain ⟨v', vr, xs, dr, rfl, rfl, _, _, t⟩ := t
              cases i with
              | zero => simp at e
              | succ i => exact ih t (by simpa using e) (by simpa using ev)
        obtain ⟨c, us, ec, e3, _⟩ := rp t a1 ev
        cases ec
        exact ⟨us, e3⟩
    obtain ⟨us, e3⟩ := hv
    rw [e] at e3
    exact n us (Option.some.inj e3)
  have islst : ∀ (j : Nat) (ys : List D), (upA rl ds' e1)[j]? = some (some (D.lst ys)) → ∃ xs, e1[j]? = some (some (D.lst xs)) := fun j ys e => by
    rcases at_ j with ⟨p, zs, v, _, _, _, _, ⟨xs, _, i6⟩, _⟩ | ⟨_, i2⟩
    · exact ⟨xs, i6⟩
    · exact ⟨ys, i2 ▸ e⟩
  have lenU : ∀ (rl : List RV) (ds' : List D) (e : DEnv), (upA rl ds' e).length = e.length := by
    intro rl
    induction rl with
    | nil => intro ds' e; cases ds' <;> rfl
    | cons r rl ih =>
      intro ds' e
      cases ds' with
      | nil => cases r <;> rfl
      | cons d ds' =>
        cases r with
        | val d' => cases d <;> exact ih _ _
        | ref i =>
          cases d with
          | lst ys =>
            show (upA rl ds' (e.set i (some (.lst ys)))).length = _
            rw [ih, List.length_set]
          | _ => exact ih _ _
  refine ⟨⟨by rw [lenU]; exact s1.rep.len, fun j d e => ?_, fun i j xs ys a e2 e3 g2 g3 => ?_, fun i xs a hi e2 g2 => ?_, fun b n => s1.rep.dom b (A.dom b n)⟩, fun j => ?_, fun b o e n => ?_, fun b n => s1.dom b (A.dom b n)⟩
  · rcases at_ j with ⟨p, ys, v, i1, i2, i3, i4, ⟨xs, i5, i6⟩, i7⟩ | ⟨i1, i2⟩
    · rw [i7] at e
      cases e
      obtain ⟨ys', q1, q2⟩ := A.lst p xs v i5 i3
      rw [i2] at q1
      cases q1
      exact ⟨v, i4, q2⟩
    · rw [i2] at e
      obtain ⟨v, e2, rv⟩ := s1.rep.val j d e
      refine ⟨v, e2, ?_⟩
      cases d with
      | lst zs =>
        refine rv.kpl kp1 fun c o ec eo => ?_
        subst ec
        refine A.keep c o eo fun i xs ed ev => ?_
        rcases t.arg ed with ⟨l, v, a1, a2, a3, a4⟩ | ⟨a', a1, a2, a3⟩
        · rw [ev] at a2
          cases a2
          have := s1.rep.apart j l zs xs c e a4 e2 a3
          subst this
          exact i1 i a1
        · rw [ev] at a2
          cases a2
          exact la1 c ⟨j, zs, e, e2⟩ a3
      | _ => exact rv.kp kp1 rfl
  · obtain ⟨x1, q1⟩ := islst i xs e2
    obtain ⟨x2, q2⟩ := islst j ys e3
    exact s1.rep.apart i j x1 x2 a q1 q2 g2 g3
  · obtain ⟨x1, q1⟩ := islst i xs e2
    exact s1.rep.own i x1 a hi q1 g2
  · have sh : (upA rl ds' e1)[j]? = e1[j]? ∨ ∃ (xs ys : List D), e1[j]? = some (some (D.lst xs)) ∧ (upA rl ds' e1)[j]? = some (some (D.lst ys)) := by
      rcases at_ j with ⟨p, ys, v, i1, i2, i3, i4, ⟨xs, i5, i6⟩, i7⟩ | ⟨i1, i2⟩
      · exact .inr ⟨xs, ys, i6, i7⟩
      · exact .inl i2
    rcases sh with h | ⟨ys, zs, h1, h2⟩
    · rcases s1.shape j with g | ⟨us, ws, g1, g2⟩
      · exact .inl (h.trans g)
      · exact .inr ⟨us, ws, g1, h.trans g2⟩
    · rcases s1.shape j with g | ⟨us, ws, g1, g2⟩
      · exact .inr ⟨ys, zs, g ▸ h1, h2⟩
      · exact .inr ⟨us, zs, g1, h2⟩
  · refine A.keep b o (s1.keep b o e n) fun i xs ed ev => ?_
    rcases argla i xs b ed ev with z | z
    · exact n (s1.la.mp z)
    · rw [e] at z
      cases z
theorem Tri.len {K : PySem.W.Frag} {σ : L2.St} {H H' : Hp} {env : DEnv} : ∀ {rl : List RV} {vs : List V} {ds : List D}, Tri K σ H H' env rl vs ds → rl.length = vs.length
  | [], vs, ds, h => by rw [h.1]; rfl
  | .val d :: rl, vs, ds, h => by
    obtain ⟨v, vr, dr, rfl, rfl, _, _, t⟩ := h
    simp only [List.length_cons, Tri.len t]
  | .ref i :: rl, vs, ds, h => by
    obtain ⟨v, vr, xs, dr, rfl, rfl, _, _, t⟩ := h
    simp only [List.length_cons, Tri.len t]
def cCallN (n : Nat) (sp : FSpec) (ws : WA) : W := fun env Q => ws env fun rl e1 => rl.length = n ∧ rsl e1 rl fun ds => okR rl = true ∧ sp.pre ds ∧ ∀ r ds', sp.post ds r ds' → Q (.val r) (upA rl ds' e1)
theorem e_call {sp : FSpec} {k n : Nat} {ps : List Str} {x : Str} {p : Pos} (F : FnD X.prog X.w X.K X.mg X.base k x ps sp) (hr : Room k X.A) (ha : DA X np He (a :: es) ws) (hn : ps.length = n := by rfl) (hg : Gl X x := by rfl) (hdb : (x == ("__debug__" : Str)) = false := by decide)
    (he : starEach (a :: es) X.env = (false, eval a X.env) :: starEach es X.env := by rfl) (hpl : (backTo pos (starEach es X.env)).any (·.1) = false := by rfl) :
    DE X np He (.Call (.Name x p) (a :: es) [] pos) (cCallN n sp ws) := by
  subst hn
  obtain ⟨f, fd, F, hm, hk, hb⟩ := F.ex
  refine PE.weak (pe_call F hr hg hm hk hb .nil pass0 ha hdb he hpl) fun σ H Q ⟨env, Q0, R, w, q⟩ => ⟨env, _, R, w, fun rl e1 vs H1 w1 s1 r1 => ?_⟩
  obtain ⟨hn, w1⟩ := w1
  obtain ⟨ds, t, hd, ok, pre, w1⟩ := tri_of s1.rep r1 w1
  have la1 : ∀ b, LA σ e1 b → H b ≠ none := fun b z => by
    obtain ⟨us, e⟩ := R.la (s1.la.mp z)
    rw [e]
    exact fun q => nomatch q
  rw [List.append_nil]
  refine ⟨ds, by rw [← t.len]; exact hn, hd, t.apart la1 s1.rep ok, pre, fun r ds' v H' po A rv fr => ?_⟩
  exact q _ _ v H' (w1 r ds' po) (.called R s1 t ok A) ⟨rv, fun n c e => s1.dom c (fr n c e)⟩
end
end DL

namespace DL
open PySem PySem.Spec PyProof.Rows L2

/-! ### a statement's step -/
structure SS (K : PySem.W.Frag) (np : Nat) (He : Hp) (pr : List Nat) (σ : L2.St) (H : Hp) (env : DEnv) (σ' : L2.St) (H' : Hp) (env' : DEnv) : Prop where
  rep : Rep K np He σ' H' env'
  keep : ∀ b o, H b = some o → ¬ LA σ env b → H' b = some o ∧ ¬ LA σ' env' b
  par : ∀ (i : Nat) (xs : List D), i ∈ pr → env[i]? = some (some (D.lst xs)) → σ'[i]? = σ[i]? ∧ ∃ (ys : List D), env'[i]? = some (some (D.lst ys))
  dom : ∀ b, H' b = none → H b = none
  len : env'.length = env.length
section
variable {K : PySem.W.Frag} {np : Nat} {He : Hp} {pr pr' : List Nat} {σ σ' σ'' : L2.St} {H H' H'' : Hp} {env env' env'' : DEnv}
theorem SS.refl (R : Rep K np He σ H env) : SS K np He pr σ H env σ H env := ⟨R, fun _ _ h n => ⟨h, n⟩, fun _ xs _ e => ⟨rfl, xs, e⟩, fun _ h => h, rfl⟩
theorem SS.trans (a : SS K np He pr σ H env σ' H' env') (b : SS K np He pr σ' H' env' σ'' H'' env'') : SS K np He pr σ H env σ'' H'' env'' where
  rep := b.rep
  keep := fun c o h n => let ⟨h1, n1⟩ := a.keep c o h n; b.keep c o h1 n1
  par := fun i xs hi e => by
    obtain ⟨e1, ys, e2⟩ := a.par i xs hi e
    obtain ⟨e3, zs, e4⟩ := b.par i ys hi e2
    exact ⟨e3.trans e1, zs, e4⟩
  dom := fun c h => a.dom c (b.dom c h)
  len := b.len.trans a.len
theorem SE.ss (s : SE K np He σ H env H' env') (R : Rep K np He σ H env) : SS K np He pr σ H env σ H' env' where
  rep := s.rep
  keep := fun b o h n => ⟨s.keep b o h n, fun z => n (s.la.mp z)⟩
  par := fun i xs _ e => ⟨rfl, by
    rcases s.shape i with h | ⟨us, ws, g1, g2⟩
    · exact ⟨xs, h.trans e⟩
    · exact ⟨ws, g2⟩⟩
  dom := s.dom
  len := by rw [← s.rep.len, R.len]
theorem SS.sub (h : ∀ i ∈ pr, i ∈ pr') (s : SS K np He pr' σ H env σ' H' env') : SS K np He pr σ H env σ' H' env' := ⟨s.rep, s.keep, fun i xs hi e => s.par i xs (h i hi) e, s.dom, s.len⟩
theorem SS.kp (R : Rep K np He σ H env) (s : SS K np He pr σ H env σ' H' env') : Kp H H' := fun b o h n => (s.keep b o h fun z => by
  obtain ⟨vs, e⟩ := R.la z
  rw [h] at e
  exact n vs (Option.some.inj e)).1

/-! ### a value is stored -/
def isLo : Option D → Bool
  | some (.lst _) => true
  | _ => false
def stOk (np : Nat) (pr : List Nat) (env : DEnv) (i : Nat) (d : D) : Bool := match env[i]? with
  | none => false
  | some old => (!isL d || decide (np ≤ i)) && (!(pr.contains i) || !isLo old)
theorem SS.put {i : Nat} {d : D} {v : V} {H1 : Hp} {e1 : DEnv} (R : Rep K np He σ H env) (s : SE K np He σ H env H1 e1) (ok : stOk np pr e1 i d = true) (r : RpV K H1 d v) (fr : isL d = true → ∀ a, v = .ref a → H a = none) :
    SS K np He pr σ H env (σ.set i (some v)) H1 (e1.set i (some d)) := by
  have nla : isL d = true → ∀ a, v = .ref a → ¬ LA σ e1 a := fun n a e z => by
    obtain ⟨us, q⟩ := R.la (s.la.mp z)
    rw [fr n a e] at q
    cases q
  have R1 := s.rep
  have st := SE.ss (pr := pr) s R
  unfold stOk at ok
  split at ok
  · cases ok
  · rename_i old e
    have hi : i < e1.length := (List.getElem?_eq_some_iff.mp e).1
    have his : i < σ.length := by rw [R1.len]; exact hi
    simp only [Bool.and_eq_true, Bool.or_eq_true, Bool.not_eq_true', decide_eq_true_eq, List.contains_eq_mem, decide_eq_false_iff_not] at ok
    have isl : ∀ (j : Nat) (xs : List D), (e1.set i (some d))[j]? = some (some (D.lst xs)) → (j = i ∧ d = .lst xs) ∨ (j ≠ i ∧ e1[j]? = some (some (D.lst xs))) := fun j xs e => by
      by_cases hj : i = j
      · subst hj
        rw [List.getElem?_set_self hi] at e
        exact .inl ⟨rfl, by simpa using e⟩
      · rw [List.getElem?_set_ne hj] at e
        exact .inr ⟨fun z => hj z.symm, e⟩
    have σset : ∀ (j : Nat), j ≠ i → (σ.set i (some v))[j]? = σ[j]? := fun j hj => List.getElem?_set_ne fun z => hj z.symm
    have σself : (σ.set i (some v))[i]? = some (some v) := List.getElem?_set_self his
    refine ⟨⟨by rw [List.length_set, List.length_set]; exact R1.len, fun j d' e' => ?_, fun j l xs ys a e1' e2 s1 s2 => ?_, fun j xs a hj e' s' => ?_, R1.dom⟩, fun b o h n => ⟨s.keep b o h n, ?_⟩, fun j xs hj e' => ?_, s.dom, by rw [List.length_set]; exact st.len⟩
    · by_cases hj : i = j
      · subst hj
        rw [List.getElem?_set_self hi] at e'
        cases e'
        exact ⟨v, σself, r⟩
      · rw [List.getElem?_set_ne hj] at e'
        obtain ⟨u, e1, ru⟩ := R1.val j d' e'
        exact ⟨u, (List.getElem?_set_ne hj).trans e1, ru⟩
    · rcases isl j xs e1' with ⟨q1, q2⟩ | ⟨n1, q1⟩
      · rcases isl l ys e2 with ⟨q3, _⟩ | ⟨n2, q3⟩
        · exact q1.trans q3.symm
        · rw [q1, σself] at s1
          rw [σset l n2] at s2
          have ev : v = .ref a := by simpa using s1
          exact absurd ⟨l, ys, q3, s2⟩ (nla (by rw [q2]; rfl) a ev)
      · rw [σset j n1] at s1
        rcases isl l ys e2 with ⟨q3, q4⟩ | ⟨n2, q3⟩
        · rw [q3, σself] at s2
          have ev : v = .ref a := by simpa using s2
          exact absurd ⟨j, xs, q1, s1⟩ (nla (by rw [q4]; rfl) a ev)
        · rw [σset l n2] at s2
          exact R1.apart j l xs ys a q1 q3 s1 s2
    · rcases isl j xs e' with ⟨q1, q2⟩ | ⟨n1, q1⟩
      · rw [q1, σself] at s'
        have ev : v = .ref a := by simpa using s'
        exact R.dom a (fr (by rw [q2]; rfl) a ev)
      · rw [σset j n1] at s'
        exact R1.own j xs a hj q1 s'
    · rintro ⟨j, xs, q0, s1⟩
      rcases isl j xs q0 with ⟨q1, q2⟩ | ⟨n1, q1⟩
      · rw [q1, σself] at s1
        have ev : v = .ref b := by simpa using s1
        have z := fr (by rw [q2]; rfl) b ev
        rw [h] at z
        cases z
      · rw [σset j n1] at s1
        exact n (s.la.mp ⟨j, xs, q1, s1⟩)
    · obtain ⟨_, ys, e2⟩ := st.par j xs hj e'
      by_cases hji : j = i
      · rw [hji, e] at e2
        cases e2
        rcases ok.2 with z | z
        · rw [hji] at hj
          exact absurd hj z
        · simp [isLo] at z
      · exact ⟨σset j hji, ys, (List.getElem?_set_ne fun z => hji z.symm).trans e2⟩
end

/-! ### targets -/
abbrev G := D → DEnv → (DEnv → Prop) → Prop
abbrev Gs := List D → DEnv → (DEnv → Prop) → Prop
/-- slots outside sl stay -/
def Out (sl : List Nat) (σ σ' : L2.St) (env env' : DEnv) : Prop := ∀ j, j ∉ sl → σ'[j]? = σ[j]? ∧ env'[j]? = env[j]?
def rG (K : PySem.W.Frag) (np : Nat) (He : Hp) (pr sl : List Nat) (g : G) : TG := fun v σ H Q => ∃ env d Q0, Rep K np He σ H env ∧ RpI K H d v ∧ g d env Q0 ∧ ∀ env' σ', Q0 env' → SS K np He pr σ H env σ' H env' → Out sl σ σ' env env' → Q σ' H
def rGs (K : PySem.W.Frag) (np : Nat) (He : Hp) (pr sl : List Nat) (g : Gs) : TGs := fun vs σ H Q => ∃ env ds Q0, Rep K np He σ H env ∧ RpIs K H ds vs ∧ g ds env Q0 ∧ ∀ env' σ', Q0 env' → SS K np He pr σ H env σ' H env' → Out sl σ σ' env env' → Q σ' H
theorem PG.weak {X : Cx} {e : Expr} {t t' : TG} (h : PG X e t) (i : ∀ v σ H Q, t' v σ H Q → t v σ H Q) : PG X e t' := ⟨fun pins s σ H v u Q I r q => h.run pins s σ H v u Q I r (i v σ H Q q)⟩
theorem PGs.weak {X : Cx} {e : List Expr} {t t' : TGs} (h : PGs X e t) (i : ∀ v σ H Q, t' v σ H Q → t v σ H Q) : PGs X e t' := ⟨fun pins s σ H v u Q I r q => h.run pins s σ H v u Q I r (i v σ H Q q)⟩
section
variable {X : Cx} {np : Nat} {He : Hp} {pr sl : List Nat} {pos : Pos}
abbrev DG (X : Cx) (np : Nat) (He : Hp) (pr sl : List Nat) (e : Expr) (g : G) : Prop := PG X e (rG X.K np He pr sl g)
abbrev DGs (X : Cx) (np : Nat) (He : Hp) (pr sl : List Nat) (e : List Expr) (g : Gs) : Prop := PGs X e (rGs X.K np He pr sl g)
def gN (np : Nat) (pr : List Nat) (i : Nat) : G := fun d env k => stOk np pr env i d = true ∧ k (env.set i (some d))
theorem RpI.immL {K : PySem.W.Frag} {H : Hp} {d : D} {v : V} (h : RpI K H d v) : isL d = false := by
  cases d <;> first | rfl | (simp only [RpI] at h)
theorem g_name (i : Nat) {x : Str} (hN : X.N.Nodup) (hsl : i ∈ sl := by decide) (hi : X.N[i]? = some x := by rfl) (hx : Loc X.env.scope x := by first | exact Or.inl rfl | exact Or.inr rfl) (hf : X.fn x = true ∨ X.env.scope.names.lookup x = some .local := by first | exact .inl rfl | exact .inr rfl | assumption) :
    DG X np He pr sl (.Name x pos) (gN np pr i) := by
  refine PG.weak (pg_name hN hi hx hf) fun v σ H Q ⟨env, d, Q0, R, r, ⟨ok, w⟩, q⟩ => ?_
  refine q _ _ w (.put R (.refl R) ok (.of r) fun n => by rw [r.immL] at n; cases n) fun j hj => ?_
  have hji : i ≠ j := fun z => hj (z ▸ hsl)
  exact ⟨List.getElem?_set_ne hji, List.getElem?_set_ne hji⟩
def gNil' : Gs := fun ds env k => match ds with
  | [] => k env
  | _ => False
def gCons' (g : G) (gs : Gs) : Gs := fun ds env k => match ds with
  | d :: r => g d env fun e => gs r e k
  | [] => False
theorem g_nil : DGs X np He pr sl [] gNil' := by
  refine PGs.weak pgs_nil fun vs σ H Q ⟨env, ds, Q0, R, r, w, q⟩ => ?_
  cases ds with
  | nil =>
    simp only [RpIs] at r
    exact ⟨r, q env σ w (.refl R) fun _ _ => ⟨rfl, rfl⟩⟩
  | cons d ds => exact False.elim w
theorem g_cons {e : Expr} {es : List Expr} {g : G} {gs : Gs} (h1 : DG X np He pr sl e g) (h2 : DGs X np He pr sl es gs) (hs : (assignEach (e :: es) X.env).map (·.2) = assign e X.env :: (assignEach es X.env).map (·.2) := by rfl) : DGs X np He pr sl (e :: es) (gCons' g gs) := by
  refine PGs.weak (pgs_cons h1 h2 hs) fun vs σ H Q ⟨env, ds, Q0, R, r, w, q⟩ => ?_
  cases ds with
  | nil => exact False.elim w
  | cons d ds =>
    simp only [RpIs] at r
    obtain ⟨v, vr, rfl, r1, r2⟩ := r
    refine ⟨v, vr, rfl, env, d, _, R, r1, w, fun e1 σ1 w1 s1 o1 => ⟨e1, ds, _, s1.rep, r2, w1, fun e2 σ2 w2 s2 o2 => q e2 σ2 w2 (s1.trans s2) fun j hj => ?_⟩⟩
    exact ⟨(o2 j hj).1.trans (o1 j hj).1, (o2 j hj).2.trans (o1 j hj).2⟩
def gT (n : Nat) (gs : Gs) : G := fun d env k => match d with
  | .tup ds => ds.length = n ∧ gs ds env k
  | _ => False
theorem g_tup {es : List Expr} {k : Nat} {gs : Gs} {n : Nat} (hc : X.calm = true) (h : DGs X np He pr sl es gs)
    (hn : (assignEach es X.env).length = n := by rfl) (hst : (assignEach es X.env).findIdx? (·.1) = none := by rfl) : DG X np He pr sl (.Tuple es k pos) (gT n gs) := by
  refine PG.weak (pg_tup hc h hn hst) fun v σ H Q ⟨env, d, Q0, R, r, w, q⟩ => ?_
  cases d with
  | tup ds =>
    obtain ⟨hl, w⟩ := w
    simp only [RpI] at r
    obtain ⟨a, vs, rfl, s, r⟩ := r
    exact ⟨a, vs, rfl, .of s, by rw [← r.length]; exact hl, env, ds, Q0, R, r, w, q⟩
  | _ => exact False.elim w
end

/-! ### what is walked -/
structure Src where
  xs : List D
  chk : List (Nat × List D)
def chkE : List (Nat × List D) → DEnv → Prop
  | [], _ => True
  | (i, l) :: r, env => env[i]? = some (some (D.lst l)) ∧ chkE r env
abbrev WI := DEnv → (Src → DEnv → Prop) → Prop
/-- all that is neither list nor dict is kept -/
def KpS (H H' : Hp) : Prop := ∀ b o, H b = some o → (∀ xs, o ≠ .lst xs) → (∀ kvs, o ≠ .dT kvs) → (∀ kvs, o ≠ .dK kvs) → H' b = some o
theorem Kp.s {H H' : Hp} (k : Kp H H') : KpS H H' := fun b o h n _ _ => k b o h n
theorem KpS.tup {K : PySem.W.Frag} {H H' : Hp} (k : KpS H H') {a : Addr} {vs : List V} (h : SqT K H a vs) : SqT K H' a vs := by
  rcases h with (h | ⟨o, h⟩) | h
  · exact .inl (.inl (k _ _ h (fun _ e => nomatch e) (fun _ e => nomatch e) fun _ e => nomatch e))
  · exact .inl (.inr ⟨o, k _ _ h (fun _ e => nomatch e) (fun _ e => nomatch e) fun _ e => nomatch e⟩)
  · exact .inr h
theorem KpS.rol {K : PySem.W.Frag} {H H' : Hp} (k : KpS H H') {a : Addr} {vs : List V} (h : SqR K H a vs) : SqR K H' a vs := by
  rcases h with ⟨o, h⟩ | h
  · exact .inl ⟨o, k _ _ h (fun _ e => nomatch e) (fun _ e => nomatch e) fun _ e => nomatch e⟩
  · exact .inr h
mutual
theorem RpI.kps {K : PySem.W.Frag} {H H' : Hp} (k : KpS H H') : ∀ (d : D) (v : V), RpI K H d v → RpI K H' d v
  | .non, v, h => h
  | .bl _, v, h => h
  | .int _, v, h => h
  | .str _, v, h => h
  | .tup ds, v, h => by
    simp only [RpI] at h ⊢
    obtain ⟨a, vs, e, s, r⟩ := h
    exact ⟨a, vs, e, k _ _ s (fun _ z => nomatch z) (fun _ z => nomatch z) (fun _ z => nomatch z), RpIs.kps k ds vs r⟩
  | .tpd ds, v, h => by
    simp only [RpI] at h ⊢
    obtain ⟨a, vs, e, s, r⟩ := h
    refine ⟨a, vs, e, ?_, RpIs.kps k ds vs r⟩
    rcases s with ⟨o, s, d⟩ | s
    · exact .inl ⟨o, k _ _ s (fun _ z => nomatch z) (fun _ z => nomatch z) (fun _ z => nomatch z), d⟩
    · exact .inr s
  | .rod ks ds, v, h => by
    simp only [RpI] at h ⊢
    obtain ⟨a, kvs, e, s, m, r⟩ := h
    obtain ⟨o, s⟩ := s
    exact ⟨a, kvs, e, ⟨o, k _ _ s (fun _ z => nomatch z) (fun _ z => nomatch z) (fun _ z => nomatch z)⟩, m, RpIs.kps k ds _ r⟩
  | .rdk ks ds, v, h => by
    simp only [RpI] at h ⊢
    obtain ⟨a, kvs, e, s, m, r⟩ := h
    obtain ⟨o, s⟩ := s
    exact ⟨a, kvs, e, ⟨o, k _ _ s (fun _ z => nomatch z) (fun _ z => nomatch z) (fun _ z => nomatch z)⟩, m, RpIs.kps k ds _ r⟩
  | .rol ds, v, h => by
    simp only [RpI] at h ⊢
    obtain ⟨a, vs, e, s, r⟩ := h
    exact ⟨a, vs, e, k.rol s, RpIs.kps k ds vs r⟩
  | .obj n ds, v, h => by
    simp only [RpI] at h ⊢
    obtain ⟨a, C, dx, kvs, e, c, s, m, r⟩ := h
    exact ⟨a, C, dx, kvs, e, c, k _ _ s (fun _ z => nomatch z) (fun _ z => nomatch z) (fun _ z => nomatch z), m, RpIs.kps k ds _ r⟩
  | .lst _, v, h => by simp only [RpI] at h
theorem RpIs.kps {K : PySem.W.Frag} {H H' : Hp} (k : KpS H H') : ∀ (ds : List D) (vs : List V), RpIs K H ds vs → RpIs K H' ds vs
  | [], vs, h => by simp only [RpIs] at h ⊢; exact h
  | d :: ds, vs, h => by
    simp only [RpIs] at h ⊢
    obtain ⟨v, r, e, h1, h2⟩ := h
    exact ⟨v, r, e, RpI.kps k d v h1, RpIs.kps k ds r h2⟩
end
structure Stay (K : PySem.W.Frag) (np : Nat) (He : Hp) (σ1 : L2.St) (H H1 : Hp) (e1 : DEnv) (chk : List (Nat × List D)) (H' : Hp) : Prop where
  kp : KpS H1 H'
  keep : ∀ b xs, H b = none → H1 b = some (.lst xs) → ¬ LA σ1 e1 b → H' b = some (.lst xs)
  chk : ∀ p ∈ chk, ∀ a, σ1[p.1]? = some (some (V.ref a)) → ∃ us, H' a = some (.lst us) ∧ RpIs K H' p.2 us
def rI (K : PySem.W.Frag) (np : Nat) (He : Hp) (w : WI) : TI := fun σ H R => ∃ env Q0, Rep K np He σ H env ∧ w env Q0 ∧
  ∀ src e1 H1 J (Gd : Hp → Prop) (Y : Nat → Hp → V → Hp → Prop), Q0 src e1 → SE K np He σ H env H1 e1 → Walk J src.xs.length Gd Y → (∀ p ∈ src.chk, e1[p.1]? = some (some (D.lst p.2))) →
    (∀ i H2 x H3, i < src.xs.length → Y i H2 x H3 → Gd H2 → Ext H2 H3 ∧ ∃ d, src.xs[i]? = some d ∧ RpI K H3 d x) → (∀ H', Stay K np He σ H H1 e1 src.chk H' → Gd H') → R J H1
theorem PI.weak {X : Cx} {tg e : Expr} {t t' : TI} (h : PI X tg e t) (i : ∀ σ H R, t' σ H R → t σ H R) : PI X tg e t' := ⟨fun pins s σ H R I q => h.run pins s σ H R I (i σ H R q)⟩
section
variable {X : Cx} {np : Nat} {He : Hp} {a b c e tg : Expr} {es : List Expr} {wa wb wc : W} {ws : WA} {pos : Pos}
abbrev DI (X : Cx) (np : Nat) (He : Hp) (tg e : Expr) (w : WI) : Prop := PI X tg e (rI X.K np He w)
def iSeq (K : PySem.W.Frag) (tl : TE) : TI := fun σ H R => tl σ H fun x H1 => ∃ a, x = .ref a ∧ (((∃ xs, SqL K H1 a xs) ∧ R (Itl K a) H1) ∨ ((∃ xs, SqT K H1 a xs) ∧ R (Itt K a) H1))
theorem pi_seq {l : Expr} {tl : TE} (hl : PE X l tl) : PI X tg l (iSeq X.K tl) := by
  refine ⟨fun pins s σ H R I h => ?_⟩
  refine thn (hl.run pins s σ H _ I h) fun v s1 ⟨x, H1, I1, r1, q1⟩ => ?_
  obtain ⟨a, e, q⟩ := q1
  subst e
  cases r1
  rcases q with ⟨⟨xs, hq⟩, q⟩ | ⟨⟨xs, hq⟩, q⟩
  · obtain ⟨its, rv, p, hz⟩ := I1.list hq
    refine wpAny_pyIter_list p.isList ?_
    refine ⟨s1.heap.objs.size, [s1.heap.objs.size], _, _, H1, rfl, I1.kept (t' := s1.toks) fun b o e => Heap.get?_push_of_some _ e, turn_list a _, ⟨_, Heap.get?_push_size _ rfl, rfl, rfl⟩, fun b hb => ?_, q⟩
    have e : b = s1.heap.objs.size := by simpa using hb
    subst e
    exact I1.fpOk (Nat.le_refl _) (I1.hok.fresh (Nat.le_refl _))
  · obtain ⟨its, rv, p, hz⟩ := I1.tuple hq
    refine wpAny_pyIter_tuple (show s1.heap.IsTuple a its.toArray from p) ?_
    refine ⟨s1.heap.objs.size, [s1.heap.objs.size], _, _, H1, rfl, I1.kept (t' := s1.toks) fun b o e => Heap.get?_push_of_some _ e, turn_tuple a _, ⟨_, Heap.get?_push_size _ rfl, rfl, rfl⟩, fun b hb => ?_, q⟩
    have e : b = s1.heap.objs.size := by simpa using hb
    subst e
    exact I1.fpOk (Nat.le_refl _) (I1.hok.fresh (Nat.le_refl _))
/-- a list that bears data, read anew at each turn -/
theorem walk_rl {K : PySem.W.Frag} {a : Addr} {ds : List D} : Walk (Itl K a) ds.length (fun H => ∃ vs, SqL K H a vs ∧ RpIs K H ds vs) (fun i H x H' => H' = H ∧ ∃ d, ds[i]? = some d ∧ RpI K H d x) := by
  refine ⟨fun i H hi ⟨vs, s, r⟩ => ?_, fun H ⟨vs, s, r⟩ => ⟨vs, s, by rw [r.length]; exact Nat.le_refl _⟩, fun i H x H' hi ⟨vs, s, r⟩ y => ?_⟩
  · obtain ⟨v, e, _⟩ := r.get (List.getElem?_eq_getElem hi)
    exact ⟨vs, v, s, e⟩
  · obtain ⟨d, e, rd⟩ := r.get' (y.2 vs s)
    exact ⟨y.1, d, e, rd⟩
theorem walk_rt {K : PySem.W.Frag} {a : Addr} {ds : List D} : Walk (Itt K a) ds.length (fun H => ∃ vs, SqT K H a vs ∧ RpIs K H ds vs) (fun i H x H' => H' = H ∧ ∃ d, ds[i]? = some d ∧ RpI K H d x) := by
  refine ⟨fun i H hi ⟨vs, s, r⟩ => ?_, fun H ⟨vs, s, r⟩ => ⟨vs, s, by rw [r.length]; exact Nat.le_refl _⟩, fun i H x H' hi ⟨vs, s, r⟩ y => ?_⟩
  · obtain ⟨v, e, _⟩ := r.get (List.getElem?_eq_getElem hi)
    exact ⟨vs, v, s, e⟩
  · obtain ⟨d, e, rd⟩ := r.get' (y.2 vs s)
    exact ⟨y.1, d, e, rd⟩
/-- a walked thing: a value, or a list in a slot -/
def srcR (e1 : DEnv) (r : RV) (k : List D → List (Nat × List D) → Prop) : Prop := match r with
  | .val (.lst xs) => k xs []
  | .val (.tup xs) => k xs []
  | .val (.rol xs) => k xs []
  | .val (.tpd xs) => k xs []
  | .ref i => getl e1 i fun xs => k xs [(i, xs)]
  | _ => False
/-- where it stands -/
theorem src_at {K : PySem.W.Frag} {σ : L2.St} {H H1 : Hp} {env e1 : DEnv} {v : V} {r : RV} {k : List D → List (Nat × List D) → Prop} (R : Rep K np He σ H env) (s1 : SE K np He σ H env H1 e1) (h : RpR K σ H H1 e1 v r) (g : srcR e1 r k) :
    ∃ ds chk a, k ds chk ∧ v = .ref a ∧ (∀ p ∈ chk, e1[p.1]? = some (some (D.lst p.2))) ∧
      ((∀ H' : Hp, Stay K np He σ H H1 e1 chk H' → ∃ vs, SqL K H' a vs ∧ RpIs K H' ds vs) ∨ (∀ H' : Hp, Stay K np He σ H H1 e1 chk H' → ∃ vs, SqT K H' a vs ∧ RpIs K H' ds vs)) := by
  cases r with
  | ref i =>
    obtain ⟨xs, e, g⟩ := getl_of g
    obtain ⟨hs, _⟩ := h
    obtain ⟨a, us, e2, ha, ra⟩ := s1.rep.lst e
    rw [hs] at e2
    have ev : v = .ref a := by simpa using e2
    refine ⟨xs, [(i, xs)], a, g, ev, fun p hp => ?_, .inl fun H' st => ?_⟩
    · cases (show p = (i, xs) by simpa using hp)
      exact e
    · obtain ⟨us', h1, h2⟩ := st.chk (i, xs) (by simp) a (by rw [hs, ev])
      exact ⟨us', .of h1, h2⟩
  | val d =>
    obtain ⟨h, fr⟩ := h
    cases d with
    | lst xs =>
      obtain ⟨a, us, ev, ha, ra⟩ := h
      refine ⟨xs, [], a, g, ev, fun p hp => absurd hp (by simp), .inl fun H' st => ⟨us, .of (st.keep a _ (fr rfl a ev) ha fun z => ?_), RpIs.kps st.kp xs us ra⟩⟩
      obtain ⟨ws, q⟩ := R.la (s1.la.mp z)
      rw [fr rfl a ev] at q
      cases q
    | tup xs =>
      obtain ⟨a, us, ev, ha, ra⟩ := (show ∃ a vs, v = .ref a ∧ H1 a = some (.tup vs) ∧ RpIs K H1 xs vs by simpa only [RpV, RpI] using h)
      exact ⟨xs, [], a, g, ev, fun p hp => absurd hp (by simp), .inr fun H' st => ⟨us, st.kp.tup (.of ha), RpIs.kps st.kp xs us ra⟩⟩
    | tpd xs =>
      obtain ⟨a, us, ev, ha, ra⟩ := (show ∃ a vs, v = .ref a ∧ TpK K H1 a vs ∧ RpIs K H1 xs vs by simpa only [RpV, RpI] using h)
      exact ⟨xs, [], a, g, ev, fun p hp => absurd hp (by simp), .inr fun H' st => ⟨us, st.kp.tup ha.t, RpIs.kps st.kp xs us ra⟩⟩
    | rol xs =>
      obtain ⟨a, us, ev, ha, ra⟩ := (show ∃ a vs, v = .ref a ∧ SqR K H1 a vs ∧ RpIs K H1 xs vs by simpa only [RpV, RpI] using h)
      exact ⟨xs, [], a, g, ev, fun p hp => absurd hp (by simp), .inl fun H' st => ⟨us, (st.kp.rol ha).seq, RpIs.kps st.kp xs us ra⟩⟩
    | _ => exact False.elim g
theorem Stay.here {K : PySem.W.Frag} {σ : L2.St} {H H1 : Hp} {e1 : DEnv} {chk : List (Nat × List D)} (R : Rep K np He σ H1 e1) (h : ∀ p ∈ chk, e1[p.1]? = some (some (D.lst p.2))) : Stay K np He σ H H1 e1 chk H1 := by
  refine ⟨(Kp.refl _).s, fun _ _ _ h _ => h, fun p hp a ea => ?_⟩
  obtain ⟨a', us, e, ha, ra⟩ := R.lst (h p hp)
  rw [ea] at e
  have : a = a' := by simpa using e
  subst this
  exact ⟨us, ha, ra⟩
def iE (wa : W) : WI := fun env Q => wa env fun r e1 => srcR e1 r fun xs chk => Q ⟨xs, chk⟩ e1
theorem i_seq (ha : DE X np He a wa) : DI X np He tg a (iE wa) := by
  refine PI.weak (pi_seq ha) fun σ H R ⟨env, Q0, Rp, w, q⟩ => ⟨env, _, Rp, w, fun r e1 v H1 w1 s1 r1 => ?_⟩
  obtain ⟨ds, chk, a, k, rfl, hc, hs⟩ := src_at Rp s1 r1 w1
  have here := Stay.here (H := H) s1.rep hc
  refine ⟨a, rfl, ?_⟩
  rcases hs with hs | hs
  · obtain ⟨vs, s, _⟩ := hs H1 here
    refine .inl ⟨⟨vs, s⟩, q ⟨ds, chk⟩ e1 H1 _ _ _ k s1 walk_rl hc (fun i H2 x H3 _ ⟨y1, y2⟩ _ => ?_) hs⟩
    subst y1
    exact ⟨.refl _, y2⟩
  · obtain ⟨vs, s, _⟩ := hs H1 here
    refine .inr ⟨⟨vs, s⟩, q ⟨ds, chk⟩ e1 H1 _ _ _ k s1 walk_rt hc (fun i H2 x H3 _ ⟨y1, y2⟩ _ => ?_) hs⟩
    subst y1
    exact ⟨.refl _, y2⟩
/-- lo, lo + 1, .. -/
def rngD (lo : Int) : Nat → List D
  | 0 => []
  | n + 1 => .int lo :: rngD (lo + 1) n
theorem rngD_len (lo : Int) (n : Nat) : (rngD lo n).length = n := by
  induction n generalizing lo with
  | zero => rfl
  | succ n ih => simp [rngD, ih]
theorem rngD_get (lo : Int) (n i : Nat) (h : i < n) : (rngD lo n)[i]? = some (D.int (lo + i)) := by
  induction n generalizing lo i with
  | zero => omega
  | succ n ih =>
    cases i with
    | zero => simp [rngD]
    | succ i =>
      simp only [rngD, List.getElem?_cons_succ]
      rw [ih (lo + 1) i (by omega)]
      congr 2
      omega
theorem walk_rg {lo : Int} {n : Nat} : Walk (Itr lo n) (rngD lo n).length (fun _ => True) (YFn fun i => .int (lo + i)) := by
  rw [rngD_len]
  exact walk_range
def iR1 (wa : W) : WI := fun env Q => wa env fun r e1 => rs e1 r fun d => isI d fun j => j ≤ 1000000 ∧ -1000000 ≤ j ∧ Q ⟨rngD 0 j.toNat, []⟩ e1
def iR2 (wa wb : W) : WI := fun env Q => wa env fun ra e1 => wb e1 fun rb e2 => rs e2 ra fun x => isI x fun i => rs e2 rb fun y => isI y fun j => -(2 ^ 62) ≤ i ∧ i < 2 ^ 62 ∧ -(2 ^ 62) ≤ j ∧ j < 2 ^ 62 ∧ Q ⟨rngD i (j - i).toNat, []⟩ e2
theorem i_rng1 {p : Pos} (hm : X.mg "range" = none) (ha : DE X np He a wa) (hg : Gl X "range" := by rfl) (hs : starEach [a] X.env = [(false, eval a X.env)] := by rfl) : DI X np He tg (.Call (.Name "range" p) [a] [] pos) (iR1 wa) := by
  refine PI.weak (pi_range1 hg hm (pa_cons ha pa_nil hs) hs) fun σ H R ⟨env, Q0, Rp, w, q⟩ => ⟨env, _, Rp, w, fun r e1 v H1 w1 s1 r1 => ?_⟩
  obtain ⟨d, hd, w1⟩ := r1.rs s1.rep w1
  obtain ⟨j, rfl, h1, h2, w1⟩ := isI_of w1
  cases hd
  refine ⟨j, rfl, by omega, by omega, ?_⟩
  refine q ⟨rngD 0 j.toNat, []⟩ e1 H1 (Itr 0 j.toNat) _ _ w1 s1 walk_rg (fun p hp => absurd hp (by simp)) (fun i H2 x H3 hi y _ => ?_) (fun _ _ => trivial)
  obtain ⟨rfl, rfl⟩ := y
  refine ⟨.refl _, _, rngD_get 0 j.toNat i (by simpa [rngD_len] using hi), ?_⟩
  simp only [RpI]
theorem i_rng2 {p : Pos} (hm : X.mg "range" = none) (ha : DE X np He a wa) (hb : DE X np He b wb) (hg : Gl X "range" := by rfl) (hs : starEach [a, b] X.env = [(false, eval a X.env), (false, eval b X.env)] := by rfl) (hs2 : starEach [b] X.env = [(false, eval b X.env)] := by rfl) : DI X np He tg (.Call (.Name "range" p) [a, b] [] pos) (iR2 wa wb) := by
  refine PI.weak (pi_range2 hg hm (pa_cons ha (pa_cons hb pa_nil hs2) (by rw [hs, hs2])) hs hs2) fun σ H R ⟨env, Q0, Rp, w, q⟩ => ⟨env, _, Rp, w, fun ra e1 v1 H1 w1 s1 r1 => ⟨e1, _, s1.rep, w1, fun rb e2 v2 H2 w2 s2 r2 => ?_⟩⟩
  have s12 := s1.trans s2
  obtain ⟨x, hx, w2⟩ := (r1.keep Rp s1 s2).rs s2.rep w2
  obtain ⟨i, rfl, w2⟩ := isI_of w2
  obtain ⟨y, hy, w2⟩ := r2.rs s2.rep w2
  obtain ⟨j, rfl, h1, h2, h3, h4, w2⟩ := isI_of w2
  cases hx; cases hy
  refine ⟨i, j, rfl, ⟨h1, h2, h3, h4⟩, ?_⟩
  refine q ⟨rngD i (j - i).toNat, []⟩ e2 H2 (Itr i (j - i).toNat) _ _ w2 s12 walk_rg (fun p hp => absurd hp (by simp)) (fun l H3 x H4 hl y _ => ?_) (fun _ _ => trivial)
  obtain ⟨rfl, rfl⟩ := y
  refine ⟨.refl _, _, rngD_get i (j - i).toNat l (by simpa [rngD_len] using hl), ?_⟩
  simp only [RpI]
/-- zip of two lists -/
def zipD : List D → List D → List D
  | x :: xs, y :: ys => .tup [x, y] :: zipD xs ys
  | _, _ => []
theorem zipD_len : ∀ (xs ys : List D), (zipD xs ys).length = min xs.length ys.length
  | [], ys => by simp [zipD]
  | x :: xs, [] => by simp [zipD]
  | x :: xs, y :: ys => by simp only [zipD, List.length_cons, zipD_len xs ys]; omega
theorem zipD_get : ∀ (xs ys : List D) (i : Nat) (x y : D), xs[i]? = some x → ys[i]? = some y → (zipD xs ys)[i]? = some (D.tup [x, y])
  | [], ys, i, x, y, h, _ => by simp at h
  | x0 :: xs, [], i, x, y, _, h => by simp at h
  | x0 :: xs, y0 :: ys, 0, x, y, h, g => by simp at h g; subst h g; simp [zipD]
  | x0 :: xs, y0 :: ys, i + 1, x, y, h, g => by
    simp only [zipD, List.getElem?_cons_succ]
    exact zipD_get xs ys i x y (by simpa using h) (by simpa using g)
theorem Stay.sub {K : PySem.W.Frag} {σ : L2.St} {H H1 H' : Hp} {e1 : DEnv} {c c' : List (Nat × List D)} (h : ∀ p ∈ c, p ∈ c') (s : Stay K np He σ H H1 e1 c' H') : Stay K np He σ H H1 e1 c H' := ⟨s.kp, s.keep, fun p hp => s.chk p (h p hp)⟩
end
end DL

namespace DL
open PySem PySem.Spec PyProof.Rows L2

/-! ### comprehensions -/
def wipeE (env : DEnv) : List Nat → DEnv
  | [] => env
  | v :: vs => (wipeE env vs).set v none
def back (env env0 : DEnv) : List Nat → DEnv
  | [] => env
  | v :: vs => (back env env0 vs).set v ((env0[v]?).getD none)
def noLs (env : DEnv) : List Nat → Bool
  | [] => true
  | v :: vs => !isLo ((env[v]?).getD none) && noLs env vs
section
variable {K : PySem.W.Frag} {np : Nat} {He : Hp} {σ σ' σ'' : L2.St} {H H' H'' : Hp} {env env' env'' : DEnv}
theorem wipeE_len (env : DEnv) : ∀ vs : List Nat, (wipeE env vs).length = env.length
  | [] => rfl
  | v :: vs => by unfold wipeE; rw [List.length_set, wipeE_len env vs]
theorem wipeE_out {i : Nat} : ∀ {vs : List Nat}, i ∉ vs → (wipeE env vs)[i]? = env[i]?
  | [], _ => rfl
  | v :: vs, h => by
    have h1 : v ≠ i := fun e => h (by rw [e]; exact List.mem_cons_self)
    have h2 : i ∉ vs := fun m => h (List.mem_cons_of_mem _ m)
    unfold wipeE
    rw [List.getElem?_set_ne h1]
    exact wipeE_out h2
theorem wipeE_some {i : Nat} {d : D} : ∀ {vs : List Nat}, (wipeE env vs)[i]? = some (some d) → env[i]? = some (some d) ∧ i ∉ vs
  | [], h => ⟨h, by simp⟩
  | v :: vs, h => by
    unfold wipeE at h
    by_cases hi : v = i
    · subst hi
      by_cases hv : v < (wipeE env vs).length
      · rw [List.getElem?_set_self hv] at h; cases h
      · rw [List.getElem?_eq_none (by simpa using hv)] at h; cases h
    · rw [List.getElem?_set_ne hi] at h
      obtain ⟨h1, h2⟩ := wipeE_some h
      exact ⟨h1, by simp only [List.mem_cons, not_or]; exact ⟨fun e => hi e.symm, h2⟩⟩
theorem back_len (env env0 : DEnv) : ∀ vs : List Nat, (back env env0 vs).length = env.length
  | [] => rfl
  | v :: vs => by unfold back; rw [List.length_set, back_len env env0 vs]
theorem back_out {env0 : DEnv} {i : Nat} : ∀ {vs : List Nat}, i ∉ vs → (back env env0 vs)[i]? = env[i]?
  | [], _ => rfl
  | v :: vs, h => by
    have h1 : v ≠ i := fun e => h (by rw [e]; exact List.mem_cons_self)
    have h2 : i ∉ vs := fun m => h (List.mem_cons_of_mem _ m)
    unfold back
    rw [List.getElem?_set_ne h1]
    exact back_out h2
theorem back_in {env0 : DEnv} {i : Nat} (hl : env.length = env0.length) : ∀ {vs : List Nat}, i ∈ vs → (back env env0 vs)[i]? = env0[i]?
  | [], h => by simp at h
  | v :: vs, h => by
    unfold back
    by_cases hi : v = i
    · subst hi
      by_cases hv : v < env0.length
      · rw [List.getElem?_set_self (by rw [back_len, hl]; exact hv), List.getElem?_eq_getElem hv]; rfl
      · rw [List.getElem?_eq_none (by rw [List.length_set, back_len, hl]; omega), List.getElem?_eq_none (by omega)]
    · rw [List.getElem?_set_ne hi]
      rcases List.mem_cons.mp h with z | z
      · exact absurd z.symm hi
      · exact back_in hl z
theorem noLs_at : ∀ {vs : List Nat} {i : Nat} {xs : List D}, noLs env vs = true → i ∈ vs → env[i]? ≠ some (some (D.lst xs))
  | [], i, xs, _, h => by simp at h
  | v :: vs, i, xs, n, h => by
    simp only [noLs, Bool.and_eq_true, Bool.not_eq_true'] at n
    rcases List.mem_cons.mp h with z | z
    · subst z
      intro e
      rw [e] at n
      simp [isLo] at n
    · exact noLs_at n.2 z
theorem Rep.wipe (R : Rep K np He σ H env) (vs : List Nat) : Rep K np He (wipe σ vs) H (wipeE env vs) where
  len := by rw [wipe_length, wipeE_len]; exact R.len
  val := fun i d e => by
    obtain ⟨e1, hi⟩ := wipeE_some e
    obtain ⟨v, e2, r⟩ := R.val i d e1
    exact ⟨v, (wipe_out hi).trans e2, r⟩
  apart := fun i j xs ys a e1 e2 s1 s2 => R.apart i j xs ys a (wipeE_some e1).1 (wipeE_some e2).1 (wipe_some s1).1 (wipe_some s2).1
  own := fun i xs a hi e s => R.own i xs a hi (wipeE_some e).1 (wipe_some s).1
  dom := R.dom
theorem la_wipe {vs : List Nat} {b : Addr} (h : LA (wipe σ vs) (wipeE env vs) b) : LA σ env b := by
  obtain ⟨i, xs, e, s⟩ := h
  exact ⟨i, xs, (wipeE_some e).1, (wipe_some s).1⟩
/-- the block's steps, seen from outside -/
structure In (K : PySem.W.Frag) (np : Nat) (He : Hp) (vs : List Nat) (σ : L2.St) (H : Hp) (env : DEnv) (H' : Hp) (env' : DEnv) : Prop where
  se : SE K np He (L2.wipe σ vs) H (wipeE env vs) H' env'
theorem SE.back {vs : List Nat} (R : Rep K np He σ H env) (n : noLs env vs = true) (s : SE K np He (L2.wipe σ vs) H (wipeE env vs) H' env') : SE K np He σ H env H' (back env' env vs) := by
  have hl : env'.length = env.length := by
    have h1 := s.rep.len
    rw [wipe_length, R.len] at h1
    exact h1.symm
  have kp : Kp H H' := fun b o h nl => s.keep b o h fun z => by
    obtain ⟨us, e⟩ := R.la (la_wipe z)
    rw [h] at e
    exact nl us (Option.some.inj e)
  have lst : ∀ (i : Nat) (xs : List D), (DL.back env' env vs)[i]? = some (some (D.lst xs)) → i ∉ vs ∧ env'[i]? = some (some (D.lst xs)) := fun i xs e => by
    by_cases hi : i ∈ vs
    · rw [back_in hl hi] at e
      exact absurd e (noLs_at n hi)
    · rw [back_out hi] at e
      exact ⟨hi, e⟩
  refine ⟨⟨by rw [back_len, hl]; exact R.len, fun i d e => ?_, fun i j xs ys a e1 e2 s1 s2 => ?_, fun i xs a hi e s' => ?_, s.rep.dom⟩, fun i => ?_, fun b o h nla => s.keep b o h fun z => nla (la_wipe z), s.dom⟩
  · by_cases hi : i ∈ vs
    · rw [back_in hl hi] at e
      obtain ⟨v, e1, r⟩ := R.val i d e
      refine ⟨v, e1, r.kp kp ?_⟩
      cases d with
      | lst xs => exact absurd e (noLs_at n hi)
      | _ => rfl
    · rw [back_out hi] at e
      obtain ⟨v, e1, r⟩ := s.rep.val i d e
      exact ⟨v, (wipe_some e1).1, r⟩
  · obtain ⟨h1, q1⟩ := lst i xs e1
    obtain ⟨h2, q2⟩ := lst j ys e2
    exact s.rep.apart i j xs ys a q1 q2 ((wipe_out h1).trans s1) ((wipe_out h2).trans s2)
  · obtain ⟨h1, q1⟩ := lst i xs e
    exact s.rep.own i xs a hi q1 ((wipe_out h1).trans s')
  · by_cases hi : i ∈ vs
    · exact .inl (back_in hl hi)
    · rw [back_out hi]
      rcases s.shape i with h | ⟨us, ws, g1, g2⟩
      · rw [wipeE_out hi] at h
        exact .inl h
      · exact .inr ⟨us, ws, (wipeE_some g1).1, g2⟩
theorem wipe_idem {σ2 : L2.St} {vs : List Nat} (hl : σ2.length = σ.length) (h : ∀ j, j ∉ vs → σ2[j]? = σ[j]?) : L2.wipe σ2 vs = L2.wipe σ vs := by
  have ins : ∀ (τ : L2.St) (ws : List Nat) (i : Nat), i ∈ ws → i < τ.length → (L2.wipe τ ws)[i]? = some none := by
    intro τ ws
    induction ws with
    | nil => intro i h; simp at h
    | cons w ws ih =>
      intro i h hi
      unfold L2.wipe
      by_cases hw : w = i
      · subst hw
        exact List.getElem?_set_self (by rw [wipe_length]; exact hi)
      · rw [List.getElem?_set_ne hw]
        rcases List.mem_cons.mp h with z | z
        · exact absurd z.symm hw
        · exact ih i z hi
  apply List.ext_getElem?
  intro i
  by_cases hi : i ∈ vs
  · by_cases hlt : i < σ.length
    · rw [ins _ _ i hi (by omega), ins _ _ i hi hlt]
    · rw [List.getElem?_eq_none (by rw [wipe_length]; omega), List.getElem?_eq_none (by rw [wipe_length]; omega)]
  · rw [wipe_out hi, wipe_out hi]
    exact h i hi
end

def lcGo (g : G) (wt we : W) (own : List Nat) (chk : List (Nat × List D)) (k : List D → DEnv → Prop) : List D → List D → DEnv → Prop
  | [], acc, env => chkE chk env ∧ k acc env
  | x :: xs, acc, env => chkE chk env ∧ g x env fun e2 => wt e2 fun rb e3 => rs e3 rb fun b =>
      ifb b (we e3 fun r e4 => rs e4 r fun y => isL y = false ∧ lcGo g wt we own chk k xs (acc ++ [y]) (wipeE e4 own)) (lcGo g wt we own chk k xs acc (wipeE e3 own))
@[irreducible] def Loop (p : Prop) : Prop := p
theorem Loop.out {p : Prop} (h : Loop p) : p := by unfold Loop at h; exact h
theorem Loop.mk {p : Prop} (h : p) : Loop p := by unfold Loop; exact h
def cLc (own : List Nat) (wi : WI) (g : G) (wt we : W) : W := fun env Q => wi env fun src e1 => noLs e1 own = true ∧ src.xs.length ≤ 1000000 ∧
  Loop (lcGo g wt we own src.chk (fun acc e => Q (.val (.lst acc)) (back e e1 own)) src.xs [] (wipeE e1 own))
theorem chkE_at : ∀ {chk : List (Nat × List D)} {env : DEnv} {p : Nat × List D}, chkE chk env → p ∈ chk → env[p.1]? = some (some (D.lst p.2))
  | [], env, p, _, h => by simp at h
  | (i, l) :: r, env, p, c, h => by
    rcases List.mem_cons.mp h with z | z
    · subst z; exact c.1
    · exact chkE_at c.2 z
section
variable {X : Cx} {np : Nat} {He : Hp} {pos : Pos}
def tTrue : W := cC (.bl true)
theorem PTs.weak {es : List Expr} {t t' : TT} (h : PTs X es t) (i : ∀ σ H Q, t' σ H Q → t σ H Q) : PTs X es t' := ⟨fun pins s σ H Q I q => h.run pins s σ H Q I (i σ H Q q)⟩
theorem ts_nil : PTs X [] (tB (rE X.K np He tTrue)) := DL.PTs.weak pts_nil fun σ H Q ⟨env, Q0, R, w, q⟩ => by
  obtain ⟨c, e, q'⟩ := q _ env (.bl true) H w (.refl R) ⟨rfl, fun n => by simp [isL] at n⟩
  cases e
  exact q'
theorem ts_one {c : Expr} {wc : W} (h : DT X np He c wc) : PTs X [c] (tB (rE X.K np He wc)) := pts_one h
/-- the core: the reading of a comprehension -/
theorem lc_read {K : PySem.W.Frag} {own : List Nat} {wi : WI} {g : G} {wt we : W} : ∀ σ H Q, rE K np He (cLc own wi g wt we) σ H Q → tLc (rI K np He wi) (rG K np He [] own g) (tB (rE K np He wt)) (rE K np He we) own σ H Q := by
  intro σ H Q ⟨env, Q0, R, w, q⟩
  refine ⟨env, _, R, w, fun src e1 H1 J Gd Y w1 s1 wk hc hy hg Dn hD => ?_⟩
  obtain ⟨nl, sz, w1l⟩ := w1
  have w1 := w1l.out
  have R1 := s1.rep
  have R1' : Rep K np He (L2.wipe σ own) H1 (wipeE e1 own) := R1.wipe own
  have hDe : ∀ a, H1 a ≠ none → a ≠ Dn := fun a h z => h (z ▸ hD)
  have DLA : ∀ {e2 : DEnv} {H2 : Hp}, SE K np He (L2.wipe σ own) H1 (wipeE e1 own) H2 e2 → ¬ LA (L2.wipe σ own) e2 Dn := fun s z => by
    obtain ⟨us, e⟩ := R1'.la (s.la.mp z)
    rw [hD] at e
    cases e
  -- a step of the block, with the new list written in it
  have wr : ∀ {H2 : Hp} {e2 : DEnv} {us ws : List V}, SE K np He (L2.wipe σ own) H1 (wipeE e1 own) H2 e2 → (H2 Dn = some (.lst us) ∨ H2 Dn = none) → SE K np He (L2.wipe σ own) H1 (wipeE e1 own) (upd H2 Dn (.lst ws)) e2 := fun {H2 e2 us ws} s hd => by
    have kp : Kp H2 (upd H2 Dn (.lst ws)) := fun b o e n => by
      have hb : b ≠ Dn := fun z => by
        subst z
        rcases hd with z | z
        · rw [z] at e; exact n us (Option.some.inj e).symm
        · rw [z] at e; cases e
      rw [upd_ne hb]
      exact e
    refine ⟨⟨s.rep.len, fun i d e => ?_, s.rep.apart, s.rep.own, fun b n => ?_⟩, s.shape, fun b o h n => ?_, fun b n => ?_⟩
    · obtain ⟨v, ev, r⟩ := s.rep.val i d e
      refine ⟨v, ev, ?_⟩
      cases d with
      | lst zs =>
        refine r.kpl kp fun a o ea eo => ?_
        subst ea
        have : a ≠ Dn := fun z => by
          subst z
          exact DLA s ⟨i, zs, e, ev⟩
        rw [upd_ne this]
        exact eo
      | _ => exact r.kp kp rfl
    · by_cases hb : b = Dn
      · subst hb; rw [upd_same] at n; cases n
      · rw [upd_ne hb] at n; exact s.rep.dom b n
    · have hb : b ≠ Dn := hDe b (by rw [h]; exact fun z => nomatch z)
      rw [upd_ne hb]
      exact s.keep b o h n
    · by_cases hb : b = Dn
      · subst hb; rw [upd_same] at n; cases n
      · rw [upd_ne hb] at n; exact s.dom b n
  let Pv : Nat → Hp → Prop := fun i H2 => ∃ acc us e2, H2 Dn = some (.lst us) ∧ RpIs K H2 acc us ∧ acc.length ≤ i ∧ SE K np He (L2.wipe σ own) H1 (wipeE e1 own) H2 e2 ∧ (∀ j ∈ own, e2[j]? = (wipeE e1 own)[j]?) ∧
    lcGo g wt we own src.chk (fun acc e => Q0 (.val (.lst acc)) (back e e1 own)) (src.xs.drop i) acc e2
  have stay : ∀ {H2 : Hp} {e2 : DEnv}, SE K np He (L2.wipe σ own) H1 (wipeE e1 own) H2 e2 → chkE src.chk e2 → Stay K np He σ H H1 e1 src.chk H2 := fun {H2 e2} s c => by
    refine ⟨(SE.kp R1' s).s, fun b o _ h n => s.keep b _ h fun z => n (la_wipe z), fun p hp a ea => ?_⟩
    have e := chkE_at c hp
    obtain ⟨a', us, e3, ha, ra⟩ := s.rep.lst e
    have e4 := (wipe_some e3).1
    rw [ea] at e4
    have : a = a' := by simpa using e4
    subst this
    exact ⟨us, ha, ra⟩
  have chk_of : ∀ {xs acc : List D} {e2 : DEnv} {k : List D → DEnv → Prop}, lcGo g wt we own src.chk k xs acc e2 → chkE src.chk e2 := fun {xs acc e2 k} h => by
    cases xs with
    | nil => exact h.1
    | cons x xs => exact h.1
  refine lc_it wk Pv ⟨[], [], wipeE e1 own, upd_same, by simp [RpIs], Nat.zero_le _, wr (us := []) (.refl R1') (.inr hD), fun _ _ => rfl, w1⟩ ?_ ?_ ?_
  · rintro i H2 hi ⟨acc, us, e2, hd, ra, la, s, _, go⟩
    exact hg H2 (stay s (chk_of go))
  · rintro i x H2 H3 hi ⟨acc, us, e2, hd, ra, la, s, ho, go⟩ y
    have st := stay s (chk_of go)
    obtain ⟨ex, d, ed, rd⟩ := hy i H2 x H3 hi y (hg H2 st)
    have dr : src.xs.drop i = d :: src.xs.drop (i + 1) := by
      rw [← List.getElem_cons_drop hi]
      rw [List.getElem?_eq_getElem hi] at ed
      rw [Option.some.inj ed]
    rw [dr] at go
    obtain ⟨_, go⟩ := go
    have s3 : SE K np He (L2.wipe σ own) H1 (wipeE e1 own) H3 e2 := s.trans (.ext s.rep ex)
    refine ⟨e2, d, _, s3.rep, rd, go, fun e4 σ4 w4 s4 o4 => ⟨?_, ?_⟩⟩
    · exact (wipe_idem (by rw [s4.rep.len, s4.len, ← s3.rep.len]) fun j hj => (o4 j hj).1).trans (by
        refine wipe_idem (by rw [wipe_length]) fun j hj => wipe_out hj)
    · -- the element
      have R4 := s4.rep
      -- from the block's start, the target's slots apart
      have cl : ∀ {H5 : Hp} {e5 : DEnv}, SE K np He σ4 H3 e4 H5 e5 → SE K np He (L2.wipe σ own) H1 (wipeE e1 own) H5 (wipeE e5 own) := fun {H5 e5} s5 => by
        have hl4 : σ4.length = (L2.wipe σ own).length := by rw [s4.rep.len, s4.len, ← s3.rep.len]
        have hw : L2.wipe σ4 own = L2.wipe σ own := (wipe_idem hl4 fun j hj => (o4 j hj).1).trans (wipe_idem (by rw [wipe_length]) fun j hj => wipe_out hj)
        have R5 := s5.rep.wipe own
        rw [hw] at R5
        have ela : ∀ b, LA σ4 e4 b → LA (L2.wipe σ own) e2 b := fun b z => by
          obtain ⟨j, xs, q1, q2⟩ := z
          by_cases hj : j ∈ own
          · exfalso
            -- a target's slot holds no list
            obtain ⟨v, e6, r6⟩ := R4.val j _ q1
            obtain ⟨a, us', ea, eh, _⟩ := r6
            have z' := s4.keep
            rw [q2] at e6
            have eb : b = a := by simpa [ea] using e6
            subst eb
            by_cases hla : LA (L2.wipe σ own) e2 b
            · obtain ⟨l, ys, g1, g2⟩ := hla
              have hlo : l ∉ own := fun m => by
                rw [ho l m] at g1
                exact (wipeE_some g1).2 m
              have g1' := (o4 l hlo).2.trans g1
              have g2' := (o4 l hlo).1.trans g2
              have := R4.apart j l xs ys b q1 g1' q2 g2'
              exact hlo (this ▸ hj)
            · exact (z' b _ eh hla).2 ⟨j, xs, q1, q2⟩
          · exact ⟨j, xs, (o4 j hj).2 ▸ q1, (o4 j hj).1 ▸ q2⟩
        have ela2 : ∀ b, LA (L2.wipe σ own) e2 b → LA σ4 e4 b := fun b z => by
          obtain ⟨l, ys, g1, g2⟩ := z
          have hlo : l ∉ own := fun m => by
            rw [ho l m] at g1
            exact (wipeE_some g1).2 m
          exact ⟨l, ys, (o4 l hlo).2.trans g1, (o4 l hlo).1.trans g2⟩
        refine ⟨R5, fun j => ?_, fun b o h n => ?_, fun b n => s3.dom b (s5.dom b n)⟩
        · by_cases hj : j ∈ own
          · left
            have w0 : ∀ (τ : DEnv) (ws : List Nat), j ∈ ws → (wipeE τ ws)[j]? = if j < τ.length then some none else none := by
              intro τ ws
              induction ws with
              | nil => intro h; simp at h
              | cons w ws ih =>
                intro h
                unfold wipeE
                by_cases hw : w = j
                · subst hw
                  by_cases hlt : w < τ.length
                  · rw [List.getElem?_set_self (by rw [wipeE_len]; exact hlt), if_pos hlt]
                  · rw [List.getElem?_eq_none (by rw [List.length_set, wipeE_len]; omega), if_neg hlt]
                · rw [List.getElem?_set_ne hw]
                  rcases List.mem_cons.mp h with z | z
                  · exact absurd z.symm hw
                  · exact ih z
            have l5 : e5.length = e1.length := by
              have h1 := s5.rep.len
              have h2 := R4.len
              have h3 := s4.len
              have h4 := s3.rep.len
              have h5 := R1'.len
              rw [wipeE_len] at h5
              omega
            rw [w0 _ _ hj, w0 _ _ hj, l5]
          · rw [wipeE_out hj, wipeE_out hj]
            have h45 := s5.shape j
            rw [(o4 j hj).2] at h45
            have h12 := s3.shape j
            rw [wipeE_out hj] at h12
            rcases h45 with h | ⟨us, ws, g1, g2⟩
            · rcases h12 with k | ⟨us, ws, k1, k2⟩
              · exact .inl (h.trans k)
              · exact .inr ⟨us, ws, k1, h.trans k2⟩
            · rcases h12 with k | ⟨us', ws', k1, k2⟩
              · exact .inr ⟨us, ws, k ▸ g1, g2⟩
              · exact .inr ⟨us', ws, k1, g2⟩
        · have h3 := s3.keep b o h n
          have nla : ¬ LA (L2.wipe σ own) e2 b := fun z => n (s3.la.mp z)
          exact s5.keep b o h3 fun z => nla (ela b z)
      have hd3 : H3 Dn = some (.lst us) := ex Dn _ hd
      have dla4 : ¬ LA σ4 e4 Dn := fun z => by
        obtain ⟨j, xs, q1, q2⟩ := z
        by_cases hj : j ∈ own
        · by_cases hla : LA (L2.wipe σ own) e2 Dn
          · exact DLA s3 hla
          · exact (s4.keep Dn _ hd3 hla).2 ⟨j, xs, q1, q2⟩
        · exact DLA s3 ⟨j, xs, (o4 j hj).2 ▸ q1, (o4 j hj).1 ▸ q2⟩
      refine ⟨e4, _, R4, w4, fun rb e5 vb H5 w5 s5 r5 => ?_⟩
      obtain ⟨b, hb, w5⟩ := r5.rs s5.rep w5
      have hd5 : H5 Dn = some (.lst us) := s5.keep Dn _ hd3 dla4
      have fin : ∀ {H6 : Hp} {e6 : DEnv} {acc' : List D} {us' : List V}, SE K np He σ4 H3 e4 H6 e6 → H6 Dn = some (.lst us') → RpIs K H6 acc' us' → acc'.length ≤ i + 1 → lcGo g wt we own src.chk (fun acc e => Q0 (.val (.lst acc)) (back e e1 own)) (src.xs.drop (i + 1)) acc' (wipeE e6 own) → Pv (i + 1) H6 := fun {H6 e6 acc' us'} s6 h6 r6 l6 go6 => by
        refine ⟨acc', us', wipeE e6 own, h6, r6, l6, cl s6, fun j hj => ?_, go6⟩
        rcases (cl s6).shape j with z | ⟨us, ws, g1, g2⟩
        · exact z
        · exact absurd hj (wipeE_some g1).2
      have w5z := ifb_of w5; clear w5; rcases w5z with ⟨rfl, w5⟩ | ⟨rfl, w5⟩
      · refine ⟨true, hb, ?_⟩
        dsimp only
        rw [if_pos rfl]
        refine ⟨e5, _, s5.rep, w5, fun r e6 v H6 w6 s6 r6 => ?_⟩
        have s56 := s5.trans s6
        obtain ⟨y', hy', w6⟩ := r6.rs s6.rep w6
        obtain ⟨ny, w6⟩ := w6
        have hd6 : H6 Dn = some (.lst us) := s56.keep Dn _ hd3 dla4
        have kp46 : Kp H3 H6 := SE.kp R4 s56
        have kp6 : Kp H6 (upd H6 Dn (.lst (us ++ [v]))) := kp_store hd6
        refine ⟨us, hd6, ?_, ?_⟩
        · rw [← ra.length]
          exact Nat.lt_of_lt_of_le (show acc.length < 1000000 by omega) (line_of (Nat.le_refl _))
        · -- the list written
          have ra3 : RpIs K H3 acc us := RpIs.kp ex.kp acc us ra
          have r7 : RpIs K (upd H6 Dn (.lst (us ++ [v]))) (acc ++ [y']) (us ++ [v]) := by
            refine RpIs.append (RpIs.kp kp6 _ _ (RpIs.kp kp46 acc us ra3)) ?_
            simp only [RpIs]
            exact ⟨v, [], rfl, RpI.kp kp6 _ _ (hy'.imm ny), rfl⟩
          have s7 : SE K np He (L2.wipe σ own) H1 (wipeE e1 own) (upd H6 Dn (.lst (us ++ [v]))) (wipeE e6 own) := wr (us := us) (cl s56) (.inl hd6)
          refine ⟨acc ++ [y'], us ++ [v], wipeE e6 own, upd_same, r7, by rw [List.length_append, List.length_singleton]; omega, s7, fun j hj => ?_, w6⟩
          rcases s7.shape j with z | ⟨us, ws, g1, g2⟩
          · exact z
          · exact absurd hj (wipeE_some g1).2
      · refine ⟨false, hb, ?_⟩
        dsimp only
        rw [if_neg Bool.false_ne_true]
        exact fin s5 hd5 (RpIs.kp (SE.kp R4 s5) _ _ (RpIs.kp ex.kp acc us ra)) (by omega) w5
  · rintro H2 ⟨acc, us, e2, hd, ra, la, s, ho, go⟩
    rw [List.drop_length] at go
    obtain ⟨_, go⟩ := go
    refine q _ _ _ _ go (s1.trans (.back R1 nl s)) ⟨⟨Dn, us, rfl, hd, ra⟩, fun _ a ea => ?_⟩
    cases ea
    exact s1.dom Dn hD
theorem e_lc {elt tg iter : Expr} {ifs : List Expr} {scope : Scope} {own : List (Str × Nat)} {ow : List Nat} {wi : WI} {g : G} {wt we : W} (hc : X.calm = true) (hN : X.N.Nodup) (hi : DI X np He tg iter wi) (ok : BlkOk X.N X.env.scope scope own)
    (hg : ∀ (s : Shared) (H : Hp) (C : Addr) (cl : List (Str × Addr)) (fp : List Addr), DG (X.blk s H scope (compEnvC scope cl C X.env) fp) np He [] ow tg g)
    (ht : ∀ (s : Shared) (H : Hp) (C : Addr) (cl : List (Str × Addr)) (fp : List Addr), PTs (X.blk s H scope (compEnvC scope cl C X.env) fp) ifs (tB (rE X.K np He wt)))
    (he : ∀ (s : Shared) (H : Hp) (C : Addr) (cl : List (Str × Addr)) (fp : List Addr), DE (X.blk s H scope (compEnvC scope cl C X.env) fp) np He elt we) (hw : own.map (·.2) = ow := by rfl) (hs : ∀ x, foldedSetIterable iter X.env x = pure x := by intro _; rfl) :
    DE X np He (.ListComp elt [⟨tg, iter, ifs, 0⟩] scope pos) (cLc ow wi g wt we) := by
  subst hw
  exact PE.weak (pe_lc hc hN hi ok hg ht he hs) (lc_read (own := own.map (·.2)))
end
end DL

namespace DL
open PySem PySem.Spec PyProof.Rows L2

structure Kt where
  nx : DEnv → Prop
  rt : D → DEnv → Prop
  bk : DEnv → Prop := fun _ => False
  ct : DEnv → Prop := fun _ => False
abbrev WS := DEnv → Kt → Prop
structure Goes (K : PySem.W.Frag) (np : Nat) (He : Hp) (pr : List Nat) (σ : L2.St) (H : Hp) (env : DEnv) (K0 : Kt) (D : Ends) : Prop where
  nx : ∀ env' σ' H', K0.nx env' → SS K np He pr σ H env σ' H' env' → D.nx σ' H'
  rt : ∀ d env' σ' H' v, K0.rt d env' → SS K np He pr σ H env σ' H' env' → RpV K H' d v → (isL d = true → ∀ a, v = .ref a → He a = none) → D.rt v H'
  bk : ∀ env' σ' H', K0.bk env' → SS K np He pr σ H env σ' H' env' → D.bk σ' H'
  ct : ∀ env' σ' H', K0.ct env' → SS K np He pr σ H env σ' H' env' → D.ct σ' H'
def rS (K : PySem.W.Frag) (np : Nat) (He : Hp) (pr : List Nat) (w : WS) : TS := fun D σ H => ∃ env K0, Rep K np He σ H env ∧ w env K0 ∧ Goes K np He pr σ H env K0 D
abbrev DS (X : Cx) (np : Nat) (He : Hp) (pr : List Nat) (s : Stmt) (w : WS) : Prop := PS X s (rS X.K np He pr w)
abbrev DSs (X : Cx) (np : Nat) (He : Hp) (pr : List Nat) (s : List Stmt) (w : WS) : Prop := PSs X s (rS X.K np He pr w)
theorem PS.weak {X : Cx} {e : Stmt} {t t' : TS} (h : PS X e t) (i : ∀ D σ H, t' D σ H → t D σ H) : PS X e t' := ⟨fun pins s σ H D I q => h.run pins s σ H D I (i D σ H q)⟩
theorem PSs.weak {X : Cx} {e : List Stmt} {t t' : TS} (h : PSs X e t) (i : ∀ D σ H, t' D σ H → t D σ H) : PSs X e t' := ⟨fun pins s σ H D I q => h.run pins s σ H D I (i D σ H q)⟩
theorem Goes.from {K : PySem.W.Frag} {np : Nat} {He : Hp} {pr : List Nat} {σ σ1 : L2.St} {H H1 : Hp} {env e1 : DEnv} {K0 : Kt} {D : Ends} (g : Goes K np He pr σ H env K0 D) (s : SS K np He pr σ H env σ1 H1 e1) : Goes K np He pr σ1 H1 e1 K0 D :=
  ⟨fun a b c h t => g.nx a b c h (s.trans t), fun d a b c v h t => g.rt d a b c v h (s.trans t), fun a b c h t => g.bk a b c h (s.trans t), fun a b c h t => g.ct a b c h (s.trans t)⟩
section
variable {X : Cx} {np : Nat} {He : Hp} {pr : List Nat} {a b c e : Expr} {es : List Expr} {wa wb wc we wi : W} {ws : WA} {pos : Pos} {st : Stmt} {sts : List Stmt} {u v : WS}
def cNilS : WS := fun env K => K.nx env
def cSeq (w u : WS) : WS := fun env K => w env { K with nx := fun e => u e K }
theorem s_nil : DSs X np He pr [] cNilS := PSs.weak pss_nil fun D σ H ⟨env, K0, R, w, g⟩ => g.nx env σ H w (.refl R)
theorem s_cons (h1 : DS X np He pr st u) (h2 : DSs X np He pr sts v) : DSs X np He pr (st :: sts) (cSeq u v) :=
  PSs.weak (pss_cons h1 h2) fun D σ H ⟨env, K0, R, w, g⟩ => ⟨env, _, R, w, fun e1 σ1 H1 w1 s1 => ⟨e1, K0, s1.rep, w1, g.from s1⟩, g.rt, g.bk, g.ct⟩
theorem s_one (h1 : DS X np He pr st u) : DSs X np He pr [st] u := pss_one h1
def cAsg (np : Nat) (pr : List Nat) (i : Nat) (we : W) : WS := fun env K => we env fun r e1 => match r with
  | .val d => stOk np pr e1 i d = true ∧ K.nx (e1.set i (some d))
  | .ref _ => False
theorem asg_core {i : Nat} : ∀ D σ H, rS X.K np He pr (cAsg np pr i we) D σ H → tAsg (rE X.K np He we) (gName i) D σ H := by
  intro D σ H ⟨env, K0, R, w, g⟩
  refine ⟨env, _, R, w, fun r e1 v1 H1 w1 s1 r1 => ?_⟩
  cases r with
  | ref j => exact False.elim w1
  | val d =>
    obtain ⟨ok, w1⟩ := w1
    exact g.nx _ _ _ w1 (.put R s1 ok r1.1 r1.2)
theorem s_asg (i : Nat) {x : Str} {pos' : Pos} (hN : X.N.Nodup) (he : DE X np He e we) (hi : X.N[i]? = some x := by rfl) (hx : Loc X.env.scope x := by first | exact Or.inl rfl | exact Or.inr rfl) (hs : swapsWith e (some (.Name x pos')) pos.line X.env = pure false := by rfl) (hf : X.fn x = true ∨ X.env.scope.names.lookup x = some .local := by first | exact .inl rfl | exact .inr rfl | assumption) :
    DS X np He pr (.Assign [.Name x pos'] e pos) (cAsg np pr i we) := PS.weak (ps_set hN hi hx he hs hf) asg_core
theorem s_setLc (i : Nat) {y : Str} {py : Pos} {elt tg iter : Expr} {ifs : List Expr} {scope : Scope} {own : List (Str × Nat)} {ow : List Nat} {spos : Pos} {wI : WI} {g : G} {wt we : W} (hc : X.calm = true) (hN : X.N.Nodup) (hi : DI X np He tg iter wI) (ok : BlkOk X.N X.env.scope scope own)
    (hg : ∀ (s : Shared) (H : Hp) (C : Addr) (cl : List (Str × Addr)) (fp : List Addr), DG (X.blk s H scope (compEnvC scope cl C X.env) fp) np He [] ow tg g)
    (ht : ∀ (s : Shared) (H : Hp) (C : Addr) (cl : List (Str × Addr)) (fp : List Addr), PTs (X.blk s H scope (compEnvC scope cl C X.env) fp) ifs (tB (rE X.K np He wt)))
    (he : ∀ (s : Shared) (H : Hp) (C : Addr) (cl : List (Str × Addr)) (fp : List Addr), DE (X.blk s H scope (compEnvC scope cl C X.env) fp) np He elt we) (hw : own.map (·.2) = ow := by rfl) (hy : X.N[i]? = some y := by rfl) (hyl : X.env.scope.names.lookup y = some .local := by rfl)
    (hsw : swapsWith (.ListComp elt [⟨tg, iter, ifs, 0⟩] scope pos) (some (.Name y py)) spos.line X.env = pure true := by exact sw_true rfl rfl rfl (by decide +kernel)) (hs : ∀ x, foldedSetIterable iter X.env x = pure x := by intro _; rfl) :
    DS X np He pr (.Assign [.Name y py] (.ListComp elt [⟨tg, iter, ifs, 0⟩] scope pos) spos) (cAsg np pr i (cLc ow wI g wt we)) := by
  subst hw
  exact PS.weak (ps_setLc (wi := rI X.K np He wI) (g := rG X.K np He [] (own.map (·.2)) g) (tt := tB (rE X.K np He wt)) (te := rE X.K np He we) hc hN hy hyl hsw hi ok hg ht he hs) (by
    intro D σ H h
    have h' := asg_core D σ H h
    exact lc_read σ H _ h')
def cEx (we : W) : WS := fun env K => we env fun _ e1 => K.nx e1
theorem s_expr (he : DE X np He e we) (hs : swapsWith e none pos.line X.env = pure false := by rfl) : DS X np He pr (.Expr e pos) (cEx we) := by
  refine PS.weak (ps_expr he hs) fun D σ H ⟨env, K0, R, w, g⟩ => ⟨env, _, R, w, fun r e1 v1 H1 w1 s1 r1 => g.nx _ _ _ w1 (s1.ss R)⟩
def cRet (np : Nat) (we : W) : WS := fun env K => we env fun r e1 => match r with
  | .val d => K.rt d e1
  | .ref i => np ≤ i ∧ getv e1 i fun d => K.rt d e1
theorem s_ret (he : DE X np He e we) : DS X np He pr (.Return (some e) pos) (cRet np we) := by
  refine PS.weak (ps_ret he) fun D σ H ⟨env, K0, R, w, g⟩ => ⟨env, _, R, w, fun r e1 v1 H1 w1 s1 r1 => ?_⟩
  cases r with
  | val d => exact g.rt d e1 σ H1 v1 w1 (s1.ss R) r1.1 fun n a ea => R.dom a (r1.2 n a ea)
  | ref i =>
    obtain ⟨hi, w1⟩ := w1
    obtain ⟨d, ed, w1⟩ := getv_of w1
    obtain ⟨v, ev, rv⟩ := s1.rep.val i d ed
    rw [r1.1] at ev
    have evv : v1 = v := by simpa using ev
    subst evv
    refine g.rt d e1 σ H1 v1 w1 (s1.ss R) rv fun n a ea => ?_
    cases d with
    | lst xs => exact s1.rep.own i xs a hi ed (by rw [r1.1, ea])
    | _ => simp [isL] at n
def cIte (wc : W) (u v : WS) : WS := fun env K => wc env fun r e1 => rs e1 r fun d => ifb d (u e1 K) (v e1 K)
theorem s_if {p q : List Stmt} (hc : DT X np He c wc) (ha : DSs X np He pr p u) (hb : DSs X np He pr q v) : DS X np He pr (.If c p q pos) (cIte wc u v) := by
  refine PS.weak (ps_if hc ha hb) fun D σ H ⟨env, K0, R, w, g⟩ => ⟨env, _, R, w, fun r e1 v1 H1 w1 s1 r1 => ?_⟩
  obtain ⟨d, hd, w1⟩ := r1.rs s1.rep w1
  have w1z := ifb_of w1; clear w1; rcases w1z with ⟨rfl, w1⟩ | ⟨rfl, w1⟩
  · refine ⟨true, hd, ?_⟩
    dsimp only
    rw [if_pos rfl]
    exact ⟨e1, K0, s1.rep, w1, g.from (s1.ss R)⟩
  · refine ⟨false, hd, ?_⟩
    dsimp only
    rw [if_neg Bool.false_ne_true]
    exact ⟨e1, K0, s1.rep, w1, g.from (s1.ss R)⟩
def cBrk : WS := fun env K => K.bk env
theorem s_brk : DS X np He pr (.Break pos) cBrk := PS.weak ps_break fun D σ H ⟨env, K0, R, w, g⟩ => g.bk env σ H w (.refl R)
/-- a, (b, c) = e -/
def cUnp (we : W) (g : G) : WS := fun env K => we env fun r e1 => match r with
  | .val d => isL d = false ∧ g d e1 K.nx
  | .ref _ => False
theorem s_unp {tg : Expr} {g : G} {sl : List Nat} (he : DE X np He e we) (hg : DG X np He pr sl tg g) (hs : swapsWithSole [tg] e pos.line X.env = pure false := by rfl) (hw : swappedStores [tg] e X.env = pure none := by rfl)
    (h1 : (assignEach [tg] X.env).map (·.2) = [assign tg X.env] := by rfl) : DS X np He pr (.Assign [tg] e pos) (cUnp we g) := by
  refine PS.weak (ps_asg he hg hs hw h1) fun D σ H ⟨env, K0, R, w, g⟩ => ⟨env, _, R, w, fun r e1 v1 H1 w1 s1 r1 => ?_⟩
  cases r with
  | ref j => exact False.elim w1
  | val d =>
    obtain ⟨im, w1⟩ := w1
    exact ⟨e1, d, _, s1.rep, r1.1.imm im, w1, fun e2 σ2 w2 s2 o2 => g.nx e2 σ2 H1 w2 ((s1.ss R).trans s2)⟩
/-- xs[k] = e -/
def cSet (i : Nat) (we wi : W) : WS := fun env K => we env fun r e1 => match r with
  | .val d => isL d = false ∧ getl e1 i fun _ => wi e1 fun ri e2 => rs e2 ri fun y => isI y fun k => getl e2 i fun xs => (match ixN xs.length k with
    | some j => K.nx (e2.set i (some (.lst (xs.set j d))))
    | none => False)
  | .ref _ => False
theorem s_set (i : Nat) {x : Str} {p p2 : Pos} {ix : Expr} (he : DE X np He e we) (hi : DE X np He ix wi) (hN : X.N[i]? = some x := by rfl) (hv : Vis X.env.scope x := by first | exact Or.inl rfl | exact Or.inr (Or.inl rfl) | exact Or.inr (Or.inr rfl)) (hd : (x == ("__debug__" : Str)) = false := by decide)
    (hcd : (x == ("__classdict__" : Str)) = false := by decide)
    (ha : ∀ v, assign (.Subscript (.Name x p) ix p2) X.env v = (do
      let ov ← holding [v] (eval (.Name x p) X.env)
      let iv ← holding [v, ov] (eval ix X.env)
      standAt p2
      holding [v, ov, iv] (setItem ov iv v)
      release [v, ov, iv] []) := by intro _; rfl)
    (hs : swapsWithSole [.Subscript (.Name x p) ix p2] e pos.line X.env = pure false := by rfl) (hw : swappedStores [.Subscript (.Name x p) ix p2] e X.env = pure none := by rfl)
    (h1 : (assignEach [.Subscript (.Name x p) ix p2] X.env).map (·.2) = [assign (.Subscript (.Name x p) ix p2) X.env] := by rfl) :
    DS X np He pr (.Assign [.Subscript (.Name x p) ix p2] e pos) (cSet i we wi) := by
  refine PS.weak (ps_asg he (pg_sub (pv i hN hv hd hcd) hi set_list ha) hs hw h1) fun D σ H ⟨env, K0, R, w, g⟩ => ⟨env, _, R, w, fun r e1 v1 H1 w1 s1 r1 => ?_⟩
  cases r with
  | ref j => exact False.elim w1
  | val d =>
    obtain ⟨im, w1⟩ := w1
    obtain ⟨xs0, e0, w1⟩ := getl_of w1
    obtain ⟨a, us, es, ha, ra⟩ := s1.rep.lst e0
    refine ⟨.ref a, es, e1, _, s1.rep, w1, fun ri e2 v2 H2 w2 s2 r2 => ?_⟩
    obtain ⟨y, hy, w2⟩ := r2.rs s2.rep w2
    obtain ⟨k, rfl, w2⟩ := isI_of w2
    obtain ⟨xs, e3, w2⟩ := getl_of w2
    split at w2
    · rename_i j hj
      obtain ⟨a', us', es', ha', ra'⟩ := s2.rep.lst e3
      rw [es] at es'
      have ea : a = a' := by simpa using es'
      subst ea
      cases hy
      refine ⟨a, us', k, j, rfl, rfl, ha', by rw [← ra'.length]; exact hj, ?_⟩
      have rd : RpI X.K H2 d v1 := RpI.kp (SE.kp s1.rep s2) d v1 (r1.1.imm im)
      exact g.nx _ σ _ w2 (((s1.trans s2).trans (.store s2.rep e3 es ha' (ra'.set rd j))).ss R)
    · exact w2.elim

/-! ### loops -/
def goFor (g : G) (wb : WS) (chk : List (Nat × List D)) (K : Kt) : List D → DEnv → Prop
  | [], env => chkE chk env ∧ K.nx env
  | x :: xs, env => chkE chk env ∧ g x env fun e2 => wb e2 { nx := goFor g wb chk K xs, rt := K.rt, bk := K.nx, ct := goFor g wb chk K xs }
def cFor (pr : List Nat) (wI : WI) (g : G) (wb : WS) : WS := fun env K => wI env fun src e1 => (src.chk.all fun p => pr.contains p.1) = true ∧ Loop (goFor g wb src.chk K src.xs e1)
theorem s_for {tg iter : Expr} {body : List Stmt} {wI : WI} {g : G} {wb : WS} (pr' sl : List Nat) (hx : PassesOwn (model X.prog X.w) X.A X.env X.xe) (hc : X.calm = true) (hi : DI X np He tg iter wI) (hg : DG X np He pr' sl tg g) (hb : DSs X np He pr' body wb)
    (hp : (pr.all fun i => pr'.contains i) = true := by decide) (hs : ∀ x, foldedSetIterable iter X.env x = pure x := by intro _; rfl) : DS X np He pr (.For tg iter body [] pos) (cFor pr' wI g wb) := by
  refine PS.weak (ps_for hx hc hi hg hb hs) fun D σ H ⟨env, K0, R, w, gs⟩ => ⟨env, _, R, w, fun src e1 H1 J Gd Y w1 s1 wk hck hy hgd => ?_⟩
  have sub : ∀ i ∈ pr, i ∈ pr' := fun i h => by
    have := List.all_eq_true.mp hp i h
    simpa [List.contains_eq_mem] using this
  obtain ⟨hpr, w1l⟩ := w1
  have w1 := w1l.out
  have cpr : ∀ p ∈ src.chk, p.1 ∈ pr' := fun p h => by
    have := List.all_eq_true.mp hpr p h
    simpa [List.contains_eq_mem] using this
  let Pv : Nat → L2.St → Hp → Prop := fun i σ2 H2 => ∃ e2, SS X.K np He pr' σ H1 e1 σ2 H2 e2 ∧ goFor g wb src.chk K0 (src.xs.drop i) e2
  have out : ∀ {σ2 : L2.St} {H2 : Hp} {e2 : DEnv}, SS X.K np He pr' σ H1 e1 σ2 H2 e2 → SS X.K np He pr σ H env σ2 H2 e2 := fun s => (s1.ss R).trans (s.sub sub)
  have cgo : ∀ {xs : List DL.D} {e2 : DEnv}, goFor g wb src.chk K0 xs e2 → chkE src.chk e2 := fun {xs e2} h => by
    cases xs with
    | nil => exact h.1
    | cons x xs => exact h.1
  have gd : ∀ {σ2 : L2.St} {H2 : Hp} {e2 : DEnv}, SS X.K np He pr' σ H1 e1 σ2 H2 e2 → chkE src.chk e2 → Gd H2 := fun {σ2 H2 e2} s c => by
    refine hgd H2 ⟨(s.kp s1.rep).s, fun b o _ h n => (s.keep b _ h n).1, fun p hp a ea => ?_⟩
    obtain ⟨q1, _⟩ := s.par p.1 p.2 (cpr p hp) (hck p hp)
    obtain ⟨a', us, e3, ha, ra⟩ := s.rep.lst (chkE_at c hp)
    rw [q1, ea] at e3
    have : a = a' := by simpa using e3
    subst this
    exact ⟨us, ha, ra⟩
  refine for_it wk Pv ⟨e1, .refl s1.rep, w1⟩ ?_ ?_ ?_
  · rintro i σ2 H2 hi ⟨e2, s, go⟩
    exact gd s (cgo go)
  · rintro i x σ2 H2 H3 hi ⟨e2, s, go⟩ y
    obtain ⟨ex, d, ed, rd⟩ := hy i H2 x H3 hi y (gd s (cgo go))
    have dr : src.xs.drop i = d :: src.xs.drop (i + 1) := by
      rw [← List.getElem_cons_drop hi]
      rw [List.getElem?_eq_getElem hi] at ed
      rw [Option.some.inj ed]
    rw [dr] at go
    obtain ⟨_, go⟩ := go
    have s3 : SS X.K np He pr' σ H1 e1 σ2 H3 e2 := s.trans ((SE.ext s.rep ex).ss s.rep)
    refine ⟨e2, d, _, s3.rep, rd, go, fun e4 σ4 w4 s4 o4 => ?_⟩
    refine ⟨e4, _, s4.rep, w4, ⟨fun e5 σ5 H5 w5 s5 => ⟨e5, (s3.trans s4).trans s5, w5⟩, fun d e5 σ5 H5 v w5 s5 rv fr => ?_, fun e5 σ5 H5 w5 s5 => ?_, fun e5 σ5 H5 w5 s5 => ⟨e5, (s3.trans s4).trans s5, w5⟩⟩⟩
    · exact gs.rt d e5 σ5 H5 v w5 (out ((s3.trans s4).trans s5)) rv fr
    · exact gs.nx e5 σ5 H5 w5 (out ((s3.trans s4).trans s5))
  · rintro σ2 H2 ⟨e2, s, go⟩
    rw [List.drop_length] at go
    exact gs.nx e2 σ2 H2 go.2 (out s)
def cWhile (wc : W) (wb : WS) : WS := fun env K => ∃ (inv : DEnv → Prop) (μ : DEnv → Nat), inv env ∧ ∀ e, inv e → wc e fun r e1 => rs e1 r fun d =>
  ifb d (wb e1 { nx := fun e' => inv e' ∧ μ e' < μ e, rt := K.rt, bk := K.nx, ct := fun e' => inv e' ∧ μ e' < μ e }) (K.nx e1)
theorem s_while {body : List Stmt} {wb : WS} (hx : PassesOwn (model X.prog X.w) X.A X.env X.xe) (hc : DT X np He c wc) (hb : DSs X np He pr body wb) : DS X np He pr (.While c body [] pos) (cWhile wc wb) := by
  refine PS.weak (ps_while hx hc hb) fun D σ H ⟨env, K0, R, ⟨inv, μ, i0, tn⟩, gs⟩ => ?_
  refine ⟨fun m σ2 H2 => ∃ e2, SS X.K np He pr σ H env σ2 H2 e2 ∧ inv e2 ∧ m = μ e2, ⟨_, env, .refl R, i0, rfl⟩, ?_⟩
  rintro m σ2 H2 ⟨e2, s, iv, rfl⟩
  refine ⟨e2, _, s.rep, tn e2 iv, fun r e3 v3 H3 w3 s3 r3 => ?_⟩
  obtain ⟨d, hd, w3⟩ := r3.rs s3.rep w3
  have s' := s.trans (s3.ss s.rep)
  have w3z := ifb_of w3; clear w3; rcases w3z with ⟨rfl, w3⟩ | ⟨rfl, w3⟩
  · refine ⟨true, hd, ?_⟩
    dsimp only
    rw [if_pos rfl]
    refine ⟨fun σ4 H4 => ∃ e4, SS X.K np He pr σ H env σ4 H4 e4 ∧ inv e4 ∧ μ e4 < μ e2, fun σ4 H4 ⟨e4, s4, i4, l4⟩ => ⟨μ e4, l4, e4, s4, i4, rfl⟩, e3, _, s3.rep, w3, ?_⟩
    exact ⟨fun e5 σ5 H5 w5 s5 => ⟨e5, s'.trans s5, w5.1, w5.2⟩, fun d e5 σ5 H5 v w5 s5 rv fr => gs.rt d e5 σ5 H5 v w5 (s'.trans s5) rv fr, fun e5 σ5 H5 w5 s5 => gs.nx e5 σ5 H5 w5 (s'.trans s5), fun e5 σ5 H5 w5 s5 => ⟨e5, s'.trans s5, w5.1, w5.2⟩⟩
  · refine ⟨false, hd, ?_⟩
    dsimp only
    rw [if_neg Bool.false_ne_true]
    exact gs.nx e3 σ2 H3 w3 s'
end

/-! ### a def -/
def outs (env : DEnv) (n : Nat) : List D := (env.take n).map fun o => o.getD .non
def env0 (ds : List D) (n : Nat) : DEnv := ds.map some ++ List.replicate n none
theorem RpVs.get {K : PySem.W.Frag} {H : Hp} : ∀ {ds : List D} {vs : List V} {i : Nat} {d : D}, RpVs K H ds vs → ds[i]? = some d → ∃ v, vs[i]? = some v ∧ RpV K H d v
  | [], vs, i, d, _, e => by simp at e
  | d0 :: ds, vs, 0, d, h, e => by
    obtain ⟨v, r, rfl, h1, _⟩ := h
    simp at e
    subst e
    exact ⟨v, rfl, h1⟩
  | d0 :: ds, vs, i + 1, d, h, e => by
    obtain ⟨v, r, rfl, _, h2⟩ := h
    obtain ⟨u, e1, e2⟩ := RpVs.get h2 (by simpa using e)
    exact ⟨u, by simpa using e1, e2⟩
theorem apA_get : ∀ {ds : List D} {vs : List V} {i j : Nat} {xs ys : List D} {v : V}, apA ds vs → ds[i]? = some (.lst xs) → ds[j]? = some (.lst ys) → vs[i]? = some v → vs[j]? = some v → i = j
  | [], vs, i, j, xs, ys, v, _, e, _, _, _ => by simp at e
  | d :: ds, [], i, j, xs, ys, v, _, _, _, e, _ => by simp at e
  | d :: ds, w :: vs, i, j, xs, ys, v, h, e1, e2, s1, s2 => by
    have tl : apA ds vs := by
      cases d with
      | lst zs => exact h.2
      | _ => exact h
    cases i with
    | zero =>
      cases j with
      | zero => rfl
      | succ j =>
        simp at e1 s1
        subst e1 s1
        exact absurd (by simpa using s2) (h.1 j ys (by simpa using e2))
    | succ i =>
      cases j with
      | zero =>
        simp at e2 s2
        subst e2 s2
        exact absurd (by simpa using s1) (h.1 i xs (by simpa using e1))
      | succ j =>
        congr 1
        exact apA_get tl (by simpa using e1) (by simpa using e2) (by simpa using s1) (by simpa using s2)
section
variable {P : Program} {w : World} {K : PySem.W.Frag} {mg : Str → Option Value} {base : Heap}
theorem env0_get {ds : List D} {n i : Nat} {d : D} (h : (env0 ds n)[i]? = some (some d)) : ds[i]? = some d := by
  unfold env0 at h
  by_cases hi : i < ds.length
  · rw [List.getElem?_append_left (by simpa using hi)] at h
    simpa using h
  · rw [List.getElem?_append_right (by simpa using hi)] at h
    by_cases h2 : i - (ds.map some).length < n
    · rw [List.getElem?_replicate_of_lt h2] at h
      cases h
    · rw [List.getElem?_eq_none (by simpa using h2)] at h
      cases h
theorem start_get {N : List Str} {vs : List V} {i : Nat} {v : V} (h : vs[i]? = some v) : (L2.start N vs)[i]? = some (some v) := by
  unfold L2.start
  have hi : i < vs.length := (List.getElem?_eq_some_iff.mp h).1
  rw [List.getElem?_append_left (by simpa using hi)]
  simp [h]
theorem start_at {N : List Str} {vs : List V} {i : Nat} {v : V} (h : (L2.start N vs)[i]? = some (some v)) : vs[i]? = some v := by
  unfold L2.start at h
  by_cases hi : i < vs.length
  · rw [List.getElem?_append_left (by simpa using hi)] at h
    simpa using h
  · rw [List.getElem?_append_right (by simpa using hi)] at h
    by_cases h2 : i - (vs.map some).length < N.length - vs.length
    · rw [List.getElem?_replicate_of_lt h2] at h
      cases h
    · rw [List.getElem?_eq_none (by simpa using h2)] at h
      cases h
theorem fn_ok {x : Str} {st : Stmt} {f : Addr} {fd : FuncData} {N ps : List Str} {k : Nat} {sp : FSpec} (wS : WS) (F : Fun K x x st f fd) (S : FnScope N ps (defScope st))
    (deriv : ∀ (cdv : Value) (A : Around) (outer : List Env) (s : Shared) (H : Hp) (E : XK), Room k (A.deeper (envOfC x (defScope st) s.heap.objs.size f cdv)) →
      DSs (cxOf CX0 P w K mg base N x (defScope st) f cdv A outer s H E).nox ps.length H (List.range ps.length) (defBody st) wS)
    (pure : ∀ ds, ds.length = ps.length → sp.pre ds → wS (env0 ds (N.length - ps.length)) { nx := fun e => sp.post ds .non (outs e ps.length), rt := fun d e => sp.post ds d (outs e ps.length) }) :
    FnOk P w K mg base CX0 (k + 1) f fd ps (spOf K ps.length sp) := by
  have hNl : ps.length ≤ N.length := by
    have := congrArg List.length S.pre
    rw [List.length_take] at this
    omega
  refine F.ok S (fun vs H Q E h => ?_) (fun cdv A outer s H vs Q E hr h => ?_)
  · obtain ⟨ds, hl, _⟩ := h
    exact hl
  · obtain ⟨ds, hl, rv, ap, pre, q⟩ := h
    have hdl : ds.length = ps.length := by rw [rv.length]; exact hl
    refine ⟨_, deriv cdv A outer s H E hr, ?_⟩
    have R : Rep K ps.length H (L2.start N vs) H (env0 ds (N.length - ps.length)) := by
      refine ⟨?_, fun i d e => ?_, fun i j xs ys a e1 e2 s1 s2 => ?_, fun i xs a hi e s' => ?_, fun _ h => h⟩
      · unfold L2.start env0
        simp [hl, hdl]
      · obtain ⟨v, e1, r1⟩ := rv.get (env0_get e)
        exact ⟨v, start_get e1, r1⟩
      · exact apA_get ap (env0_get e1) (env0_get e2) (start_at s1) (start_at s2)
      · have := env0_get e
        have hi' : i < ds.length := (List.getElem?_eq_some_iff.mp this).1
        omega
    have A1 : ∀ {σ' : L2.St} {H' : Hp} {env' : DEnv}, SS K ps.length H (List.range ps.length) (L2.start N vs) H (env0 ds (N.length - ps.length)) σ' H' env' → After K H H' ds (outs env' ps.length) vs := fun {σ' H' env'} st => by
      have el : env'.length = ds.length + (N.length - ps.length) := by
        rw [st.len]
        unfold env0
        simp
      refine ⟨?_, fun b o h n => ?_, st.dom, fun i xs v e ev => ?_⟩
      · unfold outs
        rw [List.length_map, List.length_take]
        omega
      · refine (st.keep b o h fun z => ?_).1
        obtain ⟨i, xs, e, s1⟩ := z
        exact n i xs (env0_get e) (start_at s1)
      · have hi : i < ds.length := (List.getElem?_eq_some_iff.mp e).1
        have e0 : (env0 ds (N.length - ps.length))[i]? = some (some (D.lst xs)) := by
          unfold env0
          rw [List.getElem?_append_left (by simpa using hi)]
          simp [e]
        obtain ⟨q1, ys, q2⟩ := st.par i xs (List.mem_range.mpr (by omega)) e0
        rw [start_get ev] at q1
        obtain ⟨u, q3, ru⟩ := st.rep.val i _ q2
        rw [q1] at q3
        have euv : v = u := by simpa using q3
        subst euv
        refine ⟨ys, ?_, ru⟩
        unfold outs
        rw [List.getElem?_map, List.getElem?_take_of_lt (by omega), q2]
        rfl
    refine ⟨_, _, R, pure ds hdl pre, ⟨fun env' σ' H' h st => ?_, fun d env' σ' H' v h st rv fr => ?_, fun _ _ _ h _ => h.elim, fun _ _ _ h _ => h.elim⟩⟩
    · exact q .non _ .non H' h (A1 st) rfl fun n => by simp [isL] at n
    · exact q d _ v H' h (A1 st) rv fr
end
end DL

namespace DL
open PySem PySem.Spec PyProof.Rows L2
/-! ### reasoning over data -/
theorem ifb_t {A B : Prop} (h : A) : ifb (.bl true) A B := .t h
theorem ifb_f {A B : Prop} (h : B) : ifb (.bl false) A B := .f h
theorem ifb_dec {p : Prop} {_ : Decidable p} {A B : Prop} (h1 : p → A) (h2 : ¬ p → B) : ifb (.bl (decide p)) A B := by
  by_cases h : p
  · rw [decide_eq_true h]; exact .t (h1 h)
  · rw [decide_eq_false h]; exact .f (h2 h)
theorem ifb_ndec {p : Prop} {_ : Decidable p} {A B : Prop} (h1 : ¬ p → A) (h2 : p → B) : ifb (.bl (!decide p)) A B := by
  by_cases h : p
  · rw [decide_eq_true h]; exact .f (h2 h)
  · rw [decide_eq_false h]; exact .t (h1 h)
theorem ifb_nr {α : Type} {x : α} {_ : Decidable (x = x)} {A B : Prop} (h : B) : ifb (.bl (!decide (x = x))) A B := by
  rw [decide_eq_true (rfl : x = x)]; exact ifb_f h
theorem ifb_er {α : Type} {x : α} {_ : Decidable (x = x)} {A B : Prop} (h : A) : ifb (.bl (decide (x = x))) A B := by
  rw [decide_eq_true (rfl : x = x)]; exact ifb_t h
theorem goFor_ind {g : G} {wb : WS} {chk : List (Nat × List D)} {K : Kt} (I : List D → DEnv → Prop)
    (hs : ∀ x r env nxt, I (x :: r) env → (∀ e, I r e → nxt e) → chkE chk env ∧ g x env fun e2 => wb e2 { nx := nxt, rt := K.rt, bk := K.nx, ct := nxt })
    (hd : ∀ env, I [] env → chkE chk env ∧ K.nx env) : ∀ xs env, I xs env → goFor g wb chk K xs env
  | [], env, h => hd env h
  | x :: r, env, h => hs x r env _ h fun e he => goFor_ind I hs hd r e he
theorem goFor_rng {g : G} {wb : WS} {chk : List (Nat × List D)} {K : Kt} (I : Int → DEnv → Prop) : ∀ (n : Nat) (lo : Int) (env : DEnv), I lo env →
    (∀ j env nxt, lo ≤ j → j < lo + n → I j env → (∀ e, I (j + 1) e → nxt e) → chkE chk env ∧ g (.int j) env fun e2 => wb e2 { nx := nxt, rt := K.rt, bk := K.nx, ct := nxt }) →
    (∀ env, I (lo + n) env → chkE chk env ∧ K.nx env) → goFor g wb chk K (rngD lo n) env
  | 0, lo, env, h, _, hd => hd env (by simpa using h)
  | n + 1, lo, env, h, hs, hd => by
    refine hs lo env _ (Int.le_refl _) (by omega) h fun e he => ?_
    exact goFor_rng I n (lo + 1) e he (fun j env nxt h1 h2 => hs j env nxt (by omega) (by omega)) (fun env h => hd env (by rw [show lo + ((n + 1 : Nat) : Int) = lo + 1 + (n : Int) by omega]; exact h))
theorem loop_rng {g : G} {wb : WS} {chk : List (Nat × List D)} {K : Kt} {n : Nat} {lo : Int} {env : DEnv} (I : Int → DEnv → Prop) (h0 : I lo env)
    (hs : ∀ j env nxt, lo ≤ j → j < lo + n → I j env → (∀ e, I (j + 1) e → nxt e) → chkE chk env ∧ g (.int j) env fun e2 => wb e2 { nx := nxt, rt := K.rt, bk := K.nx, ct := nxt })
    (hd : ∀ env, I (lo + n) env → chkE chk env ∧ K.nx env) : Loop (goFor g wb chk K (rngD lo n) env) := .mk (goFor_rng I n lo env h0 hs hd)
theorem loop_for {g : G} {wb : WS} {chk : List (Nat × List D)} {K : Kt} {xs : List D} {env : DEnv} (I : List D → DEnv → Prop) (h0 : I xs env)
    (hs : ∀ x r env nxt, I (x :: r) env → (∀ e, I r e → nxt e) → chkE chk env ∧ g x env fun e2 => wb e2 { nx := nxt, rt := K.rt, bk := K.nx, ct := nxt })
    (hd : ∀ env, I [] env → chkE chk env ∧ K.nx env) : Loop (goFor g wb chk K xs env) := .mk (goFor_ind I hs hd xs env h0)
theorem lcGo_ind {g : G} {wt we : W} {own : List Nat} {chk : List (Nat × List D)} {k : List D → DEnv → Prop} (I : List D → List D → DEnv → Prop)
    (hs : ∀ x r acc env (nxt : List D → DEnv → Prop), I (x :: r) acc env → (∀ a e, I r a e → nxt a e) → chkE chk env ∧ g x env fun e2 => wt e2 fun rb e3 => rs e3 rb fun b =>
      ifb b (we e3 fun r e4 => rs e4 r fun y => isL y = false ∧ nxt (acc ++ [y]) (wipeE e4 own)) (nxt acc (wipeE e3 own)))
    (hd : ∀ acc env, I [] acc env → chkE chk env ∧ k acc env) : ∀ xs acc env, I xs acc env → lcGo g wt we own chk k xs acc env
  | [], acc, env, h => hd acc env h
  | x :: r, acc, env, h => hs x r acc env _ h fun a e he => lcGo_ind I hs hd r a e he
/-- each item gives f of it, the slots stay -/
theorem lcGo_map {g : G} {wt we : W} {own : List Nat} {chk : List (Nat × List D)} {k : List D → DEnv → Prop} (f : D → D) (env : DEnv) (xs0 : List D)
    (hs : ∀ x (nxt : List D → DEnv → Prop) acc, x ∈ xs0 → nxt (acc ++ [f x]) env → chkE chk env ∧ g x env fun e2 => wt e2 fun rb e3 => rs e3 rb fun b =>
      ifb b (we e3 fun r e4 => rs e4 r fun y => isL y = false ∧ nxt (acc ++ [y]) (wipeE e4 own)) (nxt acc (wipeE e3 own)))
    (hd : chkE chk env ∧ k (xs0.map f) env) : Loop (lcGo g wt we own chk k xs0 [] env) := by
  refine Loop.mk ?_
  refine lcGo_ind (fun r acc e => e = env ∧ acc ++ r.map f = xs0.map f ∧ ∀ x ∈ r, x ∈ xs0) ?_ ?_ xs0 [] env ⟨rfl, by simp, fun _ h => h⟩
  · rintro x r acc e nxt ⟨rfl, h, hm⟩ hn
    exact hs x nxt acc (hm x (by simp)) (hn _ _ ⟨rfl, by simpa using h, fun y hy => hm y (by simp [hy])⟩)
  · rintro acc e ⟨rfl, h, _⟩
    have : acc = xs0.map f := by simpa using h
    rw [this]
    exact hd
/-- the items that pass p -/
theorem lcGo_filter {g : G} {wt we : W} {own : List Nat} {chk : List (Nat × List D)} {k : List D → DEnv → Prop} (p : D → Bool) (f : D → D) (env : DEnv) (xs0 : List D)
    (hs : ∀ x (nxt : List D → DEnv → Prop) acc, x ∈ xs0 → nxt (acc ++ if p x then [f x] else []) env → chkE chk env ∧ g x env fun e2 => wt e2 fun rb e3 => rs e3 rb fun b =>
      ifb b (we e3 fun r e4 => rs e4 r fun y => isL y = false ∧ nxt (acc ++ [y]) (wipeE e4 own)) (nxt acc (wipeE e3 own)))
    (hd : chkE chk env ∧ k ((xs0.filter p).map f) env) : Loop (lcGo g wt we own chk k xs0 [] env) := by
  refine Loop.mk ?_
  refine lcGo_ind (fun r acc e => e = env ∧ acc ++ (r.filter p).map f = (xs0.filter p).map f ∧ ∀ x ∈ r, x ∈ xs0) ?_ ?_ xs0 [] env ⟨rfl, by simp, fun _ h => h⟩
  · rintro x r acc e nxt ⟨rfl, h, hm⟩ hn
    refine hs x nxt acc (hm x (by simp)) (hn _ _ ⟨rfl, ?_, fun y hy => hm y (by simp [hy])⟩)
    rw [← h]
    by_cases hp : p x = true
    · simp [hp, List.filter_cons]
    · simp [hp, List.filter_cons]
  · rintro acc e ⟨rfl, h, _⟩
    have : acc = (xs0.filter p).map f := by simpa using h
    rw [this]
    exact hd
def IsInts (xs : List D) : Prop := ∃ ns : List Int, xs = ns.map D.int
theorem loop_lc {g : G} {wt we : W} {own : List Nat} {chk : List (Nat × List D)} {k : List D → DEnv → Prop} {xs : List D} {env : DEnv} (I : List D → List D → DEnv → Prop) (h0 : I xs [] env)
    (hs : ∀ x r acc env (nxt : List D → DEnv → Prop), I (x :: r) acc env → (∀ a e, I r a e → nxt a e) → chkE chk env ∧ g x env fun e2 => wt e2 fun rb e3 => rs e3 rb fun b =>
      ifb b (we e3 fun r e4 => rs e4 r fun y => isL y = false ∧ nxt (acc ++ [y]) (wipeE e4 own)) (nxt acc (wipeE e3 own)))
    (hd : ∀ acc env, I [] acc env → chkE chk env ∧ k acc env) : Loop (lcGo g wt we own chk k xs [] env) := .mk (lcGo_ind I hs hd xs [] env h0)
theorem fn_false {P : Program} {w : World} {K : PySem.W.Frag} {mg : Str → Option Value} {base : Heap} {k n : Nat} {f : Addr} {fd : FuncData} {ps : List Str} {sp : FSpec} (h : ∀ ds, sp.pre ds → False) : FnOk P w K mg base CX0 k f fd ps (spOf K n sp) :=
  ⟨fun vs H Q E ⟨ds, _, _, _, pre, _⟩ => (h ds pre).elim, fun A outer s H args us vs Q E _ _ _ _ ⟨ds, _, _, _, pre, _⟩ => (h ds pre).elim⟩
/-- the law's own start -/
def sp_law : FSpec where
  pre := fun ds => ∃ ns : List Int, ds = [.rol (ns.map D.int)] ∧ ns.length ≤ 63
  post := fun _ r _ => r = .bl true
theorem RpIs.ints {K : PySem.W.Frag} {H : Hp} : ∀ ns : List Int, RpIs K H (ns.map D.int) (ns.map V.int)
  | [] => by simp [RpIs]
  | n :: r => by
    simp only [List.map_cons, RpIs, RpI]
    exact ⟨_, _, rfl, rfl, RpIs.ints r⟩
theorem law_start {K : PySem.W.Frag} {H : Hp} {a : Addr} {ns : List Int} (hl : ns.length ≤ 63) (hO : Only H) (hS : SqL K H a (ns.map V.int)) : spOf K 1 sp_law [.ref a] H (fun v _ => v = .bl true) fun _ _ _ => False := by
  have hr : SqR K H a (ns.map V.int) := by
    rcases hS with (h | ⟨o, h⟩) | h
    · rcases hO a with n | ⟨o, xs, n⟩
      · rw [n] at h; cases h
      · rw [n] at h; cases h
    · exact .inl ⟨o, h⟩
    · exact .inr h
  refine ⟨[.rol (ns.map D.int)], rfl, ⟨_, [], rfl, ?_, rfl⟩, trivial, ⟨ns, rfl, hl⟩, fun r ds' v H' po _ rv _ => ?_⟩
  · show RpI _ _ _ _
    simp only [RpI]
    exact ⟨a, _, rfl, hr, RpIs.ints ns⟩
  · cases (show r = .bl true from po)
    exact rv
end DL

namespace DL
open PySem PySem.Spec PyProof.Rows L2
section
variable {X : Cx} {np : Nat} {He : Hp} {pos : Pos} {a b c d : Expr}
/-! ### a op b op' c op'' d -/
end
end DL

namespace DL
open PySem PySem.Spec PyProof.Rows L2
/-! ### every other item -/
def ev {α : Type} : List α → List α
  | [] => []
  | [x] => [x]
  | x :: _ :: r => x :: ev r
theorem RpIs.ev {K : PySem.W.Frag} {H : Hp} : ∀ {ds : List D} {vs : List V}, RpIs K H ds vs → RpIs K H (DL.ev ds) (DL.ev vs)
  | [], vs, h => by simp only [RpIs] at h; subst h; simp [DL.ev, RpIs]
  | [d], vs, h => by
    simp only [RpIs] at h
    obtain ⟨v, r, rfl, h1, rfl⟩ := h
    exact ⟨v, [], rfl, h1, rfl⟩
  | d :: e :: ds, vs, h => by
    simp only [RpIs] at h
    obtain ⟨v, r, rfl, h1, w, r2, rfl, h2, h3⟩ := h
    exact ⟨v, _, rfl, h1, RpIs.ev h3⟩
section
variable {X : Cx} {np : Nat} {He : Hp} {a b : Expr} {wa wb : W} {pos : Pos}
end
end DL

namespace DL
open PySem PySem.Spec PyProof.Rows L2
/-! ### tuple(zip(xs, ys)) of two lists -/
/-- what the list has got so far -/
def Got (H : Hp) (xs ys : List V) (acc : Array Value) (i : Nat) : Prop := acc.size = i ∧ ∀ (j : Nat) (v : Value), acc[j]? = some v → ∃ (T : Addr) (x y : V), v = Value.ref T ∧ H T = some (.tup [x, y]) ∧ xs[j]? = some x ∧ ys[j]? = some y
theorem Got.ext {H H' : Hp} {xs ys : List V} {acc : Array Value} {i : Nat} (x : Ext H H') (g : Got H xs ys acc i) : Got H' xs ys acc i :=
  ⟨g.1, fun j v h => let ⟨T, a, b, e1, e2, e3, e4⟩ := g.2 j v h; ⟨T, a, b, e1, x _ _ e2, e3, e4⟩⟩
section
variable {X : Cx} {pins : List (Addr × Obj)} {σ : L2.St}
theorem SqL.ext' {K : PySem.W.Frag} {H H' : Hp} {a : Addr} {xs : List V} (e : Ext H H') (h : SqL K H a xs) : SqL K H' a xs := by
  rcases h with (h | ⟨o, h⟩) | h
  · exact .inl (.inl (e _ _ h))
  · exact .inl (.inr ⟨o, e _ _ h⟩)
  · exact .inr h
end
end DL

namespace DL
open PySem PySem.Spec PyProof.Rows L2
section
variable {X : Cx} {pins : List (Addr × Obj)} {σ : L2.St}
end
section
variable {X : Cx} {np : Nat} {He : Hp} {a b : Expr} {wa wb : W} {pos : Pos}
end
end DL

namespace DL
open PySem PySem.Spec PyProof.Rows L2
/-! ### zip of lists and tuples in any mix -/
def SqG (k : Bool) (K : PySem.W.Frag) (H : Hp) (a : Addr) (xs : List V) : Prop := match k with
  | true => SqT K H a xs
  | false => SqL K H a xs
def ItA (k : Bool) (h : Heap) (it a : Addr) (i : Nat) : Prop := match k with
  | true => h.IsTupleIter it a i
  | false => h.IsListIter it a i
def ArA (k : Bool) (h : Heap) (a : Addr) (its : Array Value) : Prop := match k with
  | true => h.IsTuple a its
  | false => h.IsList a its
theorem draws_any {prog : Program} {w : World} {A : Around} (hh : A.handled = none) (k : Bool) (it a : Addr) (hne : a ≠ it) (its : Array Value) :
    Draws prog w A it [it, a] its.size (fun i v => its[i]? = some v) (fun i h => ItA k h it a i ∧ ArA k h a its) := by
  cases k
  · exact Draws.list hh it a hne its
  · exact Draws.tuple hh it a hne its
section
variable {X : Cx} {pins : List (Addr × Obj)} {σ : L2.St} {H : Hp} {s : Shared}
theorem inv_any (J : Inv X pins σ H s) {k : Bool} {a : Addr} {xs : List V} (h : SqG k X.K H a xs) : ∃ its : List Value, Vals xs its ∧ ArA k s.heap a its.toArray ∧ a < s.heap.objs.size := by
  cases k
  · obtain ⟨its, r, p, _⟩ := J.list h
    exact ⟨its, r, p.isList, p.lt⟩
  · obtain ⟨its, r, p, _⟩ := J.tuple h
    obtain ⟨o, ho, _⟩ := id p
    exact ⟨its, r, p, Heap.lt_size ho⟩
theorem sq_inj (J : Inv X pins σ H s) {k : Bool} {a : Addr} {xs ys : List V} (h : SqG k X.K H a xs) (g : SqG k X.K H a ys) : xs = ys := by
  cases k
  · exact J.list_inj h g
  · exact J.tuple_inj h g
theorem ita_at {k : Bool} {h h' : Heap} {it a : Addr} {i : Nat} (x : ItA k h it a i) (e : ∀ o, h.get? it = some o → h'.get? it = some o) : ItA k h' it a i := by
  cases k
  · exact Heap.IsListIter.at x e
  · exact Heap.IsTupleIter.at x e
theorem ita_obj {k : Bool} {h : Heap} {it a : Addr} {i : Nat} (x : ItA k h it a i) : ∃ o, h.get? it = some o ∧ ∀ v, o.data ≠ .cell v := by
  cases k
  · obtain ⟨o, e, _, d⟩ := x; exact ⟨o, e, fun v q => by rw [d] at q; cases q⟩
  · obtain ⟨o, e, _, d⟩ := x; exact ⟨o, e, fun v q => by rw [d] at q; cases q⟩
end
def ItzG (ka kb : Bool) (K : PySem.W.Frag) (a b : Addr) : It where
  go := fun i H => ∃ (xs ys : List V) (x y : V), SqG ka K H a xs ∧ SqG kb K H b ys ∧ xs[i]? = some x ∧ ys[i]? = some y
  yld := fun i H v H' => ∃ T x y, v = .ref T ∧ H T = none ∧ H' = upd H T (.tup [x, y]) ∧ (∀ xs, SqG ka K H a xs → xs[i]? = some x) ∧ ∀ ys, SqG kb K H b ys → ys[i]? = some y
  stop := fun i H => ∃ xs ys : List V, SqG ka K H a xs ∧ SqG kb K H b ys ∧ ((i = xs.length ∧ i ≤ ys.length) ∨ (i = ys.length ∧ i ≤ xs.length))
theorem sep_of {z TI TO i1 i2 a b : Addr} (D : ZipApart z TI TO i1 i2 a b) : ZipSep2 z TI TO i1 i2 [i1, a] [i2, b] where
  TIz := D.TIz
  TOz := D.TOz
  TITO := D.TITO
  TIi1 := D.TIi1
  mem1 := by simp
  zf1 := by simp [D.i1z.symm, D.l1z.symm]
  Tf1 := by simp [D.TOi1, D.l1TO.symm]
  TIi2 := D.TIi2
  mem2 := by simp
  zf2 := by simp [D.i2z.symm, D.l2z.symm]
  Tf2 := by simp [D.TOi2, D.l2TO.symm]
  sep1_2 := by simp [D.i12, D.l2i1.symm]
  sep2_1 := by simp [D.i12.symm, D.l1i2.symm]
theorem turn_any {P : Program} {w : World} {K : PySem.W.Frag} {elts : List Expr} {kk : Nat} {tpos : Pos} {ka kb : Bool} {a b z TI TO i1 i2 : Addr} (D : ZipApart z TI TO i1 i2 a b) :
    Turn P w K (.Tuple elts kk tpos) (ItzG ka kb K a b) [z, TI, TO, i1, i2] z (fun i h => IsZip h z TI TO .none ∧ IsPair h TI (.ref i1) (.ref i2) ∧ (∃ x y, IsPair h TO x y) ∧ ItA ka h i1 a i ∧ ItA kb h i2 b i) where
  mem := List.mem_cons_self
  obj := fun i h ⟨hz, hTI, ⟨x, y, hTO⟩, h1, h2⟩ c hc => by
    simp only [List.mem_cons, List.not_mem_nil, or_false] at hc
    rcases hc with q | q | q | q | q <;> subst q
    · exact ⟨_, hz, fun v q => nomatch q⟩
    · exact ⟨_, hTI, fun v q => nomatch q⟩
    · exact ⟨_, hTO, fun v q => nomatch q⟩
    · exact ita_obj h1
    · exact ita_obj h2
  keep := fun i h h' ⟨hz, hTI, ⟨x, y, hTO⟩, h1, h2⟩ k => ⟨k z (by simp) _ hz, k TI (by simp) _ hTI, ⟨x, y, k TO (by simp) _ hTO⟩, ita_at h1 fun o q => k i1 (by simp) o q, ita_at h2 fun o q => k i2 (by simp) o q⟩
  item := by
    rintro X rfl rfl rfl hc i pins s σ H E J hf ⟨hz, hTI, ⟨x0, y0, hTO⟩, h1, h2⟩ ⟨xs, ys, x, y, q1, q2, hx, hy⟩
    obtain ⟨us, ru, p1, _⟩ := inv_any J q1
    obtain ⟨vs, rv, p2, _⟩ := inv_any J q2
    obtain ⟨u, hu, rx⟩ := ru.get hx
    obtain ⟨v, hv, ry⟩ := rv.get hy
    have S := sep_of D
    have lu : i < us.toArray.size := by rw [List.size_toArray]; exact (List.getElem?_eq_some_iff.mp hu).1
    have lv : i < vs.toArray.size := by rw [List.size_toArray]; exact (List.getElem?_eq_some_iff.mp hv).1
    have hzl : z < s.heap.objs.size := Heap.lt_size hz
    refine wpAny_pyNext_zipD2_item S (draws_any (A := X.A.in1) (J.ok.hd hc) ka i1 a D.l1i1 us.toArray) (draws_any (A := X.A.in1) (J.ok.hd hc) kb i2 b D.l2i2 vs.toArray) hz hTI hTO ⟨h1, p1⟩ ⟨h2, p2⟩ lu lv fun u' v' h' tk e1 e2 z' TO' st1 st2 hT hsz hk => ?_
    obtain rfl : u' = u := by rw [List.getElem?_toArray, hu] at e1; exact (Option.some.inj e1).symm
    obtain rfl : v' = v := by rw [List.getElem?_toArray, hv] at e2; exact (Option.some.inj e2).symm
    refine ⟨_, rfl, wpAny_letOwnedTupleGo_zip (s := { s with heap := h', toks := tk }) z' fun h'' z'' sb => ?_⟩
    have hT2 : h''.get? s.heap.objs.size = some { cls := .type "tuple", data := .seq #[u', v'] } := (sb.2 _ (Nat.ne_of_gt hzl)).trans hT
    have new : ObjOk X.prog X.w (upd H s.heap.objs.size (.tup [x, y])) h'' s.heap.objs.size (.tup [x, y]) := ⟨by show 2 ≤ sizeLine; decide, [u', v'], .cons rx (.cons ry .nil), ⟨_, hT2, rfl, _, rfl⟩⟩
    have kp : ∀ c o, c ∉ [z, TI, TO, i1, i2] → s.heap.get? c = some o → h''.get? c = some o := fun c o hb q => by
      simp only [List.mem_cons, List.not_mem_nil, or_false, not_or] at hb
      exact (sb.2 c hb.1).trans (hk c o hb.1 hb.2.2.1 hb.2.2.2.1 hb.2.2.2.2 q)
    have J1 : Inv X pins σ (upd H s.heap.objs.size (.tup [x, y])) { s with heap := h'', toks := tk } := J.turnedNew (t' := tk) (ch := [z, TI, TO, i1, i2]) kp hf (Nat.le_refl _) new
    refine ⟨.ref s.heap.objs.size, _, J1, rfl, ⟨_, x, y, rfl, J.hok.fresh (Nat.le_refl _), rfl, fun l hl => by rw [sq_inj J hl q1]; exact hx, fun l hl => by rw [sq_inj J hl q2]; exact hy⟩,
      ⟨z'', (sb.2 _ D.TIz).trans (hk _ _ D.TIz D.TITO D.TIi1 D.TIi2 hTI), ⟨u', v', (sb.2 _ D.TOz).trans TO'⟩, ita_at st1.1 fun o q => (sb.2 _ D.i1z).trans q, ita_at st2.1 fun o q => (sb.2 _ D.i2z).trans q⟩, fun c hc2 => ?_⟩
    have hlt : c < s.heap.objs.size := by
      simp only [List.mem_cons, List.not_mem_nil, or_false] at hc2
      rcases hc2 with q | q | q | q | q <;> subst q
      · exact hzl
      · exact Heap.lt_size hTI
      · exact Heap.lt_size hTO
      · obtain ⟨_, e, _⟩ := ita_obj h1; exact Heap.lt_size e
      · obtain ⟨_, e, _⟩ := ita_obj h2; exact Heap.lt_size e
    rw [upd_ne (Nat.ne_of_lt hlt)]
    exact (hf c hc2).1
  done := by
    rintro X rfl rfl rfl hc i pins s σ H E J hf ⟨hz, hTI, ⟨x0, y0, hTO⟩, h1, h2⟩ ⟨xs, ys, q1, q2, hend⟩
    obtain ⟨us, ru, p1, _⟩ := inv_any J q1
    obtain ⟨vs, rv, p2, _⟩ := inv_any J q2
    have e1 := ru.length
    have e2 := rv.length
    refine wpAny_pyNext_zipD2_end (sep_of D) (draws_any (A := X.A.in1) (J.ok.hd hc) ka i1 a D.l1i1 us.toArray) (draws_any (A := X.A.in1) (J.ok.hd hc) kb i2 b D.l2i2 vs.toArray) hz hTI hTO ⟨h1, p1⟩ ⟨h2, p2⟩ (by simp only [List.size_toArray]; omega) (by simp only [List.size_toArray]; omega) (by simp only [List.size_toArray]; omega) fun h' tk hk => ⟨rfl, ?_⟩
    exact J.turnedL (t' := tk) (ch := [z, TI, TO, i1, i2]) (fun c o hb q => by
      simp only [List.mem_cons, List.not_mem_nil, or_false, not_or] at hb
      exact hk c o hb.1 hb.2.2.1 hb.2.2.2.1 hb.2.2.2.2 q) hf
  self := fun A i s Q E st h => wpAny_pyIter_zip st.1 h
theorem begins_any (k : Bool) (a : Addr) (its : Array Value) : ∃ o, Begins (.ref a) o (fun h => ArA k h a its) ∧ ∀ (h : Heap) (it : Addr), h.get? it = some o → ItA k h it a 0 := by
  cases k
  · exact ⟨_, begins_list a its, fun h it e => ⟨_, e, rfl, rfl⟩⟩
  · exact ⟨_, begins_tuple a its, fun h it e => ⟨_, e, rfl, rfl⟩⟩
def iZipG (K : PySem.W.Frag) (ta : TA) : L2.TI := fun σ H R => ta σ H fun vs H1 => ∃ a b xs ys ka kb, vs = [.ref a, .ref b] ∧ SqG ka K H1 a xs ∧ SqG kb K H1 b ys ∧ R (ItzG ka kb K a b) H1
theorem pi_zipG {X : Cx} {e e2 : Expr} {ta : TA} {p pos tpos : Pos} {elts : List Expr} {kk : Nat} (hg : Gl X "zip") (hm : X.mg "zip" = none) (ha : PA X [e, e2] ta)
    (hs : starEach [e, e2] X.env = (false, eval e X.env) :: starEach [e2] X.env := by rfl) (hpl : (backTo pos (starEach [e2] X.env)).any (·.1) = false := by rfl) :
    PI X (.Tuple elts kk tpos) (.Call (.Name "zip" p) [e, e2] [] pos) (iZipG X.K ta) := by
  refine ⟨fun pins s σ H R J h => ?_⟩
  refine Call_ (ld_blt J hg hm PyProof.Rows.boot_zip (PyProof.Rows.callWith_type1 (thn (ha.run pos pins s σ H _ J h) fun us s1 ⟨vs, H1, J1, r1, q⟩ => ?_) hs hpl))
  obtain ⟨a, b, xs, ys, ka, kb, rfl, q1, q2, fin⟩ := q
  cases r1 with
  | cons ra rr =>
    cases rr with
    | cons rb rr =>
      cases rr
      cases ra
      cases rb
      obtain ⟨us, ru, p1, l1⟩ := inv_any J1 q1
      obtain ⟨vs, rv, p2, l2⟩ := inv_any J1 q2
      obtain ⟨o1, B1, f1⟩ := begins_any ka a us.toArray
      obtain ⟨o2, B2, f2⟩ := begins_any kb b vs.toArray
      refine zip_begins2 B1 B2 p1 p2 fun h' hz hTI hTO g1 g2 hsz hk => wpAny_pyIter_zip hz ?_
      have J2 : Inv X pins σ H1 { s1 with heap := h' } := J1.kept (t' := s1.toks) hk
      refine ⟨s1.heap.objs.size + 4, [s1.heap.objs.size + 4, s1.heap.objs.size + 2, s1.heap.objs.size + 3, s1.heap.objs.size, s1.heap.objs.size + 1], _, _, H1, rfl, J2, turn_any (PySem.W.ktu_apart s1.heap.objs.size a b l1 l2), ⟨hz, hTI, ⟨_, _, hTO⟩, f1 _ _ g1, f2 _ _ g2⟩, fun c hcm => ?_, fin⟩
      have hle : s1.heap.objs.size ≤ c := by
        simp only [List.mem_cons, List.not_mem_nil, or_false] at hcm
        rcases hcm with z | z | z | z | z
        · rw [z]; exact Nat.le_add_right _ _
        · rw [z]; exact Nat.le_add_right _ _
        · rw [z]; exact Nat.le_add_right _ _
        · rw [z]; exact Nat.le_refl _
        · rw [z]; exact Nat.le_add_right _ _
      exact J1.fpOk hle (J1.hok.fresh hle)
theorem walk_any {ka kb : Bool} {K : PySem.W.Frag} {a b : Addr} {xs ys : List D} : Walk (ItzG ka kb K a b) (zipD xs ys).length (fun H => (∃ vs, SqG ka K H a vs ∧ RpIs K H xs vs) ∧ ∃ vs, SqG kb K H b vs ∧ RpIs K H ys vs)
    (fun i H v H' => Ext H H' ∧ ∃ d, (zipD xs ys)[i]? = some d ∧ RpI K H' d v) := by
  rw [zipD_len]
  refine ⟨fun i H hi ⟨⟨vs, s, r⟩, us, s2, r2⟩ => ?_, fun H ⟨⟨vs, s, r⟩, us, s2, r2⟩ => ⟨vs, us, s, s2, by rw [← r.length, ← r2.length]; omega⟩, fun i H v H' hi ⟨⟨vs, s, r⟩, us, s2, r2⟩ y => ?_⟩
  · obtain ⟨v, e, _⟩ := r.get (List.getElem?_eq_getElem (show i < xs.length by omega))
    obtain ⟨u, e2, _⟩ := r2.get (List.getElem?_eq_getElem (show i < ys.length by omega))
    exact ⟨vs, us, v, u, s, s2, e, e2⟩
  · obtain ⟨T, x, z, rfl, hT, rfl, h4, h5⟩ := y
    obtain ⟨d1, e1, r1⟩ := r.get' (h4 vs s)
    obtain ⟨d2, e2, r2'⟩ := r2.get' (h5 us s2)
    have ex : Ext H (upd H T (.tup [x, z])) := .new hT
    refine ⟨ex, _, zipD_get xs ys i d1 d2 e1 e2, ?_⟩
    simp only [RpI, RpIs]
    exact ⟨T, _, rfl, upd_same, x, _, rfl, RpI.kp ex.kp _ _ r1, z, _, rfl, RpI.kp ex.kp _ _ r2', rfl⟩
theorem src_any {K : PySem.W.Frag} {np : Nat} {He : Hp} {σ : L2.St} {H H1 : Hp} {env e1 : DEnv} {v : V} {r : RV} {k : List D → List (Nat × List D) → Prop} (R : Rep K np He σ H env) (s1 : SE K np He σ H env H1 e1) (h : RpR K σ H H1 e1 v r) (g : srcR e1 r k) :
    ∃ ds chk a kd, k ds chk ∧ v = .ref a ∧ (∀ p ∈ chk, e1[p.1]? = some (some (D.lst p.2))) ∧ ∀ H' : Hp, Stay K np He σ H H1 e1 chk H' → ∃ vs, SqG kd K H' a vs ∧ RpIs K H' ds vs := by
  obtain ⟨ds, chk, a, h1, h2, h3, h4⟩ := src_at R s1 h g
  rcases h4 with h4 | h4
  · exact ⟨ds, chk, a, false, h1, h2, h3, h4⟩
  · exact ⟨ds, chk, a, true, h1, h2, h3, h4⟩
section
variable {X : Cx} {np : Nat} {He : Hp} {a b : Expr} {wa wb : W} {pos : Pos}
def iZG (wa wb : W) : WI := fun env Q => wa env fun ra e1 => wb e1 fun rb e2 => srcR e2 ra fun xs c1 => srcR e2 rb fun ys c2 => Q ⟨zipD xs ys, c1 ++ c2⟩ e2
theorem i_zipG {elts : List Expr} {kk : Nat} {tpos p : Pos} (hm : X.mg "zip" = none) (ha : DE X np He a wa) (hb : DE X np He b wb) (hg : Gl X "zip" := by rfl) (hs : starEach [a, b] X.env = (false, eval a X.env) :: starEach [b] X.env := by rfl) (hs2 : starEach [b] X.env = (false, eval b X.env) :: starEach [] X.env := by rfl) (hpl : (backTo pos (starEach [b] X.env)).any (·.1) = false := by rfl) :
    DI X np He (.Tuple elts kk tpos) (.Call (.Name "zip" p) [a, b] [] pos) (iZG wa wb) := by
  refine PI.weak (pi_zipG hg hm (pa_cons ha (pa_cons hb pa_nil hs2) hs) hs hpl) fun σ H R ⟨env, Q0, Rp, w, q⟩ => ⟨env, _, Rp, w, fun ra e1 v1 H1 w1 s1 r1 => ⟨e1, _, s1.rep, w1, fun rb e2 v2 H2 w2 s2 r2 => ?_⟩⟩
  have s12 := s1.trans s2
  obtain ⟨xs, c1, a1, ka, w2, rfl, hc1, st1⟩ := src_any Rp s12 (r1.keep Rp s1 s2) w2
  obtain ⟨ys, c2, a2, kb, w2, rfl, hc2, st2⟩ := src_any Rp s12 (r2.start s1) w2
  obtain ⟨vs, sv, _⟩ := st1 H2 (Stay.here s12.rep hc1)
  obtain ⟨us, su, _⟩ := st2 H2 (Stay.here s12.rep hc2)
  refine ⟨a1, a2, vs, us, ka, kb, rfl, sv, su, q ⟨zipD xs ys, c1 ++ c2⟩ e2 H2 _ _ _ w2 s12 walk_any (fun p hp => ?_) (fun i H3 x H4 hi y _ => y) (fun H' st => ?_)⟩
  · rcases List.mem_append.mp hp with z | z
    · exact hc1 p z
    · exact hc2 p z
  · exact ⟨st1 H' (st.sub fun p z => List.mem_append_left _ z), st2 H' (st.sub fun p z => List.mem_append_right _ z)⟩
end
end DL

namespace DL
open PySem PySem.Spec PyProof.Rows L2
/-! ### == and != of data at any depth -/
mutual
def toP : D → PyData
  | .non => .none
  | .bl b => .bool b
  | .int i => .int i
  | .str x => .str x
  | .tup ds => .tuple (toPs ds)
  | .lst ds => .list (toPs ds)
  | .rol ds => .list (toPs ds)
  | .tpd ds => .tuple (toPs ds)
  | .rod _ _ => .dict []
  | .rdk _ _ => .dict []
  | .obj _ _ => .dict []
def toPs : List D → List PyData
  | [] => []
  | d :: ds => toP d :: toPs ds
end
theorem lay_cons {d : D} {ds : List D} (h : PyData.canLayAll0 (toPs (d :: ds)) = true) : (toP d).canLay0 = true ∧ PyData.canLayAll0 (toPs ds) = true := by
  simpa only [toPs, PyData.canLayAll0, Bool.and_eq_true] using h
mutual
theorem RpI.dp {K : PySem.W.Frag} {H : Hp} : ∀ (d : D) (v : V), (toP d).canLay0 = true → RpI K H d v → Dp K H v (toP d)
  | .non, v, _, h => by cases h; exact .non
  | .bl b, v, _, h => by cases h; exact .bl b
  | .int i, v, _, h => by cases h; exact .int i
  | .str x, v, _, h => by cases h; exact .str x
  | .tup ds, v, l, h => by
    simp only [RpI] at h
    obtain ⟨a, vs, rfl, s, r⟩ := h
    exact .tup (.of s) (RpIs.dp ds vs (by simpa only [toP, PyData.canLay0] using l) r)
  | .tpd ds, v, l, h => by
    simp only [RpI] at h
    obtain ⟨a, vs, rfl, s, r⟩ := h
    exact .tup s.t (RpIs.dp ds vs (by simpa only [toP, PyData.canLay0] using l) r)
  | .rol ds, v, l, h => by
    simp only [RpI] at h
    obtain ⟨a, vs, rfl, s, r⟩ := h
    exact .lst s.seq (RpIs.dp ds vs (by simpa only [toP, PyData.canLay0] using l) r)
  | .lst ds, v, _, h => by simp only [RpI] at h
  | .rod _ _, v, l, h => by simp [toP, PyData.canLay0] at l
  | .rdk _ _, v, l, h => by simp [toP, PyData.canLay0] at l
  | .obj _ _, v, l, h => by simp [toP, PyData.canLay0] at l
theorem RpIs.dp {K : PySem.W.Frag} {H : Hp} : ∀ (ds : List D) (vs : List V), PyData.canLayAll0 (toPs ds) = true → RpIs K H ds vs → DpAll K H vs (toPs ds)
  | [], vs, _, h => by simp only [RpIs] at h; subst h; exact .nil
  | d :: ds, vs, l, h => by
    simp only [RpIs] at h
    obtain ⟨v, r, rfl, h1, h2⟩ := h
    exact .cons (RpI.dp d v (lay_cons l).1 h1) (RpIs.dp ds r (lay_cons l).2 h2)
end
theorem RpV.dp {K : PySem.W.Frag} {H : Hp} {d : D} {v : V} (h : RpV K H d v) (l : (toP d).canLay0 = true) : Dp K H v (toP d) := by
  cases d with
  | lst ds =>
    obtain ⟨a, vs, rfl, e, r⟩ := h
    exact .lst (.of e) (RpIs.dp ds vs (by simpa only [toP, PyData.canLay0] using l) r)
  | _ => exact RpI.dp _ v l (h.imm rfl)
section
variable {X : Cx} {np : Nat} {He : Hp} {a b : Expr} {wa wb : W} {pos : Pos}
variable (hu : X.A.units + 64 < cLine) (ha : DE X np He a wa) (hb : DE X np He b wb)
include hu ha hb
end
/-! ### trees of ints and None -/
end DL

namespace DL
open PySem PySem.Spec PyProof.Rows L2
/-! ### sorted: lists of triples of ints, of any length -/
abbrev T3 := Int × Int × Int
def IsT3 (h : Heap) (v : Value) (q : T3) : Prop := ∃ a o t u w n, v = .ref a ∧ h.get? a = some o ∧ o.cls = .type "tuple" ∧ o.data = .seq #[.int q.1 t, .int q.2.1 u, .int q.2.2 w] n
theorem IsT3.on {h h' : Heap} {v : Value} {q : T3} (x : IsT3 h v q) (k : ∀ b o, h.get? b = some o → o.cls = .type "tuple" → h'.get? b = some o) : IsT3 h' v q := by
  obtain ⟨a, o, t, u, w, n, e, ho, hc, hd⟩ := x
  exact ⟨a, o, t, u, w, n, e, k a o ho hc, hc, hd⟩
section
variable {prog : Program} {w : World} {A : Around} {E : Value → Shared → Prop} {s : Shared}
end
theorem IsT3.inj {h : Heap} {v : Value} {q r : T3} (x : IsT3 h v q) (y : IsT3 h v r) : q = r := by
  obtain ⟨a, o, t, u, w, n, e, ho, hc, hd⟩ := x
  obtain ⟨a', o', t', u', w', n', e', ho', hc', hd'⟩ := y
  rw [e] at e'
  cases e'
  rw [ho] at ho'
  cases ho'
  rw [hd] at hd'
  obtain ⟨q1, q2, q3⟩ := q
  obtain ⟨r1, r2, r3⟩ := r
  simp at hd'
  obtain ⟨⟨⟨h1, _⟩, ⟨h2, _⟩, h3, _⟩, _⟩ := hd'
  rw [h1, h2, h3]
def Trp (K : PySem.W.Frag) (H : Hp) (x : V) (q : T3) : Prop := ∃ t, x = V.ref t ∧ SqT K H t [.int q.1, .int q.2.1, .int q.2.2]
section
variable {X : Cx}
theorem Trp.at {pins : List (Addr × Obj)} {σ : L2.St} {H : Hp} {s : Shared} (J : Inv X pins σ H s) {x : V} {u : Value} {q : T3} (t : Trp X.K H x q) (r : RelV x u) : IsT3 s.heap u q := by
  obtain ⟨a, rfl, h⟩ := t
  obtain rfl : u = Value.ref a := r
  obtain ⟨its, rv, ⟨o, ho, hc, n, hd⟩, _⟩ := J.tuple h
  cases rv with
  | cons r1 rr =>
    cases rr with
    | cons r2 rr =>
      cases rr with
      | cons r3 rr =>
        cases rr
        obtain ⟨t1, rfl⟩ := r1
        obtain ⟨t2, rfl⟩ := r2
        obtain ⟨t3, rfl⟩ := r3
        exact ⟨a, o, t1, t2, t3, n, rfl, ho, hc, hd⟩
end
section
variable {X : Cx} {np : Nat} {He : Hp} {a : Expr} {wa : W} {pos : Pos}
end
end DL

namespace DL
open PySem PySem.Spec PyProof.Rows L2
/-! ### defs with one keyword-only parameter whose default is None -/
structure FnKD (P : Program) (w : World) (K : PySem.W.Frag) (mg : Str → Option Value) (base : Heap) (k : Nat) (x : Str) (ps ks : List Str) (sp : FSpec) : Prop where
  ex : ∃ f fd u, FnOk P w K mg base CX0 k f fd ps (spOf K ps.length sp) ∧ mg x = some (.ref f) ∧ PySem.W.keepIn K (.ref f) = true ∧ KBn K fd ps 1 ks (fun us ws => us ++ ws) (fun vs zs => vs ++ zs) ∧ Binds K fd ps [u] ∧ RelV V.non u
section
variable {X : Cx} {np : Nat} {He : Hp} {a b : Expr} {wa wb : W} {pos : Pos}
end
end DL

set_option maxHeartbeats 2000000
/-! ### ranges of any size, from either end -/
namespace PySem
open Sem (wp)
section
variable {prog : Program} {w : World} {A : Around} {E : Value → Shared → Prop} {s : Shared} {r : Addr} {a b c : Int} {t u v : Tok}
end
end PySem
namespace DL
open PySem PySem.Spec PyProof.Rows L2
section
variable {X : Cx} {np : Nat} {He : Hp} {tg a b : Expr} {wa wb : W} {pos : Pos}
end
end DL

set_option maxHeartbeats 2000000
/-! ### an int's bits as a text, and how many of them are 1 -/
namespace DL
open PySem PySem.Spec PyProof.Rows L2 Builtin Float
section
variable {prog : Program} {w : World} {A : Around} {E : Value → Shared → Prop} {s : Shared}
end
end DL

set_option maxHeartbeats 2000000
namespace DL
open PySem PySem.Spec PyProof.Rows L2 Builtin
section
variable {X : Cx} {np : Nat} {He : Hp} {a : Expr} {wa : W} {pos : Pos}
end
/-! ### how many -/
end DL

namespace DL
open PySem PySem.Spec PyProof.Rows L2
section
variable {X : Cx} {np : Nat} {He : Hp} {a : Expr} {wa : W} {pos : Pos}
/-! ### the least and the greatest of a list of ints -/
def fMaxL : FA := onL fun xs k => match intsD xs with
  | some ns => 0 < ns.length ∧ ∀ m, m ∈ ns → (∀ y, y ∈ ns → y ≤ m) → k (.int m)
  | none => False
theorem e_maxL {p : Pos} (hc : X.calm = true) (hm : X.mg "max" = none) (ha : DE X np He a wa) (hg : Gl X "max" := by rfl) (he : starEach [a] X.env = (false, eval a X.env) :: starEach [] X.env := by rfl) :
    DE X np He (.Call (.Name "max" p) [a] [] pos) (cBi fMaxL (cCons wa cNil)) := by
  refine e_bi (cr_max hc) ?_ hm (by decide +kernel) (a_cons ha a_nil he) hg (he := he)
  intro H ds vs k Q r h q
  obtain ⟨xs, e0, g⟩ := onL_of h
  subst e0
  obtain ⟨v, rfl, rv⟩ := r.one
  obtain ⟨p, us, rfl, s, ru⟩ := rv
  split at g
  · rename_i ns e
    have e2 := intsD_ok ru e
    subst e2
    exact ⟨p, ns, rfl, .of s, g.1, fun m h1 h2 => q _ _ H (g.2 m h1 h2) (.refl H) rfl (fun n => by simp [isL] at n)⟩
  · exact g.elim
end
end DL

namespace DL
open PySem PySem.Spec PyProof.Rows L2
/-! ### texts -/
def strsD : List D → Option (List Str)
  | [] => some []
  | .str x :: r => (strsD r).map (x :: ·)
  | _ :: _ => none
theorem strsD_ok {K : PySem.W.Frag} {H : Hp} : ∀ {ds : List D} {vs : List V} {ns : List Str}, RpIs K H ds vs → strsD ds = some ns → vs = ns.map V.str
  | [], vs, ns, r, h => by
    simp only [RpIs] at r
    simp only [strsD, Option.some.injEq] at h
    subst r h
    rfl
  | d :: ds, vs, ns, r, h => by
    cases d <;> first | (simp only [strsD] at h; cases h; done) | skip
    simp only [RpIs, RpI] at r
    obtain ⟨v, r', rfl, rfl, h2⟩ := r
    simp only [strsD, Option.map_eq_some_iff] at h
    obtain ⟨ms, e, rfl⟩ := h
    rw [List.map_cons, strsD_ok h2 e]
theorem strsD_map (ns : List Str) : strsD (ns.map D.str) = some ns := by
  induction ns with
  | nil => rfl
  | cons n r ih => simp [strsD, ih]
def fIxS : F2 := fun x y k => match x, y with
  | .str z, .int i => z.length ≤ 1000000 ∧ (match L2.atI z.cps.toList i with
    | some c => k (.str ⟨#[c]⟩)
    | none => False)
  | _, _ => False
def fAddS : F2 := fun x y k => match x, y with
  | .str a, .str b => a.length + b.length ≤ 1000000 ∧ k (.str (a ++ b))
  | _, _ => False
def fJoin (z : Str) : F1 := fun x k => match x with
  | .lst xs => (match strsD xs with
    | some ys => (ys.map (·.length)).sum + ys.length * z.length ≤ 16777216 ∧ k (.str (Txt.join z ys))
    | none => False)
  | _ => False
def fSortS : FA := onL fun xs k => match strsD xs with
  | some zs => zs.length < 64 ∧ ∀ ys : List Str, ys.Perm zs → sortedS ys = true → k (.lst (ys.map D.str))
  | none => False
section
variable {X : Cx} {np : Nat} {He : Hp} {a b : Expr} {wa wb : W} {pos : Pos}
theorem opd_ixS : OpD X.K rIxS fIxS := by
  intro H x y v w k Q rx ry h q
  unfold fIxS at h
  split at h
  · cases rx; cases ry
    obtain ⟨h1, h⟩ := h
    split at h
    · rename_i c e
      exact ⟨_, _, c, rfl, rfl, line_of h1, e, q _ _ H h (.refl H) rfl (fun n => by simp [isL] at n)⟩
    · exact h.elim
  · exact h.elim
theorem e_ixStr (ha : DE X np He a wa) (hb : DE X np He b wb) (hs : PlainIx b := by exact fun _ _ => rfl) : DE X np He (.Subscript a b pos) (cOp fIxS wa wb) := e_ix ix_str opd_ixS ha hb hs
theorem e_addS (ha : DE X np He a wa) (hb : DE X np He b wb) : DE X np He (.BinOp a .Add b pos) (cOp fAddS wa wb) := by
  refine e_op op_add_str ?_ ha hb
  intro H x y v w k Q rx ry h q
  unfold fAddS at h
  split at h
  · cases rx; cases ry
    exact ⟨_, _, rfl, rfl, line_of h.1, q _ _ H h.2 (.refl H) rfl (fun n => by simp [isL] at n)⟩
  · exact h.elim
theorem e_join {z : Str} {j : Nat} {p apos : Pos} (ha : DE X np He a wa) (hs : starEach [a] X.env = [(false, eval a X.env)] := by rfl) (hbase : attributeBase (.Constant (.str z) j p) "join" X.env (eval (.Constant (.str z) j p) X.env) = eval (.Constant (.str z) j p) X.env := by rfl) (hline : (apos.endLine == pos.line) = true := by rfl) :
    DE X np He (.Call (.Attribute (.Constant (.str z) j p) "join" apos) [a] [] pos) (cUn (fJoin z) wa) := by
  refine PE.weak (pe_join pe_str ha hs hbase hline) fun σ H Q ⟨env, Q0, R, w, q⟩ => ⟨⟨z, rfl⟩, env, _, R, w, fun ra e1 v1 H1 w1 s1 r1 => ?_⟩
  obtain ⟨x, hx, w1⟩ := r1.rs s1.rep w1
  unfold fJoin at w1
  split at w1
  · rename_i xs
    obtain ⟨p, us, rfl, s, ru⟩ := hx
    split at w1
    · rename_i ys e
      have e2 := strsD_ok ru e
      subst e2
      exact ⟨z, p, ys, rfl, rfl, .inl (.of s), w1.1, q _ e1 _ H1 w1.2 s1 ⟨rfl, fun n => by simp [isL] at n⟩⟩
    · exact w1.elim
  · exact w1.elim
theorem e_sortedS {p : Pos} (hc : X.calm = true) (hm : X.mg "sorted" = none) (ha : DE X np He a wa) (hg : Gl X "sorted" := by rfl) (he : starEach [a] X.env = (false, eval a X.env) :: starEach [] X.env := by rfl) :
    DE X np He (.Call (.Name "sorted" p) [a] [] pos) (cBi fSortS (cCons wa cNil)) := by
  refine e_bi cr_sortedS ?_ hm PyProof.Rows.boot_sorted (a_cons ha a_nil he) hg (he := he)
  intro H ds vs k Q r h q
  obtain ⟨xs, e0, g⟩ := onL_of h
  subst e0
  obtain ⟨v, rfl, rv⟩ := r.one
  obtain ⟨p, us, rfl, s, ru⟩ := rv
  split at g
  · rename_i zs e
    have e2 := strsD_ok ru e
    subst e2
    refine ⟨p, zs, rfl, .of s, g.1, fun ys p3 h1 h2 n3 => q (.lst (ys.map D.str)) _ _ (g.2 ys h1 h2) (.new n3) ⟨p3, ys.map V.str, rfl, upd_same, ?_⟩ (fun _ b e => by cases e; exact n3)⟩
    have go : ∀ (K : PySem.W.Frag) (G : Hp) (l : List Str), RpIs K G (l.map D.str) (l.map V.str) := fun K G l => by
      induction l with
      | nil => exact rfl
      | cons m r ih => exact ⟨_, _, rfl, rfl, ih⟩
    exact go _ _ _
  · exact g.elim
end
end DL

namespace DL
open PySem PySem.Spec PyProof.Rows L2
/-! ### texts, sign by sign -/
section
variable {X : Cx} {np : Nat} {He : Hp} {a b tg : Expr} {wa wb : W} {pos : Pos}
end
end DL

namespace DL
open PySem PySem.Spec PyProof.Rows L2
/-! ### max of a list of ints with a default -/
section
variable {X : Cx} {np : Nat} {He : Hp} {a b : Expr} {wa wb : W} {pos : Pos}
/-! ### written tuples and tables of texts -/
def StrsV : List Value → List Str → Prop
  | [], [] => True
  | .str x _ :: r, y :: s => x = y ∧ StrsV r s
  | _, _ => False
theorem StrsV.vals : ∀ {vs : List Value} {ys : List Str}, StrsV vs ys → Vals (ys.map V.str) vs
  | [], [], _ => .nil
  | .str x t :: r, y :: s, h => .cons ⟨t, by rw [h.1]⟩ (StrsV.vals h.2)
  | [], _ :: _, h => h.elim
  | .str _ _ :: _, [], h => h.elim
structure TupT (K : PySem.W.Frag) (t : Addr) (ys : List Str) : Prop where
  ex : ∃ (o : Obj) (its : Array Value) (n : Nat), K.lookup t = some o ∧ o.cls = .type "tuple" ∧ o.dict = none ∧ o.data = .seq its n ∧ its.size ≤ sizeLine ∧ StrsV its.toList ys
theorem rpIs_strs {K : PySem.W.Frag} {H : Hp} : ∀ ys : List Str, RpIs K H (ys.map D.str) (ys.map V.str)
  | [] => by simp only [List.map_nil, RpIs]
  | y :: r => by
    simp only [List.map_cons, RpIs]
    exact ⟨_, _, rfl, rfl, rpIs_strs r⟩
theorem TupT.rp {K : PySem.W.Frag} {t : Addr} {ys : List Str} (T : TupT K t ys) (H : Hp) : RpV K H (.tpd (ys.map D.str)) (.ref t) := by
  obtain ⟨o, its, n, h1, h2, h2', h3, h4, h5⟩ := T.ex
  show RpI _ _ _ _
  simp only [RpI]
  exact ⟨t, _, rfl, .inr ⟨o, its, n, h1, h2, h2', h3, h4, h5.vals⟩, rpIs_strs ys⟩
structure GlbT (K : PySem.W.Frag) (mg : Str → Option Value) (x : Str) (ys : List Str) : Prop where
  ex : ∃ t, mg x = some (.ref t) ∧ TupT K t ys
abbrev Tbl := List (Str × List Str)
def AllT (K : PySem.W.Frag) (a : Addr) : Tbl → Prop
  | [] => True
  | p :: r => (∃ t, PySem.W.nsIn K a p.1 = some (some (.ref t)) ∧ TupT K t p.2) ∧ AllT K a r
theorem AllT.at {K : PySem.W.Frag} {a : Addr} : ∀ {T : Tbl}, AllT K a T → ∀ {z : Str} {ys : List Str}, (z, ys) ∈ T → ∃ t, PySem.W.nsIn K a z = some (some (.ref t)) ∧ TupT K t ys
  | [], _, _, _, h => by cases h
  | p :: r, ⟨h1, h2⟩, z, ys, h => by
    rcases List.mem_cons.mp h with e | h
    · rw [← e] at h1; exact h1
    · exact AllT.at h2 h
structure DctT (w : World) (K : PySem.W.Frag) (mg : Str → Option Value) (x : Str) (T : Tbl) : Prop where
  ex : ∃ a es n, mg x = some (.ref a) ∧ K.lookup a = some ⟨.type "dict", none, .dict es n, #[]⟩ ∧ PySem.W.KeysLit w.params es.toList ∧ AllT K a T
theorem TupT.mk' {K : PySem.W.Frag} {t : Addr} {ys : List Str} {o : Obj} {its : Array Value} {n : Nat} (h1 : K.lookup t = some o) (h2 : o.cls = .type "tuple") (h2' : o.dict = none) (h3 : o.data = .seq its n) (h4 : its.size ≤ sizeLine) (h5 : StrsV its.toList ys) : TupT K t ys := ⟨⟨o, its, n, h1, h2, h2', h3, h4, h5⟩⟩
theorem GlbT.mk' {K : PySem.W.Frag} {mg : Str → Option Value} {x : Str} {ys : List Str} {t : Addr} (h1 : mg x = some (.ref t)) (h2 : TupT K t ys) : GlbT K mg x ys := ⟨⟨t, h1, h2⟩⟩
theorem AllT.cons' {K : PySem.W.Frag} {a t : Addr} {z : Str} {ys : List Str} {r : Tbl} (h1 : PySem.W.nsIn K a z = some (some (.ref t))) (h2 : TupT K t ys) (h3 : AllT K a r) : AllT K a ((z, ys) :: r) := ⟨⟨t, h1, h2⟩, h3⟩
theorem DctT.mk' {w : World} {K : PySem.W.Frag} {mg : Str → Option Value} {x : Str} {T : Tbl} {a : Addr} {es : Array DictEntry} {n : Nat} (h1 : mg x = some (.ref a)) (h2 : K.lookup a = some ⟨.type "dict", none, .dict es n, #[]⟩) (h3 : PySem.W.KeysLit w.params es.toList) (h4 : AllT K a T) : DctT w K mg x T := ⟨⟨a, es, n, h1, h2, h3, h4⟩⟩
/-- d[x] of a written table -/
def cItm (T : Tbl) (wb : W) : W := fun env Q => wb env fun rb e1 => rs e1 rb fun d => match d with
  | .str z => ∃ ys, (z, ys) ∈ T ∧ Q (.val (.tpd (ys.map D.str))) e1
  | _ => False
theorem e_itm {x : Str} {p : Pos} {T : Tbl} (G : DctT X.w X.K X.mg x T) (hb : DE X np He b wb) (hg : Gl X x := by rfl) (hd : (x == ("__debug__" : Str)) = false := by decide) (hs : PlainIx b := by exact fun _ _ => rfl) : DE X np He (.Subscript (.Name x p) b pos) (cItm T wb) := by
  obtain ⟨a, es, n, hm, hl, hk, hT⟩ := G.ex
  refine PE.weak (pe_ix ix_kdict (pe_glob (v := .ref a) hg hm rfl hd) hb hs) fun σ H Q ⟨env, Q0, R, w, q⟩ => ?_
  refine ⟨env, _, R, w, fun rb e1 v1 H1 w1 s1 r1 => ?_⟩
  obtain ⟨d, hdv, w1⟩ := r1.rs s1.rep w1
  cases d <;> first | exact False.elim w1 | skip
  rename_i z
  obtain ⟨ys, hz, w1⟩ := w1
  obtain ⟨t, h1, h2⟩ := hT.at hz
  exact ⟨a, z, .ref t, rfl, hdv, ⟨es, n, _, hl, hk, h1, rfl⟩, q _ e1 _ H1 w1 s1 ⟨h2.rp H1, fun n => by simp [isL] at n⟩⟩
end
end DL

namespace DL
open PySem PySem.Spec PyProof.Rows L2
/-! ### sorted(set(a list of ints)) -/
section
variable {P : Program} {w : World} {A : Around} {E : Value → Shared → Prop} {s : Shared}
end
section
variable {X : Cx}
end
section
variable {X : Cx} {np : Nat} {He : Hp} {a : Expr} {wa : W} {pos pos2 : Pos}
end
end DL

namespace DL
open PySem PySem.Spec PyProof.Rows L2
/-! ### sets of texts -/
def txV : Value → Str
  | .str x _ => x
  | _ => Str.empty
def tx (p : Int × Value) : Str := txV p.2
abbrev TK (P : Program) (w : World) := PySem.strKind P w
/-- the set at c holds just the texts of M, and can be walked -/
structure TxS (P : Program) (w : World) (g : Heap) (c : Addr) (M : List Str) : Prop where
  ex : ∃ ob en pe tb, (g.get? c = some ob ∧ ob.ExactSet ∧ ob.data = .set en pe tb) ∧ (ElemsOf (TK P w) en.toList ∧ (en.toList.map tx).Nodup ∧ ∀ z, z ∈ en.toList.map tx ↔ z ∈ M) ∧
    (en.size ≤ M.length ∧ en.size < scanBound) ∧ tb.fits en.size = true ∧ Ris tb.place.toList ∧ (w.params.followText "set-order" = true ∨ tb.led = true)
section
variable {P : Program} {w : World} {A : Around} {E : Value → Shared → Prop} {s : Shared} {c : Addr} {M : List Str}
theorem TxS.stays {g g' : Heap} (T : TxS P w g c M) (k : ∀ u, g.get? c = some u → g'.get? c = some u) : TxS P w g' c M := by
  obtain ⟨ob, en, pe, tb, ⟨h1, h2⟩, r⟩ := T.ex
  exact ⟨ob, en, pe, tb, ⟨k ob h1, h2⟩, r⟩
end
end DL

namespace DL
open PySem PySem.Spec PyProof.Rows L2
/-! ### sorted(set(texts)) -/
/-- a set of texts among the objects -/
def tsO (P : Program) (w : World) (c : Addr) (M : List Str) : HO := .ext fun g => TxS P w g c M
theorem TxS.obj {P : Program} {w : World} {H : Hp} {g : Heap} {c : Addr} {M : List Str} (T : TxS P w g c M) : ObjOk P w H g c (tsO P w c M) := by
  obtain ⟨ob, _, _, _, ⟨h1, _⟩, _⟩ := T.ex
  exact ⟨T, ⟨ob, h1⟩, fun _ _ t k => TxS.stays t k⟩
section
variable {X : Cx}
end
section
variable {X : Cx} {np : Nat} {He : Hp} {a : Expr} {wa : W} {pos pos2 : Pos}
end
end DL

namespace DL
open PySem PySem.Spec PyProof.Rows L2
/-! ### enumerate of a list or a tuple -/
section
variable {X : Cx} {np : Nat} {He : Hp} {a : Expr} {wa : W} {pos : Pos}
end
end DL

namespace DL
open PySem PySem.Spec PyProof.Rows L2 PySem.Calls
/-! ### sorted of a tuple of texts -/
section
variable {P : Program} {w : World} {A : Around} {E : Value → Shared → Prop} {s : Shared}
end
section
variable {X : Cx}
end
section
variable {X : Cx} {np : Nat} {He : Hp} {a : Expr} {wa : W} {pos : Pos}
end
end DL

set_option maxHeartbeats 1000000
namespace DL
open PySem PySem.Spec PyProof.Rows L2
/-! ### str of a whole number or a text -/
def decS (i : Int) : Str := toString i
section
variable {X : Cx} {np : Nat} {He : Hp} {a : Expr} {wa : W} {pos : Pos}
theorem call_str2 : CallR X (.type "str") (fun xs H Q => (∃ i, xs = [.int i] ∧ i.natAbs.log2 < 1920 ∧ Q (.str (decS i)) H) ∨ ∃ x, xs = [.str x] ∧ Q (.str x) H) := by
  intro pins s σ H xs us Q I r h
  rcases h with h | h
  · exact call_str_int pins s σ H xs us Q I r h
  · exact SkE.call_str_str pins s σ H xs us Q I r h
def fStrX : FA := on1 fun d k => match d with
  | .int i => i.natAbs.log2 < 1920 ∧ k (.str (decS i))
  | .str x => k (.str x)
  | _ => False
theorem e_strX {p : Pos} (hm : X.mg "str" = none) (ha : DE X np He a wa) (hg : Gl X "str" := by rfl) (he : starEach [a] X.env = (false, eval a X.env) :: starEach [] X.env := by rfl) :
    DE X np He (.Call (.Name "str" p) [a] [] pos) (cBi fStrX (cCons wa cNil)) := by
  refine e_ty call_str2 ?_ hm (by decide +kernel) (a_cons ha a_nil he) hg (he := he)
  intro H ds vs k Q r h q
  obtain ⟨d, rfl, h⟩ := on1_of h
  obtain ⟨v, rfl, rv⟩ := r.one
  cases d <;> first | exact h.elim | skip
  · cases rv
    exact .inl ⟨_, rfl, h.1, q _ _ H h.2 (.refl H) rfl (fun n => by simp [isL] at n)⟩
  · cases rv
    exact .inr ⟨_, rfl, q _ _ H h (.refl H) rfl (fun n => by simp [isL] at n)⟩
def fJoinT (z : Str) : F1 := fun x k => match x with
  | .tup xs => (match strsD xs with
    | some ys => (ys.map (·.length)).sum + ys.length * z.length ≤ 16777216 ∧ k (.str (Txt.join z ys))
    | none => False)
  | _ => False
theorem e_joinT {z : Str} {j : Nat} {p apos : Pos} (ha : DE X np He a wa) (hs : starEach [a] X.env = [(false, eval a X.env)] := by rfl) (hbase : attributeBase (.Constant (.str z) j p) "join" X.env (eval (.Constant (.str z) j p) X.env) = eval (.Constant (.str z) j p) X.env := by rfl) (hline : (apos.endLine == pos.line) = true := by rfl) :
    DE X np He (.Call (.Attribute (.Constant (.str z) j p) "join" apos) [a] [] pos) (cUn (fJoinT z) wa) := by
  refine PE.weak (pe_join pe_str ha hs hbase hline) fun σ H Q ⟨env, Q0, R, w, q⟩ => ⟨⟨z, rfl⟩, env, _, R, w, fun ra e1 v1 H1 w1 s1 r1 => ?_⟩
  obtain ⟨x, hx, w1⟩ := r1.rs s1.rep w1
  unfold fJoinT at w1
  split at w1
  · rename_i xs
    obtain ⟨p, us, rfl, s, ru⟩ := (show ∃ a vs, v1 = .ref a ∧ H1 a = some (.tup vs) ∧ RpIs X.K H1 xs vs by simpa only [RpV, RpI] using hx)
    split at w1
    · rename_i ys e
      have e2 := strsD_ok ru e
      subst e2
      exact ⟨z, p, ys, rfl, rfl, .inr (.inl (.inl s)), w1.1, q _ e1 _ H1 w1.2 s1 ⟨rfl, fun n => by simp [isL] at n⟩⟩
    · exact w1.elim
  · exact w1.elim
def repS (z : Str) (n : Int) : Str := if n < 1 then Str.empty else if (n == 1 || z.length == 0) = true then z else ⟨(List.replicate n.toNat z.cps).foldl (· ++ ·) #[]⟩
def rRepS : R2 := fun x y H Q => ∃ z n, x = .str z ∧ y = .int n ∧ 0 ≤ n ∧ n ≤ 1000 ∧ z.length ≤ 1000 ∧ Q (.str (repS z n)) H
theorem fold_size (a : Array Nat) : ∀ (n : Nat) (acc : Array Nat), ((List.replicate n a).foldl (· ++ ·) acc).size = acc.size + n * a.size
  | 0, acc => by simp
  | n + 1, acc => by
    rw [List.replicate_succ, List.foldl_cons, fold_size a n, Array.size_append, Nat.succ_mul]
    omega
theorem op_mulS : OpR X (binaryOp .Mult) rRepS := by
  intro pins s σ H x y v u Q I rx ry h
  obtain ⟨z, n, rfl, rfl, h0, h1, h2, q⟩ := h
  obtain ⟨t, rfl⟩ := rx
  obtain ⟨t', rfl⟩ := ry
  have hz : z.length = z.cps.size := rfl
  have hm : z.length * n.toNat ≤ 1000 * 1000 := Nat.mul_le_mul h2 (by omega)
  refine PySem.P.mul_str ?_ (fun _ _ => ?_) (fun _ _ => ?_) ?_
  · have a1 : ¬ n < -(2 ^ 63 : Int) := by omega
    have a2 : ¬ n ≥ 2 ^ 63 := by omega
    rw [decide_eq_false a1, decide_eq_false a2]; rfl
  · have : (2 ^ 63 - 1 : Int) / n ≥ 1000 := by
      have hn : 0 < n := by omega
      exact (Int.le_ediv_iff_mul_le hn).mpr (by omega)
    omega
  · have : (1000 * 1000 : Nat) ≤ sizeLine := by decide
    exact decide_eq_false (by omega)
  · unfold repS at q
    by_cases g : n < 1
    · rw [if_pos g] at q ⊢
      exact ⟨by decide, .str _, H, I.tok _, ⟨_, rfl⟩, q⟩
    · rw [if_neg g] at q ⊢
      by_cases g2 : (n == 1 || z.length == 0) = true
      · rw [if_pos g2] at q ⊢
        exact ⟨.str _, H, I, ⟨_, rfl⟩, q⟩
      · rw [if_neg g2] at q ⊢
        refine ⟨?_, .str _, H, I.tok _, ⟨_, rfl⟩, q⟩
        have e := fold_size z.cps n.toNat #[]
        have : (1000 * 1000 : Nat) ≤ sizeLine := by decide
        rw [Nat.mul_comm, hz] at hm
        show ((List.replicate n.toNat z.cps).foldl (· ++ ·) #[]).size ≤ sizeLine
        rw [e]
        simp only [List.size_toArray, List.length_nil]
        omega
def fMulS : F2 := fun x y k => match x, y with
  | .str z, .int n => 0 ≤ n ∧ n ≤ 1000 ∧ z.length ≤ 1000 ∧ k (.str (repS z n))
  | _, _ => False
theorem opd_mulS : OpD X.K rRepS fMulS := by
  intro H x y v w k Q rx ry h q
  unfold fMulS at h
  split at h
  · cases rx; cases ry
    exact ⟨_, _, rfl, rfl, h.1, h.2.1, h.2.2.1, q _ _ H h.2.2.2 (.refl H) rfl (fun n => by simp [isL] at n)⟩
  · exact h.elim
theorem e_mulS {b : Expr} {wb : W} (ha : DE X np He a wa) (hb : DE X np He b wb) : DE X np He (.BinOp a .Mult b pos) (cOp fMulS wa wb) := e_op op_mulS opd_mulS ha hb
def fExtendL : FM := fun xs ds k => match ds with
  | [.lst ys] => xs.length + ys.length ≤ 1000000 ∧ k .non (xs ++ ys)
  | _ => False
theorem e_extendL {i : Nat} {x : Str} {p apos : Pos} (ha : DE X np He a wa) (hN : X.N[i]? = some x := by rfl) (hv : Vis X.env.scope x := by first | exact Or.inl rfl | exact Or.inr (Or.inl rfl) | exact Or.inr (Or.inr rfl)) (hd : (x == ("__debug__" : Str)) = false := by decide)
    (hcd : (x == ("__classdict__" : Str)) = false := by decide) (hbase : attributeBase (.Name x p) "extend" X.env (eval (.Name x p) X.env) = eval (.Name x p) X.env := by rfl)
    (hfew : ((backTo pos (starEach [a] X.env)).all (fun x => !x.1) && (backToKw pos (keywordEach [] X.env)).all (fun x => x.1.isSome)
      && decide ([a].length + ([] : List Keyword).length + (if ([] : List Keyword).isEmpty then 0 else 1) < 30)) = true := by rfl)
    (hline : (apos.endLine == pos.line) = true := by rfl) (hs : starEach [a] X.env = (false, eval a X.env) :: starEach [] X.env := by rfl) :
    DE X np He (.Call (.Attribute (.Name x p) "extend" apos) [a] [] pos) (cMeth i fExtendL (cCons wa cNil)) := by
  refine PE.weak (pe_bm PySem.F.plainAttrs_list PySem.F.slot_list_extend PySem.F.type_list_extend mt_extend (pv i hN hv hd hcd) (a_cons ha a_nil hs) hbase hfew hline hs) (meth_core ?_)
  intro H a us xs vs ds k Q ha ra rd h q
  unfold fExtendL at h
  split at h
  · rename_i ys
    obtain ⟨h1, h⟩ := h
    obtain ⟨v, rfl, rv⟩ := rd.one
    obtain ⟨p, ws, rfl, st, ry⟩ := rv
    refine ⟨a, p, us, ws, rfl, rfl, ha, st, by rw [← ra.length, ← ry.length]; exact line_of h1, q _ _ _ _ h (ra.append ry) ?_⟩
    simp only [RpI]
  · exact h.elim
end
end DL

namespace DL
open PySem PySem.Spec PyProof.Rows L2
/-! ### x + y, lists of which some are only read -/
section
variable {X : Cx} {np : Nat} {He : Hp} {a b : Expr} {wa wb : W} {pos : Pos}
def rCatL (K : PySem.W.Frag) : R2 := fun x y H Q => ∃ (l b : Addr) (xs zs : List V), x = .ref l ∧ y = .ref b ∧ SqL K H l xs ∧ SqL K H b zs ∧ xs.length + zs.length ≤ sizeLine ∧ ∀ p, H p = none → Q (.ref p) (upd H p (.lst (xs ++ zs)))
theorem op_catL : OpR X (binaryOp .Add) (rCatL X.K) := by
  intro pins s σ H x y v u Q I rx ry h
  obtain ⟨l, b, xs, zs, rfl, rfl, hH, hB, hz, q⟩ := h
  cases rx
  cases ry
  obtain ⟨its, r, pl, z1⟩ := I.list hH
  obtain ⟨its2, r2, pl2, z2⟩ := I.list hB
  have h1 := r.length
  have h2 := r2.length
  obtain ⟨⟨c, d, t, sl⟩, n, e, hc, hd, hs⟩ := pl
  obtain ⟨⟨c2, d2, t2, sl2⟩, n2, e2, hc2, hd2, hs2⟩ := pl2
  obtain rfl : c = .type "list" := hc
  obtain rfl : c2 = .type "list" := hc2
  obtain rfl : t = .seq its.toArray n := hs
  obtain rfl : t2 = .seq its2.toArray n2 := hs2
  have go := list_addW l b its.toArray its2.toArray n n2 d d2 sl sl2 (by rw [List.size_toArray, List.size_toArray]; omega)
  refine concat_meets ⟨_, e, rfl⟩ ⟨_, e2, rfl⟩ noFill_list_add seq_list_add PySem.F.slot_list_add PySem.F.entry_list_add (PySem.F.args_list_add_2 _ _) go ⟨e, e2, ?_⟩
  have ea : its.toArray ++ its2.toArray = (its ++ its2).toArray := by simp
  rw [ea]
  exact ⟨.ref _, _, I.lnew (t' := s.toks) (r.append r2) (by rw [List.length_append]; omega), rfl, q _ I.fresh⟩
def fAddR : F2 := fun x y k => match x, y with
  | .rol xs, .lst ys => xs.length + ys.length ≤ 1000000 ∧ k (.lst (xs ++ ys))
  | .rol xs, .rol ys => xs.length + ys.length ≤ 1000000 ∧ k (.lst (xs ++ ys))
  | .lst xs, .rol ys => xs.length + ys.length ≤ 1000000 ∧ k (.lst (xs ++ ys))
  | _, _ => False
theorem opd_addR : OpD X.K (rCatL X.K) fAddR := by
  intro H x y v w k Q rx ry h q
  have fin : ∀ (ds es : List D) (p p2 : Addr) (vs us : List V), v = .ref p → w = .ref p2 → SqL X.K H p vs → SqL X.K H p2 us → RpIs X.K H ds vs → RpIs X.K H es us → ds.length + es.length ≤ 1000000 → k (.lst (ds ++ es)) → rCatL X.K v w H Q := fun ds es p p2 vs us e1 e2 h1 h2 r1 r2 hl hk =>
    ⟨p, p2, vs, us, e1, e2, h1, h2, by rw [← r1.length, ← r2.length]; exact line_of hl, fun l nl => q _ _ _ hk (.new nl) ⟨l, _, rfl, upd_same, RpIs.kp (Ext.new nl).kp _ _ (r1.append r2)⟩ fun _ c e => by cases e; exact nl⟩
  have ro : ∀ {ds : List D} {u : V}, RpV X.K H (.rol ds) u → ∃ a vs, u = .ref a ∧ SqL X.K H a vs ∧ RpIs X.K H ds vs := fun {ds u} r => by
    obtain ⟨a, vs, e, s, r⟩ := (show ∃ a vs, u = .ref a ∧ SqR X.K H a vs ∧ RpIs X.K H ds vs by simpa only [RpV, RpI] using r)
    exact ⟨a, vs, e, s.seq, r⟩
  have ls : ∀ {ds : List D} {u : V}, RpV X.K H (.lst ds) u → ∃ a vs, u = .ref a ∧ SqL X.K H a vs ∧ RpIs X.K H ds vs := fun {ds u} r => by
    obtain ⟨a, vs, e, s, r⟩ := r
    exact ⟨a, vs, e, .of s, r⟩
  unfold fAddR at h
  split at h
  · obtain ⟨p, vs, e1, s1, r1⟩ := ro rx
    obtain ⟨p2, us, e2, s2, r2⟩ := ls ry
    exact fin _ _ p p2 vs us e1 e2 s1 s2 r1 r2 h.1 h.2
  · obtain ⟨p, vs, e1, s1, r1⟩ := ro rx
    obtain ⟨p2, us, e2, s2, r2⟩ := ro ry
    exact fin _ _ p p2 vs us e1 e2 s1 s2 r1 r2 h.1 h.2
  · obtain ⟨p, vs, e1, s1, r1⟩ := ls rx
    obtain ⟨p2, us, e2, s2, r2⟩ := ro ry
    exact fin _ _ p p2 vs us e1 e2 s1 s2 r1 r2 h.1 h.2
  · exact h.elim
theorem e_addR (ha : DE X np He a wa) (hb : DE X np He b wb) : DE X np He (.BinOp a .Add b pos) (cOp fAddR wa wb) := e_op op_catL opd_addR ha hb
end
end DL

/-! ### < of tuples and lists whose items compare up to the first difference only -/
namespace PySem.SeqAt
open AutoSeq1 (wpAny_loadPart')
open MeetsSeq MeetsSeq2 MeetsSeq3 SeqRoads2
/-- up to the first place that differs -/
def UpTo (e : Nat → Bool) (j : Nat) : Prop := ∀ m, m < j → e m = true
theorem UpTo.next {e : Nat → Bool} {j : Nat} (u : UpTo e j) (h : e j = true) : UpTo e (j + 1) := fun m hm => by
  rcases Nat.lt_succ_iff_lt_or_eq.mp hm with q | q
  · exact u m q
  · rw [q]; exact h
theorem UpTo.zero {e : Nat → Bool} : UpTo e 0 := fun m hm => absurd hm (Nat.not_lt_zero m)
structure Fst (A : Around) (s : Shared) (us ws : Array Value) (e r : Nat → Bool) : Prop where
  eq : ∀ j (p1 : j < us.size) (p2 : j < ws.size), EqAt A.in1 s us[j] ws[j] (e j)
  lt : ∀ j (p1 : j < us.size) (p2 : j < ws.size), UpTo e j → e j = false → RcLt A.in1 s us[j] ws[j] (r j)
section
variable {A : Around} {s : Shared} {p q : Addr} {us ws : Array Value} {e r : Nat → Bool}
end
end PySem.SeqAt

/-! ### data that compares up to the first difference -/
namespace PySem.SeqAt
open PySem.W PyProof.Rows
section
variable {prog : Program} {w : World} {A : Around} {E : Value → Shared → Prop} {s : Shared}
end
end PySem.SeqAt

namespace DL
open PySem PySem.Spec PyProof.Rows L2
/-! ### values, rows of values, their order -/
def Vl.d : Vl → D
  | .int n => .int n
  | .str x => .str x
def Vl.kd : Vl → D
  | .int n => .tup [.int 0, .int n]
  | .str x => .tup [.int 1, .str x]
def Vl.lt : Vl → Vl → Bool
  | .int a, .int b => decide (a < b)
  | .int _, .str _ => true
  | .str _, .int _ => false
  | .str x, .str y => decide (x.cps.toList < y.cps.toList)
theorem Vl.trans {x y z : Vl} (h : x.lt y = true) (g : y.lt z = true) : x.lt z = true := by
  cases x <;> cases y <;> cases z <;> first | rfl | (simp [Vl.lt] at h; done) | (simp [Vl.lt] at g; done) | skip
  · simp only [Vl.lt, decide_eq_true_eq] at h g ⊢; omega
  · simp only [Vl.lt, decide_eq_true_eq] at h g ⊢; exact List.lt_trans h g
def keyD (l : Bool) (r : List Vl) : D := if l = true then .lst (r.map Vl.kd) else .tup (r.map Vl.kd)
def keyP (l : Bool) (r : List Vl) : PyData := if l = true then .list (r.map fun x => toP x.kd) else .tuple (r.map fun x => toP x.kd)
def Vl.ok : Vl → Bool
  | .int _ => true
  | .str x => PyData.strOk x
def okR' (r : List Vl) : Bool := r.all Vl.ok
theorem toPs_map {α : Type} (f : α → D) : ∀ xs : List α, toPs (xs.map f) = xs.map fun x => toP (f x)
  | [] => rfl
  | x :: xs => by simp only [List.map_cons, toPs, toPs_map f xs]
theorem toP_keyD (l : Bool) (r : List Vl) : toP (keyD l r) = keyP l r := by
  unfold keyD keyP
  cases l <;> simp [toP, toPs_map]
theorem lay_kd (x : Vl) (h : x.ok = true) : (toP x.kd).canLay0 = true ∧ (toP x.kd).depth = 1 := by
  cases x <;> simp [Vl.kd, toP, toPs, PyData.canLay0, PyData.canLayAll0, PyData.depth, PyData.depthAll]
  exact h
theorem lay_kds : ∀ r : List Vl, okR' r = true → PyData.canLayAll0 (r.map fun x => toP x.kd) = true ∧ PyData.depthAll (r.map fun x => toP x.kd) ≤ 1
  | [], _ => by simp [PyData.canLayAll0, PyData.depthAll]
  | x :: r, hk => by
    simp only [okR', List.all_cons, Bool.and_eq_true] at hk
    have h := lay_kds r hk.2
    have g := lay_kd x hk.1
    simp only [List.map_cons, PyData.canLayAll0, PyData.depthAll, h.1, g.1, Bool.and_self, true_and]
    omega
theorem lay_key (l : Bool) (r : List Vl) (hk : okR' r = true) : (keyP l r).canLay0 = true ∧ (keyP l r).depth ≤ 2 := by
  have h := lay_kds r hk
  unfold keyP
  cases l <;> simp only [if_true, Bool.false_eq_true, if_false, PyData.canLay0, PyData.depth, h.1, true_and] <;> omega
/-! ### the order of keys as values of a heap -/
/-- v is the key of the row -/
def KeyAt (h : Heap) (l : Bool) (v : Value) (r : List Vl) : Prop := okR' r = true ∧ ∃ as, Reads h v (keyP l r) as
section
variable {prog : Program} {w : World} {A : Around} {E : Value → Shared → Prop} {s : Shared}
end
end DL

namespace DL
open PySem PySem.Spec PyProof.Rows L2
/-! ### sorted(xs, key=an own def) -/
/-- the keys made so far -/
def KeysV (K : PySem.W.Frag) (H : Hp) (b : Bool) (kf : D → List Vl) (us : List Value) (xs : List D) : Prop := PySem.W.EachIs (fun u d => okR' (kf d) = true ∧ ∃ v, RelV v u ∧ RpV K H (keyD b (kf d)) v) us xs
theorem KeysV.ext {K : PySem.W.Frag} {H H' : Hp} {b : Bool} {kf : D → List Vl} {us : List Value} {xs : List D} (x : Ext H H') (h : KeysV K H b kf us xs) : KeysV K H' b kf us xs :=
  h.mono fun u d ⟨o, v, r, q⟩ => ⟨o, v, r, q.ext x⟩
theorem KeysV.at {X : Cx} {pins : List (Addr × Obj)} {σ : L2.St} {H : Hp} {s : Shared} {b : Bool} {kf : D → List Vl} (I : Inv X pins σ H s) : ∀ {us : List Value} {xs : List D}, KeysV X.K H b kf us xs → PySem.W.EachIs (KeyAt s.heap b) us (xs.map kf)
  | [], [], _ => .nil
  | u :: us, x :: xs, .cons ⟨o, v, r, q⟩ t => by
    obtain ⟨as, h⟩ := Dp.reads I _ v u (q.dp (by rw [toP_keyD]; exact (lay_key b _ o).1)) r
    rw [toP_keyD] at h
    exact .cons ⟨o, as, h⟩ (KeysV.at I t)
end DL

namespace DL
open PySem PySem.Spec PyProof.Rows L2
/-! ### sorted(list, key=def) -/
section
variable {X : Cx} {np : Nat} {He : Hp} {a b : Expr} {wa wb : W} {pos : Pos}
end
end DL

namespace DL
open PySem PySem.Spec PyProof.Rows L2
/-! ### tuple(list) as a known tuple -/
section
variable {X : Cx} {np : Nat} {He : Hp} {a b : Expr} {wa wb : W} {pos : Pos}
/-! ### t.index(x), t a known tuple of texts -/
/-! ### < of data, in and not in of data -/
end
end DL

namespace DL
open PySem PySem.Spec PyProof.Rows L2
/-! ### new dicts with tuples as keys -/
section
variable {X : Cx}
end
section
variable {K : PySem.W.Frag}
abbrev Ent := List Vl × D
/-- rows and what stands at them, put in order of first coming -/
def putR (acc : List Ent) (r : List Vl) (y : D) : List Ent :=
  if (acc.any fun e => decide (e.1 = r)) = true then acc.map (fun e => if e.1 = r then (e.1, y) else e) else acc ++ [(r, y)]
theorem Vl.key_inj {x y : Vl} (h : x.key = y.key) : x = y := by
  cases x <;> cases y <;> simp [Vl.key] at h <;> rw [h]
theorem keys_inj : ∀ {a b : List Vl}, a.map Vl.key = b.map Vl.key → a = b
  | [], [], _ => rfl
  | [], _ :: _, h => by simp at h
  | _ :: _, [], h => by simp at h
  | x :: a, y :: b, h => by
    simp only [List.map_cons, List.cons.injEq] at h
    rw [Vl.key_inj h.1, keys_inj h.2]
def DRel (K : PySem.W.Frag) (H : Hp) (acc : List Ent) (kvs : List (List L2.Key × V)) : Prop := kvs.map (·.1) = acc.map (fun e => e.1.map Vl.key) ∧ RpIs K H (acc.map (·.2)) (kvs.map (·.2))
theorem DRel.len {H : Hp} {acc : List Ent} {kvs : List (List L2.Key × V)} (h : DRel K H acc kvs) : kvs.length = acc.length := by
  have := congrArg List.length h.1
  simpa using this
theorem DRel.any {H : Hp} {r : List Vl} : ∀ {acc : List Ent} {kvs : List (List L2.Key × V)}, DRel K H acc kvs → (kvs.any fun kv => decide (kv.1 = r.map Vl.key)) = acc.any fun e => decide (e.1 = r)
  | [], [], _ => rfl
  | [], _ :: _, h => by simp [DRel] at h
  | _ :: _, [], h => by simp [DRel] at h
  | e :: acc, kv :: kvs, h => by
    obtain ⟨h1, h2⟩ := h
    simp only [List.map_cons, List.cons.injEq, RpIs] at h1 h2
    obtain ⟨v, q, e2, _, h3⟩ := h2
    rw [List.any_cons, List.any_cons, DRel.any (r := r) ⟨h1.2, e2.2 ▸ h3⟩, h1.1]
    congr 1
    by_cases g : e.1 = r
    · rw [g]; simp
    · rw [decide_eq_false g, decide_eq_false fun z => g (keys_inj z)]
theorem DRel.repl {H : Hp} {r : List Vl} {y : D} {z : V} (hy : RpI K H y z) : ∀ {acc : List Ent} {kvs : List (List L2.Key × V)}, DRel K H acc kvs → DRel K H (acc.map fun e => if e.1 = r then (e.1, y) else e) (kvs.map fun kv => if kv.1 = r.map Vl.key then (kv.1, z) else kv)
  | [], [], h => h
  | [], _ :: _, h => by simp [DRel] at h
  | _ :: _, [], h => by simp [DRel] at h
  | e :: acc, kv :: kvs, h => by
    obtain ⟨h1, h2⟩ := h
    simp only [List.map_cons, List.cons.injEq, RpIs] at h1 h2
    obtain ⟨v, q, e2, h4, h3⟩ := h2
    obtain ⟨i1, i2⟩ := DRel.repl (r := r) hy ⟨h1.2, e2.2 ▸ h3⟩
    by_cases g : e.1 = r
    · have g' : kv.1 = r.map Vl.key := by rw [h1.1, g]
      refine ⟨?_, ?_⟩
      · rw [List.map_cons, List.map_cons, List.map_cons, List.map_cons, if_pos g, if_pos g', i1, h1.1]
      · rw [List.map_cons, List.map_cons, List.map_cons, List.map_cons, if_pos g, if_pos g']
        simp only [RpIs]
        exact ⟨z, _, rfl, hy, i2⟩
    · have g' : ¬ kv.1 = r.map Vl.key := fun q => g (keys_inj (h1.1 ▸ q))
      refine ⟨?_, ?_⟩
      · rw [List.map_cons, List.map_cons, List.map_cons, List.map_cons, if_neg g, if_neg g', i1, h1.1]
      · rw [List.map_cons, List.map_cons, List.map_cons, List.map_cons, if_neg g, if_neg g']
        simp only [RpIs]
        exact ⟨kv.2, _, rfl, e2.1 ▸ h4, i2⟩
theorem DRel.put {H : Hp} {acc : List Ent} {kvs : List (List L2.Key × V)} {r : List Vl} {y : D} {z : V} (h : DRel K H acc kvs) (hy : RpI K H y z) : DRel K H (putR acc r y) (putK kvs (r.map Vl.key) z) := by
  unfold putR putK
  rw [h.any]
  by_cases g : (acc.any fun e => decide (e.1 = r)) = true
  · rw [if_pos g, if_pos g]
    exact h.repl hy
  · rw [if_neg g, if_neg g]
    refine ⟨by rw [List.map_append, List.map_append, h.1]; rfl, ?_⟩
    rw [List.map_append, List.map_append]
    refine RpIs.append h.2 ?_
    simp only [List.map_cons, List.map_nil, RpIs]
    exact ⟨z, [], rfl, hy, rfl⟩
end
/-! ### as data -/
section
variable {np : Nat} {He : Hp}
end
section
variable {X : Cx} {np : Nat} {He : Hp} {pos : Pos}
/-! ### list(d), d a dict with tuples as keys; text.index(sign) -/
end
end DL

namespace DL
open PySem PySem.Spec PyProof.Rows L2
/-! ### walks over a dict with tuples as keys: its values, its pairs -/
section
variable {X : Cx}
variable {P : Program} {w : World} {K : PySem.W.Frag} {tg : Expr} {d : Addr} {o : Obj} {es : Array DictEntry} {ep : Nat} {kvs : List (List L2.Key × V)}
end
section
variable {X : Cx} {tg e : Expr} {td : TE} {apos cpos : Pos}
end
/-! ### as data -/
section
variable {X : Cx} {np : Nat} {He : Hp} {a tg : Expr} {wa : W} {apos cpos : Pos}
end
end DL

namespace DL
open PySem PySem.Spec PyProof.Rows L2
/-! ### list(d.values()), d.get(k, x), d[k]: d a frozen dict with tuples as keys -/
section
variable {X : Cx} {a : Expr} {td : TE} {apos cpos : Pos}
end
section
variable {X : Cx} {np : Nat} {He : Hp} {a b c : Expr} {wa wb wc : W} {apos cpos pos : Pos}
end
end DL

namespace DL
open PySem PySem.Spec PyProof.Rows L2
/-! ### a fresh list, from then on only read: it may stand in lists and tuples -/
section
variable {X : Cx} {np : Nat} {He : Hp}
def tFz (t : TE) : TE := fun σ H Q => t σ H fun v H1 => ∃ a xs, v = .ref a ∧ H1 a = some (.lst xs) ∧ ∀ o, Q v (upd H1 a (.frz o (.lst xs)))
theorem pe_fz {e : Expr} {t : TE} (h : PE X e t) : PE X e (tFz t) := by
  refine ⟨fun pins s σ H Q I want => thn (h.run pins s σ H _ I want) fun u s1 ⟨v, H1, I1, r, a, xs, ev, ha, q⟩ => ?_⟩
  obtain ⟨o, J⟩ := I1.lock ha True.intro
  exact ⟨v, _, J, r, q o⟩
theorem SE.lockL {K : PySem.W.Frag} {σ : L2.St} {H H1 : Hp} {env e1 : DEnv} {a : Addr} {us : List V} (o : Obj) (R : Rep K np He σ H env) (s : SE K np He σ H env H1 e1) (fr : H a = none) (ha : H1 a = some (.lst us)) : SE K np He σ H env (upd H1 a (.frz o (.lst us))) e1 := by
  have kp : Kp H1 (upd H1 a (.frz o (.lst us))) := fun b u h n => by
    have : b ≠ a := fun z => by subst z; rw [ha] at h; exact n us (Option.some.inj h).symm
    rw [upd_ne this]; exact h
  have nla : ∀ b, LA σ e1 b → b ≠ a := fun b z e => by
    obtain ⟨vs, h⟩ := R.la (s.la.mp z)
    rw [e, fr] at h
    cases h
  refine ⟨⟨s.rep.len, fun i d e => ?_, s.rep.apart, s.rep.own, fun b n => ?_⟩, s.shape, fun b u h n => ?_, fun b n => ?_⟩
  · obtain ⟨v, ev, r⟩ := s.rep.val i d e
    refine ⟨v, ev, ?_⟩
    cases d with
    | lst zs =>
      refine r.kpl kp fun b u eb eo => ?_
      subst eb
      rw [upd_ne (nla b ⟨i, zs, e, ev⟩)]
      exact eo
    | _ => exact r.kp kp rfl
  · by_cases hb : b = a
    · subst hb; rw [upd_same] at n; cases n
    · rw [upd_ne hb] at n; exact s.rep.dom b n
  · have hb : b ≠ a := fun z => by rw [z, fr] at h; cases h
    rw [upd_ne hb]
    exact s.keep b u h n
  · by_cases hb : b = a
    · subst hb; exact fr
    · rw [upd_ne hb] at n; exact s.dom b n
def cFz (w : W) : W := fun env Q => w env fun r e => match r with
  | .val (.lst xs) => Q (.val (.rol xs)) e
  | _ => False
theorem e_fz {e : Expr} {w : W} (h : DE X np He e w) : DE X np He e (cFz w) := by
  refine PE.weak (pe_fz h) fun σ H Q ⟨env, Q0, R, w, q⟩ => ⟨env, _, R, w, fun r e1 v H1 w1 s1 r1 => ?_⟩
  cases r with
  | ref i => exact False.elim w1
  | val d =>
    cases d <;> first | exact False.elim w1 | skip
    rename_i xs
    obtain ⟨⟨a, us, rfl, ha, ru⟩, fr⟩ := r1
    refine ⟨a, us, rfl, ha, fun o => ?_⟩
    have fa := fr rfl a rfl
    have kp : Kp H1 (upd H1 a (.frz o (.lst us))) := fun b u h n => by
      have : b ≠ a := fun z => by subst z; rw [ha] at h; exact n us (Option.some.inj h).symm
      rw [upd_ne this]; exact h
    refine q _ e1 _ _ w1 (.lockL o R s1 fa ha) ⟨?_, fun n => by simp [isL] at n⟩
    show RpI _ _ _ _
    simp only [RpI]
    exact ⟨a, us, rfl, .inl ⟨o, upd_same⟩, RpIs.kp kp _ _ ru⟩
end
end DL

namespace DL
open PySem PySem.Spec PyProof.Rows L2
/-! ### defs with two parameters and one keyword-only parameter whose default is None -/
structure FnKE (P : Program) (w : World) (K : PySem.W.Frag) (mg : Str → Option Value) (base : Heap) (k : Nat) (x : Str) (ps ks : List Str) (sp : FSpec) : Prop where
  ex : ∃ f fd u, FnOk P w K mg base CX0 k f fd ps (spOf K ps.length sp) ∧ mg x = some (.ref f) ∧ PySem.W.keepIn K (.ref f) = true ∧ KBn K fd ps 2 ks (fun us ws => us ++ ws) (fun vs zs => vs ++ zs) ∧ Binds K fd ps [u] ∧ RelV V.non u
section
variable {K : PySem.W.Frag} {np : Nat} {He : Hp} {σ : L2.St} {H H1 H2 : Hp} {env e1 e2 : DEnv}
end
section
variable {X : Cx} {np : Nat} {He : Hp} {a b c : Expr} {wa wb wc : W} {pos : Pos}
end
end DL

namespace DL
open PySem PySem.Spec PyProof.Rows L2
/-! ### a block within a block -/
/-! ### sorted(a list of keys) -/
def keyL (r : List Vl) : D := .rol (r.map Vl.kd)
theorem toP_keyL (r : List Vl) : toP (keyL r) = keyP true r := by
  unfold keyL keyP
  simp [toP, toPs_map]
theorem KeyAt.of {X : Cx} {pins : List (Addr × Obj)} {σ : L2.St} {H : Hp} {s : Shared} (I : Inv X pins σ H s) {u : Value} {v : V} {r : List Vl} (ok : okR' r = true) (rv : RelV v u) (h : RpI X.K H (keyL r) v) : KeyAt s.heap true u r := by
  obtain ⟨as, g⟩ := Dp.reads I _ v u ((RpV.of h).dp (by rw [toP_keyL]; exact (lay_key true _ ok).1)) rv
  rw [toP_keyL] at g
  exact ⟨ok, as, g⟩
section
variable {X : Cx} {np : Nat} {He : Hp} {a b : Expr} {wa wb : W} {pos : Pos}
/-! ### xs.count(x) of data -/
end
/-! ### range(n), n of any size -/
section
variable {X : Cx} {np : Nat} {He : Hp} {tg a : Expr} {wa : W} {pos : Pos}
end
end DL

namespace DL
open PySem PySem.Spec PyProof.Rows L2 PySem.Calls
/-! ### extend by a tuple -/
section
variable {X : Cx}
end
section
variable {X : Cx} {np : Nat} {He : Hp} {a : Expr} {wa : W} {pos : Pos}
/-! ### name += int -/
/-! ### a list as a test -/
def cTru (i : Nat) : W := fun env Q => getl env i fun xs => Q (.val (.bl (!xs.isEmpty))) env
theorem t_lst (i : Nat) {x : Str} (hN : X.N[i]? = some x := by rfl) (hv : Vis X.env.scope x := by first | exact Or.inl rfl | exact Or.inr (Or.inl rfl) | exact Or.inr (Or.inr rfl)) (hd : (x == ("__debug__" : Str)) = false := by decide)
    (hcd : (x == ("__classdict__" : Str)) = false := by decide) (he : ∀ whole, isTrue (.Name x pos) X.env whole = (do let v ← whole; standAt (Expr.Name x pos).pos; holding [v] (truthy v)) := by intro _; rfl) :
    DT X np He (.Name x pos) (cTru i) := by
  have h := pt_truth (pe_var (pos := pos) hN hv hd hcd) he
  refine ⟨fun pins s σ H Q I w => h.run pins s σ H Q I ?_⟩
  obtain ⟨env, Q0, R, w, q⟩ := w
  obtain ⟨xs, e0, w⟩ := getl_of w
  obtain ⟨a, us, es, ha, ra⟩ := R.lst e0
  obtain ⟨c, e1, g⟩ := q (.val (.bl (!xs.isEmpty))) env (.bl (!xs.isEmpty)) H w (.refl R) ⟨rfl, fun n => by simp [isL] at n⟩
  cases e1
  have e2 : xs.isEmpty = us.isEmpty := by
    have := ra.length
    cases xs <;> cases us <;> first | rfl | simp at this
  exact ⟨.ref a, es, !us.isEmpty, .inl ⟨us, .of ha, rfl⟩, e2 ▸ g⟩
end
end DL

namespace DL
open PySem PySem.Spec PyProof.Rows L2
/-! ### spans, lines, tables as data -/
abbrev Sp2 := List (Int × Int)
abbrev Ln := Int × Sp2
def SpOk (c : Int) : Int → Sp2 → Prop
  | _, [] => True
  | lo, (a, b) :: r => lo ≤ a ∧ a < b ∧ b ≤ c ∧ SpOk c (b + 1) r
def LsOk (c : Int) : Int → List Ln → Prop
  | _, [] => True
  | p, (s, sp) :: r => p < s ∧ SpOk c 0 sp ∧ LsOk c s r
def TbOk (c : Int) (ls : List Ln) : Prop := (1 ≤ c ∧ c ≤ 60) ∧ ∃ sp r, ls = (0, sp) :: r ∧ SpOk c 0 sp ∧ LsOk c 0 r
/-! ### draws -/
def sp_law_take : FSpec where
  pre := fun ds => match ds with
    | [.lst xs, .int m] => IsInts xs ∧ 0 < m
    | _ => False
  post := fun ds r ds' => match ds with
    | [.lst _, .int m] => ∃ ns v, r = .int v ∧ ds' = [.lst (List.map D.int ns), .int m] ∧ 0 ≤ v ∧ v < m
    | _ => False
/-- slots: 0 draws, 1 many -/
def w_law_take : WS :=
    (cSeq (cIte (cOp fEqS (cBi fLen (cCons (cVar 0) cNil)) (cC (.int 0)))
      (cRet 2 (cC (.int 0)))
      cNilS)
    (cRet 2 (cOp fMod (cBi fInt (cCons (cMeth 0 fPop cNil) cNil)) (cVar 1))))
theorem of_take {ds : List D} (h : sp_law_take.pre ds) : ∃ (ns : List Int) (m : Int), ds = [.lst (ns.map D.int), .int m] ∧ 0 < m := by
  unfold sp_law_take at h
  dsimp only at h
  split at h
  · obtain ⟨⟨ns, rfl⟩, h⟩ := h
    exact ⟨ns, _, rfl, h⟩
  · exact h.elim
local macro_rules | `(tactic| walk_at "Ddl") => `(tactic| ((conv => whnf); (repeat ((first | refine And.intro rfl ?_ | refine And.intro trivial ?_ | refine And.intro ⟨rfl, trivial⟩ ?_ | refine And.intro ⟨rfl, rfl, trivial⟩ ?_ | refine ifb_t ?_ | refine ifb_f ?_ | refine ifb_nr ?_ | refine ifb_er ?_ | refine And.intro (by first | decide | omega | (unfold CMul; omega) | (unfold CDiv; omega) | (unfold CPow; decide) | (exact cpow1 (by omega) (by omega)) | (exact cpow1 (by dsimp only; omega) (by dsimp only; omega)) | (simp only [rngD_len, List.length_replicate, List.length_map, List.length_append, List.length_cons, List.length_nil, List.length_set] at *; omega)) ?_); conv => whnf))))
theorem pure_law_take : ∀ ds, ds.length = 2 → sp_law_take.pre ds → w_law_take (env0 ds 0) { nx := fun e => sp_law_take.post ds .non (outs e 2), rt := fun d e => sp_law_take.post ds d (outs e 2) } := by
  intro ds _ h
  obtain ⟨ns, m, rfl, hm⟩ := of_take h
  walk_at "Ddl"
  refine ifb_dec (fun e => ?_) (fun e => ?_)
  · walk_at "Ddl"
    exact ⟨ns, 0, rfl, rfl, Int.le_refl _, hm⟩
  · have hne : ns ≠ [] := fun z => by subst z; exact e rfl
    obtain ⟨xs, x, rfl⟩ : ∃ xs x, ns = xs ++ [x] := ⟨_, _, (List.dropLast_concat_getLast hne).symm⟩
    have el : (List.map D.int (xs ++ [x])).getLast? = some (D.int x) := by simp
    have ed : (List.map D.int (xs ++ [x])).dropLast = xs.map D.int := by simp
    walk_at "Ddl"
    rw [el, ed]
    walk_at "Ddl"
    exact ⟨xs, x % m, rfl, rfl, Int.emod_nonneg _ (by omega), Int.emod_lt_of_pos _ hm⟩
theorem cut {u v : WS} {env : DEnv} {K : Kt} (J : DEnv → Prop) (h1 : ∀ nxt, (∀ e, J e → nxt e) → u env { K with nx := nxt }) (h2 : ∀ e, J e → v e K) : cSeq u v env K := h1 _ h2
def sp_law_draws : FSpec where
  pre := fun ds => match ds with
    | [.rol xs, .int m] => IsInts xs ∧ xs.length ≤ 63 ∧ 0 ≤ m ∧ m ≤ 5000
    | _ => False
  post := fun ds r ds' => ds' = ds ∧ ∃ ns : List Int, r = .lst (ns.map D.int)
/-- slots: 0 script, 1 many, 2 cells, 3 rest, 4 draws, 5 k, 6 at, 7 mixed, 8 cell -/
def w_law_draws : WS :=
    (cSeq (cAsg 2 [0, 1] 2 (cLc [8] (iE (cVar 0)) (gN 2 [] 8) tTrue (cBi fInt (cCons (cVar 8) cNil))))
    (cSeq (cIte (cOp fEqS (cBi fLen (cCons (cVar 2) cNil)) (cC (.int 0)))
      (cEx (cMeth 2 fAppend (cCons (cC (.int 0)) cNil)))
      cNilS)
    (cSeq (cAsg 2 [0, 1] 3 (cBi fList (cCons (cVar 2) cNil)))
    (cSeq (cAsg 2 [0, 1] 4 (cLst cNil))
    (cSeq (cFor [0, 1] (iR1 (cVar 1)) (gN 2 [0, 1] 5)
      (cSeq (cAsg 2 [0, 1] 6 (cOp fMod (cVar 5) (cBi fLen (cCons (cVar 2) cNil))))
        (cIte (cOp fGe (cOp fIx (cVar 2) (cVar 6)) (cOp fPow (cC (.int 10)) (cC (.int 18))))
          (cSeq (cEx (cMeth 4 fAppend (cCons (cOp fMod (cBi fInt (cCons (cOp fIx (cVar 3) (cVar 6)) cNil)) (cC (.int 1000))) cNil)))
            (cSet 3 (cOp fFdiv (cOp fIx (cVar 3) (cVar 6)) (cC (.int 1000))) (cVar 6)))
          (cSeq (cAsg 2 [0, 1] 7 (cOp fMod (cBi fInt (cCons (cOp fAddG (cOp fAddG (cOp fMul (cOp fIx (cVar 2) (cVar 6)) (cC (.int 48271))) (cOp fMul (cVar 5) (cC (.int 69621)))) (cC (.int 11))) cNil)) (cC (.int 2147483647))))
            (cEx (cMeth 4 fAppend (cCons (cOp fMod (cBi fInt (cCons (cOp fAddG (cOp fAddG (cOp fMul (cVar 7) (cVar 7)) (cOp fMul (cC (.int 3)) (cVar 7))) (cVar 5)) cNil)) (cC (.int 1000003))) cNil)))))))
    (cSeq (cEx (cMeth 4 fReverse cNil))
    (cRet 2 (cVar 4))))))))
theorem atI_lt {α : Type} {xs : List α} {j : Int} (h0 : 0 ≤ j) (h1 : j < xs.length) : ∃ (h : j.toNat < xs.length), atI xs j = some xs[j.toNat] := by
  have h : j.toNat < xs.length := by omega
  refine ⟨h, ?_⟩
  have := atI_nat (xs := xs) (j := j.toNat) (v := xs[j.toNat]) (List.getElem?_eq_getElem h)
  rwa [Int.toNat_of_nonneg h0] at this
theorem atI_map {α : Type} {f : α → D} {xs : List α} {j : Int} (h0 : 0 ≤ j) (h1 : j < xs.length) : ∃ v, v ∈ xs ∧ atI (xs.map f) j = some (f v) := by
  obtain ⟨h, e⟩ := atI_lt (xs := xs.map f) h0 (by simpa using h1)
  have h' : j.toNat < xs.length := by omega
  exact ⟨xs[j.toNat], List.getElem_mem h', by rw [e]; simp⟩
theorem ixN_lt {n : Nat} {j : Int} (h0 : 0 ≤ j) (h1 : j < n) : ixN n j = some j.toNat := by
  unfold ixN
  rw [if_pos h0, if_pos h1]
theorem pure_law_draws : ∀ ds, ds.length = 2 → sp_law_draws.pre ds → w_law_draws (env0 ds 7) { nx := fun e => sp_law_draws.post ds .non (outs e 2), rt := fun d e => sp_law_draws.post ds d (outs e 2) } := by
  intro ds _ h
  unfold sp_law_draws at h
  dsimp only at h
  split at h
  · obtain ⟨⟨ns, rfl⟩, hlen, hm0, hm1⟩ := h
    rename_i m _
    walk_at "Ddl"
    have hlen : ns.length ≤ 63 := by simpa using hlen
    refine lcGo_map (fun x => x) _ (List.map D.int ns) ?_ ?_
    · rintro x nxt acc hx hn
      obtain ⟨i, _, rfl⟩ := List.mem_map.mp hx
      walk_at "Ddl"
      exact hn
    · refine ⟨trivial, rfl, ?_⟩
      rw [List.map_id']
      dsimp only
      refine cut (fun e => ∃ cs : List Int, cs ≠ [] ∧ cs.length ≤ 63 ∧ e = [some (D.rol (ns.map D.int)), some (D.int m), some (D.lst (cs.map D.int)), none, none, none, none, none, none]) (fun nxt hn => ?_) ?_
      · walk_at "Ddl"
        refine ifb_dec (fun e => ?_) (fun e => ?_)
        · walk_at "Ddl"
          refine hn _ ⟨[0], by simp, by simp, ?_⟩
          have : ns = [] := by
            cases ns with
            | nil => rfl
            | cons a b => simp at e; omega
          subst this
          rfl
        · walk_at "Ddl"
          refine hn _ ⟨ns, fun z => ?_, hlen, rfl⟩
          subst z
          exact e rfl
      · rintro e ⟨cs, hne, hlc, rfl⟩
        have hpos := List.length_pos_iff.mpr hne
        walk_at "Ddl"
        refine loop_rng (fun j e => ∃ (rs : List Int) (dr : List Int) (o5 o6 o7 : Option D), (rs.length = cs.length ∧ (dr.length : Int) = j) ∧ e = [some (D.rol (ns.map D.int)), some (D.int m), some (D.lst (cs.map D.int)), some (D.lst (rs.map D.int)), some (D.lst (dr.map D.int)), o5, o6, o7, none]) ⟨cs, [], none, none, none, ⟨rfl, rfl⟩, rfl⟩ ?_ ?_
        · rintro j env nxt hj0 hj1 ⟨rs, dr, o5, o6, o7, ⟨hrl, hdl⟩, rfl⟩ hx
          have hpi : (0:Int) < cs.length := by omega
          have hm0 := Int.emod_nonneg j (show (cs.length : Int) ≠ 0 by omega)
          have hm1 := Int.emod_lt_of_pos j hpi
          obtain ⟨c, _, ec⟩ := atI_map (f := D.int) (xs := cs) hm0 hm1
          obtain ⟨r, _, er⟩ := atI_map (f := D.int) (xs := rs) hm0 (by omega)
          have ei : ixN (List.map D.int rs).length (j % (cs.length : Int)) = some (j % (cs.length : Int)).toNat := ixN_lt hm0 (by simp; omega)
          walk_at "Ddl"
          simp only [List.length_map]
          walk_at "Ddl"
          rw [ec]
          walk_at "Ddl"
          refine ifb_dec (fun e => ?_) (fun e => ?_)
          · walk_at "Ddl"
            rw [er]
            walk_at "Ddl"
            rw [er]
            walk_at "Ddl"
            rw [ei]
            walk_at "Ddl"
            exact hx _ ⟨rs.set (j % (cs.length : Int)).toNat (r / 1000), dr ++ [r % 1000], _, _, _, ⟨by simpa using hrl, by simp; omega⟩, by (first | rfl | (simp only [List.map_append, List.map_set, List.map_cons, List.map_nil]; done) | (simp only [List.map_append, List.map_set, List.map_cons, List.map_nil]; rfl))⟩
          · walk_at "Ddl"
            rw [ec]
            walk_at "Ddl"
            exact hx _ ⟨rs, dr ++ [_], _, _, _, ⟨hrl, by simp; omega⟩, by (first | rfl | (simp only [List.map_append, List.map_set, List.map_cons, List.map_nil]; done) | (simp only [List.map_append, List.map_set, List.map_cons, List.map_nil]; rfl))⟩
        · rintro env ⟨rs, dr, o5, o6, o7, ⟨hrl, hdl⟩, rfl⟩
          walk_at "Ddl"
          exact ⟨dr.reverse, by simp⟩
  · exact h.elim
end DL

namespace DL
open PySem PySem.Spec PyProof.Rows L2
theorem SpOk.mono {c c' : Int} (h : c ≤ c') : ∀ {lo : Int} {s : Sp2}, SpOk c lo s → SpOk c' lo s
  | _, [], _ => trivial
  | _, (a, b) :: r, ⟨h1, h2, h3, h4⟩ => ⟨h1, h2, by omega, SpOk.mono h h4⟩
local macro_rules | `(tactic| walk_at "Ddl") => `(tactic| ((conv => whnf); (repeat ((first | refine And.intro rfl ?_ | refine And.intro trivial ?_ | refine And.intro ⟨rfl, trivial⟩ ?_ | refine And.intro ⟨rfl, rfl, trivial⟩ ?_ | refine ifb_t ?_ | refine ifb_f ?_ | refine ifb_nr ?_ | refine ifb_er ?_ | refine And.intro (by first | decide | omega | (unfold CMul; omega) | (unfold CDiv; omega) | (unfold CPow; decide) | (exact cpow1 (by omega) (by omega)) | (exact cpow1 (by dsimp only; omega) (by dsimp only; omega)) | (simp only [rngD_len, List.length_replicate, List.length_map, List.length_append, List.length_cons, List.length_nil, List.length_set] at *; omega)) ?_); conv => whnf))))
theorem rng_mem {lo : Int} : ∀ {n : Nat} {d : D}, d ∈ rngD lo n → ∃ i, d = .int i ∧ lo ≤ i ∧ i < lo + n
  | 0, d, h => by simp [rngD] at h
  | n + 1, d, h => by
    simp only [rngD, List.mem_cons] at h
    rcases h with rfl | h
    · exact ⟨lo, rfl, Int.le_refl _, by omega⟩
    · obtain ⟨i, rfl, h1, h2⟩ := rng_mem h
      exact ⟨i, rfl, by omega, by omega⟩
theorem map_const {α β : Type} (b : β) : ∀ xs : List α, xs.map (fun _ => b) = List.replicate xs.length b
  | [] => rfl
  | x :: r => by rw [List.map_cons, map_const b r]; rfl
end DL

set_option maxHeartbeats 4000000
namespace DL
open PySem PySem.Spec PyProof.Rows L2
def encO : Option Int → D
  | none => .non
  | some i => .int i
theorem encO_inj : ∀ {a b : Option Int}, encO a = encO b → a = b
  | none, none, _ => rfl
  | some _, some _, h => by cases h; rfl
  | none, some _, h => by cases h
  | some _, none, h => by cases h
def sp_law_pick : FSpec where
  pre := fun ds => ∃ (ns : List Int) (s : D) (xs : List D), ds = [.lst (ns.map D.int), s] ∧ seqD s = some xs ∧ 0 < xs.length ∧ xs.length ≤ 1000000000000
  post := fun ds r ds' => ∀ l s xs, ds = [l, s] → seqD s = some xs → ∃ ns : List Int, r ∈ xs ∧ ds' = [.lst (ns.map D.int), s]
/-- slots: 0 draws, 1 row -/
def w_law_pick : WS :=
    (cRet 2 (cOp fIx (cVar 1) (cCallN 2 sp_law_take (cCons (cVar 0) (cCons (cBi fLen (cCons (cVar 1) cNil)) cNil)))))
local macro_rules | `(tactic| walk_at "Ddl") => `(tactic| ((conv => whnf); (repeat ((first | refine And.intro rfl ?_ | refine And.intro trivial ?_ | refine And.intro ⟨rfl, trivial⟩ ?_ | refine And.intro ⟨rfl, rfl, trivial⟩ ?_ | refine ifb_t ?_ | refine ifb_f ?_ | refine ifb_nr ?_ | refine ifb_er ?_ | refine And.intro (by first | decide | omega | (unfold CMul; omega) | (unfold CDiv; omega) | (unfold CPow; decide) | (exact cpow1 (by omega) (by omega)) | (exact cpow1 (by dsimp only; omega) (by dsimp only; omega)) | (simp only [rngD_len, List.length_replicate, List.length_map, List.length_append, List.length_cons, List.length_nil, List.length_set] at *; omega)) ?_); conv => whnf))))
theorem pure_law_pick : ∀ ds, ds.length = 2 → sp_law_pick.pre ds → w_law_pick (env0 ds 0) { nx := fun e => sp_law_pick.post ds .non (outs e 2), rt := fun d e => sp_law_pick.post ds d (outs e 2) } := by
  rintro ds _ ⟨ns, s, xs, rfl, hs, h0, h1⟩
  cases s with
  | lst ys =>
    cases hs
    walk_at "Ddl"
    refine ⟨⟨⟨_, rfl⟩, by omega⟩, ?_⟩
    rintro _ _ ⟨ns1, v, rfl, rfl, h2, h3⟩
    obtain ⟨h, ea⟩ := atI_lt (xs := xs) h2 h3
    walk_at "Ddl"
    rw [ea]
    walk_at "Ddl"
    intro l s xs' e e2
    simp only [List.cons.injEq, and_true] at e
    obtain ⟨_, rfl⟩ := e
    cases e2
    exact ⟨ns1, List.getElem_mem h, rfl⟩
  | tup ys =>
    cases hs
    walk_at "Ddl"
    refine ⟨⟨⟨_, rfl⟩, by omega⟩, ?_⟩
    rintro _ _ ⟨ns1, v, rfl, rfl, h2, h3⟩
    obtain ⟨h, ea⟩ := atI_lt (xs := xs) h2 h3
    walk_at "Ddl"
    rw [ea]
    walk_at "Ddl"
    intro l s xs' e e2
    simp only [List.cons.injEq, and_true] at e
    obtain ⟨_, rfl⟩ := e
    cases e2
    exact ⟨ns1, List.getElem_mem h, rfl⟩
  | tpd ys =>
    cases hs
    walk_at "Ddl"
    refine ⟨⟨⟨_, rfl⟩, by omega⟩, ?_⟩
    rintro _ _ ⟨ns1, v, rfl, rfl, h2, h3⟩
    obtain ⟨h, ea⟩ := atI_lt (xs := xs) h2 h3
    walk_at "Ddl"
    rw [ea]
    walk_at "Ddl"
    intro l s xs' e e2
    simp only [List.cons.injEq, and_true] at e
    obtain ⟨_, rfl⟩ := e
    cases e2
    exact ⟨ns1, List.getElem_mem h, rfl⟩
  | rol ys =>
    cases hs
    walk_at "Ddl"
    refine ⟨⟨⟨_, rfl⟩, by omega⟩, ?_⟩
    rintro _ _ ⟨ns1, v, rfl, rfl, h2, h3⟩
    obtain ⟨h, ea⟩ := atI_lt (xs := xs) h2 h3
    walk_at "Ddl"
    rw [ea]
    walk_at "Ddl"
    intro l s xs' e e2
    simp only [List.cons.injEq, and_true] at e
    obtain ⟨_, rfl⟩ := e
    cases e2
    exact ⟨ns1, List.getElem_mem h, rfl⟩
  | _ => cases hs
end DL

set_option maxHeartbeats 4000000
namespace DL
open PySem PySem.Spec PyProof.Rows L2
/-! ### words -/
def okC (c : Nat) : Bool := decide (97 ≤ c) && decide (c ≤ 122)
/-- a word, at most 100 signs long (the words that are drawn are) -/
def isW (z : Str) : Bool := (!(z.cps.toList.isEmpty) && z.cps.toList.all okC) && decide (z.cps.toList.length ≤ 100)
def alpha : Str := PySem.Str.ofString "abcdefghijklmnopqrstuvwxyz"
theorem alpha_list : alpha.cps.toList = (List.range 26).map (97 + ·) := by decide
theorem mem_alpha (c : Nat) : decide (c ∈ alpha.cps.toList) = okC c := by
  rw [alpha_list]
  unfold okC
  rw [Bool.eq_iff_iff]
  simp only [decide_eq_true_eq, Bool.and_eq_true, List.mem_map, List.mem_range]
  constructor
  · rintro ⟨i, h, rfl⟩
    omega
  · rintro ⟨h1, h2⟩
    exact ⟨c - 97, by omega, by omega⟩
theorem len_list (z : Str) : z.length = z.cps.toList.length := by simp [Str.length]
def sumL (ws : List Str) : Nat := (ws.map (·.length)).sum
theorem join_len (z : Str) (ys : List Str) : (Txt.join z ys).length ≤ sumL ys + ys.length * z.length := by
  have e : Txt.join z ys = Str.join z ys := PySem.StrLaws.glued_eq_join z ys
  rw [e]
  exact PySem.StrLaws.join_length_le z ys
theorem text_at {z : Str} {v : Int} (h0 : 0 ≤ v) (h : v < z.length) : ∃ c, L2.atI z.cps.toList v = some c ∧ c ∈ z.cps.toList := by
  obtain ⟨h1, e⟩ := atI_lt (xs := z.cps.toList) (j := v) h0 (by rw [← len_list]; exact h)
  exact ⟨_, e, List.getElem_mem h1⟩
theorem sumL_ones : ∀ cs : List Nat, sumL (cs.map fun c => (⟨#[c]⟩ : Str)) = cs.length
  | [] => rfl
  | c :: r => by
    have := sumL_ones r
    simp only [sumL, List.map_cons, List.sum_cons, List.length_cons] at this ⊢
    rw [this]
    show 1 + _ = _
    omega
theorem join_ones : ∀ cs : List Nat, (Txt.join (PySem.Str.ofString "") (cs.map fun c => (⟨#[c]⟩ : Str))).cps.toList = cs := by
  intro cs
  have e : Txt.join (PySem.Str.ofString "") (cs.map fun c => (⟨#[c]⟩ : Str)) = Str.join (PySem.Str.ofString "") (cs.map fun c => (⟨#[c]⟩ : Str)) := PySem.StrLaws.glued_eq_join _ _
  rw [e]
  have h0 : (PySem.Str.ofString "").cps.toList = [] := by decide
  induction cs with
  | nil => rfl
  | cons c r ih =>
    cases r with
    | nil => rfl
    | cons d r =>
      have := ih (PySem.StrLaws.glued_eq_join _ _)
      show ((⟨#[c]⟩ : Str) ++ PySem.Str.ofString "" ++ Str.join (PySem.Str.ofString "") ((d :: r).map fun c => (⟨#[c]⟩ : Str))).cps.toList = _
      rw [Str.cps_append, Str.cps_append, Array.toList_append, Array.toList_append, h0, this]
      rfl
theorem alpha_ok {v : Int} (h0 : 0 ≤ v) (h : v < 26) : ∃ c, L2.atI alpha.cps.toList v = some c ∧ okC c = true := by
  have hl : alpha.length = 26 := by decide
  obtain ⟨c, e, hc⟩ := text_at (z := alpha) h0 (by rw [hl]; exact h)
  refine ⟨c, e, ?_⟩
  rw [← mem_alpha c]
  exact decide_eq_true hc
theorem ifb_nq {p : Prop} {_ : Decidable p} {A B : Prop} (h : ¬ p) (hb : B) : ifb (.bl (decide p)) A B := by
  rw [decide_eq_false h]; exact ifb_f hb
theorem flatA_str : ∀ ws : List Str, flatA (ws.map D.str) = true
  | [] => rfl
  | _ :: r => flatA_str r
theorem any_str (z : Str) : ∀ ws : List Str, ((ws.map D.str).any fun y => eqF y (D.str z)) = decide (z ∈ ws)
  | [] => rfl
  | w :: r => by
    rw [List.map_cons, List.any_cons, any_str z r]
    show (w == z || decide (z ∈ r)) = _
    by_cases h : w = z
    · subst h; simp
    · rw [beq_false_of_ne h, Bool.false_or]
      have : ¬ z = w := fun q => h q.symm
      simp [this]
/-! ### the order of texts -/
def slt (a b : Str) : Prop := a.cps.toList < b.cps.toList
theorem Str.ext' {a b : Str} (h : a.cps.toList = b.cps.toList) : a = b := by
  obtain ⟨⟨x⟩⟩ := a
  obtain ⟨⟨y⟩⟩ := b
  have : x = y := h
  rw [this]
instance (a b : Str) : Decidable (slt a b) := inferInstanceAs (Decidable (a.cps.toList < b.cps.toList))
theorem slt_trans {a b c : Str} (h : slt a b) (g : slt b c) : slt a c := List.lt_trans h g
theorem slt_irr (a : Str) : ¬ slt a a := List.lt_irrefl _
theorem slt_tri {a b : Str} (h : ¬ slt a b) (g : ¬ slt b a) : a = b := Str.ext' (List.le_antisymm (List.not_lt.mp g) (List.not_lt.mp h))
theorem slt_asymm {a b : Str} (h : slt a b) : ¬ slt b a := fun g => slt_irr a (slt_trans h g)
theorem sle_trans {a b c : Str} (h : ¬ slt b a) (g : ¬ slt c b) : ¬ slt c a := fun q => by
  by_cases e : slt a b
  · exact g (slt_trans q e)
  · rw [slt_tri e h] at q; exact g q
def SC (cs : List Str) : Prop := cs.Pairwise slt
theorem SC.nd {cs : List Str} (h : SC cs) : cs.Nodup := h.imp fun {a b} q e => by subst e; exact slt_irr _ q
theorem SC.sub {cs ds : List Str} (h : SC cs) (s : ds.Sublist cs) : SC ds := List.Pairwise.sublist s h
theorem SC.uniq : ∀ {a b : List Str}, SC a → SC b → (∀ x, x ∈ a ↔ x ∈ b) → a = b
  | [], [], _, _, _ => rfl
  | [], y :: r, _, _, h => by have := (h y).mpr (by simp); simp at this
  | x :: r, [], _, _, h => by have := (h x).mp (by simp); simp at this
  | x :: r, y :: s, ha, hb, h => by
    have ha' := List.pairwise_cons.mp ha
    have hb' := List.pairwise_cons.mp hb
    have e : x = y := by
      have h1 := (h x).mp (by simp)
      have h2 := (h y).mpr (by simp)
      rcases List.mem_cons.mp h1 with e | h1
      · exact e
      rcases List.mem_cons.mp h2 with e | h2
      · exact e.symm
      exact absurd (ha'.1 _ h2) (slt_asymm (hb'.1 _ h1))
    subst e
    rw [SC.uniq ha'.2 hb'.2 fun z => ?_]
    have hz := h z
    simp only [List.mem_cons] at hz
    constructor
    · intro q
      rcases hz.mp (.inr q) with e | g
      · subst e; exact absurd (ha'.1 _ q) (slt_irr _)
      · exact g
    · intro q
      rcases hz.mpr (.inr q) with e | g
      · subst e; exact absurd (hb'.1 _ q) (slt_irr _)
      · exact g
theorem risingS_pw : ∀ {r : List Str} {p : Str}, PyProof.Rows.risingS p r = true → (p :: r).Pairwise fun a b => ¬ slt b a
  | [], p, _ => by simp
  | x :: r, p, h => by
    simp only [PyProof.Rows.risingS, Bool.and_eq_true, Bool.not_eq_true'] at h
    obtain ⟨h1, h2⟩ := h
    have ih := risingS_pw h2
    have h1 : ¬ slt x p := by rw [ltCps_eq, decide_eq_false_iff_not] at h1; exact h1
    refine List.pairwise_cons.mpr ⟨fun y hy => ?_, ih⟩
    rcases List.mem_cons.mp hy with rfl | hy
    · exact h1
    · exact sle_trans h1 ((List.pairwise_cons.mp ih).1 y hy)
theorem sortedS_pw {l : List Str} (h : sortedS l = true) : l.Pairwise fun a b => ¬ slt b a := by
  cases l with
  | nil => exact .nil
  | cons x r => exact risingS_pw h
theorem SC.of_sorted {l : List Str} (h : sortedS l = true) (n : l.Nodup) : SC l := by
  have h1 := sortedS_pw h
  have h2 := h1.and n
  exact h2.imp fun {a b} q => by
    by_cases e : slt a b
    · exact e
    · exact absurd (slt_tri e q.1) q.2
/-- the words in order, each once -/
def insS (x : Str) : List Str → List Str
  | [] => [x]
  | y :: r => if slt x y then x :: y :: r else if slt y x then y :: insS x r else y :: r
def ordS : List Str → List Str
  | [] => []
  | x :: r => insS x (ordS r)
theorem mem_insS {x z : Str} : ∀ {l : List Str}, z ∈ insS x l ↔ z = x ∨ z ∈ l
  | [] => by simp [insS]
  | y :: r => by
    unfold insS
    by_cases h : slt x y
    · rw [if_pos h]; simp
    · rw [if_neg h]
      by_cases g : slt y x
      · rw [if_pos g, List.mem_cons, mem_insS (l := r), List.mem_cons]
        constructor
        · rintro (a | a | a)
          · exact .inr (.inl a)
          · exact .inl a
          · exact .inr (.inr a)
        · rintro (a | a | a)
          · exact .inr (.inl a)
          · exact .inl a
          · exact .inr (.inr a)
      · rw [if_neg g, slt_tri h g]
        simp
theorem mem_ordS {z : Str} : ∀ {l : List Str}, z ∈ ordS l ↔ z ∈ l
  | [] => by simp [ordS]
  | x :: r => by
    show z ∈ insS x (ordS r) ↔ _
    rw [mem_insS, mem_ordS (l := r), List.mem_cons]
theorem SC.ins {x : Str} : ∀ {l : List Str}, SC l → SC (insS x l)
  | [], _ => by simp [insS, SC]
  | y :: r, h => by
    have h' := List.pairwise_cons.mp h
    unfold insS
    by_cases g : slt x y
    · rw [if_pos g]
      refine List.pairwise_cons.mpr ⟨fun z hz => ?_, h⟩
      rcases List.mem_cons.mp hz with rfl | hz
      · exact g
      · exact slt_trans g (h'.1 z hz)
    · rw [if_neg g]
      by_cases k : slt y x
      · rw [if_pos k]
        refine List.pairwise_cons.mpr ⟨fun z hz => ?_, SC.ins h'.2⟩
        rcases mem_insS.mp hz with rfl | hz
        · exact k
        · exact h'.1 z hz
      · rw [if_neg k]; exact h
theorem SC.ord : ∀ l : List Str, SC (ordS l)
  | [] => .nil
  | _ :: r => (SC.ord r).ins
theorem ordS_eq {l cs : List Str} (h : SC cs) (m : ∀ x, x ∈ l ↔ x ∈ cs) : ordS l = cs := SC.uniq (SC.ord l) h fun x => mem_ordS.trans (m x)
end DL

namespace DL
open PySem PySem.Spec PyProof.Rows L2
/-! ### a stop ahead of a statement -/
@[irreducible] def Stop (p : Prop) : Prop := p
theorem Stop.mk {p : Prop} (h : p) : Stop p := by unfold Stop; exact h
theorem Stop.eq (p : Prop) : Stop p = p := by unfold Stop; rfl
def cCut (w u : WS) : WS := fun env K => w env { K with nx := fun e => Stop (u e K) }
theorem cCut_eq (w u : WS) : cCut w u = cSeq w u := by
  funext env K
  unfold cCut cSeq
  simp only [Stop.eq]
theorem cutW' {u v : WS} {env : DEnv} {K : Kt} (J : DEnv → Prop) (h1 : ∀ nxt : DEnv → Prop, (∀ e, J e → nxt e) → u env { K with nx := nxt }) (h2 : ∀ e, J e → v e K) : Stop (cCut u v env K) := Stop.mk (h1 _ fun e h => Stop.mk (h2 e h))
theorem stopE {w : WS} {env e : DEnv} {K : Kt} (h : env = e) (g : w e K) : Stop (w env K) := Stop.mk (h ▸ g)
end DL

set_option maxHeartbeats 1000000
namespace DL
open PySem PySem.Spec PyProof.Rows L2
--REN _law_size=law_size_b
/-! ### numbers of at most sixty digits -/
def bigZ : Nat := 10 ^ 61
theorem big15 : 1000000000000000 ≤ bigZ := by unfold bigZ; decide
theorem big60 : 10 ^ 60 ≤ bigZ := by unfold bigZ; decide
structure Sm where
  n : Int
  ok : n.natAbs < bigZ
def Sm.d (m : Sm) : D := .int m.n
def IsSm (ys : List D) : Prop := ∃ ms : List Sm, ys = ms.map Sm.d
def sp_law_size_b : FSpec where
  pre := fun ds => match ds with
    | [.lst xs, .lst ys] => IsInts xs ∧ IsSm ys
    | _ => False
  post := fun ds r ds' => match ds with
    | [_, .lst ys] => ∃ ns v, r = .int v ∧ ds' = [.lst (List.map D.int ns), .lst ys] ∧ (0 ≤ v ∧ v.natAbs < bigZ)
    | _ => False
/-- slots: 0 draws, 1 script, 2 kind, 3 number, 4 k -/
def w_law_size_b : WS :=
    (cSeq (cAsg 2 [0, 1] 2 (cCallN 2 sp_law_take (cCons (cVar 0) (cCons (cC (.int 8)) cNil))))
    (cSeq (cIte (cOp fLt (cVar 2) (cC (.int 5)))
      (cRet 2 (cCallN 2 sp_law_take (cCons (cVar 0) (cCons (cC (.int 12)) cNil))))
      cNilS)
    (cSeq (cIte (cOp fEqS (cVar 2) (cC (.int 5)))
      (cRet 2 (cCallN 2 sp_law_take (cCons (cVar 0) (cCons (cC (.int 100)) cNil))))
      cNilS)
    (cSeq (cIte (cOr (cOp fEqS (cVar 2) (cC (.int 6))) (cOp fEqS (cBi fLen (cCons (cVar 1) cNil)) (cC (.int 0))))
      (cSeq (cAsg 2 [0, 1] 3 (cC (.int 0)))
        (cSeq (cFor [0, 1] (iR1 (cC (.int 5))) (gN 2 [0, 1] 4)
          (cAsg 2 [0, 1] 3 (cOp fAddG (cOp fMul (cVar 3) (cC (.int 1000))) (cCallN 2 sp_law_take (cCons (cVar 0) (cCons (cC (.int 1000)) cNil))))))
        (cRet 2 (cVar 3))))
      cNilS)
    (cRet 2 (cBi fAbs (cCons (cBi fInt (cCons (cOp fIx (cVar 1) (cCallN 2 sp_law_take (cCons (cVar 0) (cCons (cBi fLen (cCons (cVar 1) cNil)) cNil)))) cNil)) cNil)))))))
local macro_rules | `(tactic| walk_at "Ddl") => `(tactic| ((conv => whnf); (repeat ((first | refine And.intro rfl ?_ | refine And.intro trivial ?_ | refine And.intro ⟨rfl, trivial⟩ ?_ | refine And.intro ⟨rfl, rfl, trivial⟩ ?_ | refine ifb_t ?_ | refine ifb_f ?_ | refine ifb_nr ?_ | refine ifb_er ?_ | refine And.intro (by first | decide | omega | (unfold CMul; omega) | (unfold CDiv; omega) | (unfold CPow; decide) | (exact cpow1 (by omega) (by omega)) | (exact cpow1 (by dsimp only; omega) (by dsimp only; omega)) | (simp only [rngD_len, List.length_replicate, List.length_map, List.length_append, List.length_cons, List.length_nil, List.length_set] at *; omega)) ?_); conv => whnf))))
theorem pure_law_size_b : ∀ ds, ds.length = 2 → sp_law_size_b.pre ds → w_law_size_b (env0 ds 3) { nx := fun e => sp_law_size_b.post ds .non (outs e 2), rt := fun d e => sp_law_size_b.post ds d (outs e 2) } := by
  intro ds _ h
  unfold sp_law_size_b at h
  dsimp only at h
  have h15 := big15
  split at h
  · obtain ⟨⟨ns, rfl⟩, ms, rfl⟩ := h
    walk_at "Ddl"
    refine ⟨⟨⟨_, rfl⟩, by first | decide | omega⟩, ?_⟩; rintro _ _ ⟨ns1, v, rfl, rfl, h0, h1⟩; walk_at "Ddl"
    refine ifb_dec (fun e => ?_) (fun e => ?_)
    · walk_at "Ddl"
      refine ⟨⟨⟨_, rfl⟩, by first | decide | omega⟩, ?_⟩; rintro _ _ ⟨ns2, v2, rfl, rfl, h2, h3⟩; walk_at "Ddl"
      exact ⟨ns2, v2, rfl, rfl, h2, by omega⟩
    · walk_at "Ddl"
      refine ifb_dec (fun e2 => ?_) (fun e2 => ?_)
      · walk_at "Ddl"
        refine ⟨⟨⟨_, rfl⟩, by first | decide | omega⟩, ?_⟩; rintro _ _ ⟨ns2, v2, rfl, rfl, h2, h3⟩; walk_at "Ddl"
        exact ⟨ns2, v2, rfl, rfl, h2, by omega⟩
      · walk_at "Ddl"
        have neg : ∀ e, e = [some (D.lst (ns1.map D.int)), some (D.lst (ms.map Sm.d)), some (D.int v), none, none] → ms ≠ [] → (cRet 2 (cBi fAbs (cCons (cBi fInt (cCons (cOp fIx (cVar 1) (cCallN 2 sp_law_take (cCons (cVar 0) (cCons (cBi fLen (cCons (cVar 1) cNil)) cNil)))) cNil)) cNil))) e { nx := fun e => sp_law_size_b.post [.lst (ns.map D.int), .lst (ms.map Sm.d)] .non (outs e 2), rt := fun d e => sp_law_size_b.post [.lst (ns.map D.int), .lst (ms.map Sm.d)] d (outs e 2) } := by
          rintro e rfl hms
          walk_at "Ddl"
          have hp : 0 < ((List.map Sm.d ms).length : Int) := by
            have := List.length_pos_iff.mpr hms
            simpa using this
          refine ⟨⟨⟨_, rfl⟩, hp⟩, ?_⟩
          rintro _ _ ⟨ns2, x, rfl, rfl, hx0, hx1⟩
          walk_at "Ddl"
          have hx2 : x.toNat < ms.length := by
            have : x < (ms.length : Int) := by simpa using hx1
            omega
          have ea : atI (List.map Sm.d ms) x = some (D.int (ms[x.toNat]).n) := by
            have := atI_nat (xs := List.map Sm.d ms) (j := x.toNat) (v := D.int (ms[x.toNat]).n) (by simp [hx2, Sm.d])
            rwa [Int.toNat_of_nonneg hx0] at this
          rw [ea]
          have ok := (ms[x.toNat]).ok
          generalize (ms[x.toNat]).n = y at *
          walk_at "Ddl"
          refine ⟨ns2, _, rfl, rfl, ?_, ?_⟩ <;> (split <;> omega)
        have big : ∀ N e, e = [some (D.lst (ns1.map D.int)), some (D.lst (ms.map Sm.d)), some (D.int v), none, none] → (cSeq (cAsg 2 [0, 1] 3 (cC (.int 0)))
        (cSeq (cFor [0, 1] (iR1 (cC (.int 5))) (gN 2 [0, 1] 4)
          (cAsg 2 [0, 1] 3 (cOp fAddG (cOp fMul (cVar 3) (cC (.int 1000))) (cCallN 2 sp_law_take (cCons (cVar 0) (cCons (cC (.int 1000)) cNil))))))
        (cRet 2 (cVar 3)))) e { nx := N, rt := fun d e => sp_law_size_b.post [.lst (ns.map D.int), .lst (ms.map Sm.d)] d (outs e 2) } := by
          rintro N e rfl
          walk_at "Ddl"
          refine loop_rng (fun j e => ∃ (ks : List Int) (num : Int) (o : Option D), (0 ≤ num ∧ ∃ i : Nat, j = i ∧ num.toNat + 1 ≤ 1000 ^ i) ∧ e = [some (D.lst (ks.map D.int)), some (D.lst (ms.map Sm.d)), some (D.int v), some (D.int num), o]) ⟨ns1, 0, none, ⟨Int.le_refl _, 0, rfl, by decide⟩, rfl⟩ ?_ ?_
          · rintro j env nxt h1 h2 ⟨ks, num, o, ⟨hn, i, rfl, hi⟩, rfl⟩ hx
            walk_at "Ddl"
            refine ⟨⟨⟨_, rfl⟩, by first | decide | omega⟩, ?_⟩; rintro _ _ ⟨ks2, d, rfl, rfl, hd0, hd1⟩; walk_at "Ddl"
            exact hx _ ⟨ks2, num * 1000 + d, _, ⟨by omega, i + 1, by omega, by rw [Nat.pow_succ]; omega⟩, rfl⟩
          · rintro env ⟨ks, num, o, ⟨hn, i, hj, hi⟩, rfl⟩
            have hi5 : i = 5 := by omega
            subst hi5
            have : (1000 : Nat) ^ 5 = 1000000000000000 := by decide
            walk_at "Ddl"
            exact ⟨ks, num, rfl, rfl, hn, by omega⟩
        refine ifb_dec (fun e6 => ?_) (fun e6 => ?_)
        · (conv => whnf); refine ifb_t ?_
          exact big _ _ rfl
        · walk_at "Ddl"
          refine ifb_dec (fun e7 => ?_) (fun e7 => ?_)
          · exact big _ _ rfl
          · exact neg _ rfl (fun z => by subst z; exact e7 rfl)
  · exact h.elim
end DL

set_option maxHeartbeats 400000
namespace DL
--REN _law_size=law_size_b
open PySem PySem.Spec PyProof.Rows L2
/-! ### questions -/
inductive Vv where | i (n : Int) | s (w : Str)
inductive Tm where | col (x : Str) | val (v : Vv)
inductive K2 where | both | either | unless | since | sincenot | until | untilnot
inductive K4 where | once | lately | soon | hence
inductive K3 where | sum | least | most
inductive KL where | linked | way
inductive Qn where
  | fact (n : Str) (ts : List Tm)
  | two (k : K2) (p q : Qn)
  | only (cs : List Str) (p : Qn)
  | whr (t : Str) (l r : Tm) (p : Qn)
  | shift (n : Int) (p : Qn)
  | look (k : K4) (w : Option Int) (p : Qn)
  | count (new : Str) (keep : List Str) (p : Qn)
  | total (k : K3) (new col : Str) (keep : List Str) (p : Qn)
  | link (k : KL) (x y : Str) (p : Qn)
def K2.s : K2 → Str
  | .both => PySem.Str.ofString "both" | .either => PySem.Str.ofString "either" | .unless => PySem.Str.ofString "unless" | .since => PySem.Str.ofString "since"
  | .sincenot => PySem.Str.ofString "sincenot" | .until => PySem.Str.ofString "until" | .untilnot => PySem.Str.ofString "untilnot"
def K4.s : K4 → Str
  | .once => PySem.Str.ofString "once" | .lately => PySem.Str.ofString "lately" | .soon => PySem.Str.ofString "soon" | .hence => PySem.Str.ofString "henceforth"
def K3.s : K3 → Str
  | .sum => PySem.Str.ofString "sum" | .least => PySem.Str.ofString "least" | .most => PySem.Str.ofString "most"
def KL.s : KL → Str
  | .linked => PySem.Str.ofString "linked" | .way => PySem.Str.ofString "way"
def encV : Vv → D
  | .i n => .int n
  | .s w => .str w
def encTm : Tm → D
  | .col x => .tup [.str (PySem.Str.ofString "col"), .str x]
  | .val v => .tup [.str (PySem.Str.ofString "value"), encV v]
def encC (cs : List Str) : D := .tup (cs.map D.str)
def encQ : Qn → D
  | .fact n ts => .tup [.str (PySem.Str.ofString "fact"), .str n, .tup (ts.map encTm)]
  | .two k p q => .tup [.str k.s, encQ p, encQ q]
  | .only cs p => .tup [.str (PySem.Str.ofString "only"), encC cs, encQ p]
  | .whr t l r p => .tup [.str (PySem.Str.ofString "where"), .str t, encTm l, encTm r, encQ p]
  | .shift n p => .tup [.str (PySem.Str.ofString "shift"), .int n, encQ p]
  | .look k w p => .tup [.str k.s, encO w, encQ p]
  | .count new keep p => .tup [.str (PySem.Str.ofString "count"), .str new, encC keep, encQ p]
  | .total k new col keep p => .tup [.str k.s, .str new, .str col, encC keep, encQ p]
  | .link k x y p => .tup [.str k.s, .str x, .str y, encQ p]
def kd : Qn → Str
  | .fact .. => PySem.Str.ofString "fact"
  | .two k .. => k.s
  | .only .. => PySem.Str.ofString "only"
  | .whr .. => PySem.Str.ofString "where"
  | .shift .. => PySem.Str.ofString "shift"
  | .look k .. => k.s
  | .count .. => PySem.Str.ofString "count"
  | .total k .. => k.s
  | .link k .. => k.s
def ix : Qn → Nat
  | .fact .. => 0 | .two .. => 1 | .only .. => 2 | .whr .. => 3 | .shift .. => 4 | .look .. => 5 | .count .. => 6 | .total .. => 7 | .link .. => 8
def clS (z : Str) : Nat :=
  if z = PySem.Str.ofString "fact" then 0 else if z ∈ [PySem.Str.ofString "both", PySem.Str.ofString "either", PySem.Str.ofString "unless", PySem.Str.ofString "since", PySem.Str.ofString "sincenot", PySem.Str.ofString "until", PySem.Str.ofString "untilnot"] then 1
  else if z = PySem.Str.ofString "only" then 2 else if z = PySem.Str.ofString "where" then 3 else if z = PySem.Str.ofString "shift" then 4
  else if z ∈ [PySem.Str.ofString "once", PySem.Str.ofString "lately", PySem.Str.ofString "soon", PySem.Str.ofString "henceforth"] then 5
  else if z = PySem.Str.ofString "count" then 6 else if z ∈ [PySem.Str.ofString "sum", PySem.Str.ofString "least", PySem.Str.ofString "most"] then 7 else 8
theorem cl2 (k : K2) : clS k.s = 1 := by cases k <;> decide
theorem cl4 (k : K4) : clS k.s = 5 := by cases k <;> decide
theorem cl3 (k : K3) : clS k.s = 7 := by cases k <;> decide
theorem clL (k : KL) : clS k.s = 8 := by cases k <;> decide
theorem cl_kd (q : Qn) : clS (kd q) = ix q := by
  cases q with
  | two k p q => exact cl2 k
  | look k w p => exact cl4 k
  | total k => exact cl3 k
  | link k => exact clL k
  | fact => exact (by decide : clS (PySem.Str.ofString "fact") = 0)
  | only => exact (by decide : clS (PySem.Str.ofString "only") = 2)
  | whr => exact (by decide : clS (PySem.Str.ofString "where") = 3)
  | shift => exact (by decide : clS (PySem.Str.ofString "shift") = 4)
  | count => exact (by decide : clS (PySem.Str.ofString "count") = 6)
theorem K2.inj {a b : K2} (h : a.s = b.s) : a = b := by cases a <;> cases b <;> first | rfl | exact absurd h (by decide)
theorem K4.inj {a b : K4} (h : a.s = b.s) : a = b := by cases a <;> cases b <;> first | rfl | exact absurd h (by decide)
theorem K3.inj {a b : K3} (h : a.s = b.s) : a = b := by cases a <;> cases b <;> first | rfl | exact absurd h (by decide)
theorem KL.inj {a b : KL} (h : a.s = b.s) : a = b := by cases a <;> cases b <;> first | rfl | exact absurd h (by decide)
theorem encV_inj {a b : Vv} (h : encV a = encV b) : a = b := by
  cases a <;> cases b <;> simp only [encV, D.int.injEq, D.str.injEq, reduceCtorEq] at h
  · rw [h]
  · rw [h]
theorem encTm_inj {a b : Tm} (h : encTm a = encTm b) : a = b := by
  cases a <;> cases b <;> simp only [encTm, D.tup.injEq, List.cons.injEq, D.str.injEq, and_true] at h
  · rw [h.2]
  · exact absurd h.1 (by decide)
  · exact absurd h.1 (by decide)
  · rw [encV_inj h.2]
theorem mapTm_inj {a b : List Tm} (h : a.map encTm = b.map encTm) : a = b := (List.map_inj_right fun _ _ h => encTm_inj h).mp h
theorem mapS_inj {a b : List Str} (h : a.map D.str = b.map D.str) : a = b := (List.map_inj_right fun _ _ h => by simpa using h).mp h
theorem encC_inj {a b : List Str} (h : encC a = encC b) : a = b := by
  simp only [encC, D.tup.injEq] at h
  exact mapS_inj h
theorem encQ_kd (q : Qn) : ∃ r, encQ q = .tup (.str (kd q) :: r) := by cases q <;> exact ⟨_, rfl⟩
theorem encQ_ix {a b : Qn} (h : encQ a = encQ b) : ix a = ix b := by
  obtain ⟨r, e⟩ := encQ_kd a
  obtain ⟨s, f⟩ := encQ_kd b
  rw [e, f] at h
  simp only [D.tup.injEq, List.cons.injEq, D.str.injEq] at h
  rw [← cl_kd, ← cl_kd, h.1]
theorem encQ_inj : ∀ {a b : Qn}, encQ a = encQ b → a = b
  | .fact n ts, b, h => by
    have hi := encQ_ix h
    cases b <;> simp only [ix] at hi <;> first | (exact absurd hi (by decide)) | skip
    simp only [encQ, D.tup.injEq, List.cons.injEq, D.str.injEq, and_true, true_and] at h
    rw [h.1, mapTm_inj h.2]
  | .two k p q, b, h => by
    have hi := encQ_ix h
    cases b <;> simp only [ix] at hi <;> first | (exact absurd hi (by decide)) | skip
    simp only [encQ, D.tup.injEq, List.cons.injEq, D.str.injEq, and_true] at h
    rw [K2.inj h.1, encQ_inj h.2.1, encQ_inj h.2.2]
  | .only cs p, b, h => by
    have hi := encQ_ix h
    cases b <;> simp only [ix] at hi <;> first | (exact absurd hi (by decide)) | skip
    simp only [encQ, D.tup.injEq, List.cons.injEq, D.str.injEq, and_true, true_and] at h
    rw [encC_inj h.1, encQ_inj h.2]
  | .whr t l r p, b, h => by
    have hi := encQ_ix h
    cases b <;> simp only [ix] at hi <;> first | (exact absurd hi (by decide)) | skip
    simp only [encQ, D.tup.injEq, List.cons.injEq, D.str.injEq, and_true, true_and] at h
    rw [h.1, encTm_inj h.2.1, encTm_inj h.2.2.1, encQ_inj h.2.2.2]
  | .shift n p, b, h => by
    have hi := encQ_ix h
    cases b <;> simp only [ix] at hi <;> first | (exact absurd hi (by decide)) | skip
    simp only [encQ, D.tup.injEq, List.cons.injEq, D.str.injEq, D.int.injEq, and_true, true_and] at h
    rw [h.1, encQ_inj h.2]
  | .look k w p, b, h => by
    have hi := encQ_ix h
    cases b <;> simp only [ix] at hi <;> first | (exact absurd hi (by decide)) | skip
    simp only [encQ, D.tup.injEq, List.cons.injEq, D.str.injEq, and_true] at h
    rw [K4.inj h.1, encO_inj h.2.1, encQ_inj h.2.2]
  | .count n ks p, b, h => by
    have hi := encQ_ix h
    cases b <;> simp only [ix] at hi <;> first | (exact absurd hi (by decide)) | skip
    simp only [encQ, D.tup.injEq, List.cons.injEq, D.str.injEq, and_true, true_and] at h
    rw [h.1, encC_inj h.2.1, encQ_inj h.2.2]
  | .total k n c ks p, b, h => by
    have hi := encQ_ix h
    cases b <;> simp only [ix] at hi <;> first | (exact absurd hi (by decide)) | skip
    simp only [encQ, D.tup.injEq, List.cons.injEq, D.str.injEq, and_true] at h
    rw [K3.inj h.1, h.2.1, h.2.2.1, encC_inj h.2.2.2.1, encQ_inj h.2.2.2.2]
  | .link k x y p, b, h => by
    have hi := encQ_ix h
    cases b <;> simp only [ix] at hi <;> first | (exact absurd hi (by decide)) | skip
    simp only [encQ, D.tup.injEq, List.cons.injEq, D.str.injEq, and_true] at h
    rw [KL.inj h.1, h.2.1, h.2.2.1, encQ_inj h.2.2.2]
def partsQ : Qn → List Qn
  | .fact .. => []
  | .two _ p q => [p, q]
  | .only _ p => [p] | .whr _ _ _ p => [p] | .shift _ p => [p] | .look _ _ p => [p] | .count _ _ p => [p] | .total _ _ _ _ p => [p] | .link _ _ _ p => [p]
def dpQ : Qn → Nat
  | .fact .. => 1
  | .two _ p q => max (dpQ p) (dpQ q) + 1
  | .only _ p => dpQ p + 1 | .whr _ _ _ p => dpQ p + 1 | .shift _ p => dpQ p + 1 | .look _ _ p => dpQ p + 1 | .count _ _ p => dpQ p + 1 | .total _ _ _ _ p => dpQ p + 1 | .link _ _ _ p => dpQ p + 1
theorem dpQ_pos (q : Qn) : 1 ≤ dpQ q := by cases q <;> simp [dpQ]
theorem dpQ_part {q p : Qn} (h : p ∈ partsQ q) : dpQ p < dpQ q := by
  cases q <;> simp only [partsQ, List.mem_cons, List.not_mem_nil, or_false] at h <;> simp only [dpQ]
  · rcases h with rfl | rfl <;> omega
  all_goals (subst h; omega)
theorem encQ_nl (q : Qn) : isL (encQ q) = false := by cases q <;> rfl
/-! ### columns and what is valid -/
def colOf : Tm → Option Str
  | .col x => some x
  | _ => none
def colsQ : Qn → List Str
  | .fact _ ts => ordS (ts.filterMap colOf)
  | .two k p q => match k with
    | .both => ordS (colsQ p ++ colsQ q)
    | .either => colsQ p
    | .unless => colsQ p
    | _ => colsQ q
  | .only cs _ => cs
  | .whr _ _ _ p => colsQ p
  | .shift _ p => colsQ p
  | .look _ _ p => colsQ p
  | .count new keep _ => ordS (new :: keep)
  | .total _ new _ keep _ => ordS (new :: keep)
  | .link _ _ _ p => colsQ p
def okV : Vv → Prop
  | .i n => n.natAbs < bigZ
  | .s w => isW w = true
def okTm : Tm → Prop
  | .col x => isW x = true
  | .val v => okV v
def fitTm (cs : List Str) : Tm → Prop
  | .col x => x ∈ cs
  | .val v => okV v
def cmps : List Str := [PySem.Str.ofString "same", PySem.Str.ofString "other", PySem.Str.ofString "less"]
/-- the node itself -/
def okN : Qn → Prop
  | .fact n ts => isW n = true ∧ ts.length ≤ 8 ∧ ∀ t ∈ ts, okTm t
  | .two k p q => match k with
    | .both => True
    | .either => colsQ p = colsQ q
    | .unless => ∀ x ∈ colsQ q, x ∈ colsQ p
    | _ => ∀ x ∈ colsQ p, x ∈ colsQ q
  | .only cs p => SC cs ∧ ∀ x ∈ cs, x ∈ colsQ p
  | .whr t l r p => t ∈ cmps ∧ fitTm (colsQ p) l ∧ fitTm (colsQ p) r
  | .shift n _ => n.natAbs < bigZ
  | .look _ w _ => ∀ k, w = some k → (0 ≤ k ∧ k.natAbs < bigZ)
  | .count new keep p => isW new = true ∧ new ∉ keep ∧ SC keep ∧ ∀ x ∈ keep, x ∈ colsQ p
  | .total _ new col keep p => isW new = true ∧ new ∉ keep ∧ (SC keep ∧ ∀ x ∈ keep, x ∈ colsQ p) ∧ col ∈ colsQ p
  | .link _ x y p => x ≠ y ∧ ordS [x, y] = colsQ p
def okQ : Qn → Prop
  | q@(.fact ..) => okN q ∧ (colsQ q).length ≤ 8
  | q@(.two _ p r) => (okN q ∧ (colsQ q).length ≤ 8) ∧ okQ p ∧ okQ r
  | q@(.only _ p) => (okN q ∧ (colsQ q).length ≤ 8) ∧ okQ p
  | q@(.whr _ _ _ p) => (okN q ∧ (colsQ q).length ≤ 8) ∧ okQ p
  | q@(.shift _ p) => (okN q ∧ (colsQ q).length ≤ 8) ∧ okQ p
  | q@(.look _ _ p) => (okN q ∧ (colsQ q).length ≤ 8) ∧ okQ p
  | q@(.count _ _ p) => (okN q ∧ (colsQ q).length ≤ 8) ∧ okQ p
  | q@(.total _ _ _ _ p) => (okN q ∧ (colsQ q).length ≤ 8) ∧ okQ p
  | q@(.link _ _ _ p) => (okN q ∧ (colsQ q).length ≤ 8) ∧ okQ p
/-! ### parts -/
abbrev tab_ITEMS : Tbl := [(PySem.Str.ofString "fact", [PySem.Str.ofString "word", PySem.Str.ofString "terms"]), (PySem.Str.ofString "both", [PySem.Str.ofString "question", PySem.Str.ofString "question"]), (PySem.Str.ofString "either", [PySem.Str.ofString "question", PySem.Str.ofString "question"]), (PySem.Str.ofString "unless", [PySem.Str.ofString "question", PySem.Str.ofString "question"]), (PySem.Str.ofString "only", [PySem.Str.ofString "columns", PySem.Str.ofString "question"]), (PySem.Str.ofString "where", [PySem.Str.ofString "word", PySem.Str.ofString "term", PySem.Str.ofString "term", PySem.Str.ofString "question"]), (PySem.Str.ofString "shift", [PySem.Str.ofString "integer", PySem.Str.ofString "question"]), (PySem.Str.ofString "once", [PySem.Str.ofString "within", PySem.Str.ofString "question"]), (PySem.Str.ofString "lately", [PySem.Str.ofString "within", PySem.Str.ofString "question"]), (PySem.Str.ofString "soon", [PySem.Str.ofString "within", PySem.Str.ofString "question"]), (PySem.Str.ofString "henceforth", [PySem.Str.ofString "within", PySem.Str.ofString "question"]), (PySem.Str.ofString "since", [PySem.Str.ofString "question", PySem.Str.ofString "question"]), (PySem.Str.ofString "until", [PySem.Str.ofString "question", PySem.Str.ofString "question"]), (PySem.Str.ofString "sincenot", [PySem.Str.ofString "question", PySem.Str.ofString "question"]), (PySem.Str.ofString "untilnot", [PySem.Str.ofString "question", PySem.Str.ofString "question"]), (PySem.Str.ofString "count", [PySem.Str.ofString "word", PySem.Str.ofString "columns", PySem.Str.ofString "question"]), (PySem.Str.ofString "sum", [PySem.Str.ofString "word", PySem.Str.ofString "word", PySem.Str.ofString "columns", PySem.Str.ofString "question"]), (PySem.Str.ofString "least", [PySem.Str.ofString "word", PySem.Str.ofString "word", PySem.Str.ofString "columns", PySem.Str.ofString "question"]), (PySem.Str.ofString "most", [PySem.Str.ofString "word", PySem.Str.ofString "word", PySem.Str.ofString "columns", PySem.Str.ofString "question"]), (PySem.Str.ofString "linked", [PySem.Str.ofString "word", PySem.Str.ofString "word", PySem.Str.ofString "question"]), (PySem.Str.ofString "way", [PySem.Str.ofString "word", PySem.Str.ofString "word", PySem.Str.ofString "question"])]
def formsQ : Qn → List Str
  | .fact .. => [PySem.Str.ofString "word", PySem.Str.ofString "terms"]
  | .two .. => [PySem.Str.ofString "question", PySem.Str.ofString "question"]
  | .only .. => [PySem.Str.ofString "columns", PySem.Str.ofString "question"]
  | .whr .. => [PySem.Str.ofString "word", PySem.Str.ofString "term", PySem.Str.ofString "term", PySem.Str.ofString "question"]
  | .shift .. => [PySem.Str.ofString "integer", PySem.Str.ofString "question"]
  | .look .. => [PySem.Str.ofString "within", PySem.Str.ofString "question"]
  | .count .. => [PySem.Str.ofString "word", PySem.Str.ofString "columns", PySem.Str.ofString "question"]
  | .total .. => [PySem.Str.ofString "word", PySem.Str.ofString "word", PySem.Str.ofString "columns", PySem.Str.ofString "question"]
  | .link .. => [PySem.Str.ofString "word", PySem.Str.ofString "word", PySem.Str.ofString "question"]
theorem items_of (q : Qn) : (kd q, formsQ q) ∈ tab_ITEMS := by
  cases q with
  | two k p q => cases k <;> simp only [tab_ITEMS, kd, K2.s, formsQ, List.mem_cons, true_or, or_true]
  | look k w p => cases k <;> simp only [tab_ITEMS, kd, K4.s, formsQ, List.mem_cons, true_or, or_true]
  | total k => cases k <;> simp only [tab_ITEMS, kd, K3.s, formsQ, List.mem_cons, true_or, or_true]
  | link k => cases k <;> simp only [tab_ITEMS, kd, KL.s, formsQ, List.mem_cons, true_or, or_true]
  | _ => simp only [tab_ITEMS, kd, formsQ, List.mem_cons, true_or, or_true]
theorem encQ_tup (q : Qn) : ∃ r, encQ q = .tup r := by obtain ⟨r, e⟩ := encQ_kd q; exact ⟨_, e⟩
theorem encTm_tup (t : Tm) : ∃ r, encTm t = .tup r := by cases t <;> exact ⟨_, rfl⟩
def itemsQ : Qn → List D
  | .fact n ts => [.str n, .tup (ts.map encTm)]
  | .two _ p q => [encQ p, encQ q]
  | .only cs p => [encC cs, encQ p]
  | .whr t l r p => [.str t, encTm l, encTm r, encQ p]
  | .shift n p => [.int n, encQ p]
  | .look _ w p => [encO w, encQ p]
  | .count new keep p => [.str new, encC keep, encQ p]
  | .total _ new col keep p => [.str new, .str col, encC keep, encQ p]
  | .link _ x y p => [.str x, .str y, encQ p]
theorem encQ_items (q : Qn) : encQ q = .tup (.str (kd q) :: itemsQ q) := by cases q <;> rfl
theorem encO_nl (w : Option Int) : isL (encO w) = false := by cases w <;> rfl
theorem encTm_nl (t : Tm) : isL (encTm t) = false := by cases t <;> rfl
theorem cut_tail (x : D) (r : List D) : cutD (x :: r) (some 1) none = r := by
  unfold cutD HT.sIx
  simp
local macro_rules | `(tactic| walk_at "Ddlq") => `(tactic| ((conv => whnf); (repeat ((first | refine And.intro rfl ?_ | refine And.intro trivial ?_ | refine And.intro ⟨rfl, trivial⟩ ?_ | refine And.intro ⟨rfl, rfl, trivial⟩ ?_ | refine ifb_nq (by decide) ?_ | refine ifb_er ?_ | refine ifb_t ?_ | refine ifb_f ?_ | refine ifb_nr ?_ | refine ifb_er ?_ | refine And.intro (by first | decide | omega | (unfold CMul; omega) | (unfold CDiv; omega) | (unfold CPow; decide) | (exact cpow1 (by omega) (by omega)) | (exact cpow1 (by dsimp only; omega) (by dsimp only; omega)) | (simp only [rngD_len, List.length_replicate, List.length_map, List.length_append, List.length_cons, List.length_nil, List.length_set] at *; omega)) ?_); conv => whnf))))
/-! ### the law's own parts -/
def sp_law_is_pair : FSpec where
  pre := fun ds => ∃ q : Qn, ds = [.str (kd q)]
  post := fun ds r ds' => ds' = ds ∧ ∀ q : Qn, ds = [.str (kd q)] → r = .bl (decide (ix q = 1))
theorem ip_post {q : Qn} {b : Bool} (h : b = decide (ix q = 1)) : ∀ q' : Qn, [D.str (kd q)] = [.str (kd q')] → D.bl b = .bl (decide (ix q' = 1)) := by
  intro q' e
  simp only [List.cons.injEq, and_true, D.str.injEq] at e
  rw [h, ← cl_kd, ← cl_kd, e]
def pairKs : List Str := [PySem.Str.ofString "both", PySem.Str.ofString "either", PySem.Str.ofString "unless", PySem.Str.ofString "since", PySem.Str.ofString "sincenot", PySem.Str.ofString "until", PySem.Str.ofString "untilnot"]
theorem k2_in (k : K2) : decide (k.s ∈ pairKs) = true := by cases k <;> decide
theorem k4_in (k : K4) : decide (k.s ∈ pairKs) = false := by cases k <;> decide
theorem k3_in (k : K3) : decide (k.s ∈ pairKs) = false := by cases k <;> decide
theorem kL_in (k : KL) : decide (k.s ∈ pairKs) = false := by cases k <;> decide
theorem pair_in (q : Qn) : decide (kd q ∈ pairKs) = decide (ix q = 1) := by
  cases q with
  | two k => exact k2_in k
  | look k => exact k4_in k
  | total k => exact k3_in k
  | link k => exact kL_in k
  | fact => exact (by decide : decide (PySem.Str.ofString "fact" ∈ pairKs) = false)
  | only => exact (by decide : decide (PySem.Str.ofString "only" ∈ pairKs) = false)
  | whr => exact (by decide : decide (PySem.Str.ofString "where" ∈ pairKs) = false)
  | shift => exact (by decide : decide (PySem.Str.ofString "shift" ∈ pairKs) = false)
  | count => exact (by decide : decide (PySem.Str.ofString "count" ∈ pairKs) = false)
/-- slots: 0 kind -/
def w_law_is_pair : WS :=
    (cRet 1 (cOp (fIn false) (cVar 0) (cLst (cCons (cC (.str (PySem.Str.ofString "both"))) (cCons (cC (.str (PySem.Str.ofString "either"))) (cCons (cC (.str (PySem.Str.ofString "unless"))) (cCons (cC (.str (PySem.Str.ofString "since"))) (cCons (cC (.str (PySem.Str.ofString "sincenot"))) (cCons (cC (.str (PySem.Str.ofString "until"))) (cCons (cC (.str (PySem.Str.ofString "untilnot"))) cNil))))))))))
theorem pure_law_is_pair : ∀ ds, ds.length = 1 → sp_law_is_pair.pre ds → w_law_is_pair (env0 ds 0) { nx := fun e => sp_law_is_pair.post ds .non (outs e 1), rt := fun d e => sp_law_is_pair.post ds d (outs e 1) } := by
  rintro ds _ ⟨q, rfl⟩
  have key := (any_str (kd q) pairKs).trans (pair_in q)
  walk_at "Ddlq"
  refine ip_post ?_
  exact key
def sp_law_parts : FSpec where
  pre := fun ds => ∃ q : Qn, ds = [encQ q]
  post := fun ds r ds' => ds' = ds ∧ ∀ q : Qn, ds = [encQ q] → r = .lst ((partsQ q).map encQ)
theorem lp_post {q : Qn} {d : D} (h : d = .lst ((partsQ q).map encQ)) : ∀ q' : Qn, [encQ q] = [encQ q'] → d = .lst ((partsQ q').map encQ) := by
  intro q' e
  simp only [List.cons.injEq, and_true] at e
  rw [h, encQ_inj e]
theorem kd_notfact (q : Qn) (h : ix q ≠ 0) : ¬ kd q = PySem.Str.ofString "fact" := fun g => h (by rw [← cl_kd, g]; decide)
/-- slots: 0 question -/
def w_law_parts : WS :=
    (cSeq (cIte (cOp fEqS (cOp fIx (cVar 0) (cC (.int 0))) (cC (.str (PySem.Str.ofString "fact"))))
      (cRet 1 (cLst cNil))
      cNilS)
    (cSeq (cIte (cCallN 1 sp_law_is_pair (cCons (cOp fIx (cVar 0) (cC (.int 0))) cNil))
      (cRet 1 (cLst (cCons (cOp fIx (cVar 0) (cC (.int 1))) (cCons (cOp fIx (cVar 0) (cC (.int 2))) cNil))))
      cNilS)
    (cRet 1 (cLst (cCons (cOp fIx (cVar 0) (cOp fSub (cBi fLen (cCons (cVar 0) cNil)) (cC (.int 1)))) cNil)))))
theorem pure_law_parts : ∀ ds, ds.length = 1 → sp_law_parts.pre ds → w_law_parts (env0 ds 0) { nx := fun e => sp_law_parts.post ds .non (outs e 1), rt := fun d e => sp_law_parts.post ds d (outs e 1) } := by
  rintro ds _ ⟨q, rfl⟩
  have post := fun {d : D} h => lp_post (q := q) (d := d) h
  have hf := kd_notfact q
  have call : ∀ z, z = kd q → sp_law_is_pair.pre [.str z] ∧ ∀ r ds', sp_law_is_pair.post [.str z] r ds' → ds' = [.str z] ∧ r = .bl (decide (ix q = 1)) := fun z e => by
    subst e
    exact ⟨⟨q, rfl⟩, fun r ds' h => ⟨h.1, h.2 q rfl⟩⟩
  cases q with
  | fact n ts =>
    walk_at "Ddlq"
    exact post rfl
  | two k x y =>
    obtain ⟨tx, ex⟩ := encQ_tup x
    obtain ⟨ty, ey⟩ := encQ_tup y
    simp only [encQ, partsQ, kd, List.map_cons, List.map_nil, ex, ey] at post hf call ⊢
    walk_at "Ddlq"
    refine ifb_nq (hf (by show (_ : Nat) ≠ 0; simp [ix])) ?_
    walk_at "Ddlq"
    refine ⟨(call _ rfl).1, ?_⟩
    intro r ds' hp
    obtain ⟨rfl, rfl⟩ := (call _ rfl).2 _ _ hp
    walk_at "Ddlq"
    exact post rfl
  | look k w x =>
    obtain ⟨tx, ex⟩ := encQ_tup x
    simp only [encQ, encC, partsQ, kd, List.map_cons, List.map_nil, ex] at post hf call ⊢
    walk_at "Ddlq"
    refine ifb_nq (hf (by show (_ : Nat) ≠ 0; simp [ix])) ?_
    walk_at "Ddlq"
    refine ⟨(call _ rfl).1, ?_⟩
    intro r ds' hp
    obtain ⟨rfl, rfl⟩ := (call _ rfl).2 _ _ hp
    walk_at "Ddlq"
    exact post rfl
  | link k _ _ x =>
    obtain ⟨tx, ex⟩ := encQ_tup x
    simp only [encQ, encC, partsQ, kd, List.map_cons, List.map_nil, ex] at post hf call ⊢
    walk_at "Ddlq"
    refine ifb_nq (hf (by show (_ : Nat) ≠ 0; simp [ix])) ?_
    walk_at "Ddlq"
    refine ⟨(call _ rfl).1, ?_⟩
    intro r ds' hp
    obtain ⟨rfl, rfl⟩ := (call _ rfl).2 _ _ hp
    walk_at "Ddlq"
    exact post rfl
  | total k _ _ _ x =>
    obtain ⟨tx, ex⟩ := encQ_tup x
    simp only [encQ, encC, partsQ, kd, List.map_cons, List.map_nil, ex] at post hf call ⊢
    walk_at "Ddlq"
    refine ifb_nq (hf (by show (_ : Nat) ≠ 0; simp [ix])) ?_
    walk_at "Ddlq"
    refine ⟨(call _ rfl).1, ?_⟩
    intro r ds' hp
    obtain ⟨rfl, rfl⟩ := (call _ rfl).2 _ _ hp
    walk_at "Ddlq"
    exact post rfl
  | only _ x | shift _ x | count _ _ x =>
    obtain ⟨tx, ex⟩ := encQ_tup x
    simp only [encQ, encC, partsQ, kd, List.map_cons, List.map_nil, ex] at post hf call ⊢
    walk_at "Ddlq"
    refine ⟨(call _ rfl).1, ?_⟩
    intro r ds' hp
    obtain ⟨rfl, rfl⟩ := (call _ rfl).2 _ _ hp
    walk_at "Ddlq"
    exact post rfl
  | whr _ l r x =>
    obtain ⟨tx, ex⟩ := encQ_tup x
    obtain ⟨tl, el⟩ := encTm_tup l
    obtain ⟨tr, er⟩ := encTm_tup r
    simp only [encQ, encC, partsQ, kd, List.map_cons, List.map_nil, ex, el, er] at post hf call ⊢
    walk_at "Ddlq"
    refine ⟨(call _ rfl).1, ?_⟩
    intro r ds' hp
    obtain ⟨rfl, rfl⟩ := (call _ rfl).2 _ _ hp
    walk_at "Ddlq"
    exact post rfl
end DL

set_option maxHeartbeats 400000
namespace DL
--REN _law_size=law_size_b
open PySem PySem.Spec PyProof.Rows L2
/-! ### drawn words, terms and facts -/
theorem cutM_lo {α : Type} (f : α → D) (xs : List α) {lo : Int} (h : 0 ≤ lo) : cutD (xs.map f) (some lo) none = (xs.drop lo.toNat).map f := by
  unfold cutD HT.sIx
  dsimp only
  rw [if_neg (by omega), List.map_drop]
  simp only [List.length_map]
  by_cases hl : lo.toNat ≤ xs.length
  · rw [Nat.min_eq_left hl, List.take_of_length_le (by simp)]
  · rw [Nat.min_eq_right (by omega), List.drop_eq_nil_of_le (by simp), List.drop_eq_nil_of_le (by simp; omega)]; simp
theorem cutM_hi {α : Type} (f : α → D) (xs : List α) {hi : Int} (h : 0 ≤ hi) : cutD (xs.map f) none (some hi) = (xs.take hi.toNat).map f := by
  unfold cutD HT.sIx
  dsimp only
  rw [if_neg (by omega), List.map_take]
  simp only [List.length_map, Nat.sub_zero, List.drop_zero]
  rw [← List.map_take, ← List.map_take]
  congr 1
  by_cases hl : hi.toNat ≤ xs.length
  · rw [Nat.min_eq_left hl]
  · rw [Nat.min_eq_right (by omega), List.take_of_length_le (by omega), List.take_of_length_le (by omega)]
structure WsOk (ws : List Str) : Prop where
  pos : 0 < ws.length
  few : ws.length ≤ 40
  isw : ∀ w ∈ ws, isW w = true
  nd : ws.Nodup
structure CsOk (cs : List Str) : Prop where
  sc : SC cs
  few : cs.length ≤ 8
  isw : ∀ w ∈ cs, isW w = true
theorem CsOk.sub {cs es : List Str} (h : CsOk cs) (s : es.Sublist cs) : CsOk es := ⟨h.sc.sub s, Nat.le_trans s.length_le h.few, fun w hw => h.isw w (s.subset hw)⟩
def sp_law_some_columns : FSpec where
  pre := fun ds => ∃ (ns : List Int) (cs : List Str), ds = [.lst (ns.map D.int), encC cs] ∧ cs.length ≤ 1000
  post := fun ds r ds' => ∀ (l : D) (cs : List Str), ds = [l, encC cs] → ∃ (ns : List Int) (es : List Str), r = encC es ∧ ds' = [.lst (ns.map D.int), encC cs] ∧ es.Sublist cs
/-- slots: 0 draws, 1 columns, 2 x -/
def w_law_some_columns : WS :=
    (cRet 2 (cBi fTuple (cCons (cLc [2] (iE (cVar 1)) (gN 2 [] 2) (cOp fGt (cCallN 2 sp_law_take (cCons (cVar 0) (cCons (cC (.int 3)) cNil))) (cC (.int 0))) (cVar 2)) cNil)))
local macro_rules | `(tactic| walk_at "Ddl") => `(tactic| ((conv => whnf); (repeat ((first | refine And.intro rfl ?_ | refine And.intro trivial ?_ | refine And.intro ⟨rfl, trivial⟩ ?_ | refine And.intro ⟨rfl, rfl, trivial⟩ ?_ | refine ifb_t ?_ | refine ifb_f ?_ | refine ifb_nr ?_ | refine ifb_er ?_ | refine And.intro (by first | decide | omega | (unfold CMul; omega) | (unfold CDiv; omega) | (unfold CPow; decide) | (exact cpow1 (by omega) (by omega)) | (exact cpow1 (by dsimp only; omega) (by dsimp only; omega)) | (simp only [rngD_len, List.length_replicate, List.length_map, List.length_append, List.length_cons, List.length_nil, List.length_set] at *; omega)) ?_); conv => whnf))))
theorem pure_law_some_columns : ∀ ds, ds.length = 2 → sp_law_some_columns.pre ds → w_law_some_columns (env0 ds 1) { nx := fun e => sp_law_some_columns.post ds .non (outs e 2), rt := fun d e => sp_law_some_columns.post ds d (outs e 2) } := by
  rintro ds _ ⟨ns, cs, rfl, hl⟩
  walk_at "Ddl"
  refine loop_lc (fun xs acc e => ∃ (ks : List Int) (p q es : List Str), (cs = p ++ q ∧ xs = q.map D.str ∧ acc = es.map D.str ∧ es.Sublist p) ∧ e = [some (.lst (ks.map D.int)), some (encC cs), none]) ⟨ns, [], cs, [], ⟨rfl, rfl, rfl, .slnil⟩, rfl⟩ ?_ ?_
  · rintro x r acc env nxt ⟨ks, p, q, es, ⟨h1, h2, rfl, h4⟩, rfl⟩ hx
    cases q with
    | nil => simp at h2
    | cons c q =>
      simp only [List.map_cons, List.cons.injEq] at h2
      obtain ⟨rfl, rfl⟩ := h2
      walk_at "Ddl"
      refine ⟨⟨⟨_, rfl⟩, by decide⟩, ?_⟩
      rintro _ _ ⟨n1, v, rfl, rfl, v0, v1⟩
      walk_at "Ddl"
      refine ifb_dec (fun g => ?_) (fun g => ?_)
      · walk_at "Ddl"
        exact hx _ _ ⟨n1, p ++ [c], q, es ++ [c], ⟨by rw [h1]; simp, rfl, by rw [List.map_append]; rfl, h4.append (.refl _)⟩, rfl⟩
      · walk_at "Ddl"
        exact hx _ _ ⟨n1, p ++ [c], q, es, ⟨by rw [h1]; simp, rfl, rfl, h4.trans (List.sublist_append_left _ _)⟩, rfl⟩
  · rintro acc env ⟨ks, p, q, es, ⟨h1, h2, rfl, h4⟩, rfl⟩
    have hq : q = [] := by
      cases q with
      | nil => rfl
      | cons _ _ => simp at h2
    subst hq
    rw [List.append_nil] at h1
    subst h1
    walk_at "Ddl"
    intro l cs' e
    simp only [List.cons.injEq, and_true] at e
    obtain ⟨_, e⟩ := e
    cases encC_inj e
    exact ⟨ks, es, rfl, rfl, h4⟩
def zw (c : Nat) : Str := PySem.Str.ofString "zzzz" ++ ⟨#[c]⟩
theorem zw_list (c : Nat) : (zw c).cps.toList = [122, 122, 122, 122, c] := by
  have e : (PySem.Str.ofString "zzzz").cps.toList = [122, 122, 122, 122] := by decide
  unfold zw
  rw [Str.cps_append, Array.toList_append, e]
  rfl
theorem zw_ok {c : Nat} (h : okC c = true) : isW (zw c) = true := by
  unfold isW
  rw [zw_list]
  rw [decide_eq_true (show [122, 122, 122, 122, c].length ≤ 100 by simp)]
  simp only [List.isEmpty_cons, List.all_cons, List.all_nil, h]
  decide
theorem zw_inj {a b : Nat} (h : zw a = zw b) : a = b := by
  have := congrArg (fun z : Str => z.cps.toList) h
  simp only [zw_list, List.cons.injEq, and_true, true_and] at this
  exact this
/-- the j-th letter -/
theorem alpha_nth {j : Int} (h0 : 0 ≤ j) (h : j < 26) : L2.atI alpha.cps.toList j = some (97 + j.toNat) := by
  have hl : alpha.cps.toList.length = 26 := by decide
  obtain ⟨h1, e⟩ := atI_lt (xs := alpha.cps.toList) (j := j) h0 (by rw [hl]; exact h)
  refine e.trans ?_
  congr 1
  have : alpha.cps.toList[j.toNat]? = some (97 + j.toNat) := by
    rw [alpha_list, List.getElem?_map, List.getElem?_range (by omega)]
    rfl
  rw [List.getElem?_eq_getElem h1] at this
  exact Option.some.inj this
def Drawn (j : Int) (w : Str) : Prop := isW w = true ∧ (w.cps.toList.length ≤ 3 ∨ 10 ≤ w.cps.toList.length ∧ w.cps.toList.length ≤ 30 ∨ ∃ i : Int, 0 ≤ i ∧ i < j ∧ w = zw (97 + i.toNat))
def sp_law_words : FSpec where
  pre := fun ds => ∃ (ns : List Int) (m : Int), ds = [.lst (ns.map D.int), .int m] ∧ 0 ≤ m ∧ m ≤ 26
  post := fun ds r ds' => ∀ xs m, ds = [.lst xs, .int m] → ∃ (ns : List Int) (ws : List Str), r = .lst (ws.map D.str) ∧ ds' = [.lst (ns.map D.int), .int m] ∧ (ws.length : Int) = m ∧ (∀ w ∈ ws, isW w = true ∧ w.length ≤ 30) ∧ ws.Nodup
/-- slots: 0 draws, 1 many, 2 words, 3 k, 4 size, 5 word, 6 j -/
def w_law_words : WS :=
    (cSeq (cAsg 2 [0, 1] 2 (cLst cNil))
    (cSeq (cFor [0, 1] (iR1 (cVar 1)) (gN 2 [0, 1] 3)
      (cSeq (cAsg 2 [0, 1] 4 (cOp fAddG (cC (.int 1)) (cCallN 2 sp_law_take (cCons (cVar 0) (cCons (cC (.int 3)) cNil)))))
        (cSeq (cIte (cOp fEqS (cCallN 2 sp_law_take (cCons (cVar 0) (cCons (cC (.int 12)) cNil))) (cC (.int 0)))
          (cAsg 2 [0, 1] 4 (cOp fAddG (cOp fAddG (cVar 4) (cC (.int 9))) (cCallN 2 sp_law_take (cCons (cVar 0) (cCons (cC (.int 12)) cNil)))))
          cNilS)
        (cSeq (cAsg 2 [0, 1] 5 (cUn (fJoin (PySem.Str.ofString "")) (cLc [6] (iR1 (cVar 4)) (gN 2 [] 6) tTrue (cOp fIxS (cC (.str (PySem.Str.ofString "abcdefghijklmnopqrstuvwxyz"))) (cCallN 2 sp_law_take (cCons (cVar 0) (cCons (cC (.int 26)) cNil)))))))
        (cSeq (cIte (cOp (fIn false) (cVar 5) (cVar 2))
          (cAsg 2 [0, 1] 5 (cOp fAddS (cC (.str (PySem.Str.ofString "zzzz"))) (cOp fIxS (cC (.str (PySem.Str.ofString "abcdefghijklmnopqrstuvwxyz"))) (cVar 3))))
          cNilS)
        (cEx (cMeth 2 fAppend (cCons (cVar 5) cNil))))))))
    (cRet 2 (cVar 2))))
def w'_law_words : WS :=
    (cSeq (cAsg 2 [0, 1] 2 (cLst cNil))
    (cSeq (cFor [0, 1] (iR1 (cVar 1)) (gN 2 [0, 1] 3)
      (cCut (cAsg 2 [0, 1] 4 (cOp fAddG (cC (.int 1)) (cCallN 2 sp_law_take (cCons (cVar 0) (cCons (cC (.int 3)) cNil)))))
        (cCut (cIte (cOp fEqS (cCallN 2 sp_law_take (cCons (cVar 0) (cCons (cC (.int 12)) cNil))) (cC (.int 0)))
          (cAsg 2 [0, 1] 4 (cOp fAddG (cOp fAddG (cVar 4) (cC (.int 9))) (cCallN 2 sp_law_take (cCons (cVar 0) (cCons (cC (.int 12)) cNil)))))
          cNilS)
        (cCut (cAsg 2 [0, 1] 5 (cUn (fJoin (PySem.Str.ofString "")) (cLc [6] (iR1 (cVar 4)) (gN 2 [] 6) tTrue (cOp fIxS (cC (.str (PySem.Str.ofString "abcdefghijklmnopqrstuvwxyz"))) (cCallN 2 sp_law_take (cCons (cVar 0) (cCons (cC (.int 26)) cNil)))))))
        (cSeq (cIte (cOp (fIn false) (cVar 5) (cVar 2))
          (cAsg 2 [0, 1] 5 (cOp fAddS (cC (.str (PySem.Str.ofString "zzzz"))) (cOp fIxS (cC (.str (PySem.Str.ofString "abcdefghijklmnopqrstuvwxyz"))) (cVar 3))))
          cNilS)
        (cEx (cMeth 2 fAppend (cCons (cVar 5) cNil))))))))
    (cRet 2 (cVar 2))))
theorem w'_law_words_eq : w_law_words = w'_law_words := by
  unfold w'_law_words
  simp only [cCut_eq]
  rfl
theorem pure_law_words : ∀ ds, ds.length = 2 → sp_law_words.pre ds → w_law_words (env0 ds 5) { nx := fun e => sp_law_words.post ds .non (outs e 2), rt := fun d e => sp_law_words.post ds d (outs e 2) } := by
  rintro ds _ ⟨ns, m, rfl, hm0, hm1⟩
  rw [w'_law_words_eq]
  walk_at "Ddl"
  refine loop_rng (fun j e => ∃ (ks : List Int) (ws : List Str) (o3 o4 o5 : Option D), ((ws.length : Int) = j ∧ (∀ w ∈ ws, Drawn j w) ∧ ws.Nodup) ∧ e = [some (.lst (ks.map D.int)), some (.int m), some (.lst (ws.map D.str)), o3, o4, o5, none]) ⟨ns, [], none, none, none, ⟨rfl, by simp, by simp⟩, rfl⟩ ?_ ?_
  · rintro j env nxt hj0 hj1 ⟨ks, ws, o3, o4, o5, ⟨hw, hd, hn⟩, rfl⟩ hx
    walk_at "Ddl"
    refine ⟨⟨⟨_, rfl⟩, by decide⟩, ?_⟩
    rintro _ _ ⟨ks1, v1, rfl, rfl, h1, h1'⟩
    walk_at "Ddl"
    refine cutW' (fun e => ∃ (ks : List Int) (s : Int), (1 ≤ s ∧ s ≤ 3 ∨ 10 ≤ s ∧ s ≤ 30) ∧ e = [some (.lst (ks.map D.int)), some (.int m), some (.lst (ws.map D.str)), some (.int j), some (.int s), o5, none]) (fun nx hn2 => ?_) ?_
    · walk_at "Ddl"
      refine ⟨⟨⟨_, rfl⟩, by decide⟩, ?_⟩
      rintro _ _ ⟨ks2, v2, rfl, rfl, h2, h2'⟩
      walk_at "Ddl"
      refine ifb_dec (fun g => ?_) (fun g => ?_)
      · walk_at "Ddl"
        refine ⟨⟨⟨_, rfl⟩, by decide⟩, ?_⟩
        rintro _ _ ⟨ks3, v3, rfl, rfl, h3, h3'⟩
        walk_at "Ddl"
        exact hn2 _ ⟨ks3, _, .inr ⟨by omega, by omega⟩, rfl⟩
      · walk_at "Ddl"
        exact hn2 _ ⟨ks2, _, .inl ⟨by omega, by omega⟩, rfl⟩
    rintro _ ⟨ks4, s, hs, rfl⟩
    have wkn : ∀ w ∈ ws, Drawn (j + 1) w := fun w hw' => by
      obtain ⟨a, b⟩ := hd w hw'
      refine ⟨a, ?_⟩
      rcases b with b | b | ⟨i, a1, a2, a3⟩
      · exact .inl b
      · exact .inr (.inl b)
      · exact .inr (.inr ⟨i, a1, by omega, a3⟩)
    have add : ∀ (ks : List Int) (w : Str) (o : Option D), Drawn (j + 1) w → w ∉ ws → nxt [some (.lst (ks.map D.int)), some (.int m), some (.lst (ws.map D.str ++ [.str w])), some (.int j), some (.int s), some (.str w), none] := fun ks w o h1 h2 =>
      hx _ ⟨ks, ws ++ [w], _, _, _, ⟨by simp only [List.length_append, List.length_cons, List.length_nil]; omega, fun x hx' => by
        rcases List.mem_append.mp hx' with q | q
        · exact wkn x q
        · rw [List.mem_singleton.mp q]; exact h1, by
        rw [List.nodup_append]
        refine ⟨hn, by simp, fun a ha b hb => ?_⟩
        rw [List.mem_singleton.mp hb]
        exact fun q => h2 (q ▸ ha)⟩, by rw [List.map_append]; rfl⟩
    walk_at "Ddl"
    refine loop_lc (fun ys acc e => ∃ (ks : List Int) (ls : List Nat) (i : Int) (n : Nat), (ys = rngD i n ∧ acc = (ls.map fun c => (⟨#[c]⟩ : Str)).map D.str ∧ ls.length + n = s.toNat ∧ ls.all okC = true) ∧ e = [some (.lst (ks.map D.int)), some (.int m), some (.lst (ws.map D.str)), some (.int j), some (.int s), o5, none]) ⟨ks4, [], 0, s.toNat, ⟨rfl, rfl, by simp, rfl⟩, rfl⟩ ?_ ?_
    · rintro x r acc env nxt2 ⟨ks, ls, i, n, ⟨h4, rfl, h6, h7⟩, rfl⟩ hx2
      cases n with
      | zero => simp [rngD] at h4
      | succ n =>
        simp only [rngD, List.cons.injEq] at h4
        obtain ⟨rfl, rfl⟩ := h4
        walk_at "Ddl"
        refine ⟨⟨⟨_, rfl⟩, by decide⟩, ?_⟩
        rintro _ _ ⟨ks2, v2, rfl, rfl, h2, h2'⟩
        obtain ⟨c, e, hc⟩ := alpha_ok h2 h2'
        walk_at "Ddl"
        rw [show L2.atI (Str.ofString "abcdefghijklmnopqrstuvwxyz").cps.toList v2 = some c from e]
        walk_at "Ddl"
        exact hx2 _ _ ⟨ks2, ls ++ [c], i + 1, n, ⟨rfl, by rw [List.map_append, List.map_append]; rfl, by simp only [List.length_append, List.length_cons, List.length_nil]; omega, by rw [List.all_append, h7]; simp [hc]⟩, rfl⟩
    rintro acc env ⟨ks5, ls, i, n, ⟨h4, rfl, h6, h7⟩, rfl⟩
    have hn0 : n = 0 := by
      cases n with
      | zero => rfl
      | succ n => simp [rngD] at h4
    subst hn0
    walk_at "Ddl"
    rw [strsD_map]
    have hz : (Str.ofString "").length = 0 := by decide
    refine ⟨by rw [hz, Nat.mul_zero]; have := sumL_ones ls; unfold sumL at this; omega, ?_⟩
    have ej := join_ones ls
    generalize Txt.join (Str.ofString "") (ls.map fun c => (⟨#[c]⟩ : Str)) = wd at *
    have hwd : Drawn (j + 1) wd := by
      refine ⟨?_, ?_⟩
      · unfold isW
        rw [ej, h7, decide_eq_true (show ls.length ≤ 100 by omega)]
        cases ls with
        | nil => simp at h6; omega
        | cons _ _ => rfl
      · rw [ej]
        rcases hs with hs | hs
        · exact .inl (by omega)
        · exact .inr (.inl (by omega))
    walk_at "Ddl"
    refine stopE (e := [some (.lst (ks5.map D.int)), some (.int m), some (.lst (ws.map D.str)), some (.int j), some (.int s), some (.str wd), none]) rfl ?_
    walk_at "Ddl"
    refine ⟨flatA_str ws, ?_⟩
    rw [any_str]
    by_cases g : wd ∈ ws
    · rw [decide_eq_true g]
      walk_at "Ddl"
      have ea := alpha_nth hj0 (by omega)
      rw [show L2.atI (Str.ofString "abcdefghijklmnopqrstuvwxyz").cps.toList j = some (97 + j.toNat) from ea]
      have hz4 : (PySem.Str.ofString "zzzz").length = 4 := by decide
      have hz5 : (PySem.Str.ofString "zzzz").length + (⟨#[97 + j.toNat]⟩ : Str).length ≤ 1000000 := by
        rw [hz4]; show 4 + 1 ≤ _; decide
      walk_at "Ddl"
      have hjc : okC (97 + j.toNat) = true := by
        unfold okC
        rw [decide_eq_true (by omega), decide_eq_true (by omega)]
        rfl
      have hzw : PySem.Str.ofString "zzzz" ++ (⟨#[97 + j.toNat]⟩ : Str) = zw (97 + j.toNat) := rfl
      rw [hzw]
      walk_at "Ddl"
      refine add ks5 (zw (97 + j.toNat)) none ⟨zw_ok hjc, .inr (.inr ⟨j, hj0, by omega, rfl⟩)⟩ fun hm => ?_
      rcases (hd _ hm).2 with b | b | ⟨i, a1, a2, a3⟩
      · rw [zw_list] at b; simp at b
      · rw [zw_list] at b; simp at b
      · have := zw_inj a3; omega
    · rw [decide_eq_false g]
      walk_at "Ddl"
      exact add ks5 wd none hwd g
  · rintro env ⟨ks, ws, o3, o4, o5, ⟨hw, hd, hn⟩, rfl⟩
    walk_at "Ddl"
    intro xs m' e
    simp only [List.cons.injEq, and_true, D.lst.injEq, D.int.injEq] at e
    obtain ⟨_, rfl⟩ := e
    refine ⟨ks, ws, rfl, rfl, by omega, fun w hw' => ?_, hn⟩
    obtain ⟨a, b⟩ := hd w hw'
    refine ⟨a, ?_⟩
    rw [len_list]
    rcases b with b | b | ⟨i, _, _, rfl⟩
    · omega
    · omega
    · rw [zw_list]; simp
theorem words_ok {ws : List Str} {m : Int} (h : (ws.length : Int) = m) (h1 : 1 ≤ m) (h2 : m ≤ 40) (h3 : ∀ w ∈ ws, isW w = true ∧ w.length ≤ 30) (h4 : ws.Nodup) : WsOk ws := ⟨by omega, by omega, fun w hw => (h3 w hw).1, h4⟩
def sp_law_number : FSpec where
  pre := fun ds => ∃ (ns : List Int) (ms : List Sm), ds = [.lst (ns.map D.int), .lst (ms.map Sm.d)]
  post := fun ds r ds' => ∀ (l s : D), ds = [l, s] → ∃ (ns : List Int) (v : Int), r = .int v ∧ ds' = [.lst (ns.map D.int), s] ∧ v.natAbs < bigZ
/-- slots: 0 draws, 1 script -/
def w_law_number : WS :=
    (cRet 2 (cOp fMul (cCallN 2 sp_law_size_b (cCons (cVar 0) (cCons (cVar 1) cNil))) (cOp fSub (cC (.int 1)) (cOp fMul (cC (.int 2)) (cCallN 2 sp_law_take (cCons (cVar 0) (cCons (cC (.int 2)) cNil)))))))
theorem pure_law_number : ∀ ds, ds.length = 2 → sp_law_number.pre ds → w_law_number (env0 ds 0) { nx := fun e => sp_law_number.post ds .non (outs e 2), rt := fun d e => sp_law_number.post ds d (outs e 2) } := by
  rintro ds _ ⟨ns, ms, rfl⟩
  walk_at "Ddl"
  refine ⟨⟨⟨_, rfl⟩, _, rfl⟩, ?_⟩
  rintro _ _ ⟨n1, v, rfl, rfl, hv⟩
  walk_at "Ddl"
  refine ⟨⟨⟨_, rfl⟩, by decide⟩, ?_⟩
  rintro _ _ ⟨n2, u, rfl, rfl, u0, u1⟩
  walk_at "Ddl"
  intro l s e
  simp only [List.cons.injEq, and_true] at e
  obtain ⟨_, rfl⟩ := e
  refine ⟨n2, _, rfl, rfl, ?_⟩
  have hv2 := hv.2
  rcases (show u = 0 ∨ u = 1 by omega) with rfl | rfl <;> omega
def sp_law_worth : FSpec where
  pre := fun ds => ∃ (ns : List Int) (ms : List Sm) (ws : List Str), ds = [.lst (ns.map D.int), .lst (ms.map Sm.d), .rol (ws.map D.str)] ∧ WsOk ws
  post := fun ds r ds' => ∀ (l s : D) (ws : List Str), ds = [l, s, .rol (ws.map D.str)] → ∃ (ns : List Int) (v : Vv), r = encV v ∧ ds' = [.lst (ns.map D.int), s, .rol (ws.map D.str)] ∧ okV v
/-- slots: 0 draws, 1 script, 2 words -/
def w_law_worth : WS :=
    (cSeq (cIte (cOp fEqS (cCallN 2 sp_law_take (cCons (cVar 0) (cCons (cC (.int 2)) cNil))) (cC (.int 0)))
      (cRet 3 (cCallN 2 sp_law_pick (cCons (cVar 0) (cCons (cVar 2) cNil))))
      cNilS)
    (cRet 3 (cCallN 2 sp_law_number (cCons (cVar 0) (cCons (cVar 1) cNil)))))
theorem pure_law_worth : ∀ ds, ds.length = 3 → sp_law_worth.pre ds → w_law_worth (env0 ds 0) { nx := fun e => sp_law_worth.post ds .non (outs e 3), rt := fun d e => sp_law_worth.post ds d (outs e 3) } := by
  rintro ds _ ⟨ns, ms, ws, rfl, hw⟩
  walk_at "Ddl"
  refine ⟨⟨⟨_, rfl⟩, by decide⟩, ?_⟩
  rintro _ _ ⟨n1, v, rfl, rfl, v0, v1⟩
  walk_at "Ddl"
  refine ifb_dec (fun g => ?_) (fun g => ?_)
  · walk_at "Ddl"
    refine ⟨⟨n1, _, _, rfl, rfl, by simpa using hw.pos, by simp only [List.length_map]; have := hw.few; omega⟩, ?_⟩
    intro r ds' hp
    obtain ⟨n2, hr, rfl⟩ := hp _ _ _ rfl rfl
    obtain ⟨w, hw', rfl⟩ := List.mem_map.mp hr
    walk_at "Ddl"
    intro l s ws' e
    simp only [List.cons.injEq, and_true, D.lst.injEq, D.rol.injEq] at e
    obtain ⟨_, rfl, e⟩ := e
    cases mapS_inj e
    exact ⟨n2, .s w, rfl, rfl, hw.isw w hw'⟩
  · walk_at "Ddl"
    refine ⟨⟨n1, ms, rfl⟩, ?_⟩
    intro r ds' hp
    obtain ⟨n2, u, rfl, rfl, hu⟩ := hp _ _ rfl
    walk_at "Ddl"
    intro l s ws' e
    simp only [List.cons.injEq, and_true, D.lst.injEq, D.rol.injEq] at e
    obtain ⟨_, rfl, e⟩ := e
    cases mapS_inj e
    exact ⟨n2, .i u, rfl, rfl, hu⟩
/-- what a drawing function is handed -/
def G4 (ds : List D) (ws cs : List Str) : Prop := ∃ (ns : List Int) (ms : List Sm), ds = [.lst (ns.map D.int), .lst (ms.map Sm.d), .rol (ws.map D.str), encC cs] ∧ WsOk ws ∧ CsOk cs
def sp_law_wide_term : FSpec where
  pre := fun ds => (∃ (ws cs : List Str), G4 ds ws cs) ∨ ∃ (ns : List Int) (ms : List Sm) (ws : List Str), ds = [.lst (ns.map D.int), .lst (ms.map Sm.d), .rol (ws.map D.str), .rol (ws.map D.str)] ∧ WsOk ws
  post := fun ds r ds' => (∀ (l s : D) (ws cs : List Str), ds = [l, s, .rol (ws.map D.str), encC cs] → ∃ (ns : List Int) (t : Tm), r = encTm t ∧ ds' = [.lst (ns.map D.int), s, .rol (ws.map D.str), encC cs] ∧ fitTm cs t) ∧
    ∀ (l s : D) (ws : List Str), ds = [l, s, .rol (ws.map D.str), .rol (ws.map D.str)] → ∃ (ns : List Int) (t : Tm), r = encTm t ∧ ds' = [.lst (ns.map D.int), s, .rol (ws.map D.str), .rol (ws.map D.str)] ∧ okTm t
theorem wt_post {l s d : D} {ws cs : List Str} {ks : List Int} {t : Tm} (e : d = encTm t) (h : fitTm cs t) : sp_law_wide_term.post [l, s, .rol (ws.map D.str), encC cs] d [D.lst (ks.map D.int), s, .rol (ws.map D.str), encC cs] := by
  refine ⟨?_, ?_⟩
  · intro l' s' ws' cs' q
    simp only [List.cons.injEq, and_true, D.lst.injEq, D.rol.injEq] at q
    obtain ⟨_, rfl, q1, q2⟩ := q
    cases mapS_inj q1
    cases encC_inj q2
    exact ⟨ks, t, e, rfl, h⟩
  · intro l' s' ws' q
    simp [encC] at q
theorem wt_post2 {l s d : D} {ws : List Str} {ks : List Int} {t : Tm} (e : d = encTm t) (h : okTm t) : sp_law_wide_term.post [l, s, .rol (ws.map D.str), .rol (ws.map D.str)] d [D.lst (ks.map D.int), s, .rol (ws.map D.str), .rol (ws.map D.str)] := by
  refine ⟨?_, ?_⟩
  · intro l' s' ws' cs' q
    simp [encC] at q
  · intro l' s' ws' q
    simp only [List.cons.injEq, and_true, D.lst.injEq, D.rol.injEq] at q
    obtain ⟨_, rfl, q1, q2⟩ := q
    cases mapS_inj q1
    exact ⟨ks, t, e, rfl, h⟩
/-- slots: 0 draws, 1 script, 2 words, 3 columns -/
def w_law_wide_term : WS :=
    (cSeq (cIte (cAnd (cOp fGt (cBi fLen (cCons (cVar 3) cNil)) (cC (.int 0))) (cOp fEqS (cCallN 2 sp_law_take (cCons (cVar 0) (cCons (cC (.int 2)) cNil))) (cC (.int 0))))
      (cRet 4 (cTup (cCons (cC (.str (PySem.Str.ofString "col"))) (cCons (cCallN 2 sp_law_pick (cCons (cVar 0) (cCons (cVar 3) cNil))) cNil))))
      cNilS)
    (cRet 4 (cTup (cCons (cC (.str (PySem.Str.ofString "value"))) (cCons (cCallN 3 sp_law_worth (cCons (cVar 0) (cCons (cVar 1) (cCons (cVar 2) cNil)))) cNil)))))
theorem pure_law_wide_term : ∀ ds, ds.length = 4 → sp_law_wide_term.pre ds → w_law_wide_term (env0 ds 0) { nx := fun e => sp_law_wide_term.post ds .non (outs e 4), rt := fun d e => sp_law_wide_term.post ds d (outs e 4) } := by
  rintro ds _ (⟨ws, cs, ns, ms, rfl, hw, hc⟩ | ⟨ns, ms, ws, rfl, hw⟩)
  · have val : ∀ (ks : List Int), sp_law_worth.pre [.lst (ks.map D.int), .lst (ms.map Sm.d), .rol (ws.map D.str)] := fun ks => ⟨ks, ms, ws, rfl, hw⟩
    walk_at "Ddl"
    refine ifb_dec (fun g => ?_) (fun g => ?_)
    · walk_at "Ddl"
      refine ⟨⟨⟨_, rfl⟩, by decide⟩, ?_⟩
      rintro _ _ ⟨n1, v, rfl, rfl, v0, v1⟩
      walk_at "Ddl"
      refine ifb_dec (fun g2 => ?_) (fun g2 => ?_)
      · walk_at "Ddl"
        refine ⟨⟨n1, _, _, rfl, rfl, by simp only [List.length_map] at g ⊢; omega, by simp only [List.length_map]; have := hc.few; omega⟩, ?_⟩
        intro r ds' hp
        obtain ⟨n2, hr, rfl⟩ := hp _ _ _ rfl rfl
        obtain ⟨w, hw', rfl⟩ := List.mem_map.mp hr
        walk_at "Ddl"
        exact wt_post (t := .col w) rfl hw'
      · walk_at "Ddl"
        refine ⟨val _, ?_⟩
        intro r ds' hp
        obtain ⟨n2, u, rfl, rfl, hu⟩ := hp _ _ _ rfl
        cases u <;> (walk_at "Ddl") <;> exact wt_post (t := .val _) rfl hu
    · walk_at "Ddl"
      refine ⟨val _, ?_⟩
      intro r ds' hp
      obtain ⟨n2, u, rfl, rfl, hu⟩ := hp _ _ _ rfl
      cases u <;> (walk_at "Ddl") <;> exact wt_post (t := .val _) rfl hu
  · have val : ∀ (ks : List Int), sp_law_worth.pre [.lst (ks.map D.int), .lst (ms.map Sm.d), .rol (ws.map D.str)] := fun ks => ⟨ks, ms, ws, rfl, hw⟩
    walk_at "Ddl"
    refine ifb_dec (fun g => ?_) (fun g => ?_)
    · walk_at "Ddl"
      refine ⟨⟨⟨_, rfl⟩, by decide⟩, ?_⟩
      rintro _ _ ⟨n1, v, rfl, rfl, v0, v1⟩
      walk_at "Ddl"
      refine ifb_dec (fun g2 => ?_) (fun g2 => ?_)
      · walk_at "Ddl"
        refine ⟨⟨n1, _, _, rfl, rfl, by simp only [List.length_map] at g ⊢; omega, by simp only [List.length_map]; have := hw.few; omega⟩, ?_⟩
        intro r ds' hp
        obtain ⟨n2, hr, rfl⟩ := hp _ _ _ rfl rfl
        obtain ⟨w, hw', rfl⟩ := List.mem_map.mp hr
        walk_at "Ddl"
        exact wt_post2 (t := .col w) rfl (hw.isw w hw')
      · walk_at "Ddl"
        refine ⟨val _, ?_⟩
        intro r ds' hp
        obtain ⟨n2, u, rfl, rfl, hu⟩ := hp _ _ _ rfl
        cases u <;> (walk_at "Ddl") <;> exact wt_post2 (t := .val _) rfl hu
    · walk_at "Ddl"
      refine ⟨val _, ?_⟩
      intro r ds' hp
      obtain ⟨n2, u, rfl, rfl, hu⟩ := hp _ _ _ rfl
      cases u <;> (walk_at "Ddl") <;> exact wt_post2 (t := .val _) rfl hu
theorem colsF {cs : List Str} (hs : SC cs) {n : Str} {ts : List Tm} (h1 : ∀ t ∈ ts, fitTm cs t) (h2 : ∀ x ∈ cs, Tm.col x ∈ ts) : colsQ (.fact n ts) = cs := by
  refine ordS_eq hs fun x => ?_
  rw [List.mem_filterMap]
  constructor
  · rintro ⟨t, ht, e⟩
    cases t with
    | col y => cases e; exact h1 _ ht
    | val v => cases e
  · intro hx
    exact ⟨_, h2 x hx, rfl⟩
def sp_law_wide_fact : FSpec where
  pre := fun ds => ∃ (ws cs : List Str), G4 ds ws cs
  post := fun ds r ds' => ∀ (l s : D) (ws cs : List Str), ds = [l, s, .rol (ws.map D.str), encC cs] → ∃ (ns : List Int) (q : Qn), r = encQ q ∧ ds' = [.lst (ns.map D.int), s, .rol (ws.map D.str), encC cs] ∧ okQ q ∧ colsQ q = cs ∧ dpQ q ≤ 1
theorem wf_post {l s d : D} {ws cs : List Str} {ks : List Int} {q : Qn} (e : d = encQ q) (h : okQ q ∧ colsQ q = cs ∧ dpQ q ≤ 1) : ∀ (l' s' : D) (ws' cs' : List Str), [l, s, .rol (ws.map D.str), encC cs] = [l', s', .rol (ws'.map D.str), encC cs'] → ∃ (ns : List Int) (q' : Qn), d = encQ q' ∧ [D.lst (ks.map D.int), s, .rol (ws.map D.str), encC cs] = [.lst (ns.map D.int), s', .rol (ws'.map D.str), encC cs'] ∧ okQ q' ∧ colsQ q' = cs' ∧ dpQ q' ≤ 1 := by
  intro l' s' ws' cs' q'
  simp only [List.cons.injEq, and_true, D.lst.injEq, D.rol.injEq] at q'
  obtain ⟨_, rfl, q1, q2⟩ := q'
  cases mapS_inj q1
  cases encC_inj q2
  exact ⟨ks, q, e, rfl, h⟩
theorem fit_ok {cs : List Str} (hc : CsOk cs) {t : Tm} (h : fitTm cs t) : okTm t := by
  cases t with
  | col x => exact hc.isw x h
  | val v => exact h
/-- slots: 0 draws, 1 script, 2 words, 3 columns, 4 terms, 5 k, 6 turn, 7 x -/
def w_law_wide_fact : WS :=
    (cSeq (cAsg 4 [0, 1, 2, 3] 4 (cLc [7] (iE (cVar 3)) (gN 4 [] 7) tTrue (cTup (cCons (cC (.str (PySem.Str.ofString "col"))) (cCons (cVar 7) cNil)))))
    (cSeq (cFor [0, 1, 2, 3] (iR1 (cCallN 2 sp_law_take (cCons (cVar 0) (cCons (cOp fSub (cC (.int 9)) (cBi fLen (cCons (cVar 3) cNil))) cNil)))) (gN 4 [0, 1, 2, 3] 5)
      (cIte (cOp fEqS (cCallN 2 sp_law_take (cCons (cVar 0) (cCons (cC (.int 2)) cNil))) (cC (.int 0)))
          (cEx (cMeth 4 fAppend (cCons (cCallN 4 sp_law_wide_term (cCons (cVar 0) (cCons (cVar 1) (cCons (cVar 2) (cCons (cVar 3) cNil))))) cNil)))
          cNilS))
    (cSeq (cAsg 4 [0, 1, 2, 3] 6 (cCallN 2 sp_law_take (cCons (cVar 0) (cCons (cOp fAddG (cBi fLen (cCons (cVar 4) cNil)) (cC (.int 1))) cNil))))
    (cSeq (cAsg 4 [0, 1, 2, 3] 4 (cOp fAddG (cSlL (cVar 4) (cVar 6)) (cSlH (cVar 4) (cVar 6))))
    (cSeq (cIte (cOp fEqS (cCallN 2 sp_law_take (cCons (cVar 0) (cCons (cC (.int 2)) cNil))) (cC (.int 0)))
      (cEx (cMeth 4 fReverse cNil))
      cNilS)
    (cRet 4 (cTup (cCons (cC (.str (PySem.Str.ofString "fact"))) (cCons (cCallN 2 sp_law_pick (cCons (cVar 0) (cCons (cVar 2) cNil))) (cCons (cBi fTuple (cCons (cVar 4) cNil)) cNil))))))))))
def w'_law_wide_fact : WS :=
    (cCut (cAsg 4 [0, 1, 2, 3] 4 (cLc [7] (iE (cVar 3)) (gN 4 [] 7) tTrue (cTup (cCons (cC (.str (PySem.Str.ofString "col"))) (cCons (cVar 7) cNil)))))
    (cCut (cFor [0, 1, 2, 3] (iR1 (cCallN 2 sp_law_take (cCons (cVar 0) (cCons (cOp fSub (cC (.int 9)) (cBi fLen (cCons (cVar 3) cNil))) cNil)))) (gN 4 [0, 1, 2, 3] 5)
      (cIte (cOp fEqS (cCallN 2 sp_law_take (cCons (cVar 0) (cCons (cC (.int 2)) cNil))) (cC (.int 0)))
          (cEx (cMeth 4 fAppend (cCons (cCallN 4 sp_law_wide_term (cCons (cVar 0) (cCons (cVar 1) (cCons (cVar 2) (cCons (cVar 3) cNil))))) cNil)))
          cNilS))
    (cCut (cAsg 4 [0, 1, 2, 3] 6 (cCallN 2 sp_law_take (cCons (cVar 0) (cCons (cOp fAddG (cBi fLen (cCons (cVar 4) cNil)) (cC (.int 1))) cNil))))
    (cCut (cAsg 4 [0, 1, 2, 3] 4 (cOp fAddG (cSlL (cVar 4) (cVar 6)) (cSlH (cVar 4) (cVar 6))))
    (cCut (cIte (cOp fEqS (cCallN 2 sp_law_take (cCons (cVar 0) (cCons (cC (.int 2)) cNil))) (cC (.int 0)))
      (cEx (cMeth 4 fReverse cNil))
      cNilS)
    (cRet 4 (cTup (cCons (cC (.str (PySem.Str.ofString "fact"))) (cCons (cCallN 2 sp_law_pick (cCons (cVar 0) (cCons (cVar 2) cNil))) (cCons (cBi fTuple (cCons (cVar 4) cNil)) cNil))))))))))
theorem w'_law_wide_fact_eq : w_law_wide_fact = w'_law_wide_fact := by
  unfold w'_law_wide_fact
  simp only [cCut_eq]
  rfl
theorem pure_law_wide_fact : ∀ ds, ds.length = 4 → sp_law_wide_fact.pre ds → w_law_wide_fact (env0 ds 4) { nx := fun e => sp_law_wide_fact.post ds .non (outs e 4), rt := fun d e => sp_law_wide_fact.post ds d (outs e 4) } := by
  rintro ds _ ⟨ws, cs, ns, ms, rfl, hw, hc⟩
  rw [w'_law_wide_fact_eq]
  have hcf := hc.few
  walk_at "Ddl"
  refine lcGo_map (fun d => .tup [.str (PySem.Str.ofString "col"), d]) _ _ ?_ ?_
  · intro d nxt acc hd hnx
    obtain ⟨c, _, rfl⟩ := List.mem_map.mp hd
    walk_at "Ddl"
    exact hnx
  have e1 : (cs.map D.str).map (fun d => D.tup [.str (PySem.Str.ofString "col"), d]) = (cs.map Tm.col).map encTm := by
    rw [List.map_map, List.map_map]; rfl
  dsimp only
  rw [e1]
  walk_at "Ddl"
  refine stopE (e := [some (.lst (ns.map D.int)), some (.lst (ms.map Sm.d)), some (.rol (ws.map D.str)), some (encC cs), some (.lst ((cs.map Tm.col).map encTm)), none, none, none]) rfl ?_
  walk_at "Ddl"
  refine ⟨⟨⟨_, rfl⟩, by simp only [List.length_map]; omega⟩, ?_⟩
  rintro _ _ ⟨n1, v, rfl, rfl, v0, v1⟩
  simp only [List.length_map] at v1
  walk_at "Ddl"
  refine loop_rng (fun j e => ∃ (ks : List Int) (ts : List Tm) (o5 : Option D), ((ts.length : Int) ≤ cs.length + j ∧ (∀ t ∈ ts, fitTm cs t) ∧ ∀ x ∈ cs, Tm.col x ∈ ts) ∧ e = [some (.lst (ks.map D.int)), some (.lst (ms.map Sm.d)), some (.rol (ws.map D.str)), some (encC cs), some (.lst (ts.map encTm)), o5, none, none]) ⟨n1, cs.map Tm.col, none, ⟨by simp, fun t ht => by
    obtain ⟨x, hx, rfl⟩ := List.mem_map.mp ht
    exact hx, fun x hx => List.mem_map.mpr ⟨x, hx, rfl⟩⟩, rfl⟩ ?_ ?_
  · rintro j env nxt hj0 hj1 ⟨ks, ts, o5, ⟨t1, t2, t3⟩, rfl⟩ hx
    walk_at "Ddl"
    refine ⟨⟨⟨_, rfl⟩, by decide⟩, ?_⟩
    rintro _ _ ⟨n2, v2, rfl, rfl, _, _⟩
    walk_at "Ddl"
    refine ifb_dec (fun g => ?_) (fun g => ?_)
    · walk_at "Ddl"
      refine ⟨.inl ⟨ws, cs, n2, ms, rfl, hw, hc⟩, ?_⟩
      intro r ds' hp
      obtain ⟨n3, t, rfl, rfl, ht⟩ := hp.1 _ _ _ _ rfl
      obtain ⟨tt, et⟩ := encTm_tup t
      rw [et]
      walk_at "Ddl"
      refine hx _ ⟨n3, ts ++ [t], _, ⟨by simp only [List.length_append, List.length_cons, List.length_nil]; omega, fun u hu => ?_, fun x hx' => List.mem_append_left _ (t3 x hx')⟩, by rw [List.map_append, ← et]; rfl⟩
      rcases List.mem_append.mp hu with hu | hu
      · exact t2 u hu
      · rw [List.mem_singleton.mp hu]; exact ht
    · walk_at "Ddl"
      exact hx _ ⟨n2, ts, _, ⟨by omega, t2, t3⟩, rfl⟩
  rintro env ⟨ks, ts, o5, ⟨t1, t2, t3⟩, rfl⟩
  have tl : ts.length ≤ 8 := by omega
  walk_at "Ddl"
  refine stopE (e := [some (.lst (ks.map D.int)), some (.lst (ms.map Sm.d)), some (.rol (ws.map D.str)), some (encC cs), some (.lst (ts.map encTm)), o5, none, none]) rfl ?_
  walk_at "Ddl"
  refine ⟨⟨⟨_, rfl⟩, by simp only [List.length_map]; omega⟩, ?_⟩
  rintro _ _ ⟨n4, tu, rfl, rfl, tu0, tu1⟩
  walk_at "Ddl"
  refine stopE (e := [some (.lst (n4.map D.int)), some (.lst (ms.map Sm.d)), some (.rol (ws.map D.str)), some (encC cs), some (.lst (ts.map encTm)), o5, some (.int tu), none]) rfl ?_
  walk_at "Ddl"
  rw [cutM_lo encTm ts tu0, cutM_hi encTm ts tu0, ← List.map_append]
  have mem : ∀ u, u ∈ ts.drop tu.toNat ++ ts.take tu.toNat ↔ u ∈ ts := fun u => by
    rw [List.mem_append, or_comm, ← List.mem_append, List.take_append_drop]
  have len : (ts.drop tu.toNat ++ ts.take tu.toNat).length = ts.length := by
    rw [List.length_append, List.length_drop, List.length_take]; omega
  generalize ts.drop tu.toNat ++ ts.take tu.toNat = us at *
  refine ⟨by simp only [List.length_map, List.length_drop, List.length_take]; omega, ?_⟩
  walk_at "Ddl"
  refine cutW' (fun e => ∃ (ks : List Int) (us : List Tm), ((∀ u, u ∈ us ↔ u ∈ ts) ∧ us.length = ts.length) ∧ e = [some (.lst (ks.map D.int)), some (.lst (ms.map Sm.d)), some (.rol (ws.map D.str)), some (encC cs), some (.lst (us.map encTm)), o5, some (.int tu), none]) (fun nx hn2 => ?_) ?_
  · walk_at "Ddl"
    refine ⟨⟨⟨_, rfl⟩, by decide⟩, ?_⟩
    rintro _ _ ⟨n5, v5, rfl, rfl, _, _⟩
    walk_at "Ddl"
    refine ifb_dec (fun g => ?_) (fun g => ?_)
    · walk_at "Ddl"
      exact hn2 _ ⟨n5, us.reverse, ⟨fun u => by rw [List.mem_reverse]; exact mem u, by rw [List.length_reverse]; exact len⟩, by rw [List.map_reverse]; rfl⟩
    · walk_at "Ddl"
      exact hn2 _ ⟨n5, us, ⟨mem, len⟩, rfl⟩
  rintro _ ⟨n6, us, ⟨mem, len⟩, rfl⟩
  walk_at "Ddl"
  refine ⟨⟨n6, _, _, rfl, rfl, by simpa using hw.pos, by simp only [List.length_map]; have := hw.few; omega⟩, ?_⟩
  intro r ds' hp
  obtain ⟨n7, hr, rfl⟩ := hp _ _ _ rfl rfl
  obtain ⟨w, hw', rfl⟩ := List.mem_map.mp hr
  have hf : ∀ t ∈ us, fitTm cs t := fun t ht => t2 t ((mem t).mp ht)
  have hcol : colsQ (.fact w us) = cs := colsF hc.sc hf fun x hx => (mem _).mpr (t3 x hx)
  walk_at "Ddl"
  exact wf_post (q := .fact w us) rfl ⟨⟨⟨hw.isw w hw', by omega, fun t ht => fit_ok hc (hf t ht)⟩, by rw [hcol]; omega⟩, hcol, Nat.le_refl _⟩
/-! ### more columns -/
theorem SC_perm {a b : List Str} (h : sortedS b = true) (p : b.Perm a) (n : a.Nodup) : SC b := SC.of_sorted h (p.nodup_iff.mpr n)
def sp_law_more : FSpec where
  pre := fun ds => ∃ (ns : List Int) (ws cs : List Str), ds = [.lst (ns.map D.int), .rol (ws.map D.str), encC cs] ∧ WsOk ws ∧ CsOk cs
  post := fun ds r ds' => ∀ (l : D) (ws cs : List Str), ds = [l, .rol (ws.map D.str), encC cs] → ∃ (ns : List Int) (es : List Str), r = encC es ∧ ds' = [.lst (ns.map D.int), .rol (ws.map D.str), encC cs] ∧ CsOk es ∧ ∀ x ∈ cs, x ∈ es
/-- slots: 0 draws, 1 words, 2 columns, 3 found, 4 word -/
def w_law_more : WS :=
    (cSeq (cAsg 3 [0, 1, 2] 3 (cBi fList (cCons (cVar 2) cNil)))
    (cSeq (cFor [0, 1, 2] (iE (cVar 1)) (gN 3 [0, 1, 2] 4)
      (cIte (cAnd (cOp fLt (cBi fLen (cCons (cVar 3) cNil)) (cC (.int 8))) (cAnd (cOp (fIn true) (cVar 4) (cVar 3)) (cOp fEqS (cCallN 2 sp_law_take (cCons (cVar 0) (cCons (cC (.int 4)) cNil))) (cC (.int 0)))))
          (cEx (cMeth 3 fAppend (cCons (cVar 4) cNil)))
          cNilS))
    (cRet 3 (cBi fTuple (cCons (cBi fSortS (cCons (cVar 3) cNil)) cNil)))))
theorem pure_law_more : ∀ ds, ds.length = 3 → sp_law_more.pre ds → w_law_more (env0 ds 2) { nx := fun e => sp_law_more.post ds .non (outs e 3), rt := fun d e => sp_law_more.post ds d (outs e 3) } := by
  rintro ds _ ⟨ns, ws, cs, rfl, hw, hc⟩
  walk_at "Ddl"
  refine loop_for (fun xs e => ∃ (ks : List Int) (q es : List Str) (o4 : Option D), ((xs = q.map D.str ∧ ∀ x ∈ q, x ∈ ws) ∧ (es.Nodup ∧ es.length ≤ 8) ∧ (∀ w ∈ es, isW w = true) ∧ ∀ x ∈ cs, x ∈ es) ∧ e = [some (.lst (ks.map D.int)), some (.rol (ws.map D.str)), some (encC cs), some (.lst (es.map D.str)), o4]) ⟨ns, ws, cs, none, ⟨⟨rfl, fun _ h => h⟩, ⟨hc.sc.nd, hc.few⟩, hc.isw, fun _ h => h⟩, rfl⟩ ?_ ?_
  · rintro x r env nxt ⟨ks, q, es, o4, ⟨⟨h1, h2⟩, ⟨h3, h4⟩, h5, h6⟩, rfl⟩ hx
    cases q with
    | nil => simp at h1
    | cons c q =>
      simp only [List.map_cons, List.cons.injEq] at h1
      obtain ⟨rfl, rfl⟩ := h1
      have same : ∀ ks : List Int, nxt [some (.lst (ks.map D.int)), some (.rol (ws.map D.str)), some (encC cs), some (.lst (es.map D.str)), some (.str c)] := fun ks => hx _ ⟨ks, q, es, _, ⟨⟨rfl, fun x hx => h2 x (by simp [hx])⟩, ⟨h3, h4⟩, h5, h6⟩, rfl⟩
      walk_at "Ddl"
      refine ifb_dec (fun g => ?_) (fun g => ?_)
      · simp only [List.length_map] at g
        walk_at "Ddl"
        refine ⟨flatA_str es, ?_⟩
        rw [any_str]
        by_cases g2 : c ∈ es
        · rw [decide_eq_true g2]
          walk_at "Ddl"
          exact same ks
        · rw [decide_eq_false g2]
          walk_at "Ddl"
          refine ⟨⟨⟨_, rfl⟩, by decide⟩, ?_⟩
          rintro _ _ ⟨n5, v5, rfl, rfl, _, _⟩
          walk_at "Ddl"
          refine ifb_dec (fun g3 => ?_) (fun g3 => ?_)
          · walk_at "Ddl"
            refine hx _ ⟨n5, q, es ++ [c], _, ⟨⟨rfl, fun x hx => h2 x (by simp [hx])⟩, ⟨?_, by simp only [List.length_append, List.length_cons, List.length_nil]; omega⟩, fun w hw' => ?_, fun x hx' => List.mem_append_left _ (h6 x hx')⟩, by rw [List.map_append]; rfl⟩
            · rw [List.nodup_append]
              refine ⟨h3, by simp, fun a ha b hb => ?_⟩
              rw [List.mem_singleton.mp hb]
              exact fun q => g2 (q ▸ ha)
            · rcases List.mem_append.mp hw' with hw' | hw'
              · exact h5 w hw'
              · rw [List.mem_singleton.mp hw']; exact hw.isw c (h2 c (by simp))
          · walk_at "Ddl"
            exact same n5
      · walk_at "Ddl"
        exact same ks
  rintro env ⟨ks, q, es, o4, ⟨⟨h1, h2⟩, ⟨h3, h4⟩, h5, h6⟩, rfl⟩
  walk_at "Ddl"
  rw [strsD_map]
  refine ⟨by omega, fun ys hp hs => ?_⟩
  walk_at "Ddl"
  intro l ws' cs' e
  simp only [List.cons.injEq, and_true, D.lst.injEq, D.rol.injEq] at e
  obtain ⟨_, q1, q2⟩ := e
  cases mapS_inj q1
  cases encC_inj q2
  exact ⟨ks, ys, rfl, rfl, ⟨SC_perm hs hp h3, by rw [hp.length_eq]; exact h4, fun w hw' => h5 w (hp.mem_iff.mp hw')⟩, fun x hx => hp.mem_iff.mpr (h6 x hx)⟩
end DL

set_option maxHeartbeats 600000
namespace DL
--REN _law_size=law_size_b
open PySem PySem.Spec PyProof.Rows L2
/-! ### drawn questions -/
def G5 (ds : List D) (ws cs : List Str) (d : Int) : Prop := ∃ (ns : List Int) (ms : List Sm), ds = [.lst (ns.map D.int), .lst (ms.map Sm.d), .rol (ws.map D.str), encC cs, .int d] ∧ WsOk ws ∧ CsOk cs
def gpost (ds : List D) (r : D) (ds' : List D) : Prop := ∀ (l s : D) (ws cs : List Str) (d : Int), ds = [l, s, .rol (ws.map D.str), encC cs, .int d] → ∃ (ns : List Int) (q : Qn), r = encQ q ∧ ds' = [.lst (ns.map D.int), s, .rol (ws.map D.str), encC cs, .int d] ∧ (okQ q ∧ colsQ q = cs) ∧ (dpQ q : Int) ≤ d
def spn_law_wide : Nat → FSpec
  | 0 => ⟨fun _ => False, fun _ _ _ => False⟩
  | n + 1 => ⟨fun ds => ∃ (ws cs : List Str) (d : Int), G5 ds ws cs d ∧ 1 ≤ d ∧ 2 * d ≤ n + 2, gpost⟩
def spn_law_wide_pair : Nat → FSpec
  | 0 => ⟨fun _ => False, fun _ _ _ => False⟩
  | n + 1 => ⟨fun ds => ∃ (ws cs : List Str) (d : Int), G5 ds ws cs d ∧ 2 ≤ d ∧ 2 * d ≤ n + 3, gpost⟩
def spn_law_wide_total : Nat → FSpec
  | 0 => ⟨fun _ => False, fun _ _ _ => False⟩
  | n + 1 => ⟨fun ds => ∃ (ws cs : List Str) (d : Int), (G5 ds ws cs d ∧ 0 < cs.length) ∧ 2 ≤ d ∧ 2 * d ≤ n + 3, gpost⟩
abbrev sp_law_wide := spn_law_wide 32
theorem g_post {l s r : D} {ws cs : List Str} {d : Int} {ks : List Int} {q : Qn} (e : r = encQ q) (h : (okQ q ∧ colsQ q = cs) ∧ (dpQ q : Int) ≤ d) : gpost [l, s, .rol (ws.map D.str), encC cs, .int d] r [.lst (ks.map D.int), s, .rol (ws.map D.str), encC cs, .int d] := by
  intro l' s' ws' cs' d' q'
  simp only [List.cons.injEq, and_true, D.lst.injEq, D.rol.injEq, D.int.injEq] at q'
  obtain ⟨_, rfl, q1, q2, rfl⟩ := q'
  cases mapS_inj q1
  cases encC_inj q2
  exact ⟨ks, q, e, rfl, h⟩
def neD (z : Str) : D → Bool
  | .str x => !decide (x = z)
  | _ => false
theorem filt_ne (z : Str) : ∀ cs : List Str, ((cs.map D.str).filter (neD z)).map id = (cs.filter fun x => !decide (x = z)).map D.str
  | [] => rfl
  | c :: r => by
    have ih := filt_ne z r
    rw [List.map_cons]
    have e : neD z (.str c) = !decide (c = z) := rfl
    by_cases h : c = z
    · rw [List.filter_cons_of_neg (by rw [e]; simp [h]), List.filter_cons_of_neg (by simp [h])]
      exact ih
    · rw [List.filter_cons_of_pos (by rw [e]; simp [h]), List.filter_cons_of_pos (by simp [h]), List.map_cons, List.map_cons, ih]
      rfl
theorem cnt_ok {new : Str} {cs : List Str} (hc : CsOk cs) (hn : new ∈ cs) : ordS (new :: cs.filter fun x => !decide (x = new)) = cs := ordS_eq hc.sc fun x => by
  rw [List.mem_cons, List.mem_filter]
  constructor
  · rintro (rfl | h)
    · exact hn
    · exact h.1
  · intro h
    by_cases e : x = new
    · exact .inl e
    · exact .inr ⟨h, by simp [e]⟩
/-- slots: 0 draws, 1 script, 2 words, 3 columns, 4 depth, 5 new, 6 keep, 7 inner, 8 part, 9 kind, 10 x -/
def w_law_wide_total (n : Nat) : WS :=
    (cSeq (cAsg 5 [0, 1, 2, 3, 4] 5 (cCallN 2 sp_law_pick (cCons (cVar 0) (cCons (cVar 3) cNil))))
    (cSeq (cAsg 5 [0, 1, 2, 3, 4] 6 (cBi fTuple (cCons (cLc [10] (iE (cVar 3)) (gN 5 [] 10) (cOp fNeS (cVar 10) (cVar 5)) (cVar 10)) cNil)))
    (cSeq (cAsg 5 [0, 1, 2, 3, 4] 7 (cCallN 3 sp_law_more (cCons (cVar 0) (cCons (cVar 2) (cCons (cVar 6) cNil)))))
    (cSeq (cIte (cOp fEqS (cBi fLen (cCons (cVar 7) cNil)) (cC (.int 0)))
      (cAsg 5 [0, 1, 2, 3, 4] 7 (cTup (cCons (cOp fIx (cVar 2) (cC (.int 0))) cNil)))
      cNilS)
    (cSeq (cAsg 5 [0, 1, 2, 3, 4] 8 (cCallN 5 (spn_law_wide n) (cCons (cVar 0) (cCons (cVar 1) (cCons (cVar 2) (cCons (cVar 7) (cCons (cOp fSub (cVar 4) (cC (.int 1))) cNil)))))))
    (cSeq (cAsg 5 [0, 1, 2, 3, 4] 9 (cCallN 2 sp_law_pick (cCons (cVar 0) (cCons (cLst (cCons (cC (.str (PySem.Str.ofString "count"))) (cCons (cC (.str (PySem.Str.ofString "sum"))) (cCons (cC (.str (PySem.Str.ofString "least"))) (cCons (cC (.str (PySem.Str.ofString "most"))) cNil))))) cNil))))
    (cSeq (cIte (cOp fEqS (cVar 9) (cC (.str (PySem.Str.ofString "count"))))
      (cRet 5 (cTup (cCons (cVar 9) (cCons (cVar 5) (cCons (cVar 6) (cCons (cVar 8) cNil))))))
      cNilS)
    (cRet 5 (cTup (cCons (cVar 9) (cCons (cVar 5) (cCons (cCallN 2 sp_law_pick (cCons (cVar 0) (cCons (cVar 7) cNil))) (cCons (cVar 6) (cCons (cVar 8) cNil))))))))))))))
def w'_law_wide_total (n : Nat) : WS :=
    (cCut (cAsg 5 [0, 1, 2, 3, 4] 5 (cCallN 2 sp_law_pick (cCons (cVar 0) (cCons (cVar 3) cNil))))
    (cCut (cAsg 5 [0, 1, 2, 3, 4] 6 (cBi fTuple (cCons (cLc [10] (iE (cVar 3)) (gN 5 [] 10) (cOp fNeS (cVar 10) (cVar 5)) (cVar 10)) cNil)))
    (cCut (cAsg 5 [0, 1, 2, 3, 4] 7 (cCallN 3 sp_law_more (cCons (cVar 0) (cCons (cVar 2) (cCons (cVar 6) cNil)))))
    (cCut (cIte (cOp fEqS (cBi fLen (cCons (cVar 7) cNil)) (cC (.int 0)))
      (cAsg 5 [0, 1, 2, 3, 4] 7 (cTup (cCons (cOp fIx (cVar 2) (cC (.int 0))) cNil)))
      cNilS)
    (cCut (cAsg 5 [0, 1, 2, 3, 4] 8 (cCallN 5 (spn_law_wide n) (cCons (cVar 0) (cCons (cVar 1) (cCons (cVar 2) (cCons (cVar 7) (cCons (cOp fSub (cVar 4) (cC (.int 1))) cNil)))))))
    (cCut (cAsg 5 [0, 1, 2, 3, 4] 9 (cCallN 2 sp_law_pick (cCons (cVar 0) (cCons (cLst (cCons (cC (.str (PySem.Str.ofString "count"))) (cCons (cC (.str (PySem.Str.ofString "sum"))) (cCons (cC (.str (PySem.Str.ofString "least"))) (cCons (cC (.str (PySem.Str.ofString "most"))) cNil))))) cNil))))
    (cSeq (cIte (cOp fEqS (cVar 9) (cC (.str (PySem.Str.ofString "count"))))
      (cRet 5 (cTup (cCons (cVar 9) (cCons (cVar 5) (cCons (cVar 6) (cCons (cVar 8) cNil))))))
      cNilS)
    (cRet 5 (cTup (cCons (cVar 9) (cCons (cVar 5) (cCons (cCallN 2 sp_law_pick (cCons (cVar 0) (cCons (cVar 7) cNil))) (cCons (cVar 6) (cCons (cVar 8) cNil))))))))))))))
theorem w'_law_wide_total_eq (n : Nat) : w_law_wide_total n = w'_law_wide_total n := by
  unfold w'_law_wide_total
  simp only [cCut_eq]
  rfl
local macro_rules | `(tactic| walk_at "Ddlq") => `(tactic| ((conv => whnf); (repeat ((first | refine And.intro rfl ?_ | refine And.intro trivial ?_ | refine And.intro ⟨rfl, trivial⟩ ?_ | refine And.intro ⟨rfl, rfl, trivial⟩ ?_ | refine ifb_nq (by decide) ?_ | refine ifb_er ?_ | refine ifb_t ?_ | refine ifb_f ?_ | refine ifb_nr ?_ | refine ifb_er ?_ | refine And.intro (by first | decide | omega | (unfold CMul; omega) | (unfold CDiv; omega) | (unfold CPow; decide) | (exact cpow1 (by omega) (by omega)) | (exact cpow1 (by dsimp only; omega) (by dsimp only; omega)) | (simp only [rngD_len, List.length_replicate, List.length_map, List.length_append, List.length_cons, List.length_nil, List.length_set] at *; omega)) ?_); conv => whnf))))
local macro_rules | `(tactic| walk_at "Ddl") => `(tactic| ((conv => whnf); (repeat ((first | refine And.intro rfl ?_ | refine And.intro trivial ?_ | refine And.intro ⟨rfl, trivial⟩ ?_ | refine And.intro ⟨rfl, rfl, trivial⟩ ?_ | refine ifb_t ?_ | refine ifb_f ?_ | refine ifb_nr ?_ | refine ifb_er ?_ | refine And.intro (by first | decide | omega | (unfold CMul; omega) | (unfold CDiv; omega) | (unfold CPow; decide) | (exact cpow1 (by omega) (by omega)) | (exact cpow1 (by dsimp only; omega) (by dsimp only; omega)) | (simp only [rngD_len, List.length_replicate, List.length_map, List.length_append, List.length_cons, List.length_nil, List.length_set] at *; omega)) ?_); conv => whnf))))
theorem pure_law_wide_total : ∀ n, ∀ ds, ds.length = 5 → (spn_law_wide_total (n + 1)).pre ds → w_law_wide_total n (env0 ds 6) { nx := fun e => (spn_law_wide_total (n + 1)).post ds .non (outs e 5), rt := fun d e => (spn_law_wide_total (n + 1)).post ds d (outs e 5) } := by
  rintro n ds _ ⟨ws, cs, d, ⟨⟨ns, ms, rfl, hw, hc⟩, hpos⟩, hd1, hd2⟩
  rw [w'_law_wide_total_eq]
  have hcf := hc.few
  have hwf := hw.few
  walk_at "Ddl"
  refine ⟨⟨ns, _, _, rfl, rfl, by simpa using hpos, by simp only [List.length_map]; omega⟩, ?_⟩
  intro r ds' hp
  obtain ⟨n1, hr, rfl⟩ := hp _ _ _ rfl rfl
  obtain ⟨new, hnew, rfl⟩ := List.mem_map.mp hr
  walk_at "Ddl"
  refine stopE (e := [some (.lst (n1.map D.int)), some (.lst (ms.map Sm.d)), some (.rol (ws.map D.str)), some (encC cs), some (.int d), some (.str new), none, none, none, none, none]) rfl ?_
  walk_at "Ddl"
  refine lcGo_filter (neD new) id _ _ ?_ ?_
  · intro x nxt acc hx hnx
    obtain ⟨c, _, rfl⟩ := List.mem_map.mp hx
    have e : neD new (.str c) = !decide (c = new) := rfl
    rw [e] at hnx
    walk_at "Ddl"
    refine ifb_ndec (fun g => ?_) (fun g => ?_)
    · rw [decide_eq_false g] at hnx
      walk_at "Ddl"
      exact hnx
    · rw [decide_eq_true g] at hnx
      walk_at "Ddl"
      rw [if_neg (by decide), List.append_nil] at hnx
      exact hnx
  dsimp only
  rw [filt_ne]
  have hsub : (cs.filter fun x => !decide (x = new)).Sublist cs := List.filter_sublist
  have hnk : new ∉ cs.filter fun x => !decide (x = new) := fun h => by
    have := (List.mem_filter.mp h).2
    simp at this
  have hcnt := cnt_ok hc hnew
  have hck : CsOk (cs.filter fun x => !decide (x = new)) := hc.sub hsub
  generalize (cs.filter fun x => !decide (x = new)) = keep at *
  walk_at "Ddl"
  refine stopE (e := [some (.lst (n1.map D.int)), some (.lst (ms.map Sm.d)), some (.rol (ws.map D.str)), some (encC cs), some (.int d), some (.str new), some (encC keep), none, none, none, none]) rfl ?_
  walk_at "Ddl"
  refine ⟨⟨n1, ws, keep, rfl, hw, hck⟩, ?_⟩
  intro r ds' hp
  obtain ⟨n2, es, rfl, rfl, hce, hke⟩ := hp _ _ _ rfl
  walk_at "Ddl"
  refine cutW' (fun e => ∃ (es : List Str), (CsOk es ∧ 0 < es.length ∧ ∀ x ∈ keep, x ∈ es) ∧ e = [some (.lst (n2.map D.int)), some (.lst (ms.map Sm.d)), some (.rol (ws.map D.str)), some (encC cs), some (.int d), some (.str new), some (encC keep), some (encC es), none, none, none]) (fun nx hn2 => ?_) ?_
  · walk_at "Ddl"
    rw [List.length_map]
    refine ifb_dec (fun g => ?_) (fun g => ?_)
    · have g : (es.length : Int) = 0 := g
      have he : es = [] := List.length_eq_zero_iff.mp (by omega)
      obtain ⟨w0, wr, hwe⟩ : ∃ w r, ws = w :: r := by
        cases ws with
        | nil => have := hw.pos; simp at this
        | cons w r => exact ⟨w, r, rfl⟩
      have e0 : atI (ws.map D.str) 0 = some (.str w0) := atI_nat (j := 0) (by rw [hwe]; rfl)
      walk_at "Ddl"
      rw [e0]
      walk_at "Ddl"
      exact hn2 _ ⟨[w0], ⟨⟨by simp [SC], by simp, fun w hw' => by rw [List.mem_singleton.mp hw']; exact hw.isw w0 (by rw [hwe]; simp)⟩, by simp, fun x hx => by have := hke x hx; rw [he] at this; cases this⟩, rfl⟩
    · have g : ¬ (es.length : Int) = 0 := g
      walk_at "Ddl"
      exact hn2 _ ⟨es, ⟨hce, by omega, hke⟩, rfl⟩
  rintro _ ⟨es, ⟨hce, hep, hke⟩, rfl⟩
  have hef := hce.few
  obtain ⟨n, rfl⟩ : ∃ m, n = m + 1 := ⟨n - 1, by omega⟩
  walk_at "Ddl"
  refine ⟨⟨ws, es, d - 1, ⟨n2, ms, rfl, hw, hce⟩, by omega, by omega⟩, ?_⟩
  intro r ds' hp
  obtain ⟨n3, q, rfl, rfl, ⟨hq, hcq⟩, hdq⟩ := hp _ _ _ _ _ rfl
  obtain ⟨tq, eq⟩ := encQ_tup q
  rw [eq]
  walk_at "Ddl"
  refine stopE (e := [some (.lst (n3.map D.int)), some (.lst (ms.map Sm.d)), some (.rol (ws.map D.str)), some (encC cs), some (.int d), some (.str new), some (encC keep), some (encC es), some (.tup tq), none, none]) rfl ?_
  walk_at "Ddl"
  refine ⟨⟨n3, _, _, rfl, rfl, by decide, by decide⟩, ?_⟩
  intro r ds' hp
  obtain ⟨n4, hr, rfl⟩ := hp _ _ _ rfl rfl
  have base : isW new = true ∧ new ∉ keep ∧ SC keep ∧ ∀ x ∈ keep, x ∈ colsQ q := ⟨hc.isw new hnew, hnk, hck.sc, by rw [hcq]; exact hke⟩
  have okc : okQ (.count new keep q) := ⟨⟨base, by show (ordS (new :: keep)).length ≤ 8; rw [hcnt]; exact hcf⟩, hq⟩
  have tail : ∀ (k : K3) (n4 : List Int), Stop (cSeq (cIte (cOp fEqS (cVar 9) (cC (.str (PySem.Str.ofString "count"))))
      (cRet 5 (cTup (cCons (cVar 9) (cCons (cVar 5) (cCons (cVar 6) (cCons (cVar 8) cNil))))))
      cNilS)
    (cRet 5 (cTup (cCons (cVar 9) (cCons (cVar 5) (cCons (cCallN 2 sp_law_pick (cCons (cVar 0) (cCons (cVar 7) cNil))) (cCons (cVar 6) (cCons (cVar 8) cNil))))))) [some (.lst (n4.map D.int)), some (.lst (ms.map Sm.d)), some (.rol (ws.map D.str)), some (encC cs), some (.int d), some (.str new), some (encC keep), some (encC es), some (.tup tq), some (.str k.s), none] { nx := fun e => (spn_law_wide_total (n + 1 + 1)).post [.lst (ns.map D.int), .lst (ms.map Sm.d), .rol (ws.map D.str), encC cs, .int d] .non (outs e 5), rt := fun r e => (spn_law_wide_total (n + 1 + 1)).post [.lst (ns.map D.int), .lst (ms.map Sm.d), .rol (ws.map D.str), encC cs, .int d] r (outs e 5) }) := by
    intro k n4
    refine stopE rfl ?_
    have hk : ¬ k.s = PySem.Str.ofString "count" := by cases k <;> decide
    walk_at "Ddl"
    refine ifb_nq hk ?_
    walk_at "Ddl"
    refine ⟨⟨n4, _, _, rfl, rfl, by simpa using hep, by simp only [List.length_map]; omega⟩, ?_⟩
    intro r ds' hp
    obtain ⟨n5, hr, rfl⟩ := hp _ _ _ rfl rfl
    obtain ⟨col, hcol, rfl⟩ := List.mem_map.mp hr
    have okt : okQ (.total k new col keep q) := ⟨⟨⟨base.1, base.2.1, base.2.2, by rw [hcq]; exact hcol⟩, by show (ordS (new :: keep)).length ≤ 8; rw [hcnt]; exact hcf⟩, hq⟩
    walk_at "Ddl"
    exact g_post (q := .total k new col keep q) (by simp only [encQ, eq]) ⟨⟨okt, hcnt⟩, by show ((dpQ q + 1 : Nat) : Int) ≤ d; omega⟩
  simp only [List.mem_cons, List.not_mem_nil, or_false] at hr
  rcases hr with rfl | rfl | rfl | rfl
  · walk_at "Ddl"
    refine stopE (e := [some (.lst (n4.map D.int)), some (.lst (ms.map Sm.d)), some (.rol (ws.map D.str)), some (encC cs), some (.int d), some (.str new), some (encC keep), some (encC es), some (.tup tq), some (.str (PySem.Str.ofString "count")), none]) rfl ?_
    walk_at "Ddlq"
    exact g_post (q := .count new keep q) (by simp only [encQ, eq]) ⟨⟨okc, hcnt⟩, by show ((dpQ q + 1 : Nat) : Int) ≤ d; omega⟩
  · walk_at "Ddl"
    exact tail .sum n4
  · walk_at "Ddl"
    exact tail .least n4
  · walk_at "Ddl"
    exact tail .most n4
theorem pick7 {r : D} (h : r ∈ [D.str (PySem.Str.ofString "both"), .str (PySem.Str.ofString "either"), .str (PySem.Str.ofString "unless"), .str (PySem.Str.ofString "since"), .str (PySem.Str.ofString "until"), .str (PySem.Str.ofString "sincenot"), .str (PySem.Str.ofString "untilnot")]) : ∃ k : K2, r = .str k.s := by
  simp only [List.mem_cons, List.not_mem_nil, or_false] at h
  rcases h with rfl | rfl | rfl | rfl | rfl | rfl | rfl
  · exact ⟨.both, rfl⟩
  · exact ⟨.either, rfl⟩
  · exact ⟨.unless, rfl⟩
  · exact ⟨.since, rfl⟩
  · exact ⟨.until, rfl⟩
  · exact ⟨.sincenot, rfl⟩
  · exact ⟨.untilnot, rfl⟩
/-- how the columns of a pair's parts lie -/
def RelP (cs fs ss : List Str) : K2 → Prop
  | .both => ∀ x, x ∈ fs ++ ss ↔ x ∈ cs
  | .either => fs = cs ∧ ss = cs
  | .unless => fs = cs ∧ ∀ x ∈ ss, x ∈ cs
  | _ => ss = cs ∧ ∀ x ∈ fs, x ∈ cs
theorem rel_ok {k : K2} {cs fs ss : List Str} {p q : Qn} (hc : CsOk cs) (h : RelP cs fs ss k) (hp : okQ p ∧ colsQ p = fs) (hq : okQ q ∧ colsQ q = ss) : okQ (.two k p q) ∧ colsQ (.two k p q) = cs := by
  have hcf := hc.few
  obtain ⟨hp, rfl⟩ := hp
  obtain ⟨hq, rfl⟩ := hq
  cases k with
  | both =>
    have e : ordS (colsQ p ++ colsQ q) = cs := ordS_eq hc.sc h
    exact ⟨⟨⟨trivial, by show (ordS _).length ≤ 8; rw [e]; exact hcf⟩, hp, hq⟩, e⟩
  | either => obtain ⟨h1, h2⟩ := h; exact ⟨⟨⟨h1.trans h2.symm, by show (colsQ p).length ≤ 8; rw [h1]; exact hcf⟩, hp, hq⟩, h1⟩
  | «unless» => obtain ⟨h1, h2⟩ := h; exact ⟨⟨⟨by show ∀ x ∈ colsQ q, x ∈ colsQ p; rw [h1]; exact h2, by show (colsQ p).length ≤ 8; rw [h1]; exact hcf⟩, hp, hq⟩, h1⟩
  | since | sincenot | «until» | untilnot => obtain ⟨h1, h2⟩ := h; exact ⟨⟨⟨by show ∀ x ∈ colsQ p, x ∈ colsQ q; rw [h1]; exact h2, by show (colsQ q).length ≤ 8; rw [h1]; exact hcf⟩, hp, hq⟩, h1⟩
/-- slots: 0 draws, 1 script, 2 words, 3 columns, 4 depth, 5 kind, 6 depths, 7 first, 8 second, 9 one, 10 x -/
def w_law_wide_pair (n : Nat) : WS :=
    (cSeq (cAsg 5 [0, 1, 2, 3, 4] 5 (cCallN 2 sp_law_pick (cCons (cVar 0) (cCons (cLst (cCons (cC (.str (PySem.Str.ofString "both"))) (cCons (cC (.str (PySem.Str.ofString "either"))) (cCons (cC (.str (PySem.Str.ofString "unless"))) (cCons (cC (.str (PySem.Str.ofString "since"))) (cCons (cC (.str (PySem.Str.ofString "until"))) (cCons (cC (.str (PySem.Str.ofString "sincenot"))) (cCons (cC (.str (PySem.Str.ofString "untilnot"))) cNil)))))))) cNil))))
    (cSeq (cAsg 5 [0, 1, 2, 3, 4] 6 (cLst (cCons (cOp fSub (cVar 4) (cC (.int 1))) (cCons (cBi fMin (cCons (cOp fSub (cVar 4) (cC (.int 1))) (cCons (cOp fAddG (cC (.int 1)) (cCallN 2 sp_law_take (cCons (cVar 0) (cCons (cC (.int 2)) cNil)))) cNil))) cNil))))
    (cSeq (cIte (cOp fEqS (cCallN 2 sp_law_take (cCons (cVar 0) (cCons (cC (.int 2)) cNil))) (cC (.int 0)))
      (cEx (cMeth 6 fReverse cNil))
      cNilS)
    (cSeq (cAsg 5 [0, 1, 2, 3, 4] 7 (cVar 3))
    (cSeq (cAsg 5 [0, 1, 2, 3, 4] 8 (cVar 3))
    (cSeq (cIte (cOp fEqS (cVar 5) (cC (.str (PySem.Str.ofString "unless"))))
      (cAsg 5 [0, 1, 2, 3, 4] 8 (cCallN 2 sp_law_some_columns (cCons (cVar 0) (cCons (cVar 3) cNil))))
      (cIte (cOp fEqS (cVar 5) (cC (.str (PySem.Str.ofString "both"))))
          (cSeq (cAsg 5 [0, 1, 2, 3, 4] 7 (cCallN 2 sp_law_some_columns (cCons (cVar 0) (cCons (cVar 3) cNil))))
            (cAsg 5 [0, 1, 2, 3, 4] 8 (cBi fTuple (cCons (cLc [10] (iE (cVar 3)) (gN 5 [] 10) (cOr (cOp (fIn true) (cVar 10) (cVar 7)) (cOp fEqS (cCallN 2 sp_law_take (cCons (cVar 0) (cCons (cC (.int 2)) cNil))) (cC (.int 0)))) (cVar 10)) cNil))))
          (cIte (cOp fNeS (cVar 5) (cC (.str (PySem.Str.ofString "either"))))
              (cAsg 5 [0, 1, 2, 3, 4] 7 (cCallN 2 sp_law_some_columns (cCons (cVar 0) (cCons (cVar 3) cNil))))
              cNilS)))
    (cSeq (cAsg 5 [0, 1, 2, 3, 4] 9 (cCallN 5 (spn_law_wide n) (cCons (cVar 0) (cCons (cVar 1) (cCons (cVar 2) (cCons (cVar 7) (cCons (cOp fIx (cVar 6) (cC (.int 0))) cNil)))))))
    (cRet 5 (cTup (cCons (cVar 5) (cCons (cVar 9) (cCons (cCallN 5 (spn_law_wide n) (cCons (cVar 0) (cCons (cVar 1) (cCons (cVar 2) (cCons (cVar 8) (cCons (cOp fIx (cVar 6) (cC (.int 1))) cNil)))))) cNil))))))))))))
def w'_law_wide_pair (n : Nat) : WS :=
    (cSeq (cAsg 5 [0, 1, 2, 3, 4] 5 (cCallN 2 sp_law_pick (cCons (cVar 0) (cCons (cLst (cCons (cC (.str (PySem.Str.ofString "both"))) (cCons (cC (.str (PySem.Str.ofString "either"))) (cCons (cC (.str (PySem.Str.ofString "unless"))) (cCons (cC (.str (PySem.Str.ofString "since"))) (cCons (cC (.str (PySem.Str.ofString "until"))) (cCons (cC (.str (PySem.Str.ofString "sincenot"))) (cCons (cC (.str (PySem.Str.ofString "untilnot"))) cNil)))))))) cNil))))
    (cCut (cAsg 5 [0, 1, 2, 3, 4] 6 (cLst (cCons (cOp fSub (cVar 4) (cC (.int 1))) (cCons (cBi fMin (cCons (cOp fSub (cVar 4) (cC (.int 1))) (cCons (cOp fAddG (cC (.int 1)) (cCallN 2 sp_law_take (cCons (cVar 0) (cCons (cC (.int 2)) cNil)))) cNil))) cNil))))
    (cCut (cIte (cOp fEqS (cCallN 2 sp_law_take (cCons (cVar 0) (cCons (cC (.int 2)) cNil))) (cC (.int 0)))
      (cEx (cMeth 6 fReverse cNil))
      cNilS)
    (cSeq (cAsg 5 [0, 1, 2, 3, 4] 7 (cVar 3))
    (cCut (cAsg 5 [0, 1, 2, 3, 4] 8 (cVar 3))
    (cCut (cIte (cOp fEqS (cVar 5) (cC (.str (PySem.Str.ofString "unless"))))
      (cAsg 5 [0, 1, 2, 3, 4] 8 (cCallN 2 sp_law_some_columns (cCons (cVar 0) (cCons (cVar 3) cNil))))
      (cIte (cOp fEqS (cVar 5) (cC (.str (PySem.Str.ofString "both"))))
          (cSeq (cAsg 5 [0, 1, 2, 3, 4] 7 (cCallN 2 sp_law_some_columns (cCons (cVar 0) (cCons (cVar 3) cNil))))
            (cAsg 5 [0, 1, 2, 3, 4] 8 (cBi fTuple (cCons (cLc [10] (iE (cVar 3)) (gN 5 [] 10) (cOr (cOp (fIn true) (cVar 10) (cVar 7)) (cOp fEqS (cCallN 2 sp_law_take (cCons (cVar 0) (cCons (cC (.int 2)) cNil))) (cC (.int 0)))) (cVar 10)) cNil))))
          (cIte (cOp fNeS (cVar 5) (cC (.str (PySem.Str.ofString "either"))))
              (cAsg 5 [0, 1, 2, 3, 4] 7 (cCallN 2 sp_law_some_columns (cCons (cVar 0) (cCons (cVar 3) cNil))))
              cNilS)))
    (cSeq (cAsg 5 [0, 1, 2, 3, 4] 9 (cCallN 5 (spn_law_wide n) (cCons (cVar 0) (cCons (cVar 1) (cCons (cVar 2) (cCons (cVar 7) (cCons (cOp fIx (cVar 6) (cC (.int 0))) cNil)))))))
    (cRet 5 (cTup (cCons (cVar 5) (cCons (cVar 9) (cCons (cCallN 5 (spn_law_wide n) (cCons (cVar 0) (cCons (cVar 1) (cCons (cVar 2) (cCons (cVar 8) (cCons (cOp fIx (cVar 6) (cC (.int 1))) cNil)))))) cNil))))))))))))
theorem w'_law_wide_pair_eq (n : Nat) : w_law_wide_pair n = w'_law_wide_pair n := by
  unfold w'_law_wide_pair
  simp only [cCut_eq]
  rfl
theorem pure_law_wide_pair : ∀ n, ∀ ds, ds.length = 5 → (spn_law_wide_pair (n + 1)).pre ds → w_law_wide_pair n (env0 ds 6) { nx := fun e => (spn_law_wide_pair (n + 1)).post ds .non (outs e 5), rt := fun d e => (spn_law_wide_pair (n + 1)).post ds d (outs e 5) } := by
  rintro n ds _ ⟨ws, cs, d, ⟨ns, ms, rfl, hw, hc⟩, hd1, hd2⟩
  rw [w'_law_wide_pair_eq]
  have hcf := hc.few
  have hwf := hw.few
  obtain ⟨n, rfl⟩ : ∃ m, n = m + 1 := ⟨n - 1, by omega⟩
  walk_at "Ddl"
  refine ⟨⟨ns, _, _, rfl, rfl, by decide, by decide⟩, ?_⟩
  intro r ds' hp
  obtain ⟨n1, hr, rfl⟩ := hp _ _ _ rfl rfl
  obtain ⟨k, rfl⟩ := pick7 hr
  walk_at "Ddl"
  refine ⟨⟨⟨_, rfl⟩, by decide⟩, ?_⟩
  rintro _ _ ⟨n2, v, rfl, rfl, v0, v1⟩
  walk_at "Ddl"
  refine cutW' (fun e => ∃ (ks : List Int) (d1 d2 : Int), ((1 ≤ d1 ∧ d1 ≤ d - 1) ∧ 1 ≤ d2 ∧ d2 ≤ d - 1) ∧ e = [some (.lst (ks.map D.int)), some (.lst (ms.map Sm.d)), some (.rol (ws.map D.str)), some (encC cs), some (.int d), some (.str k.s), some (.lst [.int d1, .int d2]), none, none, none, none]) (fun nx hn2 => ?_) ?_
  · walk_at "Ddl"
    refine ⟨⟨⟨_, rfl⟩, by decide⟩, ?_⟩
    rintro _ _ ⟨n3, u, rfl, rfl, _, _⟩
    walk_at "Ddl"
    refine ifb_dec (fun g => ?_) (fun g => ?_)
    · walk_at "Ddl"
      exact hn2 _ ⟨n3, _, _, ⟨⟨by split <;> omega, by split <;> omega⟩, by omega, by omega⟩, rfl⟩
    · walk_at "Ddl"
      exact hn2 _ ⟨n3, _, _, ⟨⟨by omega, by omega⟩, by split <;> omega, by split <;> omega⟩, rfl⟩
  rintro _ ⟨n4, d1, d2, ⟨⟨a1, a2⟩, a3, a4⟩, rfl⟩
  walk_at "Ddl"
  refine cutW' (fun e => ∃ (ks : List Int) (fs ss : List Str) (o10 : Option D), (CsOk fs ∧ CsOk ss ∧ RelP cs fs ss k) ∧ e = [some (.lst (ks.map D.int)), some (.lst (ms.map Sm.d)), some (.rol (ws.map D.str)), some (encC cs), some (.int d), some (.str k.s), some (.lst [.int d1, .int d2]), some (encC fs), some (encC ss), none, none]) (fun nx hn2 => ?_) ?_
  · have fol : ∀ k : K2, (k ≠ .both ∧ k ≠ .either ∧ k ≠ .unless) → (∀ fs, (∀ x ∈ fs, x ∈ cs) → RelP cs fs cs k) := fun k hk fs hf => by
      cases k with
      | both => exact absurd rfl hk.1
      | either => exact absurd rfl hk.2.1
      | «unless» => exact absurd rfl hk.2.2
      | _ => exact ⟨rfl, hf⟩
    have pre : ∀ ks : List Int, sp_law_some_columns.pre [.lst (ks.map D.int), encC cs] := fun ks => ⟨ks, cs, rfl, by omega⟩
    cases k with
    | «unless» =>
      walk_at "Ddlq"
      refine ⟨pre _, ?_⟩
      intro r ds' hp
      obtain ⟨n5, es, rfl, rfl, hs⟩ := hp _ _ rfl
      walk_at "Ddlq"
      exact hn2 _ ⟨n5, cs, es, none, ⟨hc, hc.sub hs, rfl, fun x hx => hs.subset hx⟩, rfl⟩
    | either =>
      walk_at "Ddlq"
      exact hn2 _ ⟨n4, cs, cs, none, ⟨hc, hc, rfl, rfl⟩, rfl⟩
    | both =>
      walk_at "Ddlq"
      refine ⟨pre _, ?_⟩
      intro r ds' hp
      obtain ⟨n5, es, rfl, rfl, hs⟩ := hp _ _ rfl
      have hse := hc.sub hs
      walk_at "Ddlq"
      refine loop_lc (fun xs acc e => ∃ (ks : List Int) (p q ss : List Str), (cs = p ++ q ∧ xs = q.map D.str ∧ acc = ss.map D.str ∧ ss.Sublist p ∧ ∀ x ∈ p, x ∈ es ∨ x ∈ ss) ∧ e = [some (.lst (ks.map D.int)), some (.lst (ms.map Sm.d)), some (.rol (ws.map D.str)), some (encC cs), some (.int d), some (.str K2.both.s), some (.lst [.int d1, .int d2]), some (encC es), some (encC cs), none, none]) ⟨n5, [], cs, [], ⟨rfl, rfl, rfl, .slnil, by simp⟩, rfl⟩ ?_ ?_
      · rintro x r acc env nxt ⟨ks, p, q, ss, ⟨h1, h2, rfl, h4, h5⟩, rfl⟩ hx
        cases q with
        | nil => simp at h2
        | cons c q =>
          simp only [List.map_cons, List.cons.injEq] at h2
          obtain ⟨rfl, rfl⟩ := h2
          have keep : ∀ ks : List Int, nxt ((ss.map D.str) ++ [.str c]) [some (.lst (ks.map D.int)), some (.lst (ms.map Sm.d)), some (.rol (ws.map D.str)), some (encC cs), some (.int d), some (.str K2.both.s), some (.lst [.int d1, .int d2]), some (encC es), some (encC cs), none, none] := fun ks =>
            hx _ _ ⟨ks, p ++ [c], q, ss ++ [c], ⟨by rw [h1]; simp, rfl, by rw [List.map_append]; rfl, h4.append (.refl _), fun x hx' => by
              rcases List.mem_append.mp hx' with hx' | hx'
              · exact (h5 x hx').imp id fun h => List.mem_append_left _ h
              · exact .inr (List.mem_append_right _ hx')⟩, rfl⟩
          walk_at "Ddl"
          refine ⟨flatA_str es, ?_⟩
          rw [any_str]
          by_cases g : c ∈ es
          · rw [decide_eq_true g]
            walk_at "Ddl"
            refine ⟨⟨⟨_, rfl⟩, by decide⟩, ?_⟩
            rintro _ _ ⟨n6, u, rfl, rfl, _, _⟩
            walk_at "Ddl"
            refine ifb_dec (fun g2 => ?_) (fun g2 => ?_)
            · walk_at "Ddl"
              exact keep n6
            · walk_at "Ddl"
              exact hx _ _ ⟨n6, p ++ [c], q, ss, ⟨by rw [h1]; simp, rfl, rfl, h4.trans (List.sublist_append_left _ _), fun x hx' => by
                rcases List.mem_append.mp hx' with hx' | hx'
                · exact h5 x hx'
                · rw [List.mem_singleton.mp hx']; exact .inl g⟩, rfl⟩
          · rw [decide_eq_false g]
            walk_at "Ddl"
            exact keep ks
      rintro acc env ⟨ks, p, q, ss, ⟨h1, h2, rfl, h4, h5⟩, rfl⟩
      have hq : q = [] := by
        cases q with
        | nil => rfl
        | cons _ _ => simp at h2
      subst hq
      rw [List.append_nil] at h1
      subst h1
      walk_at "Ddl"
      exact hn2 _ ⟨ks, es, ss, none, ⟨hse, hc.sub h4, fun x => by
        rw [List.mem_append]
        exact ⟨fun h => h.elim (fun h => hs.subset h) fun h => h4.subset h, h5 x⟩⟩, rfl⟩
    | since | sincenot | «until» | untilnot =>
      walk_at "Ddlq"
      refine ⟨pre _, ?_⟩
      intro r ds' hp
      obtain ⟨n5, es, rfl, rfl, hs⟩ := hp _ _ rfl
      walk_at "Ddlq"
      exact hn2 _ ⟨n5, es, cs, none, ⟨hc.sub hs, hc, rfl, fun x hx => hs.subset hx⟩, rfl⟩
  rintro _ ⟨n5, fs, ss, o10, ⟨hf, hs, hrel⟩, rfl⟩
  walk_at "Ddl"
  refine ⟨⟨ws, fs, d1, ⟨n5, ms, rfl, hw, hf⟩, by omega, by omega⟩, ?_⟩
  intro r ds' hp
  obtain ⟨n6, p, rfl, rfl, hp1, hp2⟩ := hp _ _ _ _ _ rfl
  obtain ⟨tp, ep⟩ := encQ_tup p
  rw [ep]
  walk_at "Ddl"
  refine ⟨⟨ws, ss, d2, ⟨n6, ms, rfl, hw, hs⟩, by omega, by omega⟩, ?_⟩
  intro r ds' hp
  obtain ⟨n7, q, rfl, rfl, hq1, hq2⟩ := hp _ _ _ _ _ rfl
  obtain ⟨tq, eq⟩ := encQ_tup q
  rw [eq]
  walk_at "Ddl"
  exact g_post (q := .two k p q) (by simp only [encQ, ep, eq]) ⟨rel_ok hc hrel hp1 hq1, by show ((max (dpQ p) (dpQ q) + 1 : Nat) : Int) ≤ d; omega⟩
end DL

set_option maxHeartbeats 600000
namespace DL
--REN _law_size=law_size_b
open PySem PySem.Spec PyProof.Rows L2
theorem two_cs {cs : List Str} (hc : CsOk cs) (h : cs.length = 2) : ∃ a b, cs = [a, b] ∧ a ≠ b ∧ slt a b := by
  match cs, h with
  | [a, b], _ =>
    have := hc.sc
    have h1 : slt a b := (List.pairwise_cons.mp this).1 b (by simp)
    exact ⟨a, b, rfl, fun e => slt_irr a (by rw [← e] at h1; exact h1), h1⟩
/-- slots: 0 draws, 1 script, 2 words, 3 columns, 4 depth, 5 kind, 6 inner, 7 part, 8 pair, 9 test, 10 left, 11 within -/
def w_law_wide (n : Nat) : WS :=
    (cSeq (cIte (cOr (cOp fLt (cVar 4) (cC (.int 2))) (cOp fEqS (cCallN 2 sp_law_take (cCons (cVar 0) (cCons (cC (.int 9)) cNil))) (cC (.int 0))))
      (cRet 5 (cCallN 4 sp_law_wide_fact (cCons (cVar 0) (cCons (cVar 1) (cCons (cVar 2) (cCons (cVar 3) cNil))))))
      cNilS)
    (cSeq (cAsg 5 [0, 1, 2, 3, 4] 5 (cCallN 2 sp_law_take (cCons (cVar 0) (cCons (cC (.int 10)) cNil))))
    (cSeq (cIte (cOp fLt (cVar 5) (cC (.int 3)))
      (cRet 5 (cCallN 5 (spn_law_wide_pair n) (cCons (cVar 0) (cCons (cVar 1) (cCons (cVar 2) (cCons (cVar 3) (cCons (cVar 4) cNil)))))))
      cNilS)
    (cSeq (cIte (cAnd (cOp fLt (cVar 5) (cC (.int 5))) (cOp fGt (cBi fLen (cCons (cVar 3) cNil)) (cC (.int 0))))
      (cRet 5 (cCallN 5 (spn_law_wide_total n) (cCons (cVar 0) (cCons (cVar 1) (cCons (cVar 2) (cCons (cVar 3) (cCons (cVar 4) cNil)))))))
      cNilS)
    (cSeq (cIte (cOp fEqS (cVar 5) (cC (.int 5)))
      (cSeq (cAsg 5 [0, 1, 2, 3, 4] 6 (cCallN 3 sp_law_more (cCons (cVar 0) (cCons (cVar 2) (cCons (cVar 3) cNil)))))
        (cRet 5 (cTup (cCons (cC (.str (PySem.Str.ofString "only"))) (cCons (cVar 3) (cCons (cCallN 5 (spn_law_wide n) (cCons (cVar 0) (cCons (cVar 1) (cCons (cVar 2) (cCons (cVar 6) (cCons (cOp fSub (cVar 4) (cC (.int 1))) cNil)))))) cNil))))))
      cNilS)
    (cSeq (cAsg 5 [0, 1, 2, 3, 4] 7 (cCallN 5 (spn_law_wide n) (cCons (cVar 0) (cCons (cVar 1) (cCons (cVar 2) (cCons (cVar 3) (cCons (cOp fSub (cVar 4) (cC (.int 1))) cNil)))))))
    (cSeq (cIte (cAnd (cOp fEqS (cVar 5) (cC (.int 6))) (cOp fEqS (cBi fLen (cCons (cVar 3) cNil)) (cC (.int 2))))
      (cSeq (cAsg 5 [0, 1, 2, 3, 4] 8 (cOp fIx (cLst (cCons (cVar 3) (cCons (cTup (cCons (cOp fIx (cVar 3) (cC (.int 1))) (cCons (cOp fIx (cVar 3) (cC (.int 0))) cNil))) cNil))) (cCallN 2 sp_law_take (cCons (cVar 0) (cCons (cC (.int 2)) cNil)))))
        (cRet 5 (cTup (cCons (cCallN 2 sp_law_pick (cCons (cVar 0) (cCons (cLst (cCons (cC (.str (PySem.Str.ofString "linked"))) (cCons (cC (.str (PySem.Str.ofString "way"))) cNil))) cNil))) (cCons (cOp fIx (cVar 8) (cC (.int 0))) (cCons (cOp fIx (cVar 8) (cC (.int 1))) (cCons (cVar 7) cNil)))))))
      cNilS)
    (cSeq (cIte (cOp fEqS (cVar 5) (cC (.int 7)))
      (cSeq (cAsg 5 [0, 1, 2, 3, 4] 9 (cCallN 2 sp_law_pick (cCons (cVar 0) (cCons (cLst (cCons (cC (.str (PySem.Str.ofString "same"))) (cCons (cC (.str (PySem.Str.ofString "other"))) (cCons (cC (.str (PySem.Str.ofString "less"))) cNil)))) cNil))))
        (cSeq (cAsg 5 [0, 1, 2, 3, 4] 10 (cCallN 4 sp_law_wide_term (cCons (cVar 0) (cCons (cVar 1) (cCons (cVar 2) (cCons (cVar 3) cNil))))))
        (cRet 5 (cTup (cCons (cC (.str (PySem.Str.ofString "where"))) (cCons (cVar 9) (cCons (cVar 10) (cCons (cCallN 4 sp_law_wide_term (cCons (cVar 0) (cCons (cVar 1) (cCons (cVar 2) (cCons (cVar 3) cNil))))) (cCons (cVar 7) cNil)))))))))
      cNilS)
    (cSeq (cIte (cOp fEqS (cVar 5) (cC (.int 8)))
      (cRet 5 (cTup (cCons (cC (.str (PySem.Str.ofString "shift"))) (cCons (cCallN 2 sp_law_number (cCons (cVar 0) (cCons (cVar 1) cNil))) (cCons (cVar 7) cNil)))))
      cNilS)
    (cSeq (cAsg 5 [0, 1, 2, 3, 4] 11 (cC .non))
    (cSeq (cIte (cOp fGt (cCallN 2 sp_law_take (cCons (cVar 0) (cCons (cC (.int 3)) cNil))) (cC (.int 0)))
      (cAsg 5 [0, 1, 2, 3, 4] 11 (cCallN 2 sp_law_size_b (cCons (cVar 0) (cCons (cVar 1) cNil))))
      cNilS)
    (cRet 5 (cTup (cCons (cCallN 2 sp_law_pick (cCons (cVar 0) (cCons (cLst (cCons (cC (.str (PySem.Str.ofString "once"))) (cCons (cC (.str (PySem.Str.ofString "lately"))) (cCons (cC (.str (PySem.Str.ofString "soon"))) (cCons (cC (.str (PySem.Str.ofString "henceforth"))) cNil))))) cNil))) (cCons (cVar 11) (cCons (cVar 7) cNil))))))))))))))))
def w'_law_wide (n : Nat) : WS :=
    (cCut (cIte (cOr (cOp fLt (cVar 4) (cC (.int 2))) (cOp fEqS (cCallN 2 sp_law_take (cCons (cVar 0) (cCons (cC (.int 9)) cNil))) (cC (.int 0))))
      (cRet 5 (cCallN 4 sp_law_wide_fact (cCons (cVar 0) (cCons (cVar 1) (cCons (cVar 2) (cCons (cVar 3) cNil))))))
      cNilS)
    (cCut (cAsg 5 [0, 1, 2, 3, 4] 5 (cCallN 2 sp_law_take (cCons (cVar 0) (cCons (cC (.int 10)) cNil))))
    (cCut (cIte (cOp fLt (cVar 5) (cC (.int 3)))
      (cRet 5 (cCallN 5 (spn_law_wide_pair n) (cCons (cVar 0) (cCons (cVar 1) (cCons (cVar 2) (cCons (cVar 3) (cCons (cVar 4) cNil)))))))
      cNilS)
    (cCut (cIte (cAnd (cOp fLt (cVar 5) (cC (.int 5))) (cOp fGt (cBi fLen (cCons (cVar 3) cNil)) (cC (.int 0))))
      (cRet 5 (cCallN 5 (spn_law_wide_total n) (cCons (cVar 0) (cCons (cVar 1) (cCons (cVar 2) (cCons (cVar 3) (cCons (cVar 4) cNil)))))))
      cNilS)
    (cCut (cIte (cOp fEqS (cVar 5) (cC (.int 5)))
      (cSeq (cAsg 5 [0, 1, 2, 3, 4] 6 (cCallN 3 sp_law_more (cCons (cVar 0) (cCons (cVar 2) (cCons (cVar 3) cNil)))))
        (cRet 5 (cTup (cCons (cC (.str (PySem.Str.ofString "only"))) (cCons (cVar 3) (cCons (cCallN 5 (spn_law_wide n) (cCons (cVar 0) (cCons (cVar 1) (cCons (cVar 2) (cCons (cVar 6) (cCons (cOp fSub (cVar 4) (cC (.int 1))) cNil)))))) cNil))))))
      cNilS)
    (cCut (cAsg 5 [0, 1, 2, 3, 4] 7 (cCallN 5 (spn_law_wide n) (cCons (cVar 0) (cCons (cVar 1) (cCons (cVar 2) (cCons (cVar 3) (cCons (cOp fSub (cVar 4) (cC (.int 1))) cNil)))))))
    (cCut (cIte (cAnd (cOp fEqS (cVar 5) (cC (.int 6))) (cOp fEqS (cBi fLen (cCons (cVar 3) cNil)) (cC (.int 2))))
      (cSeq (cAsg 5 [0, 1, 2, 3, 4] 8 (cOp fIx (cLst (cCons (cVar 3) (cCons (cTup (cCons (cOp fIx (cVar 3) (cC (.int 1))) (cCons (cOp fIx (cVar 3) (cC (.int 0))) cNil))) cNil))) (cCallN 2 sp_law_take (cCons (cVar 0) (cCons (cC (.int 2)) cNil)))))
        (cRet 5 (cTup (cCons (cCallN 2 sp_law_pick (cCons (cVar 0) (cCons (cLst (cCons (cC (.str (PySem.Str.ofString "linked"))) (cCons (cC (.str (PySem.Str.ofString "way"))) cNil))) cNil))) (cCons (cOp fIx (cVar 8) (cC (.int 0))) (cCons (cOp fIx (cVar 8) (cC (.int 1))) (cCons (cVar 7) cNil)))))))
      cNilS)
    (cCut (cIte (cOp fEqS (cVar 5) (cC (.int 7)))
      (cSeq (cAsg 5 [0, 1, 2, 3, 4] 9 (cCallN 2 sp_law_pick (cCons (cVar 0) (cCons (cLst (cCons (cC (.str (PySem.Str.ofString "same"))) (cCons (cC (.str (PySem.Str.ofString "other"))) (cCons (cC (.str (PySem.Str.ofString "less"))) cNil)))) cNil))))
        (cSeq (cAsg 5 [0, 1, 2, 3, 4] 10 (cCallN 4 sp_law_wide_term (cCons (cVar 0) (cCons (cVar 1) (cCons (cVar 2) (cCons (cVar 3) cNil))))))
        (cRet 5 (cTup (cCons (cC (.str (PySem.Str.ofString "where"))) (cCons (cVar 9) (cCons (cVar 10) (cCons (cCallN 4 sp_law_wide_term (cCons (cVar 0) (cCons (cVar 1) (cCons (cVar 2) (cCons (cVar 3) cNil))))) (cCons (cVar 7) cNil)))))))))
      cNilS)
    (cCut (cIte (cOp fEqS (cVar 5) (cC (.int 8)))
      (cRet 5 (cTup (cCons (cC (.str (PySem.Str.ofString "shift"))) (cCons (cCallN 2 sp_law_number (cCons (cVar 0) (cCons (cVar 1) cNil))) (cCons (cVar 7) cNil)))))
      cNilS)
    (cCut (cAsg 5 [0, 1, 2, 3, 4] 11 (cC .non))
    (cCut (cIte (cOp fGt (cCallN 2 sp_law_take (cCons (cVar 0) (cCons (cC (.int 3)) cNil))) (cC (.int 0)))
      (cAsg 5 [0, 1, 2, 3, 4] 11 (cCallN 2 sp_law_size_b (cCons (cVar 0) (cCons (cVar 1) cNil))))
      cNilS)
    (cRet 5 (cTup (cCons (cCallN 2 sp_law_pick (cCons (cVar 0) (cCons (cLst (cCons (cC (.str (PySem.Str.ofString "once"))) (cCons (cC (.str (PySem.Str.ofString "lately"))) (cCons (cC (.str (PySem.Str.ofString "soon"))) (cCons (cC (.str (PySem.Str.ofString "henceforth"))) cNil))))) cNil))) (cCons (cVar 11) (cCons (cVar 7) cNil))))))))))))))))
theorem w'_law_wide_eq (n : Nat) : w_law_wide n = w'_law_wide n := by
  unfold w'_law_wide
  simp only [cCut_eq]
  rfl
local macro_rules | `(tactic| walk_at "Ddl") => `(tactic| ((conv => whnf); (repeat ((first | refine And.intro rfl ?_ | refine And.intro trivial ?_ | refine And.intro ⟨rfl, trivial⟩ ?_ | refine And.intro ⟨rfl, rfl, trivial⟩ ?_ | refine ifb_t ?_ | refine ifb_f ?_ | refine ifb_nr ?_ | refine ifb_er ?_ | refine And.intro (by first | decide | omega | (unfold CMul; omega) | (unfold CDiv; omega) | (unfold CPow; decide) | (exact cpow1 (by omega) (by omega)) | (exact cpow1 (by dsimp only; omega) (by dsimp only; omega)) | (simp only [rngD_len, List.length_replicate, List.length_map, List.length_append, List.length_cons, List.length_nil, List.length_set] at *; omega)) ?_); conv => whnf))))
theorem pure_law_wide : ∀ n, ∀ ds, ds.length = 5 → (spn_law_wide (n + 1)).pre ds → w_law_wide n (env0 ds 7) { nx := fun e => (spn_law_wide (n + 1)).post ds .non (outs e 5), rt := fun d e => (spn_law_wide (n + 1)).post ds d (outs e 5) } := by
  rintro n ds _ ⟨ws, cs, d, ⟨ns, ms, rfl, hw, hc⟩, hd1, hd2⟩
  rw [w'_law_wide_eq]
  have hcf := hc.few
  have hwf := hw.few
  have fact : ∀ (ks : List Int), sp_law_wide_fact.pre [.lst (ks.map D.int), .lst (ms.map Sm.d), .rol (ws.map D.str), encC cs] := fun ks => ⟨ws, cs, ks, ms, rfl, hw, hc⟩
  have term : ∀ (ks : List Int), sp_law_wide_term.pre [.lst (ks.map D.int), .lst (ms.map Sm.d), .rol (ws.map D.str), encC cs] := fun ks => .inl ⟨ws, cs, ks, ms, rfl, hw, hc⟩
  walk_at "Ddl"
  refine ifb_dec (fun g0 => ?_) (fun g0 => ?_)
  · walk_at "Ddl"
    refine ⟨fact _, ?_⟩
    intro r ds' hp
    obtain ⟨n1, q, rfl, rfl, h1, h2, h3⟩ := hp _ _ _ _ rfl
    obtain ⟨tq, eq⟩ := encQ_tup q
    rw [eq]
    walk_at "Ddl"
    exact g_post (q := q) eq.symm ⟨⟨h1, h2⟩, by omega⟩
  walk_at "Ddl"
  refine ⟨⟨⟨_, rfl⟩, by decide⟩, ?_⟩
  rintro _ _ ⟨n1, v, rfl, rfl, v0, v1⟩
  walk_at "Ddl"
  refine ifb_dec (fun g1 => ?_) (fun g1 => ?_)
  · walk_at "Ddl"
    refine ⟨fact _, ?_⟩
    intro r ds' hp
    obtain ⟨n1, q, rfl, rfl, h1, h2, h3⟩ := hp _ _ _ _ rfl
    obtain ⟨tq, eq⟩ := encQ_tup q
    rw [eq]
    walk_at "Ddl"
    exact g_post (q := q) eq.symm ⟨⟨h1, h2⟩, by omega⟩
  walk_at "Ddl"
  obtain ⟨n, rfl⟩ : ∃ m, n = m + 1 := ⟨n - 1, by omega⟩
  refine stopE (e := [some (.lst (n1.map D.int)), some (.lst (ms.map Sm.d)), some (.rol (ws.map D.str)), some (encC cs), some (.int d), none, none, none, none, none, none, none]) rfl ?_
  walk_at "Ddl"
  refine ⟨⟨⟨_, rfl⟩, by decide⟩, ?_⟩
  rintro _ _ ⟨n2, kk, rfl, rfl, k0, k1⟩
  walk_at "Ddl"
  refine stopE (e := [some (.lst (n2.map D.int)), some (.lst (ms.map Sm.d)), some (.rol (ws.map D.str)), some (encC cs), some (.int d), some (.int kk), none, none, none, none, none, none]) rfl ?_
  walk_at "Ddl"
  refine ifb_dec (fun g2 => ?_) (fun g2 => ?_)
  · walk_at "Ddl"
    refine ⟨⟨ws, cs, d, ⟨n2, ms, rfl, hw, hc⟩, by omega, by omega⟩, ?_⟩
    intro r ds' hp
    obtain ⟨n3, q, rfl, rfl, h1, h2⟩ := hp _ _ _ _ _ rfl
    obtain ⟨tq, eq⟩ := encQ_tup q
    rw [eq]
    walk_at "Ddl"
    exact g_post (q := q) eq.symm ⟨h1, h2⟩
  walk_at "Ddl"
  refine cutW' (fun e => e = [some (.lst (n2.map D.int)), some (.lst (ms.map Sm.d)), some (.rol (ws.map D.str)), some (encC cs), some (.int d), some (.int kk), none, none, none, none, none, none]) (fun nx hn2 => ?_) ?_
  · walk_at "Ddl"
    refine ifb_dec (fun g3 => ?_) (fun g3 => ?_)
    · walk_at "Ddl"
      rw [List.length_map]
      refine ifb_dec (fun g4 => ?_) (fun g4 => ?_)
      · walk_at "Ddl"
        refine ⟨⟨ws, cs, d, ⟨⟨n2, ms, rfl, hw, hc⟩, by omega⟩, by omega, by omega⟩, ?_⟩
        intro r ds' hp
        obtain ⟨n3, q, rfl, rfl, h1, h2⟩ := hp _ _ _ _ _ rfl
        obtain ⟨tq, eq⟩ := encQ_tup q
        rw [eq]
        walk_at "Ddl"
        exact g_post (q := q) eq.symm ⟨h1, h2⟩
      · walk_at "Ddl"
        exact hn2 _ rfl
    · walk_at "Ddl"
      exact hn2 _ rfl
  rintro _ rfl
  walk_at "Ddl"
  refine ifb_dec (fun g5 => ?_) (fun g5 => ?_)
  · walk_at "Ddl"
    refine ⟨⟨n2, ws, cs, rfl, hw, hc⟩, ?_⟩
    intro r ds' hp
    obtain ⟨n3, es, rfl, rfl, hce, hke⟩ := hp _ _ _ rfl
    walk_at "Ddl"
    refine ⟨⟨ws, es, d - 1, ⟨n3, ms, rfl, hw, hce⟩, by omega, by omega⟩, ?_⟩
    intro r ds' hp
    obtain ⟨n4, q, rfl, rfl, ⟨h1, h2⟩, h3⟩ := hp _ _ _ _ _ rfl
    obtain ⟨tq, eq⟩ := encQ_tup q
    rw [eq]
    walk_at "Ddl"
    exact g_post (q := .only cs q) (by simp only [encQ, eq]) ⟨⟨⟨⟨⟨hc.sc, by rw [h2]; exact hke⟩, hcf⟩, h1⟩, rfl⟩, by show ((dpQ q + 1 : Nat) : Int) ≤ d; omega⟩
  walk_at "Ddl"
  refine stopE (e := [some (.lst (n2.map D.int)), some (.lst (ms.map Sm.d)), some (.rol (ws.map D.str)), some (encC cs), some (.int d), some (.int kk), none, none, none, none, none, none]) rfl ?_
  walk_at "Ddl"
  refine ⟨⟨ws, cs, d - 1, ⟨n2, ms, rfl, hw, hc⟩, by omega, by omega⟩, ?_⟩
  intro r ds' hp
  obtain ⟨n3, p, rfl, rfl, ⟨h1, h2⟩, h3⟩ := hp _ _ _ _ _ rfl
  have hcp : (colsQ p).length ≤ 8 := by rw [h2]; exact hcf
  have hdp : ((dpQ p + 1 : Nat) : Int) ≤ d := by omega
  obtain ⟨tp, ep⟩ := encQ_tup p
  rw [ep]
  walk_at "Ddl"
  refine cutW' (fun e => e = [some (.lst (n3.map D.int)), some (.lst (ms.map Sm.d)), some (.rol (ws.map D.str)), some (encC cs), some (.int d), some (.int kk), none, some (.tup tp), none, none, none, none]) (fun nx hn2 => ?_) ?_
  · walk_at "Ddl"
    refine ifb_dec (fun g6 => ?_) (fun g6 => ?_)
    · walk_at "Ddl"
      rw [List.length_map]
      refine ifb_dec (fun g7 => ?_) (fun g7 => ?_)
      · have g7 : (cs.length : Int) = 2 := g7
        obtain ⟨a, b, hab, hne, hlt⟩ := two_cs hc (by omega)
        have ord : ∀ x y, (x = a ∧ y = b ∨ x = b ∧ y = a) → ordS [x, y] = colsQ p ∧ x ≠ y := fun x y h => by
          rw [h2]
          rcases h with ⟨rfl, rfl⟩ | ⟨rfl, rfl⟩
          · exact ⟨ordS_eq hc.sc (by rw [hab]; intro z; rfl), hne⟩
          · exact ⟨ordS_eq hc.sc (by rw [hab]; intro z; simp only [List.mem_cons, List.not_mem_nil, or_false]; exact or_comm), hne.symm⟩
        have fin : ∀ (k : KL) (x y : Str) (ks : List Int), (x = a ∧ y = b ∨ x = b ∧ y = a) → gpost [.lst (ns.map D.int), .lst (ms.map Sm.d), .rol (ws.map D.str), encC cs, .int d] (.tup [.str k.s, .str x, .str y, .tup tp]) [.lst (ks.map D.int), .lst (ms.map Sm.d), .rol (ws.map D.str), encC cs, .int d] := fun k x y ks h => by
          obtain ⟨o1, o2⟩ := ord x y h
          exact g_post (q := .link k x y p) (by simp only [encQ, ep]) ⟨⟨⟨⟨⟨o2, o1⟩, hcp⟩, h1⟩, h2⟩, hdp⟩
        have i0 : atI (cs.map D.str) 0 = some (.str a) := by rw [hab]; rfl
        have i1 : atI (cs.map D.str) 1 = some (.str b) := by rw [hab]; rfl
        walk_at "Ddl"
        rw [i1]
        walk_at "Ddl"
        rw [i0]
        walk_at "Ddl"
        refine ⟨⟨⟨_, rfl⟩, by decide⟩, ?_⟩
        rintro _ _ ⟨n4, t, rfl, rfl, t0, t1⟩
        walk_at "Ddl"
        have ht : t = 0 ∨ t = 1 := by omega
        rcases ht with rfl | rfl
        · walk_at "Ddl"
          refine ⟨⟨n4, _, _, rfl, rfl, by decide, by decide⟩, ?_⟩
          intro r ds' hp
          obtain ⟨n5, hr, rfl⟩ := hp _ _ _ rfl rfl
          simp only [List.mem_cons, List.not_mem_nil, or_false] at hr
          rcases hr with rfl | rfl
          · walk_at "Ddl"
            rw [i0]
            walk_at "Ddl"
            rw [i1]
            walk_at "Ddl"
            exact fin .linked a b n5 (.inl ⟨rfl, rfl⟩)
          · walk_at "Ddl"
            rw [i0]
            walk_at "Ddl"
            rw [i1]
            walk_at "Ddl"
            exact fin .way a b n5 (.inl ⟨rfl, rfl⟩)
        · walk_at "Ddl"
          refine ⟨⟨n4, _, _, rfl, rfl, by decide, by decide⟩, ?_⟩
          intro r ds' hp
          obtain ⟨n5, hr, rfl⟩ := hp _ _ _ rfl rfl
          simp only [List.mem_cons, List.not_mem_nil, or_false] at hr
          rcases hr with rfl | rfl
          · walk_at "Ddl"
            exact fin .linked b a n5 (.inr ⟨rfl, rfl⟩)
          · walk_at "Ddl"
            exact fin .way b a n5 (.inr ⟨rfl, rfl⟩)
      · walk_at "Ddl"
        exact hn2 _ rfl
    · walk_at "Ddl"
      exact hn2 _ rfl
  rintro _ rfl
  walk_at "Ddl"
  refine ifb_dec (fun g8 => ?_) (fun g8 => ?_)
  · walk_at "Ddl"
    refine ⟨⟨n3, _, _, rfl, rfl, by decide, by decide⟩, ?_⟩
    intro r ds' hp
    obtain ⟨n5, hr, rfl⟩ := hp _ _ _ rfl rfl
    obtain ⟨t, rfl, ht⟩ : ∃ t, r = .str t ∧ t ∈ cmps := by
      simp only [List.mem_cons, List.not_mem_nil, or_false] at hr
      unfold cmps
      rcases hr with rfl | rfl | rfl <;> exact ⟨_, rfl, by simp only [List.mem_cons, true_or, or_true]⟩
    walk_at "Ddl"
    refine ⟨term _, ?_⟩
    intro r ds' hp
    obtain ⟨n6, t1, rfl, rfl, f1⟩ := hp.1 _ _ _ _ rfl
    obtain ⟨tt1, et1⟩ := encTm_tup t1
    rw [et1]
    walk_at "Ddl"
    refine ⟨term _, ?_⟩
    intro r ds' hp
    obtain ⟨n7, t2, rfl, rfl, f2⟩ := hp.1 _ _ _ _ rfl
    obtain ⟨tt2, et2⟩ := encTm_tup t2
    rw [et2]
    walk_at "Ddl"
    exact g_post (q := .whr t t1 t2 p) (by simp only [encQ, ep, et1, et2]) ⟨⟨⟨⟨⟨ht, by rw [h2]; exact f1, by rw [h2]; exact f2⟩, hcp⟩, h1⟩, h2⟩, hdp⟩
  walk_at "Ddl"
  refine stopE (e := [some (.lst (n3.map D.int)), some (.lst (ms.map Sm.d)), some (.rol (ws.map D.str)), some (encC cs), some (.int d), some (.int kk), none, some (.tup tp), none, none, none, none]) rfl ?_
  walk_at "Ddl"
  refine ifb_dec (fun g9 => ?_) (fun g9 => ?_)
  · walk_at "Ddl"
    refine ⟨⟨n3, ms, rfl⟩, ?_⟩
    intro r ds' hp
    obtain ⟨n4, u, rfl, rfl, hu⟩ := hp _ _ rfl
    walk_at "Ddl"
    exact g_post (q := .shift u p) (by simp only [encQ, ep]) ⟨⟨⟨⟨hu, hcp⟩, h1⟩, h2⟩, hdp⟩
  walk_at "Ddl"
  refine stopE (e := [some (.lst (n3.map D.int)), some (.lst (ms.map Sm.d)), some (.rol (ws.map D.str)), some (encC cs), some (.int d), some (.int kk), none, some (.tup tp), none, none, none, none]) rfl ?_
  walk_at "Ddl"
  refine cutW' (fun e => ∃ (ks : List Int) (w : Option Int), (∀ k, w = some k → (0 ≤ k ∧ k.natAbs < bigZ)) ∧ e = [some (.lst (ks.map D.int)), some (.lst (ms.map Sm.d)), some (.rol (ws.map D.str)), some (encC cs), some (.int d), some (.int kk), none, some (.tup tp), none, none, none, some (encO w)]) (fun nx hn2 => ?_) ?_
  · walk_at "Ddl"
    refine ⟨⟨⟨_, rfl⟩, by decide⟩, ?_⟩
    rintro _ _ ⟨n4, t, rfl, rfl, _, _⟩
    walk_at "Ddl"
    refine ifb_dec (fun ga => ?_) (fun ga => ?_)
    · walk_at "Ddl"
      refine ⟨⟨⟨_, rfl⟩, _, rfl⟩, ?_⟩
      rintro _ _ ⟨n5, u, rfl, rfl, hu⟩
      walk_at "Ddl"
      exact hn2 _ ⟨n5, some u, fun k e => by cases e; exact hu, rfl⟩
    · walk_at "Ddl"
      exact hn2 _ ⟨n4, none, (fun k e => by cases e), rfl⟩
  rintro _ ⟨n6, w, hwt, rfl⟩
  have fin : ∀ (k : K4) (ks : List Int), gpost [.lst (ns.map D.int), .lst (ms.map Sm.d), .rol (ws.map D.str), encC cs, .int d] (.tup [.str k.s, encO w, .tup tp]) [.lst (ks.map D.int), .lst (ms.map Sm.d), .rol (ws.map D.str), encC cs, .int d] := fun k ks =>
    g_post (q := .look k w p) (by simp only [encQ, ep]) ⟨⟨⟨⟨hwt, hcp⟩, h1⟩, h2⟩, hdp⟩
  walk_at "Ddl"
  refine ⟨⟨n6, _, _, rfl, rfl, by decide, by decide⟩, ?_⟩
  intro r ds' hp
  obtain ⟨n5, hr, rfl⟩ := hp _ _ _ rfl rfl
  simp only [List.mem_cons, List.not_mem_nil, or_false] at hr
  rcases hr with rfl | rfl | rfl | rfl
  · cases w <;> (walk_at "Ddl") <;> exact fin .once n5
  · cases w <;> (walk_at "Ddl") <;> exact fin .lately n5
  · cases w <;> (walk_at "Ddl") <;> exact fin .soon n5
  · cases w <;> (walk_at "Ddl") <;> exact fin .hence n5
end DL

set_option maxHeartbeats 600000
namespace DL
--REN _law_size=law_size_b
open PySem PySem.Spec PyProof.Rows L2
theorem nodup_sub {ws es : List Str} (h : WsOk ws) (s : es.Sublist ws) : es.Nodup := List.Pairwise.sublist s h.nd
def sp_law_wide_columns : FSpec where
  pre := fun ds => ∃ (ns : List Int) (ws : List Str), ds = [.lst (ns.map D.int), .rol (ws.map D.str)] ∧ WsOk ws
  post := fun ds r ds' => ∀ (l : D) (ws : List Str), ds = [l, .rol (ws.map D.str)] → ∃ (ns : List Int) (cs : List Str), r = encC cs ∧ ds' = [.lst (ns.map D.int), .rol (ws.map D.str)] ∧ CsOk cs
/-- slots: 0 draws, 1 words, 2 many -/
def w_law_wide_columns : WS :=
    (cSeq (cAsg 2 [0, 1] 2 (cCallN 2 sp_law_take (cCons (cVar 0) (cCons (cC (.int 4)) cNil))))
    (cSeq (cIte (cOp fEqS (cCallN 2 sp_law_take (cCons (cVar 0) (cCons (cC (.int 6)) cNil))) (cC (.int 0)))
      (cAsg 2 [0, 1] 2 (cC (.int 8)))
      cNilS)
    (cRet 2 (cBi fTuple (cCons (cBi fSortS (cCons (cSlH (cVar 1) (cVar 2)) cNil)) cNil)))))
def w'_law_wide_columns : WS :=
    (cCut (cAsg 2 [0, 1] 2 (cCallN 2 sp_law_take (cCons (cVar 0) (cCons (cC (.int 4)) cNil))))
    (cCut (cIte (cOp fEqS (cCallN 2 sp_law_take (cCons (cVar 0) (cCons (cC (.int 6)) cNil))) (cC (.int 0)))
      (cAsg 2 [0, 1] 2 (cC (.int 8)))
      cNilS)
    (cRet 2 (cBi fTuple (cCons (cBi fSortS (cCons (cSlH (cVar 1) (cVar 2)) cNil)) cNil)))))
theorem w'_law_wide_columns_eq : w_law_wide_columns = w'_law_wide_columns := by
  unfold w'_law_wide_columns
  simp only [cCut_eq]
  rfl
local macro_rules | `(tactic| walk_at "Ddl") => `(tactic| ((conv => whnf); (repeat ((first | refine And.intro rfl ?_ | refine And.intro trivial ?_ | refine And.intro ⟨rfl, trivial⟩ ?_ | refine And.intro ⟨rfl, rfl, trivial⟩ ?_ | refine ifb_t ?_ | refine ifb_f ?_ | refine ifb_nr ?_ | refine ifb_er ?_ | refine And.intro (by first | decide | omega | (unfold CMul; omega) | (unfold CDiv; omega) | (unfold CPow; decide) | (exact cpow1 (by omega) (by omega)) | (exact cpow1 (by dsimp only; omega) (by dsimp only; omega)) | (simp only [rngD_len, List.length_replicate, List.length_map, List.length_append, List.length_cons, List.length_nil, List.length_set] at *; omega)) ?_); conv => whnf))))
theorem pure_law_wide_columns : ∀ ds, ds.length = 2 → sp_law_wide_columns.pre ds → w_law_wide_columns (env0 ds 1) { nx := fun e => sp_law_wide_columns.post ds .non (outs e 2), rt := fun d e => sp_law_wide_columns.post ds d (outs e 2) } := by
  rintro ds _ ⟨ns, ws, rfl, hw⟩
  rw [w'_law_wide_columns_eq]
  walk_at "Ddl"
  refine ⟨⟨⟨_, rfl⟩, by decide⟩, ?_⟩
  rintro _ _ ⟨n1, v, rfl, rfl, v0, v1⟩
  walk_at "Ddl"
  refine cutW' (fun e => ∃ (ks : List Int) (m : Int), (0 ≤ m ∧ m ≤ 8) ∧ e = [some (.lst (ks.map D.int)), some (.rol (ws.map D.str)), some (.int m)]) (fun nx hn2 => ?_) ?_
  · walk_at "Ddl"
    refine ⟨⟨⟨_, rfl⟩, by decide⟩, ?_⟩
    rintro _ _ ⟨n2, u, rfl, rfl, _, _⟩
    walk_at "Ddl"
    refine ifb_dec (fun g => ?_) (fun g => ?_)
    · walk_at "Ddl"
      exact hn2 _ ⟨n2, 8, ⟨by decide, by decide⟩, rfl⟩
    · walk_at "Ddl"
      exact hn2 _ ⟨n2, v, ⟨v0, by omega⟩, rfl⟩
  rintro _ ⟨n3, m, ⟨m0, m1⟩, rfl⟩
  walk_at "Ddl"
  rw [cutM_hi D.str ws m0]
  have hs : (ws.take m.toNat).Sublist ws := List.take_sublist _ _
  have hl : (ws.take m.toNat).length ≤ 8 := by rw [List.length_take]; omega
  have hn := nodup_sub hw hs
  have hi : ∀ w ∈ ws.take m.toNat, isW w = true := fun w h => hw.isw w (hs.subset h)
  generalize ws.take m.toNat = es at *
  walk_at "Ddl"
  rw [strsD_map]
  refine ⟨by omega, fun ys hp hs2 => ?_⟩
  walk_at "Ddl"
  intro l ws' e
  simp only [List.cons.injEq, and_true, D.lst.injEq, D.rol.injEq] at e
  cases mapS_inj e.2
  exact ⟨n3, ys, rfl, rfl, SC_perm hs2 hp hn, by rw [hp.length_eq]; exact hl, fun w h => hi w (hp.mem_iff.mp h)⟩
def spn_law_depth : Nat → FSpec
  | 0 => ⟨fun _ => False, fun _ _ _ => False⟩
  | n + 1 => ⟨fun ds => ∃ q : Qn, ds = [encQ q] ∧ dpQ q ≤ n + 1, fun ds r ds' => ds' = ds ∧ ∀ q : Qn, ds = [encQ q] → r = .int (dpQ q : Int)⟩
abbrev sp_law_depth := spn_law_depth 16
def dpI : Qn → Int
  | q => (dpQ q : Int)
theorem dp_max {q : Qn} {m : Int} (h1 : m = 0 ∨ ∃ p ∈ partsQ q, m = (dpQ p : Int)) (h2 : ∀ p ∈ partsQ q, (dpQ p : Int) ≤ m) (h0 : 0 ≤ m) : 1 + m = (dpQ q : Int) := by
  cases q <;> simp only [partsQ, List.mem_cons, List.not_mem_nil, or_false, forall_eq_or_imp, forall_eq, false_and, exists_false, exists_eq_or_imp, exists_eq_left] at h1 h2 <;> simp only [dpQ]
  all_goals omega
/-- slots: 0 question, 1 part -/
def w_law_depth (n : Nat) : WS :=
    (cRet 1 (cOp fAddG (cC (.int 1)) (cBi fMaxL (cCons (cOp fAddG (cLst (cCons (cC (.int 0)) cNil)) (cLc [1] (iE (cCallN 1 sp_law_parts (cCons (cVar 0) cNil))) (gN 1 [] 1) tTrue (cCallN 1 (spn_law_depth n) (cCons (cVar 1) cNil)))) cNil))))
theorem pure_law_depth : ∀ n, ∀ ds, ds.length = 1 → (spn_law_depth (n + 1)).pre ds → w_law_depth n (env0 ds 1) { nx := fun e => (spn_law_depth (n + 1)).post ds .non (outs e 1), rt := fun d e => (spn_law_depth (n + 1)).post ds d (outs e 1) } := by
  rintro n ds _ ⟨q, rfl, hd⟩
  have lp : sp_law_parts.pre [encQ q] := ⟨q, rfl⟩
  have fin : ∀ m : Int, m = (dpQ q : Int) → ∀ q' : Qn, [encQ q] = [encQ q'] → D.int m = .int (dpQ q' : Int) := fun m h q' e => by
    simp only [List.cons.injEq, and_true] at e
    rw [h, encQ_inj e]
  have lpp : ∀ r ds', sp_law_parts.post [encQ q] r ds' → ds' = [encQ q] ∧ r = .lst ((partsQ q).map encQ) := fun r ds' h => ⟨h.1, h.2 q rfl⟩
  have plen : (partsQ q).length ≤ 2 := by cases q <;> simp [partsQ]
  obtain ⟨tq, eq⟩ := encQ_tup q
  rw [eq] at lp fin lpp ⊢
  walk_at "Ddl"
  try refine ⟨lp, ?_⟩
  intro r ds' hp
  obtain ⟨rfl, rfl⟩ := lpp _ _ hp
  walk_at "Ddl"
  refine loop_lc (fun xs acc e => ∃ (p r : List Qn), (partsQ q = p ++ r ∧ xs = r.map encQ ∧ acc = (p.map dpI).map D.int) ∧ e = [some (.tup tq), none]) ⟨[], partsQ q, ⟨rfl, rfl, rfl⟩, rfl⟩ ?_ ?_
  · rintro x r acc env nxt ⟨p, qs, ⟨h1, h2, rfl⟩, rfl⟩ hx
    cases qs with
    | nil => simp at h2
    | cons c qs =>
      simp only [List.map_cons, List.cons.injEq] at h2
      obtain ⟨rfl, rfl⟩ := h2
      have hc := dpQ_part (q := q) (p := c) (by rw [h1]; simp)
      obtain ⟨n, rfl⟩ : ∃ m, n = m + 1 := ⟨n - 1, by have := dpQ_pos c; omega⟩
      obtain ⟨tc, ec⟩ := encQ_tup c
      rw [ec]
      walk_at "Ddl"
      refine ⟨⟨c, by rw [ec], by omega⟩, ?_⟩
      rintro _ _ ⟨rfl, hp⟩
      obtain rfl := hp c (by rw [ec])
      walk_at "Ddl"
      exact hx _ _ ⟨p ++ [c], qs, ⟨by rw [h1]; simp, rfl, by rw [List.map_append, List.map_append]; rfl⟩, rfl⟩
  rintro acc env ⟨p, qs, ⟨h1, h2, rfl⟩, rfl⟩
  have hq : qs = [] := by
    cases qs with
    | nil => rfl
    | cons _ _ => simp at h2
  subst hq
  rw [List.append_nil] at h1
  rw [← h1]
  walk_at "Ddl"
  have e0 : [D.int 0] ++ ((partsQ q).map dpI).map D.int = ((0 : Int) :: (partsQ q).map dpI).map D.int := rfl
  rw [e0]
  walk_at "Ddl"
  rw [intsD_map]
  refine ⟨by simp, fun m hm hle => ?_⟩
  walk_at "Ddl"
  refine fin _ (dp_max ?_ (fun x hx => hle _ (List.mem_cons_of_mem _ (List.mem_map.mpr ⟨x, hx, rfl⟩))) (hle 0 (by simp)))
  rcases List.mem_cons.mp hm with rfl | hm
  · exact .inl rfl
  · obtain ⟨x, hx, rfl⟩ := List.mem_map.mp hm
    exact .inr ⟨x, hx, rfl⟩
theorem okQ_cols {q : Qn} (h : okQ q) : (colsQ q).length ≤ 8 := by
  cases q
  case fact => exact h.2
  all_goals exact h.1.2
theorem un_ok {q : Qn} (h : okQ q) : (∀ n, n.natAbs < bigZ → okQ (.shift n q)) ∧ okQ (.look .soon none q) ∧ okQ (.two .unless q (.fact (PySem.Str.ofString "a") [])) := by
  have hc := okQ_cols h
  have ha : isW (PySem.Str.ofString "a") = true := by decide
  refine ⟨fun n hn => ⟨⟨hn, hc⟩, h⟩, ⟨⟨fun k e => (by cases e), hc⟩, h⟩, ⟨⟨fun x hx => (by cases hx), hc⟩, h, ⟨⟨ha, by simp, fun t ht => (by cases ht)⟩, by simp [colsQ, ordS]⟩⟩⟩
def sp_law_wrapped : FSpec where
  pre := fun ds => ∃ (ns : List Int) (ms : List Sm) (q : Qn) (d : Int), ds = [.lst (ns.map D.int), .lst (ms.map Sm.d), encQ q, .int d] ∧ okQ q ∧ dpQ q ≤ 12 ∧ d ≤ 12
  post := fun ds r ds' => ∀ (l s : D) (q : Qn) (d : Int), ds = [l, s, encQ q, .int d] → ∃ (ns : List Int) (q' : Qn), r = encQ q' ∧ ds' = [.lst (ns.map D.int), s, encQ q', .int d] ∧ okQ q' ∧ dpQ q' ≤ 12
/-- slots: 0 draws, 1 script, 2 question, 3 depth, 4 k, 5 kind -/
def w_law_wrapped : WS :=
    (cSeq (cFor [0, 1, 2, 3] (iR1 (cC (.int 14))) (gN 4 [0, 1, 2, 3] 4)
      (cSeq (cIte (cOp fGe (cCallN 1 sp_law_depth (cCons (cVar 2) cNil)) (cVar 3))
          cBrk
          cNilS)
        (cSeq (cAsg 4 [0, 1, 2, 3] 5 (cCallN 2 sp_law_take (cCons (cVar 0) (cCons (cC (.int 3)) cNil))))
        (cIte (cOp fEqS (cVar 5) (cC (.int 0)))
          (cAsg 4 [0, 1, 2, 3] 2 (cTup (cCons (cC (.str (PySem.Str.ofString "shift"))) (cCons (cCallN 2 sp_law_number (cCons (cVar 0) (cCons (cVar 1) cNil))) (cCons (cVar 2) cNil)))))
          (cIte (cOp fEqS (cVar 5) (cC (.int 1)))
              (cAsg 4 [0, 1, 2, 3] 2 (cTup (cCons (cC (.str (PySem.Str.ofString "soon"))) (cCons (cC .non) (cCons (cVar 2) cNil)))))
              (cAsg 4 [0, 1, 2, 3] 2 (cTup (cCons (cC (.str (PySem.Str.ofString "unless"))) (cCons (cVar 2) (cCons (cTup (cCons (cC (.str (PySem.Str.ofString "fact"))) (cCons (cC (.str (PySem.Str.ofString "a"))) (cCons (cTup cNil) cNil)))) cNil))))))))))
    (cRet 4 (cVar 2)))
theorem pure_law_wrapped : ∀ ds, ds.length = 4 → sp_law_wrapped.pre ds → w_law_wrapped (env0 ds 2) { nx := fun e => sp_law_wrapped.post ds .non (outs e 4), rt := fun d e => sp_law_wrapped.post ds d (outs e 4) } := by
  rintro ds _ ⟨ns, ms, q, d, rfl, hq, hd, h12⟩
  obtain ⟨tq0, eq0⟩ := encQ_tup q
  have fin : ∀ (ks : List Int) (q' : Qn), okQ q' → dpQ q' ≤ 12 → ∀ (l' s' : D) (q2 : Qn) (d' : Int), [.lst (ns.map D.int), .lst (ms.map Sm.d), encQ q, .int d] = [l', s', encQ q2, .int d'] → ∃ (ns' : List Int) (q3 : Qn), encQ q' = encQ q3 ∧ [D.lst (ks.map D.int), .lst (ms.map Sm.d), encQ q', .int d] = [.lst (ns'.map D.int), s', encQ q3, .int d'] ∧ okQ q3 ∧ dpQ q3 ≤ 12 := fun ks q' h1 h2 l' s' q2 d' e => by
    simp only [List.cons.injEq, and_true, D.int.injEq] at e
    obtain ⟨_, rfl, _, rfl⟩ := e
    exact ⟨ks, q', rfl, rfl, h1, h2⟩
  rw [eq0] at fin ⊢
  walk_at "Ddl"
  refine loop_rng (fun _ e => ∃ (ks : List Int) (q' : Qn) (t : List D) (o4 o5 : Option D), (encQ q' = .tup t ∧ okQ q' ∧ dpQ q' ≤ 12) ∧ e = [some (.lst (ks.map D.int)), some (.lst (ms.map Sm.d)), some (.tup t), some (.int d), o4, o5]) ⟨ns, q, tq0, none, none, ⟨eq0, hq, hd⟩, rfl⟩ ?_ ?_
  · rintro j env nxt hj0 hj1 ⟨ks, q', t, o4, o5, ⟨et, hq', hd'⟩, rfl⟩ hx
    walk_at "Ddl"
    refine ⟨⟨q', by rw [et], Nat.le_trans hd' (by decide)⟩, ?_⟩
    rintro _ _ ⟨rfl, hp⟩
    obtain rfl := hp q' (by rw [et])
    walk_at "Ddl"
    refine ifb_dec (fun g => ?_) (fun g => ?_)
    · walk_at "Ddl"
      rw [← et]
      exact fin ks q' hq' hd'
    · have g : ¬ d ≤ (dpQ q' : Int) := g
      obtain ⟨u1, u2, u3⟩ := un_ok hq'
      have dp1 : max (dpQ q') 1 + 1 ≤ 12 := by omega
      walk_at "Ddl"
      refine ⟨⟨⟨_, rfl⟩, by decide⟩, ?_⟩
      rintro _ _ ⟨n1, v, rfl, rfl, v0, v1⟩
      walk_at "Ddl"
      refine ifb_dec (fun g2 => ?_) (fun g2 => ?_)
      · walk_at "Ddl"
        refine ⟨⟨n1, ms, rfl⟩, ?_⟩
        intro r ds' hp
        obtain ⟨n4, u, rfl, rfl, hu⟩ := hp _ _ rfl
        walk_at "Ddl"
        exact hx _ ⟨n4, .shift u q', _, _, _, ⟨by simp only [encQ, et], u1 u hu, by show dpQ q' + 1 ≤ 12; omega⟩, rfl⟩
      · walk_at "Ddl"
        refine ifb_dec (fun g3 => ?_) (fun g3 => ?_)
        · walk_at "Ddl"
          exact hx _ ⟨n1, .look .soon none q', _, _, _, ⟨by simp only [encQ, encO, et, K4.s], u2, by show dpQ q' + 1 ≤ 12; omega⟩, rfl⟩
        · walk_at "Ddl"
          exact hx _ ⟨n1, .two .unless q' (.fact (PySem.Str.ofString "a") []), _, _, _, ⟨by simp only [encQ, et, K2.s, List.map_nil], u3, dp1⟩, rfl⟩
  rintro env ⟨ks, q', t, o4, o5, ⟨et, hq', hd'⟩, rfl⟩
  walk_at "Ddl"
  rw [← et]
  exact fin ks q' hq' hd'
def sp_law_some_question : FSpec where
  pre := fun ds => ∃ (ns : List Int) (ms : List Sm) (ws : List Str) (d : Int), ds = [.lst (ns.map D.int), .lst (ms.map Sm.d), .rol (ws.map D.str), .int d] ∧ WsOk ws ∧ 1 ≤ d ∧ d ≤ 12
  post := fun ds r ds' => ∀ (l s : D) (ws : List Str) (d : Int), ds = [l, s, .rol (ws.map D.str), .int d] → ∃ (ns : List Int) (q : Qn), r = encQ q ∧ ds' = [.lst (ns.map D.int), s, .rol (ws.map D.str), .int d] ∧ okQ q ∧ dpQ q ≤ 12
/-- slots: 0 draws, 1 script, 2 words, 3 depth, 4 question -/
def w_law_some_question : WS :=
    (cSeq (cAsg 4 [0, 1, 2, 3] 4 (cCallN 5 sp_law_wide (cCons (cVar 0) (cCons (cVar 1) (cCons (cVar 2) (cCons (cCallN 2 sp_law_wide_columns (cCons (cVar 0) (cCons (cVar 2) cNil))) (cCons (cOp fAddG (cC (.int 1)) (cCallN 2 sp_law_take (cCons (cVar 0) (cCons (cVar 3) cNil)))) cNil)))))))
    (cSeq (cIte (cOp fEqS (cCallN 2 sp_law_take (cCons (cVar 0) (cCons (cC (.int 3)) cNil))) (cC (.int 0)))
      (cAsg 4 [0, 1, 2, 3] 4 (cCallN 4 sp_law_wrapped (cCons (cVar 0) (cCons (cVar 1) (cCons (cVar 4) (cCons (cOp fSub (cVar 3) (cCallN 2 sp_law_take (cCons (cVar 0) (cCons (cC (.int 2)) cNil)))) cNil))))))
      cNilS)
    (cRet 4 (cVar 4))))
def w'_law_some_question : WS :=
    (cCut (cAsg 4 [0, 1, 2, 3] 4 (cCallN 5 sp_law_wide (cCons (cVar 0) (cCons (cVar 1) (cCons (cVar 2) (cCons (cCallN 2 sp_law_wide_columns (cCons (cVar 0) (cCons (cVar 2) cNil))) (cCons (cOp fAddG (cC (.int 1)) (cCallN 2 sp_law_take (cCons (cVar 0) (cCons (cVar 3) cNil)))) cNil)))))))
    (cSeq (cIte (cOp fEqS (cCallN 2 sp_law_take (cCons (cVar 0) (cCons (cC (.int 3)) cNil))) (cC (.int 0)))
      (cAsg 4 [0, 1, 2, 3] 4 (cCallN 4 sp_law_wrapped (cCons (cVar 0) (cCons (cVar 1) (cCons (cVar 4) (cCons (cOp fSub (cVar 3) (cCallN 2 sp_law_take (cCons (cVar 0) (cCons (cC (.int 2)) cNil)))) cNil))))))
      cNilS)
    (cRet 4 (cVar 4))))
theorem w'_law_some_question_eq : w_law_some_question = w'_law_some_question := by
  unfold w'_law_some_question
  simp only [cCut_eq]
  rfl
theorem pure_law_some_question : ∀ ds, ds.length = 4 → sp_law_some_question.pre ds → w_law_some_question (env0 ds 1) { nx := fun e => sp_law_some_question.post ds .non (outs e 4), rt := fun d e => sp_law_some_question.post ds d (outs e 4) } := by
  rintro ds _ ⟨ns, ms, ws, d, rfl, hw, hd1, hd2⟩
  rw [w'_law_some_question_eq]
  have fin : ∀ (ks : List Int) (q : Qn), okQ q → dpQ q ≤ 12 → ∀ (l' s' : D) (ws' : List Str) (d' : Int), [.lst (ns.map D.int), .lst (ms.map Sm.d), .rol (ws.map D.str), .int d] = [l', s', .rol (ws'.map D.str), .int d'] → ∃ (ns' : List Int) (q3 : Qn), encQ q = encQ q3 ∧ [D.lst (ks.map D.int), .lst (ms.map Sm.d), .rol (ws.map D.str), .int d] = [.lst (ns'.map D.int), s', .rol (ws'.map D.str), .int d'] ∧ okQ q3 ∧ dpQ q3 ≤ 12 := fun ks q h1 h2 l' s' ws' d' e => by
    simp only [List.cons.injEq, and_true, D.int.injEq, D.lst.injEq, D.rol.injEq] at e
    obtain ⟨_, rfl, e, rfl⟩ := e
    cases mapS_inj e
    exact ⟨ks, q, rfl, rfl, h1, h2⟩
  walk_at "Ddl"
  refine ⟨⟨ns, ws, rfl, hw⟩, ?_⟩
  intro r ds' hp
  obtain ⟨n1, cs, rfl, rfl, hc⟩ := hp _ _ rfl
  walk_at "Ddl"
  refine ⟨⟨⟨_, rfl⟩, by omega⟩, ?_⟩
  rintro _ _ ⟨n2, v, rfl, rfl, v0, v1⟩
  walk_at "Ddl"
  refine ⟨⟨ws, cs, 1 + v, ⟨n2, ms, rfl, hw, hc⟩, by omega, by have h31 : ((31 : Nat) : Int) = 31 := rfl; rw [h31]; omega⟩, ?_⟩
  intro r ds' hp
  obtain ⟨n3, q, rfl, rfl, ⟨h1, h2⟩, h3⟩ := hp _ _ _ _ _ rfl
  obtain ⟨tq, eq⟩ := encQ_tup q
  rw [eq]
  walk_at "Ddl"
  refine stopE (e := [some (.lst (n3.map D.int)), some (.lst (ms.map Sm.d)), some (.rol (ws.map D.str)), some (.int d), some (.tup tq)]) rfl ?_
  walk_at "Ddl"
  refine ⟨⟨⟨_, rfl⟩, by decide⟩, ?_⟩
  rintro _ _ ⟨n4, u, rfl, rfl, _, _⟩
  walk_at "Ddl"
  refine ifb_dec (fun g => ?_) (fun g => ?_)
  · walk_at "Ddl"
    refine ⟨⟨⟨_, rfl⟩, by decide⟩, ?_⟩
    rintro _ _ ⟨n5, u, rfl, rfl, _, _⟩
    walk_at "Ddl"
    refine ⟨⟨n5, ms, q, d - u, by rw [eq], h1, by omega, by omega⟩, ?_⟩
    intro r ds' hp
    obtain ⟨n6, q', rfl, rfl, g1, g2⟩ := hp _ _ q (d - u) (by rw [eq])
    obtain ⟨tq', eq'⟩ := encQ_tup q'
    rw [eq']
    walk_at "Ddl"
    rw [← eq']
    exact fin n6 q' g1 g2
  · walk_at "Ddl"
    rw [← eq]
    exact fin n4 q h1 (by omega)
end DL

set_option maxHeartbeats 400000
namespace DL
open PySem PySem.Spec PyProof.Rows L2
/-! ### texts as data -/
/-! ### columns of valid questions -/
theorem len_sub {a b : List Str} (h : SC a) (s : ∀ x ∈ a, x ∈ b) : a.length ≤ b.length := List.Nodup.length_le_of_subset h.nd fun x hx => s x hx
theorem okQ_part {q p : Qn} (h : okQ q) (m : p ∈ partsQ q) : okQ p := by
  cases q <;> simp only [partsQ, List.mem_cons, List.not_mem_nil, or_false] at m
  · rcases m with rfl | rfl
    · exact h.2.1
    · exact h.2.2
  all_goals (subst m; exact h.2)
theorem colsQ_ok : ∀ (q : Qn), okQ q → SC (colsQ q) ∧ ∀ x ∈ colsQ q, isW x = true
  | .fact n ts, h => ⟨SC.ord _, fun x hx => by
      obtain ⟨t, ht, e⟩ := List.mem_filterMap.mp (mem_ordS.mp hx)
      cases t with
      | col y => cases e; exact h.1.2.2 _ ht
      | val v => cases e⟩
  | .two k p q, h => by
    obtain ⟨a1, a2⟩ := colsQ_ok p h.2.1
    obtain ⟨b1, b2⟩ := colsQ_ok q h.2.2
    cases k
    case both =>
      refine ⟨SC.ord _, fun x hx => ?_⟩
      rcases List.mem_append.mp (mem_ordS.mp hx) with g | g
      · exact a2 x g
      · exact b2 x g
    case either => exact ⟨a1, a2⟩
    case «unless» => exact ⟨a1, a2⟩
    all_goals exact ⟨b1, b2⟩
  | .only cs p, h => ⟨h.1.1.1, fun x hx => (colsQ_ok p h.2).2 x (h.1.1.2 x hx)⟩
  | .whr t l r p, h => colsQ_ok p h.2
  | .shift n p, h => colsQ_ok p h.2
  | .look k w p, h => colsQ_ok p h.2
  | .count new keep p, h => ⟨SC.ord _, fun x hx => by
      rcases List.mem_cons.mp (mem_ordS.mp hx) with rfl | g
      · exact h.1.1.1
      · exact (colsQ_ok p h.2).2 x (h.1.1.2.2.2 x g)⟩
  | .total k new col keep p, h => ⟨SC.ord _, fun x hx => by
      rcases List.mem_cons.mp (mem_ordS.mp hx) with rfl | g
      · exact h.1.1.1
      · exact (colsQ_ok p h.2).2 x (h.1.1.2.2.1.2 x g)⟩
  | .link k x y p, h => colsQ_ok p h.2
/-! ### ordered -/
def TS2 (ds : List D) (ws : List Str) : Prop := ds = [.lst (ws.map D.str)] ∨ ds = [.tup (ws.map D.str)]
theorem TS2.uniq {ds : List D} {a b : List Str} (h : TS2 ds a) (g : TS2 ds b) : a = b := by
  rcases h with rfl | rfl <;> rcases g with g | g <;> simp only [List.cons.injEq, and_true, D.lst.injEq, D.tup.injEq, reduceCtorEq] at g <;> exact mapS_inj g
local macro_rules | `(tactic| walk_at "Ddl") => `(tactic| ((conv => whnf); (repeat ((first | refine And.intro rfl ?_ | refine And.intro trivial ?_ | refine And.intro ⟨rfl, trivial⟩ ?_ | refine And.intro ⟨rfl, rfl, trivial⟩ ?_ | refine ifb_t ?_ | refine ifb_f ?_ | refine ifb_nr ?_ | refine ifb_er ?_ | refine And.intro (by first | decide | omega | (unfold CMul; omega) | (unfold CDiv; omega) | (unfold CPow; decide) | (exact cpow1 (by omega) (by omega)) | (exact cpow1 (by dsimp only; omega) (by dsimp only; omega)) | (simp only [rngD_len, List.length_replicate, List.length_map, List.length_append, List.length_cons, List.length_nil, List.length_set] at *; omega)) ?_); conv => whnf))))
/-! ### words and values -/
end DL

set_option maxHeartbeats 400000
namespace DL
open PySem PySem.Spec PyProof.Rows L2
/-! ### the columns of a node -/
local macro_rules | `(tactic| walk_at "Ddlq") => `(tactic| ((conv => whnf); (repeat ((first | refine And.intro rfl ?_ | refine And.intro trivial ?_ | refine And.intro ⟨rfl, trivial⟩ ?_ | refine And.intro ⟨rfl, rfl, trivial⟩ ?_ | refine ifb_nq (by decide) ?_ | refine ifb_er ?_ | refine ifb_t ?_ | refine ifb_f ?_ | refine ifb_nr ?_ | refine ifb_er ?_ | refine And.intro (by first | decide | omega | (unfold CMul; omega) | (unfold CDiv; omega) | (unfold CPow; decide) | (exact cpow1 (by omega) (by omega)) | (exact cpow1 (by dsimp only; omega) (by dsimp only; omega)) | (simp only [rngD_len, List.length_replicate, List.length_map, List.length_append, List.length_cons, List.length_nil, List.length_set] at *; omega)) ?_); conv => whnf))))
end DL

set_option maxHeartbeats 400000
namespace DL
--REN _law_size=law_size_b
open PySem PySem.Spec PyProof.Rows L2
/-! ### the law's own columns -/
local macro_rules | `(tactic| walk_at "Ddlq") => `(tactic| ((conv => whnf); (repeat ((first | refine And.intro rfl ?_ | refine And.intro trivial ?_ | refine And.intro ⟨rfl, trivial⟩ ?_ | refine And.intro ⟨rfl, rfl, trivial⟩ ?_ | refine ifb_nq (by decide) ?_ | refine ifb_er ?_ | refine ifb_t ?_ | refine ifb_f ?_ | refine ifb_nr ?_ | refine ifb_er ?_ | refine And.intro (by first | decide | omega | (unfold CMul; omega) | (unfold CDiv; omega) | (unfold CPow; decide) | (exact cpow1 (by omega) (by omega)) | (exact cpow1 (by dsimp only; omega) (by dsimp only; omega)) | (simp only [rngD_len, List.length_replicate, List.length_map, List.length_append, List.length_cons, List.length_nil, List.length_set] at *; omega)) ?_); conv => whnf))))
end DL

set_option maxHeartbeats 400000
namespace DL
open PySem PySem.Spec PyProof.Rows L2
/-! ### a node that is right -/
local macro_rules | `(tactic| walk_at "Ddlq") => `(tactic| ((conv => whnf); (repeat ((first | refine And.intro rfl ?_ | refine And.intro trivial ?_ | refine And.intro ⟨rfl, trivial⟩ ?_ | refine And.intro ⟨rfl, rfl, trivial⟩ ?_ | refine ifb_nq (by decide) ?_ | refine ifb_er ?_ | refine ifb_t ?_ | refine ifb_f ?_ | refine ifb_nr ?_ | refine ifb_er ?_ | refine And.intro (by first | decide | omega | (unfold CMul; omega) | (unfold CDiv; omega) | (unfold CPow; decide) | (exact cpow1 (by omega) (by omega)) | (exact cpow1 (by dsimp only; omega) (by dsimp only; omega)) | (simp only [rngD_len, List.length_replicate, List.length_map, List.length_append, List.length_cons, List.length_nil, List.length_set] at *; omega)) ?_); conv => whnf))))
end DL

set_option maxHeartbeats 400000
namespace DL
open PySem PySem.Spec PyProof.Rows L2
local macro_rules | `(tactic| walk_at "Ddlq") => `(tactic| ((conv => whnf); (repeat ((first | refine And.intro rfl ?_ | refine And.intro trivial ?_ | refine And.intro ⟨rfl, trivial⟩ ?_ | refine And.intro ⟨rfl, rfl, trivial⟩ ?_ | refine ifb_nq (by decide) ?_ | refine ifb_er ?_ | refine ifb_t ?_ | refine ifb_f ?_ | refine ifb_nr ?_ | refine ifb_er ?_ | refine And.intro (by first | decide | omega | (unfold CMul; omega) | (unfold CDiv; omega) | (unfold CPow; decide) | (exact cpow1 (by omega) (by omega)) | (exact cpow1 (by dsimp only; omega) (by dsimp only; omega)) | (simp only [rngD_len, List.length_replicate, List.length_map, List.length_append, List.length_cons, List.length_nil, List.length_set] at *; omega)) ?_); conv => whnf))))
local macro_rules | `(tactic| walk_at "Ddl") => `(tactic| ((conv => whnf); (repeat ((first | refine And.intro rfl ?_ | refine And.intro trivial ?_ | refine And.intro ⟨rfl, trivial⟩ ?_ | refine And.intro ⟨rfl, rfl, trivial⟩ ?_ | refine ifb_t ?_ | refine ifb_f ?_ | refine ifb_nr ?_ | refine ifb_er ?_ | refine And.intro (by first | decide | omega | (unfold CMul; omega) | (unfold CDiv; omega) | (unfold CPow; decide) | (exact cpow1 (by omega) (by omega)) | (exact cpow1 (by dsimp only; omega) (by dsimp only; omega)) | (simp only [rngD_len, List.length_replicate, List.length_map, List.length_append, List.length_cons, List.length_nil, List.length_set] at *; omega)) ?_); conv => whnf))))
/-! ### check_node -/
def encPa (p : List Int) : D := .tup (p.map D.int)
/-! ### check_question -/
end DL

set_option maxHeartbeats 400000
namespace DL
--REN _law_size=law_size_b
open PySem PySem.Spec PyProof.Rows L2
/-! ### paths -/
def pathsQ : Qn → List Int → List (List Int)
  | .fact .., p => [p]
  | .two _ a b, p => p :: (pathsQ a (p ++ [0]) ++ pathsQ b (p ++ [1]))
  | .only _ a, p => p :: pathsQ a (p ++ [0])
  | .whr _ _ _ a, p => p :: pathsQ a (p ++ [0])
  | .shift _ a, p => p :: pathsQ a (p ++ [0])
  | .look _ _ a, p => p :: pathsQ a (p ++ [0])
  | .count _ _ a, p => p :: pathsQ a (p ++ [0])
  | .total _ _ _ _ a, p => p :: pathsQ a (p ++ [0])
  | .link _ _ _ a, p => p :: pathsQ a (p ++ [0])
def pj (p : List Int) : Nat → List Qn → List (List Int)
  | _, [] => []
  | k, a :: r => pathsQ a (p ++ [(k : Int)]) ++ pj p (k + 1) r
theorem pathsQ_eq (q : Qn) (p : List Int) : pathsQ q p = p :: pj p 0 (partsQ q) := by
  cases q <;> simp [pathsQ, pj, partsQ]
theorem pj_snoc (p : List Int) (a : Qn) : ∀ (u : List Qn) (k : Nat), pj p k (u ++ [a]) = pj p k u ++ pathsQ a (p ++ [((k + u.length : Nat) : Int)])
  | [], k => by simp [pj]
  | b :: u, k => by
    rw [List.cons_append, pj, pj_snoc p a u (k + 1), pj, List.append_assoc, List.length_cons]
    congr 5
    omega
theorem paths_len : ∀ (q : Qn) (p : List Int), (pathsQ q p).length + 1 ≤ 2 ^ dpQ q
  | .fact .., p => by simp [pathsQ, dpQ]
  | .two _ a b, p => by
    have h1 := paths_len a (p ++ [0])
    have h2 := paths_len b (p ++ [1])
    have h3 : 2 ^ dpQ a ≤ 2 ^ max (dpQ a) (dpQ b) := Nat.pow_le_pow_right (by decide) (by omega)
    have h4 : 2 ^ dpQ b ≤ 2 ^ max (dpQ a) (dpQ b) := Nat.pow_le_pow_right (by decide) (by omega)
    simp only [pathsQ, dpQ, List.length_cons, List.length_append, Nat.pow_succ]
    omega
  | .only _ a, p | .whr _ _ _ a, p | .shift _ a, p | .look _ _ a, p | .count _ _ a, p | .total _ _ _ _ a, p | .link _ _ _ a, p => by
    have h1 := paths_len a (p ++ [0])
    simp only [pathsQ, dpQ, List.length_cons, Nat.pow_succ]
    omega
def goodP : Qn → List Int → Prop
  | _, [] => True
  | q, k :: r => 0 ≤ k ∧ ∃ a, (partsQ q)[k.toNat]? = some a ∧ goodP a r
theorem good_of : ∀ (q : Qn) (p x : List Int), x ∈ pathsQ q p → ∃ s, x = p ++ s ∧ goodP q s
  | .fact .., p, x, h => ⟨[], by simpa [pathsQ] using h, trivial⟩
  | .two k a b, p, x, h => by
    simp only [pathsQ, List.mem_cons, List.mem_append] at h
    rcases h with rfl | h | h
    · exact ⟨[], by simp, trivial⟩
    · obtain ⟨s, rfl, g⟩ := good_of a _ x h
      exact ⟨0 :: s, by simp, by decide, a, rfl, g⟩
    · obtain ⟨s, rfl, g⟩ := good_of b _ x h
      exact ⟨1 :: s, by simp, by decide, b, rfl, g⟩
  | .only _ a, p, x, h | .whr _ _ _ a, p, x, h | .shift _ a, p, x, h | .look _ _ a, p, x, h | .count _ _ a, p, x, h | .total _ _ _ _ a, p, x, h | .link _ _ _ a, p, x, h => by
    simp only [pathsQ, List.mem_cons] at h
    rcases h with rfl | h
    · exact ⟨[], by simp, trivial⟩
    · obtain ⟨s, rfl, g⟩ := good_of a _ x h
      exact ⟨0 :: s, by simp, by decide, a, rfl, g⟩
theorem encPa_inj {a b : List Int} (h : encPa a = encPa b) : a = b := by
  simp only [encPa, D.tup.injEq] at h
  exact (List.map_inj_right fun _ _ h => by simpa using h).mp h
def spn_law_paths : Nat → FSpec
  | 0 => ⟨fun _ => False, fun _ _ _ => False⟩
  | n + 1 => ⟨fun ds => ∃ (q : Qn) (p : List Int), ds = [encQ q, encPa p] ∧ dpQ q ≤ n + 1 ∧ dpQ q ≤ 16 ∧ p.length + n ≤ 1000, fun ds r ds' => ds' = ds ∧ ∀ (q : Qn) (p : List Int), ds = [encQ q, encPa p] → r = .lst ((pathsQ q p).map encPa)⟩
abbrev sp_law_paths := spn_law_paths 16
theorem lpa_post {q : Qn} {p : List Int} {r : D} (h : r = .lst ((pathsQ q p).map encPa)) : ∀ (q' : Qn) (p' : List Int), [encQ q, encPa p] = [encQ q', encPa p'] → r = .lst ((pathsQ q' p').map encPa) := by
  intro q' p' e
  simp only [List.cons.injEq, and_true] at e
  cases encQ_inj e.1
  cases encPa_inj e.2
  exact h
/-- slots: 0 question, 1 path, 2 found, 3 parts, 4 k -/
def w_law_paths (n : Nat) : WS :=
    (cSeq (cAsg 2 [0, 1] 2 (cLst (cCons (cVar 1) cNil)))
    (cSeq (cAsg 2 [0, 1] 3 (cCallN 1 sp_law_parts (cCons (cVar 0) cNil)))
    (cSeq (cFor [0, 1] (iR1 (cBi fLen (cCons (cVar 3) cNil))) (gN 2 [0, 1] 4)
      (cAsg 2 [0, 1] 2 (cOp fAddG (cVar 2) (cCallN 2 (spn_law_paths n) (cCons (cOp fIx (cVar 3) (cVar 4)) (cCons (cOp fAddG (cVar 1) (cTup (cCons (cVar 4) cNil))) cNil))))))
    (cRet 2 (cVar 2)))))
local macro_rules | `(tactic| walk_at "Ddl") => `(tactic| ((conv => whnf); (repeat ((first | refine And.intro rfl ?_ | refine And.intro trivial ?_ | refine And.intro ⟨rfl, trivial⟩ ?_ | refine And.intro ⟨rfl, rfl, trivial⟩ ?_ | refine ifb_t ?_ | refine ifb_f ?_ | refine ifb_nr ?_ | refine ifb_er ?_ | refine And.intro (by first | decide | omega | (unfold CMul; omega) | (unfold CDiv; omega) | (unfold CPow; decide) | (exact cpow1 (by omega) (by omega)) | (exact cpow1 (by dsimp only; omega) (by dsimp only; omega)) | (simp only [rngD_len, List.length_replicate, List.length_map, List.length_append, List.length_cons, List.length_nil, List.length_set] at *; omega)) ?_); conv => whnf))))
theorem pure_law_paths : ∀ n, ∀ ds, ds.length = 2 → (spn_law_paths (n + 1)).pre ds → w_law_paths n (env0 ds 3) { nx := fun e => (spn_law_paths (n + 1)).post ds .non (outs e 2), rt := fun d e => (spn_law_paths (n + 1)).post ds d (outs e 2) } := by
  rintro n ds _ ⟨q, p, rfl, hd, h16, hl⟩
  have post := fun {r : D} h => lpa_post (q := q) (p := p) (r := r) h
  have call : ∀ {a : Qn} (k : Int), a ∈ partsQ q → (spn_law_paths n).pre [encQ a, encPa (p ++ [k])] ∧ ∀ r ds', (spn_law_paths n).post [encQ a, encPa (p ++ [k])] r ds' → ds' = [encQ a, encPa (p ++ [k])] ∧ r = .lst ((pathsQ a (p ++ [k])).map encPa) := fun {a} k ha => by
    have h1 := dpQ_part ha
    have h2 := dpQ_pos a
    cases n with
    | zero => omega
    | succ n => exact ⟨⟨a, p ++ [k], rfl, by omega, by omega, by rw [List.length_append]; simp only [List.length_cons, List.length_nil]; omega⟩, fun r ds' h => ⟨h.1, h.2 a _ rfl⟩⟩
  have hp2 : (partsQ q).length ≤ 2 := by cases q <;> simp [partsQ]
  have hbig : (pathsQ q p).length ≤ 65536 := by
    have h1 := paths_len q p
    have h2 : 2 ^ dpQ q ≤ 2 ^ 16 := Nat.pow_le_pow_right (by decide) h16
    have h3 : 2 ^ 16 = 65536 := by decide
    omega
  rw [pathsQ_eq] at hbig
  obtain ⟨tq, eq⟩ := encQ_tup q
  rw [eq] at post ⊢
  walk_at "Ddl"
  refine ⟨⟨q, by rw [eq]⟩, ?_⟩
  rintro _ _ ⟨rfl, hr⟩
  obtain rfl := hr q (by rw [eq])
  walk_at "Ddl"
  refine loop_rng (fun j e => ∃ (u v : List Qn) (o4 : Option D), (partsQ q = u ++ v ∧ (u.length : Int) = j) ∧ e = [some (.tup tq), some (encPa p), some (.lst ((p :: pj p 0 u).map encPa)), some (.lst ((partsQ q).map encQ)), o4]) ⟨[], partsQ q, none, ⟨rfl, rfl⟩, rfl⟩ ?_ ?_
  · rintro j env nxt hj0 hj1 ⟨u, v, o4, ⟨h1, h2⟩, rfl⟩ hx
    have hlen : ((partsQ q).map encQ).length = (partsQ q).length := List.length_map ..
    cases v with
    | nil =>
      rw [List.append_nil] at h1
      rw [h1] at hlen
      simp only [h1, List.length_map] at hj1
      omega
    | cons a v =>
      obtain ⟨c1, c2⟩ := call (a := a) j (by rw [h1]; simp)
      have e5 : encPa (p ++ [j]) = .tup (p.map D.int ++ [.int j]) := by simp [encPa]
      have eat : atI ((partsQ q).map encQ) j = some (encQ a) := by
        rw [← h2, h1]
        exact atI_nat (by simp)
      have hb2 : (pj p 0 (u ++ [a])).length ≤ (pj p 0 (partsQ q)).length := by
        have : ∀ (u v : List Qn) (k : Nat), (pj p k u).length ≤ (pj p k (u ++ v)).length := by
          intro u
          induction u with
          | nil => intro v k; simp [pj]
          | cons b u ih => intro v k; simp only [List.cons_append, pj, List.length_append]; have := ih v (k + 1); omega
        have q1 := this (u ++ [a]) v 0
        rw [List.append_assoc] at q1
        rw [h1]
        exact q1
      obtain ⟨ta, ea⟩ := encQ_tup a
      rw [ea] at eat c1 c2
      rw [e5] at c1 c2
      rw [pj_snoc, Nat.zero_add, h2, List.length_append] at hb2
      simp only [List.length_cons] at hbig
      walk_at "Ddl"
      rw [eat]
      walk_at "Ddl"
      try refine ⟨c1, ?_⟩
      intro r ds' h
      obtain ⟨rfl, rfl⟩ := c2 r ds' h
      walk_at "Ddl"
      rw [← List.map_append]
      have e6 : p :: pj p 0 u ++ pathsQ a (p ++ [j]) = p :: pj p 0 (u ++ [a]) := by rw [pj_snoc, Nat.zero_add, h2]; rfl
      rw [e6]
      exact hx _ ⟨u ++ [a], v, _, ⟨by rw [h1]; simp, by simp only [List.length_append, List.length_cons, List.length_nil]; omega⟩, rfl⟩
  rintro env ⟨u, v, o4, ⟨h1, h2⟩, rfl⟩
  have hlen : ((partsQ q).map encQ).length = (partsQ q).length := List.length_map ..
  have hv : v = [] := by
    have : (partsQ q).length = u.length + v.length := by rw [h1, List.length_append]
    exact List.eq_nil_of_length_eq_zero (by omega)
  subst hv
  rw [List.append_nil] at h1
  walk_at "Ddl"
  refine post ?_
  rw [pathsQ_eq, h1]
/-! ### the node at a path -/
def sp_law_node : FSpec where
  pre := fun ds => ∃ (q : Qn) (p : List Int), ds = [encQ q, encPa p] ∧ goodP q p
  post := fun ds r ds' => ∀ (q : Qn) (p : List Int), ds = [encQ q, encPa p] → ∃ q' : Qn, r = encQ q' ∧ ds' = [encQ q', encPa p] ∧ (okQ q → okQ q') ∧ p.length + dpQ q' ≤ dpQ q
theorem ln_post {q q' : Qn} {p : List Int} (h1 : okQ q → okQ q') (h2 : p.length + dpQ q' ≤ dpQ q) : ∀ (q2 : Qn) (p2 : List Int), [encQ q, encPa p] = [encQ q2, encPa p2] → ∃ q3 : Qn, encQ q' = encQ q3 ∧ [encQ q', encPa p] = [encQ q3, encPa p2] ∧ (okQ q2 → okQ q3) ∧ p2.length + dpQ q3 ≤ dpQ q2 := by
  intro q2 p2 e
  simp only [List.cons.injEq, and_true] at e
  obtain ⟨e, e2⟩ := e
  cases encQ_inj e
  cases encPa_inj e2
  exact ⟨q', rfl, rfl, h1, h2⟩
/-- slots: 0 question, 1 path, 2 k -/
def w_law_node : WS :=
    (cSeq (cFor [0, 1] (iE (cVar 1)) (gN 2 [0, 1] 2)
      (cAsg 2 [0, 1] 0 (cOp fIx (cCallN 1 sp_law_parts (cCons (cVar 0) cNil)) (cVar 2))))
    (cRet 2 (cVar 0)))
theorem pure_law_node : ∀ ds, ds.length = 2 → sp_law_node.pre ds → w_law_node (env0 ds 1) { nx := fun e => sp_law_node.post ds .non (outs e 2), rt := fun d e => sp_law_node.post ds d (outs e 2) } := by
  rintro ds _ ⟨q, p, rfl, hg⟩
  have post := fun {q' : Qn} h1 h2 => ln_post (q := q) (q' := q') (p := p) h1 h2
  obtain ⟨tq, eq⟩ := encQ_tup q
  rw [eq] at post ⊢
  walk_at "Ddl"
  refine loop_for (fun xs e => ∃ (s : List Int) (q' : Qn) (t : List D) (o2 : Option D), (xs = s.map D.int ∧ goodP q' s ∧ encQ q' = .tup t ∧ (okQ q → okQ q') ∧ p.length + dpQ q' ≤ dpQ q + s.length) ∧ e = [some (.tup t), some (encPa p), o2]) ⟨p, q, tq, none, ⟨rfl, hg, eq, id, by omega⟩, rfl⟩ ?_ ?_
  · rintro x r env nxt ⟨s, q', t, o2, ⟨h1, h2, h3, h4, h5⟩, rfl⟩ hx
    cases s with
    | nil => simp at h1
    | cons k s =>
      simp only [List.map_cons, List.cons.injEq] at h1
      obtain ⟨rfl, rfl⟩ := h1
      obtain ⟨hk, a, ha, hg'⟩ := h2
      have hm := List.mem_of_getElem? ha
      have hdp := dpQ_part hm
      have eat : atI ((partsQ q').map encQ) k = some (encQ a) := by
        have := atI_nat (xs := (partsQ q').map encQ) (j := k.toNat) (v := encQ a) (by rw [List.getElem?_map, ha]; rfl)
        rwa [show ((k.toNat : Nat) : Int) = k by omega] at this
      obtain ⟨ta, ea⟩ := encQ_tup a
      rw [ea] at eat
      walk_at "Ddl"
      refine ⟨⟨q', by rw [h3]⟩, ?_⟩
      rintro _ _ ⟨rfl, hr⟩
      obtain rfl := hr q' (by rw [h3])
      walk_at "Ddl"
      rw [eat]
      walk_at "Ddl"
      exact hx _ ⟨s, a, ta, _, ⟨rfl, hg', ea, fun h => okQ_part (h4 h) hm, by simp only [List.length_cons] at h5; omega⟩, rfl⟩
  rintro env ⟨s, q', t, o2, ⟨h1, h2, h3, h4, h5⟩, rfl⟩
  walk_at "Ddl"
  rw [← h3]
  have hs0 : s = [] := by
    cases s with
    | nil => rfl
    | cons _ _ => simp at h1
  subst hs0
  exact post h4 (by simpa using h5)
end DL

set_option maxHeartbeats 400000
namespace DL
--REN _law_size=law_size_b
open PySem PySem.Spec PyProof.Rows L2
/-! ### the number of nodes -/
def cntQ : Qn → Nat
  | .fact .. => 1
  | .two _ a b => cntQ a + cntQ b + 1
  | .only _ a => cntQ a + 1 | .whr _ _ _ a => cntQ a + 1 | .shift _ a => cntQ a + 1 | .look _ _ a => cntQ a + 1 | .count _ _ a => cntQ a + 1 | .total _ _ _ _ a => cntQ a + 1 | .link _ _ _ a => cntQ a + 1
theorem paths_cnt : ∀ (q : Qn) (p : List Int), (pathsQ q p).length = cntQ q
  | .fact .., p => rfl
  | .two _ a b, p => by simp only [pathsQ, List.length_cons, List.length_append, paths_cnt a, paths_cnt b, cntQ]
  | .only _ a, p | .whr _ _ _ a, p | .shift _ a, p | .look _ _ a, p | .count _ _ a, p | .total _ _ _ _ a, p | .link _ _ _ a, p => by
    simp only [pathsQ, List.length_cons, paths_cnt a, cntQ]
/-! ### questions whose written forms are short -/
def smN : Qn → Prop
  | .fact n ts => isW n = true ∧ ts.length ≤ 11 ∧ ∀ t ∈ ts, okTm t
  | .two .. => True
  | .only cs _ => cs.length ≤ 10 ∧ ∀ x ∈ cs, isW x = true
  | .whr t l r _ => isW t = true ∧ okTm l ∧ okTm r
  | .shift n _ => n.natAbs < bigZ
  | .look _ w _ => ∀ k, w = some k → k.natAbs < bigZ
  | .count n ks _ => isW n = true ∧ ks.length ≤ 10 ∧ ∀ x ∈ ks, isW x = true
  | .total _ n c ks _ => isW n = true ∧ isW c = true ∧ ks.length ≤ 10 ∧ ∀ x ∈ ks, isW x = true
  | .link _ x y _ => isW x = true ∧ isW y = true
def smQ : Qn → Prop
  | .fact n ts => smN (.fact n ts)
  | .two _ a b => smQ a ∧ smQ b
  | .only cs a => smN (.only cs a) ∧ smQ a
  | .whr t l r a => smN (.whr t l r a) ∧ smQ a
  | .shift n a => smN (.shift n a) ∧ smQ a
  | .look k w a => smN (.look k w a) ∧ smQ a
  | .count n ks a => smN (.count n ks a) ∧ smQ a
  | .total k n c ks a => smN (.total k n c ks a) ∧ smQ a
  | .link k x y a => smN (.link k x y a) ∧ smQ a
theorem colsQ_w (q : Qn) (h : okQ q) : ∀ x ∈ colsQ q, isW x = true := (colsQ_ok q h).2
theorem fit_tm {q : Qn} (h : okQ q) {t : Tm} (ht : fitTm (colsQ q) t) : okTm t := by
  cases t with
  | col x => exact colsQ_w q h x ht
  | val v => exact ht
theorem cmps_w {t : Str} (h : t ∈ cmps) : isW t = true := by
  simp only [cmps, List.mem_cons, List.not_mem_nil, or_false] at h
  rcases h with rfl | rfl | rfl <;> decide
theorem okQ_sm : ∀ (q : Qn), okQ q → smQ q
  | .fact n ts, h => ⟨h.1.1, Nat.le_trans h.1.2.1 (by decide), h.1.2.2⟩
  | .two k a b, h => ⟨okQ_sm a h.2.1, okQ_sm b h.2.2⟩
  | .only cs a, h => ⟨⟨Nat.le_trans (len_sub h.1.1.1 h.1.1.2) (Nat.le_trans (okQ_cols h.2) (by decide)), fun x hx => colsQ_w a h.2 x (h.1.1.2 x hx)⟩, okQ_sm a h.2⟩
  | .whr t l r a, h => ⟨⟨cmps_w h.1.1.1, fit_tm h.2 h.1.1.2.1, fit_tm h.2 h.1.1.2.2⟩, okQ_sm a h.2⟩
  | .shift n a, h => ⟨h.1.1, okQ_sm a h.2⟩
  | .look k w a, h => ⟨fun n e => (h.1.1 n e).2, okQ_sm a h.2⟩
  | .link k x y a, h => ⟨⟨colsQ_w a h.2 x (by rw [← h.1.1.2]; exact mem_ordS.mpr (by simp)), colsQ_w a h.2 y (by rw [← h.1.1.2]; exact mem_ordS.mpr (by simp))⟩, okQ_sm a h.2⟩
  | .count n ks a, h => ⟨⟨h.1.1.1, Nat.le_trans (len_sub h.1.1.2.2.1 h.1.1.2.2.2) (Nat.le_trans (okQ_cols h.2) (by decide)), fun x hx => colsQ_w a h.2 x (h.1.1.2.2.2 x hx)⟩, okQ_sm a h.2⟩
  | .total k n c ks a, h => ⟨⟨h.1.1.1, colsQ_w a h.2 c h.1.1.2.2.2, Nat.le_trans (len_sub h.1.1.2.2.1.1 h.1.1.2.2.1.2) (Nat.le_trans (okQ_cols h.2) (by decide)), fun x hx => colsQ_w a h.2 x (h.1.1.2.2.1.2 x hx)⟩, okQ_sm a h.2⟩
theorem smQ_part {q p : Qn} (h : smQ q) (m : p ∈ partsQ q) : smQ p := by
  cases q <;> simp only [partsQ, List.mem_cons, List.not_mem_nil, or_false] at m
  · rcases m with rfl | rfl
    · exact h.1
    · exact h.2
  all_goals (subst m; first | exact h | exact h.2)
/-! ### a node put in at a path -/
def spn_law_swapped : Nat → FSpec
  | 0 => ⟨fun _ => False, fun _ _ _ => False⟩
  | n + 1 => ⟨fun ds => ∃ (q w : Qn) (p : List Int), ds = [encQ q, encPa p, encQ w] ∧ goodP q p ∧ p.length ≤ n, fun ds r ds' => ds' = ds ∧ ∀ (q w : Qn) (p : List Int), ds = [encQ q, encPa p, encQ w] → ∃ q' : Qn, r = encQ q' ∧ dpQ q' ≤ max (dpQ q) (p.length + dpQ w) ∧ (smQ q → smQ w → smQ q')⟩
abbrev sp_law_swapped := spn_law_swapped 16
theorem sw_post {q w q' : Qn} {p : List Int} {r : D} (h : r = encQ q') (h2 : dpQ q' ≤ max (dpQ q) (p.length + dpQ w)) (h3 : smQ q → smQ w → smQ q') : ∀ (q2 w2 : Qn) (p2 : List Int), [encQ q, encPa p, encQ w] = [encQ q2, encPa p2, encQ w2] → ∃ q3 : Qn, r = encQ q3 ∧ dpQ q3 ≤ max (dpQ q2) (p2.length + dpQ w2) ∧ (smQ q2 → smQ w2 → smQ q3) := by
  intro q2 w2 p2 e
  simp only [List.cons.injEq, and_true] at e
  obtain ⟨e1, e2, e3⟩ := e
  cases encQ_inj e1
  cases encPa_inj e2
  cases encQ_inj e3
  exact ⟨q', h, h2, h3⟩
/-- the question with its k-th part changed -/
def setQ (q : Qn) (k : Int) (w : Qn) : Qn := match q with
  | .fact n ts => .fact n ts
  | .two c a b => if k = 0 then .two c w b else .two c a w
  | .only cs _ => .only cs w
  | .whr t l r _ => .whr t l r w
  | .shift n _ => .shift n w
  | .look c o _ => .look c o w
  | .count n ks _ => .count n ks w
  | .total c n x ks _ => .total c n x ks w
  | .link c x y _ => .link c x y w
theorem setQ_dp {q a w : Qn} {k : Int} (hk : 0 ≤ k) (h : (partsQ q)[k.toNat]? = some a) {m : Nat} (hm : dpQ w ≤ m) : dpQ (setQ q k w) ≤ max (dpQ q) (m + 1) := by
  cases q <;> simp only [partsQ] at h
  · simp at h
  · by_cases g : k = 0
    · simp only [setQ, if_pos g, dpQ]; omega
    · simp only [setQ, if_neg g, dpQ]; omega
  all_goals (simp only [setQ, dpQ]; omega)
theorem setQ_sm {q w : Qn} {k : Int} (h : smQ q) (hw : smQ w) : smQ (setQ q k w) := by
  cases q
  case two c a b =>
    by_cases g : k = 0
    · simp only [setQ, if_pos g]; exact ⟨hw, h.2⟩
    · simp only [setQ, if_neg g]; exact ⟨h.1, hw⟩
  all_goals first | exact h | exact hw | exact ⟨h.1, hw⟩
theorem setQ_enc {q a w : Qn} {k : Int} {tq : List D} (hk : 0 ≤ k) (h : (partsQ q)[k.toNat]? = some a) (eq : encQ q = .tup tq) : (partsQ q).length ≤ tq.length ∧ encQ (setQ q k w) = .tup (tq.take (tq.length - (partsQ q).length) ++ ((partsQ q).map encQ).set k.toNat (encQ w)) := by
  rw [encQ_items] at eq
  simp only [D.tup.injEq] at eq
  subst eq
  cases q
  case fact => simp [partsQ] at h
  case two c x y =>
    by_cases g : k = 0
    · subst g
      exact ⟨by simp [partsQ, itemsQ], rfl⟩
    · have h1 : k.toNat = 1 := by
        have := (List.getElem?_eq_some_iff.mp h).1
        simp only [partsQ, List.length_cons, List.length_nil] at this
        omega
      refine ⟨by simp [partsQ, itemsQ], ?_⟩
      rw [h1]
      simp only [setQ, if_neg g]
      rfl
  all_goals
    have h1 : k.toNat = 0 := by
      have := (List.getElem?_eq_some_iff.mp h).1
      simp only [partsQ, List.length_cons, List.length_nil] at this
      omega
    refine ⟨by simp [partsQ, itemsQ], ?_⟩
    rw [h1]
    rfl
theorem cutD_hiQ (xs : List D) {hi : Int} (h : 0 ≤ hi) : cutD xs none (some hi) = xs.take hi.toNat := by
  have := cutM_hi id xs h
  simpa using this
/-- slots: 0 question, 1 path, 2 node, 3 parts -/
def w_law_swapped (n : Nat) : WS :=
    (cSeq (cIte (cOp fEqS (cBi fLen (cCons (cVar 1) cNil)) (cC (.int 0)))
      (cRet 3 (cVar 2))
      cNilS)
    (cSeq (cAsg 3 [0, 1, 2] 3 (cCallN 1 sp_law_parts (cCons (cVar 0) cNil)))
    (cSeq (cSet 3 (cCallN 3 (spn_law_swapped n) (cCons (cOp fIx (cVar 3) (cOp fIx (cVar 1) (cC (.int 0)))) (cCons (cSlL (cVar 1) (cC (.int 1))) (cCons (cVar 2) cNil)))) (cOp fIx (cVar 1) (cC (.int 0))))
    (cRet 3 (cOp fAddG (cSlH (cVar 0) (cOp fSub (cBi fLen (cCons (cVar 0) cNil)) (cBi fLen (cCons (cVar 3) cNil)))) (cBi fTuple (cCons (cVar 3) cNil)))))))
local macro_rules | `(tactic| walk_at "Ddl") => `(tactic| ((conv => whnf); (repeat ((first | refine And.intro rfl ?_ | refine And.intro trivial ?_ | refine And.intro ⟨rfl, trivial⟩ ?_ | refine And.intro ⟨rfl, rfl, trivial⟩ ?_ | refine ifb_t ?_ | refine ifb_f ?_ | refine ifb_nr ?_ | refine ifb_er ?_ | refine And.intro (by first | decide | omega | (unfold CMul; omega) | (unfold CDiv; omega) | (unfold CPow; decide) | (exact cpow1 (by omega) (by omega)) | (exact cpow1 (by dsimp only; omega) (by dsimp only; omega)) | (simp only [rngD_len, List.length_replicate, List.length_map, List.length_append, List.length_cons, List.length_nil, List.length_set] at *; omega)) ?_); conv => whnf))))
theorem pure_law_swapped : ∀ n, ∀ ds, ds.length = 3 → (spn_law_swapped (n + 1)).pre ds → w_law_swapped n (env0 ds 1) { nx := fun e => (spn_law_swapped (n + 1)).post ds .non (outs e 3), rt := fun d e => (spn_law_swapped (n + 1)).post ds d (outs e 3) } := by
  rintro n ds _ ⟨q, w, p, rfl, hg, hl⟩
  have post := fun {q' : Qn} {r : D} h h2 h3 => sw_post (q := q) (w := w) (q' := q') (p := p) (r := r) h h2 h3
  obtain ⟨tq, eq⟩ := encQ_tup q
  obtain ⟨tw, ew⟩ := encQ_tup w
  rw [eq, ew] at post
  rw [eq, ew]
  cases p with
  | nil =>
    walk_at "Ddl"
    exact post ew.symm (by simp only [List.length_nil]; omega) (fun _ h => h)
  | cons k p =>
    obtain ⟨hk, a, ha, hga⟩ := hg
    have call : ∀ d, d = encQ a → (spn_law_swapped n).pre [d, encPa p, .tup tw] ∧ ∀ r ds', (spn_law_swapped n).post [d, encPa p, .tup tw] r ds' → ds' = [d, encPa p, .tup tw] ∧ ∃ q' : Qn, r = encQ q' ∧ dpQ q' ≤ max (dpQ a) (p.length + dpQ w) ∧ (smQ a → smQ w → smQ q') := fun d hd => by
      subst hd
      rw [← ew]
      simp only [List.length_cons] at hl
      cases n with
      | zero => omega
      | succ n => exact ⟨⟨a, w, p, rfl, hga, by omega⟩, fun r ds' h => ⟨h.1, h.2 a w p rfl⟩⟩
    have hct : cutD ((k :: p).map D.int) (some 1) none = p.map D.int := cut_tail _ _
    have eat : atI ((partsQ q).map encQ) k = some (encQ a) := by
      have := atI_nat (xs := (partsQ q).map encQ) (j := k.toNat) (v := encQ a) (by rw [List.getElem?_map, ha]; rfl)
      rwa [show ((k.toNat : Nat) : Int) = k by omega] at this
    have hda := dpQ_part (List.mem_of_getElem? ha)
    have fin : ∀ {q1 : Qn} {r : D}, dpQ q1 ≤ max (dpQ a) (p.length + dpQ w) → (smQ a → smQ w → smQ q1) → r = encQ (setQ q k q1) → _ := fun {q1 r} h1 h3 h2 => post (q' := setQ q k q1) (r := r) h2 (by
      have := setQ_dp (w := q1) hk ha (m := max (dpQ a) (p.length + dpQ w)) h1
      simp only [List.length_cons]
      omega) (fun s1 s2 => setQ_sm s1 (h3 (smQ_part s1 (List.mem_of_getElem? ha)) s2))
    obtain ⟨ta, ea⟩ := encQ_tup a
    obtain ⟨c1, c2⟩ := call (.tup ta) ea.symm
    rw [ea] at eat
    have hix : ixN ((partsQ q).map encQ).length k = some k.toNat := ixN_lt hk (by have := (List.getElem?_eq_some_iff.mp ha).1; rw [List.length_map]; omega)
    obtain ⟨hll, _⟩ := setQ_enc (w := w) hk ha eq
    have sl : (((partsQ q).map encQ).set k.toNat (encQ w)).length = (partsQ q).length := by rw [List.length_set, List.length_map]
    have hp2 : (partsQ q).length ≤ 2 := by cases q <;> simp [partsQ]
    have ht9 : tq.length ≤ 9 := by
      rw [encQ_items] at eq
      simp only [D.tup.injEq] at eq
      rw [← eq]
      cases q <;> simp [itemsQ]
    walk_at "Ddl"
    refine ⟨⟨q, by rw [eq]⟩, ?_⟩
    rintro _ _ ⟨rfl, hr⟩
    obtain rfl := hr q (by rw [eq])
    have ek : atI ((k :: p).map D.int) 0 = some (.int k) := atI_nat (j := 0) rfl
    walk_at "Ddl"
    rw [ek]
    walk_at "Ddl"
    rw [eat]
    walk_at "Ddl"
    rw [hct]
    walk_at "Ddl"
    try refine ⟨c1, ?_⟩
    intro r ds' h
    obtain ⟨rfl, q1, rfl, h1, h3⟩ := c2 r ds' h
    obtain ⟨t1, e1⟩ := encQ_tup q1
    obtain ⟨_, hse⟩ := setQ_enc (w := q1) hk ha eq
    rw [e1] at hse
    rw [e1]
    walk_at "Ddl"
    rw [ek]
    walk_at "Ddl"
    rw [hix]
    walk_at "Ddl"
    have sl1 : (((partsQ q).map encQ).set k.toNat (D.tup t1)).length = (partsQ q).length := by rw [List.length_set, List.length_map]
    have hcut : cutD tq none (some ((tq.length : Int) - ((((partsQ q).map encQ).set k.toNat (D.tup t1)).length : Int))) = tq.take (tq.length - (partsQ q).length) := by
      rw [sl1, cutD_hiQ _ (by omega)]
      congr 1
      omega
    rw [hcut]
    refine ⟨by rw [sl1, List.length_take]; omega, ?_⟩
    walk_at "Ddl"
    exact fin h1 h3 hse.symm
end DL

set_option maxHeartbeats 1000000
namespace DL
open PySem PySem.Spec PyProof.Rows L2
/-! ### written numbers -/
theorem big_log {i : Int} (h : i.natAbs < bigZ) : i.natAbs.log2 < 1920 := by
  by_cases g : i.natAbs = 0
  · rw [g]; decide
  · refine (Nat.log2_lt g).mpr (Nat.lt_of_lt_of_le h ?_)
    exact Nat.le_trans (show bigZ ≤ 2 ^ 210 by unfold bigZ; decide) (Nat.pow_le_pow_right (by decide) (by decide))
theorem repr_dig (n : Nat) : ∀ c ∈ n.repr.toList, c.isDigit = true := fun c hc => by
  rw [Nat.toList_repr] at hc
  exact Nat.isDigit_of_mem_toDigits (by decide) (by decide) hc
theorem repr_len {n : Nat} (h : n < bigZ) : n.repr.toList.length ≤ 61 := by
  rw [Nat.toList_repr]
  exact (Nat.length_toDigits_le_iff (by decide) (by decide)).mpr h
theorem dec_cps (i : Int) : (decS i).cps.toList = (toString i).toList.map Char.toNat := by
  show (PySem.Str.ofString (toString i)).cps.toList = _
  rw [PySem.Str.ofString_eq_toList]
theorem dec_list (i : Int) : (∃ n : Nat, i.natAbs = n ∧ (toString i).toList = n.repr.toList) ∨ ∃ n : Nat, i.natAbs = n ∧ (toString i).toList = '-' :: n.repr.toList := by
  cases i with
  | ofNat n => exact .inl ⟨n, rfl, rfl⟩
  | negSucc n =>
    refine .inr ⟨n + 1, rfl, ?_⟩
    show ("-" ++ (n + 1).repr).toList = _
    rw [String.toList_append]
    rfl
theorem dec_len {i : Int} (h : i.natAbs < bigZ) : (decS i).length ≤ 62 := by
  have e : (decS i).length = (decS i).cps.toList.length := by simp [PySem.Str.length]
  rw [e, dec_cps, List.length_map]
  rcases dec_list i with ⟨n, h1, h2⟩ | ⟨n, h1, h2⟩
  · rw [h2]
    have := repr_len (n := n) (by omega)
    omega
  · rw [h2, List.length_cons]
    have := repr_len (n := n) (by omega)
    omega
theorem dec_ne (i : Int) : decS i ≠ PySem.Str.ofString "," := by
  intro h
  have h2 := congrArg (fun z : Str => z.cps.toList) h
  simp only [dec_cps] at h2
  have e : (PySem.Str.ofString ",").cps.toList = [44] := by decide
  rw [e] at h2
  rcases dec_list i with ⟨n, h1, h3⟩ | ⟨n, h1, h3⟩
  · rw [h3] at h2
    have hd := repr_dig n
    cases hr : n.repr.toList with
    | nil => rw [hr] at h2; simp at h2
    | cons c r =>
      rw [hr] at h2 hd
      simp only [List.map_cons, List.cons.injEq] at h2
      have h4 := hd c (by simp)
      have h5 : c = ',' := by
        apply Char.ext
        have : c.toNat = 44 := h2.1
        exact UInt32.toNat_inj.mp this
      rw [h5] at h4
      exact absurd h4 (by decide)
  · rw [h3] at h2
    simp only [List.map_cons, List.cons.injEq] at h2
    exact absurd h2.1 (by decide)
theorem isW_len {w : Str} (h : isW w = true) : w.length ≤ 100 := by
  unfold isW at h
  simp only [Bool.and_eq_true, decide_eq_true_eq] at h
  have : w.length = w.cps.toList.length := by simp [PySem.Str.length]
  omega
theorem isW_nc {w : Str} (h : isW w = true) : w ≠ PySem.Str.ofString "," := fun e => by
  rw [e] at h
  exact absurd h (by decide)
/-! ### terms -/
def qm : Str := PySem.Str.ofString "\""
def termS : Tm → Str
  | .col x => x
  | .val (.s w) => qm ++ w ++ qm
  | .val (.i n) => decS n
theorem len_app (a b : Str) : (a ++ b).length = a.length + b.length := by
  show (a.cps ++ b.cps).size = _
  rw [Array.size_append]; rfl
theorem termS_len {t : Tm} (h : okTm t) : (termS t).length ≤ 102 := by
  cases t with
  | col x => have := isW_len h; show x.length ≤ 102; omega
  | val v =>
    cases v with
    | i n => have := dec_len h; show (decS n).length ≤ 102; omega
    | s w =>
      have := isW_len h
      show (qm ++ w ++ qm).length ≤ 102
      rw [len_app, len_app]
      have : qm.length = 1 := by decide
      omega
theorem termS_ne {t : Tm} (h : okTm t) : termS t ≠ PySem.Str.ofString "," := by
  cases t with
  | col x => exact isW_nc h
  | val v =>
    cases v with
    | i n => exact dec_ne n
    | s w =>
      intro e
      have h2 := congrArg (fun z : Str => z.length) e
      simp only [termS, len_app] at h2
      have h3 : qm.length = 1 := by decide
      have h4 : (PySem.Str.ofString ",").length = 1 := by decide
      omega
def sp_written_term : FSpec where
  pre := fun ds => ∃ t : Tm, ds = [encTm t] ∧ okTm t
  post := fun ds r ds' => ds' = ds ∧ ∀ t : Tm, ds = [encTm t] → r = .str (termS t)
theorem wtm_post {t : Tm} {r : D} (h : r = .str (termS t)) : ∀ t' : Tm, [encTm t] = [encTm t'] → r = .str (termS t') := by
  intro t' e
  simp only [List.cons.injEq, and_true] at e
  cases encTm_inj e
  exact h
/-- slots: 0 term, 1 form, 2 item -/
def w_written_term : WS :=
    (cSeq (cUnp (cVar 0) (gT 2 (gCons' (gN 1 [0] 1) (gCons' (gN 1 [0] 2) gNil'))))
    (cSeq (cIte (cAnd (cOp fEqS (cVar 1) (cC (.str (PySem.Str.ofString "value")))) (cIsi .str (cVar 2)))
      (cRet 1 (cOp fAddS (cOp fAddS (cC (.str (PySem.Str.ofString "\""))) (cVar 2)) (cC (.str (PySem.Str.ofString "\"")))))
      cNilS)
    (cRet 1 (cBi fStrX (cCons (cVar 2) cNil)))))
local macro_rules | `(tactic| walk_at "Ddlq") => `(tactic| ((conv => whnf); (repeat ((first | refine And.intro rfl ?_ | refine And.intro trivial ?_ | refine And.intro ⟨rfl, trivial⟩ ?_ | refine And.intro ⟨rfl, rfl, trivial⟩ ?_ | refine ifb_nq (by decide) ?_ | refine ifb_er ?_ | refine ifb_t ?_ | refine ifb_f ?_ | refine ifb_nr ?_ | refine ifb_er ?_ | refine And.intro (by first | decide | omega | (unfold CMul; omega) | (unfold CDiv; omega) | (unfold CPow; decide) | (exact cpow1 (by omega) (by omega)) | (exact cpow1 (by dsimp only; omega) (by dsimp only; omega)) | (simp only [rngD_len, List.length_replicate, List.length_map, List.length_append, List.length_cons, List.length_nil, List.length_set] at *; omega)) ?_); conv => whnf))))
theorem pure_written_term : ∀ ds, ds.length = 1 → sp_written_term.pre ds → w_written_term (env0 ds 2) { nx := fun e => sp_written_term.post ds .non (outs e 1), rt := fun d e => sp_written_term.post ds d (outs e 1) } := by
  rintro ds _ ⟨t, rfl, ht⟩
  have post := fun {r : D} h => wtm_post (t := t) (r := r) h
  cases t with
  | col x =>
    walk_at "Ddlq"
    exact post rfl
  | val v =>
    cases v with
    | i n =>
      have hb := big_log ht
      walk_at "Ddlq"
      exact post rfl
    | s w =>
      have hl := isW_len ht
      have h1 : (PySem.Str.ofString "\"").length + w.length ≤ 1000000 := by
        have : (PySem.Str.ofString "\"").length = 1 := by decide
        omega
      have h2 : (PySem.Str.ofString "\"" ++ w).length + (PySem.Str.ofString "\"").length ≤ 1000000 := by
        have : (PySem.Str.ofString "\"").length = 1 := by decide
        rw [len_app]
        omega
      walk_at "Ddlq"
      exact post rfl
def sp_law_term_piece : FSpec := sp_written_term
/-- slots: 0 term -/
def w_law_term_piece : WS :=
    (cSeq (cIte (cOp fEqS (cOp fIx (cVar 0) (cC (.int 0))) (cC (.str (PySem.Str.ofString "col"))))
      (cRet 1 (cOp fIx (cVar 0) (cC (.int 1))))
      cNilS)
    (cSeq (cIte (cIsi .str (cOp fIx (cVar 0) (cC (.int 1))))
      (cRet 1 (cOp fAddS (cOp fAddS (cC (.str (PySem.Str.ofString "\""))) (cOp fIx (cVar 0) (cC (.int 1)))) (cC (.str (PySem.Str.ofString "\"")))))
      cNilS)
    (cRet 1 (cBi fStrX (cCons (cOp fIx (cVar 0) (cC (.int 1))) cNil)))))
theorem pure_law_term_piece : ∀ ds, ds.length = 1 → sp_law_term_piece.pre ds → w_law_term_piece (env0 ds 0) { nx := fun e => sp_law_term_piece.post ds .non (outs e 1), rt := fun d e => sp_law_term_piece.post ds d (outs e 1) } := by
  rintro ds _ ⟨t, rfl, ht⟩
  have post := fun {r : D} h => wtm_post (t := t) (r := r) h
  cases t with
  | col x =>
    walk_at "Ddlq"
    exact post rfl
  | val v =>
    cases v with
    | i n =>
      have hb := big_log ht
      walk_at "Ddlq"
      exact post rfl
    | s w =>
      have hl := isW_len ht
      have h1 : (PySem.Str.ofString "\"").length + w.length ≤ 1000000 := by
        have : (PySem.Str.ofString "\"").length = 1 := by decide
        omega
      have h2 : (PySem.Str.ofString "\"" ++ w).length + (PySem.Str.ofString "\"").length ≤ 1000000 := by
        have : (PySem.Str.ofString "\"").length = 1 := by decide
        rw [len_app]
        omega
      walk_at "Ddlq"
      exact post rfl
end DL

set_option maxHeartbeats 1000000
namespace DL
open PySem PySem.Spec PyProof.Rows L2
/-! ### signs of texts -/
def sg (s : Str) : List Nat := s.cps.toList
def inter (sep : List Nat) : List (List Nat) → List Nat
  | [] => []
  | [x] => x
  | x :: y :: r => x ++ sep ++ inter sep (y :: r)
theorem sg_app (a b : Str) : sg (a ++ b) = sg a ++ sg b := by
  unfold sg
  rw [Str.cps_append, Array.toList_append]
theorem sg_inj {a b : Str} (h : sg a = sg b) : a = b := by
  cases a; cases b
  simpa [sg] using h
theorem sg_join (z : Str) : ∀ ys : List Str, sg (Txt.join z ys) = inter (sg z) (ys.map sg) := by
  intro ys
  have e : Txt.join z ys = Str.join z ys := PySem.StrLaws.glued_eq_join z ys
  rw [e]
  clear e
  induction ys with
  | nil => rfl
  | cons c r ih =>
    cases r with
    | nil => rfl
    | cons d r =>
      show sg (c ++ z ++ Str.join z (d :: r)) = _
      rw [sg_app, sg_app, ih]
      rfl
theorem inter_nil : ∀ xs : List (List Nat), inter [] xs = xs.flatten
  | [] => rfl
  | [x] => by simp [inter]
  | x :: y :: r => by
    show x ++ [] ++ inter [] (y :: r) = _
    rw [inter_nil (y :: r)]
    simp
/-! ### items -/
def keepS (cs : List Str) : Str := PySem.Str.ofString "{" ++ Txt.join (PySem.Str.ofString ", ") cs ++ PySem.Str.ofString "}"
theorem sumL_le {cs : List Str} {m : Nat} : (∀ x ∈ cs, x.length ≤ m) → sumL cs ≤ cs.length * m := by
  induction cs with
  | nil => intro _; simp [sumL]
  | cons c r ih =>
    intro h
    have h1 := ih fun x hx => h x (List.mem_cons_of_mem _ hx)
    have h2 := h c List.mem_cons_self
    simp only [sumL, List.map_cons, List.sum_cons, List.length_cons] at h1 ⊢
    rw [Nat.succ_mul]
    omega
theorem join_bd {cs : List Str} (hl : cs.length ≤ 10) (h : ∀ x ∈ cs, isW x = true) : (cs.map (·.length)).sum + cs.length * (PySem.Str.ofString ", ").length ≤ 1020 := by
  have h1 : sumL cs ≤ cs.length * 100 := sumL_le fun x hx => isW_len (h x hx)
  have h2 : (PySem.Str.ofString ", ").length = 2 := by decide
  unfold sumL at h1
  rw [h2]
  omega
theorem keep_len {cs : List Str} (hl : cs.length ≤ 10) (h : ∀ x ∈ cs, isW x = true) : (keepS cs).length ≤ 1022 := by
  have h1 := join_bd hl h
  have h2 := join_len (PySem.Str.ofString ", ") cs
  have h3 : (PySem.Str.ofString "{").length = 1 := by decide
  have h4 : (PySem.Str.ofString "}").length = 1 := by decide
  unfold sumL at h2
  unfold keepS
  rw [len_app, len_app]
  omega
inductive WIt : Str → D → Str → Prop
  | cols (cs : List Str) : cs.length ≤ 10 → (∀ x ∈ cs, isW x = true) → WIt (PySem.Str.ofString "columns") (encC cs) (keepS cs)
  | term (t : Tm) : okTm t → WIt (PySem.Str.ofString "term") (encTm t) (termS t)
  | none (f : Str) : f ≠ PySem.Str.ofString "columns" → f ≠ PySem.Str.ofString "term" → WIt f .non (PySem.Str.ofString "ever")
  | int (f : Str) (n : Int) : f ≠ PySem.Str.ofString "columns" → f ≠ PySem.Str.ofString "term" → n.natAbs < bigZ → WIt f (.int n) (decS n)
  | str (f w : Str) : f ≠ PySem.Str.ofString "columns" → f ≠ PySem.Str.ofString "term" → WIt f (.str w) w
theorem WIt.uniq {f : Str} {d : D} {s s' : Str} (h : WIt f d s) (h' : WIt f d s') : s = s' := by
  cases h with
  | cols cs h1 h2 =>
    generalize hf : PySem.Str.ofString "columns" = f at h'
    generalize hd : encC cs = d at h'
    cases h' with
    | cols cs' => rw [encC_inj hd]
    | term t => exact absurd hf (by decide)
    | none _ a => exact absurd hf.symm a
    | int _ _ a => exact absurd hf.symm a
    | str _ _ a => exact absurd hf.symm a
  | term t h1 =>
    generalize hf : PySem.Str.ofString "term" = f at h'
    generalize hd : encTm t = d at h'
    cases h' with
    | cols cs' => exact absurd hf (by decide)
    | term t' => rw [encTm_inj hd]
    | none _ _ a => exact absurd hf.symm a
    | int _ _ _ a => exact absurd hf.symm a
    | str _ _ _ a => exact absurd hf.symm a
  | none f a b =>
    generalize hd : D.non = d at h'
    cases h' with
    | cols cs' => cases hd
    | term t' => exact absurd rfl b
    | none => rfl
    | int => cases hd
    | str => cases hd
  | int f n a b =>
    generalize hd : D.int n = d at h'
    cases h' with
    | cols cs' => cases hd
    | term t' => exact absurd rfl b
    | none => cases hd
    | int => cases hd; rfl
    | str => cases hd
  | str f _ a b =>
    generalize hd : D.str s = d at h'
    cases h' with
    | cols cs' => cases hd
    | term t' => exact absurd rfl b
    | none => cases hd
    | int => cases hd
    | str => cases hd; rfl
def sp_written_item : FSpec where
  pre := fun ds => ∃ (f : Str) (it : D) (s : Str), ds = [.str f, it] ∧ WIt f it s
  post := fun ds r ds' => ds' = ds ∧ ∀ (f : Str) (it : D) (s : Str), ds = [.str f, it] → WIt f it s → r = .str s
theorem wit_post {f : Str} {it r : D} {s : Str} (w : WIt f it s) (h : r = .str s) : ∀ (f' : Str) (it' : D) (s' : Str), [.str f, it] = [D.str f', it'] → WIt f' it' s' → r = .str s' := by
  intro f' it' s' e w'
  simp only [List.cons.injEq, and_true, D.str.injEq] at e
  obtain ⟨rfl, rfl⟩ := e
  rw [h, w.uniq w']
/-- slots: 0 form, 1 item -/
def w_written_item : WS :=
    (cSeq (cIte (cOp fEqS (cVar 0) (cC (.str (PySem.Str.ofString "columns"))))
      (cRet 2 (cOp fAddS (cOp fAddS (cC (.str (PySem.Str.ofString "{"))) (cUn (fJoinT (PySem.Str.ofString ", ")) (cVar 1))) (cC (.str (PySem.Str.ofString "}")))))
      cNilS)
    (cSeq (cIte (cOp fEqS (cVar 0) (cC (.str (PySem.Str.ofString "term"))))
      (cRet 2 (cCallN 1 sp_written_term (cCons (cVar 1) cNil)))
      cNilS)
    (cRet 2 (cIf (cUn (fIsN false) (cVar 1)) (cC (.str (PySem.Str.ofString "ever"))) (cBi fStrX (cCons (cVar 1) cNil))))))
local macro_rules | `(tactic| walk_at "Ddlx") => `(tactic| ((conv => whnf); (repeat ((first | ((with_reducible refine And.intro (stOk_nl ?_ ?_) ?_); (focus (with_reducible first | assumption | exact encQ_nl _ | exact encO_nl _ | exact encC_nl _)); (focus exact rfl)) | ((refine pick_nl ?_ ?_); (focus (with_reducible first | assumption | exact encQ_nl _ | exact encO_nl _ | exact encC_nl _))) | ((with_reducible refine And.intro ?_ ?_); (focus (with_reducible first | assumption | exact encQ_nl _ | exact encO_nl _ | exact encC_nl _))) | ((with_reducible refine And.intro (immA_c ?_ ?_) ?_); (focus (first | (with_reducible first | assumption | exact encQ_nl _ | exact encO_nl _ | exact encC_nl _) | exact rfl)); (focus ((repeat ((with_reducible refine immA_c ?_ ?_); (focus (first | (with_reducible first | assumption | exact encQ_nl _ | exact encO_nl _ | exact encC_nl _) | exact rfl)))); exact rfl))) | refine And.intro rfl ?_ | refine And.intro trivial ?_ | refine And.intro ⟨rfl, trivial⟩ ?_ | refine And.intro ⟨rfl, rfl, trivial⟩ ?_ | refine ifb_nq (by first | assumption | decide) ?_ | refine ifb_pq (by assumption) ?_ | refine ifb_er ?_ | refine ifb_t ?_ | refine ifb_f ?_ | refine ifb_nr ?_ | refine ifb_er ?_ | ((with_reducible refine And.intro (?_ : (_ : Nat) ≤ _) ?_); (focus (first | decide | omega | (unfold CMul; omega) | (unfold CDiv; omega) | (unfold CPow; decide) | (exact cpow1 (by omega) (by omega)) | (simp only [rngD_len, List.length_replicate, List.length_map, List.length_append, List.length_cons, List.length_nil, List.length_set] at *; omega)))) | ((with_reducible refine And.intro (?_ : (_ : Int) ≤ _) ?_); (focus (first | decide | omega | (unfold CMul; omega) | (unfold CDiv; omega) | (unfold CPow; decide) | (exact cpow1 (by omega) (by omega)) | (simp only [rngD_len, List.length_replicate, List.length_map, List.length_append, List.length_cons, List.length_nil, List.length_set] at *; omega)))) | ((with_reducible refine And.intro (?_ : (_ : Nat) < _) ?_); (focus (first | decide | omega | (unfold CMul; omega) | (unfold CDiv; omega) | (unfold CPow; decide) | (exact cpow1 (by omega) (by omega)) | (simp only [rngD_len, List.length_replicate, List.length_map, List.length_append, List.length_cons, List.length_nil, List.length_set] at *; omega)))) | ((with_reducible refine And.intro (?_ : (_ : Int) < _) ?_); (focus (first | decide | omega | (unfold CMul; omega) | (unfold CDiv; omega) | (unfold CPow; decide) | (exact cpow1 (by omega) (by omega)) | (simp only [rngD_len, List.length_replicate, List.length_map, List.length_append, List.length_cons, List.length_nil, List.length_set] at *; omega)))) | ((with_reducible refine And.intro (?_ : CMul _ _) ?_); (focus (first | decide | omega | (unfold CMul; omega) | (unfold CDiv; omega) | (unfold CPow; decide) | (exact cpow1 (by omega) (by omega)) | (simp only [rngD_len, List.length_replicate, List.length_map, List.length_append, List.length_cons, List.length_nil, List.length_set] at *; omega)))) | ((with_reducible refine And.intro (?_ : CDiv _ _) ?_); (focus (first | decide | omega | (unfold CMul; omega) | (unfold CDiv; omega) | (unfold CPow; decide) | (exact cpow1 (by omega) (by omega)) | (simp only [rngD_len, List.length_replicate, List.length_map, List.length_append, List.length_cons, List.length_nil, List.length_set] at *; omega)))) | ((with_reducible refine And.intro (?_ : CPow _ _) ?_); (focus (first | decide | omega | (unfold CMul; omega) | (unfold CDiv; omega) | (unfold CPow; decide) | (exact cpow1 (by omega) (by omega)) | (simp only [rngD_len, List.length_replicate, List.length_map, List.length_append, List.length_cons, List.length_nil, List.length_set] at *; omega)))) | ((with_reducible refine And.intro (?_ : (_ : Nat) = _) ?_); (focus (first | decide | omega | (unfold CMul; omega) | (unfold CDiv; omega) | (unfold CPow; decide) | (exact cpow1 (by omega) (by omega)) | (simp only [rngD_len, List.length_replicate, List.length_map, List.length_append, List.length_cons, List.length_nil, List.length_set] at *; omega))))); (conv => whnf); (try dsimp only [List.set_cons_zero, List.set_cons_succ, upA, wipeE, back, List.getElem?_cons_zero, List.getElem?_cons_succ, Option.getD_some]))); (try dsimp only [List.set_cons_zero, List.set_cons_succ, upA, wipeE, back, List.getElem?_cons_zero, List.getElem?_cons_succ, Option.getD_some])))
local macro_rules | `(tactic| walk_at "Ddlq") => `(tactic| ((conv => whnf); (repeat ((first | refine And.intro rfl ?_ | refine And.intro trivial ?_ | refine And.intro ⟨rfl, trivial⟩ ?_ | refine And.intro ⟨rfl, rfl, trivial⟩ ?_ | refine ifb_nq (by decide) ?_ | refine ifb_er ?_ | refine ifb_t ?_ | refine ifb_f ?_ | refine ifb_nr ?_ | refine ifb_er ?_ | refine And.intro (by first | decide | omega | (unfold CMul; omega) | (unfold CDiv; omega) | (unfold CPow; decide) | (exact cpow1 (by omega) (by omega)) | (exact cpow1 (by dsimp only; omega) (by dsimp only; omega)) | (simp only [rngD_len, List.length_replicate, List.length_map, List.length_append, List.length_cons, List.length_nil, List.length_set] at *; omega)) ?_); conv => whnf))))
theorem pure_written_item : ∀ ds, ds.length = 2 → sp_written_item.pre ds → w_written_item (env0 ds 0) { nx := fun e => sp_written_item.post ds .non (outs e 2), rt := fun d e => sp_written_item.post ds d (outs e 2) } := by
  rintro ds _ ⟨f, it, s, rfl, w⟩
  have post := fun {r : D} h => wit_post (r := r) w h
  cases w with
  | cols cs h1 h2 =>
    have hj := join_bd h1 h2
    have hl := join_len (PySem.Str.ofString ", ") cs
    have e1 : (PySem.Str.ofString "{").length = 1 := by decide
    have e2 : (PySem.Str.ofString "}").length = 1 := by decide
    unfold sumL at hl
    have b1 : (PySem.Str.ofString "{").length + (Txt.join (PySem.Str.ofString ", ") cs).length ≤ 1000000 := by omega
    have b2 : (PySem.Str.ofString "{" ++ Txt.join (PySem.Str.ofString ", ") cs).length + (PySem.Str.ofString "}").length ≤ 1000000 := by rw [len_app]; omega
    have b3 : (cs.map (·.length)).sum + cs.length * (PySem.Str.ofString ", ").length ≤ 16777216 := by omega
    unfold encC at post ⊢
    walk_at "Ddlq"
    rw [strsD_map]
    refine ⟨b3, ?_⟩
    walk_at "Ddlq"
    exact post rfl
  | term t ht =>
    have wt : sp_written_term.pre [encTm t] ∧ ∀ r ds', sp_written_term.post [encTm t] r ds' → ds' = [encTm t] ∧ r = .str (termS t) := ⟨⟨t, rfl, ht⟩, fun r ds' h => ⟨h.1, h.2 t rfl⟩⟩
    obtain ⟨tt, et⟩ := encTm_tup t
    rw [et] at post wt ⊢
    walk_at "Ddlq"
    try refine ⟨wt.1, ?_⟩
    intro r ds' h
    obtain ⟨rfl, rfl⟩ := wt.2 r ds' h
    walk_at "Ddlq"
    exact post rfl
  | none f h1 h2 =>
    walk_at "Ddlq"
    refine ifb_nq h1 ?_
    walk_at "Ddlq"
    refine ifb_nq h2 ?_
    walk_at "Ddlq"
    exact post rfl
  | int f n h1 h2 hn =>
    have hb := big_log hn
    walk_at "Ddlq"
    refine ifb_nq h1 ?_
    walk_at "Ddlq"
    refine ifb_nq h2 ?_
    walk_at "Ddlq"
    exact post rfl
  | str f w h1 h2 =>
    walk_at "Ddlq"
    refine ifb_nq h1 ?_
    walk_at "Ddlq"
    refine ifb_nq h2 ?_
    walk_at "Ddlq"
    exact post rfl
/-! ### tokens with commas between -/
def cm : Str := PySem.Str.ofString ","
def listF : List Str → List (List Str) → List Str
  | acc, [] => acc
  | acc, x :: r => listF ((if acc = [] then acc else acc ++ [cm]) ++ x) r
def encLL (L : List (List Str)) : List D := L.map fun l => D.rol (l.map D.str)
def lenLL (L : List (List Str)) : Nat := (L.map fun l => l.length + 1).sum
theorem encLL_inj : ∀ {a b : List (List Str)}, encLL a = encLL b → a = b
  | [], [], _ => rfl
  | [], _ :: _, h => by simp [encLL] at h
  | _ :: _, [], h => by simp [encLL] at h
  | x :: a, y :: b, h => by
    simp only [encLL, List.map_cons, List.cons.injEq, D.rol.injEq] at h
    rw [mapS_inj h.1, encLL_inj (a := a) (b := b) h.2]
def sp_law_listed : FSpec where
  pre := fun ds => ∃ L : List (List Str), ds = [.lst (encLL L)] ∧ lenLL L ≤ 900000
  post := fun ds r ds' => ds' = ds ∧ ∀ L : List (List Str), ds = [.lst (encLL L)] → r = .lst ((listF [] L).map D.str)
theorem li_post {L : List (List Str)} {r : D} (h : r = .lst ((listF [] L).map D.str)) : ∀ L' : List (List Str), [D.lst (encLL L)] = [.lst (encLL L')] → r = .lst ((listF [] L').map D.str) := by
  intro L' e
  simp only [List.cons.injEq, and_true, D.lst.injEq] at e
  cases encLL_inj e
  exact h
/-- slots: 0 items, 1 found, 2 item -/
def w_law_listed : WS :=
    (cSeq (cAsg 1 [0] 1 (cLst cNil))
    (cSeq (cFor [0] (iE (cVar 0)) (gN 1 [0] 2)
      (cSeq (cIte (cOp fGt (cBi fLen (cCons (cVar 1) cNil)) (cC (.int 0)))
          (cEx (cMeth 1 fAppend (cCons (cC (.str (PySem.Str.ofString ","))) cNil)))
          cNilS)
        (cAsg 1 [0] 1 (cOp fAddR (cVar 1) (cVar 2)))))
    (cRet 1 (cVar 1))))
theorem pure_law_listed : ∀ ds, ds.length = 1 → sp_law_listed.pre ds → w_law_listed (env0 ds 2) { nx := fun e => sp_law_listed.post ds .non (outs e 1), rt := fun d e => sp_law_listed.post ds d (outs e 1) } := by
  rintro ds _ ⟨L, rfl, hl⟩
  have post := fun {r : D} h => li_post (L := L) (r := r) h
  walk_at "Ddlx"
  refine loop_for (fun xs e => ∃ (acc : List Str) (q : List (List Str)) (o2 : Option D), (xs = encLL q ∧ acc.length + lenLL q ≤ 900000 ∧ listF acc q = listF [] L) ∧ e = [some (.lst (encLL L)), some (.lst (acc.map D.str)), o2]) ⟨[], L, none, ⟨rfl, by simpa using hl, rfl⟩, rfl⟩ ?_ ?_
  · rintro x r env nx ⟨acc, q, o2, ⟨hq, hb, hf⟩, rfl⟩ hn
    cases q with
    | nil => cases hq
    | cons y q =>
      simp only [encLL, List.map_cons] at hq
      cases hq
      simp only [lenLL, List.map_cons, List.sum_cons] at hb
      simp only [listF] at hf
      cases acc with
      | nil =>
        simp only [if_true, List.nil_append] at hf
        walk_at "Ddlx"
        exact hn _ ⟨y, q, _, ⟨rfl, by simp only [List.length_nil] at hb; unfold lenLL; omega, hf⟩, rfl⟩
      | cons a acc =>
        rw [if_neg (by simp)] at hf
        have lc : (0 : Int) < ((List.map D.str (a :: acc)).length : Int) := by simp
        have l1 : (List.map D.str (a :: acc)).length < 1000000 := by rw [List.length_map]; omega
        have l2 : (List.map D.str (a :: acc) ++ [D.str (PySem.Str.ofString ",")]).length + (List.map D.str y).length ≤ 1000000 := by
          rw [List.length_append, List.length_map, List.length_map]
          simp only [List.length_cons, List.length_nil] at hb ⊢
          omega
        generalize hA : List.map D.str (a :: acc) = A at *
        walk_at "Ddlx"
        refine ifb_dec (fun g => ?_) (fun g => absurd lc g)
        walk_at "Ddlx"
        try refine ⟨l1, ?_⟩
        walk_at "Ddlx"
        try refine ⟨l2, ?_⟩
        walk_at "Ddlx"
        refine hn _ ⟨a :: acc ++ [cm] ++ y, q, some (.rol (y.map D.str)), ⟨rfl, ?_, hf⟩, ?_⟩
        · rw [List.length_append, List.length_append]
          unfold lenLL
          simp only [List.length_cons, List.length_nil] at hb ⊢
          omega
        · rw [List.map_append, List.map_append, hA]
          rfl
  · rintro env ⟨acc, q, o2, ⟨hq, hb, hf⟩, rfl⟩
    have e0 : q = [] := by cases q with
      | nil => rfl
      | cons a b => cases hq
    subst e0
    walk_at "Ddlx"
    refine post ?_
    rw [← hf]
    rfl
end DL

set_option maxHeartbeats 1000000
namespace DL
open PySem PySem.Spec PyProof.Rows L2
/-! ### tokens joined -/
def padS (p : Str) : Str := p ++ repS (PySem.Str.ofString " ") (if decide (p = PySem.Str.ofString ",") = true then 1 else 0)
def pd (p : Str) : List Nat := sg p ++ (if p = cm then [32] else [])
theorem pad_sg (p : Str) : sg (padS p) = pd p := by
  unfold padS pd
  rw [sg_app]
  by_cases h : p = PySem.Str.ofString ","
  · rw [if_pos (decide_eq_true h), if_pos (show p = cm from h)]
    rfl
  · rw [if_neg (by rw [decide_eq_false h]; decide), if_neg (show ¬ p = cm from h)]
    rfl
theorem pad_len (p : Str) : (padS p).length ≤ p.length + 1 := by
  have h := congrArg List.length (pad_sg p)
  have e : ∀ z : Str, (sg z).length = z.length := fun z => by simp [sg, PySem.Str.length]
  unfold pd at h
  rw [List.length_append, e, e] at h
  split at h <;> simp only [List.length_cons, List.length_nil] at h <;> omega
def sp_law_joined_text : FSpec where
  pre := fun ds => ∃ ts : List Str, ds = [.lst (ts.map D.str)] ∧ ts.length ≤ 1000000 ∧ (∀ t ∈ ts, t.length ≤ 2000) ∧ (ts.map pd).flatten.length ≤ 16000000
  post := fun ds r ds' => ds' = ds ∧ ∀ ts : List Str, ds = [.lst (ts.map D.str)] → ∃ z, r = .str z ∧ sg z = (ts.map pd).flatten
theorem jt_post {ts : List Str} {z : Str} {r : D} (h : r = .str z) (e : sg z = (ts.map pd).flatten) : ∀ ts' : List Str, [D.lst (ts.map D.str)] = [.lst (ts'.map D.str)] → ∃ z, r = .str z ∧ sg z = (ts'.map pd).flatten := by
  intro ts' q
  simp only [List.cons.injEq, and_true, D.lst.injEq] at q
  cases mapS_inj q
  exact ⟨z, h, e⟩
theorem pads_sum (ts : List Str) : ((ts.map padS).map (·.length)).sum = (ts.map pd).flatten.length := by
  rw [List.length_flatten, List.map_map, List.map_map]
  congr 1
  refine List.map_congr_left fun p _ => ?_
  show (padS p).length = (pd p).length
  rw [← pad_sg]
  simp [sg, PySem.Str.length]
/-- slots: 0 pieces, 1 piece -/
def w_law_joined_text : WS :=
    (cRet 1 (cUn (fJoin (PySem.Str.ofString "")) (cLc [1] (iE (cVar 0)) (gN 1 [] 1) tTrue (cOp fAddS (cVar 1) (cOp fMulS (cC (.str (PySem.Str.ofString " "))) (cBi fInt (cCons (cOp fEqS (cVar 1) (cC (.str (PySem.Str.ofString ",")))) cNil)))))))
local macro_rules | `(tactic| walk_at "Ddlx") => `(tactic| ((conv => whnf); (repeat ((first | ((with_reducible refine And.intro (stOk_nl ?_ ?_) ?_); (focus (with_reducible first | assumption | exact encQ_nl _ | exact encO_nl _ | exact encC_nl _)); (focus exact rfl)) | ((refine pick_nl ?_ ?_); (focus (with_reducible first | assumption | exact encQ_nl _ | exact encO_nl _ | exact encC_nl _))) | ((with_reducible refine And.intro ?_ ?_); (focus (with_reducible first | assumption | exact encQ_nl _ | exact encO_nl _ | exact encC_nl _))) | ((with_reducible refine And.intro (immA_c ?_ ?_) ?_); (focus (first | (with_reducible first | assumption | exact encQ_nl _ | exact encO_nl _ | exact encC_nl _) | exact rfl)); (focus ((repeat ((with_reducible refine immA_c ?_ ?_); (focus (first | (with_reducible first | assumption | exact encQ_nl _ | exact encO_nl _ | exact encC_nl _) | exact rfl)))); exact rfl))) | refine And.intro rfl ?_ | refine And.intro trivial ?_ | refine And.intro ⟨rfl, trivial⟩ ?_ | refine And.intro ⟨rfl, rfl, trivial⟩ ?_ | refine ifb_nq (by first | assumption | decide) ?_ | refine ifb_pq (by assumption) ?_ | refine ifb_er ?_ | refine ifb_t ?_ | refine ifb_f ?_ | refine ifb_nr ?_ | refine ifb_er ?_ | ((with_reducible refine And.intro (?_ : (_ : Nat) ≤ _) ?_); (focus (first | decide | omega | (unfold CMul; omega) | (unfold CDiv; omega) | (unfold CPow; decide) | (exact cpow1 (by omega) (by omega)) | (simp only [rngD_len, List.length_replicate, List.length_map, List.length_append, List.length_cons, List.length_nil, List.length_set] at *; omega)))) | ((with_reducible refine And.intro (?_ : (_ : Int) ≤ _) ?_); (focus (first | decide | omega | (unfold CMul; omega) | (unfold CDiv; omega) | (unfold CPow; decide) | (exact cpow1 (by omega) (by omega)) | (simp only [rngD_len, List.length_replicate, List.length_map, List.length_append, List.length_cons, List.length_nil, List.length_set] at *; omega)))) | ((with_reducible refine And.intro (?_ : (_ : Nat) < _) ?_); (focus (first | decide | omega | (unfold CMul; omega) | (unfold CDiv; omega) | (unfold CPow; decide) | (exact cpow1 (by omega) (by omega)) | (simp only [rngD_len, List.length_replicate, List.length_map, List.length_append, List.length_cons, List.length_nil, List.length_set] at *; omega)))) | ((with_reducible refine And.intro (?_ : (_ : Int) < _) ?_); (focus (first | decide | omega | (unfold CMul; omega) | (unfold CDiv; omega) | (unfold CPow; decide) | (exact cpow1 (by omega) (by omega)) | (simp only [rngD_len, List.length_replicate, List.length_map, List.length_append, List.length_cons, List.length_nil, List.length_set] at *; omega)))) | ((with_reducible refine And.intro (?_ : CMul _ _) ?_); (focus (first | decide | omega | (unfold CMul; omega) | (unfold CDiv; omega) | (unfold CPow; decide) | (exact cpow1 (by omega) (by omega)) | (simp only [rngD_len, List.length_replicate, List.length_map, List.length_append, List.length_cons, List.length_nil, List.length_set] at *; omega)))) | ((with_reducible refine And.intro (?_ : CDiv _ _) ?_); (focus (first | decide | omega | (unfold CMul; omega) | (unfold CDiv; omega) | (unfold CPow; decide) | (exact cpow1 (by omega) (by omega)) | (simp only [rngD_len, List.length_replicate, List.length_map, List.length_append, List.length_cons, List.length_nil, List.length_set] at *; omega)))) | ((with_reducible refine And.intro (?_ : CPow _ _) ?_); (focus (first | decide | omega | (unfold CMul; omega) | (unfold CDiv; omega) | (unfold CPow; decide) | (exact cpow1 (by omega) (by omega)) | (simp only [rngD_len, List.length_replicate, List.length_map, List.length_append, List.length_cons, List.length_nil, List.length_set] at *; omega)))) | ((with_reducible refine And.intro (?_ : (_ : Nat) = _) ?_); (focus (first | decide | omega | (unfold CMul; omega) | (unfold CDiv; omega) | (unfold CPow; decide) | (exact cpow1 (by omega) (by omega)) | (simp only [rngD_len, List.length_replicate, List.length_map, List.length_append, List.length_cons, List.length_nil, List.length_set] at *; omega))))); (conv => whnf); (try dsimp only [List.set_cons_zero, List.set_cons_succ, upA, wipeE, back, List.getElem?_cons_zero, List.getElem?_cons_succ, Option.getD_some]))); (try dsimp only [List.set_cons_zero, List.set_cons_succ, upA, wipeE, back, List.getElem?_cons_zero, List.getElem?_cons_succ, Option.getD_some])))
theorem pure_law_joined_text : ∀ ds, ds.length = 1 → sp_law_joined_text.pre ds → w_law_joined_text (env0 ds 1) { nx := fun e => sp_law_joined_text.post ds .non (outs e 1), rt := fun d e => sp_law_joined_text.post ds d (outs e 1) } := by
  rintro ds _ ⟨ts, rfl, hl, h2, h3⟩
  have post := fun {r : D} {z : Str} h e => jt_post (ts := ts) (r := r) (z := z) h e
  have hl2 : (ts.map D.str).length ≤ 1000000 := by rw [List.length_map]; exact hl
  walk_at "Ddlx"
  try refine ⟨hl2, ?_⟩
  refine lcGo_map (fun d => match d with | .str p => .str (padS p) | d => d) _ _ ?_ ?_
  · intro d nxt acc hd hn
    obtain ⟨p, hp, rfl⟩ := List.mem_map.mp hd
    have hpl := h2 p hp
    have hsp : (PySem.Str.ofString " ").length ≤ 1000 := by decide
    have b1 : 0 ≤ (if decide (p = PySem.Str.ofString ",") = true then 1 else 0 : Int) := by split <;> decide
    have b2 : (if decide (p = PySem.Str.ofString ",") = true then 1 else 0 : Int) ≤ 1000 := by split <;> decide
    have b3 : p.length + (repS (PySem.Str.ofString " ") (if decide (p = PySem.Str.ofString ",") = true then 1 else 0)).length ≤ 1000000 := by
      have := pad_len p
      unfold padS at this
      rw [len_app] at this
      omega
    dsimp only [padS] at hn
    generalize PySem.Str.ofString " " = sp at *
    walk_at "Ddlx"
    exact hn
  · walk_at "Ddlx"
    have e : (ts.map D.str).map (fun d => match d with | .str p => .str (padS p) | d => d) = (ts.map padS).map D.str := by
      rw [List.map_map, List.map_map]; rfl
    rw [e, strsD_map]
    refine ⟨?_, ?_⟩
    · have h0 : (PySem.Str.ofString "").length = 0 := by decide
      have := pads_sum ts
      rw [h0]
      omega
    · walk_at "Ddlx"
      refine post rfl ?_
      rw [sg_join, show sg (PySem.Str.ofString "") = [] from by decide, inter_nil, List.map_map]
      congr 1
      exact List.map_congr_left fun p _ => pad_sg p
/-! ### a node of the right form that need not be valid -/
def sp_law_odd_node : FSpec where
  pre := fun ds => ∃ (ns : List Int) (ms : List Sm) (ws : List Str) (q : Qn), ds = [.lst (ns.map D.int), .lst (ms.map Sm.d), .rol (ws.map D.str), encQ q] ∧ WsOk ws
  post := fun ds r ds' => ∀ (l s : D) (ws : List Str) (q : Qn), ds = [l, s, .rol (ws.map D.str), encQ q] → ∃ (ns : List Int) (q' : Qn), r = encQ q' ∧ ds' = [.lst (ns.map D.int), s, .rol (ws.map D.str), encQ q] ∧ dpQ q' ≤ dpQ q + 1 ∧ (smQ q → smQ q')
theorem on_post {l0 s0 r : D} {ws : List Str} {q q' : Qn} {ks : List Int} (e : r = encQ q') (h : dpQ q' ≤ dpQ q + 1 ∧ (smQ q → smQ q')) : ∀ (l s : D) (ws' : List Str) (q2 : Qn), [l0, s0, .rol (ws.map D.str), encQ q] = [l, s, .rol (ws'.map D.str), encQ q2] →
    ∃ (ns : List Int) (q' : Qn), r = encQ q' ∧ [D.lst (ks.map D.int), s0, .rol (ws.map D.str), encQ q] = [.lst (ns.map D.int), s, .rol (ws'.map D.str), encQ q2] ∧ dpQ q' ≤ dpQ q2 + 1 ∧ (smQ q2 → smQ q') := by
  intro l s ws' q2 e'
  simp only [List.cons.injEq, and_true, D.rol.injEq] at e'
  obtain ⟨_, rfl, e2, e3⟩ := e'
  cases mapS_inj e2
  cases encQ_inj e3
  exact ⟨ks, q', e, rfl, h⟩
/-- slots: 0 draws, 1 script, 2 words, 3 node, 4 kind, 5 names, 6 one, 7 terms, 8 left, 9 k -/
def w_law_odd_node : WS :=
    (cSeq (cAsg 4 [0, 1, 2, 3] 4 (cCallN 2 sp_law_take (cCons (cVar 0) (cCons (cC (.int 6)) cNil))))
    (cSeq (cAsg 4 [0, 1, 2, 3] 5 (cBi fTuple (cCons (cLc [9] (iR1 (cCallN 2 sp_law_take (cCons (cVar 0) (cCons (cC (.int 10)) cNil)))) (gN 4 [] 9) tTrue (cCallN 2 sp_law_pick (cCons (cVar 0) (cCons (cVar 2) cNil)))) cNil)))
    (cSeq (cAsg 4 [0, 1, 2, 3] 6 (cCallN 2 sp_law_pick (cCons (cVar 0) (cCons (cVar 2) cNil))))
    (cSeq (cIte (cOp fEqS (cVar 4) (cC (.int 0)))
      (cSeq (cAsg 4 [0, 1, 2, 3] 7 (cLc [9] (iR1 (cOp fAddG (cC (.int 8)) (cCallN 2 sp_law_take (cCons (cVar 0) (cCons (cC (.int 4)) cNil))))) (gN 4 [] 9) tTrue (cCallN 4 sp_law_wide_term (cCons (cVar 0) (cCons (cVar 1) (cCons (cVar 2) (cCons (cVar 2) cNil)))))))
        (cRet 4 (cTup (cCons (cC (.str (PySem.Str.ofString "fact"))) (cCons (cCallN 2 sp_law_pick (cCons (cVar 0) (cCons (cOp fAddR (cVar 2) (cLst (cCons (cC (.str (PySem.Str.ofString "fact"))) (cCons (cC (.str (PySem.Str.ofString "once"))) (cCons (cC (.str (PySem.Str.ofString "both"))) (cCons (cC (.str (PySem.Str.ofString "ever"))) cNil)))))) cNil))) (cCons (cBi fTuple (cCons (cVar 7) cNil)) cNil))))))
      cNilS)
    (cSeq (cIte (cOp fEqS (cVar 4) (cC (.int 1)))
      (cRet 4 (cTup (cCons (cC (.str (PySem.Str.ofString "only"))) (cCons (cVar 5) (cCons (cVar 3) cNil)))))
      cNilS)
    (cSeq (cIte (cOp fEqS (cVar 4) (cC (.int 2)))
      (cRet 4 (cTup (cCons (cC (.str (PySem.Str.ofString "count"))) (cCons (cVar 6) (cCons (cVar 5) (cCons (cVar 3) cNil))))))
      cNilS)
    (cSeq (cIte (cOp fEqS (cVar 4) (cC (.int 3)))
      (cRet 4 (cTup (cCons (cCallN 2 sp_law_pick (cCons (cVar 0) (cCons (cLst (cCons (cC (.str (PySem.Str.ofString "sum"))) (cCons (cC (.str (PySem.Str.ofString "least"))) (cCons (cC (.str (PySem.Str.ofString "most"))) cNil)))) cNil))) (cCons (cVar 6) (cCons (cCallN 2 sp_law_pick (cCons (cVar 0) (cCons (cVar 2) cNil))) (cCons (cVar 5) (cCons (cVar 3) cNil)))))))
      cNilS)
    (cSeq (cIte (cOp fEqS (cVar 4) (cC (.int 4)))
      (cRet 4 (cTup (cCons (cCallN 2 sp_law_pick (cCons (cVar 0) (cCons (cLst (cCons (cC (.str (PySem.Str.ofString "linked"))) (cCons (cC (.str (PySem.Str.ofString "way"))) cNil))) cNil))) (cCons (cVar 6) (cCons (cCallN 2 sp_law_pick (cCons (cVar 0) (cCons (cVar 2) cNil))) (cCons (cVar 3) cNil))))))
      cNilS)
    (cSeq (cAsg 4 [0, 1, 2, 3] 8 (cCallN 4 sp_law_wide_term (cCons (cVar 0) (cCons (cVar 1) (cCons (cVar 2) (cCons (cVar 2) cNil))))))
    (cRet 4 (cTup (cCons (cC (.str (PySem.Str.ofString "where"))) (cCons (cCallN 2 sp_law_pick (cCons (cVar 0) (cCons (cOp fAddR (cVar 2) (cLst (cCons (cC (.str (PySem.Str.ofString "ever"))) cNil))) cNil))) (cCons (cVar 8) (cCons (cCallN 4 sp_law_wide_term (cCons (cVar 0) (cCons (cVar 1) (cCons (cVar 2) (cCons (cVar 2) cNil))))) (cCons (cVar 3) cNil))))))))))))))))
def wc_law_odd_node_5 : WS :=
    (cRet 4 (cTup (cCons (cC (.str (PySem.Str.ofString "where"))) (cCons (cCallN 2 sp_law_pick (cCons (cVar 0) (cCons (cOp fAddR (cVar 2) (cLst (cCons (cC (.str (PySem.Str.ofString "ever"))) cNil))) cNil))) (cCons (cVar 8) (cCons (cCallN 4 sp_law_wide_term (cCons (cVar 0) (cCons (cVar 1) (cCons (cVar 2) (cCons (cVar 2) cNil))))) (cCons (cVar 3) cNil)))))))
def wc_law_odd_node_4 : WS :=
    (cCut (cAsg 4 [0, 1, 2, 3] 8 (cCallN 4 sp_law_wide_term (cCons (cVar 0) (cCons (cVar 1) (cCons (cVar 2) (cCons (cVar 2) cNil)))))) (wc_law_odd_node_5))
def wc_law_odd_node_3 : WS :=
    (cSeq (cIte (cOp fEqS (cVar 4) (cC (.int 1)))
      (cRet 4 (cTup (cCons (cC (.str (PySem.Str.ofString "only"))) (cCons (cVar 5) (cCons (cVar 3) cNil)))))
      cNilS)
    (cSeq (cIte (cOp fEqS (cVar 4) (cC (.int 2)))
      (cRet 4 (cTup (cCons (cC (.str (PySem.Str.ofString "count"))) (cCons (cVar 6) (cCons (cVar 5) (cCons (cVar 3) cNil))))))
      cNilS)
    (cSeq (cIte (cOp fEqS (cVar 4) (cC (.int 3)))
      (cRet 4 (cTup (cCons (cCallN 2 sp_law_pick (cCons (cVar 0) (cCons (cLst (cCons (cC (.str (PySem.Str.ofString "sum"))) (cCons (cC (.str (PySem.Str.ofString "least"))) (cCons (cC (.str (PySem.Str.ofString "most"))) cNil)))) cNil))) (cCons (cVar 6) (cCons (cCallN 2 sp_law_pick (cCons (cVar 0) (cCons (cVar 2) cNil))) (cCons (cVar 5) (cCons (cVar 3) cNil)))))))
      cNilS)
    (cCut (cIte (cOp fEqS (cVar 4) (cC (.int 4)))
      (cRet 4 (cTup (cCons (cCallN 2 sp_law_pick (cCons (cVar 0) (cCons (cLst (cCons (cC (.str (PySem.Str.ofString "linked"))) (cCons (cC (.str (PySem.Str.ofString "way"))) cNil))) cNil))) (cCons (cVar 6) (cCons (cCallN 2 sp_law_pick (cCons (cVar 0) (cCons (cVar 2) cNil))) (cCons (cVar 3) cNil))))))
      cNilS) (wc_law_odd_node_4)))))
def wc_law_odd_node_2 : WS :=
    (cCut (cIte (cOp fEqS (cVar 4) (cC (.int 0)))
      (cSeq (cAsg 4 [0, 1, 2, 3] 7 (cLc [9] (iR1 (cOp fAddG (cC (.int 8)) (cCallN 2 sp_law_take (cCons (cVar 0) (cCons (cC (.int 4)) cNil))))) (gN 4 [] 9) tTrue (cCallN 4 sp_law_wide_term (cCons (cVar 0) (cCons (cVar 1) (cCons (cVar 2) (cCons (cVar 2) cNil)))))))
        (cRet 4 (cTup (cCons (cC (.str (PySem.Str.ofString "fact"))) (cCons (cCallN 2 sp_law_pick (cCons (cVar 0) (cCons (cOp fAddR (cVar 2) (cLst (cCons (cC (.str (PySem.Str.ofString "fact"))) (cCons (cC (.str (PySem.Str.ofString "once"))) (cCons (cC (.str (PySem.Str.ofString "both"))) (cCons (cC (.str (PySem.Str.ofString "ever"))) cNil)))))) cNil))) (cCons (cBi fTuple (cCons (cVar 7) cNil)) cNil))))))
      cNilS) (wc_law_odd_node_3))
def wc_law_odd_node_1 : WS :=
    (cCut (cAsg 4 [0, 1, 2, 3] 6 (cCallN 2 sp_law_pick (cCons (cVar 0) (cCons (cVar 2) cNil)))) (wc_law_odd_node_2))
def wc_law_odd_node_0 : WS :=
    (cSeq (cAsg 4 [0, 1, 2, 3] 4 (cCallN 2 sp_law_take (cCons (cVar 0) (cCons (cC (.int 6)) cNil))))
    (cCut (cAsg 4 [0, 1, 2, 3] 5 (cBi fTuple (cCons (cLc [9] (iR1 (cCallN 2 sp_law_take (cCons (cVar 0) (cCons (cC (.int 10)) cNil)))) (gN 4 [] 9) tTrue (cCallN 2 sp_law_pick (cCons (cVar 0) (cCons (cVar 2) cNil)))) cNil))) (wc_law_odd_node_1)))
theorem wc_law_odd_node_eq : w_law_odd_node = wc_law_odd_node_0 := by
  unfold wc_law_odd_node_0 wc_law_odd_node_1 wc_law_odd_node_2 wc_law_odd_node_3 wc_law_odd_node_4 wc_law_odd_node_5
  simp only [cCut_eq]
  rfl
abbrev kt_law_odd_node (ds : List D) : Kt := { nx := fun e => sp_law_odd_node.post ds .non (outs e 4), rt := fun d e => sp_law_odd_node.post ds d (outs e 4) }
abbrev KOd (ns : List Int) (ms : List Sm) (ws : List Str) (tq : List D) : Kt := kt_law_odd_node [.lst (ns.map D.int), .lst (ms.map Sm.d), .rol (ws.map D.str), .tup tq]
section
variable {ns ks : List Int} {ms : List Sm} {ws cs : List Str} {q : Qn} {m : Int} {o : Str}
theorem pk_w (hw : WsOk ws) (ks : List Int) : sp_law_pick.pre [.lst (ks.map D.int), .rol (ws.map D.str)] ∧ ∀ r ds', sp_law_pick.post [.lst (ks.map D.int), .rol (ws.map D.str)] r ds' → ∃ (k2 : List Int) (w : Str), r = .str w ∧ ds' = [.lst (k2.map D.int), .rol (ws.map D.str)] ∧ isW w = true :=
  ⟨⟨ks, _, _, rfl, rfl, by simpa using hw.pos, by simp only [List.length_map]; have := hw.few; omega⟩, fun r ds' hp => by
    obtain ⟨n2, hr, rfl⟩ := hp _ _ _ rfl rfl
    obtain ⟨w, hw', rfl⟩ := List.mem_map.mp hr
    exact ⟨n2, w, rfl, rfl, hw.isw w hw'⟩⟩
theorem tm_w (hw : WsOk ws) (ks : List Int) : sp_law_wide_term.pre [.lst (ks.map D.int), .lst (ms.map Sm.d), .rol (ws.map D.str), .rol (ws.map D.str)] ∧ ∀ r ds', sp_law_wide_term.post [.lst (ks.map D.int), .lst (ms.map Sm.d), .rol (ws.map D.str), .rol (ws.map D.str)] r ds' → ∃ (k2 : List Int) (t : Tm), r = encTm t ∧ ds' = [.lst (k2.map D.int), .lst (ms.map Sm.d), .rol (ws.map D.str), .rol (ws.map D.str)] ∧ okTm t :=
  ⟨.inr ⟨ks, ms, ws, rfl, hw⟩, fun r ds' hp => hp.2 _ _ _ rfl⟩
theorem od5 {tq : List D} (eq : encQ q = .tup tq) (hw : WsOk ws) {lt : Tm} (hl : okTm lt) {o7 : Option D} :
    wc_law_odd_node_5 [some (.lst (ks.map D.int)), some (.lst (ms.map Sm.d)), some (.rol (ws.map D.str)), some (.tup tq), some (.int m), some (encC cs), some (.str o), o7, some (encTm lt), none] (KOd ns ms ws tq) := by
  have post := fun {ks : List Int} {r : D} {q' : Qn} e h => on_post (l0 := .lst (ns.map D.int)) (s0 := .lst (ms.map Sm.d)) (ws := ws) (q := q) (ks := ks) (r := r) (q' := q') e h
  rw [eq] at post
  have pl := hw.pos
  have pf := hw.few
  obtain ⟨tl, el⟩ := encTm_tup lt
  rw [el]
  walk_at "Ddlx"
  refine ⟨⟨ks, _, _, rfl, rfl, by simp, by simp; omega⟩, ?_⟩
  intro r ds' hp
  obtain ⟨n2, hr, rfl⟩ := hp _ _ _ rfl rfl
  have hr2 : ∃ w, r = .str w ∧ isW w = true := by
    rcases List.mem_append.mp hr with h | h
    · obtain ⟨w, hw', rfl⟩ := List.mem_map.mp h
      exact ⟨w, rfl, hw.isw w hw'⟩
    · rw [List.mem_singleton.mp h]; exact ⟨_, rfl, by decide⟩
  obtain ⟨tw, rfl, htw⟩ := hr2
  obtain ⟨t1, t2⟩ := tm_w (ms := ms) hw n2
  walk_at "Ddlx"
  try refine ⟨t1, ?_⟩
  intro r ds' hp
  obtain ⟨n3, t, rfl, rfl, ht⟩ := t2 r ds' hp
  obtain ⟨tt, et⟩ := encTm_tup t
  rw [et]
  walk_at "Ddlx"
  exact post (q' := .whr tw lt t q) (r := .tup [.str (PySem.Str.ofString "where"), .str tw, .tup tl, .tup tt, .tup tq]) (by simp only [encQ, el, et, eq]) ⟨Nat.le_refl _, fun h => ⟨⟨htw, hl, ht⟩, h⟩⟩
theorem od4 {tq : List D} (eq : encQ q = .tup tq) (hw : WsOk ws) {o7 : Option D} :
    wc_law_odd_node_4 [some (.lst (ks.map D.int)), some (.lst (ms.map Sm.d)), some (.rol (ws.map D.str)), some (.tup tq), some (.int m), some (encC cs), some (.str o), o7, none, none] (KOd ns ms ws tq) := by
  have nxt := fun {k2 : List Int} {lt : Tm} hl => od5 (ns := ns) (ks := k2) (ms := ms) (ws := ws) (cs := cs) (q := q) (m := m) (o := o) (o7 := o7) eq hw (lt := lt) hl
  obtain ⟨t1, t2⟩ := tm_w (ms := ms) hw ks
  walk_at "Ddlx"
  try refine ⟨t1, ?_⟩
  intro r ds' hp
  obtain ⟨n3, t, rfl, rfl, ht⟩ := t2 r ds' hp
  obtain ⟨tt, et⟩ := encTm_tup t
  have nx := nxt (k2 := n3) ht
  rw [et] at nx ⊢
  walk_at "Ddlx"
  exact Stop.mk nx
theorem od3 {tq : List D} (eq : encQ q = .tup tq) (hw : WsOk ws) (hc : cs.length ≤ 10) (hcw : ∀ x ∈ cs, isW x = true) (ho : isW o = true) {o7 : Option D} :
    wc_law_odd_node_3 [some (.lst (ks.map D.int)), some (.lst (ms.map Sm.d)), some (.rol (ws.map D.str)), some (.tup tq), some (.int m), some (encC cs), some (.str o), o7, none, none] (KOd ns ms ws tq) := by
  have post := fun {ks : List Int} {r : D} {q' : Qn} e h => on_post (l0 := .lst (ns.map D.int)) (s0 := .lst (ms.map Sm.d)) (ws := ws) (q := q) (ks := ks) (r := r) (q' := q') e h
  rw [eq] at post
  have nxt := od4 (ns := ns) (ks := ks) (ms := ms) (ws := ws) (cs := cs) (q := q) (m := m) (o := o) (o7 := o7) eq hw
  have d1 : ∀ n : Nat, n + 1 ≤ n + 1 := fun n => Nat.le_refl _
  walk_at "Ddlx"
  refine ifb_dec (fun g1 => ?_) (fun g1 => ?_)
  · walk_at "Ddlx"
    exact post (q' := .only cs q) (r := .tup [.str (PySem.Str.ofString "only"), encC cs, .tup tq]) (by simp only [encQ, eq]) ⟨Nat.le_refl _, fun h => ⟨⟨hc, hcw⟩, h⟩⟩
  · walk_at "Ddlx"
    refine ifb_dec (fun g2 => ?_) (fun g2 => ?_)
    · walk_at "Ddlx"
      exact post (q' := .count o cs q) (r := .tup [.str (PySem.Str.ofString "count"), .str o, encC cs, .tup tq]) (by simp only [encQ, eq]) ⟨Nat.le_refl _, fun h => ⟨⟨ho, hc, hcw⟩, h⟩⟩
    · walk_at "Ddlx"
      refine ifb_dec (fun g3 => ?_) (fun g3 => ?_)
      · walk_at "Ddlx"
        refine ⟨⟨ks, _, _, rfl, rfl, by simp, by simp⟩, ?_⟩
        intro r ds' hp
        obtain ⟨n2, hr, rfl⟩ := hp _ _ _ rfl rfl
        have hk : ∃ k : K3, r = .str k.s := by
          simp only [List.mem_cons, List.not_mem_nil, or_false] at hr
          rcases hr with rfl | rfl | rfl
          · exact ⟨.sum, rfl⟩
          · exact ⟨.least, rfl⟩
          · exact ⟨.most, rfl⟩
        obtain ⟨k, rfl⟩ := hk
        obtain ⟨p1, p2⟩ := pk_w hw n2
        walk_at "Ddlx"
        try refine ⟨p1, ?_⟩
        intro r ds' hp
        obtain ⟨n3, w, rfl, rfl, hww⟩ := p2 r ds' hp
        walk_at "Ddlx"
        exact post (q' := .total k o w cs q) (r := .tup [.str k.s, .str o, .str w, encC cs, .tup tq]) (by simp only [encQ, eq]) ⟨Nat.le_refl _, fun h => ⟨⟨ho, hww, hc, hcw⟩, h⟩⟩
      · walk_at "Ddlx"
        refine ifb_dec (fun g4 => ?_) (fun g4 => ?_)
        · walk_at "Ddlx"
          refine ⟨⟨ks, _, _, rfl, rfl, by simp, by simp⟩, ?_⟩
          intro r ds' hp
          obtain ⟨n2, hr, rfl⟩ := hp _ _ _ rfl rfl
          have hk : ∃ k : KL, r = .str k.s := by
            simp only [List.mem_cons, List.not_mem_nil, or_false] at hr
            rcases hr with rfl | rfl
            · exact ⟨.linked, rfl⟩
            · exact ⟨.way, rfl⟩
          obtain ⟨k, rfl⟩ := hk
          obtain ⟨p1, p2⟩ := pk_w hw n2
          walk_at "Ddlx"
          try refine ⟨p1, ?_⟩
          intro r ds' hp
          obtain ⟨n3, w, rfl, rfl, hww⟩ := p2 r ds' hp
          walk_at "Ddlx"
          exact post (q' := .link k o w q) (r := .tup [.str k.s, .str o, .str w, .tup tq]) (by simp only [encQ, eq]) ⟨Nat.le_refl _, fun h => ⟨⟨ho, hww⟩, h⟩⟩
        · walk_at "Ddlx"
          exact Stop.mk nxt
theorem od2 {tq : List D} (eq : encQ q = .tup tq) (hw : WsOk ws) (hc : cs.length ≤ 10) (hcw : ∀ x ∈ cs, isW x = true) (ho : isW o = true) :
    wc_law_odd_node_2 [some (.lst (ks.map D.int)), some (.lst (ms.map Sm.d)), some (.rol (ws.map D.str)), some (.tup tq), some (.int m), some (encC cs), some (.str o), none, none, none] (KOd ns ms ws tq) := by
  have post := fun {ks : List Int} {r : D} {q' : Qn} e h => on_post (l0 := .lst (ns.map D.int)) (s0 := .lst (ms.map Sm.d)) (ws := ws) (q := q) (ks := ks) (r := r) (q' := q') e h
  rw [eq] at post
  have nxt := od3 (ns := ns) (ks := ks) (ms := ms) (ws := ws) (cs := cs) (q := q) (m := m) (o := o) (o7 := none) eq hw hc hcw ho
  have pl := hw.pos
  have pf := hw.few
  walk_at "Ddlx"
  refine ifb_dec (fun g0 => ?_) (fun g0 => ?_)
  · walk_at "Ddlx"
    refine ⟨⟨⟨_, rfl⟩, by decide⟩, ?_⟩
    rintro _ _ ⟨n1, k, rfl, rfl, k0, k1⟩
    walk_at "Ddlx"
    refine loop_lc (fun xs acc e => ∃ (j t : Nat) (kk : List Int) (us : List Tm), ((j : Int) + t = 8 + k ∧ xs = rngD j t ∧ acc = us.map encTm ∧ us.length = j ∧ ∀ u ∈ us, okTm u) ∧
      e = [some (.lst (kk.map D.int)), some (.lst (ms.map Sm.d)), some (.rol (ws.map D.str)), some (.tup tq), some (.int m), some (encC cs), some (.str o), none, none, none])
      ⟨0, (8 + k).toNat, n1, [], ⟨by omega, by simp, rfl, rfl, fun u h => by cases h⟩, rfl⟩ ?_ ?_
    · rintro x r acc env nx ⟨j, t, kk, us, ⟨h1, h2, rfl, h4, h5⟩, rfl⟩ hx
      cases t with
      | zero => simp [rngD] at h2
      | succ t =>
        simp only [rngD, List.cons.injEq] at h2
        obtain ⟨rfl, rfl⟩ := h2
        obtain ⟨t1, t2⟩ := tm_w (ms := ms) hw kk
        walk_at "Ddlx"
        try refine ⟨t1, ?_⟩
        intro r0 ds' hp
        obtain ⟨n3, u, rfl, rfl, hu⟩ := t2 r0 ds' hp
        have nlu := encTm_nl u
        walk_at "Ddlx"
        refine hx _ _ ⟨j + 1, t, n3, us ++ [u], ⟨by omega, rfl, by rw [List.map_append]; rfl, by rw [List.length_append, h4]; rfl, fun v hv => ?_⟩, rfl⟩
        rcases List.mem_append.mp hv with h | h
        · exact h5 v h
        · rw [List.mem_singleton.mp h]; exact hu
    · rintro acc env ⟨j, t, kk, us, ⟨h1, h2, rfl, h4, h5⟩, rfl⟩
      have ht0 : t = 0 := by cases t with
        | zero => rfl
        | succ t => simp [rngD] at h2
      walk_at "Ddlx"
      refine ⟨⟨kk, _, _, rfl, rfl, by simp, by simp; omega⟩, ?_⟩
      intro r ds' hp
      obtain ⟨n2, hr, rfl⟩ := hp _ _ _ rfl rfl
      have hr2 : ∃ w, r = .str w ∧ isW w = true := by
        rcases List.mem_append.mp hr with h | h
        · obtain ⟨w, hw', rfl⟩ := List.mem_map.mp h
          exact ⟨w, rfl, hw.isw w hw'⟩
        · simp only [List.mem_cons, List.not_mem_nil, or_false] at h
          rcases h with rfl | rfl | rfl | rfl <;> exact ⟨_, rfl, by decide⟩
      obtain ⟨tw, rfl, htw⟩ := hr2
      walk_at "Ddlx"
      exact post (q' := .fact tw us) rfl ⟨by have := dpQ_pos q; show 1 ≤ dpQ q + 1; omega, fun _ => ⟨htw, by omega, h5⟩⟩
  · walk_at "Ddlx"
    exact Stop.mk nxt
theorem od1 {tq : List D} (eq : encQ q = .tup tq) (hw : WsOk ws) (hc : cs.length ≤ 10) (hcw : ∀ x ∈ cs, isW x = true) :
    wc_law_odd_node_1 [some (.lst (ks.map D.int)), some (.lst (ms.map Sm.d)), some (.rol (ws.map D.str)), some (.tup tq), some (.int m), some (encC cs), none, none, none, none] (KOd ns ms ws tq) := by
  have nxt := fun {k2 : List Int} {o : Str} ho => od2 (ns := ns) (ks := k2) (ms := ms) (ws := ws) (cs := cs) (q := q) (m := m) (o := o) eq hw hc hcw ho
  obtain ⟨p1, p2⟩ := pk_w hw ks
  walk_at "Ddlx"
  try refine ⟨p1, ?_⟩
  intro r ds' hp
  obtain ⟨n3, w, rfl, rfl, hww⟩ := p2 r ds' hp
  walk_at "Ddlx"
  exact Stop.mk (nxt hww)
theorem pure_law_odd_node : ∀ ds, ds.length = 4 → sp_law_odd_node.pre ds → w_law_odd_node (env0 ds 6) { nx := fun e => sp_law_odd_node.post ds .non (outs e 4), rt := fun d e => sp_law_odd_node.post ds d (outs e 4) } := by
  rintro ds _ ⟨ns, ms, ws, q, rfl, hw⟩
  rw [wc_law_odd_node_eq]
  obtain ⟨tq, eq⟩ := encQ_tup q
  have nxt := fun {k2 : List Int} {m : Int} {cs : List Str} hc hcw => od1 (ns := ns) (ks := k2) (ms := ms) (ws := ws) (cs := cs) (q := q) (m := m) eq hw hc hcw
  rw [eq]
  walk_at "Ddlx"
  refine ⟨⟨⟨_, rfl⟩, by decide⟩, ?_⟩
  rintro _ _ ⟨n1, m, rfl, rfl, m0, m1⟩
  walk_at "Ddlx"
  refine ⟨⟨⟨_, rfl⟩, by decide⟩, ?_⟩
  rintro _ _ ⟨n2, k, rfl, rfl, k0, k1⟩
  walk_at "Ddlx"
  refine loop_lc (fun xs acc e => ∃ (j t : Nat) (kk : List Int) (us : List Str), ((j : Int) + t = k ∧ xs = rngD j t ∧ acc = us.map D.str ∧ us.length = j ∧ ∀ u ∈ us, isW u = true) ∧
    e = [some (.lst (kk.map D.int)), some (.lst (ms.map Sm.d)), some (.rol (ws.map D.str)), some (.tup tq), some (.int m), none, none, none, none, none])
    ⟨0, k.toNat, n2, [], ⟨by omega, by simp, rfl, rfl, fun u h => by cases h⟩, rfl⟩ ?_ ?_
  · rintro x r acc env nx ⟨j, t, kk, us, ⟨h1, h2, rfl, h4, h5⟩, rfl⟩ hx
    cases t with
    | zero => simp [rngD] at h2
    | succ t =>
      simp only [rngD, List.cons.injEq] at h2
      obtain ⟨rfl, rfl⟩ := h2
      obtain ⟨p1, p2⟩ := pk_w hw kk
      walk_at "Ddlx"
      try refine ⟨p1, ?_⟩
      intro r0 ds' hp
      obtain ⟨n3, u, rfl, rfl, hu⟩ := p2 r0 ds' hp
      walk_at "Ddlx"
      refine hx _ _ ⟨j + 1, t, n3, us ++ [u], ⟨by omega, rfl, by rw [List.map_append]; rfl, by rw [List.length_append, h4]; rfl, fun v hv => ?_⟩, rfl⟩
      rcases List.mem_append.mp hv with h | h
      · exact h5 v h
      · rw [List.mem_singleton.mp h]; exact hu
  · rintro acc env ⟨j, t, kk, us, ⟨h1, h2, rfl, h4, h5⟩, rfl⟩
    have ht0 : t = 0 := by cases t with
      | zero => rfl
      | succ t => simp [rngD] at h2
    walk_at "Ddlx"
    exact Stop.mk (nxt (cs := us) (by omega) h5)
end
end DL

set_option maxHeartbeats 1000000
namespace DL
open PySem PySem.Spec PyProof.Rows L2
/-! ### small rules of the walk -/
theorem pick_nl {d : D} {A B : Prop} (h : isL d = false) (hb : B) : pick d A B := by cases d <;> first | exact hb | (simp [isL] at h)
theorem stOk_nl {np : Nat} {pr : List Nat} {env : DEnv} {i : Nat} {d : D} (h : isL d = false) (h2 : stOk np pr env i .non = true) : stOk np pr env i d = true := by
  unfold stOk at h2 ⊢
  split at h2
  · cases h2
  · rw [h]
    exact h2
theorem ifb_pq {p : Prop} {_ : Decidable p} {A B : Prop} (h : p) (hb : A) : ifb (.bl (decide p)) A B := by
  rw [decide_eq_true h]
  exact .t hb
theorem immA_c {d : D} {ds : List D} (h : isL d = false) (h2 : immA ds = true) : immA (d :: ds) = true := by simp only [immA, h, h2]; rfl
theorem encC_nl (cs : List Str) : isL (encC cs) = false := rfl
/-! ### the written form -/
inductive Ps where | s (x : Str) | q (p : Qn)
def encPs : Ps → D
  | .s x => .str x
  | .q p => encQ p
theorem encPs_inj {a b : Ps} (h : encPs a = encPs b) : a = b := by
  cases a with
  | s x =>
    cases b with
    | s y => simpa [encPs] using h
    | q p => obtain ⟨t, e⟩ := encQ_tup p; simp [encPs, e] at h
  | q p =>
    cases b with
    | s y => obtain ⟨t, e⟩ := encQ_tup p; simp [encPs, e] at h
    | q p' => rw [encQ_inj (show encQ p = encQ p' from h)]
def withS : Option Int → Str
  | none => PySem.Str.ofString "ever"
  | some n => decS n
abbrev Tr := Str × D × Ps
def quS : Str := PySem.Str.ofString "question"
def qT (p : Qn) : Tr := (quS, encQ p, .q p)
def wT (w : Str) : Tr := (PySem.Str.ofString "word", .str w, .s w)
def cT (cs : List Str) : Tr := (PySem.Str.ofString "columns", encC cs, .s (keepS cs))
def tT (t : Tm) : Tr := (PySem.Str.ofString "term", encTm t, .s (termS t))
def itL : Qn → List Tr
  | .fact .. => []
  | .two _ p q => [qT p, qT q]
  | .only cs p => [cT cs, qT p]
  | .whr t l r p => [wT t, tT l, tT r, qT p]
  | .shift n p => [(PySem.Str.ofString "integer", .int n, .s (decS n)), qT p]
  | .look _ w p => [(PySem.Str.ofString "within", encO w, .s (withS w)), qT p]
  | .count new keep p => [wT new, cT keep, qT p]
  | .total _ new col keep p => [wT new, wT col, cT keep, qT p]
  | .link _ x y p => [wT x, wT y, qT p]
def trD (x : Tr) : D := .tup [.str x.1, x.2.1]
theorem itL_zip (q : Qn) (h : ix q ≠ 0) : zipD ((formsQ q).map D.str) (itemsQ q) = (itL q).map trD := by
  cases q <;> first | exact absurd rfl h | rfl
def TrOk (x : Tr) : Prop := (∃ p, x = qT p) ∨ (x.1 ≠ quS ∧ ∃ s, x.2.2 = .s s ∧ WIt x.1 x.2.1 s)
theorem nqw : ∀ f ∈ [PySem.Str.ofString "word", PySem.Str.ofString "integer", PySem.Str.ofString "within"], f ≠ quS ∧ f ≠ PySem.Str.ofString "columns" ∧ f ≠ PySem.Str.ofString "term" := by decide
theorem wT_ok (w : Str) : TrOk (wT w) := by
  obtain ⟨h1, h2, h3⟩ := nqw (PySem.Str.ofString "word") (by simp)
  exact .inr ⟨h1, w, rfl, .str _ _ h2 h3⟩
theorem cT_ok {cs : List Str} (h1 : cs.length ≤ 10) (h2 : ∀ x ∈ cs, isW x = true) : TrOk (cT cs) := .inr ⟨by show PySem.Str.ofString "columns" ≠ quS; decide, _, rfl, .cols cs h1 h2⟩
theorem tT_ok {t : Tm} (h : okTm t) : TrOk (tT t) := .inr ⟨by show PySem.Str.ofString "term" ≠ quS; decide, _, rfl, .term t h⟩
theorem qT_ok (p : Qn) : TrOk (qT p) := .inl ⟨p, rfl⟩
theorem smQ_own {q : Qn} (h : smQ q) : smN q := by
  cases q with
  | fact => exact h
  | two => trivial
  | _ => exact h.1
theorem itL_ok (q : Qn) (h : smN q) : ∀ x ∈ itL q, TrOk x := by
  cases q with
  | fact => intro x hx; cases hx
  | two k p q => simpa [itL] using ⟨qT_ok p, qT_ok q⟩
  | only cs p => simpa [itL] using ⟨cT_ok h.1 h.2, qT_ok p⟩
  | whr t l r p => simpa [itL] using ⟨wT_ok t, tT_ok h.2.1, tT_ok h.2.2, qT_ok p⟩
  | shift n p =>
    have h1 : TrOk (PySem.Str.ofString "integer", .int n, .s (decS n)) := by
      obtain ⟨h1, h2, h3⟩ := nqw (PySem.Str.ofString "integer") (by simp)
      exact .inr ⟨h1, _, rfl, .int _ n h2 h3 h⟩
    simpa [itL] using ⟨h1, qT_ok p⟩
  | look k w p =>
    have h1 : TrOk (PySem.Str.ofString "within", encO w, .s (withS w)) := by
      obtain ⟨h1, h2, h3⟩ := nqw (PySem.Str.ofString "within") (by simp)
      cases w with
      | none => exact .inr ⟨h1, _, rfl, .none _ h2 h3⟩
      | some n => exact .inr ⟨h1, _, rfl, .int _ n h2 h3 (h n rfl)⟩
    simpa [itL] using ⟨h1, qT_ok p⟩
  | count n ks p => simpa [itL] using ⟨wT_ok n, cT_ok h.2.1 h.2.2, qT_ok p⟩
  | total k n c ks p => simpa [itL] using ⟨wT_ok n, wT_ok c, cT_ok h.2.2.1 h.2.2.2, qT_ok p⟩
  | link k x y p => simpa [itL] using ⟨wT_ok x, wT_ok y, qT_ok p⟩
def comm (L : List Tr) : List Ps := L.flatMap fun x => [x.2.2, Ps.s (PySem.Str.ofString ", ")]
theorem comm_len : ∀ L : List Tr, (comm L).length = L.length * 2
  | [] => rfl
  | a :: r => by
    show (a.2.2 :: Ps.s _ :: comm r).length = _
    rw [List.length_cons, List.length_cons, comm_len r, List.length_cons]
    omega
def wp : Qn → List Ps
  | .fact n ts => [Ps.s n, Ps.s (PySem.Str.ofString "["), Ps.s (Txt.join (PySem.Str.ofString ", ") (ts.map termS)), Ps.s (PySem.Str.ofString "]")]
  | q => ([Ps.s (kd q), Ps.s (PySem.Str.ofString "(")] ++ comm (itL q)).dropLast ++ [Ps.s (PySem.Str.ofString ")")]
theorem wp_eq (q : Qn) (h : ix q ≠ 0) : wp q = ([Ps.s (kd q), Ps.s (PySem.Str.ofString "(")] ++ comm (itL q)).dropLast ++ [Ps.s (PySem.Str.ofString ")")] := by
  cases q <;> first | exact absurd rfl h | rfl
def sp_written_pieces : FSpec where
  pre := fun ds => ∃ q : Qn, ds = [encQ q] ∧ smN q
  post := fun ds r ds' => ds' = ds ∧ ∀ q : Qn, ds = [encQ q] → r = .lst ((wp q).map encPs)
theorem wpi_post {q : Qn} {r : D} (h : r = .lst ((wp q).map encPs)) : ∀ q' : Qn, [encQ q] = [encQ q'] → r = .lst ((wp q').map encPs) := by
  intro q' e
  simp only [List.cons.injEq, and_true] at e
  cases encQ_inj e
  exact h
theorem join_bd2 {ts : List Tm} (hl : ts.length ≤ 11) (h : ∀ t ∈ ts, okTm t) : ((ts.map termS).map (·.length)).sum + (ts.map termS).length * (PySem.Str.ofString ", ").length ≤ 1144 := by
  have h1 : sumL (ts.map termS) ≤ (ts.map termS).length * 102 := sumL_le fun x hx => by
    obtain ⟨t, ht, rfl⟩ := List.mem_map.mp hx
    exact termS_len (h t ht)
  have h2 : (PySem.Str.ofString ", ").length = 2 := by decide
  unfold sumL at h1
  rw [h2]
  rw [List.length_map] at h1 ⊢
  omega
theorem cut_m1 (xs : List D) : cutD xs none (some (-1)) = xs.dropLast := by
  unfold cutD HT.sIx
  simp only [List.drop_zero, Nat.sub_zero]
  rw [List.dropLast_eq_take]
  congr 1
  rw [if_pos (by decide)]
  omega
/-- slots: 0 question, 1 _, 2 name, 3 terms, 4 pieces, 5 form, 6 item, 7 term -/
def w_written_pieces : WS :=
    (cSeq (cIte (cOp fEqS (cOp fIx (cVar 0) (cC (.int 0))) (cC (.str (PySem.Str.ofString "fact"))))
      (cSeq (cUnp (cVar 0) (gT 3 (gCons' (gN 1 [0] 1) (gCons' (gN 1 [0] 2) (gCons' (gN 1 [0] 3) gNil')))))
        (cRet 1 (cLst (cCons (cVar 2) (cCons (cC (.str (PySem.Str.ofString "["))) (cCons (cUn (fJoin (PySem.Str.ofString ", ")) (cLc [7] (iE (cVar 3)) (gN 1 [] 7) tTrue (cCallN 1 sp_written_term (cCons (cVar 7) cNil)))) (cCons (cC (.str (PySem.Str.ofString "]"))) cNil)))))))
      cNilS)
    (cSeq (cAsg 1 [0] 4 (cLst (cCons (cOp fIx (cVar 0) (cC (.int 0))) (cCons (cC (.str (PySem.Str.ofString "("))) cNil))))
    (cSeq (cFor [0] (iZG (cItm tab_ITEMS (cOp fIx (cVar 0) (cC (.int 0)))) (cSlL (cVar 0) (cC (.int 1)))) (gT 2 (gCons' (gN 1 [0] 5) (gCons' (gN 1 [0] 6) gNil')))
      (cSeq (cEx (cMeth 4 fAppend (cCons (cIf (cOp fEqS (cVar 5) (cC (.str (PySem.Str.ofString "question")))) (cVar 6) (cCallN 2 sp_written_item (cCons (cVar 5) (cCons (cVar 6) cNil)))) cNil)))
        (cEx (cMeth 4 fAppend (cCons (cC (.str (PySem.Str.ofString ", "))) cNil)))))
    (cRet 1 (cOp fAddG (cSlH (cVar 4) (cUn fNeg (cC (.int 1)))) (cLst (cCons (cC (.str (PySem.Str.ofString ")"))) cNil)))))))
def wc_written_pieces_3 : WS :=
    (cRet 1 (cOp fAddG (cSlH (cVar 4) (cUn fNeg (cC (.int 1)))) (cLst (cCons (cC (.str (PySem.Str.ofString ")"))) cNil))))
def wc_written_pieces_2 : WS :=
    (cCut (cFor [0] (iZG (cItm tab_ITEMS (cOp fIx (cVar 0) (cC (.int 0)))) (cSlL (cVar 0) (cC (.int 1)))) (gT 2 (gCons' (gN 1 [0] 5) (gCons' (gN 1 [0] 6) gNil')))
      (cSeq (cEx (cMeth 4 fAppend (cCons (cIf (cOp fEqS (cVar 5) (cC (.str (PySem.Str.ofString "question")))) (cVar 6) (cCallN 2 sp_written_item (cCons (cVar 5) (cCons (cVar 6) cNil)))) cNil)))
        (cEx (cMeth 4 fAppend (cCons (cC (.str (PySem.Str.ofString ", "))) cNil))))) (wc_written_pieces_3))
def wc_written_pieces_1 : WS :=
    (cCut (cAsg 1 [0] 4 (cLst (cCons (cOp fIx (cVar 0) (cC (.int 0))) (cCons (cC (.str (PySem.Str.ofString "("))) cNil)))) (wc_written_pieces_2))
def wc_written_pieces_0 : WS :=
    (cCut (cIte (cOp fEqS (cOp fIx (cVar 0) (cC (.int 0))) (cC (.str (PySem.Str.ofString "fact"))))
      (cSeq (cUnp (cVar 0) (gT 3 (gCons' (gN 1 [0] 1) (gCons' (gN 1 [0] 2) (gCons' (gN 1 [0] 3) gNil')))))
        (cRet 1 (cLst (cCons (cVar 2) (cCons (cC (.str (PySem.Str.ofString "["))) (cCons (cUn (fJoin (PySem.Str.ofString ", ")) (cLc [7] (iE (cVar 3)) (gN 1 [] 7) tTrue (cCallN 1 sp_written_term (cCons (cVar 7) cNil)))) (cCons (cC (.str (PySem.Str.ofString "]"))) cNil)))))))
      cNilS) (wc_written_pieces_1))
theorem wc_written_pieces_eq : w_written_pieces = wc_written_pieces_0 := by
  unfold wc_written_pieces_0 wc_written_pieces_1 wc_written_pieces_2 wc_written_pieces_3
  simp only [cCut_eq]
  rfl
abbrev kt_written_pieces (ds : List D) : Kt := { nx := fun e => sp_written_pieces.post ds .non (outs e 1), rt := fun d e => sp_written_pieces.post ds d (outs e 1) }
local macro_rules | `(tactic| walk_at "Ddlx") => `(tactic| ((conv => whnf); (repeat ((first | ((with_reducible refine And.intro (stOk_nl ?_ ?_) ?_); (focus (with_reducible first | assumption | exact encQ_nl _ | exact encO_nl _ | exact encC_nl _)); (focus exact rfl)) | ((refine pick_nl ?_ ?_); (focus (with_reducible first | assumption | exact encQ_nl _ | exact encO_nl _ | exact encC_nl _))) | ((with_reducible refine And.intro ?_ ?_); (focus (with_reducible first | assumption | exact encQ_nl _ | exact encO_nl _ | exact encC_nl _))) | ((with_reducible refine And.intro (immA_c ?_ ?_) ?_); (focus (first | (with_reducible first | assumption | exact encQ_nl _ | exact encO_nl _ | exact encC_nl _) | exact rfl)); (focus ((repeat ((with_reducible refine immA_c ?_ ?_); (focus (first | (with_reducible first | assumption | exact encQ_nl _ | exact encO_nl _ | exact encC_nl _) | exact rfl)))); exact rfl))) | refine And.intro rfl ?_ | refine And.intro trivial ?_ | refine And.intro ⟨rfl, trivial⟩ ?_ | refine And.intro ⟨rfl, rfl, trivial⟩ ?_ | refine ifb_nq (by first | assumption | decide) ?_ | refine ifb_pq (by assumption) ?_ | refine ifb_er ?_ | refine ifb_t ?_ | refine ifb_f ?_ | refine ifb_nr ?_ | refine ifb_er ?_ | ((with_reducible refine And.intro (?_ : (_ : Nat) ≤ _) ?_); (focus (first | decide | omega | (unfold CMul; omega) | (unfold CDiv; omega) | (unfold CPow; decide) | (exact cpow1 (by omega) (by omega)) | (simp only [rngD_len, List.length_replicate, List.length_map, List.length_append, List.length_cons, List.length_nil, List.length_set] at *; omega)))) | ((with_reducible refine And.intro (?_ : (_ : Int) ≤ _) ?_); (focus (first | decide | omega | (unfold CMul; omega) | (unfold CDiv; omega) | (unfold CPow; decide) | (exact cpow1 (by omega) (by omega)) | (simp only [rngD_len, List.length_replicate, List.length_map, List.length_append, List.length_cons, List.length_nil, List.length_set] at *; omega)))) | ((with_reducible refine And.intro (?_ : (_ : Nat) < _) ?_); (focus (first | decide | omega | (unfold CMul; omega) | (unfold CDiv; omega) | (unfold CPow; decide) | (exact cpow1 (by omega) (by omega)) | (simp only [rngD_len, List.length_replicate, List.length_map, List.length_append, List.length_cons, List.length_nil, List.length_set] at *; omega)))) | ((with_reducible refine And.intro (?_ : (_ : Int) < _) ?_); (focus (first | decide | omega | (unfold CMul; omega) | (unfold CDiv; omega) | (unfold CPow; decide) | (exact cpow1 (by omega) (by omega)) | (simp only [rngD_len, List.length_replicate, List.length_map, List.length_append, List.length_cons, List.length_nil, List.length_set] at *; omega)))) | ((with_reducible refine And.intro (?_ : CMul _ _) ?_); (focus (first | decide | omega | (unfold CMul; omega) | (unfold CDiv; omega) | (unfold CPow; decide) | (exact cpow1 (by omega) (by omega)) | (simp only [rngD_len, List.length_replicate, List.length_map, List.length_append, List.length_cons, List.length_nil, List.length_set] at *; omega)))) | ((with_reducible refine And.intro (?_ : CDiv _ _) ?_); (focus (first | decide | omega | (unfold CMul; omega) | (unfold CDiv; omega) | (unfold CPow; decide) | (exact cpow1 (by omega) (by omega)) | (simp only [rngD_len, List.length_replicate, List.length_map, List.length_append, List.length_cons, List.length_nil, List.length_set] at *; omega)))) | ((with_reducible refine And.intro (?_ : CPow _ _) ?_); (focus (first | decide | omega | (unfold CMul; omega) | (unfold CDiv; omega) | (unfold CPow; decide) | (exact cpow1 (by omega) (by omega)) | (simp only [rngD_len, List.length_replicate, List.length_map, List.length_append, List.length_cons, List.length_nil, List.length_set] at *; omega)))) | ((with_reducible refine And.intro (?_ : (_ : Nat) = _) ?_); (focus (first | decide | omega | (unfold CMul; omega) | (unfold CDiv; omega) | (unfold CPow; decide) | (exact cpow1 (by omega) (by omega)) | (simp only [rngD_len, List.length_replicate, List.length_map, List.length_append, List.length_cons, List.length_nil, List.length_set] at *; omega))))); (conv => whnf); (try dsimp only [List.set_cons_zero, List.set_cons_succ, upA, wipeE, back, List.getElem?_cons_zero, List.getElem?_cons_succ, Option.getD_some]))); (try dsimp only [List.set_cons_zero, List.set_cons_succ, upA, wipeE, back, List.getElem?_cons_zero, List.getElem?_cons_succ, Option.getD_some])))
section
variable {q : Qn} {kq : Str} {is : List D} {fs : List Str}
theorem wpc3 (post : ∀ {r : D}, r = .lst ((wp q).map encPs) → ∀ (q' : Qn), [D.tup (D.str kq :: is)] = [encQ q'] → r = .lst ((wp q').map encPs)) (few : (itL q).length ≤ 4)
    (we : wp q = ([Ps.s kq, Ps.s (PySem.Str.ofString "(")] ++ comm (itL q)).dropLast ++ [Ps.s (PySem.Str.ofString ")")]) {o5 o6 : Option D} :
    wc_written_pieces_3 [some (.tup (D.str kq :: is)), none, none, none, some (.lst (([Ps.s kq, Ps.s (PySem.Str.ofString "(")] ++ comm (itL q)).map encPs)), o5, o6, none] (kt_written_pieces [.tup (D.str kq :: is)]) := by
  have hc := cut_m1 (([Ps.s kq, Ps.s (PySem.Str.ofString "(")] ++ comm (itL q)).map encPs)
  have hl : (comm (itL q)).length ≤ 8 := by rw [comm_len]; omega
  have hl2 : ((([Ps.s kq, Ps.s (PySem.Str.ofString "(")] ++ comm (itL q)).map encPs).dropLast).length + [D.str (PySem.Str.ofString ")")].length ≤ 1000000 := by
    rw [List.length_dropLast, List.length_map, List.length_append]
    simp only [List.length_cons, List.length_nil]
    omega
  generalize hA : ([Ps.s kq, Ps.s (PySem.Str.ofString "(")] ++ comm (itL q)).map encPs = A at *
  walk_at "Ddlx"
  rw [hc]
  walk_at "Ddlx"
  try refine ⟨hl2, ?_⟩
  walk_at "Ddlx"
  refine post ?_
  rw [we, List.map_append, ← hA, List.map_dropLast]
  rfl
theorem wpc2 (post : ∀ {r : D}, r = .lst ((wp q).map encPs) → ∀ (q' : Qn), [D.tup (D.str kq :: is)] = [encQ q'] → r = .lst ((wp q').map encPs)) (few : (itL q).length ≤ 4)
    (we : wp q = ([Ps.s kq, Ps.s (PySem.Str.ofString "(")] ++ comm (itL q)).dropLast ++ [Ps.s (PySem.Str.ofString ")")])
    (iz : zipD (fs.map D.str) is = (itL q).map trD) (io : ∀ x ∈ itL q, TrOk x) (it : (kq, fs) ∈ tab_ITEMS) :
    wc_written_pieces_2 [some (.tup (D.str kq :: is)), none, none, none, some (.lst [.str kq, .str (PySem.Str.ofString "(")]), none, none, none] (kt_written_pieces [.tup (D.str kq :: is)]) := by
  have nxt := fun {o5 o6 : Option D} => wpc3 (o5 := o5) (o6 := o6) post few we
  have e0 : atI (D.str kq :: is) 0 = some (.str kq) := atI_nat (j := 0) rfl
  have ct := cut_tail (D.str kq) is
  walk_at "Ddlx"
  rw [e0]
  walk_at "Ddlx"
  refine ⟨fs, it, ?_⟩
  walk_at "Ddlx"
  rw [ct]
  walk_at "Ddlx"
  rw [iz]
  refine loop_for (fun xs e => ∃ (a b : List Tr) (o5 o6 : Option D), (itL q = a ++ b ∧ xs = b.map trD) ∧ e = [some (.tup (D.str kq :: is)), none, none, none, some (.lst (([Ps.s kq, Ps.s (PySem.Str.ofString "(")] ++ comm a).map encPs)), o5, o6, none]) ⟨[], _, none, none, ⟨rfl, rfl⟩, rfl⟩ ?_ ?_
  · rintro x r env nx ⟨a, b, o5, o6, ⟨hc, hq⟩, rfl⟩ hn
    cases b with
    | nil => cases hq
    | cons y b =>
      rw [List.map_cons] at hq
      cases hq
      have hy := io y (by rw [hc]; simp)
      have hal : (comm a).length ≤ 8 := by
        have h1 := congrArg List.length hc
        rw [List.length_append] at h1
        rw [comm_len]
        omega
      have h1 : (([Ps.s kq, Ps.s (PySem.Str.ofString "(")] ++ comm a).map encPs).length < 1000000 := by
        rw [List.length_map, List.length_append]
        simp only [List.length_cons, List.length_nil]
        omega
      have h2 : ∀ z : D, (([Ps.s kq, Ps.s (PySem.Str.ofString "(")] ++ comm a).map encPs ++ [z]).length < 1000000 := by
        intro z
        rw [List.length_append, List.length_map, List.length_append]
        simp only [List.length_cons, List.length_nil]
        omega
      have fin : ∀ z : D, z = encPs y.2.2 → ([Ps.s kq, Ps.s (PySem.Str.ofString "(")] ++ comm a).map encPs ++ [z] ++ [D.str (PySem.Str.ofString ", ")] = ([Ps.s kq, Ps.s (PySem.Str.ofString "(")] ++ comm (a ++ [y])).map encPs := by
        rintro z rfl
        rw [show comm (a ++ [y]) = comm a ++ [y.2.2, Ps.s (PySem.Str.ofString ", ")] from by simp [comm], ← List.append_assoc, List.map_append]
        simp [encPs]
      generalize hA : ([Ps.s kq, Ps.s (PySem.Str.ofString "(")] ++ comm a).map encPs = A at *
      rcases hy with ⟨p, rfl⟩ | ⟨hne, s, hs, w⟩
      · obtain ⟨tp, ep⟩ := encQ_tup p
        have ez : trD (qT p) = .tup [.str quS, .tup tp] := by unfold trD qT; simp only [ep]
        rw [ez]
        unfold quS
        walk_at "Ddlx"
        try refine ⟨h1, ?_⟩
        walk_at "Ddlx"
        try refine ⟨h2 _, ?_⟩
        walk_at "Ddlx"
        refine hn _ ⟨a ++ [qT p], b, some (.str (PySem.Str.ofString "question")), some (.tup tp), ⟨by rw [hc]; simp, rfl⟩, ?_⟩
        rw [← fin (.tup tp) ep.symm]
      · obtain ⟨f, d, ps⟩ := y
        dsimp only at hne hs w fin hc
        subst hs
        have wi : sp_written_item.pre [.str f, d] ∧ ∀ r ds', sp_written_item.post [.str f, d] r ds' → ds' = [.str f, d] ∧ r = .str s := ⟨⟨f, d, s, rfl, w⟩, fun r ds' h => ⟨h.1, h.2 f d s rfl w⟩⟩
        have ndl : isL d = false := by cases w <;> first | rfl | exact encTm_nl _
        have ez : trD (f, d, .s s) = .tup [.str f, d] := rfl
        rw [ez]
        unfold quS at hne
        walk_at "Ddlx"
        try refine ifb_nq hne ?_
        walk_at "Ddlx"
        try refine ⟨wi.1, ?_⟩
        intro r ds' h
        obtain ⟨rfl, rfl⟩ := wi.2 r ds' h
        walk_at "Ddlx"
        try refine ⟨h1, ?_⟩
        walk_at "Ddlx"
        try refine ⟨h2 _, ?_⟩
        walk_at "Ddlx"
        refine hn _ ⟨a ++ [(f, d, Ps.s s)], b, some (.str f), some d, ⟨by rw [hc]; simp, rfl⟩, ?_⟩
        rw [← fin (.str s) rfl]
  · rintro env ⟨a, b, o5, o6, ⟨hc, hq⟩, rfl⟩
    have e1 : b = [] := by cases b with
      | nil => rfl
      | cons a b => cases hq
    subst e1
    rw [List.append_nil] at hc
    rw [← hc]
    walk_at "Ddlx"
    exact Stop.mk nxt
theorem pure_written_pieces : ∀ ds, ds.length = 1 → sp_written_pieces.pre ds → w_written_pieces (env0 ds 7) { nx := fun e => sp_written_pieces.post ds .non (outs e 1), rt := fun d e => sp_written_pieces.post ds d (outs e 1) } := by
  rintro ds _ ⟨q, rfl, hq⟩
  have post := fun {r : D} h => wpi_post (q := q) (r := r) h
  by_cases hx : ix q = 0
  · cases q with
    | fact nm ts =>
      have hj := join_bd2 hq.2.1 hq.2.2
      have hl : (ts.map encTm).length ≤ 1000000 := by rw [List.length_map]; have := hq.2.1; omega
      simp only [encQ] at post ⊢
      rw [wc_written_pieces_eq]
      walk_at "Ddlx"
      try refine ⟨hl, ?_⟩
      refine loop_lc (fun xs acc e => ∃ (a b : List Tm), (ts = a ++ b ∧ xs = b.map encTm ∧ acc = (a.map termS).map D.str) ∧ e = [some (.tup [.str (PySem.Str.ofString "fact"), .str nm, .tup (ts.map encTm)]), some (.str (PySem.Str.ofString "fact")), some (.str nm), some (.tup (ts.map encTm)), none, none, none, none]) ⟨[], ts, ⟨rfl, rfl, rfl⟩, rfl⟩ ?_ ?_
      · rintro x r acc env nx ⟨a, b, ⟨hc, hq', rfl⟩, rfl⟩ hn
        cases b with
        | nil => cases hq'
        | cons t b =>
          rw [List.map_cons] at hq'
          cases hq'
          have ht := hq.2.2 t (by rw [hc]; simp)
          have wt : sp_written_term.pre [encTm t] ∧ ∀ r ds', sp_written_term.post [encTm t] r ds' → ds' = [encTm t] ∧ r = .str (termS t) := ⟨⟨t, rfl, ht⟩, fun r ds' h => ⟨h.1, h.2 t rfl⟩⟩
          obtain ⟨tt, et⟩ := encTm_tup t
          rw [et] at wt ⊢
          walk_at "Ddlx"
          try refine ⟨wt.1, ?_⟩
          intro r ds' h
          obtain ⟨rfl, rfl⟩ := wt.2 r ds' h
          walk_at "Ddlx"
          exact hn _ _ ⟨a ++ [t], b, ⟨by rw [hc]; simp, rfl, by simp⟩, rfl⟩
      · rintro acc env ⟨a, b, ⟨hc, hq', rfl⟩, rfl⟩
        have e1 : b = [] := by cases b with
          | nil => rfl
          | cons a b => cases hq'
        subst e1
        rw [List.append_nil] at hc
        rw [← hc]
        walk_at "Ddlx"
        rw [strsD_map]
        refine ⟨by omega, ?_⟩
        walk_at "Ddlx"
        exact post rfl
    | _ => exact absurd hx (by simp [ix])
  · have hf := kd_notfact q hx
    have it := items_of q
    have iz := itL_zip q hx
    have io := itL_ok q hq
    have we := wp_eq q hx
    have few : (itL q).length ≤ 4 := by cases q <;> simp [itL]
    rw [encQ_items] at post ⊢
    rw [wc_written_pieces_eq]
    generalize formsQ q = fs at *
    generalize itemsQ q = is at *
    generalize kd q = kq at *
    have nxt := wpc2 post few we iz io it
    have e0 : atI (D.str kq :: is) 0 = some (.str kq) := atI_nat (j := 0) rfl
    walk_at "Ddlx"
    rw [e0]
    walk_at "Ddlx"
    refine Stop.mk ?_
    unfold wc_written_pieces_1
    walk_at "Ddlx"
    rw [e0]
    walk_at "Ddlx"
    exact Stop.mk nxt
end
end DL

set_option maxHeartbeats 1000000
namespace DL
open PySem PySem.Spec PyProof.Rows L2
/-! ### the signs of the written form -/
def o1 : List Nat := [40]
def c1 : List Nat := [41]
def cs2 : List Nat := [44, 32]
def sgQ : Qn → List Nat
  | .fact n ts => sg n ++ ([91] ++ (inter cs2 ((ts.map termS).map sg) ++ [93]))
  | .two k p q => sg k.s ++ o1 ++ (sgQ p ++ cs2 ++ sgQ q) ++ c1
  | .only cs p => sg (PySem.Str.ofString "only") ++ o1 ++ (sg (keepS cs) ++ cs2 ++ sgQ p) ++ c1
  | .whr t l r p => sg (PySem.Str.ofString "where") ++ o1 ++ (sg t ++ cs2 ++ (sg (termS l) ++ cs2 ++ (sg (termS r) ++ cs2 ++ sgQ p))) ++ c1
  | .shift n p => sg (PySem.Str.ofString "shift") ++ o1 ++ (sg (decS n) ++ cs2 ++ sgQ p) ++ c1
  | .look k w p => sg k.s ++ o1 ++ (sg (withS w) ++ cs2 ++ sgQ p) ++ c1
  | .count n ks p => sg (PySem.Str.ofString "count") ++ o1 ++ (sg n ++ cs2 ++ (sg (keepS ks) ++ cs2 ++ sgQ p)) ++ c1
  | .total k n c ks p => sg k.s ++ o1 ++ (sg n ++ cs2 ++ (sg c ++ cs2 ++ (sg (keepS ks) ++ cs2 ++ sgQ p))) ++ c1
  | .link k x y p => sg k.s ++ o1 ++ (sg x ++ cs2 ++ (sg y ++ cs2 ++ sgQ p)) ++ c1
def sgP : Ps → List Nat
  | .s x => sg x
  | .q p => sgQ p
theorem sg_c : sg (PySem.Str.ofString ", ") = cs2 := by decide
theorem sg_o : sg (PySem.Str.ofString "(") = o1 := by decide
theorem sg_e : sg (PySem.Str.ofString ")") = c1 := by decide
theorem wp_sg (q : Qn) : ((wp q).map sgP).flatten = sgQ q := by
  cases q with
  | fact n ts =>
    have e1 : sg (PySem.Str.ofString "[") = [91] := by decide
    have e2 : sg (PySem.Str.ofString "]") = [93] := by decide
    simp only [wp, List.map_cons, List.map_nil, sgP, List.flatten_cons, List.flatten_nil, sg_join, sg_c, e1, e2, sgQ, List.append_nil]
  | _ => simp only [wp, kd, itL, comm, List.flatMap_cons, List.flatMap_nil, qT, wT, cT, tT, List.cons_append, List.nil_append, List.append_nil, List.dropLast_cons₂, List.dropLast, List.map_cons, List.map_nil, sgP, List.flatten_cons, List.flatten_nil, sg_c, sg_o, sg_e, sgQ, List.append_assoc]
/-! ### how many pieces, how many signs -/
def szQ : Qn → Nat
  | .fact .. => 5
  | .two _ p q => szQ p + szQ q + 5
  | .only _ p => szQ p + 6
  | .whr _ _ _ p => szQ p + 10
  | .shift _ p => szQ p + 6
  | .look _ _ p => szQ p + 6
  | .count _ _ p => szQ p + 8
  | .total _ _ _ _ p => szQ p + 10
  | .link _ _ _ p => szQ p + 8
def szP : Ps → Nat
  | .s _ => 1
  | .q p => szQ p
def szL (l : List Ps) : Nat := (l.map szP).sum
theorem wp_sz (q : Qn) : szL (wp q) < szQ q := by
  cases q <;> simp [wp, kd, itL, comm, qT, wT, cT, tT, szL, szP, szQ, List.dropLast] <;> omega
theorem szQ_cnt : ∀ q : Qn, szQ q ≤ 10 * cntQ q
  | .fact .. => by simp [szQ, cntQ]
  | .two _ p q => by have := szQ_cnt p; have := szQ_cnt q; simp only [szQ, cntQ]; omega
  | .only _ p | .whr _ _ _ p | .shift _ p | .look _ _ p | .count _ _ p | .total _ _ _ _ p | .link _ _ _ p => by have := szQ_cnt p; simp only [szQ, cntQ]; omega
theorem szQ_pos (q : Qn) : 1 ≤ szQ q := by cases q <;> simp only [szQ] <;> omega
theorem szL_app (a b : List Ps) : szL (a ++ b) = szL a + szL b := by simp [szL]
theorem szL_rev (a : List Ps) : szL a.reverse = szL a := by simp [szL]
theorem szL_len : ∀ a : List Ps, a.length ≤ szL a
  | [] => Nat.le_refl _
  | x :: r => by
    have := szL_len r
    have h : 1 ≤ szP x := by
      cases x with
      | s x => exact Nat.le_refl _
      | q p => exact szQ_pos p
    simp only [szL, List.map_cons, List.sum_cons, List.length_cons] at *
    omega
theorem sg_len (z : Str) : (sg z).length = z.length := by simp [sg, PySem.Str.length]
theorem inter_len (sep : List Nat) : ∀ xs : List (List Nat), (inter sep xs).length ≤ (xs.map (·.length)).sum + xs.length * sep.length
  | [] => by simp [inter]
  | [x] => by simp [inter]
  | x :: y :: r => by
    have := inter_len sep (y :: r)
    simp only [inter, List.length_append, List.map_cons, List.sum_cons, List.length_cons] at *
    rw [Nat.succ_mul]
    omega
theorem kd_len (q : Qn) : (kd q).length ≤ 10 := by
  cases q with
  | two k => show k.s.length ≤ 10; cases k <;> decide
  | look k => show k.s.length ≤ 10; cases k <;> decide
  | total k => show k.s.length ≤ 10; cases k <;> decide
  | link k => show k.s.length ≤ 10; cases k <;> decide
  | _ => simp only [kd]; decide
theorem with_len {w : Option Int} (h : ∀ k, w = some k → k.natAbs < bigZ) : (withS w).length ≤ 62 := by
  cases w with
  | none => decide
  | some n => exact dec_len (h n rfl)
theorem sgQ_len : ∀ q : Qn, smQ q → (sgQ q).length ≤ 1400 * cntQ q
  | .fact n ts, h => by
    have h1 := isW_len h.1
    have h2 := inter_len cs2 ((ts.map termS).map sg)
    have h3 := join_bd2 h.2.1 h.2.2
    have h4 : (PySem.Str.ofString ", ").length = 2 := by decide
    have h5 : cs2.length = 2 := rfl
    have h6 : ((ts.map termS).map sg).map (·.length) = (ts.map termS).map (·.length) := by
      rw [List.map_map]
      exact List.map_congr_left fun x _ => sg_len x
    rw [h6, h5, List.length_map] at h2
    rw [h4] at h3
    simp only [sgQ, List.length_append, sg_len, cntQ, List.length_cons, List.length_nil]
    omega
  | .two k p q, h => by
    have h1 := sgQ_len p h.1
    have h2 := sgQ_len q h.2
    have h3 := kd_len (.two k p q)
    simp only [kd] at h3
    simp only [sgQ, List.length_append, sg_len, cntQ, o1, c1, cs2, List.length_cons, List.length_nil]
    omega
  | .only cs p, h => by
    have h1 := sgQ_len p h.2
    have h2 := keep_len h.1.1 h.1.2
    have h3 := kd_len (.only cs p)
    simp only [kd] at h3
    simp only [sgQ, List.length_append, sg_len, cntQ, o1, c1, cs2, List.length_cons, List.length_nil]
    omega
  | .whr t l r p, h => by
    have h1 := sgQ_len p h.2
    have h2 := isW_len h.1.1
    have h4 := termS_len h.1.2.1
    have h5 := termS_len h.1.2.2
    have h3 := kd_len (.whr t l r p)
    simp only [kd] at h3
    simp only [sgQ, List.length_append, sg_len, cntQ, o1, c1, cs2, List.length_cons, List.length_nil]
    omega
  | .shift n p, h => by
    have h1 := sgQ_len p h.2
    have h2 := dec_len h.1
    have h3 := kd_len (.shift n p)
    simp only [kd] at h3
    simp only [sgQ, List.length_append, sg_len, cntQ, o1, c1, cs2, List.length_cons, List.length_nil]
    omega
  | .look k w p, h => by
    have h1 := sgQ_len p h.2
    have h2 := with_len h.1
    have h3 := kd_len (.look k w p)
    simp only [kd] at h3
    simp only [sgQ, List.length_append, sg_len, cntQ, o1, c1, cs2, List.length_cons, List.length_nil]
    omega
  | .count n ks p, h => by
    have h1 := sgQ_len p h.2
    have h2 := isW_len h.1.1
    have h4 := keep_len h.1.2.1 h.1.2.2
    have h3 := kd_len (.count n ks p)
    simp only [kd] at h3
    simp only [sgQ, List.length_append, sg_len, cntQ, o1, c1, cs2, List.length_cons, List.length_nil]
    omega
  | .total k n c ks p, h => by
    have h1 := sgQ_len p h.2
    have h2 := isW_len h.1.1
    have h5 := isW_len h.1.2.1
    have h4 := keep_len h.1.2.2.1 h.1.2.2.2
    have h3 := kd_len (.total k n c ks p)
    simp only [kd] at h3
    simp only [sgQ, List.length_append, sg_len, cntQ, o1, c1, cs2, List.length_cons, List.length_nil]
    omega
  | .link k x y p, h => by
    have h1 := sgQ_len p h.2
    have h2 := isW_len h.1.1
    have h4 := isW_len h.1.2
    have h3 := kd_len (.link k x y p)
    simp only [kd] at h3
    simp only [sgQ, List.length_append, sg_len, cntQ, o1, c1, cs2, List.length_cons, List.length_nil]
    omega
/-! ### write_question -/
noncomputable def mD (d : D) : Nat := @dite _ (∃ p, encPs p = d) (Classical.propDecidable _) (fun h => szP (Classical.choose h)) fun _ => 0
theorem mD_enc (p : Ps) : mD (encPs p) = szP p := by
  unfold mD
  have h : ∃ p', encPs p' = encPs p := ⟨p, rfl⟩
  rw [dif_pos h]
  rw [encPs_inj (Classical.choose_spec h)]
noncomputable def mE : DEnv → Nat
  | _ :: _ :: some (.lst xs) :: _ => (xs.map mD).sum
  | _ => 0
theorem mE_ps {a b : Option D} {l : List Ps} {r : DEnv} : mE (a :: b :: some (.lst (l.map encPs)) :: r) = szL l := by
  show ((l.map encPs).map mD).sum = _
  rw [List.map_map]
  unfold szL
  congr 1
  exact List.map_congr_left fun p _ => mD_enc p
def stQ (l : List Ps) : List Nat := (l.reverse.map sgP).flatten
def Psm : Ps → Prop
  | .s _ => True
  | .q p => smQ p
theorem wp_sm (q : Qn) (h : smQ q) : ∀ x ∈ wp q, Psm x := by
  cases q with
  | fact n ts => simp [wp, Psm]
  | two k p q =>
    have h' : smQ p ∧ smQ q := h
    simpa [wp, kd, itL, comm, qT, wT, cT, tT, List.dropLast, Psm] using h'
  | _ => simpa [wp, kd, itL, comm, qT, wT, cT, tT, List.dropLast, Psm] using h.2
def sp_write_question : FSpec where
  pre := fun ds => ∃ q : Qn, ds = [encQ q] ∧ smQ q ∧ cntQ q ≤ 8192
  post := fun ds r ds' => ds' = ds ∧ ∀ q : Qn, ds = [encQ q] → ∃ z, r = .str z ∧ sg z = sgQ q
theorem wq_post {q : Qn} {r : D} {z : Str} (h : r = .str z) (e : sg z = sgQ q) : ∀ q' : Qn, [encQ q] = [encQ q'] → ∃ z, r = .str z ∧ sg z = sgQ q' := by
  intro q' e'
  simp only [List.cons.injEq, and_true] at e'
  cases encQ_inj e'
  exact ⟨z, h, e⟩
/-- slots: 0 question, 1 written, 2 waiting, 3 piece -/
def w_write_question : WS :=
    (cSeq (cAsg 1 [0] 1 (cLst cNil))
    (cSeq (cAsg 1 [0] 2 (cLst (cCons (cVar 0) cNil)))
    (cSeq (cWhile (cTru 2)
      (cSeq (cAsg 1 [0] 3 (cMeth 2 fPop cNil))
        (cIte (cIsi .str (cVar 3))
          (cEx (cMeth 1 fAppend (cCons (cVar 3) cNil)))
          (cEx (cMeth 2 fExtendL (cCons (cUn fRev (cCallN 1 sp_written_pieces (cCons (cVar 3) cNil))) cNil))))))
    (cRet 1 (cUn (fJoin (PySem.Str.ofString "")) (cVar 1))))))
local macro_rules | `(tactic| walk_at "Ddlx") => `(tactic| ((conv => whnf); (repeat ((first | ((with_reducible refine And.intro (stOk_nl ?_ ?_) ?_); (focus (with_reducible first | assumption | exact encQ_nl _ | exact encO_nl _ | exact encC_nl _)); (focus exact rfl)) | ((refine pick_nl ?_ ?_); (focus (with_reducible first | assumption | exact encQ_nl _ | exact encO_nl _ | exact encC_nl _))) | ((with_reducible refine And.intro ?_ ?_); (focus (with_reducible first | assumption | exact encQ_nl _ | exact encO_nl _ | exact encC_nl _))) | ((with_reducible refine And.intro (immA_c ?_ ?_) ?_); (focus (first | (with_reducible first | assumption | exact encQ_nl _ | exact encO_nl _ | exact encC_nl _) | exact rfl)); (focus ((repeat ((with_reducible refine immA_c ?_ ?_); (focus (first | (with_reducible first | assumption | exact encQ_nl _ | exact encO_nl _ | exact encC_nl _) | exact rfl)))); exact rfl))) | refine And.intro rfl ?_ | refine And.intro trivial ?_ | refine And.intro ⟨rfl, trivial⟩ ?_ | refine And.intro ⟨rfl, rfl, trivial⟩ ?_ | refine ifb_nq (by first | assumption | decide) ?_ | refine ifb_pq (by assumption) ?_ | refine ifb_er ?_ | refine ifb_t ?_ | refine ifb_f ?_ | refine ifb_nr ?_ | refine ifb_er ?_ | ((with_reducible refine And.intro (?_ : (_ : Nat) ≤ _) ?_); (focus (first | decide | omega | (unfold CMul; omega) | (unfold CDiv; omega) | (unfold CPow; decide) | (exact cpow1 (by omega) (by omega)) | (simp only [rngD_len, List.length_replicate, List.length_map, List.length_append, List.length_cons, List.length_nil, List.length_set] at *; omega)))) | ((with_reducible refine And.intro (?_ : (_ : Int) ≤ _) ?_); (focus (first | decide | omega | (unfold CMul; omega) | (unfold CDiv; omega) | (unfold CPow; decide) | (exact cpow1 (by omega) (by omega)) | (simp only [rngD_len, List.length_replicate, List.length_map, List.length_append, List.length_cons, List.length_nil, List.length_set] at *; omega)))) | ((with_reducible refine And.intro (?_ : (_ : Nat) < _) ?_); (focus (first | decide | omega | (unfold CMul; omega) | (unfold CDiv; omega) | (unfold CPow; decide) | (exact cpow1 (by omega) (by omega)) | (simp only [rngD_len, List.length_replicate, List.length_map, List.length_append, List.length_cons, List.length_nil, List.length_set] at *; omega)))) | ((with_reducible refine And.intro (?_ : (_ : Int) < _) ?_); (focus (first | decide | omega | (unfold CMul; omega) | (unfold CDiv; omega) | (unfold CPow; decide) | (exact cpow1 (by omega) (by omega)) | (simp only [rngD_len, List.length_replicate, List.length_map, List.length_append, List.length_cons, List.length_nil, List.length_set] at *; omega)))) | ((with_reducible refine And.intro (?_ : CMul _ _) ?_); (focus (first | decide | omega | (unfold CMul; omega) | (unfold CDiv; omega) | (unfold CPow; decide) | (exact cpow1 (by omega) (by omega)) | (simp only [rngD_len, List.length_replicate, List.length_map, List.length_append, List.length_cons, List.length_nil, List.length_set] at *; omega)))) | ((with_reducible refine And.intro (?_ : CDiv _ _) ?_); (focus (first | decide | omega | (unfold CMul; omega) | (unfold CDiv; omega) | (unfold CPow; decide) | (exact cpow1 (by omega) (by omega)) | (simp only [rngD_len, List.length_replicate, List.length_map, List.length_append, List.length_cons, List.length_nil, List.length_set] at *; omega)))) | ((with_reducible refine And.intro (?_ : CPow _ _) ?_); (focus (first | decide | omega | (unfold CMul; omega) | (unfold CDiv; omega) | (unfold CPow; decide) | (exact cpow1 (by omega) (by omega)) | (simp only [rngD_len, List.length_replicate, List.length_map, List.length_append, List.length_cons, List.length_nil, List.length_set] at *; omega)))) | ((with_reducible refine And.intro (?_ : (_ : Nat) = _) ?_); (focus (first | decide | omega | (unfold CMul; omega) | (unfold CDiv; omega) | (unfold CPow; decide) | (exact cpow1 (by omega) (by omega)) | (simp only [rngD_len, List.length_replicate, List.length_map, List.length_append, List.length_cons, List.length_nil, List.length_set] at *; omega))))); (conv => whnf); (try dsimp only [List.set_cons_zero, List.set_cons_succ, upA, wipeE, back, List.getElem?_cons_zero, List.getElem?_cons_succ, Option.getD_some]))); (try dsimp only [List.set_cons_zero, List.set_cons_succ, upA, wipeE, back, List.getElem?_cons_zero, List.getElem?_cons_succ, Option.getD_some])))
theorem pure_write_question : ∀ ds, ds.length = 1 → sp_write_question.pre ds → w_write_question (env0 ds 3) { nx := fun e => sp_write_question.post ds .non (outs e 1), rt := fun d e => sp_write_question.post ds d (outs e 1) } := by
  rintro ds _ ⟨q, rfl, hs, hc⟩
  have post := fun {r : D} {z : Str} h e => wq_post (q := q) (r := r) (z := z) h e
  have hz := szQ_cnt q
  obtain ⟨tq, eq⟩ := encQ_tup q
  have hl := sgQ_len q hs
  rw [eq] at post ⊢
  walk_at "Ddlx"
  refine ⟨fun e => ∃ (w : List Str) (l : List Ps) (o : Option D), (w.length + szL l ≤ szQ q ∧ (w.map sg).flatten ++ stQ l = sgQ q ∧ ∀ x ∈ l, Psm x) ∧ e = [some (.tup tq), some (.lst (w.map D.str)), some (.lst (l.map encPs)), o], mE, ⟨[], [.q q], none, ⟨by simp [szL, szP], by simp [stQ, sgP], by simpa [Psm] using hs⟩, by simp only [List.map_cons, List.map_nil, encPs, eq]; rfl⟩, ?_⟩
  rintro _ ⟨w, l, o, ⟨h1, h2, h3⟩, rfl⟩
  by_cases hl0 : l = []
  · subst hl0
    have e0 : stQ [] = [] := rfl
    rw [e0, List.append_nil] at h2
    have hl2 : (w.map (·.length)).sum = (sgQ q).length := by
      rw [← h2, List.length_flatten, List.map_map]
      congr 1
    have h0 : (PySem.Str.ofString "").length = 0 := by decide
    walk_at "Ddlx"
    rw [strsD_map]
    refine ⟨by rw [h0]; omega, ?_⟩
    refine ⟨rfl, post rfl ?_⟩
    rw [sg_join, show sg (PySem.Str.ofString "") = [] from by decide, inter_nil, h2]
  · obtain ⟨u, a, rfl⟩ : ∃ u a, l = u ++ [a] := ⟨_, _, (List.dropLast_concat_getLast hl0).symm⟩
    have el : ((u ++ [a]).map encPs).getLast? = some (encPs a) := by simp
    have ed : ((u ++ [a]).map encPs).dropLast = u.map encPs := by simp
    have ee : ((u ++ [a]).map encPs).isEmpty = false := by cases u <;> rfl
    have es : stQ (u ++ [a]) = sgP a ++ stQ u := by simp [stQ]
    have ez : szL (u ++ [a]) = szL u + szP a := by simp [szL]
    have ul := szL_len u
    have ha : Psm a := h3 a (by simp)
    have hu : ∀ x ∈ u, Psm x := fun x hx => h3 x (by simp [hx])
    rw [ez] at h1
    rw [es] at h2
    rw [mE_ps, ez]
    generalize (u ++ [a]).map encPs = A at *
    conv => whnf
    rw [ee]
    walk_at "Ddlx"
    rw [el, ed]
    cases a with
    | s x =>
      have hw : (w.map D.str).length < 1000000 := by rw [List.length_map]; simp only [szP] at h1; omega
      simp only [encPs]
      walk_at "Ddlx"
      try refine ⟨hw, ?_⟩
      walk_at "Ddlx"
      refine ⟨⟨w ++ [x], u, _, ⟨by simp only [szP, List.length_append, List.length_cons, List.length_nil] at h1 ⊢; omega, by rw [← h2]; simp [sgP], hu⟩, by rw [List.map_append]; rfl⟩, ?_⟩
      rw [mE_ps]
      simp only [szP]
      omega
    | q p =>
      have hp : smQ p := ha
      have wz := wp_sz p
      have wl := szL_len (wp p)
      have wpi : sp_written_pieces.pre [encQ p] ∧ ∀ r ds', sp_written_pieces.post [encQ p] r ds' → ds' = [encQ p] ∧ r = .lst ((wp p).map encPs) := ⟨⟨p, rfl, smQ_own hp⟩, fun r ds' h => ⟨h.1, h.2 p rfl⟩⟩
      have hw : (u.map encPs).length + ((wp p).map encPs).reverse.length ≤ 1000000 := by
        rw [List.length_map, List.length_reverse, List.length_map]
        simp only [szP] at h1
        omega
      obtain ⟨tp, ep⟩ := encQ_tup p
      simp only [encPs]
      rw [ep] at wpi ⊢
      walk_at "Ddlx"
      try refine ⟨wpi.1, ?_⟩
      intro r ds' h
      obtain ⟨rfl, rfl⟩ := wpi.2 r ds' h
      walk_at "Ddlx"
      try refine ⟨hw, ?_⟩
      walk_at "Ddlx"
      have e9 : u.map encPs ++ ((wp p).map encPs).reverse = (u ++ (wp p).reverse).map encPs := by simp
      rw [e9]
      refine ⟨⟨w, u ++ (wp p).reverse, _, ⟨?_, ?_, ?_⟩, rfl⟩, ?_⟩
      · rw [szL_app, szL_rev]
        simp only [szP] at h1
        omega
      · rw [← h2]
        congr 1
        simp only [stQ, List.reverse_append, List.reverse_reverse, List.map_append, List.flatten_append, wp_sg, sgP]
      · intro x hx
        rcases List.mem_append.mp hx with h | h
        · exact hu x h
        · exact wp_sm p hp x (List.mem_reverse.mp h)
      · rw [mE_ps, szL_app, szL_rev]
        simp only [szP]
        omega
end DL

set_option maxHeartbeats 1000000
namespace DL
open PySem PySem.Spec PyProof.Rows L2
/-! ### the law's own tokens -/
def tkC (cs : List Str) : List Str := [PySem.Str.ofString "{"] ++ listF [] (cs.map fun x => [x]) ++ [PySem.Str.ofString "}"]
def tkW (k : Str) (L : List (List Str)) : List Str := [k, PySem.Str.ofString "("] ++ listF [] L ++ [PySem.Str.ofString ")"]
def tkQ : Qn → List Str
  | .fact n ts => [n, PySem.Str.ofString "["] ++ listF [] (ts.map fun t => [termS t]) ++ [PySem.Str.ofString "]"]
  | .two k p q => tkW k.s [tkQ p, tkQ q]
  | .only cs p => tkW (PySem.Str.ofString "only") [tkC cs, tkQ p]
  | .whr t l r p => tkW (PySem.Str.ofString "where") [[t], [termS l], [termS r], tkQ p]
  | .shift n p => tkW (PySem.Str.ofString "shift") [[decS n], tkQ p]
  | .look k w p => tkW k.s [[withS w], tkQ p]
  | .count n ks p => tkW (PySem.Str.ofString "count") [[n], tkC ks, tkQ p]
  | .total k n c ks p => tkW k.s [[n], [c], tkC ks, tkQ p]
  | .link k x y p => tkW k.s [[x], [y], tkQ p]
def tkI : Qn → List (List Str)
  | .fact .. => []
  | .two _ p q => [tkQ p, tkQ q]
  | .only cs p => [tkC cs, tkQ p]
  | .whr t l r p => [[t], [termS l], [termS r], tkQ p]
  | .shift n p => [[decS n], tkQ p]
  | .look _ w p => [[withS w], tkQ p]
  | .count n ks p => [[n], tkC ks, tkQ p]
  | .total _ n c ks p => [[n], [c], tkC ks, tkQ p]
  | .link _ x y p => [[x], [y], tkQ p]
theorem tkQ_eq (q : Qn) (h : ix q ≠ 0) : tkQ q = tkW (kd q) (tkI q) := by
  cases q <;> first | exact absurd rfl h | rfl
/-! how many -/
theorem listF_len : ∀ (L : List (List Str)) (acc : List Str), (listF acc L).length ≤ acc.length + lenLL L
  | [], acc => by simp [listF, lenLL]
  | x :: r, acc => by
    have h := listF_len r ((if acc = [] then acc else acc ++ [cm]) ++ x)
    simp only [listF]
    have e : lenLL (x :: r) = x.length + 1 + lenLL r := by simp [lenLL]
    rw [e]
    rw [List.length_append] at h
    by_cases g : acc = []
    · rw [if_pos g] at h ⊢; omega
    · rw [if_neg g, List.length_append] at h
      rw [if_neg g]
      simp only [List.length_cons, List.length_nil] at h
      omega
theorem lenLL_one {α : Type} (f : α → Str) : ∀ l : List α, lenLL (l.map fun x => [f x]) = 2 * l.length
  | [] => rfl
  | a :: r => by
    have := lenLL_one f r
    simp only [lenLL, List.map_cons, List.sum_cons, List.length_cons, List.length_nil] at this ⊢
    omega
theorem tkC_len {cs : List Str} (h : cs.length ≤ 10) : (tkC cs).length ≤ 22 := by
  have h1 := listF_len (cs.map fun x => [x]) []
  rw [lenLL_one fun x => x] at h1
  simp only [tkC, List.length_append, List.length_cons, List.length_nil] at h1 ⊢
  omega
theorem tkW_len (k : Str) (L : List (List Str)) : (tkW k L).length ≤ 3 + lenLL L := by
  have h1 := listF_len L []
  simp only [tkW, List.length_append, List.length_cons, List.length_nil] at h1 ⊢
  omega
theorem tkI_len : ∀ q : Qn, smQ q → (tkQ q).length ≤ 40 * cntQ q ∧ lenLL (tkI q) + 5 ≤ 40 * cntQ q
  | .fact n ts, h => by
    have h1 := listF_len (ts.map fun t => [termS t]) []
    rw [lenLL_one termS] at h1
    have h2 := h.2.1
    refine ⟨?_, by simp [tkI, lenLL, cntQ]⟩
    simp only [tkQ, List.length_append, List.length_cons, List.length_nil, cntQ] at h1 ⊢
    omega
  | .two k p q, h => by
    obtain ⟨a, _⟩ := tkI_len p h.1
    obtain ⟨b, _⟩ := tkI_len q h.2
    have e : lenLL [tkQ p, tkQ q] + 5 ≤ 40 * cntQ (.two k p q) := by simp only [lenLL, cntQ, List.map_cons, List.map_nil, List.sum_cons, List.sum_nil]; omega
    exact ⟨Nat.le_trans (tkW_len _ _) (by omega), e⟩
  | .only cs p, h => by
    obtain ⟨a, _⟩ := tkI_len p h.2
    have c := tkC_len h.1.1
    have e : lenLL [tkC cs, tkQ p] + 5 ≤ 40 * cntQ (.only cs p) := by simp only [lenLL, cntQ, List.map_cons, List.map_nil, List.sum_cons, List.sum_nil]; omega
    exact ⟨Nat.le_trans (tkW_len _ _) (by omega), e⟩
  | .whr t l r p, h => by
    obtain ⟨a, _⟩ := tkI_len p h.2
    have e : lenLL [[t], [termS l], [termS r], tkQ p] + 5 ≤ 40 * cntQ (.whr t l r p) := by simp only [lenLL, cntQ, List.map_cons, List.map_nil, List.sum_cons, List.sum_nil, List.length_cons, List.length_nil]; omega
    exact ⟨Nat.le_trans (tkW_len _ _) (by omega), e⟩
  | .shift n p, h => by
    obtain ⟨a, _⟩ := tkI_len p h.2
    have e : lenLL [[decS n], tkQ p] + 5 ≤ 40 * cntQ (.shift n p) := by simp only [lenLL, cntQ, List.map_cons, List.map_nil, List.sum_cons, List.sum_nil, List.length_cons, List.length_nil]; omega
    exact ⟨Nat.le_trans (tkW_len _ _) (by omega), e⟩
  | .look k w p, h => by
    obtain ⟨a, _⟩ := tkI_len p h.2
    have e : lenLL [[withS w], tkQ p] + 5 ≤ 40 * cntQ (.look k w p) := by simp only [lenLL, cntQ, List.map_cons, List.map_nil, List.sum_cons, List.sum_nil, List.length_cons, List.length_nil]; omega
    exact ⟨Nat.le_trans (tkW_len _ _) (by omega), e⟩
  | .count n ks p, h => by
    obtain ⟨a, _⟩ := tkI_len p h.2
    have c := tkC_len h.1.2.1
    have e : lenLL [[n], tkC ks, tkQ p] + 5 ≤ 40 * cntQ (.count n ks p) := by simp only [lenLL, cntQ, List.map_cons, List.map_nil, List.sum_cons, List.sum_nil, List.length_cons, List.length_nil]; omega
    exact ⟨Nat.le_trans (tkW_len _ _) (by omega), e⟩
  | .total k n c ks p, h => by
    obtain ⟨a, _⟩ := tkI_len p h.2
    have c' := tkC_len h.1.2.2.1
    have e : lenLL [[n], [c], tkC ks, tkQ p] + 5 ≤ 40 * cntQ (.total k n c ks p) := by simp only [lenLL, cntQ, List.map_cons, List.map_nil, List.sum_cons, List.sum_nil, List.length_cons, List.length_nil]; omega
    exact ⟨Nat.le_trans (tkW_len _ _) (by omega), e⟩
  | .link k x y p, h => by
    obtain ⟨a, _⟩ := tkI_len p h.2
    have e : lenLL [[x], [y], tkQ p] + 5 ≤ 40 * cntQ (.link k x y p) := by simp only [lenLL, cntQ, List.map_cons, List.map_nil, List.sum_cons, List.sum_nil, List.length_cons, List.length_nil]; omega
    exact ⟨Nat.le_trans (tkW_len _ _) (by omega), e⟩
/-! the signs of the tokens are those of the written form -/
def pdL (ts : List Str) : List Nat := (ts.map pd).flatten
theorem pdL_app (a b : List Str) : pdL (a ++ b) = pdL a ++ pdL b := by simp [pdL]
theorem pd_cm : pd cm = cs2 := by decide
theorem pd_ne {w : Str} (h : w ≠ cm) : pd w = sg w := by unfold pd; rw [if_neg h, List.append_nil]
theorem inter_cons (sep x : List Nat) : ∀ r : List (List Nat), inter sep (x :: r) = x ++ (r.map fun y => sep ++ y).flatten
  | [] => by simp [inter]
  | y :: r => by
    show x ++ sep ++ inter sep (y :: r) = _
    rw [inter_cons sep y r]
    simp
theorem listF_pd : ∀ (L : List (List Str)) (acc : List Str), acc ≠ [] → (∀ x ∈ L, x ≠ []) → pdL (listF acc L) = pdL acc ++ ((L.map pdL).map fun y => cs2 ++ y).flatten
  | [], acc, _, _ => by simp [listF]
  | x :: r, acc, h, hx => by
    simp only [listF]
    rw [if_neg h, listF_pd r _ (by simp) fun y hy => hx y (by simp [hy]), pdL_app, pdL_app]
    simp [pdL, pd_cm]
theorem listF_pd0 {L : List (List Str)} (hx : ∀ x ∈ L, x ≠ []) : pdL (listF [] L) = inter cs2 (L.map pdL) := by
  cases L with
  | nil => rfl
  | cons x r =>
    simp only [listF, if_true, List.nil_append, List.map_cons]
    rw [listF_pd r x (hx x (by simp)) fun y hy => hx y (by simp [hy]), inter_cons]
theorem pdL_one (w : Str) : pdL [w] = pd w := by simp [pdL]
theorem brace {w : Str} (h : w ∈ [PySem.Str.ofString "{", PySem.Str.ofString "}", PySem.Str.ofString "(", PySem.Str.ofString ")", PySem.Str.ofString "[", PySem.Str.ofString "]"]) : pd w = sg w := by
  refine pd_ne ?_
  revert w
  decide
theorem tkC_pd {cs : List Str} (h : ∀ x ∈ cs, isW x = true) : pdL (tkC cs) = sg (keepS cs) := by
  have e : (cs.map fun x => [x]).map pdL = cs.map sg := by
    rw [List.map_map]
    refine List.map_congr_left fun x hx => ?_
    show pdL [x] = sg x
    rw [pdL_one, pd_ne (isW_nc (h x hx))]
  unfold tkC keepS
  rw [pdL_app, pdL_app, listF_pd0 (by simp), e, pdL_one, pdL_one, brace (by simp), brace (by simp), sg_app, sg_app, sg_join, sg_c]
theorem tkW_pd {k : Str} {L : List (List Str)} (hk : k ≠ cm) (h : ∀ x ∈ L, x ≠ []) : pdL (tkW k L) = sg k ++ o1 ++ inter cs2 (L.map pdL) ++ c1 := by
  unfold tkW
  rw [pdL_app, pdL_app, listF_pd0 h, pdL_one, brace (by simp), sg_e]
  have : pdL [k, PySem.Str.ofString "("] = sg k ++ o1 := by
    show pd k ++ (pd (PySem.Str.ofString "(") ++ []) = _
    rw [pd_ne hk, brace (by simp), sg_o, List.append_nil]
  rw [this]
theorem kd_ne (q : Qn) : kd q ≠ cm := by
  cases q with
  | two k => show k.s ≠ cm; cases k <;> decide
  | look k => show k.s ≠ cm; cases k <;> decide
  | total k => show k.s ≠ cm; cases k <;> decide
  | link k => show k.s ≠ cm; cases k <;> decide
  | _ => simp only [kd]; decide
theorem tkQ_ne (q : Qn) : tkQ q ≠ [] := by cases q <;> simp [tkQ, tkW]
theorem tkC_ne (cs : List Str) : tkC cs ≠ [] := by simp [tkC]
theorem with_ne (w : Option Int) : withS w ≠ cm := by
  cases w with
  | none => decide
  | some n => exact dec_ne n
theorem tkQ_pd : ∀ q : Qn, smQ q → pdL (tkQ q) = sgQ q
  | .fact n ts, h => by
    have e : (ts.map fun t => [termS t]).map pdL = (ts.map termS).map sg := by
      rw [List.map_map, List.map_map]
      refine List.map_congr_left fun t ht => ?_
      show pdL [termS t] = sg (termS t)
      rw [pdL_one, pd_ne (termS_ne (h.2.2 t ht))]
    have e1 : sg (PySem.Str.ofString "[") = [91] := by decide
    have e2 : sg (PySem.Str.ofString "]") = [93] := by decide
    have e3 : pdL [n, PySem.Str.ofString "["] = sg n ++ [91] := by
      show pd n ++ (pd (PySem.Str.ofString "[") ++ []) = _
      rw [pd_ne (isW_nc h.1), brace (by simp), e1, List.append_nil]
    simp only [tkQ, sgQ]
    rw [pdL_app, pdL_app, listF_pd0 (by simp), e, pdL_one, e3, brace (by simp), e2]
    simp
  | .two k p q, h => by
    have a := tkQ_pd p h.1
    have b := tkQ_pd q h.2
    have hk := kd_ne (.two k p q)
    simp only [kd] at hk
    simp only [tkQ, sgQ]
    rw [tkW_pd hk (by simp [tkQ_ne])]
    simp only [List.map_cons, List.map_nil, inter, a, b]
  | .only cs p, h => by
    have a := tkQ_pd p h.2
    have c := tkC_pd h.1.2
    have hk := kd_ne (.only cs p)
    simp only [kd] at hk
    simp only [tkQ, sgQ]
    rw [tkW_pd hk (by simp [tkQ_ne, tkC_ne])]
    simp only [List.map_cons, List.map_nil, inter, a, c]
  | .whr t l r p, h => by
    have a := tkQ_pd p h.2
    have hk := kd_ne (.whr t l r p)
    simp only [kd] at hk
    simp only [tkQ, sgQ]
    rw [tkW_pd hk (by simp [tkQ_ne])]
    simp only [List.map_cons, List.map_nil, inter, a, pdL_one, pd_ne (isW_nc h.1.1), pd_ne (termS_ne h.1.2.1), pd_ne (termS_ne h.1.2.2)]
  | .shift n p, h => by
    have a := tkQ_pd p h.2
    have hk := kd_ne (.shift n p)
    simp only [kd] at hk
    simp only [tkQ, sgQ]
    rw [tkW_pd hk (by simp [tkQ_ne])]
    simp only [List.map_cons, List.map_nil, inter, a, pdL_one, pd_ne (dec_ne n)]
  | .look k w p, h => by
    have a := tkQ_pd p h.2
    have hk := kd_ne (.look k w p)
    simp only [kd] at hk
    simp only [tkQ, sgQ]
    rw [tkW_pd hk (by simp [tkQ_ne])]
    simp only [List.map_cons, List.map_nil, inter, a, pdL_one, pd_ne (with_ne w)]
  | .count n ks p, h => by
    have a := tkQ_pd p h.2
    have c := tkC_pd h.1.2.2
    have hk := kd_ne (.count n ks p)
    simp only [kd] at hk
    simp only [tkQ, sgQ]
    rw [tkW_pd hk (by simp [tkQ_ne, tkC_ne])]
    simp only [List.map_cons, List.map_nil, inter, a, c, pdL_one, pd_ne (isW_nc h.1.1)]
  | .total k n c ks p, h => by
    have a := tkQ_pd p h.2
    have c' := tkC_pd h.1.2.2.2
    have hk := kd_ne (.total k n c ks p)
    simp only [kd] at hk
    simp only [tkQ, sgQ]
    rw [tkW_pd hk (by simp [tkQ_ne, tkC_ne])]
    simp only [List.map_cons, List.map_nil, inter, a, c', pdL_one, pd_ne (isW_nc h.1.1), pd_ne (isW_nc h.1.2.1)]
  | .link k x y p, h => by
    have a := tkQ_pd p h.2
    have hk := kd_ne (.link k x y p)
    simp only [kd] at hk
    simp only [tkQ, sgQ]
    rw [tkW_pd hk (by simp [tkQ_ne])]
    simp only [List.map_cons, List.map_nil, inter, a, pdL_one, pd_ne (isW_nc h.1.1), pd_ne (isW_nc h.1.2)]
end DL

set_option maxHeartbeats 1000000
namespace DL
open PySem PySem.Spec PyProof.Rows L2
/-! ### the law's own pieces -/
def whS : Str := PySem.Str.ofString "where"
inductive TKi (q : Qn) : Nat → D → List Str → Prop
  | none (i : Nat) : TKi q i .non [PySem.Str.ofString "ever"]
  | int (i : Nat) (n : Int) : n.natAbs < bigZ → TKi q i (.int n) [decS n]
  | str (i : Nat) (w : Str) : TKi q i (.str w) [w]
  | part (i : Nat) (p : Qn) : p ∈ partsQ q → (ix q = 1 ∨ i + 1 = (itemsQ q).length) → TKi q i (encQ p) (tkQ p)
  | term (i : Nat) (t : Tm) : okTm t → ix q ≠ 1 → i + 1 ≠ (itemsQ q).length → kd q = whS → TKi q i (encTm t) [termS t]
  | cols (i : Nat) (cs : List Str) : cs.length ≤ 10 → ix q ≠ 1 → i + 1 ≠ (itemsQ q).length → kd q ≠ whS → TKi q i (encC cs) (tkC cs)
theorem TKi_of (q : Qn) (hx : ix q ≠ 0) (h : smN q) (i : Nat) (d : D) (hd : (itemsQ q)[i]? = some d) : ∃ tk, (tkI q)[i]? = some tk ∧ TKi q i d tk := by
  have nw1 : ∀ cs p, kd (.only cs p) ≠ whS := fun _ _ => by simp only [kd]; decide
  have nw2 : ∀ n cs p, kd (.count n cs p) ≠ whS := fun _ _ _ => by simp only [kd]; decide
  have nw3 : ∀ k n c cs p, kd (.total k n c cs p) ≠ whS := fun k _ _ _ _ => by show k.s ≠ whS; cases k <;> decide
  cases q with
  | fact => exact absurd rfl hx
  | two k p q =>
    match i, hd with
    | 0, hd => cases hd; exact ⟨_, rfl, .part 0 p (by simp [partsQ]) (.inl rfl)⟩
    | 1, hd => cases hd; exact ⟨_, rfl, .part 1 q (by simp [partsQ]) (.inl rfl)⟩
    | n + 2, hd => simp [itemsQ] at hd
  | only cs p =>
    match i, hd with
    | 0, hd => cases hd; exact ⟨_, rfl, .cols 0 cs h.1 (by simp [ix]) (by simp [itemsQ]) (nw1 cs p)⟩
    | 1, hd => cases hd; exact ⟨_, rfl, .part 1 p (by simp [partsQ]) (.inr rfl)⟩
    | n + 2, hd => simp [itemsQ] at hd
  | whr t l r p =>
    match i, hd with
    | 0, hd => cases hd; exact ⟨_, rfl, .str 0 t⟩
    | 1, hd => cases hd; exact ⟨_, rfl, .term 1 l h.2.1 (by simp [ix]) (by simp [itemsQ]) rfl⟩
    | 2, hd => cases hd; exact ⟨_, rfl, .term 2 r h.2.2 (by simp [ix]) (by simp [itemsQ]) rfl⟩
    | 3, hd => cases hd; exact ⟨_, rfl, .part 3 p (by simp [partsQ]) (.inr rfl)⟩
    | n + 4, hd => simp [itemsQ] at hd
  | shift n p =>
    match i, hd with
    | 0, hd => cases hd; exact ⟨_, rfl, .int 0 n h⟩
    | 1, hd => cases hd; exact ⟨_, rfl, .part 1 p (by simp [partsQ]) (.inr rfl)⟩
    | n + 2, hd => simp [itemsQ] at hd
  | look k w p =>
    match i, hd with
    | 0, hd =>
      cases hd
      cases w with
      | none => exact ⟨_, rfl, .none 0⟩
      | some n => exact ⟨_, rfl, .int 0 n (h n rfl)⟩
    | 1, hd => cases hd; exact ⟨_, rfl, .part 1 p (by simp [partsQ]) (.inr rfl)⟩
    | n + 2, hd => simp [itemsQ] at hd
  | count nw ks p =>
    match i, hd with
    | 0, hd => cases hd; exact ⟨_, rfl, .str 0 nw⟩
    | 1, hd => cases hd; exact ⟨_, rfl, .cols 1 ks h.2.1 (by simp [ix]) (by simp [itemsQ]) (nw2 nw ks p)⟩
    | 2, hd => cases hd; exact ⟨_, rfl, .part 2 p (by simp [partsQ]) (.inr rfl)⟩
    | n + 3, hd => simp [itemsQ] at hd
  | total k nw c ks p =>
    match i, hd with
    | 0, hd => cases hd; exact ⟨_, rfl, .str 0 nw⟩
    | 1, hd => cases hd; exact ⟨_, rfl, .str 1 c⟩
    | 2, hd => cases hd; exact ⟨_, rfl, .cols 2 ks h.2.2.1 (by simp [ix]) (by simp [itemsQ]) (nw3 k nw c ks p)⟩
    | 3, hd => cases hd; exact ⟨_, rfl, .part 3 p (by simp [partsQ]) (.inr rfl)⟩
    | n + 4, hd => simp [itemsQ] at hd
  | link k x y p =>
    match i, hd with
    | 0, hd => cases hd; exact ⟨_, rfl, .str 0 x⟩
    | 1, hd => cases hd; exact ⟨_, rfl, .str 1 y⟩
    | 2, hd => cases hd; exact ⟨_, rfl, .part 2 p (by simp [partsQ]) (.inr rfl)⟩
    | n + 3, hd => simp [itemsQ] at hd
def spn_law_pieces : Nat → FSpec
  | 0 => ⟨fun _ => False, fun _ _ _ => False⟩
  | n + 1 => ⟨fun ds => ∃ q : Qn, ds = [encQ q] ∧ smQ q ∧ dpQ q ≤ n + 1 ∧ cntQ q ≤ 8192, fun ds r ds' => ds' = ds ∧ ∀ q : Qn, ds = [encQ q] → r = .lst ((tkQ q).map D.str)⟩
abbrev sp_law_pieces := spn_law_pieces 16
theorem lpc_post {q : Qn} {r : D} (h : r = .lst ((tkQ q).map D.str)) : ∀ q' : Qn, [encQ q] = [encQ q'] → r = .lst ((tkQ q').map D.str) := by
  intro q' e
  simp only [List.cons.injEq, and_true] at e
  cases encQ_inj e
  exact h
theorem ls_call {L : List (List Str)} (h : lenLL L ≤ 900000) : sp_law_listed.pre [.lst (encLL L)] ∧ ∀ r ds', sp_law_listed.post [.lst (encLL L)] r ds' → ds' = [.lst (encLL L)] ∧ r = .lst ((listF [] L).map D.str) := ⟨⟨L, rfl, h⟩, fun r ds' h => ⟨h.1, h.2 L rfl⟩⟩
/-- slots: 0 question, 1 kind, 2 items, 3 k, 4 item, 5 term, 6 x -/
def w_law_pieces (n : Nat) : WS :=
    (cSeq (cAsg 1 [0] 1 (cOp fIx (cVar 0) (cC (.int 0))))
    (cSeq (cIte (cOp fEqS (cVar 1) (cC (.str (PySem.Str.ofString "fact"))))
      (cRet 1 (cOp fAddG (cOp fAddG (cLst (cCons (cOp fIx (cVar 0) (cC (.int 1))) (cCons (cC (.str (PySem.Str.ofString "["))) cNil))) (cCallN 1 sp_law_listed (cCons (cLc [5] (iE (cOp fIx (cVar 0) (cC (.int 2)))) (gN 1 [] 5) tTrue (cFz (cLst (cCons (cCallN 1 sp_law_term_piece (cCons (cVar 5) cNil)) cNil)))) cNil))) (cLst (cCons (cC (.str (PySem.Str.ofString "]"))) cNil))))
      cNilS)
    (cSeq (cAsg 1 [0] 2 (cLst cNil))
    (cSeq (cFor [0] (iR2 (cC (.int 1)) (cBi fLen (cCons (cVar 0) cNil))) (gN 1 [0] 3)
      (cSeq (cAsg 1 [0] 4 (cOp fIx (cVar 0) (cVar 3)))
        (cIte (cUn (fIsN false) (cVar 4))
          (cEx (cMeth 2 fAppend (cCons (cFz (cLst (cCons (cC (.str (PySem.Str.ofString "ever"))) cNil))) cNil)))
          (cIte (cIsi .int (cVar 4))
              (cEx (cMeth 2 fAppend (cCons (cFz (cLst (cCons (cBi fStrX (cCons (cVar 4) cNil)) cNil))) cNil)))
              (cIte (cIsi .str (cVar 4))
                  (cEx (cMeth 2 fAppend (cCons (cFz (cLst (cCons (cVar 4) cNil))) cNil)))
                  (cIte (cOr (cCallN 1 sp_law_is_pair (cCons (cVar 1) cNil)) (cOp fEqS (cVar 3) (cOp fSub (cBi fLen (cCons (cVar 0) cNil)) (cC (.int 1)))))
                      (cEx (cMeth 2 fAppend (cCons (cFz (cCallN 1 (spn_law_pieces n) (cCons (cVar 4) cNil))) cNil)))
                      (cIte (cOp fEqS (cVar 1) (cC (.str (PySem.Str.ofString "where"))))
                          (cEx (cMeth 2 fAppend (cCons (cFz (cLst (cCons (cCallN 1 sp_law_term_piece (cCons (cVar 4) cNil)) cNil))) cNil)))
                          (cEx (cMeth 2 fAppend (cCons (cFz (cOp fAddG (cOp fAddG (cLst (cCons (cC (.str (PySem.Str.ofString "{"))) cNil)) (cCallN 1 sp_law_listed (cCons (cLc [6] (iE (cVar 4)) (gN 1 [] 6) tTrue (cFz (cLst (cCons (cVar 6) cNil)))) cNil))) (cLst (cCons (cC (.str (PySem.Str.ofString "}"))) cNil)))) cNil))))))))))
    (cRet 1 (cOp fAddG (cOp fAddG (cLst (cCons (cVar 1) (cCons (cC (.str (PySem.Str.ofString "("))) cNil))) (cCallN 1 sp_law_listed (cCons (cVar 2) cNil))) (cLst (cCons (cC (.str (PySem.Str.ofString ")"))) cNil))))))))
def wc_law_pieces_3 (n : Nat) : WS :=
    (cRet 1 (cOp fAddG (cOp fAddG (cLst (cCons (cVar 1) (cCons (cC (.str (PySem.Str.ofString "("))) cNil))) (cCallN 1 sp_law_listed (cCons (cVar 2) cNil))) (cLst (cCons (cC (.str (PySem.Str.ofString ")"))) cNil))))
def wc_law_pieces_2 (n : Nat) : WS :=
    (cCut (cFor [0] (iR2 (cC (.int 1)) (cBi fLen (cCons (cVar 0) cNil))) (gN 1 [0] 3)
      (cSeq (cAsg 1 [0] 4 (cOp fIx (cVar 0) (cVar 3)))
        (cIte (cUn (fIsN false) (cVar 4))
          (cEx (cMeth 2 fAppend (cCons (cFz (cLst (cCons (cC (.str (PySem.Str.ofString "ever"))) cNil))) cNil)))
          (cIte (cIsi .int (cVar 4))
              (cEx (cMeth 2 fAppend (cCons (cFz (cLst (cCons (cBi fStrX (cCons (cVar 4) cNil)) cNil))) cNil)))
              (cIte (cIsi .str (cVar 4))
                  (cEx (cMeth 2 fAppend (cCons (cFz (cLst (cCons (cVar 4) cNil))) cNil)))
                  (cIte (cOr (cCallN 1 sp_law_is_pair (cCons (cVar 1) cNil)) (cOp fEqS (cVar 3) (cOp fSub (cBi fLen (cCons (cVar 0) cNil)) (cC (.int 1)))))
                      (cEx (cMeth 2 fAppend (cCons (cFz (cCallN 1 (spn_law_pieces n) (cCons (cVar 4) cNil))) cNil)))
                      (cIte (cOp fEqS (cVar 1) (cC (.str (PySem.Str.ofString "where"))))
                          (cEx (cMeth 2 fAppend (cCons (cFz (cLst (cCons (cCallN 1 sp_law_term_piece (cCons (cVar 4) cNil)) cNil))) cNil)))
                          (cEx (cMeth 2 fAppend (cCons (cFz (cOp fAddG (cOp fAddG (cLst (cCons (cC (.str (PySem.Str.ofString "{"))) cNil)) (cCallN 1 sp_law_listed (cCons (cLc [6] (iE (cVar 4)) (gN 1 [] 6) tTrue (cFz (cLst (cCons (cVar 6) cNil)))) cNil))) (cLst (cCons (cC (.str (PySem.Str.ofString "}"))) cNil)))) cNil)))))))))) (wc_law_pieces_3 n))
def wc_law_pieces_1 (n : Nat) : WS :=
    (cCut (cAsg 1 [0] 2 (cLst cNil)) (wc_law_pieces_2 n))
def wc_law_pieces_0 (n : Nat) : WS :=
    (cSeq (cAsg 1 [0] 1 (cOp fIx (cVar 0) (cC (.int 0))))
    (cCut (cIte (cOp fEqS (cVar 1) (cC (.str (PySem.Str.ofString "fact"))))
      (cRet 1 (cOp fAddG (cOp fAddG (cLst (cCons (cOp fIx (cVar 0) (cC (.int 1))) (cCons (cC (.str (PySem.Str.ofString "["))) cNil))) (cCallN 1 sp_law_listed (cCons (cLc [5] (iE (cOp fIx (cVar 0) (cC (.int 2)))) (gN 1 [] 5) tTrue (cFz (cLst (cCons (cCallN 1 sp_law_term_piece (cCons (cVar 5) cNil)) cNil)))) cNil))) (cLst (cCons (cC (.str (PySem.Str.ofString "]"))) cNil))))
      cNilS) (wc_law_pieces_1 n)))
theorem wc_law_pieces_eq (n : Nat) : w_law_pieces n = wc_law_pieces_0 n := by
  unfold wc_law_pieces_0 wc_law_pieces_1 wc_law_pieces_2 wc_law_pieces_3
  simp only [cCut_eq]
  rfl
abbrev kt_law_pieces (n : Nat) (ds : List D) : Kt := { nx := fun e => (spn_law_pieces (n + 1)).post ds .non (outs e 1), rt := fun d e => (spn_law_pieces (n + 1)).post ds d (outs e 1) }
local macro_rules | `(tactic| walk_at "Ddlx") => `(tactic| ((conv => whnf); (repeat ((first | ((with_reducible refine And.intro (stOk_nl ?_ ?_) ?_); (focus (with_reducible first | assumption | exact encQ_nl _ | exact encO_nl _ | exact encC_nl _)); (focus exact rfl)) | ((refine pick_nl ?_ ?_); (focus (with_reducible first | assumption | exact encQ_nl _ | exact encO_nl _ | exact encC_nl _))) | ((with_reducible refine And.intro ?_ ?_); (focus (with_reducible first | assumption | exact encQ_nl _ | exact encO_nl _ | exact encC_nl _))) | ((with_reducible refine And.intro (immA_c ?_ ?_) ?_); (focus (first | (with_reducible first | assumption | exact encQ_nl _ | exact encO_nl _ | exact encC_nl _) | exact rfl)); (focus ((repeat ((with_reducible refine immA_c ?_ ?_); (focus (first | (with_reducible first | assumption | exact encQ_nl _ | exact encO_nl _ | exact encC_nl _) | exact rfl)))); exact rfl))) | refine And.intro rfl ?_ | refine And.intro trivial ?_ | refine And.intro ⟨rfl, trivial⟩ ?_ | refine And.intro ⟨rfl, rfl, trivial⟩ ?_ | refine ifb_nq (by first | assumption | decide) ?_ | refine ifb_pq (by assumption) ?_ | refine ifb_er ?_ | refine ifb_t ?_ | refine ifb_f ?_ | refine ifb_nr ?_ | refine ifb_er ?_ | ((with_reducible refine And.intro (?_ : (_ : Nat) ≤ _) ?_); (focus (first | decide | omega | (unfold CMul; omega) | (unfold CDiv; omega) | (unfold CPow; decide) | (exact cpow1 (by omega) (by omega)) | (simp only [rngD_len, List.length_replicate, List.length_map, List.length_append, List.length_cons, List.length_nil, List.length_set] at *; omega)))) | ((with_reducible refine And.intro (?_ : (_ : Int) ≤ _) ?_); (focus (first | decide | omega | (unfold CMul; omega) | (unfold CDiv; omega) | (unfold CPow; decide) | (exact cpow1 (by omega) (by omega)) | (simp only [rngD_len, List.length_replicate, List.length_map, List.length_append, List.length_cons, List.length_nil, List.length_set] at *; omega)))) | ((with_reducible refine And.intro (?_ : (_ : Nat) < _) ?_); (focus (first | decide | omega | (unfold CMul; omega) | (unfold CDiv; omega) | (unfold CPow; decide) | (exact cpow1 (by omega) (by omega)) | (simp only [rngD_len, List.length_replicate, List.length_map, List.length_append, List.length_cons, List.length_nil, List.length_set] at *; omega)))) | ((with_reducible refine And.intro (?_ : (_ : Int) < _) ?_); (focus (first | decide | omega | (unfold CMul; omega) | (unfold CDiv; omega) | (unfold CPow; decide) | (exact cpow1 (by omega) (by omega)) | (simp only [rngD_len, List.length_replicate, List.length_map, List.length_append, List.length_cons, List.length_nil, List.length_set] at *; omega)))) | ((with_reducible refine And.intro (?_ : CMul _ _) ?_); (focus (first | decide | omega | (unfold CMul; omega) | (unfold CDiv; omega) | (unfold CPow; decide) | (exact cpow1 (by omega) (by omega)) | (simp only [rngD_len, List.length_replicate, List.length_map, List.length_append, List.length_cons, List.length_nil, List.length_set] at *; omega)))) | ((with_reducible refine And.intro (?_ : CDiv _ _) ?_); (focus (first | decide | omega | (unfold CMul; omega) | (unfold CDiv; omega) | (unfold CPow; decide) | (exact cpow1 (by omega) (by omega)) | (simp only [rngD_len, List.length_replicate, List.length_map, List.length_append, List.length_cons, List.length_nil, List.length_set] at *; omega)))) | ((with_reducible refine And.intro (?_ : CPow _ _) ?_); (focus (first | decide | omega | (unfold CMul; omega) | (unfold CDiv; omega) | (unfold CPow; decide) | (exact cpow1 (by omega) (by omega)) | (simp only [rngD_len, List.length_replicate, List.length_map, List.length_append, List.length_cons, List.length_nil, List.length_set] at *; omega)))) | ((with_reducible refine And.intro (?_ : (_ : Nat) = _) ?_); (focus (first | decide | omega | (unfold CMul; omega) | (unfold CDiv; omega) | (unfold CPow; decide) | (exact cpow1 (by omega) (by omega)) | (simp only [rngD_len, List.length_replicate, List.length_map, List.length_append, List.length_cons, List.length_nil, List.length_set] at *; omega))))); (conv => whnf); (try dsimp only [List.set_cons_zero, List.set_cons_succ, upA, wipeE, back, List.getElem?_cons_zero, List.getElem?_cons_succ, Option.getD_some]))); (try dsimp only [List.set_cons_zero, List.set_cons_succ, upA, wipeE, back, List.getElem?_cons_zero, List.getElem?_cons_succ, Option.getD_some])))
section
variable {n : Nat} {q : Qn} {kq : Str} {is : List D}
theorem lp3 (post : ∀ {r : D}, r = .lst ((tkQ q).map D.str) → ∀ (q' : Qn), [D.tup (D.str kq :: is)] = [encQ q'] → r = .lst ((tkQ q').map D.str)) (te : tkQ q = tkW kq (tkI q)) (hb : lenLL (tkI q) + 5 ≤ 400000) {o3 o4 : Option D} :
    wc_law_pieces_3 n [some (.tup (D.str kq :: is)), some (.str kq), some (.lst (encLL (tkI q))), o3, o4, none, none] (kt_law_pieces n [.tup (D.str kq :: is)]) := by
  obtain ⟨l1, l2⟩ := ls_call (L := tkI q) (by omega)
  have hl := listF_len (tkI q) []
  simp only [List.length_nil] at hl
  have b1 : [D.str kq, D.str (PySem.Str.ofString "(")].length + ((listF [] (tkI q)).map D.str).length ≤ 1000000 := by
    rw [List.length_map]
    simp only [List.length_cons, List.length_nil]
    omega
  have b2 : ([D.str kq, D.str (PySem.Str.ofString "(")] ++ (listF [] (tkI q)).map D.str).length + [D.str (PySem.Str.ofString ")")].length ≤ 1000000 := by
    rw [List.length_append, List.length_map]
    simp only [List.length_cons, List.length_nil]
    omega
  walk_at "Ddlx"
  try refine ⟨l1, ?_⟩
  intro r ds' h
  obtain ⟨rfl, rfl⟩ := l2 r ds' h
  walk_at "Ddlx"
  try refine ⟨b1, ?_⟩
  walk_at "Ddlx"
  try refine ⟨b2, ?_⟩
  walk_at "Ddlx"
  refine post ?_
  rw [te]
  simp [tkW]
theorem lp2 (post : ∀ {r : D}, r = .lst ((tkQ q).map D.str) → ∀ (q' : Qn), [D.tup (D.str kq :: is)] = [encQ q'] → r = .lst ((tkQ q').map D.str)) (te : tkQ q = tkW kq (tkI q)) (hb : lenLL (tkI q) + 5 ≤ 400000)
    (hk : kq = kd q) (hi : is = itemsQ q) (ti : (tkI q).length = is.length) (tk : ∀ (i : Nat) (d : D), is[i]? = some d → ∃ tk, (tkI q)[i]? = some tk ∧ TKi q i d tk)
    (call : ∀ {p : Qn}, p ∈ partsQ q → (spn_law_pieces n).pre [encQ p] ∧ ∀ r ds', (spn_law_pieces n).post [encQ p] r ds' → ds' = [encQ p] ∧ r = .lst ((tkQ p).map D.str)) :
    wc_law_pieces_2 n [some (.tup (D.str kq :: is)), some (.str kq), some (.lst []), none, none, none, none] (kt_law_pieces n [.tup (D.str kq :: is)]) := by
  have nxt := fun {o3 o4 : Option D} => lp3 (n := n) (o3 := o3) (o4 := o4) post te hb
  have il5 : is.length ≤ 5 := by rw [hi]; cases q <;> simp [itemsQ]
  walk_at "Ddlx"
  refine loop_rng (fun j e => ∃ (i : Nat) (o3 o4 : Option D), (j = (i : Int) + 1 ∧ i ≤ is.length) ∧ e = [some (.tup (D.str kq :: is)), some (.str kq), some (.lst (encLL ((tkI q).take i))), o3, o4, none, none]) ⟨0, none, none, ⟨rfl, Nat.zero_le _⟩, rfl⟩ ?_ ?_
  · rintro j env nx j0 j1 ⟨i, o3, o4, ⟨rfl, hil⟩, rfl⟩ hn
    have hlt : i < is.length := by simp only [List.length_cons] at j1; omega
    obtain ⟨d, hd⟩ : ∃ d, is[i]? = some d := ⟨_, List.getElem?_eq_getElem hlt⟩
    obtain ⟨tks, ht, hk2⟩ := tk i d hd
    have ea : atI (D.str kq :: is) ((i : Int) + 1) = some d := by
      have := atI_nat (xs := D.str kq :: is) (j := i + 1) (v := d) (by rw [List.getElem?_cons_succ]; exact hd)
      simpa using this
    have fin : ∀ (o3 o4 : Option D), nx [some (.tup (D.str kq :: is)), some (.str kq), some (.lst (encLL ((tkI q).take i) ++ [D.rol (tks.map D.str)])), o3, o4, none, none] := fun o3 o4 =>
      hn _ ⟨i + 1, o3, o4, ⟨by omega, by omega⟩, by
        rw [List.take_succ_eq_append_getElem (by omega)]
        have e2 : (tkI q)[i]'(by omega) = tks := by
          have := List.getElem?_eq_getElem (l := tkI q) (i := i) (by omega)
          rw [ht] at this
          exact (Option.some.inj this).symm
        rw [e2]
        simp [encLL]⟩
    have hA : (encLL ((tkI q).take i)).length < 1000000 := by
      have : (encLL ((tkI q).take i)).length ≤ 5 := by
        unfold encLL
        rw [List.length_map, List.length_take]
        omega
      omega
    generalize encLL ((tkI q).take i) = A at *
    have ip : sp_law_is_pair.pre [.str kq] ∧ ∀ r ds', sp_law_is_pair.post [.str kq] r ds' → ds' = [.str kq] ∧ r = .bl (decide (ix q = 1)) := by
      rw [hk]
      exact ⟨⟨q, rfl⟩, fun r ds' h => ⟨h.1, h.2 q rfl⟩⟩
    have lc : ((D.str kq :: is).length : Int) - 1 = is.length := by simp
    cases hk2 with
    | none =>
      walk_at "Ddlx"
      rw [ea]
      walk_at "Ddlx"
      try refine ⟨hA, ?_⟩
      walk_at "Ddlx"
      exact fin _ _
    | int m hm =>
      have hb2 := big_log hm
      walk_at "Ddlx"
      rw [ea]
      walk_at "Ddlx"
      try refine ⟨hA, ?_⟩
      walk_at "Ddlx"
      exact fin _ _
    | str w =>
      walk_at "Ddlx"
      rw [ea]
      walk_at "Ddlx"
      try refine ⟨hA, ?_⟩
      walk_at "Ddlx"
      exact fin _ _
    | part p hp hor =>
      obtain ⟨c1, c2⟩ := call hp
      obtain ⟨tp, ep⟩ := encQ_tup p
      rw [ep] at ea c1 c2
      walk_at "Ddlx"
      rw [ea]
      walk_at "Ddlx"
      try refine ⟨ip.1, ?_⟩
      intro r ds' h
      obtain ⟨rfl, rfl⟩ := ip.2 r ds' h
      by_cases g : ix q = 1
      · rw [decide_eq_true g]
        walk_at "Ddlx"
        try refine ⟨c1, ?_⟩
        intro r ds' h
        obtain ⟨rfl, rfl⟩ := c2 r ds' h
        walk_at "Ddlx"
        try refine ⟨hA, ?_⟩
        walk_at "Ddlx"
        exact fin _ _
      · have hl : (i : Int) + 1 = ((D.str kq :: is).length : Int) - 1 := by
          rw [lc, hi]
          have := hor.resolve_left g
          omega
        rw [decide_eq_false g]
        walk_at "Ddlx"
        try refine ifb_pq hl ?_
        walk_at "Ddlx"
        try refine ⟨c1, ?_⟩
        intro r ds' h
        obtain ⟨rfl, rfl⟩ := c2 r ds' h
        walk_at "Ddlx"
        try refine ⟨hA, ?_⟩
        walk_at "Ddlx"
        exact fin _ _
    | term t ht' h1 h2 h3 =>
      obtain ⟨tt, et⟩ := encTm_tup t
      have wt : sp_law_term_piece.pre [encTm t] ∧ ∀ r ds', sp_law_term_piece.post [encTm t] r ds' → ds' = [encTm t] ∧ r = .str (termS t) := ⟨⟨t, rfl, ht'⟩, fun r ds' h => ⟨h.1, h.2 t rfl⟩⟩
      rw [et] at ea wt
      have hl : ¬ (i : Int) + 1 = ((D.str kq :: is).length : Int) - 1 := by
        rw [lc, hi]
        omega
      have hw : kq = PySem.Str.ofString "where" := hk.trans h3
      walk_at "Ddlx"
      rw [ea]
      walk_at "Ddlx"
      try refine ⟨ip.1, ?_⟩
      intro r ds' h
      obtain ⟨rfl, rfl⟩ := ip.2 r ds' h
      rw [decide_eq_false h1]
      walk_at "Ddlx"
      try refine ifb_nq hl ?_
      walk_at "Ddlx"
      try refine ifb_pq hw ?_
      walk_at "Ddlx"
      try refine ⟨wt.1, ?_⟩
      intro r ds' h
      obtain ⟨rfl, rfl⟩ := wt.2 r ds' h
      walk_at "Ddlx"
      try refine ⟨hA, ?_⟩
      walk_at "Ddlx"
      exact fin _ _
    | cols cs hc h1 h2 h3 =>
      have hl : ¬ (i : Int) + 1 = ((D.str kq :: is).length : Int) - 1 := by
        rw [lc, hi]
        omega
      have hw : ¬ kq = PySem.Str.ofString "where" := fun e => h3 (hk.symm.trans e)
      obtain ⟨l1, l2⟩ := ls_call (L := cs.map fun x => [x]) (by rw [lenLL_one fun x => x]; omega)
      have hll := listF_len (cs.map fun x => [x]) []
      rw [lenLL_one fun x => x] at hll
      simp only [List.length_nil] at hll
      have b1 : [D.str (PySem.Str.ofString "{")].length + ((listF [] (cs.map fun x => [x])).map D.str).length ≤ 1000000 := by
        rw [List.length_map]
        simp only [List.length_cons, List.length_nil]
        omega
      have b2 : ([D.str (PySem.Str.ofString "{")] ++ (listF [] (cs.map fun x => [x])).map D.str).length + [D.str (PySem.Str.ofString "}")].length ≤ 1000000 := by
        rw [List.length_append, List.length_map]
        simp only [List.length_cons, List.length_nil]
        omega
      have etk : (tkC cs).map D.str = [D.str (PySem.Str.ofString "{")] ++ (listF [] (cs.map fun x => [x])).map D.str ++ [D.str (PySem.Str.ofString "}")] := by simp [tkC]
      rw [etk] at fin
      have hcl : (cs.map D.str).length ≤ 1000000 := by rw [List.length_map]; omega
      unfold encC at ea
      walk_at "Ddlx"
      rw [ea]
      walk_at "Ddlx"
      try refine ⟨ip.1, ?_⟩
      intro r ds' h
      obtain ⟨rfl, rfl⟩ := ip.2 r ds' h
      rw [decide_eq_false h1]
      walk_at "Ddlx"
      try refine ifb_nq hl ?_
      walk_at "Ddlx"
      try refine ifb_nq hw ?_
      walk_at "Ddlx"
      try refine ⟨hcl, ?_⟩
      refine lcGo_map (fun d => D.rol [d]) _ _ ?_ ?_
      · intro d nxt2 acc hd2 hnx
        obtain ⟨x, hx, rfl⟩ := List.mem_map.mp hd2
        walk_at "Ddlx"
        exact hnx
      · have e9 : (cs.map D.str).map (fun d => D.rol [d]) = encLL (cs.map fun x => [x]) := by
          unfold encLL
          rw [List.map_map, List.map_map]
          rfl
        rw [e9]
        walk_at "Ddlx"
        try refine ⟨l1, ?_⟩
        intro r ds' h
        obtain ⟨rfl, rfl⟩ := l2 r ds' h
        walk_at "Ddlx"
        try refine ⟨b1, ?_⟩
        walk_at "Ddlx"
        try refine ⟨b2, ?_⟩
        walk_at "Ddlx"
        try refine ⟨hA, ?_⟩
        walk_at "Ddlx"
        exact fin _ _
  · rintro env ⟨i, o3, o4, ⟨hj, hil⟩, rfl⟩
    have : i = is.length := by simp only [List.length_cons] at hj; omega
    subst this
    rw [← ti, List.take_of_length_le (Nat.le_refl _)]
    walk_at "Ddlx"
    exact Stop.mk nxt
theorem pure_law_pieces : ∀ n, ∀ ds, ds.length = 1 → (spn_law_pieces (n + 1)).pre ds → w_law_pieces n (env0 ds 6) { nx := fun e => (spn_law_pieces (n + 1)).post ds .non (outs e 1), rt := fun d e => (spn_law_pieces (n + 1)).post ds d (outs e 1) } := by
  rintro n ds _ ⟨q, rfl, hs, hd, hc⟩
  have post := fun {r : D} h => lpc_post (q := q) (r := r) h
  rw [wc_law_pieces_eq]
  by_cases hx : ix q = 0
  · cases q with
    | fact nm ts =>
      have h2 := hs.2.1
      have hcl : (ts.map encTm).length ≤ 1000000 := by rw [List.length_map]; omega
      obtain ⟨l1, l2⟩ := ls_call (L := ts.map fun t => [termS t]) (by rw [lenLL_one termS]; omega)
      have hll := listF_len (ts.map fun t => [termS t]) []
      rw [lenLL_one termS] at hll
      simp only [List.length_nil] at hll
      have b1 : [D.str nm, D.str (PySem.Str.ofString "[")].length + ((listF [] (ts.map fun t => [termS t])).map D.str).length ≤ 1000000 := by
        rw [List.length_map]
        simp only [List.length_cons, List.length_nil]
        omega
      have b2 : ([D.str nm, D.str (PySem.Str.ofString "[")] ++ (listF [] (ts.map fun t => [termS t])).map D.str).length + [D.str (PySem.Str.ofString "]")].length ≤ 1000000 := by
        rw [List.length_append, List.length_map]
        simp only [List.length_cons, List.length_nil]
        omega
      simp only [encQ] at post ⊢
      walk_at "Ddlx"
      try refine ⟨hcl, ?_⟩
      refine loop_lc (fun xs acc e => ∃ (a b : List Tm), (ts = a ++ b ∧ xs = b.map encTm ∧ acc = encLL (a.map fun t => [termS t])) ∧ e = [some (.tup [.str (PySem.Str.ofString "fact"), .str nm, .tup (ts.map encTm)]), some (.str (PySem.Str.ofString "fact")), none, none, none, none, none]) ⟨[], ts, ⟨rfl, rfl, rfl⟩, rfl⟩ ?_ ?_
      · rintro x r acc env nx ⟨a, b, ⟨hc', hq', rfl⟩, rfl⟩ hn
        cases b with
        | nil => cases hq'
        | cons t b =>
          rw [List.map_cons] at hq'
          cases hq'
          have ht := hs.2.2 t (by rw [hc']; simp)
          have wt : sp_law_term_piece.pre [encTm t] ∧ ∀ r ds', sp_law_term_piece.post [encTm t] r ds' → ds' = [encTm t] ∧ r = .str (termS t) := ⟨⟨t, rfl, ht⟩, fun r ds' h => ⟨h.1, h.2 t rfl⟩⟩
          obtain ⟨tt, et⟩ := encTm_tup t
          rw [et] at wt ⊢
          walk_at "Ddlx"
          try refine ⟨wt.1, ?_⟩
          intro r ds' h
          obtain ⟨rfl, rfl⟩ := wt.2 r ds' h
          walk_at "Ddlx"
          exact hn _ _ ⟨a ++ [t], b, ⟨by rw [hc']; simp, rfl, by simp [encLL]⟩, rfl⟩
      · rintro acc env ⟨a, b, ⟨hc', hq', rfl⟩, rfl⟩
        have e1 : b = [] := by cases b with
          | nil => rfl
          | cons a b => cases hq'
        subst e1
        rw [List.append_nil] at hc'
        rw [← hc']
        walk_at "Ddlx"
        try refine ⟨l1, ?_⟩
        intro r ds' h
        obtain ⟨rfl, rfl⟩ := l2 r ds' h
        walk_at "Ddlx"
        try refine ⟨b1, ?_⟩
        walk_at "Ddlx"
        try refine ⟨b2, ?_⟩
        walk_at "Ddlx"
        exact post (by simp [tkQ])
    | _ => exact absurd hx (by simp [ix])
  · have hf := kd_notfact q hx
    have te := tkQ_eq q hx
    have hb := (tkI_len q hs).2
    have ti : (tkI q).length = (itemsQ q).length := by cases q <;> first | exact absurd rfl hx | rfl
    have tk := TKi_of q hx (smQ_own hs)
    have call : ∀ {p : Qn}, p ∈ partsQ q → (spn_law_pieces n).pre [encQ p] ∧ ∀ r ds', (spn_law_pieces n).post [encQ p] r ds' → ds' = [encQ p] ∧ r = .lst ((tkQ p).map D.str) := fun {p} hp => by
      have h1 := dpQ_part hp
      have h2 := dpQ_pos p
      have h3 : cntQ p ≤ cntQ q := by
        cases q <;> simp only [partsQ, List.mem_cons, List.not_mem_nil, or_false] at hp <;> simp only [cntQ]
        · rcases hp with rfl | rfl <;> omega
        all_goals (subst hp; omega)
      cases n with
      | zero => omega
      | succ n => exact ⟨⟨p, rfl, smQ_part hs hp, by omega, by omega⟩, fun r ds' h => ⟨h.1, h.2 p rfl⟩⟩
    rw [encQ_items] at post ⊢
    have nxt := lp2 (n := n) post te (by omega) rfl rfl ti tk call
    have e0 : atI (D.str (kd q) :: itemsQ q) 0 = some (.str (kd q)) := atI_nat (j := 0) rfl
    generalize itemsQ q = is at *
    generalize kd q = kq at *
    walk_at "Ddlx"
    rw [e0]
    walk_at "Ddlx"
    try refine ifb_nq hf ?_
    walk_at "Ddlx"
    refine Stop.mk ?_
    unfold wc_law_pieces_1
    walk_at "Ddlx"
    exact Stop.mk nxt
end
end DL

namespace DL
open PySem PySem.Spec PyProof.Rows L2
theorem TbOk.one {c : Int} {s : Sp2} (hc : 1 ≤ c ∧ c ≤ 60) (h : SpOk c 0 s) : TbOk c [(0, s)] := ⟨hc, s, [], rfl, h, trivial⟩
local macro_rules | `(tactic| walk_at "Ddl") => `(tactic| ((conv => whnf); (repeat ((first | refine And.intro rfl ?_ | refine And.intro trivial ?_ | refine And.intro ⟨rfl, trivial⟩ ?_ | refine And.intro ⟨rfl, rfl, trivial⟩ ?_ | refine ifb_t ?_ | refine ifb_f ?_ | refine ifb_nr ?_ | refine ifb_er ?_ | refine And.intro (by first | decide | omega | (unfold CMul; omega) | (unfold CDiv; omega) | (unfold CPow; decide) | (exact cpow1 (by omega) (by omega)) | (exact cpow1 (by dsimp only; omega) (by dsimp only; omega)) | (simp only [rngD_len, List.length_replicate, List.length_map, List.length_append, List.length_cons, List.length_nil, List.length_set] at *; omega)) ?_); conv => whnf))))
/-! equal data are the same -/
def fitD : Nat → D → Bool
  | _, .non => true
  | _, .bl _ => true
  | _, .int _ => true
  | _, .str _ => true
  | 0, _ => false
  | n + 1, .tup xs => decide (xs.length ≤ 900000) && (xs.all (fun d => !isL d && fitD n d))
  | n + 1, .lst xs => decide (xs.length ≤ 900000) && (xs.all (fun d => !isL d && fitD n d))
  | n + 1, .tpd xs => decide (xs.length ≤ 900000) && (xs.all (fun d => !isL d && fitD n d))
  | _ + 1, .rol _ => false
  | _ + 1, .rod _ _ => false
  | _ + 1, .obj _ _ => false
  | _ + 1, .rdk _ _ => false
theorem flatA_rep : ∀ n : Nat, flatA (List.replicate n (D.bl true)) = true
  | 0 => rfl
  | n + 1 => by rw [List.replicate_succ]; simp only [flatA, flatD, flatA_rep n]; rfl
theorem any_rep : ∀ n : Nat, ((List.replicate n (D.bl true)).any fun y => eqF y (D.bl false)) = false
  | 0 => rfl
  | n + 1 => by rw [List.replicate_succ, List.any_cons, any_rep n]; rfl
def spn_law_same : Nat → FSpec
  | 0 => ⟨fun _ => False, fun _ _ _ => False⟩
  | n + 1 => ⟨fun ds => ∃ d, ds = [d, d] ∧ fitD n d = true, fun ds r ds' => r = .bl true ∧ ds' = ds⟩
abbrev sp_law_same : FSpec := spn_law_same 8
/-- slots: 0 actual, 1 due, 2 k -/
def w_law_same (n : Nat) : WS :=
    (cSeq (cIte (cIsi2 .tuple .list (cVar 1))
      (cSeq (cIte (cOr (cOp fNeS (cIsi .tuple (cVar 0)) (cIsi .tuple (cVar 1))) (cOp fNeS (cIsi .list (cVar 0)) (cIsi .list (cVar 1))))
          (cRet 2 (cC (.bl false)))
          cNilS)
        (cSeq (cIte (cOp fNeS (cBi fLen (cCons (cVar 0) cNil)) (cBi fLen (cCons (cVar 1) cNil)))
          (cRet 2 (cC (.bl false)))
          cNilS)
        (cRet 2 (cOp (fIn true) (cC (.bl false)) (cLc [2] (iR1 (cBi fLen (cCons (cVar 1) cNil))) (gN 2 [] 2) tTrue (cCallN 2 (spn_law_same n) (cCons (cOp fIx (cVar 0) (cVar 2)) (cCons (cOp fIx (cVar 1) (cVar 2)) cNil))))))))
      cNilS)
    (cSeq (cIte (cOr (cOp fNeS (cIsi .bool (cVar 0)) (cIsi .bool (cVar 1))) (cOp fNeS (cIsi .int (cVar 0)) (cIsi .int (cVar 1))))
      (cRet 2 (cC (.bl false)))
      cNilS)
    (cSeq (cIte (cOr (cOp fNeS (cIsi .str (cVar 0)) (cIsi .str (cVar 1))) (cOp fNeS (cUn (fIsN false) (cVar 0)) (cUn (fIsN false) (cVar 1))))
      (cRet 2 (cC (.bl false)))
      cNilS)
    (cRet 2 (cOp fEqS (cVar 0) (cVar 1))))))
theorem pure_law_same : ∀ n, ∀ ds, ds.length = 2 → (spn_law_same (n + 1)).pre ds → w_law_same n (env0 ds 1) { nx := fun e => (spn_law_same (n + 1)).post ds .non (outs e 2), rt := fun d e => (spn_law_same (n + 1)).post ds d (outs e 2) } := by
  rintro n ds _ ⟨d, rfl, hf⟩
  cases d with
  | non => walk_at "Ddl"; rfl
  | bl b => walk_at "Ddl"; simp; rfl
  | int i => walk_at "Ddl"; simp; rfl
  | str x => walk_at "Ddl"; simp; rfl
  | tup xs =>
    obtain ⟨n, rfl⟩ : ∃ m, n = m + 1 := by
      cases n with
      | zero => simp [fitD] at hf
      | succ m => exact ⟨m, rfl⟩
    simp only [fitD, Bool.and_eq_true, decide_eq_true_eq, List.all_eq_true] at hf
    obtain ⟨hl, hf⟩ := hf
    walk_at "Ddl"
    refine lcGo_map (fun _ => .bl true) _ _ ?_ ?_
    · intro x nxt acc hx hn
      obtain ⟨i, rfl, h1, h2⟩ := rng_mem hx
      obtain ⟨h, ea⟩ := atI_lt (xs := xs) (j := i) h1 (by omega)
      walk_at "Ddl"
      rw [ea]
      walk_at "Ddl"
      rw [ea]
      walk_at "Ddl"
      have hd := hf _ (List.getElem_mem h)
      have hL : isL xs[i.toNat] = false := by simpa using hd.1
      refine ⟨⟨_, rfl, hd.2⟩, ?_⟩
      rintro _ _ ⟨rfl, rfl⟩
      walk_at "Ddl"
      exact hn
    · rw [map_const]
      refine ⟨trivial, ?_⟩
      walk_at "Ddl"
      refine ⟨flatA_rep _, ?_⟩
      dsimp only
      rw [any_rep]
      walk_at "Ddl"
      rfl
  | lst xs =>
    obtain ⟨n, rfl⟩ : ∃ m, n = m + 1 := by
      cases n with
      | zero => simp [fitD] at hf
      | succ m => exact ⟨m, rfl⟩
    simp only [fitD, Bool.and_eq_true, decide_eq_true_eq, List.all_eq_true] at hf
    obtain ⟨hl, hf⟩ := hf
    walk_at "Ddl"
    refine lcGo_map (fun _ => .bl true) _ _ ?_ ?_
    · intro x nxt acc hx hn
      obtain ⟨i, rfl, h1, h2⟩ := rng_mem hx
      obtain ⟨h, ea⟩ := atI_lt (xs := xs) (j := i) h1 (by omega)
      walk_at "Ddl"
      rw [ea]
      walk_at "Ddl"
      rw [ea]
      walk_at "Ddl"
      have hd := hf _ (List.getElem_mem h)
      have hL : isL xs[i.toNat] = false := by simpa using hd.1
      refine ⟨⟨_, rfl, hd.2⟩, ?_⟩
      rintro _ _ ⟨rfl, rfl⟩
      walk_at "Ddl"
      exact hn
    · rw [map_const]
      refine ⟨trivial, ?_⟩
      walk_at "Ddl"
      refine ⟨flatA_rep _, ?_⟩
      dsimp only
      rw [any_rep]
      walk_at "Ddl"
      rfl
  | tpd xs =>
    obtain ⟨n, rfl⟩ : ∃ m, n = m + 1 := by
      cases n with
      | zero => simp [fitD] at hf
      | succ m => exact ⟨m, rfl⟩
    simp only [fitD, Bool.and_eq_true, decide_eq_true_eq, List.all_eq_true] at hf
    obtain ⟨hl, hf⟩ := hf
    walk_at "Ddl"
    refine lcGo_map (fun _ => .bl true) _ _ ?_ ?_
    · intro x nxt acc hx hn
      obtain ⟨i, rfl, h1, h2⟩ := rng_mem hx
      obtain ⟨h, ea⟩ := atI_lt (xs := xs) (j := i) h1 (by omega)
      walk_at "Ddl"
      rw [ea]
      walk_at "Ddl"
      rw [ea]
      walk_at "Ddl"
      have hd := hf _ (List.getElem_mem h)
      have hL : isL xs[i.toNat] = false := by simpa using hd.1
      refine ⟨⟨_, rfl, hd.2⟩, ?_⟩
      rintro _ _ ⟨rfl, rfl⟩
      walk_at "Ddl"
      exact hn
    · rw [map_const]
      refine ⟨trivial, ?_⟩
      walk_at "Ddl"
      refine ⟨flatA_rep _, ?_⟩
      dsimp only
      rw [any_rep]
      walk_at "Ddl"
      rfl
  | rol xs => cases n <;> simp [fitD] at hf
  | rod _ _ => cases n <;> simp [fitD] at hf
  | obj _ _ => cases n <;> simp [fitD] at hf
  | rdk _ _ => cases n <;> simp [fitD] at hf
end DL

set_option maxHeartbeats 2000000
namespace DL
open PySem PySem.Spec PyProof.Rows L2
--REN _law_size=law_size_b
theorem listF_mem {t : Str} : ∀ {L : List (List Str)} {acc : List Str}, t ∈ listF acc L → t ∈ acc ∨ t = cm ∨ ∃ x ∈ L, t ∈ x
  | [], acc, h => .inl (by simpa [listF] using h)
  | x :: r, acc, h => by
    simp only [listF] at h
    rcases listF_mem h with h | h | ⟨y, hy, h⟩
    · rcases List.mem_append.mp h with h | h
      · by_cases g : acc = []
        · rw [if_pos g] at h; exact .inl h
        · rw [if_neg g] at h
          rcases List.mem_append.mp h with h | h
          · exact .inl h
          · exact .inr (.inl (List.mem_singleton.mp h))
      · exact .inr (.inr ⟨x, by simp, h⟩)
    · exact .inr (.inl h)
    · exact .inr (.inr ⟨y, by simp [hy], h⟩)
def tok (t : Str) : Prop := t.length ≤ 110
theorem tok_list {a b : List Str} {L : List (List Str)} (ha : ∀ t ∈ a, tok t) (hb : ∀ t ∈ b, tok t) (h : ∀ x ∈ L, ∀ t ∈ x, tok t) : ∀ t ∈ a ++ listF [] L ++ b, tok t := by
  intro t ht
  rcases List.mem_append.mp ht with ht | ht
  · rcases List.mem_append.mp ht with ht | ht
    · exact ha t ht
    · rcases listF_mem ht with h' | h' | ⟨x, hx, h'⟩
      · cases h'
      · subst h'; show cm.length ≤ 110; decide
      · exact h x hx t h'
  · exact hb t ht
theorem tok_w {w : Str} (h : isW w = true) : tok w := by have := isW_len h; show w.length ≤ 110; omega
theorem tok_t {t : Tm} (h : okTm t) : tok (termS t) := by have := termS_len h; show (termS t).length ≤ 110; omega
theorem tokC {cs : List Str} (h : ∀ x ∈ cs, isW x = true) : ∀ t ∈ tkC cs, tok t := by
  refine tok_list ?_ ?_ ?_
  · simp only [List.mem_singleton, forall_eq]; show (PySem.Str.ofString "{").length ≤ 110; decide
  · simp only [List.mem_singleton, forall_eq]; show (PySem.Str.ofString "}").length ≤ 110; decide
  · intro x hx t ht
    obtain ⟨w, hw, rfl⟩ := List.mem_map.mp hx
    rw [List.mem_singleton.mp ht]
    exact tok_w (h w hw)
theorem tokW {k : Str} {L : List (List Str)} (hk : k.length ≤ 10) (h : ∀ x ∈ L, ∀ t ∈ x, tok t) : ∀ t ∈ tkW k L, tok t := by
  refine tok_list ?_ ?_ h
  · intro t ht
    simp only [List.mem_cons, List.not_mem_nil, or_false] at ht
    rcases ht with rfl | rfl
    · show t.length ≤ 110; omega
    · show (PySem.Str.ofString "(").length ≤ 110; decide
  · simp only [List.mem_singleton, forall_eq]; show (PySem.Str.ofString ")").length ≤ 110; decide
theorem tok1 {w : Str} (h : tok w) : ∀ t ∈ [w], tok t := by simpa using h
theorem cons2 {P : List Str → Prop} {a b : List Str} (ha : P a) (hb : P b) : ∀ x ∈ [a, b], P x := by simpa using ⟨ha, hb⟩
theorem cons3 {P : List Str → Prop} {a b c : List Str} (ha : P a) (hb : P b) (hc : P c) : ∀ x ∈ [a, b, c], P x := by simpa using ⟨ha, hb, hc⟩
theorem cons4 {P : List Str → Prop} {a b c d : List Str} (ha : P a) (hb : P b) (hc : P c) (hd : P d) : ∀ x ∈ [a, b, c, d], P x := by simpa using ⟨ha, hb, hc, hd⟩
theorem tkQ_tok : ∀ q : Qn, smQ q → ∀ t ∈ tkQ q, tok t
  | .fact n ts, h => by
    refine tok_list ?_ ?_ ?_
    · intro t ht
      simp only [List.mem_cons, List.not_mem_nil, or_false] at ht
      rcases ht with rfl | rfl
      · exact tok_w h.1
      · show (PySem.Str.ofString "[").length ≤ 110; decide
    · simp only [List.mem_singleton, forall_eq]; show (PySem.Str.ofString "]").length ≤ 110; decide
    · intro x hx t ht
      obtain ⟨u, hu, rfl⟩ := List.mem_map.mp hx
      rw [List.mem_singleton.mp ht]
      exact tok_t (h.2.2 u hu)
  | .two k p q, h => tokW (kd_len (.two k p q)) (cons2 (tkQ_tok p h.1) (tkQ_tok q h.2))
  | .only cs p, h => tokW (kd_len (.only cs p)) (cons2 (tokC h.1.2) (tkQ_tok p h.2))
  | .whr t l r p, h => tokW (kd_len (.whr t l r p)) (cons4 (tok1 (tok_w h.1.1)) (tok1 (tok_t h.1.2.1)) (tok1 (tok_t h.1.2.2)) (tkQ_tok p h.2))
  | .shift n p, h => tokW (kd_len (.shift n p)) (cons2 (tok1 (by have := dec_len h.1; show (decS n).length ≤ 110; omega)) (tkQ_tok p h.2))
  | .look k w p, h => tokW (kd_len (.look k w p)) (cons2 (tok1 (by have := with_len h.1; show (withS w).length ≤ 110; omega)) (tkQ_tok p h.2))
  | .count n ks p, h => tokW (kd_len (.count n ks p)) (cons3 (tok1 (tok_w h.1.1)) (tokC h.1.2.2) (tkQ_tok p h.2))
  | .total k n c ks p, h => tokW (kd_len (.total k n c ks p)) (cons4 (tok1 (tok_w h.1.1)) (tok1 (tok_w h.1.2.1)) (tokC h.1.2.2.2) (tkQ_tok p h.2))
  | .link k x y p, h => tokW (kd_len (.link k x y p)) (cons3 (tok1 (tok_w h.1.1)) (tok1 (tok_w h.1.2)) (tkQ_tok p h.2))
theorem fitS7 (s : Str) : fitD 7 (.str s) = true := rfl
theorem cnt_13 {q : Qn} (h : dpQ q ≤ 13) : cntQ q ≤ 8192 := by
  have h1 := paths_len q []
  rw [paths_cnt] at h1
  have h2 : 2 ^ dpQ q ≤ 2 ^ 13 := Nat.pow_le_pow_right (by decide) h
  have h3 : 2 ^ 13 = 8192 := by decide
  omega
/-- slots: 0 script, 1 draws, 2 words, 3 short, 4 question, 5 path, 6 node, 7 cell -/
def w_law : WS :=
    (cSeq (cAsg 1 [0] 1 (cCallN 2 sp_law_draws (cCons (cVar 0) (cCons (cC (.int 1000)) cNil))))
    (cSeq (cAsg 1 [0] 2 (cFz (cCallN 2 sp_law_words (cCons (cVar 1) (cCons (cC (.int 10)) cNil)))))
    (cSeq (cAsg 1 [0] 3 (cLc [7] (iE (cVar 0)) (gN 1 [] 7) tTrue (cOp fMod (cBi fInt (cCons (cVar 7) cNil)) (cOp fPow (cC (.int 10)) (cC (.int 60))))))
    (cSeq (cAsg 1 [0] 4 (cCallN 4 sp_law_some_question (cCons (cVar 1) (cCons (cVar 3) (cCons (cVar 2) (cCons (cC (.int 12)) cNil))))))
    (cSeq (cIte (cOp fEqS (cCallN 2 sp_law_take (cCons (cVar 1) (cCons (cC (.int 3)) cNil))) (cC (.int 0)))
      (cSeq (cAsg 1 [0] 5 (cCallN 2 sp_law_pick (cCons (cVar 1) (cCons (cCallN 2 sp_law_paths (cCons (cVar 4) (cCons (cTup cNil) cNil))) cNil))))
        (cSeq (cAsg 1 [0] 6 (cCallN 4 sp_law_odd_node (cCons (cVar 1) (cCons (cVar 3) (cCons (cVar 2) (cCons (cCallN 2 sp_law_node (cCons (cVar 4) (cCons (cVar 5) cNil))) cNil))))))
        (cAsg 1 [0] 4 (cCallN 3 sp_law_swapped (cCons (cVar 4) (cCons (cVar 5) (cCons (cVar 6) cNil)))))))
      cNilS)
    (cRet 1 (cCallN 2 sp_law_same (cCons (cCallN 1 sp_write_question (cCons (cVar 4) cNil)) (cCons (cCallN 1 sp_law_joined_text (cCons (cCallN 1 sp_law_pieces (cCons (cVar 4) cNil)) cNil)) cNil)))))))))
def wc_law_4 : WS :=
    (cRet 1 (cCallN 2 sp_law_same (cCons (cCallN 1 sp_write_question (cCons (cVar 4) cNil)) (cCons (cCallN 1 sp_law_joined_text (cCons (cCallN 1 sp_law_pieces (cCons (cVar 4) cNil)) cNil)) cNil))))
def wc_law_3 : WS :=
    (cCut (cIte (cOp fEqS (cCallN 2 sp_law_take (cCons (cVar 1) (cCons (cC (.int 3)) cNil))) (cC (.int 0)))
      (cSeq (cAsg 1 [0] 5 (cCallN 2 sp_law_pick (cCons (cVar 1) (cCons (cCallN 2 sp_law_paths (cCons (cVar 4) (cCons (cTup cNil) cNil))) cNil))))
        (cSeq (cAsg 1 [0] 6 (cCallN 4 sp_law_odd_node (cCons (cVar 1) (cCons (cVar 3) (cCons (cVar 2) (cCons (cCallN 2 sp_law_node (cCons (cVar 4) (cCons (cVar 5) cNil))) cNil))))))
        (cAsg 1 [0] 4 (cCallN 3 sp_law_swapped (cCons (cVar 4) (cCons (cVar 5) (cCons (cVar 6) cNil)))))))
      cNilS) (wc_law_4))
def wc_law_2 : WS :=
    (cCut (cAsg 1 [0] 4 (cCallN 4 sp_law_some_question (cCons (cVar 1) (cCons (cVar 3) (cCons (cVar 2) (cCons (cC (.int 12)) cNil)))))) (wc_law_3))
def wc_law_1 : WS :=
    (cCut (cAsg 1 [0] 3 (cLc [7] (iE (cVar 0)) (gN 1 [] 7) tTrue (cOp fMod (cBi fInt (cCons (cVar 7) cNil)) (cOp fPow (cC (.int 10)) (cC (.int 60)))))) (wc_law_2))
def wc_law_0 : WS :=
    (cSeq (cAsg 1 [0] 1 (cCallN 2 sp_law_draws (cCons (cVar 0) (cCons (cC (.int 1000)) cNil))))
    (cCut (cAsg 1 [0] 2 (cFz (cCallN 2 sp_law_words (cCons (cVar 1) (cCons (cC (.int 10)) cNil))))) (wc_law_1)))
theorem wc_law_eq : w_law = wc_law_0 := by
  unfold wc_law_0 wc_law_1 wc_law_2 wc_law_3 wc_law_4
  simp only [cCut_eq]
  rfl
abbrev kt_law (ds : List D) : Kt := { nx := fun e => sp_law.post ds .non (outs e 1), rt := fun d e => sp_law.post ds d (outs e 1) }
local macro_rules | `(tactic| walk_at "Ddlx") => `(tactic| ((conv => whnf); (repeat ((first | ((with_reducible refine And.intro (stOk_nl ?_ ?_) ?_); (focus (with_reducible first | assumption | exact encQ_nl _ | exact encO_nl _ | exact encC_nl _)); (focus exact rfl)) | ((refine pick_nl ?_ ?_); (focus (with_reducible first | assumption | exact encQ_nl _ | exact encO_nl _ | exact encC_nl _))) | ((with_reducible refine And.intro ?_ ?_); (focus (with_reducible first | assumption | exact encQ_nl _ | exact encO_nl _ | exact encC_nl _))) | ((with_reducible refine And.intro (immA_c ?_ ?_) ?_); (focus (first | (with_reducible first | assumption | exact encQ_nl _ | exact encO_nl _ | exact encC_nl _) | exact rfl)); (focus ((repeat ((with_reducible refine immA_c ?_ ?_); (focus (first | (with_reducible first | assumption | exact encQ_nl _ | exact encO_nl _ | exact encC_nl _) | exact rfl)))); exact rfl))) | refine And.intro rfl ?_ | refine And.intro trivial ?_ | refine And.intro ⟨rfl, trivial⟩ ?_ | refine And.intro ⟨rfl, rfl, trivial⟩ ?_ | refine ifb_nq (by first | assumption | decide) ?_ | refine ifb_pq (by assumption) ?_ | refine ifb_er ?_ | refine ifb_t ?_ | refine ifb_f ?_ | refine ifb_nr ?_ | refine ifb_er ?_ | ((with_reducible refine And.intro (?_ : (_ : Nat) ≤ _) ?_); (focus (first | decide | omega | (unfold CMul; omega) | (unfold CDiv; omega) | (unfold CPow; decide) | (exact cpow1 (by omega) (by omega)) | (simp only [rngD_len, List.length_replicate, List.length_map, List.length_append, List.length_cons, List.length_nil, List.length_set] at *; omega)))) | ((with_reducible refine And.intro (?_ : (_ : Int) ≤ _) ?_); (focus (first | decide | omega | (unfold CMul; omega) | (unfold CDiv; omega) | (unfold CPow; decide) | (exact cpow1 (by omega) (by omega)) | (simp only [rngD_len, List.length_replicate, List.length_map, List.length_append, List.length_cons, List.length_nil, List.length_set] at *; omega)))) | ((with_reducible refine And.intro (?_ : (_ : Nat) < _) ?_); (focus (first | decide | omega | (unfold CMul; omega) | (unfold CDiv; omega) | (unfold CPow; decide) | (exact cpow1 (by omega) (by omega)) | (simp only [rngD_len, List.length_replicate, List.length_map, List.length_append, List.length_cons, List.length_nil, List.length_set] at *; omega)))) | ((with_reducible refine And.intro (?_ : (_ : Int) < _) ?_); (focus (first | decide | omega | (unfold CMul; omega) | (unfold CDiv; omega) | (unfold CPow; decide) | (exact cpow1 (by omega) (by omega)) | (simp only [rngD_len, List.length_replicate, List.length_map, List.length_append, List.length_cons, List.length_nil, List.length_set] at *; omega)))) | ((with_reducible refine And.intro (?_ : CMul _ _) ?_); (focus (first | decide | omega | (unfold CMul; omega) | (unfold CDiv; omega) | (unfold CPow; decide) | (exact cpow1 (by omega) (by omega)) | (simp only [rngD_len, List.length_replicate, List.length_map, List.length_append, List.length_cons, List.length_nil, List.length_set] at *; omega)))) | ((with_reducible refine And.intro (?_ : CDiv _ _) ?_); (focus (first | decide | omega | (unfold CMul; omega) | (unfold CDiv; omega) | (unfold CPow; decide) | (exact cpow1 (by omega) (by omega)) | (simp only [rngD_len, List.length_replicate, List.length_map, List.length_append, List.length_cons, List.length_nil, List.length_set] at *; omega)))) | ((with_reducible refine And.intro (?_ : CPow _ _) ?_); (focus (first | decide | omega | (unfold CMul; omega) | (unfold CDiv; omega) | (unfold CPow; decide) | (exact cpow1 (by omega) (by omega)) | (simp only [rngD_len, List.length_replicate, List.length_map, List.length_append, List.length_cons, List.length_nil, List.length_set] at *; omega)))) | ((with_reducible refine And.intro (?_ : (_ : Nat) = _) ?_); (focus (first | decide | omega | (unfold CMul; omega) | (unfold CDiv; omega) | (unfold CPow; decide) | (exact cpow1 (by omega) (by omega)) | (simp only [rngD_len, List.length_replicate, List.length_map, List.length_append, List.length_cons, List.length_nil, List.length_set] at *; omega))))); (conv => whnf); (try dsimp only [List.set_cons_zero, List.set_cons_succ, upA, wipeE, back, List.getElem?_cons_zero, List.getElem?_cons_succ, Option.getD_some]))); (try dsimp only [List.set_cons_zero, List.set_cons_succ, upA, wipeE, back, List.getElem?_cons_zero, List.getElem?_cons_succ, Option.getD_some])))
section
variable {ns ks : List Int} {ms : List Sm} {ws : List Str} {q : Qn} {tq : List D}
theorem lw4 (eq : encQ q = .tup tq) (hs : smQ q) (hd : dpQ q ≤ 13) {o5 o6 : Option D} :
    wc_law_4 [some (.rol (ns.map D.int)), some (.lst (ks.map D.int)), some (.rol (ws.map D.str)), some (.lst (ms.map Sm.d)), some (.tup tq), o5, o6, none] (kt_law [.rol (ns.map D.int)]) := by
  have hc := cnt_13 hd
  have wq : sp_write_question.pre [.tup tq] ∧ ∀ r ds', sp_write_question.post [.tup tq] r ds' → ds' = [.tup tq] ∧ ∃ z, r = .str z ∧ sg z = sgQ q := by
    rw [← eq]
    exact ⟨⟨q, rfl, hs, hc⟩, fun r ds' h => ⟨h.1, h.2 q rfl⟩⟩
  have lp : sp_law_pieces.pre [.tup tq] ∧ ∀ r ds', sp_law_pieces.post [.tup tq] r ds' → ds' = [.tup tq] ∧ r = .lst ((tkQ q).map D.str) := by
    rw [← eq]
    exact ⟨⟨q, rfl, hs, Nat.le_trans hd (by decide), hc⟩, fun r ds' h => ⟨h.1, h.2 q rfl⟩⟩
  have tl := (tkI_len q hs).1
  have pl := sgQ_len q hs
  have jt : sp_law_joined_text.pre [.lst ((tkQ q).map D.str)] ∧ ∀ r ds', sp_law_joined_text.post [.lst ((tkQ q).map D.str)] r ds' → ds' = [.lst ((tkQ q).map D.str)] ∧ ∃ z, r = .str z ∧ sg z = sgQ q :=
    ⟨⟨tkQ q, rfl, by omega, fun t ht => Nat.le_trans (tkQ_tok q hs t ht) (by decide), by
      show (pdL (tkQ q)).length ≤ 16000000
      rw [tkQ_pd q hs]
      omega⟩, fun r ds' h => ⟨h.1, by
      obtain ⟨z, h1, h2⟩ := h.2 _ rfl
      exact ⟨z, h1, h2.trans (tkQ_pd q hs)⟩⟩⟩
  walk_at "Ddlx"
  try refine ⟨wq.1, ?_⟩
  intro r ds' h
  obtain ⟨rfl, z1, rfl, e1⟩ := wq.2 r ds' h
  walk_at "Ddlx"
  try refine ⟨lp.1, ?_⟩
  intro r ds' h
  obtain ⟨rfl, rfl⟩ := lp.2 r ds' h
  walk_at "Ddlx"
  try refine ⟨jt.1, ?_⟩
  intro r ds' h
  obtain ⟨rfl, z2, rfl, e2⟩ := jt.2 r ds' h
  cases sg_inj (e1.trans e2.symm)
  walk_at "Ddlx"
  refine ⟨⟨_, rfl, fitS7 z1⟩, ?_⟩
  rintro _ _ ⟨rfl, rfl⟩
  walk_at "Ddlx"
  try rfl
theorem lw3 (eq : encQ q = .tup tq) (hq : okQ q) (hd : dpQ q ≤ 12) (hw : WsOk ws) :
    wc_law_3 [some (.rol (ns.map D.int)), some (.lst (ks.map D.int)), some (.rol (ws.map D.str)), some (.lst (ms.map Sm.d)), some (.tup tq), none, none, none] (kt_law [.rol (ns.map D.int)]) := by
  have nxt := fun {k2 : List Int} {q : Qn} {tq : List D} {o5 o6 : Option D} eq hs hd => lw4 (ns := ns) (ks := k2) (ms := ms) (ws := ws) (q := q) (tq := tq) (o5 := o5) (o6 := o6) eq hs hd
  have hsq := okQ_sm q hq
  have plen : ((pathsQ q []).map encPa).length ≤ 65536 := by
    have h1 := paths_len q []
    have h2 : 2 ^ dpQ q ≤ 2 ^ 16 := Nat.pow_le_pow_right (by decide) (by omega)
    have h3 : 2 ^ 16 = 65536 := by decide
    rw [List.length_map]
    omega
  have ppos : 0 < ((pathsQ q []).map encPa).length := by rw [pathsQ_eq]; simp
  have pgood : ∀ x ∈ pathsQ q [], goodP q x := fun x hx => by
    obtain ⟨s, hs, hg⟩ := good_of q [] x hx
    rw [List.nil_append] at hs
    rw [hs]; exact hg
  walk_at "Ddlx"
  refine ⟨⟨⟨_, rfl⟩, by decide⟩, ?_⟩
  rintro _ _ ⟨n1, k, rfl, rfl, k0, k1⟩
  walk_at "Ddlx"
  refine ifb_dec (fun g => ?_) (fun g => ?_)
  · walk_at "Ddlx"
    refine ⟨⟨q, [], by rw [eq]; rfl, Nat.le_trans hd (by decide), Nat.le_trans hd (by decide), by decide⟩, ?_⟩
    rintro _ _ ⟨rfl, hp⟩
    obtain rfl := hp q [] (by rw [eq]; rfl)
    walk_at "Ddlx"
    refine ⟨⟨n1, _, _, rfl, rfl, ppos, by omega⟩, ?_⟩
    intro r ds' hp
    obtain ⟨k2, hr, rfl⟩ := hp _ _ _ rfl rfl
    obtain ⟨x, hx', rfl⟩ := List.mem_map.mp hr
    have hg := pgood x hx'
    unfold encPa
    walk_at "Ddlx"
    refine ⟨⟨q, x, by rw [eq]; rfl, hg⟩, ?_⟩
    intro r ds' hp
    obtain ⟨q1, rfl, rfl, hq1, hd1⟩ := hp q x (by rw [eq]; rfl)
    have hq1 := hq1 hq
    have hs1 := okQ_sm q1 hq1
    obtain ⟨t1, e1⟩ := encQ_tup q1
    rw [e1]
    walk_at "Ddlx"
    refine ⟨⟨k2, ms, ws, q1, by rw [e1], hw⟩, ?_⟩
    intro r ds' hp
    obtain ⟨k3, w, rfl, rfl, hdw, hsw⟩ := hp _ _ ws q1 (by rw [e1])
    have hsw := hsw hs1
    obtain ⟨tw, ew⟩ := encQ_tup w
    rw [ew]
    have h1q := dpQ_pos q1
    walk_at "Ddlx"
    refine ⟨⟨q, w, x, by rw [eq, ew]; rfl, hg, by show x.length ≤ 15; omega⟩, ?_⟩
    rintro _ _ ⟨rfl, hp⟩
    obtain ⟨sw, rfl, hdsw, hssw⟩ := hp q w x (by rw [eq, ew]; rfl)
    have hssw := hssw hsq hsw
    obtain ⟨tsw, esw⟩ := encQ_tup sw
    rw [esw]
    walk_at "Ddlx"
    exact Stop.mk (nxt esw hssw (by omega))
  · walk_at "Ddlx"
    exact Stop.mk (nxt eq hsq (by omega))
theorem lw2 (hw : WsOk ws) :
    wc_law_2 [some (.rol (ns.map D.int)), some (.lst (ks.map D.int)), some (.rol (ws.map D.str)), some (.lst (ms.map Sm.d)), none, none, none, none] (kt_law [.rol (ns.map D.int)]) := by
  have nxt := fun {k2 : List Int} {q : Qn} {tq : List D} eq hq hd => lw3 (ns := ns) (ks := k2) (ms := ms) (ws := ws) (q := q) (tq := tq) eq hq hd hw
  walk_at "Ddlx"
  refine ⟨⟨ks, ms, ws, 12, rfl, hw, by decide, by decide⟩, ?_⟩
  intro r ds' hp
  obtain ⟨m4, q, rfl, rfl, hq, hd⟩ := hp _ _ _ _ rfl
  obtain ⟨tq, eq⟩ := encQ_tup q
  rw [eq]
  walk_at "Ddlx"
  exact Stop.mk (nxt eq hq hd)
theorem mod_ok (c : Int) : (c % 10 ^ 60).natAbs < bigZ := by
  have h1 : 0 ≤ c % 10 ^ 60 := Int.emod_nonneg _ (by decide)
  have h2 : c % 10 ^ 60 < 10 ^ 60 := Int.emod_lt_of_pos _ (by decide)
  have h3 : (10 : Nat) ^ 60 ≤ bigZ := big60
  have h4 : ((10 : Nat) ^ 60 : Nat) = ((10 : Int) ^ 60).toNat := by decide
  omega
theorem lw1 (hw : WsOk ws) (hl : ns.length ≤ 63) :
    wc_law_1 [some (.rol (ns.map D.int)), some (.lst (ks.map D.int)), some (.rol (ws.map D.str)), none, none, none, none, none] (kt_law [.rol (ns.map D.int)]) := by
  have nxt := fun {ms : List Sm} => lw2 (ns := ns) (ks := ks) (ms := ms) (ws := ws) hw
  walk_at "Ddlx"
  try refine ⟨by rw [List.length_map]; omega, ?_⟩
  refine lcGo_map (fun d => match d with | .int c => .int (c % 10 ^ 60) | d => d) _ _ ?_ ?_
  · intro d nxt2 acc hd2 hnx
    obtain ⟨x, hx, rfl⟩ := List.mem_map.mp hd2
    dsimp only at hnx
    walk_at "Ddlx"
    exact hnx
  · have e9 : (ns.map D.int).map (fun d => match d with | .int c => .int (c % 10 ^ 60) | d => d) = (ns.map fun c => (⟨c % 10 ^ 60, mod_ok c⟩ : Sm)).map Sm.d := by
      rw [List.map_map, List.map_map]
      rfl
    rw [e9]
    walk_at "Ddlx"
    exact Stop.mk nxt
theorem pure_law : ∀ ds, ds.length = 1 → sp_law.pre ds → w_law (env0 ds 7) { nx := fun e => sp_law.post ds .non (outs e 1), rt := fun d e => sp_law.post ds d (outs e 1) } := by
  rintro ds _ ⟨ns, rfl, hl⟩
  rw [wc_law_eq]
  have nxt := fun {k2 : List Int} {ws : List Str} hw => lw1 (ns := ns) (ks := k2) (ws := ws) hw hl
  walk_at "Ddlx"
  refine ⟨⟨⟨ns, rfl⟩, by simpa using hl, by decide, by decide⟩, ?_⟩
  rintro _ _ ⟨rfl, ms, rfl⟩
  walk_at "Ddlx"
  refine ⟨⟨ms, 10, rfl, by decide, by decide⟩, ?_⟩
  intro r ds' hp
  obtain ⟨ms3, ws, rfl, rfl, w1, w2, w3⟩ := hp _ _ rfl
  have hw : WsOk ws := words_ok w1 (by decide) (by decide) w2 w3
  walk_at "Ddlx"
  exact Stop.mk (nxt hw)
end
end DL

namespace Lw
open PySem PySem.Spec PyProof.Rows L2 DL
def topS (i : Nat) : Stmt := PySem.Challenge.pw_ateverymoment_k47_written_form.main.body.getD i (.Pass ⟨0, 0, 0, 0⟩)
structure Blt (mg : Str → Option Value) : Prop where
  len_ : mg "len" = none
  range_ : mg "range" = none
  int_ : mg "int" = none
  abs_ : mg "abs" = none
  list_ : mg "list" = none
  tuple_ : mg "tuple" = none
  sum_ : mg "sum" = none
  any_ : mg "any" = none
  sorted_ : mg "sorted" = none
  max_ : mg "max" = none
  min_ : mg "min" = none
  divmod_ : mg "divmod" = none
  isinstance_ : mg "isinstance" = none
  zip_ : mg "zip" = none
  reversed_ : mg "reversed" = none
  bool_ : mg "bool" = none
  str_ : mg "str" = none
  set_ : mg "set" = none
  all_ : mg "all" = none
  enumerate_ : mg "enumerate" = none
section
variable {P : Program} {w : World} {K : PySem.W.Frag} {mg : Str → Option Value} {base : Heap}
abbrev s_write_question : Stmt := topS 2
theorem sc_write_question : FnScope ["question", "written", "waiting", "piece"] ["question"] (defScope s_write_question) := ⟨rfl, rfl, rfl, by decide +kernel, rfl, by decide +kernel, by decide +kernel⟩
set_option maxHeartbeats 0 in
theorem ok_write_question {f : Addr} {fd : FuncData} (B : Blt mg) (F : Fun K "write_question" "write_question" s_write_question f fd) (F_written_pieces : FnD P w K mg base 3 "written_pieces" ["question"] sp_written_pieces) : FnOk P w K mg base CX0 4 f fd ["question"] (spOf K 1 sp_write_question) := by
  have nd := (sc_write_question).nd
  exact fn_ok w_write_question F sc_write_question (fun cdv A outer s H E hr =>
    (s_cons (s_asg 1 nd (e_lst a_nil))
    (s_cons (s_asg 2 nd (e_lst (a_cons (e_var 0) a_nil)))
    (s_cons (s_while .never (t_lst 2)
      (s_cons (s_asg 3 nd (e_pop (i := 2)))
        (s_one (s_if (t_val (e_isi .str B.isinstance_ B.str_ (by decide +kernel) (e_var 3)))
          (s_one (s_expr (e_append (i := 1) (e_var 3))))
          (s_one (s_expr (e_extendL (i := 2) (e_rev (e_call F_written_pieces (hr.mono (j := 3) (by decide)) (a_cons (e_var 3) a_nil))))))))))
    (s_one (s_ret (e_join (e_var 1)))))))) pure_write_question
abbrev s_written_pieces : Stmt := topS 3
abbrev N_written_pieces : List Str := ["question", "_", "name", "terms", "pieces", "form", "item", "term"]
theorem sc_written_pieces : FnScope ["question", "_", "name", "terms", "pieces", "form", "item", "term"] ["question"] (defScope s_written_pieces) := ⟨rfl, rfl, rfl, by decide +kernel, rfl, by decide +kernel, by decide +kernel⟩
set_option maxHeartbeats 0 in
theorem ok_written_pieces {f : Addr} {fd : FuncData} (B : Blt mg) (F : Fun K "written_pieces" "written_pieces" s_written_pieces f fd) (F_written_term : FnD P w K mg base 1 "written_term" ["term"] sp_written_term) (F_written_item : FnD P w K mg base 2 "written_item" ["form", "item"] sp_written_item) (G_ITEMS : DctT w K mg "ITEMS" tab_ITEMS) : FnOk P w K mg base CX0 3 f fd ["question"] (spOf K 1 sp_written_pieces) := by
  have nd := (sc_written_pieces).nd
  exact fn_ok w_written_pieces F sc_written_pieces (fun cdv A outer s H E hr =>
    (s_cons (s_if (t_eqS (e_ixs (e_var 0) e_int) e_str)
      (s_cons (s_unp (sl := [1, 2, 3]) (e_var 0) (g_tup rfl (g_cons (g_name 1 nd) (g_cons (g_name 2 nd) (g_cons (g_name 3 nd) g_nil)))))
        (s_one (s_ret (e_lst (a_cons (e_var 2) (a_cons e_str (a_cons (e_join (e_lc rfl nd (i_seq (e_var 3)) (blkOk_by (N := N_written_pieces) (sc := defScope s_written_pieces) (own := [("term", 7)]) (by decide +kernel)) (fun _ _ _ _ _ => (g_name 7 nd)) (fun _ _ _ _ _ => ts_nil) (fun _ _ _ _ _ => (e_call F_written_term (hr.mono (j := 1) (by decide)) (a_cons (e_var 7) a_nil))))) (a_cons e_str a_nil))))))))
      s_nil)
    (s_cons (s_asg 4 nd (e_lst (a_cons (e_ixs (e_var 0) e_int) (a_cons e_str a_nil))))
    (s_cons (s_for [0] [5, 6] .never rfl (i_zipG B.zip_ (e_itm G_ITEMS (e_ixs (e_var 0) e_int)) (e_slL (e_var 0) e_int)) (g_tup rfl (g_cons (g_name 5 nd) (g_cons (g_name 6 nd) g_nil)))
      (s_cons (s_expr (e_append (i := 4) (e_ifx (t_eqS (e_var 5) e_str) (e_var 6) (e_call F_written_item (hr.mono (j := 2) (by decide)) (a_cons (e_var 5) (a_cons (e_var 6) a_nil))))))
        (s_one (s_expr (e_append (i := 4) e_str)))))
    (s_one (s_ret (e_addG (e_slH (e_var 4) (e_neg e_int)) (e_lst (a_cons e_str a_nil))))))))) pure_written_pieces
abbrev s_written_item : Stmt := topS 4
theorem sc_written_item : FnScope ["form", "item"] ["form", "item"] (defScope s_written_item) := ⟨rfl, rfl, rfl, by decide +kernel, rfl, by decide +kernel, by decide +kernel⟩
set_option maxHeartbeats 0 in
theorem ok_written_item {f : Addr} {fd : FuncData} (B : Blt mg) (F : Fun K "written_item" "written_item" s_written_item f fd) (F_written_term : FnD P w K mg base 1 "written_term" ["term"] sp_written_term) : FnOk P w K mg base CX0 2 f fd ["form", "item"] (spOf K 2 sp_written_item) := by
  have nd := (sc_written_item).nd
  exact fn_ok w_written_item F sc_written_item (fun cdv A outer s H E hr =>
    (s_cons (s_if (t_eqS (e_var 0) e_str)
      (s_one (s_ret (e_addS (e_addS e_str (e_joinT (e_var 1))) e_str)))
      s_nil)
    (s_cons (s_if (t_eqS (e_var 0) e_str)
      (s_one (s_ret (e_call F_written_term (hr.mono (j := 1) (by decide)) (a_cons (e_var 1) a_nil))))
      s_nil)
    (s_one (s_ret (e_ifx (t_isN (e_var 1)) e_str (e_strX B.str_ (e_var 1)))))))) pure_written_item
abbrev s_written_term : Stmt := topS 5
theorem sc_written_term : FnScope ["term", "form", "item"] ["term"] (defScope s_written_term) := ⟨rfl, rfl, rfl, by decide +kernel, rfl, by decide +kernel, by decide +kernel⟩
set_option maxHeartbeats 0 in
theorem ok_written_term {f : Addr} {fd : FuncData} (B : Blt mg) (F : Fun K "written_term" "written_term" s_written_term f fd) : FnOk P w K mg base CX0 1 f fd ["term"] (spOf K 1 sp_written_term) := by
  have nd := (sc_written_term).nd
  exact fn_ok w_written_term F sc_written_term (fun cdv A outer s H E hr =>
    (s_cons (s_unp (sl := [1, 2]) (e_var 0) (g_tup rfl (g_cons (g_name 1 nd) (g_cons (g_name 2 nd) g_nil))))
    (s_cons (s_if (t_bop (w_and (t_eqS (e_var 1) e_str) (w_and1 (t_val (e_isi .str B.isinstance_ B.str_ (by decide +kernel) (e_var 2))))))
      (s_one (s_ret (e_addS (e_addS e_str (e_var 2)) e_str)))
      s_nil)
    (s_one (s_ret (e_strX B.str_ (e_var 2))))))) pure_written_term
abbrev s_law_draws : Stmt := topS 7
abbrev N_law_draws : List Str := ["script", "many", "cells", "rest", "draws", "k", "at", "mixed", "cell"]
theorem sc_law_draws : FnScope ["script", "many", "cells", "rest", "draws", "k", "at", "mixed", "cell"] ["script", "many"] (defScope s_law_draws) := ⟨rfl, rfl, rfl, by decide +kernel, rfl, by decide +kernel, by decide +kernel⟩
set_option maxHeartbeats 0 in
theorem ok_law_draws {f : Addr} {fd : FuncData} (B : Blt mg) (F : Fun K "_law_draws" "_law_draws" s_law_draws f fd) : FnOk P w K mg base CX0 1 f fd ["script", "many"] (spOf K 2 sp_law_draws) := by
  have nd := (sc_law_draws).nd
  exact fn_ok w_law_draws F sc_law_draws (fun cdv A outer s H E hr =>
    (s_cons (s_setLc 2 rfl nd (i_seq (e_var 0)) (blkOk_by (N := N_law_draws) (sc := defScope s_law_draws) (own := [("cell", 8)]) (by decide +kernel)) (fun _ _ _ _ _ => (g_name 8 nd)) (fun _ _ _ _ _ => ts_nil) (fun _ _ _ _ _ => (e_int1 B.int_ (e_var 8))))
    (s_cons (s_if (t_eqS (e_len B.len_ (e_var 2)) e_int)
      (s_one (s_expr (e_append (i := 2) e_int)))
      s_nil)
    (s_cons (s_asg 3 nd (e_list B.list_ (e_var 2)))
    (s_cons (s_asg 4 nd (e_lst a_nil))
    (s_cons (s_for [0, 1] [5] .never rfl (i_rng1 B.range_ (e_var 1)) (g_name 5 nd)
      (s_cons (s_asg 6 nd (e_mod (e_var 5) (e_len B.len_ (e_var 2))))
        (s_one (s_if (t_ge (e_ixs (e_var 2) (e_var 6)) (e_pow e_int e_int))
          (s_cons (s_expr (e_append (i := 4) (e_mod (e_int1 B.int_ (e_ixs (e_var 3) (e_var 6))) e_int)))
            (s_one (s_set 3 (e_fdiv (e_ixs (e_var 3) (e_var 6)) e_int) (e_var 6))))
          (s_cons (s_asg 7 nd (e_mod (e_int1 B.int_ (e_addG (e_addG (e_mul (e_ixs (e_var 2) (e_var 6)) e_int) (e_mul (e_var 5) e_int)) e_int)) e_int))
            (s_one (s_expr (e_append (i := 4) (e_mod (e_int1 B.int_ (e_addG (e_addG (e_mul (e_var 7) (e_var 7)) (e_mul e_int (e_var 7))) (e_var 5))) e_int)))))))))
    (s_cons (s_expr (e_reverse (i := 4)))
    (s_one (s_ret (e_var 4)))))))))) pure_law_draws
abbrev s_law_take : Stmt := topS 8
theorem sc_law_take : FnScope ["draws", "many"] ["draws", "many"] (defScope s_law_take) := ⟨rfl, rfl, rfl, by decide +kernel, rfl, by decide +kernel, by decide +kernel⟩
set_option maxHeartbeats 0 in
theorem ok_law_take {f : Addr} {fd : FuncData} (B : Blt mg) (F : Fun K "_law_take" "_law_take" s_law_take f fd) : FnOk P w K mg base CX0 1 f fd ["draws", "many"] (spOf K 2 sp_law_take) := by
  have nd := (sc_law_take).nd
  exact fn_ok w_law_take F sc_law_take (fun cdv A outer s H E hr =>
    (s_cons (s_if (t_eqS (e_len B.len_ (e_var 0)) e_int)
      (s_one (s_ret e_int))
      s_nil)
    (s_one (s_ret (e_mod (e_int1 B.int_ (e_pop (i := 0))) (e_var 1)))))) pure_law_take
abbrev s_law_pick : Stmt := topS 9
theorem sc_law_pick : FnScope ["draws", "row"] ["draws", "row"] (defScope s_law_pick) := ⟨rfl, rfl, rfl, by decide +kernel, rfl, by decide +kernel, by decide +kernel⟩
set_option maxHeartbeats 0 in
theorem ok_law_pick {f : Addr} {fd : FuncData} (B : Blt mg) (F : Fun K "_law_pick" "_law_pick" s_law_pick f fd) (F_law_take : FnD P w K mg base 1 "_law_take" ["draws", "many"] sp_law_take) : FnOk P w K mg base CX0 2 f fd ["draws", "row"] (spOf K 2 sp_law_pick) := by
  have nd := (sc_law_pick).nd
  exact fn_ok w_law_pick F sc_law_pick (fun cdv A outer s H E hr =>
    (s_one (s_ret (e_ixs (e_var 1) (e_call F_law_take (hr.mono (j := 1) (by decide)) (a_cons (e_var 0) (a_cons (e_len B.len_ (e_var 1)) a_nil))))))) pure_law_pick
abbrev s_law_size_b : Stmt := topS 10
theorem sc_law_size_b : FnScope ["draws", "script", "kind", "number", "k"] ["draws", "script"] (defScope s_law_size_b) := ⟨rfl, rfl, rfl, by decide +kernel, rfl, by decide +kernel, by decide +kernel⟩
set_option maxHeartbeats 0 in
theorem ok_law_size_b {f : Addr} {fd : FuncData} (B : Blt mg) (F : Fun K "_law_size" "_law_size" s_law_size_b f fd) (F_law_take : FnD P w K mg base 1 "_law_take" ["draws", "many"] sp_law_take) : FnOk P w K mg base CX0 2 f fd ["draws", "script"] (spOf K 2 sp_law_size_b) := by
  have nd := (sc_law_size_b).nd
  exact fn_ok w_law_size_b F sc_law_size_b (fun cdv A outer s H E hr =>
    (s_cons (s_asg 2 nd (e_call F_law_take (hr.mono (j := 1) (by decide)) (a_cons (e_var 0) (a_cons e_int a_nil))))
    (s_cons (s_if (t_lt (e_var 2) e_int)
      (s_one (s_ret (e_call F_law_take (hr.mono (j := 1) (by decide)) (a_cons (e_var 0) (a_cons e_int a_nil)))))
      s_nil)
    (s_cons (s_if (t_eqS (e_var 2) e_int)
      (s_one (s_ret (e_call F_law_take (hr.mono (j := 1) (by decide)) (a_cons (e_var 0) (a_cons e_int a_nil)))))
      s_nil)
    (s_cons (s_if (t_bop (w_or (t_eqS (e_var 2) e_int) (w_or1 (t_eqS (e_len B.len_ (e_var 1)) e_int))))
      (s_cons (s_asg 3 nd e_int)
        (s_cons (s_for [0, 1] [4] .never rfl (i_rng1 B.range_ e_int) (g_name 4 nd)
          (s_one (s_asg 3 nd (e_addG (e_mul (e_var 3) e_int) (e_call F_law_take (hr.mono (j := 1) (by decide)) (a_cons (e_var 0) (a_cons e_int a_nil)))))))
        (s_one (s_ret (e_var 3)))))
      s_nil)
    (s_one (s_ret (e_abs B.abs_ (e_int1 B.int_ (e_ixs (e_var 1) (e_call F_law_take (hr.mono (j := 1) (by decide)) (a_cons (e_var 0) (a_cons (e_len B.len_ (e_var 1)) a_nil))))))))))))) pure_law_size_b
abbrev s_law_same : Stmt := topS 11
abbrev N_law_same : List Str := ["actual", "due", "k"]
theorem sc_law_same : FnScope ["actual", "due", "k"] ["actual", "due"] (defScope s_law_same) := ⟨rfl, rfl, rfl, by decide +kernel, rfl, by decide +kernel, by decide +kernel⟩
set_option maxHeartbeats 0 in
theorem okn_law_same {f : Addr} {fd : FuncData} (B : Blt mg) (F : Fun K "_law_same" "_law_same" s_law_same f fd) (g : mg "_law_same" = some (.ref f)) : ∀ n : Nat, FnOk P w K mg base CX0 (0 + n) f fd ["actual", "due"] (spOf K 2 (spn_law_same n))
  | 0 => fn_false fun _ h => h
  | n + 1 => by
    have nd := (sc_law_same).nd
    have F_law_same : FnD P w K mg base (0 + n) "_law_same" ["actual", "due"] (spn_law_same n) := ⟨f, fd, okn_law_same B F g n, g, F.kp, F.binds fun _ _ _ _ _ _ us hl => match us, hl with | [_, _], _ => rfl⟩
    exact fn_ok (w_law_same n) F sc_law_same (fun cdv A outer s H E hr =>
    (s_cons (s_if (t_val (e_isi2 .tuple .list B.isinstance_ B.tuple_ B.list_ (by decide +kernel) (by decide +kernel) (e_var 1)))
      (s_cons (s_if (t_bop (w_or (t_neS (e_isi .tuple B.isinstance_ B.tuple_ (by decide +kernel) (e_var 0)) (e_isi .tuple B.isinstance_ B.tuple_ (by decide +kernel) (e_var 1))) (w_or1 (t_neS (e_isi .list B.isinstance_ B.list_ (by decide +kernel) (e_var 0)) (e_isi .list B.isinstance_ B.list_ (by decide +kernel) (e_var 1))))))
          (s_one (s_ret e_bl))
          s_nil)
        (s_cons (s_if (t_neS (e_len B.len_ (e_var 0)) (e_len B.len_ (e_var 1)))
          (s_one (s_ret e_bl))
          s_nil)
        (s_one (s_ret (e_notIn e_bl (e_lc rfl nd (i_rng1 B.range_ (e_len B.len_ (e_var 1))) (blkOk_by (N := N_law_same) (sc := defScope s_law_same) (own := [("k", 2)]) (by decide +kernel)) (fun _ _ _ _ _ => (g_name 2 nd)) (fun _ _ _ _ _ => ts_nil) (fun _ _ _ _ _ => (e_call F_law_same (hr.mono (j := 0 + n) (Nat.le_refl _)) (a_cons (e_ixs (e_var 0) (e_var 2)) (a_cons (e_ixs (e_var 1) (e_var 2)) a_nil))))))))))
      s_nil)
    (s_cons (s_if (t_bop (w_or (t_neS (e_isi .bool B.isinstance_ B.bool_ (by decide +kernel) (e_var 0)) (e_isi .bool B.isinstance_ B.bool_ (by decide +kernel) (e_var 1))) (w_or1 (t_neS (e_isi .int B.isinstance_ B.int_ (by decide +kernel) (e_var 0)) (e_isi .int B.isinstance_ B.int_ (by decide +kernel) (e_var 1))))))
      (s_one (s_ret e_bl))
      s_nil)
    (s_cons (s_if (t_bop (w_or (t_neS (e_isi .str B.isinstance_ B.str_ (by decide +kernel) (e_var 0)) (e_isi .str B.isinstance_ B.str_ (by decide +kernel) (e_var 1))) (w_or1 (t_neS (e_isN (e_var 0)) (e_isN (e_var 1))))))
      (s_one (s_ret e_bl))
      s_nil)
    (s_one (s_ret (e_eqS (e_var 0) (e_var 1)))))))) (pure_law_same n)
theorem ok_law_same {f : Addr} {fd : FuncData} (B : Blt mg) (F : Fun K "_law_same" "_law_same" s_law_same f fd) (g : mg "_law_same" = some (.ref f)) : FnOk P w K mg base CX0 8 f fd ["actual", "due"] (spOf K 2 sp_law_same) :=
  okn_law_same B F g 8
abbrev s_law_some_columns : Stmt := topS 12
abbrev N_law_some_columns : List Str := ["draws", "columns", "x"]
theorem sc_law_some_columns : FnScope ["draws", "columns", "x"] ["draws", "columns"] (defScope s_law_some_columns) := ⟨rfl, rfl, rfl, by decide +kernel, rfl, by decide +kernel, by decide +kernel⟩
set_option maxHeartbeats 0 in
theorem ok_law_some_columns {f : Addr} {fd : FuncData} (B : Blt mg) (F : Fun K "_law_some_columns" "_law_some_columns" s_law_some_columns f fd) (F_law_take : FnD P w K mg base 1 "_law_take" ["draws", "many"] sp_law_take) : FnOk P w K mg base CX0 2 f fd ["draws", "columns"] (spOf K 2 sp_law_some_columns) := by
  have nd := (sc_law_some_columns).nd
  exact fn_ok w_law_some_columns F sc_law_some_columns (fun cdv A outer s H E hr =>
    (s_one (s_ret (e_tuple B.tuple_ (e_lc rfl nd (i_seq (e_var 1)) (blkOk_by (N := N_law_some_columns) (sc := defScope s_law_some_columns) (own := [("x", 2)]) (by decide +kernel)) (fun _ _ _ _ _ => (g_name 2 nd)) (fun _ _ _ _ _ => (ts_one (t_gt (e_call F_law_take (hr.mono (j := 1) (by decide)) (a_cons (e_var 0) (a_cons e_int a_nil))) e_int))) (fun _ _ _ _ _ => (e_var 2))))))) pure_law_some_columns
abbrev s_law_is_pair : Stmt := topS 13
theorem sc_law_is_pair : FnScope ["kind"] ["kind"] (defScope s_law_is_pair) := ⟨rfl, rfl, rfl, by decide +kernel, rfl, by decide +kernel, by decide +kernel⟩
set_option maxHeartbeats 0 in
theorem ok_law_is_pair {f : Addr} {fd : FuncData} (B : Blt mg) (F : Fun K "_law_is_pair" "_law_is_pair" s_law_is_pair f fd) : FnOk P w K mg base CX0 1 f fd ["kind"] (spOf K 1 sp_law_is_pair) := by
  have nd := (sc_law_is_pair).nd
  exact fn_ok w_law_is_pair F sc_law_is_pair (fun cdv A outer s H E hr =>
    (s_one (s_ret (e_in (e_var 0) (e_lst (a_cons e_str (a_cons e_str (a_cons e_str (a_cons e_str (a_cons e_str (a_cons e_str (a_cons e_str a_nil)))))))))))) pure_law_is_pair
abbrev s_law_words : Stmt := topS 14
abbrev N_law_words : List Str := ["draws", "many", "words", "k", "size", "word", "j"]
theorem sc_law_words : FnScope ["draws", "many", "words", "k", "size", "word", "j"] ["draws", "many"] (defScope s_law_words) := ⟨rfl, rfl, rfl, by decide +kernel, rfl, by decide +kernel, by decide +kernel⟩
set_option maxHeartbeats 0 in
theorem ok_law_words {f : Addr} {fd : FuncData} (B : Blt mg) (F : Fun K "_law_words" "_law_words" s_law_words f fd) (F_law_take : FnD P w K mg base 1 "_law_take" ["draws", "many"] sp_law_take) : FnOk P w K mg base CX0 2 f fd ["draws", "many"] (spOf K 2 sp_law_words) := by
  have nd := (sc_law_words).nd
  exact fn_ok w_law_words F sc_law_words (fun cdv A outer s H E hr =>
    (s_cons (s_asg 2 nd (e_lst a_nil))
    (s_cons (s_for [0, 1] [3] .never rfl (i_rng1 B.range_ (e_var 1)) (g_name 3 nd)
      (s_cons (s_asg 4 nd (e_addG e_int (e_call F_law_take (hr.mono (j := 1) (by decide)) (a_cons (e_var 0) (a_cons e_int a_nil)))))
        (s_cons (s_if (t_eqS (e_call F_law_take (hr.mono (j := 1) (by decide)) (a_cons (e_var 0) (a_cons e_int a_nil))) e_int)
          (s_one (s_asg 4 nd (e_addG (e_addG (e_var 4) e_int) (e_call F_law_take (hr.mono (j := 1) (by decide)) (a_cons (e_var 0) (a_cons e_int a_nil))))))
          s_nil)
        (s_cons (s_asg 5 nd (e_join (e_lc rfl nd (i_rng1 B.range_ (e_var 4)) (blkOk_by (N := N_law_words) (sc := defScope s_law_words) (own := [("j", 6)]) (by decide +kernel)) (fun _ _ _ _ _ => (g_name 6 nd)) (fun _ _ _ _ _ => ts_nil) (fun _ _ _ _ _ => (e_ixStr e_str (e_call F_law_take (hr.mono (j := 1) (by decide)) (a_cons (e_var 0) (a_cons e_int a_nil))))))))
        (s_cons (s_if (t_in (e_var 5) (e_var 2))
          (s_one (s_asg 5 nd (e_addS e_str (e_ixStr e_str (e_var 3)))))
          s_nil)
        (s_one (s_expr (e_append (i := 2) (e_var 5)))))))))
    (s_one (s_ret (e_var 2)))))) pure_law_words
abbrev s_law_number : Stmt := topS 15
theorem sc_law_number : FnScope ["draws", "script"] ["draws", "script"] (defScope s_law_number) := ⟨rfl, rfl, rfl, by decide +kernel, rfl, by decide +kernel, by decide +kernel⟩
set_option maxHeartbeats 0 in
theorem ok_law_number {f : Addr} {fd : FuncData} (B : Blt mg) (F : Fun K "_law_number" "_law_number" s_law_number f fd) (F_law_size_b : FnD P w K mg base 2 "_law_size" ["draws", "script"] sp_law_size_b) (F_law_take : FnD P w K mg base 1 "_law_take" ["draws", "many"] sp_law_take) : FnOk P w K mg base CX0 3 f fd ["draws", "script"] (spOf K 2 sp_law_number) := by
  have nd := (sc_law_number).nd
  exact fn_ok w_law_number F sc_law_number (fun cdv A outer s H E hr =>
    (s_one (s_ret (e_mul (e_call F_law_size_b (hr.mono (j := 2) (by decide)) (a_cons (e_var 0) (a_cons (e_var 1) a_nil))) (e_sub e_int (e_mul e_int (e_call F_law_take (hr.mono (j := 1) (by decide)) (a_cons (e_var 0) (a_cons e_int a_nil))))))))) pure_law_number
abbrev s_law_worth : Stmt := topS 16
theorem sc_law_worth : FnScope ["draws", "script", "words"] ["draws", "script", "words"] (defScope s_law_worth) := ⟨rfl, rfl, rfl, by decide +kernel, rfl, by decide +kernel, by decide +kernel⟩
set_option maxHeartbeats 0 in
theorem ok_law_worth {f : Addr} {fd : FuncData} (B : Blt mg) (F : Fun K "_law_worth" "_law_worth" s_law_worth f fd) (F_law_take : FnD P w K mg base 1 "_law_take" ["draws", "many"] sp_law_take) (F_law_pick : FnD P w K mg base 2 "_law_pick" ["draws", "row"] sp_law_pick) (F_law_number : FnD P w K mg base 3 "_law_number" ["draws", "script"] sp_law_number) : FnOk P w K mg base CX0 4 f fd ["draws", "script", "words"] (spOf K 3 sp_law_worth) := by
  have nd := (sc_law_worth).nd
  exact fn_ok w_law_worth F sc_law_worth (fun cdv A outer s H E hr =>
    (s_cons (s_if (t_eqS (e_call F_law_take (hr.mono (j := 1) (by decide)) (a_cons (e_var 0) (a_cons e_int a_nil))) e_int)
      (s_one (s_ret (e_call F_law_pick (hr.mono (j := 2) (by decide)) (a_cons (e_var 0) (a_cons (e_var 2) a_nil)))))
      s_nil)
    (s_one (s_ret (e_call F_law_number (hr.mono (j := 3) (by decide)) (a_cons (e_var 0) (a_cons (e_var 1) a_nil))))))) pure_law_worth
abbrev s_law_wide_term : Stmt := topS 17
theorem sc_law_wide_term : FnScope ["draws", "script", "words", "columns"] ["draws", "script", "words", "columns"] (defScope s_law_wide_term) := ⟨rfl, rfl, rfl, by decide +kernel, rfl, by decide +kernel, by decide +kernel⟩
set_option maxHeartbeats 0 in
theorem ok_law_wide_term {f : Addr} {fd : FuncData} (B : Blt mg) (F : Fun K "_law_wide_term" "_law_wide_term" s_law_wide_term f fd) (F_law_take : FnD P w K mg base 1 "_law_take" ["draws", "many"] sp_law_take) (F_law_pick : FnD P w K mg base 2 "_law_pick" ["draws", "row"] sp_law_pick) (F_law_worth : FnD P w K mg base 4 "_law_worth" ["draws", "script", "words"] sp_law_worth) : FnOk P w K mg base CX0 5 f fd ["draws", "script", "words", "columns"] (spOf K 4 sp_law_wide_term) := by
  have nd := (sc_law_wide_term).nd
  exact fn_ok w_law_wide_term F sc_law_wide_term (fun cdv A outer s H E hr =>
    (s_cons (s_if (t_bop (w_and (t_gt (e_len B.len_ (e_var 3)) e_int) (w_and1 (t_eqS (e_call F_law_take (hr.mono (j := 1) (by decide)) (a_cons (e_var 0) (a_cons e_int a_nil))) e_int))))
      (s_one (s_ret (e_tup (a_cons e_str (a_cons (e_call F_law_pick (hr.mono (j := 2) (by decide)) (a_cons (e_var 0) (a_cons (e_var 3) a_nil))) a_nil)))))
      s_nil)
    (s_one (s_ret (e_tup (a_cons e_str (a_cons (e_call F_law_worth (hr.mono (j := 4) (by decide)) (a_cons (e_var 0) (a_cons (e_var 1) (a_cons (e_var 2) a_nil)))) a_nil))))))) pure_law_wide_term
abbrev s_law_wide_fact : Stmt := topS 18
abbrev N_law_wide_fact : List Str := ["draws", "script", "words", "columns", "terms", "k", "turn", "x"]
theorem sc_law_wide_fact : FnScope ["draws", "script", "words", "columns", "terms", "k", "turn", "x"] ["draws", "script", "words", "columns"] (defScope s_law_wide_fact) := ⟨rfl, rfl, rfl, by decide +kernel, rfl, by decide +kernel, by decide +kernel⟩
set_option maxHeartbeats 0 in
theorem ok_law_wide_fact {f : Addr} {fd : FuncData} (B : Blt mg) (F : Fun K "_law_wide_fact" "_law_wide_fact" s_law_wide_fact f fd) (F_law_take : FnD P w K mg base 1 "_law_take" ["draws", "many"] sp_law_take) (F_law_wide_term : FnD P w K mg base 5 "_law_wide_term" ["draws", "script", "words", "columns"] sp_law_wide_term) (F_law_pick : FnD P w K mg base 2 "_law_pick" ["draws", "row"] sp_law_pick) : FnOk P w K mg base CX0 6 f fd ["draws", "script", "words", "columns"] (spOf K 4 sp_law_wide_fact) := by
  have nd := (sc_law_wide_fact).nd
  exact fn_ok w_law_wide_fact F sc_law_wide_fact (fun cdv A outer s H E hr =>
    (s_cons (s_setLc 4 rfl nd (i_seq (e_var 3)) (blkOk_by (N := N_law_wide_fact) (sc := defScope s_law_wide_fact) (own := [("x", 7)]) (by decide +kernel)) (fun _ _ _ _ _ => (g_name 7 nd)) (fun _ _ _ _ _ => ts_nil) (fun _ _ _ _ _ => (e_tup (a_cons e_str (a_cons (e_var 7) a_nil)))))
    (s_cons (s_for [0, 1, 2, 3] [5] .never rfl (i_rng1 B.range_ (e_call F_law_take (hr.mono (j := 1) (by decide)) (a_cons (e_var 0) (a_cons (e_sub e_int (e_len B.len_ (e_var 3))) a_nil)))) (g_name 5 nd)
      (s_one (s_if (t_eqS (e_call F_law_take (hr.mono (j := 1) (by decide)) (a_cons (e_var 0) (a_cons e_int a_nil))) e_int)
          (s_one (s_expr (e_append (i := 4) (e_call F_law_wide_term (hr.mono (j := 5) (by decide)) (a_cons (e_var 0) (a_cons (e_var 1) (a_cons (e_var 2) (a_cons (e_var 3) a_nil))))))))
          s_nil)))
    (s_cons (s_asg 6 nd (e_call F_law_take (hr.mono (j := 1) (by decide)) (a_cons (e_var 0) (a_cons (e_addG (e_len B.len_ (e_var 4)) e_int) a_nil))))
    (s_cons (s_asg 4 nd (e_addG (e_slL (e_var 4) (e_var 6)) (e_slH (e_var 4) (e_var 6))))
    (s_cons (s_if (t_eqS (e_call F_law_take (hr.mono (j := 1) (by decide)) (a_cons (e_var 0) (a_cons e_int a_nil))) e_int)
      (s_one (s_expr (e_reverse (i := 4))))
      s_nil)
    (s_one (s_ret (e_tup (a_cons e_str (a_cons (e_call F_law_pick (hr.mono (j := 2) (by decide)) (a_cons (e_var 0) (a_cons (e_var 2) a_nil))) (a_cons (e_tuple B.tuple_ (e_var 4)) a_nil)))))))))))) pure_law_wide_fact
abbrev s_law_more : Stmt := topS 19
theorem sc_law_more : FnScope ["draws", "words", "columns", "found", "word"] ["draws", "words", "columns"] (defScope s_law_more) := ⟨rfl, rfl, rfl, by decide +kernel, rfl, by decide +kernel, by decide +kernel⟩
set_option maxHeartbeats 0 in
theorem ok_law_more {f : Addr} {fd : FuncData} (B : Blt mg) (F : Fun K "_law_more" "_law_more" s_law_more f fd) (F_law_take : FnD P w K mg base 1 "_law_take" ["draws", "many"] sp_law_take) : FnOk P w K mg base CX0 2 f fd ["draws", "words", "columns"] (spOf K 3 sp_law_more) := by
  have nd := (sc_law_more).nd
  exact fn_ok w_law_more F sc_law_more (fun cdv A outer s H E hr =>
    (s_cons (s_asg 3 nd (e_list B.list_ (e_var 2)))
    (s_cons (s_for [0, 1, 2] [4] .never rfl (i_seq (e_var 1)) (g_name 4 nd)
      (s_one (s_if (t_bop (w_and (t_lt (e_len B.len_ (e_var 3)) e_int) (w_and (t_notIn (e_var 4) (e_var 3)) (w_and1 (t_eqS (e_call F_law_take (hr.mono (j := 1) (by decide)) (a_cons (e_var 0) (a_cons e_int a_nil))) e_int)))))
          (s_one (s_expr (e_append (i := 3) (e_var 4))))
          s_nil)))
    (s_one (s_ret (e_tuple B.tuple_ (e_sortedS rfl B.sorted_ (e_var 3)))))))) pure_law_more
abbrev s_law_wide_total : Stmt := topS 20
abbrev N_law_wide_total : List Str := ["draws", "script", "words", "columns", "depth", "new", "keep", "inner", "part", "kind", "x"]
theorem sc_law_wide_total : FnScope ["draws", "script", "words", "columns", "depth", "new", "keep", "inner", "part", "kind", "x"] ["draws", "script", "words", "columns", "depth"] (defScope s_law_wide_total) := ⟨rfl, rfl, rfl, by decide +kernel, rfl, by decide +kernel, by decide +kernel⟩
abbrev s_law_wide_pair : Stmt := topS 21
abbrev N_law_wide_pair : List Str := ["draws", "script", "words", "columns", "depth", "kind", "depths", "first", "second", "one", "x"]
theorem sc_law_wide_pair : FnScope ["draws", "script", "words", "columns", "depth", "kind", "depths", "first", "second", "one", "x"] ["draws", "script", "words", "columns", "depth"] (defScope s_law_wide_pair) := ⟨rfl, rfl, rfl, by decide +kernel, rfl, by decide +kernel, by decide +kernel⟩
abbrev s_law_wide : Stmt := topS 22
theorem sc_law_wide : FnScope ["draws", "script", "words", "columns", "depth", "kind", "inner", "part", "pair", "test", "left", "within"] ["draws", "script", "words", "columns", "depth"] (defScope s_law_wide) := ⟨rfl, rfl, rfl, by decide +kernel, rfl, by decide +kernel, by decide +kernel⟩
abbrev s_law_wide_columns : Stmt := topS 23
theorem sc_law_wide_columns : FnScope ["draws", "words", "many"] ["draws", "words"] (defScope s_law_wide_columns) := ⟨rfl, rfl, rfl, by decide +kernel, rfl, by decide +kernel, by decide +kernel⟩
set_option maxHeartbeats 0 in
theorem ok_law_wide_columns {f : Addr} {fd : FuncData} (B : Blt mg) (F : Fun K "_law_wide_columns" "_law_wide_columns" s_law_wide_columns f fd) (F_law_take : FnD P w K mg base 1 "_law_take" ["draws", "many"] sp_law_take) : FnOk P w K mg base CX0 2 f fd ["draws", "words"] (spOf K 2 sp_law_wide_columns) := by
  have nd := (sc_law_wide_columns).nd
  exact fn_ok w_law_wide_columns F sc_law_wide_columns (fun cdv A outer s H E hr =>
    (s_cons (s_asg 2 nd (e_call F_law_take (hr.mono (j := 1) (by decide)) (a_cons (e_var 0) (a_cons e_int a_nil))))
    (s_cons (s_if (t_eqS (e_call F_law_take (hr.mono (j := 1) (by decide)) (a_cons (e_var 0) (a_cons e_int a_nil))) e_int)
      (s_one (s_asg 2 nd e_int))
      s_nil)
    (s_one (s_ret (e_tuple B.tuple_ (e_sortedS rfl B.sorted_ (e_slH (e_var 1) (e_var 2))))))))) pure_law_wide_columns
abbrev s_law_parts : Stmt := topS 24
theorem sc_law_parts : FnScope ["question"] ["question"] (defScope s_law_parts) := ⟨rfl, rfl, rfl, by decide +kernel, rfl, by decide +kernel, by decide +kernel⟩
set_option maxHeartbeats 0 in
theorem ok_law_parts {f : Addr} {fd : FuncData} (B : Blt mg) (F : Fun K "_law_parts" "_law_parts" s_law_parts f fd) (F_law_is_pair : FnD P w K mg base 1 "_law_is_pair" ["kind"] sp_law_is_pair) : FnOk P w K mg base CX0 2 f fd ["question"] (spOf K 1 sp_law_parts) := by
  have nd := (sc_law_parts).nd
  exact fn_ok w_law_parts F sc_law_parts (fun cdv A outer s H E hr =>
    (s_cons (s_if (t_eqS (e_ixs (e_var 0) e_int) e_str)
      (s_one (s_ret (e_lst a_nil)))
      s_nil)
    (s_cons (s_if (t_val (e_call F_law_is_pair (hr.mono (j := 1) (by decide)) (a_cons (e_ixs (e_var 0) e_int) a_nil)))
      (s_one (s_ret (e_lst (a_cons (e_ixs (e_var 0) e_int) (a_cons (e_ixs (e_var 0) e_int) a_nil)))))
      s_nil)
    (s_one (s_ret (e_lst (a_cons (e_ixs (e_var 0) (e_sub (e_len B.len_ (e_var 0)) e_int)) a_nil))))))) pure_law_parts
abbrev s_law_depth : Stmt := topS 25
abbrev N_law_depth : List Str := ["question", "part"]
theorem sc_law_depth : FnScope ["question", "part"] ["question"] (defScope s_law_depth) := ⟨rfl, rfl, rfl, by decide +kernel, rfl, by decide +kernel, by decide +kernel⟩
set_option maxHeartbeats 0 in
theorem okn_law_depth {f : Addr} {fd : FuncData} (B : Blt mg) (F : Fun K "_law_depth" "_law_depth" s_law_depth f fd) (g : mg "_law_depth" = some (.ref f)) (F_law_parts : FnD P w K mg base 2 "_law_parts" ["question"] sp_law_parts) : ∀ n : Nat, FnOk P w K mg base CX0 (2 + n) f fd ["question"] (spOf K 1 (spn_law_depth n))
  | 0 => fn_false fun _ h => h
  | n + 1 => by
    have nd := (sc_law_depth).nd
    have F_law_depth : FnD P w K mg base (2 + n) "_law_depth" ["question"] (spn_law_depth n) := ⟨f, fd, okn_law_depth B F g F_law_parts n, g, F.kp, F.binds fun _ _ _ _ _ _ us hl => match us, hl with | [_], _ => rfl⟩
    exact fn_ok (w_law_depth n) F sc_law_depth (fun cdv A outer s H E hr =>
    (s_one (s_ret (e_addG e_int (e_maxL rfl B.max_ (e_addG (e_lst (a_cons e_int a_nil)) (e_lc rfl nd (i_seq (e_call F_law_parts (hr.mono (j := 2) (Nat.le_trans (by decide : _ ≤ 2) (Nat.le_add_right _ _))) (a_cons (e_var 0) a_nil))) (blkOk_by (N := N_law_depth) (sc := defScope s_law_depth) (own := [("part", 1)]) (by decide +kernel)) (fun _ _ _ _ _ => (g_name 1 nd)) (fun _ _ _ _ _ => ts_nil) (fun _ _ _ _ _ => (e_call F_law_depth (hr.mono (j := 2 + n) (Nat.le_refl _)) (a_cons (e_var 1) a_nil)))))))))) (pure_law_depth n)
theorem ok_law_depth {f : Addr} {fd : FuncData} (B : Blt mg) (F : Fun K "_law_depth" "_law_depth" s_law_depth f fd) (g : mg "_law_depth" = some (.ref f)) (F_law_parts : FnD P w K mg base 2 "_law_parts" ["question"] sp_law_parts) : FnOk P w K mg base CX0 18 f fd ["question"] (spOf K 1 sp_law_depth) :=
  okn_law_depth B F g F_law_parts 16
abbrev s_law_wrapped : Stmt := topS 26
theorem sc_law_wrapped : FnScope ["draws", "script", "question", "depth", "k", "kind"] ["draws", "script", "question", "depth"] (defScope s_law_wrapped) := ⟨rfl, rfl, rfl, by decide +kernel, rfl, by decide +kernel, by decide +kernel⟩
set_option maxHeartbeats 0 in
theorem ok_law_wrapped {f : Addr} {fd : FuncData} (B : Blt mg) (F : Fun K "_law_wrapped" "_law_wrapped" s_law_wrapped f fd) (F_law_depth : FnD P w K mg base 18 "_law_depth" ["question"] sp_law_depth) (F_law_take : FnD P w K mg base 1 "_law_take" ["draws", "many"] sp_law_take) (F_law_number : FnD P w K mg base 3 "_law_number" ["draws", "script"] sp_law_number) : FnOk P w K mg base CX0 19 f fd ["draws", "script", "question", "depth"] (spOf K 4 sp_law_wrapped) := by
  have nd := (sc_law_wrapped).nd
  exact fn_ok w_law_wrapped F sc_law_wrapped (fun cdv A outer s H E hr =>
    (s_cons (s_for [0, 1, 2, 3] [4] .never rfl (i_rng1 B.range_ e_int) (g_name 4 nd)
      (s_cons (s_if (t_ge (e_call F_law_depth (hr.mono (j := 18) (by decide)) (a_cons (e_var 2) a_nil)) (e_var 3))
          (s_one s_brk)
          s_nil)
        (s_cons (s_asg 5 nd (e_call F_law_take (hr.mono (j := 1) (by decide)) (a_cons (e_var 0) (a_cons e_int a_nil))))
        (s_one (s_if (t_eqS (e_var 5) e_int)
          (s_one (s_asg 2 nd (e_tup (a_cons e_str (a_cons (e_call F_law_number (hr.mono (j := 3) (by decide)) (a_cons (e_var 0) (a_cons (e_var 1) a_nil))) (a_cons (e_var 2) a_nil))))))
          (s_one (s_if (t_eqS (e_var 5) e_int)
              (s_one (s_asg 2 nd (e_tup (a_cons e_str (a_cons e_non (a_cons (e_var 2) a_nil))))))
              (s_one (s_asg 2 nd (e_tup (a_cons e_str (a_cons (e_var 2) (a_cons (e_tup (a_cons e_str (a_cons e_str (a_cons (e_tup a_nil) a_nil)))) a_nil)))))))))))))
    (s_one (s_ret (e_var 2))))) pure_law_wrapped
abbrev s_law_term_piece : Stmt := topS 27
theorem sc_law_term_piece : FnScope ["term"] ["term"] (defScope s_law_term_piece) := ⟨rfl, rfl, rfl, by decide +kernel, rfl, by decide +kernel, by decide +kernel⟩
set_option maxHeartbeats 0 in
theorem ok_law_term_piece {f : Addr} {fd : FuncData} (B : Blt mg) (F : Fun K "_law_term_piece" "_law_term_piece" s_law_term_piece f fd) : FnOk P w K mg base CX0 1 f fd ["term"] (spOf K 1 sp_law_term_piece) := by
  have nd := (sc_law_term_piece).nd
  exact fn_ok w_law_term_piece F sc_law_term_piece (fun cdv A outer s H E hr =>
    (s_cons (s_if (t_eqS (e_ixs (e_var 0) e_int) e_str)
      (s_one (s_ret (e_ixs (e_var 0) e_int)))
      s_nil)
    (s_cons (s_if (t_val (e_isi .str B.isinstance_ B.str_ (by decide +kernel) (e_ixs (e_var 0) e_int)))
      (s_one (s_ret (e_addS (e_addS e_str (e_ixs (e_var 0) e_int)) e_str)))
      s_nil)
    (s_one (s_ret (e_strX B.str_ (e_ixs (e_var 0) e_int))))))) pure_law_term_piece
abbrev s_law_listed : Stmt := topS 28
theorem sc_law_listed : FnScope ["items", "found", "item"] ["items"] (defScope s_law_listed) := ⟨rfl, rfl, rfl, by decide +kernel, rfl, by decide +kernel, by decide +kernel⟩
set_option maxHeartbeats 0 in
theorem ok_law_listed {f : Addr} {fd : FuncData} (B : Blt mg) (F : Fun K "_law_listed" "_law_listed" s_law_listed f fd) : FnOk P w K mg base CX0 1 f fd ["items"] (spOf K 1 sp_law_listed) := by
  have nd := (sc_law_listed).nd
  exact fn_ok w_law_listed F sc_law_listed (fun cdv A outer s H E hr =>
    (s_cons (s_asg 1 nd (e_lst a_nil))
    (s_cons (s_for [0] [2] .never rfl (i_seq (e_var 0)) (g_name 2 nd)
      (s_cons (s_if (t_gt (e_len B.len_ (e_var 1)) e_int)
          (s_one (s_expr (e_append (i := 1) e_str)))
          s_nil)
        (s_one (s_asg 1 nd (e_addR (e_var 1) (e_var 2))))))
    (s_one (s_ret (e_var 1)))))) pure_law_listed
abbrev s_law_pieces : Stmt := topS 29
abbrev N_law_pieces : List Str := ["question", "kind", "items", "k", "item", "term", "x"]
theorem sc_law_pieces : FnScope ["question", "kind", "items", "k", "item", "term", "x"] ["question"] (defScope s_law_pieces) := ⟨rfl, rfl, rfl, by decide +kernel, rfl, by decide +kernel, by decide +kernel⟩
set_option maxHeartbeats 0 in
theorem okn_law_pieces {f : Addr} {fd : FuncData} (B : Blt mg) (F : Fun K "_law_pieces" "_law_pieces" s_law_pieces f fd) (g : mg "_law_pieces" = some (.ref f)) (F_law_listed : FnD P w K mg base 1 "_law_listed" ["items"] sp_law_listed) (F_law_term_piece : FnD P w K mg base 1 "_law_term_piece" ["term"] sp_law_term_piece) (F_law_is_pair : FnD P w K mg base 1 "_law_is_pair" ["kind"] sp_law_is_pair) : ∀ n : Nat, FnOk P w K mg base CX0 (1 + n) f fd ["question"] (spOf K 1 (spn_law_pieces n))
  | 0 => fn_false fun _ h => h
  | n + 1 => by
    have nd := (sc_law_pieces).nd
    have F_law_pieces : FnD P w K mg base (1 + n) "_law_pieces" ["question"] (spn_law_pieces n) := ⟨f, fd, okn_law_pieces B F g F_law_listed F_law_term_piece F_law_is_pair n, g, F.kp, F.binds fun _ _ _ _ _ _ us hl => match us, hl with | [_], _ => rfl⟩
    exact fn_ok (w_law_pieces n) F sc_law_pieces (fun cdv A outer s H E hr =>
    (s_cons (s_asg 1 nd (e_ixs (e_var 0) e_int))
    (s_cons (s_if (t_eqS (e_var 1) e_str)
      (s_one (s_ret (e_addG (e_addG (e_lst (a_cons (e_ixs (e_var 0) e_int) (a_cons e_str a_nil))) (e_call F_law_listed (hr.mono (j := 1) (Nat.le_trans (by decide : _ ≤ 1) (Nat.le_add_right _ _))) (a_cons (e_lc rfl nd (i_seq (e_ixs (e_var 0) e_int)) (blkOk_by (N := N_law_pieces) (sc := defScope s_law_pieces) (own := [("term", 5)]) (by decide +kernel)) (fun _ _ _ _ _ => (g_name 5 nd)) (fun _ _ _ _ _ => ts_nil) (fun _ _ _ _ _ => (e_fz (e_lst (a_cons (e_call F_law_term_piece (hr.mono (j := 1) (Nat.le_trans (by decide : _ ≤ 1) (Nat.le_add_right _ _))) (a_cons (e_var 5) a_nil)) a_nil))))) a_nil))) (e_lst (a_cons e_str a_nil)))))
      s_nil)
    (s_cons (s_asg 2 nd (e_lst a_nil))
    (s_cons (s_for [0] [3] .never rfl (i_rng2 B.range_ e_int (e_len B.len_ (e_var 0))) (g_name 3 nd)
      (s_cons (s_asg 4 nd (e_ixs (e_var 0) (e_var 3)))
        (s_one (s_if (t_isN (e_var 4))
          (s_one (s_expr (e_append (i := 2) (e_fz (e_lst (a_cons e_str a_nil))))))
          (s_one (s_if (t_val (e_isi .int B.isinstance_ B.int_ (by decide +kernel) (e_var 4)))
              (s_one (s_expr (e_append (i := 2) (e_fz (e_lst (a_cons (e_strX B.str_ (e_var 4)) a_nil))))))
              (s_one (s_if (t_val (e_isi .str B.isinstance_ B.str_ (by decide +kernel) (e_var 4)))
                  (s_one (s_expr (e_append (i := 2) (e_fz (e_lst (a_cons (e_var 4) a_nil))))))
                  (s_one (s_if (t_bop (w_or (t_val (e_call F_law_is_pair (hr.mono (j := 1) (Nat.le_trans (by decide : _ ≤ 1) (Nat.le_add_right _ _))) (a_cons (e_var 1) a_nil))) (w_or1 (t_eqS (e_var 3) (e_sub (e_len B.len_ (e_var 0)) e_int)))))
                      (s_one (s_expr (e_append (i := 2) (e_fz (e_call F_law_pieces (hr.mono (j := 1 + n) (Nat.le_refl _)) (a_cons (e_var 4) a_nil))))))
                      (s_one (s_if (t_eqS (e_var 1) e_str)
                          (s_one (s_expr (e_append (i := 2) (e_fz (e_lst (a_cons (e_call F_law_term_piece (hr.mono (j := 1) (Nat.le_trans (by decide : _ ≤ 1) (Nat.le_add_right _ _))) (a_cons (e_var 4) a_nil)) a_nil))))))
                          (s_one (s_expr (e_append (i := 2) (e_fz (e_addG (e_addG (e_lst (a_cons e_str a_nil)) (e_call F_law_listed (hr.mono (j := 1) (Nat.le_trans (by decide : _ ≤ 1) (Nat.le_add_right _ _))) (a_cons (e_lc rfl nd (i_seq (e_var 4)) (blkOk_by (N := N_law_pieces) (sc := defScope s_law_pieces) (own := [("x", 6)]) (by decide +kernel)) (fun _ _ _ _ _ => (g_name 6 nd)) (fun _ _ _ _ _ => ts_nil) (fun _ _ _ _ _ => (e_fz (e_lst (a_cons (e_var 6) a_nil))))) a_nil))) (e_lst (a_cons e_str a_nil)))))))))))))))))))
    (s_one (s_ret (e_addG (e_addG (e_lst (a_cons (e_var 1) (a_cons e_str a_nil))) (e_call F_law_listed (hr.mono (j := 1) (Nat.le_trans (by decide : _ ≤ 1) (Nat.le_add_right _ _))) (a_cons (e_var 2) a_nil))) (e_lst (a_cons e_str a_nil)))))))))) (pure_law_pieces n)
theorem ok_law_pieces {f : Addr} {fd : FuncData} (B : Blt mg) (F : Fun K "_law_pieces" "_law_pieces" s_law_pieces f fd) (g : mg "_law_pieces" = some (.ref f)) (F_law_listed : FnD P w K mg base 1 "_law_listed" ["items"] sp_law_listed) (F_law_term_piece : FnD P w K mg base 1 "_law_term_piece" ["term"] sp_law_term_piece) (F_law_is_pair : FnD P w K mg base 1 "_law_is_pair" ["kind"] sp_law_is_pair) : FnOk P w K mg base CX0 17 f fd ["question"] (spOf K 1 sp_law_pieces) :=
  okn_law_pieces B F g F_law_listed F_law_term_piece F_law_is_pair 16
abbrev s_law_joined_text : Stmt := topS 30
abbrev N_law_joined_text : List Str := ["pieces", "piece"]
theorem sc_law_joined_text : FnScope ["pieces", "piece"] ["pieces"] (defScope s_law_joined_text) := ⟨rfl, rfl, rfl, by decide +kernel, rfl, by decide +kernel, by decide +kernel⟩
set_option maxHeartbeats 0 in
theorem ok_law_joined_text {f : Addr} {fd : FuncData} (B : Blt mg) (F : Fun K "_law_joined_text" "_law_joined_text" s_law_joined_text f fd) : FnOk P w K mg base CX0 1 f fd ["pieces"] (spOf K 1 sp_law_joined_text) := by
  have nd := (sc_law_joined_text).nd
  exact fn_ok w_law_joined_text F sc_law_joined_text (fun cdv A outer s H E hr =>
    (s_one (s_ret (e_join (e_lc rfl nd (i_seq (e_var 0)) (blkOk_by (N := N_law_joined_text) (sc := defScope s_law_joined_text) (own := [("piece", 1)]) (by decide +kernel)) (fun _ _ _ _ _ => (g_name 1 nd)) (fun _ _ _ _ _ => ts_nil) (fun _ _ _ _ _ => (e_addS (e_var 1) (e_mulS e_str (e_int1 B.int_ (e_eqS (e_var 1) e_str)))))))))) pure_law_joined_text
abbrev s_law_paths : Stmt := topS 31
theorem sc_law_paths : FnScope ["question", "path", "found", "parts", "k"] ["question", "path"] (defScope s_law_paths) := ⟨rfl, rfl, rfl, by decide +kernel, rfl, by decide +kernel, by decide +kernel⟩
set_option maxHeartbeats 0 in
theorem okn_law_paths {f : Addr} {fd : FuncData} (B : Blt mg) (F : Fun K "_law_paths" "_law_paths" s_law_paths f fd) (g : mg "_law_paths" = some (.ref f)) (F_law_parts : FnD P w K mg base 2 "_law_parts" ["question"] sp_law_parts) : ∀ n : Nat, FnOk P w K mg base CX0 (2 + n) f fd ["question", "path"] (spOf K 2 (spn_law_paths n))
  | 0 => fn_false fun _ h => h
  | n + 1 => by
    have nd := (sc_law_paths).nd
    have F_law_paths : FnD P w K mg base (2 + n) "_law_paths" ["question", "path"] (spn_law_paths n) := ⟨f, fd, okn_law_paths B F g F_law_parts n, g, F.kp, F.binds fun _ _ _ _ _ _ us hl => match us, hl with | [_, _], _ => rfl⟩
    exact fn_ok (w_law_paths n) F sc_law_paths (fun cdv A outer s H E hr =>
    (s_cons (s_asg 2 nd (e_lst (a_cons (e_var 1) a_nil)))
    (s_cons (s_asg 3 nd (e_call F_law_parts (hr.mono (j := 2) (Nat.le_trans (by decide : _ ≤ 2) (Nat.le_add_right _ _))) (a_cons (e_var 0) a_nil)))
    (s_cons (s_for [0, 1] [4] .never rfl (i_rng1 B.range_ (e_len B.len_ (e_var 3))) (g_name 4 nd)
      (s_one (s_asg 2 nd (e_addG (e_var 2) (e_call F_law_paths (hr.mono (j := 2 + n) (Nat.le_refl _)) (a_cons (e_ixs (e_var 3) (e_var 4)) (a_cons (e_addG (e_var 1) (e_tup (a_cons (e_var 4) a_nil))) a_nil)))))))
    (s_one (s_ret (e_var 2))))))) (pure_law_paths n)
theorem ok_law_paths {f : Addr} {fd : FuncData} (B : Blt mg) (F : Fun K "_law_paths" "_law_paths" s_law_paths f fd) (g : mg "_law_paths" = some (.ref f)) (F_law_parts : FnD P w K mg base 2 "_law_parts" ["question"] sp_law_parts) : FnOk P w K mg base CX0 18 f fd ["question", "path"] (spOf K 2 sp_law_paths) :=
  okn_law_paths B F g F_law_parts 16
abbrev s_law_node : Stmt := topS 32
theorem sc_law_node : FnScope ["question", "path", "k"] ["question", "path"] (defScope s_law_node) := ⟨rfl, rfl, rfl, by decide +kernel, rfl, by decide +kernel, by decide +kernel⟩
set_option maxHeartbeats 0 in
theorem ok_law_node {f : Addr} {fd : FuncData} (B : Blt mg) (F : Fun K "_law_node" "_law_node" s_law_node f fd) (F_law_parts : FnD P w K mg base 2 "_law_parts" ["question"] sp_law_parts) : FnOk P w K mg base CX0 3 f fd ["question", "path"] (spOf K 2 sp_law_node) := by
  have nd := (sc_law_node).nd
  exact fn_ok w_law_node F sc_law_node (fun cdv A outer s H E hr =>
    (s_cons (s_for [0, 1] [2] .never rfl (i_seq (e_var 1)) (g_name 2 nd)
      (s_one (s_asg 0 nd (e_ixs (e_call F_law_parts (hr.mono (j := 2) (by decide)) (a_cons (e_var 0) a_nil)) (e_var 2)))))
    (s_one (s_ret (e_var 0))))) pure_law_node
abbrev s_law_swapped : Stmt := topS 33
theorem sc_law_swapped : FnScope ["question", "path", "node", "parts"] ["question", "path", "node"] (defScope s_law_swapped) := ⟨rfl, rfl, rfl, by decide +kernel, rfl, by decide +kernel, by decide +kernel⟩
set_option maxHeartbeats 0 in
theorem okn_law_swapped {f : Addr} {fd : FuncData} (B : Blt mg) (F : Fun K "_law_swapped" "_law_swapped" s_law_swapped f fd) (g : mg "_law_swapped" = some (.ref f)) (F_law_parts : FnD P w K mg base 2 "_law_parts" ["question"] sp_law_parts) : ∀ n : Nat, FnOk P w K mg base CX0 (2 + n) f fd ["question", "path", "node"] (spOf K 3 (spn_law_swapped n))
  | 0 => fn_false fun _ h => h
  | n + 1 => by
    have nd := (sc_law_swapped).nd
    have F_law_swapped : FnD P w K mg base (2 + n) "_law_swapped" ["question", "path", "node"] (spn_law_swapped n) := ⟨f, fd, okn_law_swapped B F g F_law_parts n, g, F.kp, F.binds fun _ _ _ _ _ _ us hl => match us, hl with | [_, _, _], _ => rfl⟩
    exact fn_ok (w_law_swapped n) F sc_law_swapped (fun cdv A outer s H E hr =>
    (s_cons (s_if (t_eqS (e_len B.len_ (e_var 1)) e_int)
      (s_one (s_ret (e_var 2)))
      s_nil)
    (s_cons (s_asg 3 nd (e_call F_law_parts (hr.mono (j := 2) (Nat.le_trans (by decide : _ ≤ 2) (Nat.le_add_right _ _))) (a_cons (e_var 0) a_nil)))
    (s_cons (s_set 3 (e_call F_law_swapped (hr.mono (j := 2 + n) (Nat.le_refl _)) (a_cons (e_ixs (e_var 3) (e_ixs (e_var 1) e_int)) (a_cons (e_slL (e_var 1) e_int) (a_cons (e_var 2) a_nil)))) (e_ixs (e_var 1) e_int))
    (s_one (s_ret (e_addG (e_slH (e_var 0) (e_sub (e_len B.len_ (e_var 0)) (e_len B.len_ (e_var 3)))) (e_tuple B.tuple_ (e_var 3))))))))) (pure_law_swapped n)
theorem ok_law_swapped {f : Addr} {fd : FuncData} (B : Blt mg) (F : Fun K "_law_swapped" "_law_swapped" s_law_swapped f fd) (g : mg "_law_swapped" = some (.ref f)) (F_law_parts : FnD P w K mg base 2 "_law_parts" ["question"] sp_law_parts) : FnOk P w K mg base CX0 18 f fd ["question", "path", "node"] (spOf K 3 sp_law_swapped) :=
  okn_law_swapped B F g F_law_parts 16
abbrev s_law_some_question : Stmt := topS 34
theorem sc_law_some_question : FnScope ["draws", "script", "words", "depth", "question"] ["draws", "script", "words", "depth"] (defScope s_law_some_question) := ⟨rfl, rfl, rfl, by decide +kernel, rfl, by decide +kernel, by decide +kernel⟩
set_option maxHeartbeats 0 in
theorem ok_law_some_question {f : Addr} {fd : FuncData} (B : Blt mg) (F : Fun K "_law_some_question" "_law_some_question" s_law_some_question f fd) (F_law_wide : FnD P w K mg base 38 "_law_wide" ["draws", "script", "words", "columns", "depth"] sp_law_wide) (F_law_wide_columns : FnD P w K mg base 2 "_law_wide_columns" ["draws", "words"] sp_law_wide_columns) (F_law_take : FnD P w K mg base 1 "_law_take" ["draws", "many"] sp_law_take) (F_law_wrapped : FnD P w K mg base 19 "_law_wrapped" ["draws", "script", "question", "depth"] sp_law_wrapped) : FnOk P w K mg base CX0 39 f fd ["draws", "script", "words", "depth"] (spOf K 4 sp_law_some_question) := by
  have nd := (sc_law_some_question).nd
  exact fn_ok w_law_some_question F sc_law_some_question (fun cdv A outer s H E hr =>
    (s_cons (s_asg 4 nd (e_call F_law_wide (hr.mono (j := 38) (by decide)) (a_cons (e_var 0) (a_cons (e_var 1) (a_cons (e_var 2) (a_cons (e_call F_law_wide_columns (hr.mono (j := 2) (by decide)) (a_cons (e_var 0) (a_cons (e_var 2) a_nil))) (a_cons (e_addG e_int (e_call F_law_take (hr.mono (j := 1) (by decide)) (a_cons (e_var 0) (a_cons (e_var 3) a_nil)))) a_nil)))))))
    (s_cons (s_if (t_eqS (e_call F_law_take (hr.mono (j := 1) (by decide)) (a_cons (e_var 0) (a_cons e_int a_nil))) e_int)
      (s_one (s_asg 4 nd (e_call F_law_wrapped (hr.mono (j := 19) (by decide)) (a_cons (e_var 0) (a_cons (e_var 1) (a_cons (e_var 4) (a_cons (e_sub (e_var 3) (e_call F_law_take (hr.mono (j := 1) (by decide)) (a_cons (e_var 0) (a_cons e_int a_nil)))) a_nil)))))))
      s_nil)
    (s_one (s_ret (e_var 4)))))) pure_law_some_question
abbrev s_law_odd_node : Stmt := topS 35
abbrev N_law_odd_node : List Str := ["draws", "script", "words", "node", "kind", "names", "one", "terms", "left", "k"]
theorem sc_law_odd_node : FnScope ["draws", "script", "words", "node", "kind", "names", "one", "terms", "left", "k"] ["draws", "script", "words", "node"] (defScope s_law_odd_node) := ⟨rfl, rfl, rfl, by decide +kernel, rfl, by decide +kernel, by decide +kernel⟩
set_option maxHeartbeats 0 in
theorem ok_law_odd_node {f : Addr} {fd : FuncData} (B : Blt mg) (F : Fun K "_law_odd_node" "_law_odd_node" s_law_odd_node f fd) (F_law_take : FnD P w K mg base 1 "_law_take" ["draws", "many"] sp_law_take) (F_law_pick : FnD P w K mg base 2 "_law_pick" ["draws", "row"] sp_law_pick) (F_law_wide_term : FnD P w K mg base 5 "_law_wide_term" ["draws", "script", "words", "columns"] sp_law_wide_term) : FnOk P w K mg base CX0 6 f fd ["draws", "script", "words", "node"] (spOf K 4 sp_law_odd_node) := by
  have nd := (sc_law_odd_node).nd
  exact fn_ok w_law_odd_node F sc_law_odd_node (fun cdv A outer s H E hr =>
    (s_cons (s_asg 4 nd (e_call F_law_take (hr.mono (j := 1) (by decide)) (a_cons (e_var 0) (a_cons e_int a_nil))))
    (s_cons (s_asg 5 nd (e_tuple B.tuple_ (e_lc rfl nd (i_rng1 B.range_ (e_call F_law_take (hr.mono (j := 1) (by decide)) (a_cons (e_var 0) (a_cons e_int a_nil)))) (blkOk_by (N := N_law_odd_node) (sc := defScope s_law_odd_node) (own := [("k", 9)]) (by decide +kernel)) (fun _ _ _ _ _ => (g_name 9 nd)) (fun _ _ _ _ _ => ts_nil) (fun _ _ _ _ _ => (e_call F_law_pick (hr.mono (j := 2) (by decide)) (a_cons (e_var 0) (a_cons (e_var 2) a_nil)))))))
    (s_cons (s_asg 6 nd (e_call F_law_pick (hr.mono (j := 2) (by decide)) (a_cons (e_var 0) (a_cons (e_var 2) a_nil))))
    (s_cons (s_if (t_eqS (e_var 4) e_int)
      (s_cons (s_setLc 7 rfl nd (i_rng1 B.range_ (e_addG e_int (e_call F_law_take (hr.mono (j := 1) (by decide)) (a_cons (e_var 0) (a_cons e_int a_nil))))) (blkOk_by (N := N_law_odd_node) (sc := defScope s_law_odd_node) (own := [("k", 9)]) (by decide +kernel)) (fun _ _ _ _ _ => (g_name 9 nd)) (fun _ _ _ _ _ => ts_nil) (fun _ _ _ _ _ => (e_call F_law_wide_term (hr.mono (j := 5) (by decide)) (a_cons (e_var 0) (a_cons (e_var 1) (a_cons (e_var 2) (a_cons (e_var 2) a_nil)))))))
        (s_one (s_ret (e_tup (a_cons e_str (a_cons (e_call F_law_pick (hr.mono (j := 2) (by decide)) (a_cons (e_var 0) (a_cons (e_addR (e_var 2) (e_lst (a_cons e_str (a_cons e_str (a_cons e_str (a_cons e_str a_nil)))))) a_nil))) (a_cons (e_tuple B.tuple_ (e_var 7)) a_nil)))))))
      s_nil)
    (s_cons (s_if (t_eqS (e_var 4) e_int)
      (s_one (s_ret (e_tup (a_cons e_str (a_cons (e_var 5) (a_cons (e_var 3) a_nil))))))
      s_nil)
    (s_cons (s_if (t_eqS (e_var 4) e_int)
      (s_one (s_ret (e_tup (a_cons e_str (a_cons (e_var 6) (a_cons (e_var 5) (a_cons (e_var 3) a_nil)))))))
      s_nil)
    (s_cons (s_if (t_eqS (e_var 4) e_int)
      (s_one (s_ret (e_tup (a_cons (e_call F_law_pick (hr.mono (j := 2) (by decide)) (a_cons (e_var 0) (a_cons (e_lst (a_cons e_str (a_cons e_str (a_cons e_str a_nil)))) a_nil))) (a_cons (e_var 6) (a_cons (e_call F_law_pick (hr.mono (j := 2) (by decide)) (a_cons (e_var 0) (a_cons (e_var 2) a_nil))) (a_cons (e_var 5) (a_cons (e_var 3) a_nil))))))))
      s_nil)
    (s_cons (s_if (t_eqS (e_var 4) e_int)
      (s_one (s_ret (e_tup (a_cons (e_call F_law_pick (hr.mono (j := 2) (by decide)) (a_cons (e_var 0) (a_cons (e_lst (a_cons e_str (a_cons e_str a_nil))) a_nil))) (a_cons (e_var 6) (a_cons (e_call F_law_pick (hr.mono (j := 2) (by decide)) (a_cons (e_var 0) (a_cons (e_var 2) a_nil))) (a_cons (e_var 3) a_nil)))))))
      s_nil)
    (s_cons (s_asg 8 nd (e_call F_law_wide_term (hr.mono (j := 5) (by decide)) (a_cons (e_var 0) (a_cons (e_var 1) (a_cons (e_var 2) (a_cons (e_var 2) a_nil))))))
    (s_one (s_ret (e_tup (a_cons e_str (a_cons (e_call F_law_pick (hr.mono (j := 2) (by decide)) (a_cons (e_var 0) (a_cons (e_addR (e_var 2) (e_lst (a_cons e_str a_nil))) a_nil))) (a_cons (e_var 8) (a_cons (e_call F_law_wide_term (hr.mono (j := 5) (by decide)) (a_cons (e_var 0) (a_cons (e_var 1) (a_cons (e_var 2) (a_cons (e_var 2) a_nil))))) (a_cons (e_var 3) a_nil)))))))))))))))))) pure_law_odd_node
abbrev s_law : Stmt := topS 36
abbrev N_law : List Str := ["script", "draws", "words", "short", "question", "path", "node", "cell"]
theorem sc_law : FnScope ["script", "draws", "words", "short", "question", "path", "node", "cell"] ["script"] (defScope s_law) := ⟨rfl, rfl, rfl, by decide +kernel, rfl, by decide +kernel, by decide +kernel⟩
set_option maxHeartbeats 0 in
theorem ok_law {f : Addr} {fd : FuncData} (B : Blt mg) (F : Fun K "law" "law" s_law f fd) (F_law_draws : FnD P w K mg base 1 "_law_draws" ["script", "many"] sp_law_draws) (F_law_words : FnD P w K mg base 2 "_law_words" ["draws", "many"] sp_law_words) (F_law_some_question : FnD P w K mg base 39 "_law_some_question" ["draws", "script", "words", "depth"] sp_law_some_question) (F_law_take : FnD P w K mg base 1 "_law_take" ["draws", "many"] sp_law_take) (F_law_pick : FnD P w K mg base 2 "_law_pick" ["draws", "row"] sp_law_pick) (F_law_paths : FnD P w K mg base 18 "_law_paths" ["question", "path"] sp_law_paths) (F_law_odd_node : FnD P w K mg base 6 "_law_odd_node" ["draws", "script", "words", "node"] sp_law_odd_node) (F_law_node : FnD P w K mg base 3 "_law_node" ["question", "path"] sp_law_node) (F_law_swapped : FnD P w K mg base 18 "_law_swapped" ["question", "path", "node"] sp_law_swapped) (F_law_same : FnD P w K mg base 8 "_law_same" ["actual", "due"] sp_law_same) (F_write_question : FnD P w K mg base 4 "write_question" ["question"] sp_write_question) (F_law_joined_text : FnD P w K mg base 1 "_law_joined_text" ["pieces"] sp_law_joined_text) (F_law_pieces : FnD P w K mg base 17 "_law_pieces" ["question"] sp_law_pieces) : FnOk P w K mg base CX0 40 f fd ["script"] (spOf K 1 sp_law) := by
  have nd := (sc_law).nd
  exact fn_ok w_law F sc_law (fun cdv A outer s H E hr =>
    (s_cons (s_asg 1 nd (e_call F_law_draws (hr.mono (j := 1) (by decide)) (a_cons (e_var 0) (a_cons e_int a_nil))))
    (s_cons (s_asg 2 nd (e_fz (e_call F_law_words (hr.mono (j := 2) (by decide)) (a_cons (e_var 1) (a_cons e_int a_nil)))))
    (s_cons (s_setLc 3 rfl nd (i_seq (e_var 0)) (blkOk_by (N := N_law) (sc := defScope s_law) (own := [("cell", 7)]) (by decide +kernel)) (fun _ _ _ _ _ => (g_name 7 nd)) (fun _ _ _ _ _ => ts_nil) (fun _ _ _ _ _ => (e_mod (e_int1 B.int_ (e_var 7)) (e_pow e_int e_int))))
    (s_cons (s_asg 4 nd (e_call F_law_some_question (hr.mono (j := 39) (by decide)) (a_cons (e_var 1) (a_cons (e_var 3) (a_cons (e_var 2) (a_cons e_int a_nil))))))
    (s_cons (s_if (t_eqS (e_call F_law_take (hr.mono (j := 1) (by decide)) (a_cons (e_var 1) (a_cons e_int a_nil))) e_int)
      (s_cons (s_asg 5 nd (e_call F_law_pick (hr.mono (j := 2) (by decide)) (a_cons (e_var 1) (a_cons (e_call F_law_paths (hr.mono (j := 18) (by decide)) (a_cons (e_var 4) (a_cons (e_tup a_nil) a_nil))) a_nil))))
        (s_cons (s_asg 6 nd (e_call F_law_odd_node (hr.mono (j := 6) (by decide)) (a_cons (e_var 1) (a_cons (e_var 3) (a_cons (e_var 2) (a_cons (e_call F_law_node (hr.mono (j := 3) (by decide)) (a_cons (e_var 4) (a_cons (e_var 5) a_nil))) a_nil))))))
        (s_one (s_asg 4 nd (e_call F_law_swapped (hr.mono (j := 18) (by decide)) (a_cons (e_var 4) (a_cons (e_var 5) (a_cons (e_var 6) a_nil))))))))
      s_nil)
    (s_one (s_ret (e_call F_law_same (hr.mono (j := 8) (by decide)) (a_cons (e_call F_write_question (hr.mono (j := 4) (by decide)) (a_cons (e_var 4) a_nil)) (a_cons (e_call F_law_joined_text (hr.mono (j := 1) (by decide)) (a_cons (e_call F_law_pieces (hr.mono (j := 17) (by decide)) (a_cons (e_var 4) a_nil)) a_nil)) a_nil))))))))))) pure_law
set_option maxHeartbeats 0 in
theorem okg_law_wide (B : Blt mg) {f_law_wide_total : Addr} {fd_law_wide_total : FuncData} (U_law_wide_total : Fun K "_law_wide_total" "_law_wide_total" s_law_wide_total f_law_wide_total fd_law_wide_total) (g_law_wide_total : mg "_law_wide_total" = some (.ref f_law_wide_total)) {f_law_wide_pair : Addr} {fd_law_wide_pair : FuncData} (U_law_wide_pair : Fun K "_law_wide_pair" "_law_wide_pair" s_law_wide_pair f_law_wide_pair fd_law_wide_pair) (g_law_wide_pair : mg "_law_wide_pair" = some (.ref f_law_wide_pair)) {f_law_wide : Addr} {fd_law_wide : FuncData} (U_law_wide : Fun K "_law_wide" "_law_wide" s_law_wide f_law_wide fd_law_wide) (g_law_wide : mg "_law_wide" = some (.ref f_law_wide)) (F_law_pick : FnD P w K mg base 2 "_law_pick" ["draws", "row"] sp_law_pick) (F_law_more : FnD P w K mg base 2 "_law_more" ["draws", "words", "columns"] sp_law_more) (F_law_take : FnD P w K mg base 1 "_law_take" ["draws", "many"] sp_law_take) (F_law_some_columns : FnD P w K mg base 2 "_law_some_columns" ["draws", "columns"] sp_law_some_columns) (F_law_wide_fact : FnD P w K mg base 6 "_law_wide_fact" ["draws", "script", "words", "columns"] sp_law_wide_fact) (F_law_wide_term : FnD P w K mg base 5 "_law_wide_term" ["draws", "script", "words", "columns"] sp_law_wide_term) (F_law_number : FnD P w K mg base 3 "_law_number" ["draws", "script"] sp_law_number) (F_law_size_b : FnD P w K mg base 2 "_law_size" ["draws", "script"] sp_law_size_b) : ∀ n : Nat, FnOk P w K mg base CX0 (6 + n) f_law_wide_total fd_law_wide_total ["draws", "script", "words", "columns", "depth"] (spOf K 5 (spn_law_wide_total n)) ∧ FnOk P w K mg base CX0 (6 + n) f_law_wide_pair fd_law_wide_pair ["draws", "script", "words", "columns", "depth"] (spOf K 5 (spn_law_wide_pair n)) ∧ FnOk P w K mg base CX0 (6 + n) f_law_wide fd_law_wide ["draws", "script", "words", "columns", "depth"] (spOf K 5 (spn_law_wide n))
  | 0 => ⟨fn_false fun _ h => h, fn_false fun _ h => h, fn_false fun _ h => h⟩
  | n + 1 => by
    have Gr := okg_law_wide B U_law_wide_total g_law_wide_total U_law_wide_pair g_law_wide_pair U_law_wide g_law_wide F_law_pick F_law_more F_law_take F_law_some_columns F_law_wide_fact F_law_wide_term F_law_number F_law_size_b n
    have F_law_wide_total : FnD P w K mg base (6 + n) "_law_wide_total" ["draws", "script", "words", "columns", "depth"] (spn_law_wide_total n) := ⟨f_law_wide_total, fd_law_wide_total, Gr.1, g_law_wide_total, U_law_wide_total.kp, U_law_wide_total.binds fun _ _ _ _ _ _ us hl => match us, hl with | [_, _, _, _, _], _ => rfl⟩
    have F_law_wide_pair : FnD P w K mg base (6 + n) "_law_wide_pair" ["draws", "script", "words", "columns", "depth"] (spn_law_wide_pair n) := ⟨f_law_wide_pair, fd_law_wide_pair, Gr.2.1, g_law_wide_pair, U_law_wide_pair.kp, U_law_wide_pair.binds fun _ _ _ _ _ _ us hl => match us, hl with | [_, _, _, _, _], _ => rfl⟩
    have F_law_wide : FnD P w K mg base (6 + n) "_law_wide" ["draws", "script", "words", "columns", "depth"] (spn_law_wide n) := ⟨f_law_wide, fd_law_wide, Gr.2.2, g_law_wide, U_law_wide.kp, U_law_wide.binds fun _ _ _ _ _ _ us hl => match us, hl with | [_, _, _, _, _], _ => rfl⟩
    refine ⟨?_, ?_, ?_⟩
    · have nd := (sc_law_wide_total).nd
      exact fn_ok (w_law_wide_total n) U_law_wide_total sc_law_wide_total (fun cdv A outer s H E hr =>
    (s_cons (s_asg 5 nd (e_call F_law_pick (hr.mono (j := 2) (Nat.le_trans (by decide : _ ≤ 6) (Nat.le_add_right _ _))) (a_cons (e_var 0) (a_cons (e_var 3) a_nil))))
    (s_cons (s_asg 6 nd (e_tuple B.tuple_ (e_lc rfl nd (i_seq (e_var 3)) (blkOk_by (N := N_law_wide_total) (sc := defScope s_law_wide_total) (own := [("x", 10)]) (by decide +kernel)) (fun _ _ _ _ _ => (g_name 10 nd)) (fun _ _ _ _ _ => (ts_one (t_neS (e_var 10) (e_var 5)))) (fun _ _ _ _ _ => (e_var 10)))))
    (s_cons (s_asg 7 nd (e_call F_law_more (hr.mono (j := 2) (Nat.le_trans (by decide : _ ≤ 6) (Nat.le_add_right _ _))) (a_cons (e_var 0) (a_cons (e_var 2) (a_cons (e_var 6) a_nil)))))
    (s_cons (s_if (t_eqS (e_len B.len_ (e_var 7)) e_int)
      (s_one (s_asg 7 nd (e_tup (a_cons (e_ixs (e_var 2) e_int) a_nil))))
      s_nil)
    (s_cons (s_asg 8 nd (e_call F_law_wide (hr.mono (j := 6 + n) (Nat.le_refl _)) (a_cons (e_var 0) (a_cons (e_var 1) (a_cons (e_var 2) (a_cons (e_var 7) (a_cons (e_sub (e_var 4) e_int) a_nil)))))))
    (s_cons (s_asg 9 nd (e_call F_law_pick (hr.mono (j := 2) (Nat.le_trans (by decide : _ ≤ 6) (Nat.le_add_right _ _))) (a_cons (e_var 0) (a_cons (e_lst (a_cons e_str (a_cons e_str (a_cons e_str (a_cons e_str a_nil))))) a_nil))))
    (s_cons (s_if (t_eqS (e_var 9) e_str)
      (s_one (s_ret (e_tup (a_cons (e_var 9) (a_cons (e_var 5) (a_cons (e_var 6) (a_cons (e_var 8) a_nil)))))))
      s_nil)
    (s_one (s_ret (e_tup (a_cons (e_var 9) (a_cons (e_var 5) (a_cons (e_call F_law_pick (hr.mono (j := 2) (Nat.le_trans (by decide : _ ≤ 6) (Nat.le_add_right _ _))) (a_cons (e_var 0) (a_cons (e_var 7) a_nil))) (a_cons (e_var 6) (a_cons (e_var 8) a_nil)))))))))))))))) (pure_law_wide_total n)
    · have nd := (sc_law_wide_pair).nd
      exact fn_ok (w_law_wide_pair n) U_law_wide_pair sc_law_wide_pair (fun cdv A outer s H E hr =>
    (s_cons (s_asg 5 nd (e_call F_law_pick (hr.mono (j := 2) (Nat.le_trans (by decide : _ ≤ 6) (Nat.le_add_right _ _))) (a_cons (e_var 0) (a_cons (e_lst (a_cons e_str (a_cons e_str (a_cons e_str (a_cons e_str (a_cons e_str (a_cons e_str (a_cons e_str a_nil)))))))) a_nil))))
    (s_cons (s_asg 6 nd (e_lst (a_cons (e_sub (e_var 4) e_int) (a_cons (e_min rfl B.min_ (e_sub (e_var 4) e_int) (e_addG e_int (e_call F_law_take (hr.mono (j := 1) (Nat.le_trans (by decide : _ ≤ 6) (Nat.le_add_right _ _))) (a_cons (e_var 0) (a_cons e_int a_nil))))) a_nil))))
    (s_cons (s_if (t_eqS (e_call F_law_take (hr.mono (j := 1) (Nat.le_trans (by decide : _ ≤ 6) (Nat.le_add_right _ _))) (a_cons (e_var 0) (a_cons e_int a_nil))) e_int)
      (s_one (s_expr (e_reverse (i := 6))))
      s_nil)
    (s_cons (s_asg 7 nd (e_var 3))
    (s_cons (s_asg 8 nd (e_var 3))
    (s_cons (s_if (t_eqS (e_var 5) e_str)
      (s_one (s_asg 8 nd (e_call F_law_some_columns (hr.mono (j := 2) (Nat.le_trans (by decide : _ ≤ 6) (Nat.le_add_right _ _))) (a_cons (e_var 0) (a_cons (e_var 3) a_nil)))))
      (s_one (s_if (t_eqS (e_var 5) e_str)
          (s_cons (s_asg 7 nd (e_call F_law_some_columns (hr.mono (j := 2) (Nat.le_trans (by decide : _ ≤ 6) (Nat.le_add_right _ _))) (a_cons (e_var 0) (a_cons (e_var 3) a_nil))))
            (s_one (s_asg 8 nd (e_tuple B.tuple_ (e_lc rfl nd (i_seq (e_var 3)) (blkOk_by (N := N_law_wide_pair) (sc := defScope s_law_wide_pair) (own := [("x", 10)]) (by decide +kernel)) (fun _ _ _ _ _ => (g_name 10 nd)) (fun _ _ _ _ _ => (ts_one (t_bop (w_or (t_notIn (e_var 10) (e_var 7)) (w_or1 (t_eqS (e_call F_law_take (hr.mono (j := 1) (Nat.le_trans (by decide : _ ≤ 6) (Nat.le_add_right _ _))) (a_cons (e_var 0) (a_cons e_int a_nil))) e_int)))))) (fun _ _ _ _ _ => (e_var 10)))))))
          (s_one (s_if (t_neS (e_var 5) e_str)
              (s_one (s_asg 7 nd (e_call F_law_some_columns (hr.mono (j := 2) (Nat.le_trans (by decide : _ ≤ 6) (Nat.le_add_right _ _))) (a_cons (e_var 0) (a_cons (e_var 3) a_nil)))))
              s_nil)))))
    (s_cons (s_asg 9 nd (e_call F_law_wide (hr.mono (j := 6 + n) (Nat.le_refl _)) (a_cons (e_var 0) (a_cons (e_var 1) (a_cons (e_var 2) (a_cons (e_var 7) (a_cons (e_ixs (e_var 6) e_int) a_nil)))))))
    (s_one (s_ret (e_tup (a_cons (e_var 5) (a_cons (e_var 9) (a_cons (e_call F_law_wide (hr.mono (j := 6 + n) (Nat.le_refl _)) (a_cons (e_var 0) (a_cons (e_var 1) (a_cons (e_var 2) (a_cons (e_var 8) (a_cons (e_ixs (e_var 6) e_int) a_nil)))))) a_nil)))))))))))))) (pure_law_wide_pair n)
    · have nd := (sc_law_wide).nd
      exact fn_ok (w_law_wide n) U_law_wide sc_law_wide (fun cdv A outer s H E hr =>
    (s_cons (s_if (t_bop (w_or (t_lt (e_var 4) e_int) (w_or1 (t_eqS (e_call F_law_take (hr.mono (j := 1) (Nat.le_trans (by decide : _ ≤ 6) (Nat.le_add_right _ _))) (a_cons (e_var 0) (a_cons e_int a_nil))) e_int))))
      (s_one (s_ret (e_call F_law_wide_fact (hr.mono (j := 6) (Nat.le_trans (by decide : _ ≤ 6) (Nat.le_add_right _ _))) (a_cons (e_var 0) (a_cons (e_var 1) (a_cons (e_var 2) (a_cons (e_var 3) a_nil)))))))
      s_nil)
    (s_cons (s_asg 5 nd (e_call F_law_take (hr.mono (j := 1) (Nat.le_trans (by decide : _ ≤ 6) (Nat.le_add_right _ _))) (a_cons (e_var 0) (a_cons e_int a_nil))))
    (s_cons (s_if (t_lt (e_var 5) e_int)
      (s_one (s_ret (e_call F_law_wide_pair (hr.mono (j := 6 + n) (Nat.le_refl _)) (a_cons (e_var 0) (a_cons (e_var 1) (a_cons (e_var 2) (a_cons (e_var 3) (a_cons (e_var 4) a_nil))))))))
      s_nil)
    (s_cons (s_if (t_bop (w_and (t_lt (e_var 5) e_int) (w_and1 (t_gt (e_len B.len_ (e_var 3)) e_int))))
      (s_one (s_ret (e_call F_law_wide_total (hr.mono (j := 6 + n) (Nat.le_refl _)) (a_cons (e_var 0) (a_cons (e_var 1) (a_cons (e_var 2) (a_cons (e_var 3) (a_cons (e_var 4) a_nil))))))))
      s_nil)
    (s_cons (s_if (t_eqS (e_var 5) e_int)
      (s_cons (s_asg 6 nd (e_call F_law_more (hr.mono (j := 2) (Nat.le_trans (by decide : _ ≤ 6) (Nat.le_add_right _ _))) (a_cons (e_var 0) (a_cons (e_var 2) (a_cons (e_var 3) a_nil)))))
        (s_one (s_ret (e_tup (a_cons e_str (a_cons (e_var 3) (a_cons (e_call F_law_wide (hr.mono (j := 6 + n) (Nat.le_refl _)) (a_cons (e_var 0) (a_cons (e_var 1) (a_cons (e_var 2) (a_cons (e_var 6) (a_cons (e_sub (e_var 4) e_int) a_nil)))))) a_nil)))))))
      s_nil)
    (s_cons (s_asg 7 nd (e_call F_law_wide (hr.mono (j := 6 + n) (Nat.le_refl _)) (a_cons (e_var 0) (a_cons (e_var 1) (a_cons (e_var 2) (a_cons (e_var 3) (a_cons (e_sub (e_var 4) e_int) a_nil)))))))
    (s_cons (s_if (t_bop (w_and (t_eqS (e_var 5) e_int) (w_and1 (t_eqS (e_len B.len_ (e_var 3)) e_int))))
      (s_cons (s_asg 8 nd (e_ixs (e_lst (a_cons (e_var 3) (a_cons (e_tup (a_cons (e_ixs (e_var 3) e_int) (a_cons (e_ixs (e_var 3) e_int) a_nil))) a_nil))) (e_call F_law_take (hr.mono (j := 1) (Nat.le_trans (by decide : _ ≤ 6) (Nat.le_add_right _ _))) (a_cons (e_var 0) (a_cons e_int a_nil)))))
        (s_one (s_ret (e_tup (a_cons (e_call F_law_pick (hr.mono (j := 2) (Nat.le_trans (by decide : _ ≤ 6) (Nat.le_add_right _ _))) (a_cons (e_var 0) (a_cons (e_lst (a_cons e_str (a_cons e_str a_nil))) a_nil))) (a_cons (e_ixs (e_var 8) e_int) (a_cons (e_ixs (e_var 8) e_int) (a_cons (e_var 7) a_nil))))))))
      s_nil)
    (s_cons (s_if (t_eqS (e_var 5) e_int)
      (s_cons (s_asg 9 nd (e_call F_law_pick (hr.mono (j := 2) (Nat.le_trans (by decide : _ ≤ 6) (Nat.le_add_right _ _))) (a_cons (e_var 0) (a_cons (e_lst (a_cons e_str (a_cons e_str (a_cons e_str a_nil)))) a_nil))))
        (s_cons (s_asg 10 nd (e_call F_law_wide_term (hr.mono (j := 5) (Nat.le_trans (by decide : _ ≤ 6) (Nat.le_add_right _ _))) (a_cons (e_var 0) (a_cons (e_var 1) (a_cons (e_var 2) (a_cons (e_var 3) a_nil))))))
        (s_one (s_ret (e_tup (a_cons e_str (a_cons (e_var 9) (a_cons (e_var 10) (a_cons (e_call F_law_wide_term (hr.mono (j := 5) (Nat.le_trans (by decide : _ ≤ 6) (Nat.le_add_right _ _))) (a_cons (e_var 0) (a_cons (e_var 1) (a_cons (e_var 2) (a_cons (e_var 3) a_nil))))) (a_cons (e_var 7) a_nil))))))))))
      s_nil)
    (s_cons (s_if (t_eqS (e_var 5) e_int)
      (s_one (s_ret (e_tup (a_cons e_str (a_cons (e_call F_law_number (hr.mono (j := 3) (Nat.le_trans (by decide : _ ≤ 6) (Nat.le_add_right _ _))) (a_cons (e_var 0) (a_cons (e_var 1) a_nil))) (a_cons (e_var 7) a_nil))))))
      s_nil)
    (s_cons (s_asg 11 nd e_non)
    (s_cons (s_if (t_gt (e_call F_law_take (hr.mono (j := 1) (Nat.le_trans (by decide : _ ≤ 6) (Nat.le_add_right _ _))) (a_cons (e_var 0) (a_cons e_int a_nil))) e_int)
      (s_one (s_asg 11 nd (e_call F_law_size_b (hr.mono (j := 2) (Nat.le_trans (by decide : _ ≤ 6) (Nat.le_add_right _ _))) (a_cons (e_var 0) (a_cons (e_var 1) a_nil)))))
      s_nil)
    (s_one (s_ret (e_tup (a_cons (e_call F_law_pick (hr.mono (j := 2) (Nat.le_trans (by decide : _ ≤ 6) (Nat.le_add_right _ _))) (a_cons (e_var 0) (a_cons (e_lst (a_cons e_str (a_cons e_str (a_cons e_str (a_cons e_str a_nil))))) a_nil))) (a_cons (e_var 11) (a_cons (e_var 7) a_nil)))))))))))))))))) (pure_law_wide n)
end
set_option maxHeartbeats 0 in
theorem all_mk {l : PySem.W.OpenLaw} {w : World} {K : PySem.W.Frag} {h : Heap} {mg : Str → Option Value} {fa f0 f1 f2 f3 f4 f5 f6 f7 f8 f9 f10 f11 f12 f13 f14 f15 f16 f17 f18 f19 f20 f21 f22 f23 f24 f25 f26 f27 f28 f29 f30 f31 f32 f33 : Addr} (X : K.In h) (G : h.Ns mainGlobals mg) (hfa : mg "law" = some (.ref fa))
    {od0 an0 od1 an1 od2 an2 od3 an3 od4 an4 od5 an5 od6 an6 od7 an7 od8 an8 od9 an9 od10 an10 od11 an11 od12 an12 od13 an13 od14 an14 od15 an15 od16 an16 od17 an17 od18 an18 od19 an19 od20 an20 od21 an21 od22 an22 od23 an23 od24 an24 od25 an25 od26 an26 od27 an27 od28 an28 od29 an29 od30 an30 od31 an31 od32 an32 od33 an33 : Option Addr} {sl0 sl1 sl2 sl3 sl4 sl5 sl6 sl7 sl8 sl9 sl10 sl11 sl12 sl13 sl14 sl15 sl16 sl17 sl18 sl19 sl20 sl21 sl22 sl23 sl24 sl25 sl26 sl27 sl28 sl29 sl30 sl31 sl32 sl33 : Array (Option Value)} {oc0 kV0 dc0 pm0 cd0 ct0 oc1 kV1 dc1 pm1 cd1 ct1 oc2 kV2 dc2 pm2 cd2 ct2 oc3 kV3 dc3 pm3 cd3 ct3 oc4 kV4 dc4 pm4 cd4 ct4 oc5 kV5 dc5 pm5 cd5 ct5 oc6 kV6 dc6 pm6 cd6 ct6 oc7 kV7 dc7 pm7 cd7 ct7 oc8 kV8 dc8 pm8 cd8 ct8 oc9 kV9 dc9 pm9 cd9 ct9 oc10 kV10 dc10 pm10 cd10 ct10 oc11 kV11 dc11 pm11 cd11 ct11 oc12 kV12 dc12 pm12 cd12 ct12 oc13 kV13 dc13 pm13 cd13 ct13 oc14 kV14 dc14 pm14 cd14 ct14 oc15 kV15 dc15 pm15 cd15 ct15 oc16 kV16 dc16 pm16 cd16 ct16 oc17 kV17 dc17 pm17 cd17 ct17 oc18 kV18 dc18 pm18 cd18 ct18 oc19 kV19 dc19 pm19 cd19 ct19 oc20 kV20 dc20 pm20 cd20 ct20 oc21 kV21 dc21 pm21 cd21 ct21 oc22 kV22 dc22 pm22 cd22 ct22 oc23 kV23 dc23 pm23 cd23 ct23 oc24 kV24 dc24 pm24 cd24 ct24 oc25 kV25 dc25 pm25 cd25 ct25 oc26 kV26 dc26 pm26 cd26 ct26 oc27 kV27 dc27 pm27 cd27 ct27 oc28 kV28 dc28 pm28 cd28 ct28 oc29 kV29 dc29 pm29 cd29 ct29 oc30 kV30 dc30 pm30 cd30 ct30 oc31 kV31 dc31 pm31 cd31 ct31 oc32 kV32 dc32 pm32 cd32 ct32 oc33 kV33 dc33 pm33 cd33 ct33 : Value}
    (a0 : PySem.W.nsIn K mainGlobals "write_question" = some (some (.ref f0))) (l0 : K.lookup f0 = some ⟨oc0, od0, .func (PySem.W.fnOf "write_question" "write_question" (defArgs s_write_question) (defBody s_write_question) (defScope s_write_question) .none kV0 dc0 pm0 an0 cd0 ct0), sl0⟩) (c0 : PySem.W.codeIn K cd0 "write_question" = true) (k0 : PySem.W.keepIn K (.ref f0) = true)
    (a1 : PySem.W.nsIn K mainGlobals "written_pieces" = some (some (.ref f1))) (l1 : K.lookup f1 = some ⟨oc1, od1, .func (PySem.W.fnOf "written_pieces" "written_pieces" (defArgs s_written_pieces) (defBody s_written_pieces) (defScope s_written_pieces) .none kV1 dc1 pm1 an1 cd1 ct1), sl1⟩) (c1 : PySem.W.codeIn K cd1 "written_pieces" = true) (k1 : PySem.W.keepIn K (.ref f1) = true)
    (a2 : PySem.W.nsIn K mainGlobals "written_item" = some (some (.ref f2))) (l2 : K.lookup f2 = some ⟨oc2, od2, .func (PySem.W.fnOf "written_item" "written_item" (defArgs s_written_item) (defBody s_written_item) (defScope s_written_item) .none kV2 dc2 pm2 an2 cd2 ct2), sl2⟩) (c2 : PySem.W.codeIn K cd2 "written_item" = true) (k2 : PySem.W.keepIn K (.ref f2) = true)
    (a3 : PySem.W.nsIn K mainGlobals "written_term" = some (some (.ref f3))) (l3 : K.lookup f3 = some ⟨oc3, od3, .func (PySem.W.fnOf "written_term" "written_term" (defArgs s_written_term) (defBody s_written_term) (defScope s_written_term) .none kV3 dc3 pm3 an3 cd3 ct3), sl3⟩) (c3 : PySem.W.codeIn K cd3 "written_term" = true) (k3 : PySem.W.keepIn K (.ref f3) = true)
    (a4 : PySem.W.nsIn K mainGlobals "_law_draws" = some (some (.ref f4))) (l4 : K.lookup f4 = some ⟨oc4, od4, .func (PySem.W.fnOf "_law_draws" "_law_draws" (defArgs s_law_draws) (defBody s_law_draws) (defScope s_law_draws) .none kV4 dc4 pm4 an4 cd4 ct4), sl4⟩) (c4 : PySem.W.codeIn K cd4 "_law_draws" = true) (k4 : PySem.W.keepIn K (.ref f4) = true)
    (a5 : PySem.W.nsIn K mainGlobals "_law_take" = some (some (.ref f5))) (l5 : K.lookup f5 = some ⟨oc5, od5, .func (PySem.W.fnOf "_law_take" "_law_take" (defArgs s_law_take) (defBody s_law_take) (defScope s_law_take) .none kV5 dc5 pm5 an5 cd5 ct5), sl5⟩) (c5 : PySem.W.codeIn K cd5 "_law_take" = true) (k5 : PySem.W.keepIn K (.ref f5) = true)
    (a6 : PySem.W.nsIn K mainGlobals "_law_pick" = some (some (.ref f6))) (l6 : K.lookup f6 = some ⟨oc6, od6, .func (PySem.W.fnOf "_law_pick" "_law_pick" (defArgs s_law_pick) (defBody s_law_pick) (defScope s_law_pick) .none kV6 dc6 pm6 an6 cd6 ct6), sl6⟩) (c6 : PySem.W.codeIn K cd6 "_law_pick" = true) (k6 : PySem.W.keepIn K (.ref f6) = true)
    (a7 : PySem.W.nsIn K mainGlobals "_law_size" = some (some (.ref f7))) (l7 : K.lookup f7 = some ⟨oc7, od7, .func (PySem.W.fnOf "_law_size" "_law_size" (defArgs s_law_size_b) (defBody s_law_size_b) (defScope s_law_size_b) .none kV7 dc7 pm7 an7 cd7 ct7), sl7⟩) (c7 : PySem.W.codeIn K cd7 "_law_size" = true) (k7 : PySem.W.keepIn K (.ref f7) = true)
    (a8 : PySem.W.nsIn K mainGlobals "_law_same" = some (some (.ref f8))) (l8 : K.lookup f8 = some ⟨oc8, od8, .func (PySem.W.fnOf "_law_same" "_law_same" (defArgs s_law_same) (defBody s_law_same) (defScope s_law_same) .none kV8 dc8 pm8 an8 cd8 ct8), sl8⟩) (c8 : PySem.W.codeIn K cd8 "_law_same" = true) (k8 : PySem.W.keepIn K (.ref f8) = true)
    (a9 : PySem.W.nsIn K mainGlobals "_law_some_columns" = some (some (.ref f9))) (l9 : K.lookup f9 = some ⟨oc9, od9, .func (PySem.W.fnOf "_law_some_columns" "_law_some_columns" (defArgs s_law_some_columns) (defBody s_law_some_columns) (defScope s_law_some_columns) .none kV9 dc9 pm9 an9 cd9 ct9), sl9⟩) (c9 : PySem.W.codeIn K cd9 "_law_some_columns" = true) (k9 : PySem.W.keepIn K (.ref f9) = true)
    (a10 : PySem.W.nsIn K mainGlobals "_law_is_pair" = some (some (.ref f10))) (l10 : K.lookup f10 = some ⟨oc10, od10, .func (PySem.W.fnOf "_law_is_pair" "_law_is_pair" (defArgs s_law_is_pair) (defBody s_law_is_pair) (defScope s_law_is_pair) .none kV10 dc10 pm10 an10 cd10 ct10), sl10⟩) (c10 : PySem.W.codeIn K cd10 "_law_is_pair" = true) (k10 : PySem.W.keepIn K (.ref f10) = true)
    (a11 : PySem.W.nsIn K mainGlobals "_law_words" = some (some (.ref f11))) (l11 : K.lookup f11 = some ⟨oc11, od11, .func (PySem.W.fnOf "_law_words" "_law_words" (defArgs s_law_words) (defBody s_law_words) (defScope s_law_words) .none kV11 dc11 pm11 an11 cd11 ct11), sl11⟩) (c11 : PySem.W.codeIn K cd11 "_law_words" = true) (k11 : PySem.W.keepIn K (.ref f11) = true)
    (a12 : PySem.W.nsIn K mainGlobals "_law_number" = some (some (.ref f12))) (l12 : K.lookup f12 = some ⟨oc12, od12, .func (PySem.W.fnOf "_law_number" "_law_number" (defArgs s_law_number) (defBody s_law_number) (defScope s_law_number) .none kV12 dc12 pm12 an12 cd12 ct12), sl12⟩) (c12 : PySem.W.codeIn K cd12 "_law_number" = true) (k12 : PySem.W.keepIn K (.ref f12) = true)
    (a13 : PySem.W.nsIn K mainGlobals "_law_worth" = some (some (.ref f13))) (l13 : K.lookup f13 = some ⟨oc13, od13, .func (PySem.W.fnOf "_law_worth" "_law_worth" (defArgs s_law_worth) (defBody s_law_worth) (defScope s_law_worth) .none kV13 dc13 pm13 an13 cd13 ct13), sl13⟩) (c13 : PySem.W.codeIn K cd13 "_law_worth" = true) (k13 : PySem.W.keepIn K (.ref f13) = true)
    (a14 : PySem.W.nsIn K mainGlobals "_law_wide_term" = some (some (.ref f14))) (l14 : K.lookup f14 = some ⟨oc14, od14, .func (PySem.W.fnOf "_law_wide_term" "_law_wide_term" (defArgs s_law_wide_term) (defBody s_law_wide_term) (defScope s_law_wide_term) .none kV14 dc14 pm14 an14 cd14 ct14), sl14⟩) (c14 : PySem.W.codeIn K cd14 "_law_wide_term" = true) (k14 : PySem.W.keepIn K (.ref f14) = true)
    (a15 : PySem.W.nsIn K mainGlobals "_law_wide_fact" = some (some (.ref f15))) (l15 : K.lookup f15 = some ⟨oc15, od15, .func (PySem.W.fnOf "_law_wide_fact" "_law_wide_fact" (defArgs s_law_wide_fact) (defBody s_law_wide_fact) (defScope s_law_wide_fact) .none kV15 dc15 pm15 an15 cd15 ct15), sl15⟩) (c15 : PySem.W.codeIn K cd15 "_law_wide_fact" = true) (k15 : PySem.W.keepIn K (.ref f15) = true)
    (a16 : PySem.W.nsIn K mainGlobals "_law_more" = some (some (.ref f16))) (l16 : K.lookup f16 = some ⟨oc16, od16, .func (PySem.W.fnOf "_law_more" "_law_more" (defArgs s_law_more) (defBody s_law_more) (defScope s_law_more) .none kV16 dc16 pm16 an16 cd16 ct16), sl16⟩) (c16 : PySem.W.codeIn K cd16 "_law_more" = true) (k16 : PySem.W.keepIn K (.ref f16) = true)
    (a17 : PySem.W.nsIn K mainGlobals "_law_wide_total" = some (some (.ref f17))) (l17 : K.lookup f17 = some ⟨oc17, od17, .func (PySem.W.fnOf "_law_wide_total" "_law_wide_total" (defArgs s_law_wide_total) (defBody s_law_wide_total) (defScope s_law_wide_total) .none kV17 dc17 pm17 an17 cd17 ct17), sl17⟩) (c17 : PySem.W.codeIn K cd17 "_law_wide_total" = true) (k17 : PySem.W.keepIn K (.ref f17) = true)
    (a18 : PySem.W.nsIn K mainGlobals "_law_wide_pair" = some (some (.ref f18))) (l18 : K.lookup f18 = some ⟨oc18, od18, .func (PySem.W.fnOf "_law_wide_pair" "_law_wide_pair" (defArgs s_law_wide_pair) (defBody s_law_wide_pair) (defScope s_law_wide_pair) .none kV18 dc18 pm18 an18 cd18 ct18), sl18⟩) (c18 : PySem.W.codeIn K cd18 "_law_wide_pair" = true) (k18 : PySem.W.keepIn K (.ref f18) = true)
    (a19 : PySem.W.nsIn K mainGlobals "_law_wide" = some (some (.ref f19))) (l19 : K.lookup f19 = some ⟨oc19, od19, .func (PySem.W.fnOf "_law_wide" "_law_wide" (defArgs s_law_wide) (defBody s_law_wide) (defScope s_law_wide) .none kV19 dc19 pm19 an19 cd19 ct19), sl19⟩) (c19 : PySem.W.codeIn K cd19 "_law_wide" = true) (k19 : PySem.W.keepIn K (.ref f19) = true)
    (a20 : PySem.W.nsIn K mainGlobals "_law_wide_columns" = some (some (.ref f20))) (l20 : K.lookup f20 = some ⟨oc20, od20, .func (PySem.W.fnOf "_law_wide_columns" "_law_wide_columns" (defArgs s_law_wide_columns) (defBody s_law_wide_columns) (defScope s_law_wide_columns) .none kV20 dc20 pm20 an20 cd20 ct20), sl20⟩) (c20 : PySem.W.codeIn K cd20 "_law_wide_columns" = true) (k20 : PySem.W.keepIn K (.ref f20) = true)
    (a21 : PySem.W.nsIn K mainGlobals "_law_parts" = some (some (.ref f21))) (l21 : K.lookup f21 = some ⟨oc21, od21, .func (PySem.W.fnOf "_law_parts" "_law_parts" (defArgs s_law_parts) (defBody s_law_parts) (defScope s_law_parts) .none kV21 dc21 pm21 an21 cd21 ct21), sl21⟩) (c21 : PySem.W.codeIn K cd21 "_law_parts" = true) (k21 : PySem.W.keepIn K (.ref f21) = true)
    (a22 : PySem.W.nsIn K mainGlobals "_law_depth" = some (some (.ref f22))) (l22 : K.lookup f22 = some ⟨oc22, od22, .func (PySem.W.fnOf "_law_depth" "_law_depth" (defArgs s_law_depth) (defBody s_law_depth) (defScope s_law_depth) .none kV22 dc22 pm22 an22 cd22 ct22), sl22⟩) (c22 : PySem.W.codeIn K cd22 "_law_depth" = true) (k22 : PySem.W.keepIn K (.ref f22) = true)
    (a23 : PySem.W.nsIn K mainGlobals "_law_wrapped" = some (some (.ref f23))) (l23 : K.lookup f23 = some ⟨oc23, od23, .func (PySem.W.fnOf "_law_wrapped" "_law_wrapped" (defArgs s_law_wrapped) (defBody s_law_wrapped) (defScope s_law_wrapped) .none kV23 dc23 pm23 an23 cd23 ct23), sl23⟩) (c23 : PySem.W.codeIn K cd23 "_law_wrapped" = true) (k23 : PySem.W.keepIn K (.ref f23) = true)
    (a24 : PySem.W.nsIn K mainGlobals "_law_term_piece" = some (some (.ref f24))) (l24 : K.lookup f24 = some ⟨oc24, od24, .func (PySem.W.fnOf "_law_term_piece" "_law_term_piece" (defArgs s_law_term_piece) (defBody s_law_term_piece) (defScope s_law_term_piece) .none kV24 dc24 pm24 an24 cd24 ct24), sl24⟩) (c24 : PySem.W.codeIn K cd24 "_law_term_piece" = true) (k24 : PySem.W.keepIn K (.ref f24) = true)
    (a25 : PySem.W.nsIn K mainGlobals "_law_listed" = some (some (.ref f25))) (l25 : K.lookup f25 = some ⟨oc25, od25, .func (PySem.W.fnOf "_law_listed" "_law_listed" (defArgs s_law_listed) (defBody s_law_listed) (defScope s_law_listed) .none kV25 dc25 pm25 an25 cd25 ct25), sl25⟩) (c25 : PySem.W.codeIn K cd25 "_law_listed" = true) (k25 : PySem.W.keepIn K (.ref f25) = true)
    (a26 : PySem.W.nsIn K mainGlobals "_law_pieces" = some (some (.ref f26))) (l26 : K.lookup f26 = some ⟨oc26, od26, .func (PySem.W.fnOf "_law_pieces" "_law_pieces" (defArgs s_law_pieces) (defBody s_law_pieces) (defScope s_law_pieces) .none kV26 dc26 pm26 an26 cd26 ct26), sl26⟩) (c26 : PySem.W.codeIn K cd26 "_law_pieces" = true) (k26 : PySem.W.keepIn K (.ref f26) = true)
    (a27 : PySem.W.nsIn K mainGlobals "_law_joined_text" = some (some (.ref f27))) (l27 : K.lookup f27 = some ⟨oc27, od27, .func (PySem.W.fnOf "_law_joined_text" "_law_joined_text" (defArgs s_law_joined_text) (defBody s_law_joined_text) (defScope s_law_joined_text) .none kV27 dc27 pm27 an27 cd27 ct27), sl27⟩) (c27 : PySem.W.codeIn K cd27 "_law_joined_text" = true) (k27 : PySem.W.keepIn K (.ref f27) = true)
    (a28 : PySem.W.nsIn K mainGlobals "_law_paths" = some (some (.ref f28))) (l28 : K.lookup f28 = some ⟨oc28, od28, .func (PySem.W.fnOf "_law_paths" "_law_paths" (defArgs s_law_paths) (defBody s_law_paths) (defScope s_law_paths) .none kV28 dc28 pm28 an28 cd28 ct28), sl28⟩) (c28 : PySem.W.codeIn K cd28 "_law_paths" = true) (k28 : PySem.W.keepIn K (.ref f28) = true)
    (a29 : PySem.W.nsIn K mainGlobals "_law_node" = some (some (.ref f29))) (l29 : K.lookup f29 = some ⟨oc29, od29, .func (PySem.W.fnOf "_law_node" "_law_node" (defArgs s_law_node) (defBody s_law_node) (defScope s_law_node) .none kV29 dc29 pm29 an29 cd29 ct29), sl29⟩) (c29 : PySem.W.codeIn K cd29 "_law_node" = true) (k29 : PySem.W.keepIn K (.ref f29) = true)
    (a30 : PySem.W.nsIn K mainGlobals "_law_swapped" = some (some (.ref f30))) (l30 : K.lookup f30 = some ⟨oc30, od30, .func (PySem.W.fnOf "_law_swapped" "_law_swapped" (defArgs s_law_swapped) (defBody s_law_swapped) (defScope s_law_swapped) .none kV30 dc30 pm30 an30 cd30 ct30), sl30⟩) (c30 : PySem.W.codeIn K cd30 "_law_swapped" = true) (k30 : PySem.W.keepIn K (.ref f30) = true)
    (a31 : PySem.W.nsIn K mainGlobals "_law_some_question" = some (some (.ref f31))) (l31 : K.lookup f31 = some ⟨oc31, od31, .func (PySem.W.fnOf "_law_some_question" "_law_some_question" (defArgs s_law_some_question) (defBody s_law_some_question) (defScope s_law_some_question) .none kV31 dc31 pm31 an31 cd31 ct31), sl31⟩) (c31 : PySem.W.codeIn K cd31 "_law_some_question" = true) (k31 : PySem.W.keepIn K (.ref f31) = true)
    (a32 : PySem.W.nsIn K mainGlobals "_law_odd_node" = some (some (.ref f32))) (l32 : K.lookup f32 = some ⟨oc32, od32, .func (PySem.W.fnOf "_law_odd_node" "_law_odd_node" (defArgs s_law_odd_node) (defBody s_law_odd_node) (defScope s_law_odd_node) .none kV32 dc32 pm32 an32 cd32 ct32), sl32⟩) (c32 : PySem.W.codeIn K cd32 "_law_odd_node" = true) (k32 : PySem.W.keepIn K (.ref f32) = true)
    (a33 : PySem.W.nsIn K mainGlobals "law" = some (some (.ref f33))) (l33 : K.lookup f33 = some ⟨oc33, od33, .func (PySem.W.fnOf "law" "law" (defArgs s_law) (defBody s_law) (defScope s_law) .none kV33 dc33 pm33 an33 cd33 ct33), sl33⟩) (c33 : PySem.W.codeIn K cd33 "law" = true) (k33 : PySem.W.keepIn K (.ref f33) = true)
    (z0 : PySem.W.nsIn K mainGlobals "len" = some none) (z1 : PySem.W.nsIn K mainGlobals "range" = some none) (z2 : PySem.W.nsIn K mainGlobals "int" = some none) (z3 : PySem.W.nsIn K mainGlobals "abs" = some none) (z4 : PySem.W.nsIn K mainGlobals "list" = some none) (z5 : PySem.W.nsIn K mainGlobals "tuple" = some none) (z6 : PySem.W.nsIn K mainGlobals "sum" = some none) (z7 : PySem.W.nsIn K mainGlobals "any" = some none) (z8 : PySem.W.nsIn K mainGlobals "sorted" = some none) (z9 : PySem.W.nsIn K mainGlobals "max" = some none) (z10 : PySem.W.nsIn K mainGlobals "min" = some none) (z11 : PySem.W.nsIn K mainGlobals "divmod" = some none) (z12 : PySem.W.nsIn K mainGlobals "isinstance" = some none) (z13 : PySem.W.nsIn K mainGlobals "zip" = some none) (z14 : PySem.W.nsIn K mainGlobals "reversed" = some none) (z15 : PySem.W.nsIn K mainGlobals "bool" = some none) (z16 : PySem.W.nsIn K mainGlobals "str" = some none) (z17 : PySem.W.nsIn K mainGlobals "set" = some none) (z18 : PySem.W.nsIn K mainGlobals "all" = some none) (z19 : PySem.W.nsIn K mainGlobals "enumerate" = some none)  (G_ITEMS : DctT w K mg "ITEMS" tab_ITEMS) :
    ∃ fd : FuncData, (∀ (s : Shared) (v : Value), BindsTo s fd ⟨[v], []⟩ [("script", v)]) ∧ ∀ base : Heap, K.In base → base.Ns mainGlobals mg → FnOk l.prog w K mg base CX0 40 fa fd ["script"] (spOf K 1 sp_law) := by
  have e := hfa.symm.trans (PySem.W.mg_of X G a33)
  cases e
  have U0 := fun_mk (st := s_write_question) l0 c0 k0
  have U1 := fun_mk (st := s_written_pieces) l1 c1 k1
  have U2 := fun_mk (st := s_written_item) l2 c2 k2
  have U3 := fun_mk (st := s_written_term) l3 c3 k3
  have U4 := fun_mk (st := s_law_draws) l4 c4 k4
  have U5 := fun_mk (st := s_law_take) l5 c5 k5
  have U6 := fun_mk (st := s_law_pick) l6 c6 k6
  have U7 := fun_mk (st := s_law_size_b) l7 c7 k7
  have U8 := fun_mk (st := s_law_same) l8 c8 k8
  have U9 := fun_mk (st := s_law_some_columns) l9 c9 k9
  have U10 := fun_mk (st := s_law_is_pair) l10 c10 k10
  have U11 := fun_mk (st := s_law_words) l11 c11 k11
  have U12 := fun_mk (st := s_law_number) l12 c12 k12
  have U13 := fun_mk (st := s_law_worth) l13 c13 k13
  have U14 := fun_mk (st := s_law_wide_term) l14 c14 k14
  have U15 := fun_mk (st := s_law_wide_fact) l15 c15 k15
  have U16 := fun_mk (st := s_law_more) l16 c16 k16
  have U17 := fun_mk (st := s_law_wide_total) l17 c17 k17
  have U18 := fun_mk (st := s_law_wide_pair) l18 c18 k18
  have U19 := fun_mk (st := s_law_wide) l19 c19 k19
  have U20 := fun_mk (st := s_law_wide_columns) l20 c20 k20
  have U21 := fun_mk (st := s_law_parts) l21 c21 k21
  have U22 := fun_mk (st := s_law_depth) l22 c22 k22
  have U23 := fun_mk (st := s_law_wrapped) l23 c23 k23
  have U24 := fun_mk (st := s_law_term_piece) l24 c24 k24
  have U25 := fun_mk (st := s_law_listed) l25 c25 k25
  have U26 := fun_mk (st := s_law_pieces) l26 c26 k26
  have U27 := fun_mk (st := s_law_joined_text) l27 c27 k27
  have U28 := fun_mk (st := s_law_paths) l28 c28 k28
  have U29 := fun_mk (st := s_law_node) l29 c29 k29
  have U30 := fun_mk (st := s_law_swapped) l30 c30 k30
  have U31 := fun_mk (st := s_law_some_question) l31 c31 k31
  have U32 := fun_mk (st := s_law_odd_node) l32 c32 k32
  have U33 := fun_mk (st := s_law) l33 c33 k33
  refine ⟨PySem.W.fnOf "law" "law" (defArgs s_law) (defBody s_law) (defScope s_law) .none kV33 dc33 pm33 an33 cd33 ct33, fun s v => .of_eq rfl, fun base _ _ => ?_⟩
  have B : Blt mg := ⟨PySem.W.mg_none_of X G z0, PySem.W.mg_none_of X G z1, PySem.W.mg_none_of X G z2, PySem.W.mg_none_of X G z3, PySem.W.mg_none_of X G z4, PySem.W.mg_none_of X G z5, PySem.W.mg_none_of X G z6, PySem.W.mg_none_of X G z7, PySem.W.mg_none_of X G z8, PySem.W.mg_none_of X G z9, PySem.W.mg_none_of X G z10, PySem.W.mg_none_of X G z11, PySem.W.mg_none_of X G z12, PySem.W.mg_none_of X G z13, PySem.W.mg_none_of X G z14, PySem.W.mg_none_of X G z15, PySem.W.mg_none_of X G z16, PySem.W.mg_none_of X G z17, PySem.W.mg_none_of X G z18, PySem.W.mg_none_of X G z19⟩
  have F_law_draws : FnD l.prog w K mg base 1 "_law_draws" ["script", "many"] sp_law_draws := ⟨_, _, ok_law_draws B U4, PySem.W.mg_of X G a4, (U4).kp, (U4).binds fun _ _ _ _ _ _ us hl => match us, hl with | [_, _], _ => rfl⟩
  have F_law_take : FnD l.prog w K mg base 1 "_law_take" ["draws", "many"] sp_law_take := ⟨_, _, ok_law_take B U5, PySem.W.mg_of X G a5, (U5).kp, (U5).binds fun _ _ _ _ _ _ us hl => match us, hl with | [_, _], _ => rfl⟩
  have F_law_words : FnD l.prog w K mg base 2 "_law_words" ["draws", "many"] sp_law_words := ⟨_, _, ok_law_words B U11 F_law_take, PySem.W.mg_of X G a11, (U11).kp, (U11).binds fun _ _ _ _ _ _ us hl => match us, hl with | [_, _], _ => rfl⟩
  have F_law_pick : FnD l.prog w K mg base 2 "_law_pick" ["draws", "row"] sp_law_pick := ⟨_, _, ok_law_pick B U6 F_law_take, PySem.W.mg_of X G a6, (U6).kp, (U6).binds fun _ _ _ _ _ _ us hl => match us, hl with | [_, _], _ => rfl⟩
  have F_law_size_b : FnD l.prog w K mg base 2 "_law_size" ["draws", "script"] sp_law_size_b := ⟨_, _, ok_law_size_b B U7 F_law_take, PySem.W.mg_of X G a7, (U7).kp, (U7).binds fun _ _ _ _ _ _ us hl => match us, hl with | [_, _], _ => rfl⟩
  have F_law_number : FnD l.prog w K mg base 3 "_law_number" ["draws", "script"] sp_law_number := ⟨_, _, ok_law_number B U12 F_law_size_b F_law_take, PySem.W.mg_of X G a12, (U12).kp, (U12).binds fun _ _ _ _ _ _ us hl => match us, hl with | [_, _], _ => rfl⟩
  have F_law_worth : FnD l.prog w K mg base 4 "_law_worth" ["draws", "script", "words"] sp_law_worth := ⟨_, _, ok_law_worth B U13 F_law_take F_law_pick F_law_number, PySem.W.mg_of X G a13, (U13).kp, (U13).binds fun _ _ _ _ _ _ us hl => match us, hl with | [_, _, _], _ => rfl⟩
  have F_law_wide_term : FnD l.prog w K mg base 5 "_law_wide_term" ["draws", "script", "words", "columns"] sp_law_wide_term := ⟨_, _, ok_law_wide_term B U14 F_law_take F_law_pick F_law_worth, PySem.W.mg_of X G a14, (U14).kp, (U14).binds fun _ _ _ _ _ _ us hl => match us, hl with | [_, _, _, _], _ => rfl⟩
  have F_law_wide_fact : FnD l.prog w K mg base 6 "_law_wide_fact" ["draws", "script", "words", "columns"] sp_law_wide_fact := ⟨_, _, ok_law_wide_fact B U15 F_law_take F_law_wide_term F_law_pick, PySem.W.mg_of X G a15, (U15).kp, (U15).binds fun _ _ _ _ _ _ us hl => match us, hl with | [_, _, _, _], _ => rfl⟩
  have F_law_more : FnD l.prog w K mg base 2 "_law_more" ["draws", "words", "columns"] sp_law_more := ⟨_, _, ok_law_more B U16 F_law_take, PySem.W.mg_of X G a16, (U16).kp, (U16).binds fun _ _ _ _ _ _ us hl => match us, hl with | [_, _, _], _ => rfl⟩
  have F_law_some_columns : FnD l.prog w K mg base 2 "_law_some_columns" ["draws", "columns"] sp_law_some_columns := ⟨_, _, ok_law_some_columns B U9 F_law_take, PySem.W.mg_of X G a9, (U9).kp, (U9).binds fun _ _ _ _ _ _ us hl => match us, hl with | [_, _], _ => rfl⟩
  have Gr_law_wide := okg_law_wide (P := l.prog) (w := w) (base := base) B U17 (PySem.W.mg_of X G a17) U18 (PySem.W.mg_of X G a18) U19 (PySem.W.mg_of X G a19) F_law_pick F_law_more F_law_take F_law_some_columns F_law_wide_fact F_law_wide_term F_law_number F_law_size_b 32
  have F_law_wide_total : FnD l.prog w K mg base 38 "_law_wide_total" ["draws", "script", "words", "columns", "depth"] (spn_law_wide_total 32) := ⟨_, _, Gr_law_wide.1, PySem.W.mg_of X G a17, (U17).kp, (U17).binds fun _ _ _ _ _ _ us hl => match us, hl with | [_, _, _, _, _], _ => rfl⟩
  have F_law_wide_pair : FnD l.prog w K mg base 38 "_law_wide_pair" ["draws", "script", "words", "columns", "depth"] (spn_law_wide_pair 32) := ⟨_, _, Gr_law_wide.2.1, PySem.W.mg_of X G a18, (U18).kp, (U18).binds fun _ _ _ _ _ _ us hl => match us, hl with | [_, _, _, _, _], _ => rfl⟩
  have F_law_wide : FnD l.prog w K mg base 38 "_law_wide" ["draws", "script", "words", "columns", "depth"] (spn_law_wide 32) := ⟨_, _, Gr_law_wide.2.2, PySem.W.mg_of X G a19, (U19).kp, (U19).binds fun _ _ _ _ _ _ us hl => match us, hl with | [_, _, _, _, _], _ => rfl⟩
  have F_law_wide_columns : FnD l.prog w K mg base 2 "_law_wide_columns" ["draws", "words"] sp_law_wide_columns := ⟨_, _, ok_law_wide_columns B U20 F_law_take, PySem.W.mg_of X G a20, (U20).kp, (U20).binds fun _ _ _ _ _ _ us hl => match us, hl with | [_, _], _ => rfl⟩
  have F_law_is_pair : FnD l.prog w K mg base 1 "_law_is_pair" ["kind"] sp_law_is_pair := ⟨_, _, ok_law_is_pair B U10, PySem.W.mg_of X G a10, (U10).kp, (U10).binds fun _ _ _ _ _ _ us hl => match us, hl with | [_], _ => rfl⟩
  have F_law_parts : FnD l.prog w K mg base 2 "_law_parts" ["question"] sp_law_parts := ⟨_, _, ok_law_parts B U21 F_law_is_pair, PySem.W.mg_of X G a21, (U21).kp, (U21).binds fun _ _ _ _ _ _ us hl => match us, hl with | [_], _ => rfl⟩
  have F_law_depth : FnD l.prog w K mg base 18 "_law_depth" ["question"] sp_law_depth := ⟨_, _, ok_law_depth B U22 (PySem.W.mg_of X G a22) F_law_parts, PySem.W.mg_of X G a22, (U22).kp, (U22).binds fun _ _ _ _ _ _ us hl => match us, hl with | [_], _ => rfl⟩
  have F_law_wrapped : FnD l.prog w K mg base 19 "_law_wrapped" ["draws", "script", "question", "depth"] sp_law_wrapped := ⟨_, _, ok_law_wrapped B U23 F_law_depth F_law_take F_law_number, PySem.W.mg_of X G a23, (U23).kp, (U23).binds fun _ _ _ _ _ _ us hl => match us, hl with | [_, _, _, _], _ => rfl⟩
  have F_law_some_question : FnD l.prog w K mg base 39 "_law_some_question" ["draws", "script", "words", "depth"] sp_law_some_question := ⟨_, _, ok_law_some_question B U31 F_law_wide F_law_wide_columns F_law_take F_law_wrapped, PySem.W.mg_of X G a31, (U31).kp, (U31).binds fun _ _ _ _ _ _ us hl => match us, hl with | [_, _, _, _], _ => rfl⟩
  have F_law_paths : FnD l.prog w K mg base 18 "_law_paths" ["question", "path"] sp_law_paths := ⟨_, _, ok_law_paths B U28 (PySem.W.mg_of X G a28) F_law_parts, PySem.W.mg_of X G a28, (U28).kp, (U28).binds fun _ _ _ _ _ _ us hl => match us, hl with | [_, _], _ => rfl⟩
  have F_law_odd_node : FnD l.prog w K mg base 6 "_law_odd_node" ["draws", "script", "words", "node"] sp_law_odd_node := ⟨_, _, ok_law_odd_node B U32 F_law_take F_law_pick F_law_wide_term, PySem.W.mg_of X G a32, (U32).kp, (U32).binds fun _ _ _ _ _ _ us hl => match us, hl with | [_, _, _, _], _ => rfl⟩
  have F_law_node : FnD l.prog w K mg base 3 "_law_node" ["question", "path"] sp_law_node := ⟨_, _, ok_law_node B U29 F_law_parts, PySem.W.mg_of X G a29, (U29).kp, (U29).binds fun _ _ _ _ _ _ us hl => match us, hl with | [_, _], _ => rfl⟩
  have F_law_swapped : FnD l.prog w K mg base 18 "_law_swapped" ["question", "path", "node"] sp_law_swapped := ⟨_, _, ok_law_swapped B U30 (PySem.W.mg_of X G a30) F_law_parts, PySem.W.mg_of X G a30, (U30).kp, (U30).binds fun _ _ _ _ _ _ us hl => match us, hl with | [_, _, _], _ => rfl⟩
  have F_law_same : FnD l.prog w K mg base 8 "_law_same" ["actual", "due"] sp_law_same := ⟨_, _, ok_law_same B U8 (PySem.W.mg_of X G a8), PySem.W.mg_of X G a8, (U8).kp, (U8).binds fun _ _ _ _ _ _ us hl => match us, hl with | [_, _], _ => rfl⟩
  have F_written_term : FnD l.prog w K mg base 1 "written_term" ["term"] sp_written_term := ⟨_, _, ok_written_term B U3, PySem.W.mg_of X G a3, (U3).kp, (U3).binds fun _ _ _ _ _ _ us hl => match us, hl with | [_], _ => rfl⟩
  have F_written_item : FnD l.prog w K mg base 2 "written_item" ["form", "item"] sp_written_item := ⟨_, _, ok_written_item B U2 F_written_term, PySem.W.mg_of X G a2, (U2).kp, (U2).binds fun _ _ _ _ _ _ us hl => match us, hl with | [_, _], _ => rfl⟩
  have F_written_pieces : FnD l.prog w K mg base 3 "written_pieces" ["question"] sp_written_pieces := ⟨_, _, ok_written_pieces B U1 F_written_term F_written_item G_ITEMS, PySem.W.mg_of X G a1, (U1).kp, (U1).binds fun _ _ _ _ _ _ us hl => match us, hl with | [_], _ => rfl⟩
  have F_write_question : FnD l.prog w K mg base 4 "write_question" ["question"] sp_write_question := ⟨_, _, ok_write_question B U0 F_written_pieces, PySem.W.mg_of X G a0, (U0).kp, (U0).binds fun _ _ _ _ _ _ us hl => match us, hl with | [_], _ => rfl⟩
  have F_law_joined_text : FnD l.prog w K mg base 1 "_law_joined_text" ["pieces"] sp_law_joined_text := ⟨_, _, ok_law_joined_text B U27, PySem.W.mg_of X G a27, (U27).kp, (U27).binds fun _ _ _ _ _ _ us hl => match us, hl with | [_], _ => rfl⟩
  have F_law_listed : FnD l.prog w K mg base 1 "_law_listed" ["items"] sp_law_listed := ⟨_, _, ok_law_listed B U25, PySem.W.mg_of X G a25, (U25).kp, (U25).binds fun _ _ _ _ _ _ us hl => match us, hl with | [_], _ => rfl⟩
  have F_law_term_piece : FnD l.prog w K mg base 1 "_law_term_piece" ["term"] sp_law_term_piece := ⟨_, _, ok_law_term_piece B U24, PySem.W.mg_of X G a24, (U24).kp, (U24).binds fun _ _ _ _ _ _ us hl => match us, hl with | [_], _ => rfl⟩
  have F_law_pieces : FnD l.prog w K mg base 17 "_law_pieces" ["question"] sp_law_pieces := ⟨_, _, ok_law_pieces B U26 (PySem.W.mg_of X G a26) F_law_listed F_law_term_piece F_law_is_pair, PySem.W.mg_of X G a26, (U26).kp, (U26).binds fun _ _ _ _ _ _ us hl => match us, hl with | [_], _ => rfl⟩
  exact ok_law (P := l.prog) (w := w) (base := base) B U33 F_law_draws F_law_words F_law_some_question F_law_take F_law_pick F_law_paths F_law_odd_node F_law_node F_law_swapped F_law_same F_write_question F_law_joined_text F_law_pieces
end Lw
open PySem PySem.W PyProof.Rows
set_option maxHeartbeats 0 in
theorem PySem.Challenge.cw_ateverymoment_k47_written_form_holds : PySem.Challenge.rw_ateverymoment_k47_written_form.Holds := by
  w_on; o_law; k_head; (case hw => w_witness2)
  k_fill
  refine L2.walk_of (l := PySem.Challenge.rw_ateverymoment_k47_written_form) (n := 63) (k := 40) (x := "script") (CX := fun _ => L2.CX0) (sp := fun w => DL.spOf _ 1 DL.sp_law) rfl (by decide) rfl ⟨rfl, by decide, by decide⟩ (fun w h Y => PySem.W.kIn_of Y) ?F (fun _ H a ns hl hO hS => DL.law_start hl hO hS) (fun _ _ _ _ _ h => h)
  case F =>
    intro w mg fa h KX G hmg
    refine' Lw.all_mk KX G hmg ?a0 ?l0 ?c0 ?k0 ?a1 ?l1 ?c1 ?k1 ?a2 ?l2 ?c2 ?k2 ?a3 ?l3 ?c3 ?k3 ?a4 ?l4 ?c4 ?k4 ?a5 ?l5 ?c5 ?k5 ?a6 ?l6 ?c6 ?k6 ?a7 ?l7 ?c7 ?k7 ?a8 ?l8 ?c8 ?k8 ?a9 ?l9 ?c9 ?k9 ?a10 ?l10 ?c10 ?k10 ?a11 ?l11 ?c11 ?k11 ?a12 ?l12 ?c12 ?k12 ?a13 ?l13 ?c13 ?k13 ?a14 ?l14 ?c14 ?k14 ?a15 ?l15 ?c15 ?k15 ?a16 ?l16 ?c16 ?k16 ?a17 ?l17 ?c17 ?k17 ?a18 ?l18 ?c18 ?k18 ?a19 ?l19 ?c19 ?k19 ?a20 ?l20 ?c20 ?k20 ?a21 ?l21 ?c21 ?k21 ?a22 ?l22 ?c22 ?k22 ?a23 ?l23 ?c23 ?k23 ?a24 ?l24 ?c24 ?k24 ?a25 ?l25 ?c25 ?k25 ?a26 ?l26 ?c26 ?k26 ?a27 ?l27 ?c27 ?k27 ?a28 ?l28 ?c28 ?k28 ?a29 ?l29 ?c29 ?k29 ?a30 ?l30 ?c30 ?k30 ?a31 ?l31 ?c31 ?k31 ?a32 ?l32 ?c32 ?k32 ?a33 ?l33 ?c33 ?k33 ?z0 ?z1 ?z2 ?z3 ?z4 ?z5 ?z6 ?z7 ?z8 ?z9 ?z10 ?z11 ?z12 ?z13 ?z14 ?z15 ?z16 ?z17 ?z18 ?z19 ?G_ITEMS
    (case a0 => k_is); (case l0 => k_is); (case c0 => k_is); (case k0 => k_is); (case a1 => k_is); (case l1 => k_is); (case c1 => k_is); (case k1 => k_is); (case a2 => k_is); (case l2 => k_is); (case c2 => k_is); (case k2 => k_is); (case a3 => k_is); (case l3 => k_is); (case c3 => k_is); (case k3 => k_is); (case a4 => k_is); (case l4 => k_is); (case c4 => k_is); (case k4 => k_is); (case a5 => k_is); (case l5 => k_is); (case c5 => k_is); (case k5 => k_is); (case a6 => k_is); (case l6 => k_is); (case c6 => k_is); (case k6 => k_is); (case a7 => k_is); (case l7 => k_is); (case c7 => k_is); (case k7 => k_is); (case a8 => k_is); (case l8 => k_is); (case c8 => k_is); (case k8 => k_is); (case a9 => k_is); (case l9 => k_is); (case c9 => k_is); (case k9 => k_is); (case a10 => k_is); (case l10 => k_is); (case c10 => k_is); (case k10 => k_is); (case a11 => k_is); (case l11 => k_is); (case c11 => k_is); (case k11 => k_is); (case a12 => k_is); (case l12 => k_is); (case c12 => k_is); (case k12 => k_is); (case a13 => k_is); (case l13 => k_is); (case c13 => k_is); (case k13 => k_is); (case a14 => k_is); (case l14 => k_is); (case c14 => k_is); (case k14 => k_is); (case a15 => k_is); (case l15 => k_is); (case c15 => k_is); (case k15 => k_is); (case a16 => k_is); (case l16 => k_is); (case c16 => k_is); (case k16 => k_is); (case a17 => k_is); (case l17 => k_is); (case c17 => k_is); (case k17 => k_is); (case a18 => k_is); (case l18 => k_is); (case c18 => k_is); (case k18 => k_is); (case a19 => k_is); (case l19 => k_is); (case c19 => k_is); (case k19 => k_is); (case a20 => k_is); (case l20 => k_is); (case c20 => k_is); (case k20 => k_is); (case a21 => k_is); (case l21 => k_is); (case c21 => k_is); (case k21 => k_is); (case a22 => k_is); (case l22 => k_is); (case c22 => k_is); (case k22 => k_is); (case a23 => k_is); (case l23 => k_is); (case c23 => k_is); (case k23 => k_is); (case a24 => k_is); (case l24 => k_is); (case c24 => k_is); (case k24 => k_is); (case a25 => k_is); (case l25 => k_is); (case c25 => k_is); (case k25 => k_is); (case a26 => k_is); (case l26 => k_is); (case c26 => k_is); (case k26 => k_is); (case a27 => k_is); (case l27 => k_is); (case c27 => k_is); (case k27 => k_is); (case a28 => k_is); (case l28 => k_is); (case c28 => k_is); (case k28 => k_is); (case a29 => k_is); (case l29 => k_is); (case c29 => k_is); (case k29 => k_is); (case a30 => k_is); (case l30 => k_is); (case c30 => k_is); (case k30 => k_is); (case a31 => k_is); (case l31 => k_is); (case c31 => k_is); (case k31 => k_is); (case a32 => k_is); (case l32 => k_is); (case c32 => k_is); (case k32 => k_is); (case a33 => k_is); (case l33 => k_is); (case c33 => k_is); (case k33 => k_is); (case z0 => k_is); (case z1 => k_is); (case z2 => k_is); (case z3 => k_is); (case z4 => k_is); (case z5 => k_is); (case z6 => k_is); (case z7 => k_is); (case z8 => k_is); (case z9 => k_is); (case z10 => k_is); (case z11 => k_is); (case z12 => k_is); (case z13 => k_is); (case z14 => k_is); (case z15 => k_is); (case z16 => k_is); (case z17 => k_is); (case z18 => k_is); (case z19 => k_is); (case G_ITEMS => (refine' DL.DctT.mk' (PySem.W.mg_of KX G ?y) ?l ?k ?al; (case y => k_is); (case l => k_is); (case k => k_keys); (case al => ((refine' DL.AllT.cons' ?i0 ?e0 ?r0; (case i0 => k_is); (case e0 => (refine' DL.TupT.mk' ?lk ?oc ?on ?od ?sz ?vs; (case lk => k_is); (case oc => rfl); (case on => rfl); (case od => rfl); (case sz => decide); (case vs => exact ⟨rfl, rfl, True.intro⟩)))); (refine' DL.AllT.cons' ?i1 ?e1 ?r1; (case i1 => k_is); (case e1 => (refine' DL.TupT.mk' ?lk ?oc ?on ?od ?sz ?vs; (case lk => k_is); (case oc => rfl); (case on => rfl); (case od => rfl); (case sz => decide); (case vs => exact ⟨rfl, rfl, True.intro⟩)))); (refine' DL.AllT.cons' ?i2 ?e2 ?r2; (case i2 => k_is); (case e2 => (refine' DL.TupT.mk' ?lk ?oc ?on ?od ?sz ?vs; (case lk => k_is); (case oc => rfl); (case on => rfl); (case od => rfl); (case sz => decide); (case vs => exact ⟨rfl, rfl, True.intro⟩)))); (refine' DL.AllT.cons' ?i3 ?e3 ?r3; (case i3 => k_is); (case e3 => (refine' DL.TupT.mk' ?lk ?oc ?on ?od ?sz ?vs; (case lk => k_is); (case oc => rfl); (case on => rfl); (case od => rfl); (case sz => decide); (case vs => exact ⟨rfl, rfl, True.intro⟩)))); (refine' DL.AllT.cons' ?i4 ?e4 ?r4; (case i4 => k_is); (case e4 => (refine' DL.TupT.mk' ?lk ?oc ?on ?od ?sz ?vs; (case lk => k_is); (case oc => rfl); (case on => rfl); (case od => rfl); (case sz => decide); (case vs => exact ⟨rfl, rfl, True.intro⟩)))); (refine' DL.AllT.cons' ?i5 ?e5 ?r5; (case i5 => k_is); (case e5 => (refine' DL.TupT.mk' ?lk ?oc ?on ?od ?sz ?vs; (case lk => k_is); (case oc => rfl); (case on => rfl); (case od => rfl); (case sz => decide); (case vs => exact ⟨rfl, rfl, rfl, rfl, True.intro⟩)))); (refine' DL.AllT.cons' ?i6 ?e6 ?r6; (case i6 => k_is); (case e6 => (refine' DL.TupT.mk' ?lk ?oc ?on ?od ?sz ?vs; (case lk => k_is); (case oc => rfl); (case on => rfl); (case od => rfl); (case sz => decide); (case vs => exact ⟨rfl, rfl, True.intro⟩)))); (refine' DL.AllT.cons' ?i7 ?e7 ?r7; (case i7 => k_is); (case e7 => (refine' DL.TupT.mk' ?lk ?oc ?on ?od ?sz ?vs; (case lk => k_is); (case oc => rfl); (case on => rfl); (case od => rfl); (case sz => decide); (case vs => exact ⟨rfl, rfl, True.intro⟩)))); (refine' DL.AllT.cons' ?i8 ?e8 ?r8; (case i8 => k_is); (case e8 => (refine' DL.TupT.mk' ?lk ?oc ?on ?od ?sz ?vs; (case lk => k_is); (case oc => rfl); (case on => rfl); (case od => rfl); (case sz => decide); (case vs => exact ⟨rfl, rfl, True.intro⟩)))); (refine' DL.AllT.cons' ?i9 ?e9 ?r9; (case i9 => k_is); (case e9 => (refine' DL.TupT.mk' ?lk ?oc ?on ?od ?sz ?vs; (case lk => k_is); (case oc => rfl); (case on => rfl); (case od => rfl); (case sz => decide); (case vs => exact ⟨rfl, rfl, True.intro⟩)))); (refine' DL.AllT.cons' ?i10 ?e10 ?r10; (case i10 => k_is); (case e10 => (refine' DL.TupT.mk' ?lk ?oc ?on ?od ?sz ?vs; (case lk => k_is); (case oc => rfl); (case on => rfl); (case od => rfl); (case sz => decide); (case vs => exact ⟨rfl, rfl, True.intro⟩)))); (refine' DL.AllT.cons' ?i11 ?e11 ?r11; (case i11 => k_is); (case e11 => (refine' DL.TupT.mk' ?lk ?oc ?on ?od ?sz ?vs; (case lk => k_is); (case oc => rfl); (case on => rfl); (case od => rfl); (case sz => decide); (case vs => exact ⟨rfl, rfl, True.intro⟩)))); (refine' DL.AllT.cons' ?i12 ?e12 ?r12; (case i12 => k_is); (case e12 => (refine' DL.TupT.mk' ?lk ?oc ?on ?od ?sz ?vs; (case lk => k_is); (case oc => rfl); (case on => rfl); (case od => rfl); (case sz => decide); (case vs => exact ⟨rfl, rfl, True.intro⟩)))); (refine' DL.AllT.cons' ?i13 ?e13 ?r13; (case i13 => k_is); (case e13 => (refine' DL.TupT.mk' ?lk ?oc ?on ?od ?sz ?vs; (case lk => k_is); (case oc => rfl); (case on => rfl); (case od => rfl); (case sz => decide); (case vs => exact ⟨rfl, rfl, True.intro⟩)))); (refine' DL.AllT.cons' ?i14 ?e14 ?r14; (case i14 => k_is); (case e14 => (refine' DL.TupT.mk' ?lk ?oc ?on ?od ?sz ?vs; (case lk => k_is); (case oc => rfl); (case on => rfl); (case od => rfl); (case sz => decide); (case vs => exact ⟨rfl, rfl, True.intro⟩)))); (refine' DL.AllT.cons' ?i15 ?e15 ?r15; (case i15 => k_is); (case e15 => (refine' DL.TupT.mk' ?lk ?oc ?on ?od ?sz ?vs; (case lk => k_is); (case oc => rfl); (case on => rfl); (case od => rfl); (case sz => decide); (case vs => exact ⟨rfl, rfl, rfl, True.intro⟩)))); (refine' DL.AllT.cons' ?i16 ?e16 ?r16; (case i16 => k_is); (case e16 => (refine' DL.TupT.mk' ?lk ?oc ?on ?od ?sz ?vs; (case lk => k_is); (case oc => rfl); (case on => rfl); (case od => rfl); (case sz => decide); (case vs => exact ⟨rfl, rfl, rfl, rfl, True.intro⟩)))); (refine' DL.AllT.cons' ?i17 ?e17 ?r17; (case i17 => k_is); (case e17 => (refine' DL.TupT.mk' ?lk ?oc ?on ?od ?sz ?vs; (case lk => k_is); (case oc => rfl); (case on => rfl); (case od => rfl); (case sz => decide); (case vs => exact ⟨rfl, rfl, rfl, rfl, True.intro⟩)))); (refine' DL.AllT.cons' ?i18 ?e18 ?r18; (case i18 => k_is); (case e18 => (refine' DL.TupT.mk' ?lk ?oc ?on ?od ?sz ?vs; (case lk => k_is); (case oc => rfl); (case on => rfl); (case od => rfl); (case sz => decide); (case vs => exact ⟨rfl, rfl, rfl, rfl, True.intro⟩)))); (refine' DL.AllT.cons' ?i19 ?e19 ?r19; (case i19 => k_is); (case e19 => (refine' DL.TupT.mk' ?lk ?oc ?on ?od ?sz ?vs; (case lk => k_is); (case oc => rfl); (case on => rfl); (case od => rfl); (case sz => decide); (case vs => exact ⟨rfl, rfl, rfl, True.intro⟩)))); (refine' DL.AllT.cons' ?i20 ?e20 ?r20; (case i20 => k_is); (case e20 => (refine' DL.TupT.mk' ?lk ?oc ?on ?od ?sz ?vs; (case lk => k_is); (case oc => rfl); (case on => rfl); (case od => rfl); (case sz => decide); (case vs => exact ⟨rfl, rfl, rfl, True.intro⟩)))); exact True.intro))))